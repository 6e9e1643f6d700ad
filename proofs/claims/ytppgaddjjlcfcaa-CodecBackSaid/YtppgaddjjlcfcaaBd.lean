/- Frames are decoded as they are encoded, and back: plain mathematics. No condition. -/
import Derived.Test.YtppgaddjjlcfcaaBc
import Derived.Test.YtppgaddjjlcfcaaPf
set_option linter.unusedSimpArgs false
set_option linter.unusedVariables false
namespace Go.Proofs.Ytppgaddjjlcfcaa.Mt
open Go
theorem be_four (zs : List Int) (a : Nat) : be zs a 4 = (((iat zs a).toNat * 256 + (iat zs (a + 1)).toNat) * 256 + (iat zs (a + 2)).toNat) * 256 + (iat zs (a + 3)).toNat := by
  simp only [be, Nat.add_zero, Nat.zero_mul, Nat.zero_add]
theorem be_s4 {zs : List Int} {a x : Nat} (hx : x < 4294967296) (h : At zs a (s4 x)) : be zs a 4 = x := by
  have h0 := h 0 (show 0 < 4 by decide)
  have h1 := h 1 (show 1 < 4 by decide)
  have h2 := h 2 (show 2 < 4 by decide)
  have h3 := h 3 (show 3 < 4 by decide)
  rw [be_four]
  rw [Nat.add_zero] at h0
  rw [h0, h1, h2, h3]
  simp only [s4, iat_zero, iat_succ, Int.toNat_natCast]
  show (((iat (s4 x) 0).toNat * 256 + _) * 256 + _) * 256 + _ = x
  simp only [s4, iat, List.getD_cons_zero, List.getD_cons_succ, Int.toNat_natCast]
  omega
theorem s4_be {zs : List Int} (hz : ∀ k, 0 ≤ iat zs k ∧ iat zs k ≤ 255) {a : Nat} (h : a + 4 ≤ zs.length) : s4 (be zs a 4) = sub zs a 4 := by
  have h0 := hz a
  have h1 := hz (a + 1)
  have h2 := hz (a + 2)
  have h3 := hz (a + 3)
  have e := be_four zs a
  symm
  refine sub_of_at (zs := zs) (ys := s4 (be zs a 4)) (a := a) ?_ (by simpa [s4] using h)
  intro i hi
  have hi4 : i < 4 := by simpa [s4] using hi
  obtain rfl | rfl | rfl | rfl : i = 0 ∨ i = 1 ∨ i = 2 ∨ i = 3 := by omega
  all_goals
    simp only [s4, iat, List.getD_cons_zero, List.getD_cons_succ, Nat.add_zero] at *
    omega
theorem fb_eq (k : Int) (ps : List Int) : fb k ps = [k % 256] ++ (enc (zz (ps.length : Int)) ++ ps) := by unfold fb; rw [List.append_assoc]
theorem cast1 (a : Nat) : ((a + 1 : Nat) : Int) = (a : Int) + 1 := by omega
theorem fr_enc {zs ps : List Int} {n a : Nat} {k : Int} (hps : ps.length ≤ 65536) (hin : ∀ x ∈ ps, 0 ≤ x ∧ x ≤ 255) (h : At zs a (fr k ps)) (hn : a + (fr k ps).length ≤ n) (hz : n = zs.length) : frE zs n (a : Int) = 0 ∧ frK zs n (a : Int) = k % 256 ∧ frP zs n (a : Int) = ps ∧ frN zs n (a : Int) = ((a + (fr k ps).length : Nat) : Int) := by
  have hl4 : (s4 (crc (fb k ps))).length = 4 := rfl
  have hl := hn
  unfold fr at h hn hl ⊢
  rw [List.length_append, hl4] at hl
  have hb := h.left
  have hs := h.right
  have hb2 := hb
  rw [fb_eq] at hb2
  have h1 := hb2.left.hd
  have h2 := hb2.right
  rw [show [k % 256].length = 1 from rfl] at h2
  have hlf : (fb k ps).length = 1 + (enc (zz (ps.length : Int)) ++ ps).length := by rw [fb_eq, List.length_append]; rfl
  obtain ⟨e1, e2, e3⟩ := te_enc hps h2 (n := n) (by omega) hz
  rw [cast1] at e1 e2 e3
  rw [show a + 1 + (enc (zz (ps.length : Int)) ++ ps).length = a + (fb k ps).length by omega] at e3
  have hsub : sub zs a (a + (fb k ps).length - a) = fb k ps := by rw [Nat.add_sub_cancel_left]; exact sub_of_at hb (by omega)
  obtain ⟨f1, f2, f3, f4⟩ := fr_ok (n := n) (a := a) (x := a + (fb k ps).length) (by omega) e1 e3 (by omega) (by rw [hsub]; exact be_s4 (crc_lt (Wk.fb_in hin)) hs)
  refine ⟨f1, by rw [f2, h1], by rw [f3, e2], ?_⟩
  rw [f4, List.length_append, hl4]
  omega
theorem fr_part {zs ps : List Int} {n a : Nat} {k : Int} (hps : ps.length ≤ 65536) (han : a ≤ n) (h : ∀ i, a + i < n → i < (fr k ps).length → iat zs (a + i) = iat (fr k ps) i) (hn : n < a + (fr k ps).length) (hz : n = zs.length) : frE zs n (a : Int) = 7 := by
  have hl4 : (s4 (crc (fb k ps))).length = 4 := rfl
  have hll : (fr k ps).length = (fb k ps).length + 4 := by unfold fr; rw [List.length_append, hl4]
  have hlf : (fb k ps).length = 1 + (enc (zz (ps.length : Int)) ++ ps).length := by rw [fb_eq, List.length_append]; rfl
  by_cases h0 : a = n
  · subst h0; exact fr_end
  · have hT : ∀ i, a + 1 + i < n → i < (enc (zz (ps.length : Int)) ++ ps).length → iat zs (a + 1 + i) = iat (enc (zz (ps.length : Int)) ++ ps) i := by
      intro i hi h2
      have := h (1 + i) (by omega) (by omega)
      rw [show a + (1 + i) = a + 1 + i by omega] at this
      rw [this]
      unfold fr
      rw [iat_left (by omega), fb_eq]
      exact iat_right (a := [k % 256])
    by_cases h1 : n < a + 1 + (enc (zz (ps.length : Int)) ++ ps).length
    · have e := te_part hps (by omega) hT h1
      rw [cast1] at e
      rw [fr_text (by omega) (by rw [e]; decide), e]
    · obtain ⟨e1, e2, e3⟩ := te_enc hps (zs := zs) (n := n) (a := a + 1) (fun i hi => hT i (by omega) hi) (by omega) hz
      rw [cast1] at e1 e2 e3
      exact fr_short (by omega) e1 e3 (by omega)
theorem fr_again {zs : List Int} (hz : ∀ k, 0 ≤ iat zs k ∧ iat zs k ≤ 255) {n a : Nat} (hn : n = zs.length) (h : frE zs n (a : Int) = 0) : ∃ x : Nat, frN zs n (a : Int) = (x : Int) ∧ a < x ∧ x ≤ n ∧ fr (frK zs n (a : Int)) (frP zs n (a : Int)) = sub zs a (x - a) := by
  by_cases h1 : (a : Int) < 0 ∨ (n : Int) < (a : Int)
  · rw [fr_range h1] at h; cases h
  · by_cases h2 : a = n
    · subst h2; rw [fr_end] at h; cases h
    · have hlt : a < n := by omega
      by_cases h3 : teE zs n ((a : Int) + 1) = 0
      · rw [← cast1] at h3
        obtain ⟨x, hx, hax, hxn, he⟩ := te_again hz hn h3
        rw [cast1] at h3 hx he
        by_cases h4 : (n : Int) - (x : Int) < 4
        · rw [fr_short hlt h3 hx h4] at h; cases h
        · by_cases h5 : be zs x 4 = crc (sub zs a (x - a))
          · obtain ⟨f1, f2, f3, f4⟩ := fr_ok hlt h3 hx h4 h5
            have h0 := hz a
            have hfb : fb (frK zs n (a : Int)) (frP zs n (a : Int)) = sub zs a (x - a) := by
              have h6 := sub_of_at (zs := zs) (ys := [iat zs a]) (a := a) (fun i hi => by
                have : i = 0 := by simp at hi; omega
                subst this
                rfl) (by simp; omega)
              rw [show [iat zs a].length = 1 from rfl] at h6
              rw [fb_eq, f2, f3, he, show x - a = 1 + (x - (a + 1)) by omega, sub_split zs a 1, h6, show iat zs a % 256 = iat zs a by omega]
            refine ⟨x + 4, by rw [f4]; omega, by omega, by omega, ?_⟩
            unfold fr
            rw [hfb, ← h5, s4_be hz (by omega), show x + 4 - a = (x - a) + 4 by omega, sub_split zs a (x - a) 4, show a + (x - a) = x by omega]
          · rw [fr_sum hlt h3 hx h4 h5] at h; cases h
      · rw [fr_text hlt h3] at h; exact absurd h h3
end Go.Proofs.Ytppgaddjjlcfcaa.Mt
