/- A burst within a payload changes the checksum that its frame is opened with: plain mathematics. No condition. -/
import Derived.Test.YtppgaddjjlcfcaaBd
import Derived.Test.YtppgaddjjlcfcaaDm
set_option linter.unusedSimpArgs false
set_option linter.unusedVariables false
namespace Go.Proofs.Ytppgaddjjlcfcaa.Mt
open Go
theorem xor_mul2 (a b i : Nat) : (a ^^^ b) * 2 ^ i = a * 2 ^ i ^^^ b * 2 ^ i := by
  apply Nat.eq_of_testBit_eq
  intro j
  rw [Nat.testBit_xor, Nat.testBit_mul_two_pow, Nat.testBit_mul_two_pow, Nat.testBit_mul_two_pow, Nat.testBit_xor]
  by_cases h : i ≤ j <;> simp [h]
theorem low_pow {a i : Nat} (h : a < 2 ^ i) : a + 2 ^ i = a ^^^ 2 ^ i := by
  have h1 := Nat.two_pow_add_eq_or_of_lt (i := i) (b := a) h 1
  rw [Nat.mul_one] at h1
  have h2 : 2 ^ i ||| a = a ^^^ 2 ^ i := by
    apply Nat.eq_of_testBit_eq
    intro j
    rw [Nat.testBit_or, Nat.testBit_xor, Nat.testBit_two_pow]
    by_cases hj : i = j
    · subst hj
      have : a.testBit i = false := Nat.testBit_lt_two_pow h
      rw [this]
      simp
    · have : decide (i = j) = false := decide_eq_false hj
      rw [this]
      simp
  rw [← h2, ← h1]
  omega
theorem iat_set_self {l : List Int} {i : Nat} {v : Int} (h : i < l.length) : iat (l.set i v) i = v := by simp [iat, h]
theorem iat_set_ne {l : List Int} {i j : Nat} {v : Int} (h : i ≠ j) : iat (l.set i v) j = iat l j := by simp [iat, List.getElem?_set_ne h]
theorem iat_byte {l : List Int} (h : ∀ x ∈ l, 0 ≤ x ∧ x ≤ 255) (i : Nat) : 0 ≤ iat l i ∧ iat l i ≤ 255 := Wk.u8_r (iat_wf h i)
theorem nm_congr {zs ys : List Int} : ∀ d k, (∀ j, k ≤ j → j < k + d → iat ys j = iat zs j) → nm ys k d = nm zs k d := by
  intro d
  induction d with
  | zero => intro k _; rfl
  | succ d ih => intro k h; rw [nm, nm, h k (by omega) (by omega), ih (k + 1) (fun j h1 h2 => h j (by omega) (by omega))]
theorem nm_flip {zs ys : List Int} {p b : Nat} (hz : ∀ k, 0 ≤ iat zs k ∧ iat zs k ≤ 255) (hb : b < 8) (he : (iat ys p).toNat = (iat zs p).toNat ^^^ 2 ^ b) (hy : ∀ j, j ≠ p → iat ys j = iat zs j) : ∀ d k, k ≤ p → p < k + d → nm ys k d = nm zs k d ^^^ 2 ^ (8 * (p - k) + b) := by
  intro d
  induction d with
  | zero => intro k h1 h2; omega
  | succ d ih =>
    intro k h1 h2
    have hzk := hz k
    by_cases hpk : p = k
    · subst hpk
      have hc := nm_congr (zs := zs) (ys := ys) d (p + 1) (fun j h3 h4 => hy j (by omega))
      have hb8 : (2 : Nat) ^ b < 256 := Nat.lt_of_lt_of_le (Nat.pow_lt_pow_right (by decide) hb) (by decide)
      have hlt : (iat zs p).toNat ^^^ 2 ^ b < 256 := Nat.xor_lt_two_pow (n := 8) (by omega) hb8
      rw [nm, nm, he, hc, low_xor hlt, low_xor (by omega), Nat.sub_self, Nat.mul_zero, Nat.zero_add, Nat.xor_assoc, Nat.xor_comm (2 ^ b), ← Nat.xor_assoc]
    · have hi := ih (k + 1) (by omega) (by omega)
      rw [nm, nm, hy k (fun h => hpk h.symm), hi, low_xor (by omega), low_xor (by omega), xor_mul2, ← Nat.xor_assoc, ← Nat.pow_add]
      congr 2
      omega
theorem mask_one {M i : Nat} (h : M / 2 ^ i % 2 = 1) : M % 2 ^ (i + 1) = M % 2 ^ i ^^^ 2 ^ i := by
  rw [Nat.mod_pow_succ, h, Nat.mul_one]
  exact low_pow (Nat.mod_lt _ (Nat.two_pow_pos i))
theorem mask_zero {M i : Nat} (h : M / 2 ^ i % 2 = 0) : M % 2 ^ (i + 1) = M % 2 ^ i := by
  rw [Nat.mod_pow_succ, h, Nat.mul_zero, Nat.add_zero]
/-- what the loop keeps: the frame but for the first i bits of the mask -/
structure Fl (zs ys : List Int) (n fm m f M i : Nat) : Prop where
  len : ys.length = n
  byte : ∀ k, 0 ≤ iat ys k ∧ iat ys k ≤ 255
  out : ∀ j, j < fm ∨ fm + m ≤ j → iat ys j = iat zs j
  num : nm ys 0 (fm + m) = nm zs 0 (fm + m) ^^^ (M % 2 ^ i) * 2 ^ (8 * fm + f)
theorem Fl.skip {zs ys : List Int} {n fm m f M i : Nat} (h : Fl zs ys n fm m f M i) (hb : M / 2 ^ i % 2 = 0) : Fl zs ys n fm m f M (i + 1) := ⟨h.len, h.byte, h.out, by rw [mask_zero hb]; exact h.num⟩
theorem Fl.flip {zs ys : List Int} {n fm m f M i p b : Nat} {v : Int} (h : Fl zs ys n fm m f M i) (hb : M / 2 ^ i % 2 = 1) (hp : p = fm + (f + i) / 8) (hpb : b = (f + i) % 8) (hfi : f + i < 8 * m) (hn : fm + m ≤ n) (hv : v = (((iat ys p).toNat ^^^ 2 ^ b : Nat) : Int)) : Fl zs (ys.set p v) n fm m f M (i + 1) := by
  have hpn : p < ys.length := by rw [h.len]; omega
  have hb8 : b < 8 := by omega
  have hb256 : (2 : Nat) ^ b < 256 := Nat.lt_of_lt_of_le (Nat.pow_lt_pow_right (by decide) hb8) (by decide)
  have hyp := h.byte p
  have hlt : (iat ys p).toNat ^^^ 2 ^ b < 256 := Nat.xor_lt_two_pow (n := 8) (by omega) hb256
  have hfl := nm_flip (zs := ys) (ys := ys.set p v) (p := p) h.byte hb8 (by rw [iat_set_self hpn, hv, Int.toNat_natCast]) (fun j hj => iat_set_ne (fun h => hj h.symm)) (fm + m) 0 (by omega) (by omega)
  refine ⟨by rw [List.length_set]; exact h.len, fun k => ?_, fun j hj => ?_, ?_⟩
  · by_cases hk : p = k
    · subst hk; rw [iat_set_self hpn, hv]; omega
    · rw [iat_set_ne hk]; exact h.byte k
  · rw [iat_set_ne (by omega)]; exact h.out j hj
  · rw [hfl, h.num, mask_one hb, xor_mul2, ← Nat.xor_assoc, ← Nat.pow_add]
    congr 2
    omega
theorem damage_fr {ps ys : List Int} {k : Int} {n fm m f M : Nat} (hps : ps.length = m) (hm : m ≤ 65536) (hin : ∀ x ∈ ps, 0 ≤ x ∧ x ≤ 255) (hfm : fm = 1 + (enc (zz (m : Int))).length) (hn : n = fm + m + 4) (hM : M ≠ 0) (hM2 : M < 4294967296) (hf : f ≤ 8 * m) (h : Fl (fr k ps) ys n fm m f M 32) : frE ys n (0 : Int) = 8 := by
  have hl4 : (s4 (crc (fb k ps))).length = 4 := rfl
  have hfb : (fb k ps).length = fm + m := by unfold fb; rw [List.length_append, List.length_append, hps, hfm]; rfl
  have hlen := h.len
  have hPl : (sub ys fm m).length = m := sub_len (by omega)
  have hT : At ys 1 (enc (zz ((sub ys fm m).length : Int)) ++ sub ys fm m) := by
    rw [hPl]
    intro i hi
    by_cases h1 : i < (enc (zz (m : Int))).length
    · rw [iat_left h1, h.out _ (by omega)]
      unfold fr
      rw [iat_left (by omega), fb_eq, hps]
      rw [show 1 + i = [k % 256].length + i from rfl, iat_right, iat_left h1]
    · obtain ⟨j, rfl⟩ : ∃ j, i = (enc (zz (m : Int))).length + j := ⟨i - (enc (zz (m : Int))).length, by omega⟩
      rw [List.length_append, hPl] at hi
      rw [iat_right, sub_at (by omega)]
      congr 1
      omega
  have hl : (enc (zz ((sub ys fm m).length : Int)) ++ sub ys fm m).length = (enc (zz (m : Int))).length + m := by rw [List.length_append, hPl]
  obtain ⟨e1, e2, e3⟩ := te_enc (by rw [hPl]; exact hm) hT (n := n) (by rw [hl]; omega) hlen.symm
  rw [hl, show 1 + ((enc (zz (m : Int))).length + m) = fm + m by omega] at e3
  have hs : At ys (fm + m) (s4 (crc (fb k ps))) := by
    intro i hi
    rw [h.out _ (by omega)]
    unfold fr
    rw [← hfb, iat_right]
  have hbe := be_s4 (crc_lt (Wk.fb_in hin)) hs
  have hsub : (sub ys 0 (fm + m)).length = fm + m := sub_len (by omega)
  have hne := crc_ne (zs := fb k ps) (ys := sub ys 0 (fm + m)) (n := fm + m) (f := 8 * fm + f) (m := M) (iat_byte (Wk.fb_in hin)) (fun j => by
    by_cases hj : j < fm + m
    · rw [sub_at hj]; exact h.byte _
    · have : iat (sub ys 0 (fm + m)) j = 0 := by
        unfold iat
        rw [List.getD_eq_getElem?_getD, List.getElem?_eq_none (by omega)]
        rfl
      rw [this]; exact ⟨by decide, by decide⟩) hfb hsub hM hM2 (by omega) (by
    have n1 := nm_congr (zs := ys) (ys := sub ys 0 (fm + m)) (fm + m) 0 (fun j h1 h2 => by rw [sub_at (by omega), Nat.zero_add])
    have n2 := nm_congr (zs := fr k ps) (ys := fb k ps) (fm + m) 0 (fun j h1 h2 => by unfold fr; rw [iat_left (by omega)])
    rw [n1, n2, h.num, show M % 2 ^ 32 = M from Nat.mod_eq_of_lt hM2])
  exact fr_sum (a := 0) (x := fm + m) (by omega) e1 e3 (by omega) (by rw [hbe, Nat.sub_zero]; exact fun h => hne h.symm)
end Go.Proofs.Ytppgaddjjlcfcaa.Mt
