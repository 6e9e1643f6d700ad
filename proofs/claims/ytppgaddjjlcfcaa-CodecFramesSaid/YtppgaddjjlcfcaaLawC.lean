/- The law of frames, walked. Conditions: the slices read as bytes. -/
import Derived.Test.YtppgaddjjlcfcaaPr
set_option linter.unusedSimpArgs false
set_option linter.unusedVariables false
namespace Go.Proofs.Ytppgaddjjlcfcaa.Wk
open Go.RowKit
open Go.Proofs.Ytppgaddjjlcfcaa.Mt
set_option maxHeartbeats 4000000 in
set_option maxRecDepth 100000 in
theorem frames_law (A : Option Addr) (n c : Nat) (zs : List Int) (k : Int) (A' : Option Addr) (m c' : Nat) (ps : List Int) (w : World) (h : Sl w A n c zs) (hp : Sl w A' m c' ps) : Calls Try.prog 6 #[.slice A n c, .int .i64 k, .slice A' m c'] w fun e w' => e = .returned (.bool true) ∧ Below w.heap.size w w' := by
  have HS := Lib.hid h
  have HP := Lib.hid hp
  have HB := Lib.hid (Below.refl w.heap.size w)
  have hn9 := h.rk.2.1
  have hm9 := hp.rk.2.1
  have HFI : Hid (∀ x ∈ zs ++ fr k ps, 0 ≤ x ∧ x ≤ 255) := Lib.hid (app_in (rk_in h.rk) (app_in (fb_in (rk_in hp.rk)) (s4_in _)))
  obtain ⟨lx, hlx⟩ : ∃ l, (zs ++ fr k ps).length = l := ⟨_, rfl⟩
  have HLX := Lib.hid hlx
  obtain ⟨cr, hcr⟩ : ∃ x, ((crc ps : Nat) : Int) = x := ⟨_, rfl⟩
  have HCR := Lib.hid hcr
  have e1 : (cr == cr) = true := by simp
  have hzl := h.rk.1
  have hpl := hp.rk.1
  clear h hp hcr
  by_cases hbig : 2000 < n
  · have hb1 : decide ((2000 : Int) < (n : Int)) = true := decide_eq_true (by omega)
    go_enter Try.func6, Try.ntmps6
    go_wp2_with fail
    go_ret
    exact ⟨rfl, Below.refl _ _⟩
  · have hb1 : decide ((2000 : Int) < (n : Int)) = false := decide_eq_false (by omega)
    by_cases hbg : 2000 < m
    · have hb2 : decide ((2000 : Int) < (m : Int)) = true := decide_eq_true (by omega)
      go_enter Try.func6, Try.ntmps6
      go_wp2_with fail
      go_ret
      exact ⟨rfl, Below.refl _ _⟩
    · have hb2 : decide ((2000 : Int) < (m : Int)) = false := decide_eq_false (by omega)
      have HLB : Hid (lx ≤ 1000000) := Lib.hid (by
        rw [← hlx]
        unfold fr
        rw [List.length_append, List.length_append]
        have h1 := fb_len (k := k) (ps := ps) (by omega)
        have h2 : (s4 (crc (fb k ps))).length = 4 := rfl
        omega)
      clear hlx hzl hpl
      go_enter Try.func6, Try.ntmps6
      go_wp2_with fail
      clear hb1 hb2
      refine (putFrame22 A n c zs k A' m c' ps w HS.out HP.out (by omega) (by omega)).mono ?_
      rintro e w1 ⟨v, rfl, ho, hb⟩
      obtain ⟨A1, c1, rfl, hs⟩ := ho.sl (by rw [HLX.out]; exact HLB.out) HFI.out
      rw [HLX.out] at hs ⊢
      have HX := Lib.hid hs
      replace HB := Lib.hid (upB HB.out hb)
      replace HS := Lib.hid (HS.out.up hb)
      replace HP := Lib.hid (HP.out.up hb)
      clear ho hb hs
      go_wp2_with fail
      refine (putFrame23 A n c zs k A' m c' ps w1 HS.out HP.out (by omega) (by omega)).mono ?_
      rintro e w2 ⟨v, rfl, ho, hb⟩
      obtain ⟨A2, c2, rfl, hs⟩ := ho.sl (by rw [HLX.out]; exact HLB.out) HFI.out
      rw [HLX.out] at hs ⊢
      have HY := Lib.hid hs
      replace HB := Lib.hid (upB HB.out hb)
      replace HP := Lib.hid (HP.out.up hb)
      replace HX := Lib.hid (HX.out.up hb)
      clear ho hb hs
      go_wp2_with fail
      refine (same14 A1 A2 lx c1 c2 _ _ HX.out.rk HY.out.rk).mono ?_
      rintro e w3 ⟨rfl, hb⟩
      replace HB := Lib.hid (upB HB.out hb)
      replace HP := Lib.hid (HP.out.up hb)
      clear hb HX HY
      go_wp2_with fail
      refine (sum24 A' m c' ps w3 HP.out.rk (by omega)).mono ?_
      rintro e w4 ⟨rfl, hb⟩
      rw [HCR.out]
      replace HB := Lib.hid (upB HB.out hb)
      replace HP := Lib.hid (HP.out.up hb)
      clear hb
      go_wp2_with fail
      refine (sum25 A' m c' ps w4 HP.out.rk (by omega)).mono ?_
      rintro e w5 ⟨rfl, hb⟩
      rw [HCR.out]
      replace HB := Lib.hid (upB HB.out hb)
      clear hb
      go_wp2_with fail
      refine (alive17 _).mono ?_
      rintro e w6 ⟨rfl, hb⟩
      replace HB := Lib.hid (upB HB.out hb)
      clear hb
      go_wp2_with fail
      go_ret
      exact ⟨rfl, HB.out⟩
end Go.Proofs.Ytppgaddjjlcfcaa.Wk
