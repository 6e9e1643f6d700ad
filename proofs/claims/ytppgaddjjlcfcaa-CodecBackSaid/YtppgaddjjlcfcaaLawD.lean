/- The law of opening frames, walked. Conditions: the slice reads as bytes. -/
import Derived.Test.YtppgaddjjlcfcaaIs
import Derived.Test.YtppgaddjjlcfcaaAl
set_option linter.unusedSimpArgs false
set_option linter.unusedVariables false
namespace Go.Proofs.Ytppgaddjjlcfcaa.Wk
open Go.RowKit
open Go.Proofs.Ytppgaddjjlcfcaa.Mt
theorem frP_in {zs : List Int} (h : ∀ k, 0 ≤ iat zs k ∧ iat zs k ≤ 255) (n : Nat) (t : Int) : ∀ x ∈ frP zs n t, 0 ≤ x ∧ x ≤ 255 := by
  unfold frP
  split
  · exact teL_in h n _
  · intro x hx; cases hx
set_option maxHeartbeats 4000000 in
set_option maxRecDepth 100000 in
theorem opens_law (A : Option Addr) (n c : Nat) (zs : List Int) (t : Int) (w : World) (h : Sl w A n c zs) (ht : -9223372036854775808 ≤ t ∧ t ≤ 9223372036854775807) : Calls Try.prog 7 #[.slice A n c, .int .i64 t] w fun e w' => e = .returned (.bool true) ∧ Below w.heap.size w w' := by
  have HS := Lib.hid h
  have HB := Lib.hid (Below.refl w.heap.size w)
  have hn9 := h.rk.2.1
  have hb8 : ∀ k, 0 ≤ iat zs k ∧ iat zs k ≤ 255 := fun k => u8_r (h.rk.2.2.2 k)
  have HPI0 := frP_in hb8 n t
  have HPL0 := frP_len (zs := zs) (n := n) (t := t)
  obtain ⟨kk, hkk⟩ : ∃ x, frK zs n t = x := ⟨_, rfl⟩
  obtain ⟨P, hP⟩ : ∃ x, frP zs n t = x := ⟨_, rfl⟩
  obtain ⟨nx, hnx⟩ : ∃ x, frN zs n t = x := ⟨_, rfl⟩
  obtain ⟨er, her⟩ : ∃ x, frE zs n t = x := ⟨_, rfl⟩
  rw [hP] at HPI0 HPL0
  have HPI := Lib.hid HPI0
  have HKK := Lib.hid hkk
  have HP := Lib.hid hP
  have HNX := Lib.hid hnx
  have HER := Lib.hid her
  have e1 : (kk == kk) = true := by simp
  have e2 : (nx == nx) = true := by simp
  have e3 : (er == er) = true := by simp
  obtain ⟨lp, hlp⟩ : ∃ l, P.length = l := ⟨_, rfl⟩
  have HLP := Lib.hid hlp
  rw [hlp] at HPL0
  clear h hkk hP hnx her hb8 HPI0 hlp
  by_cases hbig : 2000 < n
  · have hb1 : decide ((2000 : Int) < (n : Int)) = true := decide_eq_true (by omega)
    go_enter Try.func7, Try.ntmps7
    go_wp2_with fail
    go_ret
    exact ⟨rfl, Below.refl _ _⟩
  · have hb1 : decide ((2000 : Int) < (n : Int)) = false := decide_eq_false (by omega)
    go_enter Try.func7, Try.ntmps7
    go_wp2_with fail
    clear hb1
    refine (frame26 A n c t zs w HS.out.rk (by omega) HS.out.le HS.out.cap).mono ?_
    rintro e w1 ⟨v, rfl, ho, hb⟩
    rw [HP.out] at ho
    rw [HKK.out, HNX.out, HER.out]
    obtain ⟨A1, c1, rfl, hs⟩ := ho.sl (by rw [HLP.out]; omega) HPI.out
    rw [HLP.out] at hs ⊢
    have HX := Lib.hid hs
    replace HB := Lib.hid (upB HB.out hb)
    replace HS := Lib.hid (HS.out.up hb)
    clear ho hb hs
    go_wp2_with fail
    refine (frame27 A n c t zs w1 HS.out.rk ht (by omega) HS.out.le HS.out.cap).mono ?_
    rintro e w2 ⟨A2, c2, rfl, hr, hb⟩
    rw [HP.out] at hr
    rw [HKK.out, HNX.out, HER.out, HP.out]
    rw [HLP.out] at hr ⊢
    have HY := Lib.hid hr
    replace HB := Lib.hid (upB HB.out hb)
    replace HS := Lib.hid (HS.out.up hb)
    replace HX := Lib.hid (HX.out.up hb)
    clear hb hr
    go_wp2_with fail
    refine (intact28 A n c zs w2 HS.out.rk (by omega) HS.out.le HS.out.cap).mono ?_
    rintro e w3 ⟨k, rfl, hf, hne, hb⟩
    have HF := Lib.hid hf
    have HNE := Lib.hid hne
    replace HB := Lib.hid (upB HB.out hb)
    replace HS := Lib.hid (HS.out.up hb)
    replace HX := Lib.hid (HX.out.up hb)
    replace HY := Lib.hid (HY.out.up hb)
    clear hb hf hne
    obtain ⟨q, hq⟩ : ∃ x, sq zs n k = x := ⟨_, rfl⟩
    have HQ := Lib.hid hq
    rw [hq]
    have e4 : ((k : Int) == (k : Int)) = true := by simp
    have e5 : ((q : Int) == (q : Int)) = true := by simp
    clear hq
    go_wp2_with fail
    refine (intact29 A n c zs w3 HS.out.rk (by omega) HS.out.le HS.out.cap).mono ?_
    rintro e w4 ⟨k2, rfl, hf, hne, hb⟩
    obtain rfl := HF.out.one HNE.out hf hne
    rw [HQ.out]
    replace HB := Lib.hid (upB HB.out hb)
    replace HX := Lib.hid (HX.out.up hb)
    replace HY := Lib.hid (HY.out.up hb)
    clear hb hf hne
    go_wp2_with fail
    refine (same14 A1 A2 lp c1 c2 _ _ HX.out.rk HY.out).mono ?_
    rintro e w5 ⟨rfl, hb⟩
    replace HB := Lib.hid (upB HB.out hb)
    clear hb HX HY
    go_wp2_with fail
    refine (alive17 _).mono ?_
    rintro e w6 ⟨rfl, hb⟩
    replace HB := Lib.hid (upB HB.out hb)
    clear hb
    go_wp2_with fail
    go_ret
    exact ⟨rfl, HB.out⟩
end Go.Proofs.Ytppgaddjjlcfcaa.Wk
