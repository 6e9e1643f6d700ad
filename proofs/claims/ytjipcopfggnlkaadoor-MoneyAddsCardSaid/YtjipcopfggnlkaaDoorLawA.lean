/- The law of sums, walked. Conditions: the arguments read as numbers; the table reads as it is laid. -/
import Derived.Test.YtjipcopfggnlkaaDoorOp
set_option linter.unusedSimpArgs false
set_option linter.unusedVariables false
namespace Go.Proofs.YtjipcopfggnlkaaDoor.Wk
open Go.RowKit
open Go.Proofs.YtjipcopfggnlkaaDoor.Mt
set_option maxHeartbeats 4000000 in
set_option maxRecDepth 100000 in
theorem adds_law (a b : Int) (A : Option Addr) (n c : Nat) (zs : List Int) (w : World) (ha : In64 a) (hb : In64 b) (h : Sl w A n c zs) (ht : Tb w) : Calls Tryd.prog 3 #[.int .i64 a, .int .i64 b, .slice A n c] w fun e w' => e = .returned (.bool true) ∧ Below w.heap.size w w' := by
  have HT := Lib.hid ht
  have HZ := Lib.hid h.rk
  have hn9 := h.rk.2.1
  obtain ⟨V, hV⟩ : ∃ V, toV [a, b] = V := ⟨_, rfl⟩
  obtain ⟨E, hE⟩ : ∃ E, toE [a, b] = E := ⟨_, rfl⟩
  obtain ⟨V2, hV2⟩ : ∃ V, smV zs = V := ⟨_, rfl⟩
  obtain ⟨E2, hE2⟩ : ∃ E, smE zs = E := ⟨_, rfl⟩
  have HV := Lib.hid hV
  have HE := Lib.hid hE
  have HV2 := Lib.hid hV2
  have HE2 := Lib.hid hE2
  have e1 : (V == V) = true := by simp
  have e2 : (E == E) = true := by simp
  have e3 : (V2 == V2) = true := by simp
  have e4 : (E2 == E2) = true := by simp
  clear h ht hV hE hV2 hE2
  by_cases hbig : 2000 < n
  · have d1 : decide ((2000 : Int) < (n : Int)) = true := decide_eq_true (by omega)
    go_enter Tryd.func3, Tryd.ntmps3
    go_wp2_with fail
    refine (awake11 w HT.out).mono ?_
    rintro e w1 ⟨rfl, hb⟩
    have HB := Lib.hid hb
    clear hb
    go_wp2_with fail
    go_ret
    exact ⟨rfl, HB.out⟩
  · have d1 : decide ((2000 : Int) < (n : Int)) = false := decide_eq_false (by omega)
    go_enter Tryd.func3, Tryd.ntmps3
    go_wp2_with fail
    refine (add12 a b w ha hb).mono ?_
    rintro e w1 ⟨rfl, hb1⟩
    rw [HV.out, HE.out]
    have HB := Lib.hid hb1
    replace HZ := Lib.hid (HZ.out.up hb1)
    clear hb1 d1
    go_wp2_with fail
    refine (add13 a b w1 ha hb).mono ?_
    rintro e w2 ⟨rfl, hw⟩
    rw [hw, HV.out, HE.out]
    clear hw
    go_wp2_with fail
    refine (sum14 A n c zs w1 HZ.out).mono ?_
    rintro e w2 ⟨rfl, hw⟩
    rw [hw, HV2.out, HE2.out]
    clear hw
    go_wp2_with fail
    refine (sum15 A n c zs w1 HZ.out).mono ?_
    rintro e w2 ⟨rfl, hb2⟩
    rw [HV2.out, HE2.out]
    replace HB := Lib.hid (upB HB.out hb2)
    clear hb2
    go_wp2_with fail
    refine (fits16 a w2).mono ?_
    rintro e w3 ⟨rfl, hw⟩
    rw [hw]
    clear hw
    go_wp2_with fail
    refine (fits17 a w2).mono ?_
    rintro e w3 ⟨rfl, hw⟩
    rw [hw]
    clear hw
    have e5 : (fitB a == fitB a) = true := by simp
    go_wp2_with fail
    refine (awake11 w2 (HT.out.next HB.out)).mono ?_
    rintro e w3 ⟨rfl, hb3⟩
    replace HB := Lib.hid (upB HB.out hb3)
    clear hb3
    go_wp2_with fail
    go_ret
    exact ⟨rfl, HB.out⟩
end Go.Proofs.YtjipcopfggnlkaaDoor.Wk
