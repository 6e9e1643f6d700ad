/- The laws of numbers and of strings, walked. Conditions: the slice reads as bytes. -/
import Derived.Test.YtppgaddjjlcfcaaAl
set_option linter.unusedSimpArgs false
set_option linter.unusedVariables false
namespace Go.Proofs.Ytppgaddjjlcfcaa.Wk
open Go.RowKit
open Go.Proofs.Ytppgaddjjlcfcaa.Mt
set_option maxHeartbeats 2000000 in
set_option maxRecDepth 100000 in
theorem ints_law (A : Option Addr) (n c : Nat) (zs : List Int) (t : Int) (w : World) (h : Sl w A n c zs) (ht : -9223372036854775808 ≤ t ∧ t ≤ 9223372036854775807) : Calls Try.prog 4 #[.slice A n c, .int .i64 t] w fun e w' => e = .returned (.bool true) ∧ Below w.heap.size w w' := by
  have HS := Lib.hid h
  have HB := Lib.hid (Below.refl w.heap.size w)
  have hn9 := h.rk.2.1
  clear h
  by_cases hbig : 2000 < n
  · have hbI : (2000 : Int) < (n : Int) := by omega
    go_enter Try.func4, Try.ntmps4
    go_wp2_with fail
    go_ret
    exact ⟨rfl, Below.refl _ _⟩
  · have hbI : decide ((2000 : Int) < (n : Int)) = false := decide_eq_false (by omega)
    obtain ⟨x, y, z, HV⟩ : ∃ x y z, Hid (nuV zs n t = x ∧ nuN zs n t = y ∧ nuE zs n t = z) := ⟨_, _, _, Lib.hid ⟨rfl, rfl, rfl⟩⟩
    have e1 : (x == x) = true := by simp
    have e2 : (y == y) = true := by simp
    have e3 : (z == z) = true := by simp
    go_enter Try.func4, Try.ntmps4
    go_wp2_with fail
    clear hbI
    go_at_call 18
    refine (int18 A n c t zs _ HS.out.rk (by omega)).mono ?_
    rintro e w1 ⟨rfl, hb⟩
    rw [HV.out.1, HV.out.2.1, HV.out.2.2]
    replace HB := Lib.hid (upB HB.out hb)
    replace HS := Lib.hid (HS.out.up hb)
    clear hb
    go_wp2_with fail
    go_at_call 19
    refine (int19 A n c t zs _ HS.out.rk ht (by omega)).mono ?_
    rintro e w2 ⟨rfl, hb⟩
    rw [HV.out.1, HV.out.2.1, HV.out.2.2]
    replace HB := Lib.hid (upB HB.out hb)
    replace HS := Lib.hid (HS.out.up hb)
    clear hb
    go_wp2_with fail
    go_at_call 17
    refine (alive17 _).mono ?_
    rintro e w99 ⟨rfl, hb⟩
    replace HB := Lib.hid (upB HB.out hb)
    clear hb
    go_wp2_with fail
    go_ret
    exact ⟨rfl, HB.out⟩
set_option maxHeartbeats 2000000 in
set_option maxRecDepth 100000 in
theorem texts_law (A : Option Addr) (n c : Nat) (zs : List Int) (t : Int) (w : World) (h : Sl w A n c zs) (ht : -9223372036854775808 ≤ t ∧ t ≤ 9223372036854775807) : Calls Try.prog 5 #[.slice A n c, .int .i64 t] w fun e w' => e = .returned (.bool true) ∧ Below w.heap.size w w' := by
  have HS := Lib.hid h
  have HB := Lib.hid (Below.refl w.heap.size w)
  have hn9 := h.rk.2.1
  clear h
  by_cases hbig : 2000 < n
  · have hbI : (2000 : Int) < (n : Int) := by omega
    go_enter Try.func5, Try.ntmps5
    go_wp2_with fail
    go_ret
    exact ⟨rfl, Below.refl _ _⟩
  · have hbI : decide ((2000 : Int) < (n : Int)) = false := decide_eq_false (by omega)
    obtain ⟨x, y, z, HV⟩ : ∃ x y z, Hid (bys (teL zs n t) = x ∧ teN zs n t = y ∧ teE zs n t = z) := ⟨_, _, _, Lib.hid ⟨rfl, rfl, rfl⟩⟩
    have e1 : (x.toList == x.toList) = true := by simp
    have e2 : (y == y) = true := by simp
    have e3 : (z == z) = true := by simp
    go_enter Try.func5, Try.ntmps5
    go_wp2_with fail
    clear hbI
    go_at_call 20
    refine (text20 A n c t zs _ HS.out.rk (by omega) HS.out.le HS.out.cap).mono ?_
    rintro e w1 ⟨rfl, hb⟩
    rw [HV.out.1, HV.out.2.1, HV.out.2.2]
    replace HB := Lib.hid (upB HB.out hb)
    replace HS := Lib.hid (HS.out.up hb)
    clear hb
    go_wp2_with fail
    go_at_call 21
    refine (text21 A n c t zs _ HS.out.rk ht (by omega) HS.out.le HS.out.cap).mono ?_
    rintro e w2 ⟨rfl, hb⟩
    rw [HV.out.1, HV.out.2.1, HV.out.2.2]
    replace HB := Lib.hid (upB HB.out hb)
    replace HS := Lib.hid (HS.out.up hb)
    clear hb
    go_wp2_with fail
    go_at_call 17
    refine (alive17 _).mono ?_
    rintro e w99 ⟨rfl, hb⟩
    replace HB := Lib.hid (upB HB.out hb)
    clear hb
    go_wp2_with fail
    go_ret
    exact ⟨rfl, HB.out⟩
end Go.Proofs.Ytppgaddjjlcfcaa.Wk
