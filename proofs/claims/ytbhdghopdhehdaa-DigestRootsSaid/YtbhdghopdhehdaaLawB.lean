/- The walk of DigestRoots. Conditions: the slice reads as 64-bit numbers; the contract of alive is handed in. -/
import Derived.Test.YtbhdghopdhehdaaLawA
set_option linter.unusedSimpArgs false
set_option linter.unusedVariables false
namespace Go.Proofs.Ytbhdghopdhehdaa.Wk
open Go.RowKit
open Go.Proofs.Ytbhdghopdhehdaa.Mt
set_option maxHeartbeats 1000000 in
set_option maxRecDepth 100000 in
theorem roots_law (AL : AliveC) (A : Option Addr) (n c : Nat) (l : List Int) (i : Int) (w : World) (h : Rk .u64 w w.heap.size A n l) :
    Calls Try.prog 5 #[.slice A n c, .int .i64 i] w fun e w' => e = .returned (.bool true) ∧ Below w.heap.size w w' := by
  have hn := h.2.1
  have HR := Lib.hid h
  have HAL := Lib.hid AL
  clear h AL
  by_cases h0 : 100 < n
  · have hI : (100 : Int) < (n : Int) := by omega
    go_enter Try.func5, Try.ntmps5
    go_wp2_with fail
    go_ret
    exact ⟨rfl, Below.refl _ _⟩
  · have hI : decide ((100 : Int) < (n : Int)) = false := decide_eq_false (by omega)
    have hn4 : n ≤ 4096 := by omega
    obtain ⟨⟨L, e0⟩, hp⟩ : ∃ p, prS l i = p := ⟨_, rfl⟩
    have HP := Lib.hid hp
    obtain ⟨d, hd⟩ : ∃ d, rootS l = d := ⟨_, rfl⟩
    have HD := Lib.hid hd
    have e1 : (d == d) = true := by simp
    have e2 : (e0 == e0) = true := by simp
    clear hp hd
    go_enter Try.func5, Try.ntmps5
    go_wp2_with fail
    refine (proof20 A n c l i _ HR.out hn4).mono ?_
    rintro e w1 ⟨A1, c1, he, hr, hb⟩
    rw [HP.out] at he hr
    have he : e = .returned (.tuple #[.slice A1 L.length c1, .int .i64 e0]) := he
    have hr : Rk .u64 w1 w1.heap.size A1 L.length L := hr
    subst he
    have H1 := Lib.hid hr
    have HB := Lib.hid hb
    have HR1 := Lib.hid (HR.out.up hb)
    clear hr hb
    go_wp2_with fail
    refine (proof21 A n c l i _ HR1.out hn4).mono ?_
    rintro e w2 ⟨A2, c2, he, hr, hb⟩
    rw [HP.out] at he hr
    have he : e = .returned (.tuple #[.slice A2 L.length c2, .int .i64 e0]) := he
    have hr : Rk .u64 w2 w2.heap.size A2 L.length L := hr
    subst he
    have H2 := Lib.hid hr
    have H12 := Lib.hid (H1.out.up hb)
    have HB2 := Lib.hid (upB HB.out hb)
    have HR2 := Lib.hid (HR1.out.up hb)
    clear hr hb HB HR1 H1
    go_wp2_with fail
    refine (root22 A n c l _ HR2.out hn4).mono ?_
    rintro e w3 ⟨rfl, hb⟩
    rw [HD.out]
    have H23 := Lib.hid (H2.out.up hb)
    have H13 := Lib.hid (H12.out.up hb)
    have HB3 := Lib.hid (upB HB2.out hb)
    have HR3 := Lib.hid (HR2.out.up hb)
    clear hb HB2 HR2 H2 H12
    go_wp2_with fail
    refine (root23 A n c l _ HR3.out hn4).mono ?_
    rintro e w4 ⟨rfl, hb⟩
    rw [HD.out]
    have H24 := Lib.hid (H23.out.up hb)
    have H14 := Lib.hid (H13.out.up hb)
    have HB4 := Lib.hid (upB HB3.out hb)
    clear hb HB3 HR3 H23 H13
    go_wp2_with fail
    refine (same17 A1 A2 L.length c1 c2 L _ H14.out H24.out).mono ?_
    rintro e w5 ⟨rfl, hb⟩
    have HB5 := Lib.hid (upB HB4.out hb)
    clear hb HB4
    go_wp2_with fail
    refine (HAL.out _).mono ?_
    rintro e w6 ⟨rfl, hb⟩
    have HB6 := Lib.hid (upB HB5.out hb)
    clear hb HB5
    go_wp2_with fail
    go_ret
    exact ⟨rfl, HB6.out⟩
end Go.Proofs.Ytbhdghopdhehdaa.Wk
