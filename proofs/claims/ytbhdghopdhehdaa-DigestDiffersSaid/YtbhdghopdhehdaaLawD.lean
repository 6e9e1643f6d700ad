/- The walk of DigestDiffers. Conditions: the slices read as 64-bit numbers. -/
import Derived.Test.YtbhdghopdhehdaaAlv
set_option linter.unusedSimpArgs false
set_option linter.unusedVariables false
namespace Go.Proofs.Ytbhdghopdhehdaa.Wk
open Go.RowKit
open Go.Proofs.Ytbhdghopdhehdaa.Mt
set_option maxHeartbeats 1000000 in
set_option maxRecDepth 100000 in
theorem differs_law (A B : Option Addr) (n m c c' : Nat) (a b : List Int) (w : World) (h1 : Rk .u64 w w.heap.size A n a) (h2 : Rk .u64 w w.heap.size B m b) :
    Calls Try.prog 7 #[.slice A n c, .slice B m c'] w fun e w' => e = .returned (.bool true) ∧ Below w.heap.size w w' := by
  have H1 := Lib.hid h1
  have H2 := Lib.hid h2
  have hn := h1.2.1
  have hm := h2.2.1
  clear h1 h2
  by_cases h0 : 100 < n
  · have hI : (100 : Int) < (n : Int) := by omega
    go_enter Try.func7, Try.ntmps7
    go_wp2_with fail
    go_ret
    exact ⟨rfl, Below.refl _ _⟩
  · have hI : decide ((100 : Int) < (n : Int)) = false := decide_eq_false (by omega)
    by_cases h5 : 100 < m
    · have hJ : (100 : Int) < (m : Int) := by omega
      go_enter Try.func7, Try.ntmps7
      go_wp2_with fail
      go_ret
      exact ⟨rfl, Below.refl _ _⟩
    · have hJ : decide ((100 : Int) < (m : Int)) = false := decide_eq_false (by omega)
      have hn4 : n ≤ 4096 := by omega
      have hm4 : m ≤ 4096 := by omega
      obtain ⟨⟨L, q⟩, hp⟩ : ∃ p, dfS a b = p := ⟨_, rfl⟩
      have HP := Lib.hid hp
      have e1 : ((q : Int) == (q : Int)) = true := by simp
      clear hp
      go_enter Try.func7, Try.ntmps7
      go_wp2_with fail
      refine (differ26 A B n m c c' a b _ H1.out H2.out hn4 hm4).mono ?_
      rintro e w1 ⟨A1, c1, he, hr, hb⟩
      rw [HP.out] at he hr
      have he : e = .returned (.tuple #[.slice A1 L.length c1, .int .i64 (q : Int)]) := he
      subst he
      have hr : Rk .i64 w1 w1.heap.size A1 L.length L := hr
      have HR1 := Lib.hid hr
      have HB1 := Lib.hid hb
      have H11 := Lib.hid (H1.out.up hb)
      have H21 := Lib.hid (H2.out.up hb)
      clear hr hb H1 H2
      go_wp2_with fail
      refine (differ27 A B n m c c' a b _ H11.out H21.out hn4 hm4).mono ?_
      rintro e w2 ⟨A2, c2, he, hr, hb⟩
      rw [HP.out] at he hr
      have he : e = .returned (.tuple #[.slice A2 L.length c2, .int .i64 (q : Int)]) := he
      subst he
      have hr : Rk .i64 w2 w2.heap.size A2 L.length L := hr
      have HR2 := Lib.hid hr
      have HR12 := Lib.hid (HR1.out.up hb)
      have HB2 := Lib.hid (upB HB1.out hb)
      clear hr hb HB1 HR1 H11 H21
      go_wp2_with fail
      refine (same28 A1 A2 L.length c1 c2 L _ HR12.out HR2.out).mono ?_
      rintro e w3 ⟨rfl, hb⟩
      have HB3 := Lib.hid (upB HB2.out hb)
      clear hb HB2
      go_wp2_with fail
      refine (alive15 _).mono ?_
      rintro e w4 ⟨rfl, hb⟩
      have HB4 := Lib.hid (upB HB3.out hb)
      clear hb HB3
      go_wp2_with fail
      go_ret
      exact ⟨rfl, HB4.out⟩
end Go.Proofs.Ytbhdghopdhehdaa.Wk
