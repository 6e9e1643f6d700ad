/- The walk of DigestVerifies. Conditions: the slice reads as 64-bit numbers; the contract of alive is handed in. -/
import Derived.Test.YtbhdghopdhehdaaLawA
import Derived.Test.YtbhdghopdhehdaaVf
set_option linter.unusedSimpArgs false
set_option linter.unusedVariables false
namespace Go.Proofs.Ytbhdghopdhehdaa.Wk
open Go.RowKit
open Go.Proofs.Ytbhdghopdhehdaa.Mt
set_option maxHeartbeats 2000000 in
set_option maxRecDepth 100000 in
theorem verifies_law (AL : AliveC) (root leaf i n : Int) (A : Option Addr) (p c : Nat) (pf : List Int) (w : World) (h : Rk .u64 w w.heap.size A p pf) (hpc : p ≤ c) (hleaf : 0 ≤ leaf ∧ leaf ≤ 18446744073709551615) (hnm : n ≤ 9223372036854775807) :
    Calls Try.prog 6 #[.agg #[.int .u64 root, .int .u64 leaf, .int .i64 i, .int .i64 n, .slice A p c]] w fun e w' => e = .returned (.bool true) ∧ Below w.heap.size w w' := by
  have hp := h.2.1
  have HAL := Lib.hid AL
  have HB := Lib.hid (b1 w (.cells #[.int .u64 root, .int .u64 leaf, .int .i64 i, .int .i64 n, .slice A p c] 42))
  have HX := Lib.hid (Bx.new w 42 #[.int .u64 root, .int .u64 leaf, .int .i64 i, .int .i64 n, .slice A p c])
  have HR := Lib.hid (h.up (b1 w (.cells #[.int .u64 root, .int .u64 leaf, .int .i64 i, .int .i64 n, .slice A p c] 42)))
  have HLF := Lib.hid hleaf
  have HNM := Lib.hid hnm
  have HPC := Lib.hid hpc
  clear h AL
  obtain ⟨b, hb0⟩ : ∃ b, vfS root leaf i n pf = b := ⟨_, rfl⟩
  have HV := Lib.hid hb0
  have e1 : (b == b) = true := by simp
  clear hb0
  by_cases h0 : 100 < p
  · have hI : (100 : Int) < (p : Int) := by omega
    go_enter Try.func6, Try.ntmps6
    go_wp2_with fail
    go_ret
    exact ⟨rfl, HB.out⟩
  · have hI : decide ((100 : Int) < (p : Int)) = false := decide_eq_false (by omega)
    go_enter Try.func6, Try.ntmps6
    go_wp2_with fail
    replace HR := Lib.hid (HR.out.up (Below.refl (w.alloc (.cells #[.int .u64 root, .int .u64 leaf, .int .i64 i, .int .i64 n, .slice A p c] 42)).heap.size (w.alloc (.cells #[.int .u64 root, .int .u64 leaf, .int .i64 i, .int .i64 n, .slice A p c] 42))).drew)
    replace HX := Lib.hid (HX.out.next (Below.refl (w.alloc (.cells #[.int .u64 root, .int .u64 leaf, .int .i64 i, .int .i64 n, .slice A p c] 42)).heap.size (w.alloc (.cells #[.int .u64 root, .int .u64 leaf, .int .i64 i, .int .i64 n, .slice A p c] 42))).drew)
    replace HB := Lib.hid (upB HB.out (Below.refl (w.alloc (.cells #[.int .u64 root, .int .u64 leaf, .int .i64 i, .int .i64 n, .slice A p c] 42)).heap.size (w.alloc (.cells #[.int .u64 root, .int .u64 leaf, .int .i64 i, .int .i64 n, .slice A p c] 42))).drew)
    first | (go_region_held3 (fun w' => w'.cell? ⟨w.heap.size, 0, none⟩ = some (.int .u64 root) ∧ w'.cell? ⟨w.heap.size, 1, none⟩ = some (.int .u64 leaf) ∧ w'.cell? ⟨w.heap.size, 2, none⟩ = some (.int .i64 i) ∧ w'.cell? ⟨w.heap.size, 3, none⟩ = some (.int .i64 n) ∧ w'.cell? ⟨w.heap.size, 4, none⟩ = some (.slice A p c)) (first | exact HX.out.cells5 | assumption)
      (first
        | (go_at_call 24; refine (verify24 root leaf i n A p c pf _ HR.out HPC.out HLF.out HNM.out).mono ?_; rintro e wn ⟨rfl, hb⟩; rw [HV.out]; replace HB := Lib.hid (upB HB.out hb); replace HX := Lib.hid (HX.out.next hb); replace HR := Lib.hid (HR.out.up hb); clear hb)
        | (go_at_call 25; refine (verify25 root leaf i n A p c pf _ HR.out HLF.out HNM.out).mono ?_; rintro e wn ⟨rfl, hb⟩; rw [HV.out]; replace HB := Lib.hid (upB HB.out hb); replace HX := Lib.hid (HX.out.next hb); replace HR := Lib.hid (HR.out.up hb); clear hb)
        | (go_at_call 15; refine (HAL.out _).mono ?_; rintro e wn ⟨rfl, hb⟩; replace HB := Lib.hid (upB HB.out hb); replace HX := Lib.hid (HX.out.next hb); replace HR := Lib.hid (HR.out.up hb); clear hb))) | fail
    all_goals go_wp2_with fail
    all_goals go_ret
    all_goals exact ⟨rfl, HB.out⟩
end Go.Proofs.Ytbhdghopdhehdaa.Wk
