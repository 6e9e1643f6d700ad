/- Loops whose rounds are walked one by one. No condition. -/
import Derived.Test.YtajhpdmbmipboaaAvD
import Derived.LoopN
set_option linter.unusedSimpArgs false
set_option linter.unusedVariables false
namespace Go.Proofs.Ytajhpdmbmipboaa.Av
open Go Go.RowKit
section
variable {P : Program} {N : Nat} {w0 : World} {U0 : Nat → Nat}
structure ARd (P : Program) (N : Nat) (w0 : World) (U0 : Nat → Nat) (c : Code) (R : Exit → AS → Prop) (n : Nat) (σ : AS) : Prop where
  go : ∀ a w, St N w0 U0 σ a w → ∀ Q, (∀ e σ' a' w', R e σ' → St N w0 U0 σ' a' w' → Q e a' w') → Code.rounds P c Q n a w
theorem a_rounds (n : Nat) {c : Code} {R : Exit → AS → Prop} {σ : AS} (h : ARd P N w0 U0 c R n σ) : A P N w0 U0 (.loop c) R σ :=
  ⟨fun a w hs Q hQ => wp_loop_rounds n (h.go a w hs Q hQ)⟩
theorem ard_succ {n : Nat} {c : Code} {R : Exit → AS → Prop} {σ : AS} (h : A P N w0 U0 c (thenR (ARd P N w0 U0 c R n) R) σ) : ARd P N w0 U0 c R (n + 1) σ := by
  refine ⟨fun a w hs Q hQ => ?_⟩
  rw [rounds_succ]
  refine h.go a w hs _ (fun e σ' a' w' hr hs' => ?_)
  cases e with
  | normal => exact ARd.go hr a' w' hs' Q hQ
  | _ => exact hQ _ _ _ _ hr hs'
def sLt (s u : ByteArray) : Bool := Op.bytesLess s.toList u.toList
theorem b_slt (t : TypeId) (s u : ByteArray) (x y : Operand) (w : World) : (do eqGuard .lss t x y (.string s) (.string u); binOp .lss t (.string s) (.string u) : Sem Value).run P w = .ok (.bool (sLt s u)) w := by simp [eqGuard, binOp, Op.stringOp, sLt]
theorem b_sgt (t : TypeId) (s u : ByteArray) (x y : Operand) (w : World) : (do eqGuard .gtr t x y (.string s) (.string u); binOp .gtr t (.string s) (.string u) : Sem Value).run P w = .ok (.bool (!(sLt s u || sEq s u))) w := by simp [eqGuard, binOp, Op.stringOp, sLt, ← toList_sEq]
end
end Go.Proofs.Ytajhpdmbmipboaa.Av
