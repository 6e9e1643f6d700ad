/- Conversions of whole numbers. Condition: the number fits. -/
import Derived.Test.YteplcjhnmmpicaaAv26
set_option linter.unusedSimpArgs false
set_option linter.unusedVariables false
namespace Go.Proofs.Yteplcjhnmmpicaa.Av
open Go Go.RowKit
section
variable {P : Program} {N : Nat} {w0 : World} {U0 : Nat → Nat}
theorem op_conv {o : Oper} {σ : AS} {src dst : TypeId} {x : Operand} (ho : o.op = .convert src dst x) {k0 k k' : IntKind} {n : Int} (hs : P.underlying src = some (.int k0)) (ht : P.underlying dst = some (.int k)) (hx : σ.ev x = .d (.fl (.int k' n))) (hw : k.wrap n = n) (hd : dOk o N = true) : OpS P N w0 U0 o σ ⟨o.dst.map fun d => (d, .d (.fl (.int k n))), [], [], []⟩ :=
  opS_still hd fun σ' hok a w F hF => by
    have h1 := flat_val (ev_get hok hF (x := x) (by simp [ho, Op.operands]) hx)
    exact ⟨.int k n, by simp [execOp, ho, h1, convert, run_underlying hs, run_underlying ht, Conv.intToInt, hw], .fl _⟩
end
end Go.Proofs.Yteplcjhnmmpicaa.Av
