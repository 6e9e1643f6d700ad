/- What the arguments read as. Condition: they read as data. -/
import Derived.Test.YtldglchpaookiaaDoorTy
import Derived.Test.YtldglchpaookiaaDoorAvF
set_option linter.unusedSimpArgs false
set_option linter.unusedVariables false
namespace Go.Proofs.YtldglchpaookiaaDoor.Wk
open Go Go.RowKit Go.Proofs.YtldglchpaookiaaDoor.Av
theorem cz5 : Tryd.prog.cellsOf 5 = 1 := by kernel_rfl
theorem opens_5 : Opens Tryd.prog 5 (rI .u8) (fun n => (Lit.int .u8 n).wf = true) := opens_int Tryd.underlying5
theorem i64_r {n : Int} (h : (Lit.int .i64 n).wf = true) : -9223372036854775808 ≤ n ∧ n ≤ 9223372036854775807 := by simpa [Lit.wf, IntKind.min, IntKind.max, IntKind.signed, IntKind.bits] using h
theorem u16_r {n : Int} (h : (Lit.int .u16 n).wf = true) : 0 ≤ n ∧ n ≤ 65535 := by simpa [Lit.wf, IntKind.min, IntKind.max, IntKind.signed, IntKind.bits] using h
theorem u8_r {n : Int} (h : (Lit.int .u8 n).wf = true) : 0 ≤ n ∧ n ≤ 255 := by simpa [Lit.wf, IntKind.min, IntKind.max, IntKind.signed, IntKind.bits] using h
end Go.Proofs.YtldglchpaookiaaDoor.Wk
