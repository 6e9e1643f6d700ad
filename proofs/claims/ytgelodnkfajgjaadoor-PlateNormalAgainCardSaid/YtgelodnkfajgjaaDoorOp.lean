/- What the arguments read as. Condition: they read as data. -/
import Derived.Test.YtgelodnkfajgjaaDoorTy
import Derived.Test.YtgelodnkfajgjaaDoorAvF
set_option linter.unusedSimpArgs false
set_option linter.unusedVariables false
namespace Go.Proofs.YtgelodnkfajgjaaDoor.Wk
open Go Go.RowKit Go.Proofs.YtgelodnkfajgjaaDoor.Av
theorem cz9 : Tryd.prog.cellsOf 9 = 1 := by kernel_rfl
theorem opens_9 : Opens Tryd.prog 9 rS (fun s => s.size ≤ maxLen) := opens_str Tryd.underlying9
theorem i64_r {n : Int} (h : (Lit.int .i64 n).wf = true) : -9223372036854775808 ≤ n ∧ n ≤ 9223372036854775807 := by simpa [Lit.wf, IntKind.min, IntKind.max, IntKind.signed, IntKind.bits] using h
theorem u16_r {n : Int} (h : (Lit.int .u16 n).wf = true) : 0 ≤ n ∧ n ≤ 65535 := by simpa [Lit.wf, IntKind.min, IntKind.max, IntKind.signed, IntKind.bits] using h
end Go.Proofs.YtgelodnkfajgjaaDoor.Wk
