/- What the arguments read as. Condition: they read as data. -/
import Derived.Test.YtldglchpaookiaaDoorTy
import Derived.Test.YtldglchpaookiaaDoorAvF
set_option linter.unusedSimpArgs false
set_option linter.unusedVariables false
namespace Go.Proofs.YtldglchpaookiaaDoor.Wk
open Go Go.RowKit Go.Proofs.YtldglchpaookiaaDoor.Av
theorem cz9 : Tryd.prog.cellsOf 9 = 1 := by kernel_rfl
theorem cz3 : Tryd.prog.cellsOf 3 = 1 := by kernel_rfl
theorem opens_9 : Opens Tryd.prog 9 rS (fun s => s.size ≤ maxLen) := opens_str Tryd.underlying9
theorem opens_3 : Opens Tryd.prog 3 (rI .i64) (fun n => (Lit.int .i64 n).wf = true) := opens_int Tryd.underlying3
theorem opens_32 : Opens Tryd.prog 32 (rL 1 rS) (fun l => l.length ≤ 9223372036854775807 ∧ ∀ a ∈ l, a.size ≤ maxLen) := opens_len (opens_slice Tryd.underlying32 cz9 (by omega) opens_9 (fun _ => rfl))
theorem opens_37 : Opens Tryd.prog 37 (rL 1 (rI .i64)) (fun l => l.length ≤ 9223372036854775807 ∧ ∀ a ∈ l, (Lit.int .i64 a).wf = true) := opens_len (opens_slice Tryd.underlying37 cz3 (by omega) opens_3 (fun _ => rfl))
theorem i64_r {n : Int} (h : (Lit.int .i64 n).wf = true) : -9223372036854775808 ≤ n ∧ n ≤ 9223372036854775807 := by simpa [Lit.wf, IntKind.min, IntKind.max, IntKind.signed, IntKind.bits] using h
theorem u16_r {n : Int} (h : (Lit.int .u16 n).wf = true) : 0 ≤ n ∧ n ≤ 65535 := by simpa [Lit.wf, IntKind.min, IntKind.max, IntKind.signed, IntKind.bits] using h
end Go.Proofs.YtldglchpaookiaaDoor.Wk
