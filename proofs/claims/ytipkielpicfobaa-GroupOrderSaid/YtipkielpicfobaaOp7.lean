/- What more the arguments read as. Condition: they read as data. -/
import Derived.Test.YtipkielpicfobaaOp
set_option linter.unusedSimpArgs false
set_option linter.unusedVariables false
namespace Go.Proofs.Ytipkielpicfobaa.Wk
open Go Go.RowKit Go.Proofs.Ytipkielpicfobaa.Av
theorem u8_r {n : Int} (h : (Lit.int .u8 n).wf = true) : 0 ≤ n ∧ n ≤ 255 := by simpa [Lit.wf, IntKind.min, IntKind.max, IntKind.signed, IntKind.bits] using h
end Go.Proofs.Ytipkielpicfobaa.Wk
