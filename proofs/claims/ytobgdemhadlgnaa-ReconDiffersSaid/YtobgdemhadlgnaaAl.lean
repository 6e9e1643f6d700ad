/- The examples of the chapter come out as the law says. No condition. -/
import Derived.Test.YtobgdemhadlgnaaEvD
import Derived.Test.YtobgdemhadlgnaaTy
set_option linter.unusedSimpArgs false
set_option linter.unusedVariables false
namespace Go.Proofs.Ytobgdemhadlgnaa.Wk
open Go Go.RowKit Go.Proofs.Ytobgdemhadlgnaa.Av
theorem aliveT : Ctr Try.prog 5 [] (.d (.fl (.bool true))) := ctr_flat [] (Ev.ev_alive (fuel := 2000) (n := 30) (by kernel_rfl) (by kernel_rfl) (by kernel_rfl))

end Go.Proofs.Ytobgdemhadlgnaa.Wk
