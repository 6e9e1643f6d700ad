/- The examples of the chapter come out as the law says. No condition. -/
import Derived.Test.YtniefocnfcaebaaEvD
import Derived.Test.YtniefocnfcaebaaTy
set_option linter.unusedSimpArgs false
set_option linter.unusedVariables false
namespace Go.Proofs.Ytniefocnfcaebaa.Wk
open Go Go.RowKit Go.Proofs.Ytniefocnfcaebaa.Av
theorem alive9 : Ctr Try.prog 9 [] (.d (.fl (.bool true))) := ctr_flat [] (Ev.ev_alive (fuel := 2000) (n := 30) (by kernel_rfl) (by kernel_rfl) (by kernel_rfl))

end Go.Proofs.Ytniefocnfcaebaa.Wk
