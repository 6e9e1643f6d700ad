/- The examples of the chapter come out as the law says. No condition. -/
import Derived.Test.YtajliomknifmjaaEvD
import Derived.Test.YtajliomknifmjaaTy
set_option linter.unusedSimpArgs false
set_option linter.unusedVariables false
namespace Go.Proofs.Ytajliomknifmjaa.Wk
open Go Go.RowKit Go.Proofs.Ytajliomknifmjaa.Av
theorem aliveT : Ctr Try.prog 6 [] (.d (.fl (.bool true))) := ctr_flat [] (Ev.ev_alive (fuel := 2000) (n := 30) (by kernel_rfl) (by kernel_rfl) (by kernel_rfl))

end Go.Proofs.Ytajliomknifmjaa.Wk
