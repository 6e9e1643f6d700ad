/- The examples, evaluated. No condition. -/
import Derived.Test.YtejophbmdgohdaaEvD
import Derived.Test.YtejophbmdgohdaaTy
set_option linter.unusedSimpArgs false
set_option linter.unusedVariables false
namespace Go.Proofs.Ytejophbmdgohdaa.Wk
open Go Go.RowKit Go.Proofs.Ytejophbmdgohdaa.Av
theorem alive7 : Ctr Try.prog 7 [] (.d (.fl (.bool true))) := ctr_flat [] (Ev.ev_alive (fuel := 2000) (n := 30) (by kernel_rfl) (by kernel_rfl) (by kernel_rfl))

end Go.Proofs.Ytejophbmdgohdaa.Wk
