/- The examples, evaluated. No condition. -/
import Derived.Test.YtgidehchfahpnaaEvD
import Derived.Test.YtgidehchfahpnaaTy
set_option linter.unusedSimpArgs false
set_option linter.unusedVariables false
namespace Go.Proofs.Ytgidehchfahpnaa.Wk
open Go Go.RowKit Go.Proofs.Ytgidehchfahpnaa.Av
theorem alive4 : Ctr Try.prog 4 [] (.d (.fl (.bool true))) := ctr_flat [] (Ev.ev_alive (fuel := 2000) (n := 30) (by kernel_rfl) (by kernel_rfl) (by kernel_rfl))

end Go.Proofs.Ytgidehchfahpnaa.Wk
