/- The examples, evaluated. No condition. -/
import Derived.Test.YtacbipoplnfmoaaEvD
import Derived.Test.YtacbipoplnfmoaaTy
set_option linter.unusedSimpArgs false
set_option linter.unusedVariables false
namespace Go.Proofs.Ytacbipoplnfmoaa.Wk
open Go Go.RowKit Go.Proofs.Ytacbipoplnfmoaa.Av
theorem alive5 : Ctr Try.prog 5 [] (.d (.fl (.bool true))) := ctr_flat [] (Ev.ev_alive (fuel := 2000) (n := 30) (by kernel_rfl) (by kernel_rfl) (by kernel_rfl))

end Go.Proofs.Ytacbipoplnfmoaa.Wk
