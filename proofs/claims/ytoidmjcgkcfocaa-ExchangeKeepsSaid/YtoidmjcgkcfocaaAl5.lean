/- The examples of the chapter come out as the law says. No condition. -/
import Derived.Test.YtoidmjcgkcfocaaEvD
import Derived.Test.YtoidmjcgkcfocaaTy
set_option linter.unusedSimpArgs false
set_option linter.unusedVariables false
namespace Go.Proofs.Ytoidmjcgkcfocaa.Wk
open Go Go.RowKit Go.Proofs.Ytoidmjcgkcfocaa.Av
theorem alive5 : Ctr Try.prog 5 [] (.d (.fl (.bool true))) := ctr_flat [] (Ev.ev_alive (fuel := 2000) (n := 30) (by kernel_rfl) (by kernel_rfl) (by kernel_rfl))
end Go.Proofs.Ytoidmjcgkcfocaa.Wk
