/- The examples of the chapter come out as the law says. No condition. -/
import Derived.Test.YthfdopaefdmdiaaEvD
import Derived.Test.YthfdopaefdmdiaaTy
set_option linter.unusedSimpArgs false
set_option linter.unusedVariables false
namespace Go.Proofs.Ythfdopaefdmdiaa.Wk
open Go Go.RowKit Go.Proofs.Ythfdopaefdmdiaa.Av
theorem alive7 : Ctr Try.prog 7 [] (.d (.fl (.bool true))) := ctr_flat [] (Ev.ev_alive (fuel := 2000) (n := 30) (by kernel_rfl) (by kernel_rfl) (by kernel_rfl))
end Go.Proofs.Ythfdopaefdmdiaa.Wk
