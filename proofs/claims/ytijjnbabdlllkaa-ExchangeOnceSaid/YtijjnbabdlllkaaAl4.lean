/- The examples of the chapter come out as the law says. No condition. -/
import Derived.Test.YtijjnbabdlllkaaEvD
import Derived.Test.YtijjnbabdlllkaaTy
set_option linter.unusedSimpArgs false
set_option linter.unusedVariables false
namespace Go.Proofs.Ytijjnbabdlllkaa.Wk
open Go Go.RowKit Go.Proofs.Ytijjnbabdlllkaa.Av
theorem alive4 : Ctr Try.prog 4 [] (.d (.fl (.bool true))) := ctr_flat [] (Ev.ev_alive (fuel := 2000) (n := 30) (by kernel_rfl) (by kernel_rfl) (by kernel_rfl))
end Go.Proofs.Ytijjnbabdlllkaa.Wk
