/- The examples of the chapter come out as the law says. No condition. -/
import Derived.Test.YtgelodnkfajgjaaDoorEvD
import Derived.Test.YtgelodnkfajgjaaDoorTy
set_option linter.unusedSimpArgs false
set_option linter.unusedVariables false
namespace Go.Proofs.YtgelodnkfajgjaaDoor.Wk
open Go Go.RowKit Go.Proofs.YtgelodnkfajgjaaDoor.Av
theorem alive10 : Ctr Tryd.prog 10 [] (.d (.fl (.bool true))) := ctr_flat [] (Ev.ev_alive (fuel := 2000) (n := 30) (by kernel_rfl) (by kernel_rfl) (by kernel_rfl))
end Go.Proofs.YtgelodnkfajgjaaDoor.Wk
