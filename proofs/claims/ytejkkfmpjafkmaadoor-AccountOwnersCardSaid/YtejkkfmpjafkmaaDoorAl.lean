/- The examples of the chapter come out as the law says. No condition. -/
import Derived.Test.YtejkkfmpjafkmaaDoorEvD
import Derived.Test.YtejkkfmpjafkmaaDoorTy
set_option linter.unusedSimpArgs false
set_option linter.unusedVariables false
namespace Go.Proofs.YtejkkfmpjafkmaaDoor.Wk
open Go Go.RowKit Go.Proofs.YtejkkfmpjafkmaaDoor.Av
theorem alive8 : Ctr Tryd.prog 8 [] (.d (.fl (.bool true))) := ctr_flat [] (Ev.ev_alive (fuel := 2000) (n := 30) (by kernel_rfl) (by kernel_rfl) (by kernel_rfl))

end Go.Proofs.YtejkkfmpjafkmaaDoor.Wk
