/- The examples of the chapter, evaluated. No condition. -/
import Derived.Test.YtdhhpnkdokdjkaaEvD
import Derived.Test.YtdhhpnkdokdjkaaTy
set_option linter.unusedSimpArgs false
set_option linter.unusedVariables false
namespace Go.Proofs.Ytdhhpnkdokdjkaa.Wk
open Go Go.RowKit Go.Proofs.Ytdhhpnkdokdjkaa.Av
theorem alive7 : Ctr Try.prog 7 [] (.d (.fl (.bool true))) := ctr_flat [] (Ev.ev_alive (fuel := 2000) (n := 30) (by kernel_rfl) (by kernel_rfl) (by kernel_rfl))

end Go.Proofs.Ytdhhpnkdokdjkaa.Wk
