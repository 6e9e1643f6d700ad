/- The examples of the chapter come out as the law says. No condition. -/
import Derived.Test.YtakmjlpciicaiaaGreatDoorEvD
import Derived.Test.YtakmjlpciicaiaaGreatDoorTy
set_option linter.unusedSimpArgs false
set_option linter.unusedVariables false
namespace Go.Proofs.YtakmjlpciicaiaaGreatDoor.Wk
open Go Go.RowKit Go.Proofs.YtakmjlpciicaiaaGreatDoor.Av
theorem aliveT : Ctr Tryz.prog 12 [] (.d (.fl (.bool true))) := ctr_flat [] (Ev.ev_alive (fuel := 2000) (n := 30) (by kernel_rfl) (by kernel_rfl) (by kernel_rfl))

end Go.Proofs.YtakmjlpciicaiaaGreatDoor.Wk
