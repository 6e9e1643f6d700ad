/- The examples of the chapter come out as the law says. No condition. -/
import Derived.Test.YtgelodnkfajgjaaGreatDoorEvD
import Derived.Test.YtgelodnkfajgjaaGreatDoorTy
set_option linter.unusedSimpArgs false
set_option linter.unusedVariables false
namespace Go.Proofs.YtgelodnkfajgjaaGreatDoor.Wk
open Go Go.RowKit Go.Proofs.YtgelodnkfajgjaaGreatDoor.Av
theorem alive6 : Ctr Tryz.prog 6 [] (.d (.fl (.bool true))) := ctr_flat [] (Ev.ev_alive (fuel := 2000) (n := 30) (by kernel_rfl) (by kernel_rfl) (by kernel_rfl))
end Go.Proofs.YtgelodnkfajgjaaGreatDoor.Wk
