/- What is read of the tables. No condition. -/
import Derived.Test.YteeofplcnnhcnaaDoorDw
import Derived.Test.YteeofplcnnhcnaaDoorTy
set_option linter.unusedSimpArgs false
set_option linter.unusedVariables false
namespace Go.Proofs.YteeofplcnnhcnaaDoor.Wk
open Go Go.RowKit Go.Proofs.YteeofplcnnhcnaaDoor.Av
def KK (w : World) (U : Nat → Nat) : Prop := Go.Proofs.YteeofplcnnhcnaaDoor.Cw.Md w
theorem kkst : KSt KK := kst_w (T := Go.Proofs.YteeofplcnnhcnaaDoor.Cw.Md) (fun w w' h hb => Go.Proofs.YteeofplcnnhcnaaDoor.Cw.Md.next h hb)

end Go.Proofs.YteeofplcnnhcnaaDoor.Wk
