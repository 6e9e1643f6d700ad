/- What is read of the tables. No condition. -/
import Derived.Test.YtaapmifdglaehaaDoorDw
import Derived.Test.YtaapmifdglaehaaDoorTy
set_option linter.unusedSimpArgs false
set_option linter.unusedVariables false
namespace Go.Proofs.YtaapmifdglaehaaDoor.Wk
open Go Go.RowKit Go.Proofs.YtaapmifdglaehaaDoor.Av
def KK (w : World) (U : Nat → Nat) : Prop := Go.Proofs.YtaapmifdglaehaaDoor.Cw.Md w
theorem kkst : KSt KK := kst_w (T := Go.Proofs.YtaapmifdglaehaaDoor.Cw.Md) (fun w w' h hb => Go.Proofs.YtaapmifdglaehaaDoor.Cw.Md.next h hb)

end Go.Proofs.YtaapmifdglaehaaDoor.Wk
