/- What is read of the tables. No condition. -/
import Derived.Test.YtjgfdheodnmddaaDoorDw
import Derived.Test.YtjgfdheodnmddaaDoorTy
set_option linter.unusedSimpArgs false
set_option linter.unusedVariables false
namespace Go.Proofs.YtjgfdheodnmddaaDoor.Wk
open Go Go.RowKit Go.Proofs.YtjgfdheodnmddaaDoor.Av
def KK (w : World) (U : Nat → Nat) : Prop := Go.Proofs.YtjgfdheodnmddaaDoor.Cw.Md w
theorem kkst : KSt KK := kst_w (T := Go.Proofs.YtjgfdheodnmddaaDoor.Cw.Md) (fun w w' h hb => Go.Proofs.YtjgfdheodnmddaaDoor.Cw.Md.next h hb)

end Go.Proofs.YtjgfdheodnmddaaDoor.Wk
