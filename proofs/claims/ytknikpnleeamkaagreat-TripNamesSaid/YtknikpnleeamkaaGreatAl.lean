/- The examples of the chapter come out as the law says. No condition. -/
import Derived.Test.YtknikpnleeamkaaGreatEvD
import Derived.Test.YtknikpnleeamkaaGreatTy
set_option linter.unusedSimpArgs false
set_option linter.unusedVariables false
namespace Go.Proofs.YtknikpnleeamkaaGreat.Wk
open Go Go.RowKit Go.Proofs.YtknikpnleeamkaaGreat.Av
theorem alive4 : Ctr Tryz.prog 4 [] (.d (.fl (.bool true))) := ctr_flat [] (Ev.ev_alive (fuel := 2000) (n := 30) (by kernel_rfl) (by kernel_rfl) (by kernel_rfl))

end Go.Proofs.YtknikpnleeamkaaGreat.Wk
