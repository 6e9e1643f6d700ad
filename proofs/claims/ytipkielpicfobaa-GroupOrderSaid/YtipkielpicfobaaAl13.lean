/- The examples of the chapter come out as the law says. No condition. -/
import Derived.Test.YtipkielpicfobaaEvD
import Derived.Test.YtipkielpicfobaaTy
set_option linter.unusedSimpArgs false
set_option linter.unusedVariables false
namespace Go.Proofs.Ytipkielpicfobaa.Wk
open Go Go.RowKit Go.Proofs.Ytipkielpicfobaa.Av
theorem alive13 : Ctr Try.prog 13 [] (.d (.fl (.bool true))) := ctr_flat [] (Ev.ev_alive (fuel := 2000) (n := 30) (by kernel_rfl) (by kernel_rfl) (by kernel_rfl))
end Go.Proofs.Ytipkielpicfobaa.Wk
