/- More types. No condition. -/
import Derived.Test.YtmmadlhkniikdaaTy
set_option linter.unusedSimpArgs false
set_option linter.unusedVariables false
namespace Go.Proofs.Ytmmadlhkniikdaa.Wk
open Go Go.RowKit Go.Proofs.Ytmmadlhkniikdaa.Av
structure Led where
  ents : List En
  deriving Inhabited
def eLe (x : Led) : List DV := [.sl 3 (List.map eEn x.ents)]


end Go.Proofs.Ytmmadlhkniikdaa.Wk
