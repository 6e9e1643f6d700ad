/- Windows: the slice of an own row from an element on, while the row stays in use. Conditions: as each theorem names them. -/
import Derived.Test.YthfdopaefdmdiaaAvE
set_option linter.unusedSimpArgs false
set_option linter.unusedVariables false
namespace Go.Proofs.Ythfdopaefdmdiaa.Av
open Go Go.RowKit
section
variable {P : Program} {N : Nat} {w0 : World} {U0 : Nat → Nat}
def zcW (z : List Value) : Nat → List Value
  | 0 => []
  | n + 1 => z ++ zcW z n
end
end Go.Proofs.Ythfdopaefdmdiaa.Av
