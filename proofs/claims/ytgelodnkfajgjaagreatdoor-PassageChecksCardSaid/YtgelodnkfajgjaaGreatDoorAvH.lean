/- Own rows of structures: make and copy. Conditions: as each theorem names them. -/
import Derived.Test.YtgelodnkfajgjaaGreatDoorAvD
set_option linter.unusedSimpArgs false
set_option linter.unusedVariables false
namespace Go.Proofs.YtgelodnkfajgjaaGreatDoor.Av
open Go Go.RowKit
section
variable {P : Program} {N : Nat} {w0 : World} {U0 : Nat → Nat}
end
end Go.Proofs.YtgelodnkfajgjaaGreatDoor.Av
