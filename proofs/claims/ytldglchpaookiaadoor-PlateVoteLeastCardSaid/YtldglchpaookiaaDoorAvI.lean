/- Maps keyed by a structure: look-up, and a key that is not there yet. Conditions: as each theorem names them. -/
import Derived.Test.YtldglchpaookiaaDoorAvD
set_option linter.unusedSimpArgs false
set_option linter.unusedVariables false
namespace Go.Proofs.YtldglchpaookiaaDoor.Av
open Go Go.RowKit
open Go.ChangeMaps (setBlock)
section
variable {P : Program} {N : Nat} {w0 : World} {U0 : Nat → Nat}
structure KeyK (P : Program) (kt : TypeId) (td : TypeDesc) (ok : Value → Prop) (same : Value → Value → Bool) : Prop where
  hu : P.underlying kt = some td
  hn : ∀ k x, Instr.sameNow td k x = none
  hc : ∀ k, ok k → ∀ e w, (Instr.checkKey e 10000 kt k).run P w = .ok () w
  he : ∀ k x, ok k → ok x → ∀ w, (Op.equal kt k x).run P w = .ok (same k x) w
  hr : ∀ k, ok k → same k k = true
def mfindK (same : Value → Value → Bool) (k : Value) : List (Value × DV) → Option DV
  | [] => none
  | x :: xs => bif same k x.1 then some x.2 else mfindK same k xs
end
end Go.Proofs.YtldglchpaookiaaDoor.Av
