/-
  No cell of these rows narrows 'for every input' (looked for: loops, veiled, ifaces, maps, wideKeys, modest, calm, conditions, laid).
  DERIVED. THE GIVEN ROWS OF THIS SEAT. 2 by the template 'for every input the law returns true; each argument reads behind the call as it read before'; 0 by the template 'total and deterministic' (their statements: YtacbipoplnfmoaaTotals.lean).
  GIVEN WITH THE SEED: the statements are not yours to turn. If you find one false, say at which input.
  Laid BY PROGRAM, IN A SANDBOX (cutbox-rows.mjs): the forced cells as the released guide's own fill.sh prints them over the translation cda95e740655e5f1… (all of the seat's roots in one cut). By AI agents, Wed Nov 11 2026. No macro, syntax, notation, axiom, sorry.
-/
import Derived.Test.YtacbipoplnfmoaaChecked
import GoSem.Claim
import GoSem.ClaimJoined
import GoSem.ClaimMapViews
import Derived.JoinedTies
import Derived.KernelRfl
namespace Go.Proofs.Ytacbipoplnfmoaa
/- THE CELL 'sum', in the pinned program and in every row, IS THE sha256 OF THE DUMP (.gsa) THAT YtacbipoplnfmoaaProg.lean LOADS. Nothing in Lean hashes anything: it is a label: what it is worth is what the hold of that sum in a sandbox is worth. -/
noncomputable def Try.pinned : Pinned := { name := "ytacbipoplnfmoaa", sum := "cda95e740655e5f101365e84b590358b9ed71d381792e143c1ac2d3f6ba651c5", checked := Try.checked }
namespace Rows
def none {H : Type} : Left H := { results := [], args := [] }

/-- 'tollwaylaw45.ReliefChecks': WHATEVER THE INPUT: true; the input reads as it did. -/
def reliefChecksSpec : ChangeSpec := { name := "reliefChecks", fn := fun _ => fun
  | [d1, d2] => { results := [.lit (.bool true)], args := [d1, d2] }
  | _ => none }
def reliefChecksRow : OpenClaim := { program := "ytacbipoplnfmoaa", sum := "cda95e740655e5f101365e84b590358b9ed71d381792e143c1ac2d3f6ba651c5", func := "tollway/tollwaylaw45.ReliefChecks", spec := "reliefChecks", unfollowed := true, recurses := true, named := ["math/bits.divideError", "math/bits.overflowError"], apart := false }
def ReliefChecksSaid : Prop := reliefChecksRow.holds Try.pinned (OpenSpec.ofChange reliefChecksSpec)

/-- ITS FALSE NEIGHBOUR: 'it returns false'. Refute it at one input. -/
def reliefChecksWrong : ChangeSpec := { name := "reliefChecks", fn := fun _ => fun
  | [d1, d2] => { results := [.lit (.bool false)], args := [d1, d2] }
  | _ => none }
def ReliefChecksWrongFalsely : Prop := reliefChecksRow.holds Try.pinned (OpenSpec.ofChange reliefChecksWrong)

/-- 'tollwaylaw45.ReliefMore': WHATEVER THE INPUT: true; the input reads as it did. -/
def reliefMoreSpec : ChangeSpec := { name := "reliefMore", fn := fun _ => fun
  | [d1, d2, d3] => { results := [.lit (.bool true)], args := [d1, d2, d3] }
  | _ => none }
def reliefMoreRow : OpenClaim := { program := "ytacbipoplnfmoaa", sum := "cda95e740655e5f101365e84b590358b9ed71d381792e143c1ac2d3f6ba651c5", func := "tollway/tollwaylaw45.ReliefMore", spec := "reliefMore", unfollowed := true, recurses := true, named := ["math/bits.divideError", "math/bits.overflowError"], apart := false }
def ReliefMoreSaid : Prop := reliefMoreRow.holds Try.pinned (OpenSpec.ofChange reliefMoreSpec)

/-- ITS FALSE NEIGHBOUR: 'it returns false'. Refute it at one input. -/
def reliefMoreWrong : ChangeSpec := { name := "reliefMore", fn := fun _ => fun
  | [d1, d2, d3] => { results := [.lit (.bool false)], args := [d1, d2, d3] }
  | _ => none }
def ReliefMoreWrongFalsely : Prop := reliefMoreRow.holds Try.pinned (OpenSpec.ofChange reliefMoreWrong)

/- THE SECOND FORM. 'bulk': how many values and letters a reading holds, each counted each time it is reached (what is shared counts as often as it is met; a slice's spare places count too). A statement '..UptoSaid' is the law's where the arguments, and the package variables that the reading takes, are together of bulk at most 1048576: NARROWER than '..Said'. Prove '..Said' where nothing that the law and all that it calls make is longer than what came in: it says more and counts as full. Else prove '..UptoSaid'. A law counts once. -/
mutual
def uptoBulk {H : Type} : DataW H → Nat
  | .lit (.string bytes) => bytes.length + 1
  | .lit _ => 1
  | .nil => 1
  | .ptr d => uptoBulk d + 1
  | .slice elems spare => uptoBulkAll elems + uptoBulkAll spare + 1
  | .agg parts => uptoBulkAll parts + 1
  | .iface _ d => uptoBulk d + 1
  | .map entries => uptoBulkEntries entries + 1
  | .held _ => 1
def uptoBulkAll {H : Type} : List (DataW H) → Nat
  | [] => 0
  | d :: r => uptoBulk d + uptoBulkAll r
def uptoBulkEntries {H : Type} : List (Lit × DataW H) → Nat
  | [] => 0
  | x :: r => uptoBulkEntry x + uptoBulkEntries r
def uptoBulkEntry {H : Type} : Lit × DataW H → Nat
  | (.string bytes, d) => bytes.length + uptoBulk d + 1
  | (_, d) => uptoBulk d + 1
 end
def uptoSmall : (H : Type) → List (DataW H) → Bool := fun _ ds => decide (uptoBulkAll ds ≤ 1048576)
def OpenSpec.upto (s : _root_.Go.ChangeSpec) : _root_.Go.OpenSpec := { _root_.Go.OpenSpec.ofChange s with cond := some uptoSmall }

/-- 'tollwaylaw45.ReliefChecks', WHERE WHAT IT READS IS OF BULK AT MOST 1048576: true; the input reads as it did. -/
def reliefChecksUptoRow : OpenClaim := { program := "ytacbipoplnfmoaa", sum := "cda95e740655e5f101365e84b590358b9ed71d381792e143c1ac2d3f6ba651c5", func := "tollway/tollwaylaw45.ReliefChecks", spec := "reliefChecks", unfollowed := true, recurses := true, named := ["math/bits.divideError", "math/bits.overflowError"], apart := false, narrowed := true }
def ReliefChecksUptoSaid : Prop := reliefChecksUptoRow.holds Try.pinned (OpenSpec.upto reliefChecksSpec)

/-- 'tollwaylaw45.ReliefMore', WHERE WHAT IT READS IS OF BULK AT MOST 1048576: true; the input reads as it did. -/
def reliefMoreUptoRow : OpenClaim := { program := "ytacbipoplnfmoaa", sum := "cda95e740655e5f101365e84b590358b9ed71d381792e143c1ac2d3f6ba651c5", func := "tollway/tollwaylaw45.ReliefMore", spec := "reliefMore", unfollowed := true, recurses := true, named := ["math/bits.divideError", "math/bits.overflowError"], apart := false, narrowed := true }
def ReliefMoreUptoSaid : Prop := reliefMoreUptoRow.holds Try.pinned (OpenSpec.upto reliefMoreSpec)

end Rows
end Go.Proofs.Ytacbipoplnfmoaa
