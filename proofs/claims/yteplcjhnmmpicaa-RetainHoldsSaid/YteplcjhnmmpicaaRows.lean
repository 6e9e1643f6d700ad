/-
  No cell of these rows narrows 'for every input' (looked for: loops, veiled, ifaces, maps, wideKeys, modest, calm, conditions, laid).
  DERIVED. THE GIVEN ROWS OF THIS SEAT. 6 by the template 'for every input the law returns true; each argument reads behind the call as it read before'; 0 by the template 'total and deterministic' (their statements: YteplcjhnmmpicaaTotals.lean).
  GIVEN WITH THE SEED: the statements are not yours to turn. If you find one false, say at which input.
  Laid BY PROGRAM, IN A SANDBOX (cutbox-rows.mjs): the forced cells as the released guide's own fill.sh prints them over the translation 8fe3a6013103d549… (all of the seat's roots in one cut). By AI agents, Wed Nov 11 2026. No macro, syntax, notation, axiom, sorry.
-/
import Derived.Test.YteplcjhnmmpicaaChecked
import GoSem.Claim
import GoSem.ClaimJoined
import GoSem.ClaimMapViews
import Derived.JoinedTies
import Derived.KernelRfl
namespace Go.Proofs.Yteplcjhnmmpicaa
/- THE CELL 'sum', in the pinned program and in every row, IS THE sha256 OF THE DUMP (.gsa) THAT YteplcjhnmmpicaaProg.lean LOADS. Nothing in Lean hashes anything: it is a label: what it is worth is what the hold of that sum in a sandbox is worth. -/
noncomputable def Try.pinned : Pinned := { name := "yteplcjhnmmpicaa", sum := "8fe3a6013103d549ad34188213b1813917054c1a845b9fb847c166ceaf955d6a", checked := Try.checked }
namespace Rows
def none {H : Type} : Left H := { results := [], args := [] }

/-- 'tollwaylaw40.RetainUntils': WHATEVER THE INPUT: true; the input reads as it did. -/
def retainUntilsSpec : ChangeSpec := { name := "retainUntils", fn := fun _ => fun
  | [d1, d2, d3] => { results := [.lit (.bool true)], args := [d1, d2, d3] }
  | _ => none }
def retainUntilsRow : OpenClaim := { program := "yteplcjhnmmpicaa", sum := "8fe3a6013103d549ad34188213b1813917054c1a845b9fb847c166ceaf955d6a", func := "tollway/tollwaylaw40.RetainUntils", spec := "retainUntils", unfollowed := true, recurses := true, apart := false }
def RetainUntilsSaid : Prop := retainUntilsRow.holds Try.pinned (OpenSpec.ofChange retainUntilsSpec)

/-- ITS FALSE NEIGHBOUR: 'it returns false'. Refute it at one input. -/
def retainUntilsWrong : ChangeSpec := { name := "retainUntils", fn := fun _ => fun
  | [d1, d2, d3] => { results := [.lit (.bool false)], args := [d1, d2, d3] }
  | _ => none }
def RetainUntilsWrongFalsely : Prop := retainUntilsRow.holds Try.pinned (OpenSpec.ofChange retainUntilsWrong)

/-- 'tollwaylaw40.RetainPurges': WHATEVER THE INPUT: true; the input reads as it did. -/
def retainPurgesSpec : ChangeSpec := { name := "retainPurges", fn := fun _ => fun
  | [d1, d2] => { results := [.lit (.bool true)], args := [d1, d2] }
  | _ => none }
def retainPurgesRow : OpenClaim := { program := "yteplcjhnmmpicaa", sum := "8fe3a6013103d549ad34188213b1813917054c1a845b9fb847c166ceaf955d6a", func := "tollway/tollwaylaw40.RetainPurges", spec := "retainPurges", unfollowed := true, recurses := true, apart := false }
def RetainPurgesSaid : Prop := retainPurgesRow.holds Try.pinned (OpenSpec.ofChange retainPurgesSpec)

/-- ITS FALSE NEIGHBOUR: 'it returns false'. Refute it at one input. -/
def retainPurgesWrong : ChangeSpec := { name := "retainPurges", fn := fun _ => fun
  | [d1, d2] => { results := [.lit (.bool false)], args := [d1, d2] }
  | _ => none }
def RetainPurgesWrongFalsely : Prop := retainPurgesRow.holds Try.pinned (OpenSpec.ofChange retainPurgesWrong)

/-- 'tollwaylaw40.RetainHolds': WHATEVER THE INPUT: true; the input reads as it did. -/
def retainHoldsSpec : ChangeSpec := { name := "retainHolds", fn := fun _ => fun
  | [d1, d2, d3] => { results := [.lit (.bool true)], args := [d1, d2, d3] }
  | _ => none }
def retainHoldsRow : OpenClaim := { program := "yteplcjhnmmpicaa", sum := "8fe3a6013103d549ad34188213b1813917054c1a845b9fb847c166ceaf955d6a", func := "tollway/tollwaylaw40.RetainHolds", spec := "retainHolds", unfollowed := true, recurses := true, apart := false }
def RetainHoldsSaid : Prop := retainHoldsRow.holds Try.pinned (OpenSpec.ofChange retainHoldsSpec)

/-- ITS FALSE NEIGHBOUR: 'it returns false'. Refute it at one input. -/
def retainHoldsWrong : ChangeSpec := { name := "retainHolds", fn := fun _ => fun
  | [d1, d2, d3] => { results := [.lit (.bool false)], args := [d1, d2, d3] }
  | _ => none }
def RetainHoldsWrongFalsely : Prop := retainHoldsRow.holds Try.pinned (OpenSpec.ofChange retainHoldsWrong)

/-- 'tollwaylaw40.RetainPartition': WHATEVER THE INPUT: true; the input reads as it did. -/
def retainPartitionSpec : ChangeSpec := { name := "retainPartition", fn := fun _ => fun
  | [d1, d2, d3] => { results := [.lit (.bool true)], args := [d1, d2, d3] }
  | _ => none }
def retainPartitionRow : OpenClaim := { program := "yteplcjhnmmpicaa", sum := "8fe3a6013103d549ad34188213b1813917054c1a845b9fb847c166ceaf955d6a", func := "tollway/tollwaylaw40.RetainPartition", spec := "retainPartition", unfollowed := true, recurses := true, apart := false }
def RetainPartitionSaid : Prop := retainPartitionRow.holds Try.pinned (OpenSpec.ofChange retainPartitionSpec)

/-- ITS FALSE NEIGHBOUR: 'it returns false'. Refute it at one input. -/
def retainPartitionWrong : ChangeSpec := { name := "retainPartition", fn := fun _ => fun
  | [d1, d2, d3] => { results := [.lit (.bool false)], args := [d1, d2, d3] }
  | _ => none }
def RetainPartitionWrongFalsely : Prop := retainPartitionRow.holds Try.pinned (OpenSpec.ofChange retainPartitionWrong)

/-- 'tollwaylaw40.RetainBack': WHATEVER THE INPUT: true; the input reads as it did. -/
def retainBackSpec : ChangeSpec := { name := "retainBack", fn := fun _ => fun
  | [d1, d2, d3] => { results := [.lit (.bool true)], args := [d1, d2, d3] }
  | _ => none }
def retainBackRow : OpenClaim := { program := "yteplcjhnmmpicaa", sum := "8fe3a6013103d549ad34188213b1813917054c1a845b9fb847c166ceaf955d6a", func := "tollway/tollwaylaw40.RetainBack", spec := "retainBack", unfollowed := true, recurses := true, apart := false }
def RetainBackSaid : Prop := retainBackRow.holds Try.pinned (OpenSpec.ofChange retainBackSpec)

/-- ITS FALSE NEIGHBOUR: 'it returns false'. Refute it at one input. -/
def retainBackWrong : ChangeSpec := { name := "retainBack", fn := fun _ => fun
  | [d1, d2, d3] => { results := [.lit (.bool false)], args := [d1, d2, d3] }
  | _ => none }
def RetainBackWrongFalsely : Prop := retainBackRow.holds Try.pinned (OpenSpec.ofChange retainBackWrong)

/-- 'tollwaylaw40.RetainNexts': WHATEVER THE INPUT: true; the input reads as it did. -/
def retainNextsSpec : ChangeSpec := { name := "retainNexts", fn := fun _ => fun
  | [d1, d2, d3] => { results := [.lit (.bool true)], args := [d1, d2, d3] }
  | _ => none }
def retainNextsRow : OpenClaim := { program := "yteplcjhnmmpicaa", sum := "8fe3a6013103d549ad34188213b1813917054c1a845b9fb847c166ceaf955d6a", func := "tollway/tollwaylaw40.RetainNexts", spec := "retainNexts", unfollowed := true, recurses := true, apart := false }
def RetainNextsSaid : Prop := retainNextsRow.holds Try.pinned (OpenSpec.ofChange retainNextsSpec)

/-- ITS FALSE NEIGHBOUR: 'it returns false'. Refute it at one input. -/
def retainNextsWrong : ChangeSpec := { name := "retainNexts", fn := fun _ => fun
  | [d1, d2, d3] => { results := [.lit (.bool false)], args := [d1, d2, d3] }
  | _ => none }
def RetainNextsWrongFalsely : Prop := retainNextsRow.holds Try.pinned (OpenSpec.ofChange retainNextsWrong)

/- THE SECOND FORM. 'bulk': how many values and letters a reading holds, each counted each time it is reached (what is shared counts as often as it is met; a slice's spare places count too). A statement '..UptoSaid' is the law's where the arguments, and the package variables that the reading takes, are together of bulk at most 1048576: NARROWER than '..Said'. Prove '..Said' where nothing that the law and all that it calls make is longer than what came in: it says more and counts as full. Else prove '..UptoSaid'. A law counts once. -/
mutual
def uptoBulk {H : Type} : DataW H → Nat
  | .lit (.string bytes) => bytes.length + 1
  | .lit _ => 1
  | .nil => 1
  | .ptr d => uptoBulk d + 1
  | .slice elems spare => uptoBulkAll elems + uptoBulkAll spare + 1
  | .agg parts => uptoBulkAll parts + 1
  | .iface _ d => uptoBulk d + 1
  | .map entries => uptoBulkEntries entries + 1
  | .held _ => 1
def uptoBulkAll {H : Type} : List (DataW H) → Nat
  | [] => 0
  | d :: r => uptoBulk d + uptoBulkAll r
def uptoBulkEntries {H : Type} : List (Lit × DataW H) → Nat
  | [] => 0
  | x :: r => uptoBulkEntry x + uptoBulkEntries r
def uptoBulkEntry {H : Type} : Lit × DataW H → Nat
  | (.string bytes, d) => bytes.length + uptoBulk d + 1
  | (_, d) => uptoBulk d + 1
 end
def uptoSmall : (H : Type) → List (DataW H) → Bool := fun _ ds => decide (uptoBulkAll ds ≤ 1048576)
def OpenSpec.upto (s : _root_.Go.ChangeSpec) : _root_.Go.OpenSpec := { _root_.Go.OpenSpec.ofChange s with cond := some uptoSmall }

/-- 'tollwaylaw40.RetainUntils', WHERE WHAT IT READS IS OF BULK AT MOST 1048576: true; the input reads as it did. -/
def retainUntilsUptoRow : OpenClaim := { program := "yteplcjhnmmpicaa", sum := "8fe3a6013103d549ad34188213b1813917054c1a845b9fb847c166ceaf955d6a", func := "tollway/tollwaylaw40.RetainUntils", spec := "retainUntils", unfollowed := true, recurses := true, apart := false, narrowed := true }
def RetainUntilsUptoSaid : Prop := retainUntilsUptoRow.holds Try.pinned (OpenSpec.upto retainUntilsSpec)

/-- 'tollwaylaw40.RetainPurges', WHERE WHAT IT READS IS OF BULK AT MOST 1048576: true; the input reads as it did. -/
def retainPurgesUptoRow : OpenClaim := { program := "yteplcjhnmmpicaa", sum := "8fe3a6013103d549ad34188213b1813917054c1a845b9fb847c166ceaf955d6a", func := "tollway/tollwaylaw40.RetainPurges", spec := "retainPurges", unfollowed := true, recurses := true, apart := false, narrowed := true }
def RetainPurgesUptoSaid : Prop := retainPurgesUptoRow.holds Try.pinned (OpenSpec.upto retainPurgesSpec)

/-- 'tollwaylaw40.RetainHolds', WHERE WHAT IT READS IS OF BULK AT MOST 1048576: true; the input reads as it did. -/
def retainHoldsUptoRow : OpenClaim := { program := "yteplcjhnmmpicaa", sum := "8fe3a6013103d549ad34188213b1813917054c1a845b9fb847c166ceaf955d6a", func := "tollway/tollwaylaw40.RetainHolds", spec := "retainHolds", unfollowed := true, recurses := true, apart := false, narrowed := true }
def RetainHoldsUptoSaid : Prop := retainHoldsUptoRow.holds Try.pinned (OpenSpec.upto retainHoldsSpec)

/-- 'tollwaylaw40.RetainPartition', WHERE WHAT IT READS IS OF BULK AT MOST 1048576: true; the input reads as it did. -/
def retainPartitionUptoRow : OpenClaim := { program := "yteplcjhnmmpicaa", sum := "8fe3a6013103d549ad34188213b1813917054c1a845b9fb847c166ceaf955d6a", func := "tollway/tollwaylaw40.RetainPartition", spec := "retainPartition", unfollowed := true, recurses := true, apart := false, narrowed := true }
def RetainPartitionUptoSaid : Prop := retainPartitionUptoRow.holds Try.pinned (OpenSpec.upto retainPartitionSpec)

/-- 'tollwaylaw40.RetainBack', WHERE WHAT IT READS IS OF BULK AT MOST 1048576: true; the input reads as it did. -/
def retainBackUptoRow : OpenClaim := { program := "yteplcjhnmmpicaa", sum := "8fe3a6013103d549ad34188213b1813917054c1a845b9fb847c166ceaf955d6a", func := "tollway/tollwaylaw40.RetainBack", spec := "retainBack", unfollowed := true, recurses := true, apart := false, narrowed := true }
def RetainBackUptoSaid : Prop := retainBackUptoRow.holds Try.pinned (OpenSpec.upto retainBackSpec)

/-- 'tollwaylaw40.RetainNexts', WHERE WHAT IT READS IS OF BULK AT MOST 1048576: true; the input reads as it did. -/
def retainNextsUptoRow : OpenClaim := { program := "yteplcjhnmmpicaa", sum := "8fe3a6013103d549ad34188213b1813917054c1a845b9fb847c166ceaf955d6a", func := "tollway/tollwaylaw40.RetainNexts", spec := "retainNexts", unfollowed := true, recurses := true, apart := false, narrowed := true }
def RetainNextsUptoSaid : Prop := retainNextsUptoRow.holds Try.pinned (OpenSpec.upto retainNextsSpec)

end Rows
end Go.Proofs.Yteplcjhnmmpicaa
