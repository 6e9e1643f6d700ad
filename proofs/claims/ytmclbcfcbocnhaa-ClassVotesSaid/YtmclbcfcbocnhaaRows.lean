/-
  No cell of these rows narrows 'for every input' (looked for: loops, veiled, ifaces, maps, wideKeys, modest, calm, conditions, laid).
  DERIVED. THE GIVEN ROWS OF THIS SEAT. 6 by the template 'for every input the law returns true; each argument reads behind the call as it read before'; 0 by the template 'total and deterministic' (their statements: YtmclbcfcbocnhaaTotals.lean).
  GIVEN WITH THE SEED: the statements are not yours to turn. If you find one false, say at which input.
  Laid BY PROGRAM, IN A SANDBOX (cutbox-rows.mjs): the forced cells as the released guide's own fill.sh prints them over the translation 57b088a5e5d85174… (all of the seat's roots in one cut). By AI agents, Wed Nov 11 2026. No macro, syntax, notation, axiom, sorry.
-/
import Derived.Test.YtmclbcfcbocnhaaChecked
import GoSem.Claim
import GoSem.ClaimJoined
import GoSem.ClaimMapViews
import Derived.JoinedTies
import Derived.KernelRfl
namespace Go.Proofs.Ytmclbcfcbocnhaa
/- THE CELL 'sum', in the pinned program and in every row, IS THE sha256 OF THE DUMP (.gsa) THAT YtmclbcfcbocnhaaProg.lean LOADS. Nothing in Lean hashes anything: it is a label: what it is worth is what the hold of that sum in a sandbox is worth. -/
noncomputable def Try.pinned : Pinned := { name := "ytmclbcfcbocnhaa", sum := "57b088a5e5d8517434b5fe25d9d3f3b2ec7ca6f022837afb41f4ab847359f037", checked := Try.checked }
namespace Rows
def none {H : Type} : Left H := { results := [], args := [] }

/-- 'tollwaylaw12.ClassChecks': WHATEVER THE INPUT: true; the input reads as it did. -/
def classChecksSpec : ChangeSpec := { name := "classChecks", fn := fun _ => fun
  | [d] => { results := [.lit (.bool true)], args := [d] }
  | _ => none }
def classChecksRow : OpenClaim := { program := "ytmclbcfcbocnhaa", sum := "57b088a5e5d8517434b5fe25d9d3f3b2ec7ca6f022837afb41f4ab847359f037", func := "tollway/tollwaylaw12.ClassChecks", spec := "classChecks", apart := false }
def ClassChecksSaid : Prop := classChecksRow.holds Try.pinned (OpenSpec.ofChange classChecksSpec)

/-- ITS FALSE NEIGHBOUR: 'it returns false'. Refute it at one input. -/
def classChecksWrong : ChangeSpec := { name := "classChecks", fn := fun _ => fun
  | [d] => { results := [.lit (.bool false)], args := [d] }
  | _ => none }
def ClassChecksWrongFalsely : Prop := classChecksRow.holds Try.pinned (OpenSpec.ofChange classChecksWrong)

/-- 'tollwaylaw12.ClassFinds': WHATEVER THE INPUT: true; the input reads as it did. -/
def classFindsSpec : ChangeSpec := { name := "classFinds", fn := fun _ => fun
  | [d1, d2, d3] => { results := [.lit (.bool true)], args := [d1, d2, d3] }
  | _ => none }
def classFindsRow : OpenClaim := { program := "ytmclbcfcbocnhaa", sum := "57b088a5e5d8517434b5fe25d9d3f3b2ec7ca6f022837afb41f4ab847359f037", func := "tollway/tollwaylaw12.ClassFinds", spec := "classFinds", apart := false }
def ClassFindsSaid : Prop := classFindsRow.holds Try.pinned (OpenSpec.ofChange classFindsSpec)

/-- ITS FALSE NEIGHBOUR: 'it returns false'. Refute it at one input. -/
def classFindsWrong : ChangeSpec := { name := "classFinds", fn := fun _ => fun
  | [d1, d2, d3] => { results := [.lit (.bool false)], args := [d1, d2, d3] }
  | _ => none }
def ClassFindsWrongFalsely : Prop := classFindsRow.holds Try.pinned (OpenSpec.ofChange classFindsWrong)

/-- 'tollwaylaw12.ClassReconciles': WHATEVER THE INPUT: true; the input reads as it did. -/
def classReconcilesSpec : ChangeSpec := { name := "classReconciles", fn := fun _ => fun
  | [d1, d2] => { results := [.lit (.bool true)], args := [d1, d2] }
  | _ => none }
def classReconcilesRow : OpenClaim := { program := "ytmclbcfcbocnhaa", sum := "57b088a5e5d8517434b5fe25d9d3f3b2ec7ca6f022837afb41f4ab847359f037", func := "tollway/tollwaylaw12.ClassReconciles", spec := "classReconciles", apart := false }
def ClassReconcilesSaid : Prop := classReconcilesRow.holds Try.pinned (OpenSpec.ofChange classReconcilesSpec)

/-- ITS FALSE NEIGHBOUR: 'it returns false'. Refute it at one input. -/
def classReconcilesWrong : ChangeSpec := { name := "classReconciles", fn := fun _ => fun
  | [d1, d2] => { results := [.lit (.bool false)], args := [d1, d2] }
  | _ => none }
def ClassReconcilesWrongFalsely : Prop := classReconcilesRow.holds Try.pinned (OpenSpec.ofChange classReconcilesWrong)

/-- 'tollwaylaw12.ClassMajorities': WHATEVER THE INPUT: true; the input reads as it did. -/
def classMajoritiesSpec : ChangeSpec := { name := "classMajorities", fn := fun _ => fun
  | [d] => { results := [.lit (.bool true)], args := [d] }
  | _ => none }
def classMajoritiesRow : OpenClaim := { program := "ytmclbcfcbocnhaa", sum := "57b088a5e5d8517434b5fe25d9d3f3b2ec7ca6f022837afb41f4ab847359f037", func := "tollway/tollwaylaw12.ClassMajorities", spec := "classMajorities", apart := false }
def ClassMajoritiesSaid : Prop := classMajoritiesRow.holds Try.pinned (OpenSpec.ofChange classMajoritiesSpec)

/-- ITS FALSE NEIGHBOUR: 'it returns false'. Refute it at one input. -/
def classMajoritiesWrong : ChangeSpec := { name := "classMajorities", fn := fun _ => fun
  | [d] => { results := [.lit (.bool false)], args := [d] }
  | _ => none }
def ClassMajoritiesWrongFalsely : Prop := classMajoritiesRow.holds Try.pinned (OpenSpec.ofChange classMajoritiesWrong)

/-- 'tollwaylaw12.ClassPartition': WHATEVER THE INPUT: true; the input reads as it did. -/
def classPartitionSpec : ChangeSpec := { name := "classPartition", fn := fun _ => fun
  | [d] => { results := [.lit (.bool true)], args := [d] }
  | _ => none }
def classPartitionRow : OpenClaim := { program := "ytmclbcfcbocnhaa", sum := "57b088a5e5d8517434b5fe25d9d3f3b2ec7ca6f022837afb41f4ab847359f037", func := "tollway/tollwaylaw12.ClassPartition", spec := "classPartition", apart := false }
def ClassPartitionSaid : Prop := classPartitionRow.holds Try.pinned (OpenSpec.ofChange classPartitionSpec)

/-- ITS FALSE NEIGHBOUR: 'it returns false'. Refute it at one input. -/
def classPartitionWrong : ChangeSpec := { name := "classPartition", fn := fun _ => fun
  | [d] => { results := [.lit (.bool false)], args := [d] }
  | _ => none }
def ClassPartitionWrongFalsely : Prop := classPartitionRow.holds Try.pinned (OpenSpec.ofChange classPartitionWrong)

/-- 'tollwaylaw12.ClassVotes': WHATEVER THE INPUT: true; the input reads as it did. -/
def classVotesSpec : ChangeSpec := { name := "classVotes", fn := fun _ => fun
  | [d1, d2] => { results := [.lit (.bool true)], args := [d1, d2] }
  | _ => none }
def classVotesRow : OpenClaim := { program := "ytmclbcfcbocnhaa", sum := "57b088a5e5d8517434b5fe25d9d3f3b2ec7ca6f022837afb41f4ab847359f037", func := "tollway/tollwaylaw12.ClassVotes", spec := "classVotes", apart := false }
def ClassVotesSaid : Prop := classVotesRow.holds Try.pinned (OpenSpec.ofChange classVotesSpec)

/-- ITS FALSE NEIGHBOUR: 'it returns false'. Refute it at one input. -/
def classVotesWrong : ChangeSpec := { name := "classVotes", fn := fun _ => fun
  | [d1, d2] => { results := [.lit (.bool false)], args := [d1, d2] }
  | _ => none }
def ClassVotesWrongFalsely : Prop := classVotesRow.holds Try.pinned (OpenSpec.ofChange classVotesWrong)

/- THE SECOND FORM. 'bulk': how many values and letters a reading holds, each counted each time it is reached (what is shared counts as often as it is met; a slice's spare places count too). A statement '..UptoSaid' is the law's where the arguments, and the package variables that the reading takes, are together of bulk at most 1048576: NARROWER than '..Said'. Prove '..Said' where nothing that the law and all that it calls make is longer than what came in: it says more and counts as full. Else prove '..UptoSaid'. A law counts once. -/
mutual
def uptoBulk {H : Type} : DataW H → Nat
  | .lit (.string bytes) => bytes.length + 1
  | .lit _ => 1
  | .nil => 1
  | .ptr d => uptoBulk d + 1
  | .slice elems spare => uptoBulkAll elems + uptoBulkAll spare + 1
  | .agg parts => uptoBulkAll parts + 1
  | .iface _ d => uptoBulk d + 1
  | .map entries => uptoBulkEntries entries + 1
  | .held _ => 1
def uptoBulkAll {H : Type} : List (DataW H) → Nat
  | [] => 0
  | d :: r => uptoBulk d + uptoBulkAll r
def uptoBulkEntries {H : Type} : List (Lit × DataW H) → Nat
  | [] => 0
  | x :: r => uptoBulkEntry x + uptoBulkEntries r
def uptoBulkEntry {H : Type} : Lit × DataW H → Nat
  | (.string bytes, d) => bytes.length + uptoBulk d + 1
  | (_, d) => uptoBulk d + 1
 end
def uptoSmall : (H : Type) → List (DataW H) → Bool := fun _ ds => decide (uptoBulkAll ds ≤ 1048576)
def OpenSpec.upto (s : _root_.Go.ChangeSpec) : _root_.Go.OpenSpec := { _root_.Go.OpenSpec.ofChange s with cond := some uptoSmall }

/-- 'tollwaylaw12.ClassChecks', WHERE WHAT IT READS IS OF BULK AT MOST 1048576: true; the input reads as it did. -/
def classChecksUptoRow : OpenClaim := { program := "ytmclbcfcbocnhaa", sum := "57b088a5e5d8517434b5fe25d9d3f3b2ec7ca6f022837afb41f4ab847359f037", func := "tollway/tollwaylaw12.ClassChecks", spec := "classChecks", apart := false, narrowed := true }
def ClassChecksUptoSaid : Prop := classChecksUptoRow.holds Try.pinned (OpenSpec.upto classChecksSpec)

/-- 'tollwaylaw12.ClassFinds', WHERE WHAT IT READS IS OF BULK AT MOST 1048576: true; the input reads as it did. -/
def classFindsUptoRow : OpenClaim := { program := "ytmclbcfcbocnhaa", sum := "57b088a5e5d8517434b5fe25d9d3f3b2ec7ca6f022837afb41f4ab847359f037", func := "tollway/tollwaylaw12.ClassFinds", spec := "classFinds", apart := false, narrowed := true }
def ClassFindsUptoSaid : Prop := classFindsUptoRow.holds Try.pinned (OpenSpec.upto classFindsSpec)

/-- 'tollwaylaw12.ClassReconciles', WHERE WHAT IT READS IS OF BULK AT MOST 1048576: true; the input reads as it did. -/
def classReconcilesUptoRow : OpenClaim := { program := "ytmclbcfcbocnhaa", sum := "57b088a5e5d8517434b5fe25d9d3f3b2ec7ca6f022837afb41f4ab847359f037", func := "tollway/tollwaylaw12.ClassReconciles", spec := "classReconciles", apart := false, narrowed := true }
def ClassReconcilesUptoSaid : Prop := classReconcilesUptoRow.holds Try.pinned (OpenSpec.upto classReconcilesSpec)

/-- 'tollwaylaw12.ClassMajorities', WHERE WHAT IT READS IS OF BULK AT MOST 1048576: true; the input reads as it did. -/
def classMajoritiesUptoRow : OpenClaim := { program := "ytmclbcfcbocnhaa", sum := "57b088a5e5d8517434b5fe25d9d3f3b2ec7ca6f022837afb41f4ab847359f037", func := "tollway/tollwaylaw12.ClassMajorities", spec := "classMajorities", apart := false, narrowed := true }
def ClassMajoritiesUptoSaid : Prop := classMajoritiesUptoRow.holds Try.pinned (OpenSpec.upto classMajoritiesSpec)

/-- 'tollwaylaw12.ClassPartition', WHERE WHAT IT READS IS OF BULK AT MOST 1048576: true; the input reads as it did. -/
def classPartitionUptoRow : OpenClaim := { program := "ytmclbcfcbocnhaa", sum := "57b088a5e5d8517434b5fe25d9d3f3b2ec7ca6f022837afb41f4ab847359f037", func := "tollway/tollwaylaw12.ClassPartition", spec := "classPartition", apart := false, narrowed := true }
def ClassPartitionUptoSaid : Prop := classPartitionUptoRow.holds Try.pinned (OpenSpec.upto classPartitionSpec)

/-- 'tollwaylaw12.ClassVotes', WHERE WHAT IT READS IS OF BULK AT MOST 1048576: true; the input reads as it did. -/
def classVotesUptoRow : OpenClaim := { program := "ytmclbcfcbocnhaa", sum := "57b088a5e5d8517434b5fe25d9d3f3b2ec7ca6f022837afb41f4ab847359f037", func := "tollway/tollwaylaw12.ClassVotes", spec := "classVotes", apart := false, narrowed := true }
def ClassVotesUptoSaid : Prop := classVotesUptoRow.holds Try.pinned (OpenSpec.upto classVotesSpec)

end Rows
end Go.Proofs.Ytmclbcfcbocnhaa
