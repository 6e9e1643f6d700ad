/-
  No cell of these rows narrows 'for every input' (looked for: loops, veiled, ifaces, maps, wideKeys, modest, calm, conditions, laid).
  DERIVED. THE GIVEN ROWS OF THIS SEAT. 3 by the template 'for every input the law returns true; each argument reads behind the call as it read before'; 0 by the template 'total and deterministic' (their statements: YtdhhpnkdokdjkaaTotals.lean).
  GIVEN WITH THE SEED: the statements are not yours to turn. If you find one false, say at which input.
  Laid BY PROGRAM, IN A SANDBOX (cutbox-rows.mjs): the forced cells as the released guide's own fill.sh prints them over the translation 9f7ab88db77c13e3… (all of the seat's roots in one cut). By AI agents, Wed Nov 11 2026. No macro, syntax, notation, axiom, sorry.
-/
import Derived.Test.YtdhhpnkdokdjkaaChecked
import GoSem.Claim
import GoSem.ClaimJoined
import GoSem.ClaimMapViews
import Derived.JoinedTies
import Derived.KernelRfl
namespace Go.Proofs.Ytdhhpnkdokdjkaa
/- THE CELL 'sum', in the pinned program and in every row, IS THE sha256 OF THE DUMP (.gsa) THAT YtdhhpnkdokdjkaaProg.lean LOADS. Nothing in Lean hashes anything: it is a label: what it is worth is what the hold of that sum in a sandbox is worth. -/
noncomputable def Try.pinned : Pinned := { name := "ytdhhpnkdokdjkaa", sum := "9f7ab88db77c13e3b88f1f6594b729aceefbfdd3cdb7df768b8bbaaa7ad9600a", checked := Try.checked }
namespace Rows
def none {H : Type} : Left H := { results := [], args := [] }

/-- 'tollwaylaw15.ScorePairs': WHATEVER THE INPUT: true; the input reads as it did. -/
def scorePairsSpec : ChangeSpec := { name := "scorePairs", fn := fun _ => fun
  | [d1, d2, d3, d4] => { results := [.lit (.bool true)], args := [d1, d2, d3, d4] }
  | _ => none }
def scorePairsRow : OpenClaim := { program := "ytdhhpnkdokdjkaa", sum := "9f7ab88db77c13e3b88f1f6594b729aceefbfdd3cdb7df768b8bbaaa7ad9600a", func := "tollway/tollwaylaw15.ScorePairs", spec := "scorePairs", inPlace := ["internal/bytealg.IndexByteString"], unfollowed := true, recurses := true, apart := false }
def ScorePairsSaid : Prop := scorePairsRow.holds Try.pinned (OpenSpec.ofChange scorePairsSpec)

/-- ITS FALSE NEIGHBOUR: 'it returns false'. Refute it at one input. -/
def scorePairsWrong : ChangeSpec := { name := "scorePairs", fn := fun _ => fun
  | [d1, d2, d3, d4] => { results := [.lit (.bool false)], args := [d1, d2, d3, d4] }
  | _ => none }
def ScorePairsWrongFalsely : Prop := scorePairsRow.holds Try.pinned (OpenSpec.ofChange scorePairsWrong)

/-- 'tollwaylaw15.ScoreConfidences': WHATEVER THE INPUT: true; the input reads as it did. -/
def scoreConfidencesSpec : ChangeSpec := { name := "scoreConfidences", fn := fun _ => fun
  | [d1, d2, d3, d4] => { results := [.lit (.bool true)], args := [d1, d2, d3, d4] }
  | _ => none }
def scoreConfidencesRow : OpenClaim := { program := "ytdhhpnkdokdjkaa", sum := "9f7ab88db77c13e3b88f1f6594b729aceefbfdd3cdb7df768b8bbaaa7ad9600a", func := "tollway/tollwaylaw15.ScoreConfidences", spec := "scoreConfidences", inPlace := ["internal/bytealg.IndexByteString"], unfollowed := true, recurses := true, apart := false }
def ScoreConfidencesSaid : Prop := scoreConfidencesRow.holds Try.pinned (OpenSpec.ofChange scoreConfidencesSpec)

/-- ITS FALSE NEIGHBOUR: 'it returns false'. Refute it at one input. -/
def scoreConfidencesWrong : ChangeSpec := { name := "scoreConfidences", fn := fun _ => fun
  | [d1, d2, d3, d4] => { results := [.lit (.bool false)], args := [d1, d2, d3, d4] }
  | _ => none }
def ScoreConfidencesWrongFalsely : Prop := scoreConfidencesRow.holds Try.pinned (OpenSpec.ofChange scoreConfidencesWrong)

/-- 'tollwaylaw15.ScoreDistances': WHATEVER THE INPUT: true; the input reads as it did. -/
def scoreDistancesSpec : ChangeSpec := { name := "scoreDistances", fn := fun _ => fun
  | [d1, d2, d3, d4] => { results := [.lit (.bool true)], args := [d1, d2, d3, d4] }
  | _ => none }
def scoreDistancesRow : OpenClaim := { program := "ytdhhpnkdokdjkaa", sum := "9f7ab88db77c13e3b88f1f6594b729aceefbfdd3cdb7df768b8bbaaa7ad9600a", func := "tollway/tollwaylaw15.ScoreDistances", spec := "scoreDistances", inPlace := ["internal/bytealg.IndexByteString"], unfollowed := true, recurses := true, apart := false }
def ScoreDistancesSaid : Prop := scoreDistancesRow.holds Try.pinned (OpenSpec.ofChange scoreDistancesSpec)

/-- ITS FALSE NEIGHBOUR: 'it returns false'. Refute it at one input. -/
def scoreDistancesWrong : ChangeSpec := { name := "scoreDistances", fn := fun _ => fun
  | [d1, d2, d3, d4] => { results := [.lit (.bool false)], args := [d1, d2, d3, d4] }
  | _ => none }
def ScoreDistancesWrongFalsely : Prop := scoreDistancesRow.holds Try.pinned (OpenSpec.ofChange scoreDistancesWrong)

/- THE SECOND FORM. 'bulk': how many values and letters a reading holds, each counted each time it is reached (what is shared counts as often as it is met; a slice's spare places count too). A statement '..UptoSaid' is the law's where the arguments, and the package variables that the reading takes, are together of bulk at most 1048576: NARROWER than '..Said'. Prove '..Said' where nothing that the law and all that it calls make is longer than what came in: it says more and counts as full. Else prove '..UptoSaid'. A law counts once. -/
mutual
def uptoBulk {H : Type} : DataW H → Nat
  | .lit (.string bytes) => bytes.length + 1
  | .lit _ => 1
  | .nil => 1
  | .ptr d => uptoBulk d + 1
  | .slice elems spare => uptoBulkAll elems + uptoBulkAll spare + 1
  | .agg parts => uptoBulkAll parts + 1
  | .iface _ d => uptoBulk d + 1
  | .map entries => uptoBulkEntries entries + 1
  | .held _ => 1
def uptoBulkAll {H : Type} : List (DataW H) → Nat
  | [] => 0
  | d :: r => uptoBulk d + uptoBulkAll r
def uptoBulkEntries {H : Type} : List (Lit × DataW H) → Nat
  | [] => 0
  | x :: r => uptoBulkEntry x + uptoBulkEntries r
def uptoBulkEntry {H : Type} : Lit × DataW H → Nat
  | (.string bytes, d) => bytes.length + uptoBulk d + 1
  | (_, d) => uptoBulk d + 1
 end
def uptoSmall : (H : Type) → List (DataW H) → Bool := fun _ ds => decide (uptoBulkAll ds ≤ 1048576)
def OpenSpec.upto (s : _root_.Go.ChangeSpec) : _root_.Go.OpenSpec := { _root_.Go.OpenSpec.ofChange s with cond := some uptoSmall }

/-- 'tollwaylaw15.ScorePairs', WHERE WHAT IT READS IS OF BULK AT MOST 1048576: true; the input reads as it did. -/
def scorePairsUptoRow : OpenClaim := { program := "ytdhhpnkdokdjkaa", sum := "9f7ab88db77c13e3b88f1f6594b729aceefbfdd3cdb7df768b8bbaaa7ad9600a", func := "tollway/tollwaylaw15.ScorePairs", spec := "scorePairs", inPlace := ["internal/bytealg.IndexByteString"], unfollowed := true, recurses := true, apart := false, narrowed := true }
def ScorePairsUptoSaid : Prop := scorePairsUptoRow.holds Try.pinned (OpenSpec.upto scorePairsSpec)

/-- 'tollwaylaw15.ScoreConfidences', WHERE WHAT IT READS IS OF BULK AT MOST 1048576: true; the input reads as it did. -/
def scoreConfidencesUptoRow : OpenClaim := { program := "ytdhhpnkdokdjkaa", sum := "9f7ab88db77c13e3b88f1f6594b729aceefbfdd3cdb7df768b8bbaaa7ad9600a", func := "tollway/tollwaylaw15.ScoreConfidences", spec := "scoreConfidences", inPlace := ["internal/bytealg.IndexByteString"], unfollowed := true, recurses := true, apart := false, narrowed := true }
def ScoreConfidencesUptoSaid : Prop := scoreConfidencesUptoRow.holds Try.pinned (OpenSpec.upto scoreConfidencesSpec)

/-- 'tollwaylaw15.ScoreDistances', WHERE WHAT IT READS IS OF BULK AT MOST 1048576: true; the input reads as it did. -/
def scoreDistancesUptoRow : OpenClaim := { program := "ytdhhpnkdokdjkaa", sum := "9f7ab88db77c13e3b88f1f6594b729aceefbfdd3cdb7df768b8bbaaa7ad9600a", func := "tollway/tollwaylaw15.ScoreDistances", spec := "scoreDistances", inPlace := ["internal/bytealg.IndexByteString"], unfollowed := true, recurses := true, apart := false, narrowed := true }
def ScoreDistancesUptoSaid : Prop := scoreDistancesUptoRow.holds Try.pinned (OpenSpec.upto scoreDistancesSpec)

end Rows
end Go.Proofs.Ytdhhpnkdokdjkaa
