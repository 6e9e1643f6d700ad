/-
  NARROWER THAN 'FOR EVERY INPUT', by the rows' own cells (each row's printed sentence says how): PlateNormals: laid · PlateDistances: laid · PlateLikes: laid · PlateNears: laid · PlateVotes: laid · PlateSymmetric: laid · PlateNormalAgain: laid · PlateVoteLeast: laid.
  DERIVED. THE GIVEN ROWS OF THIS SEAT. 8 by the template 'for every input the law returns true; each argument reads behind the call as it read before'; 0 by the template 'total and deterministic' (their statements: YtldglchpaookiaaDoorTotals.lean).
  GIVEN WITH THE SEED: the statements are not yours to turn. If you find one false, say at which input.
  Laid BY PROGRAM, IN A SANDBOX (cutbox-rows.mjs): the forced cells as the released guide's own fill.sh prints them over the translation 34707d4f2f92a368… (all of the seat's roots in one cut). By AI agents, Wed Nov 11 2026. No macro, syntax, notation, axiom, sorry.
-/
import Derived.Test.YtldglchpaookiaaDoorChecked
import GoSem.PinnedTables
import GoSem.Claim
import GoSem.ClaimJoined
import GoSem.ClaimMapViews
import Derived.JoinedTies
import Derived.KernelRfl
namespace Go.Proofs.YtldglchpaookiaaDoor
/- THE CELL 'sum', in the pinned program and in every row, IS THE sha256 OF THE DUMP (.gsa) THAT YtldglchpaookiaaDoorProg.lean LOADS. Nothing in Lean hashes anything: it is a label: what it is worth is what the hold of that sum in a sandbox is worth. -/
noncomputable def Tryd.pinned : Pinned := { name := "ytldglchpaookiaadoor", sum := "34707d4f2f92a36899f5c4c81bd06dc8ab1c4ac9d7eb3604e38a4c00a4c9d07b", checked := Tryd.checked }
namespace Rows
def none {H : Type} : Left H := { results := [], args := [] }

/- WHAT THE LISTED PACKAGE-LEVEL VARIABLES READ AS WHEN THE CALL BEGINS. Each datum BY PROGRAM (the guide's laid-datum.mjs) off the statement by which the dump's own 'gosem.cut.vars' lays the variable. In a bare row this is a premise. The card (YtldglchpaookiaaDoorCards.lean) ties it to the program's text. -/
def laid_unicode_utf8_acceptRanges {H : Type} : DataW H := .agg [.agg [.lit (.int .u8 128), .lit (.int .u8 191)], .agg [.lit (.int .u8 160), .lit (.int .u8 191)], .agg [.lit (.int .u8 128), .lit (.int .u8 159)], .agg [.lit (.int .u8 144), .lit (.int .u8 191)], .agg [.lit (.int .u8 128), .lit (.int .u8 143)], .agg [.lit (.int .u8 0), .lit (.int .u8 0)], .agg [.lit (.int .u8 0), .lit (.int .u8 0)], .agg [.lit (.int .u8 0), .lit (.int .u8 0)], .agg [.lit (.int .u8 0), .lit (.int .u8 0)], .agg [.lit (.int .u8 0), .lit (.int .u8 0)], .agg [.lit (.int .u8 0), .lit (.int .u8 0)], .agg [.lit (.int .u8 0), .lit (.int .u8 0)], .agg [.lit (.int .u8 0), .lit (.int .u8 0)], .agg [.lit (.int .u8 0), .lit (.int .u8 0)], .agg [.lit (.int .u8 0), .lit (.int .u8 0)], .agg [.lit (.int .u8 0), .lit (.int .u8 0)]]
/-- One of Go's own tables, pinned by name: the form's constant. -/
def laid_unicode_utf8_first : DataW Unit := Go.Pinned.utf8First

/-- 'tollwaylaw10.PlateNormals': WHATEVER THE INPUT: true; the input reads as it did. -/
def plateNormalsSpec : ChangeSpec := { name := "plateNormals", fn := fun _ => fun
  | [d] => { results := [.lit (.bool true)], args := [d] }
  | _ => none }
def plateNormalsRow : OpenClaim := { program := "ytldglchpaookiaadoor", sum := "34707d4f2f92a36899f5c4c81bd06dc8ab1c4ac9d7eb3604e38a4c00a4c9d07b", func := "tollway/tollwaylaw10.PlateNormals", spec := "plateNormals", inPlace := ["internal/abi.NoEscape", "internal/bytealg.MakeNoZero", "internal/bytealg.IndexByteString"], unfollowed := true, recurses := true, named := ["unicode/utf8.first", "unicode/utf8.acceptRanges"], apart := false, laid := [("unicode/utf8.acceptRanges", laid_unicode_utf8_acceptRanges), ("unicode/utf8.first", laid_unicode_utf8_first)] }
def PlateNormalsSaid : Prop := plateNormalsRow.holds Tryd.pinned (OpenSpec.ofChange plateNormalsSpec)

/-- ITS FALSE NEIGHBOUR: 'it returns false'. Refute it at one input. -/
def plateNormalsWrong : ChangeSpec := { name := "plateNormals", fn := fun _ => fun
  | [d] => { results := [.lit (.bool false)], args := [d] }
  | _ => none }
def PlateNormalsWrongFalsely : Prop := plateNormalsRow.holds Tryd.pinned (OpenSpec.ofChange plateNormalsWrong)

/-- 'tollwaylaw10.PlateDistances': WHATEVER THE INPUT: true; the input reads as it did. -/
def plateDistancesSpec : ChangeSpec := { name := "plateDistances", fn := fun _ => fun
  | [d1, d2] => { results := [.lit (.bool true)], args := [d1, d2] }
  | _ => none }
def plateDistancesRow : OpenClaim := { program := "ytldglchpaookiaadoor", sum := "34707d4f2f92a36899f5c4c81bd06dc8ab1c4ac9d7eb3604e38a4c00a4c9d07b", func := "tollway/tollwaylaw10.PlateDistances", spec := "plateDistances", inPlace := ["internal/abi.NoEscape", "internal/bytealg.MakeNoZero", "internal/bytealg.IndexByteString"], unfollowed := true, recurses := true, named := ["unicode/utf8.first", "unicode/utf8.acceptRanges"], apart := false, laid := [("unicode/utf8.acceptRanges", laid_unicode_utf8_acceptRanges), ("unicode/utf8.first", laid_unicode_utf8_first)] }
def PlateDistancesSaid : Prop := plateDistancesRow.holds Tryd.pinned (OpenSpec.ofChange plateDistancesSpec)

/-- ITS FALSE NEIGHBOUR: 'it returns false'. Refute it at one input. -/
def plateDistancesWrong : ChangeSpec := { name := "plateDistances", fn := fun _ => fun
  | [d1, d2] => { results := [.lit (.bool false)], args := [d1, d2] }
  | _ => none }
def PlateDistancesWrongFalsely : Prop := plateDistancesRow.holds Tryd.pinned (OpenSpec.ofChange plateDistancesWrong)

/-- 'tollwaylaw10.PlateLikes': WHATEVER THE INPUT: true; the input reads as it did. -/
def plateLikesSpec : ChangeSpec := { name := "plateLikes", fn := fun _ => fun
  | [d1, d2] => { results := [.lit (.bool true)], args := [d1, d2] }
  | _ => none }
def plateLikesRow : OpenClaim := { program := "ytldglchpaookiaadoor", sum := "34707d4f2f92a36899f5c4c81bd06dc8ab1c4ac9d7eb3604e38a4c00a4c9d07b", func := "tollway/tollwaylaw10.PlateLikes", spec := "plateLikes", inPlace := ["internal/bytealg.IndexByteString", "internal/abi.NoEscape", "internal/bytealg.MakeNoZero"], unfollowed := true, recurses := true, named := ["unicode/utf8.first", "unicode/utf8.acceptRanges"], apart := false, laid := [("unicode/utf8.acceptRanges", laid_unicode_utf8_acceptRanges), ("unicode/utf8.first", laid_unicode_utf8_first)] }
def PlateLikesSaid : Prop := plateLikesRow.holds Tryd.pinned (OpenSpec.ofChange plateLikesSpec)

/-- ITS FALSE NEIGHBOUR: 'it returns false'. Refute it at one input. -/
def plateLikesWrong : ChangeSpec := { name := "plateLikes", fn := fun _ => fun
  | [d1, d2] => { results := [.lit (.bool false)], args := [d1, d2] }
  | _ => none }
def PlateLikesWrongFalsely : Prop := plateLikesRow.holds Tryd.pinned (OpenSpec.ofChange plateLikesWrong)

/-- 'tollwaylaw10.PlateNears': WHATEVER THE INPUT: true; the input reads as it did. -/
def plateNearsSpec : ChangeSpec := { name := "plateNears", fn := fun _ => fun
  | [d1, d2, d3] => { results := [.lit (.bool true)], args := [d1, d2, d3] }
  | _ => none }
def plateNearsRow : OpenClaim := { program := "ytldglchpaookiaadoor", sum := "34707d4f2f92a36899f5c4c81bd06dc8ab1c4ac9d7eb3604e38a4c00a4c9d07b", func := "tollway/tollwaylaw10.PlateNears", spec := "plateNears", inPlace := ["internal/abi.NoEscape", "internal/bytealg.MakeNoZero", "internal/bytealg.IndexByteString"], unfollowed := true, recurses := true, named := ["unicode/utf8.first", "unicode/utf8.acceptRanges"], apart := false, laid := [("unicode/utf8.acceptRanges", laid_unicode_utf8_acceptRanges), ("unicode/utf8.first", laid_unicode_utf8_first)] }
def PlateNearsSaid : Prop := plateNearsRow.holds Tryd.pinned (OpenSpec.ofChange plateNearsSpec)

/-- ITS FALSE NEIGHBOUR: 'it returns false'. Refute it at one input. -/
def plateNearsWrong : ChangeSpec := { name := "plateNears", fn := fun _ => fun
  | [d1, d2, d3] => { results := [.lit (.bool false)], args := [d1, d2, d3] }
  | _ => none }
def PlateNearsWrongFalsely : Prop := plateNearsRow.holds Tryd.pinned (OpenSpec.ofChange plateNearsWrong)

/-- 'tollwaylaw10.PlateVotes': WHATEVER THE INPUT: true; the input reads as it did. -/
def plateVotesSpec : ChangeSpec := { name := "plateVotes", fn := fun _ => fun
  | [d1, d2] => { results := [.lit (.bool true)], args := [d1, d2] }
  | _ => none }
def plateVotesRow : OpenClaim := { program := "ytldglchpaookiaadoor", sum := "34707d4f2f92a36899f5c4c81bd06dc8ab1c4ac9d7eb3604e38a4c00a4c9d07b", func := "tollway/tollwaylaw10.PlateVotes", spec := "plateVotes", inPlace := ["internal/abi.NoEscape", "internal/bytealg.MakeNoZero", "internal/bytealg.IndexByteString"], unfollowed := true, recurses := true, named := ["unicode/utf8.first", "unicode/utf8.acceptRanges"], apart := false, laid := [("unicode/utf8.acceptRanges", laid_unicode_utf8_acceptRanges), ("unicode/utf8.first", laid_unicode_utf8_first)] }
def PlateVotesSaid : Prop := plateVotesRow.holds Tryd.pinned (OpenSpec.ofChange plateVotesSpec)

/-- ITS FALSE NEIGHBOUR: 'it returns false'. Refute it at one input. -/
def plateVotesWrong : ChangeSpec := { name := "plateVotes", fn := fun _ => fun
  | [d1, d2] => { results := [.lit (.bool false)], args := [d1, d2] }
  | _ => none }
def PlateVotesWrongFalsely : Prop := plateVotesRow.holds Tryd.pinned (OpenSpec.ofChange plateVotesWrong)

/-- 'tollwaylaw10.PlateSymmetric': WHATEVER THE INPUT: true; the input reads as it did. -/
def plateSymmetricSpec : ChangeSpec := { name := "plateSymmetric", fn := fun _ => fun
  | [d1, d2] => { results := [.lit (.bool true)], args := [d1, d2] }
  | _ => none }
def plateSymmetricRow : OpenClaim := { program := "ytldglchpaookiaadoor", sum := "34707d4f2f92a36899f5c4c81bd06dc8ab1c4ac9d7eb3604e38a4c00a4c9d07b", func := "tollway/tollwaylaw10.PlateSymmetric", spec := "plateSymmetric", inPlace := ["internal/abi.NoEscape", "internal/bytealg.MakeNoZero", "internal/bytealg.IndexByteString"], unfollowed := true, recurses := true, named := ["unicode/utf8.first", "unicode/utf8.acceptRanges"], apart := false, laid := [("unicode/utf8.acceptRanges", laid_unicode_utf8_acceptRanges), ("unicode/utf8.first", laid_unicode_utf8_first)] }
def PlateSymmetricSaid : Prop := plateSymmetricRow.holds Tryd.pinned (OpenSpec.ofChange plateSymmetricSpec)

/-- ITS FALSE NEIGHBOUR: 'it returns false'. Refute it at one input. -/
def plateSymmetricWrong : ChangeSpec := { name := "plateSymmetric", fn := fun _ => fun
  | [d1, d2] => { results := [.lit (.bool false)], args := [d1, d2] }
  | _ => none }
def PlateSymmetricWrongFalsely : Prop := plateSymmetricRow.holds Tryd.pinned (OpenSpec.ofChange plateSymmetricWrong)

/-- 'tollwaylaw10.PlateNormalAgain': WHATEVER THE INPUT: true; the input reads as it did. -/
def plateNormalAgainSpec : ChangeSpec := { name := "plateNormalAgain", fn := fun _ => fun
  | [d] => { results := [.lit (.bool true)], args := [d] }
  | _ => none }
def plateNormalAgainRow : OpenClaim := { program := "ytldglchpaookiaadoor", sum := "34707d4f2f92a36899f5c4c81bd06dc8ab1c4ac9d7eb3604e38a4c00a4c9d07b", func := "tollway/tollwaylaw10.PlateNormalAgain", spec := "plateNormalAgain", inPlace := ["internal/abi.NoEscape", "internal/bytealg.MakeNoZero", "internal/bytealg.IndexByteString"], unfollowed := true, recurses := true, named := ["unicode/utf8.first", "unicode/utf8.acceptRanges"], apart := false, laid := [("unicode/utf8.acceptRanges", laid_unicode_utf8_acceptRanges), ("unicode/utf8.first", laid_unicode_utf8_first)] }
def PlateNormalAgainSaid : Prop := plateNormalAgainRow.holds Tryd.pinned (OpenSpec.ofChange plateNormalAgainSpec)

/-- ITS FALSE NEIGHBOUR: 'it returns false'. Refute it at one input. -/
def plateNormalAgainWrong : ChangeSpec := { name := "plateNormalAgain", fn := fun _ => fun
  | [d] => { results := [.lit (.bool false)], args := [d] }
  | _ => none }
def PlateNormalAgainWrongFalsely : Prop := plateNormalAgainRow.holds Tryd.pinned (OpenSpec.ofChange plateNormalAgainWrong)

/-- 'tollwaylaw10.PlateVoteLeast': WHATEVER THE INPUT: true; the input reads as it did. -/
def plateVoteLeastSpec : ChangeSpec := { name := "plateVoteLeast", fn := fun _ => fun
  | [d1, d2] => { results := [.lit (.bool true)], args := [d1, d2] }
  | _ => none }
def plateVoteLeastRow : OpenClaim := { program := "ytldglchpaookiaadoor", sum := "34707d4f2f92a36899f5c4c81bd06dc8ab1c4ac9d7eb3604e38a4c00a4c9d07b", func := "tollway/tollwaylaw10.PlateVoteLeast", spec := "plateVoteLeast", inPlace := ["internal/abi.NoEscape", "internal/bytealg.MakeNoZero", "internal/bytealg.IndexByteString"], unfollowed := true, recurses := true, named := ["unicode/utf8.first", "unicode/utf8.acceptRanges"], apart := false, laid := [("unicode/utf8.acceptRanges", laid_unicode_utf8_acceptRanges), ("unicode/utf8.first", laid_unicode_utf8_first)] }
def PlateVoteLeastSaid : Prop := plateVoteLeastRow.holds Tryd.pinned (OpenSpec.ofChange plateVoteLeastSpec)

/-- ITS FALSE NEIGHBOUR: 'it returns false'. Refute it at one input. -/
def plateVoteLeastWrong : ChangeSpec := { name := "plateVoteLeast", fn := fun _ => fun
  | [d1, d2] => { results := [.lit (.bool false)], args := [d1, d2] }
  | _ => none }
def PlateVoteLeastWrongFalsely : Prop := plateVoteLeastRow.holds Tryd.pinned (OpenSpec.ofChange plateVoteLeastWrong)

/- THE SECOND FORM. 'bulk': how many values and letters a reading holds, each counted each time it is reached (what is shared counts as often as it is met; a slice's spare places count too). A statement '..UptoSaid' is the law's where the arguments, and the package variables that the reading takes, are together of bulk at most 1048576: NARROWER than '..Said'. Prove '..Said' where nothing that the law and all that it calls make is longer than what came in: it says more and counts as full. Else prove '..UptoSaid'. A law counts once. -/
mutual
def uptoBulk {H : Type} : DataW H → Nat
  | .lit (.string bytes) => bytes.length + 1
  | .lit _ => 1
  | .nil => 1
  | .ptr d => uptoBulk d + 1
  | .slice elems spare => uptoBulkAll elems + uptoBulkAll spare + 1
  | .agg parts => uptoBulkAll parts + 1
  | .iface _ d => uptoBulk d + 1
  | .map entries => uptoBulkEntries entries + 1
  | .held _ => 1
def uptoBulkAll {H : Type} : List (DataW H) → Nat
  | [] => 0
  | d :: r => uptoBulk d + uptoBulkAll r
def uptoBulkEntries {H : Type} : List (Lit × DataW H) → Nat
  | [] => 0
  | x :: r => uptoBulkEntry x + uptoBulkEntries r
def uptoBulkEntry {H : Type} : Lit × DataW H → Nat
  | (.string bytes, d) => bytes.length + uptoBulk d + 1
  | (_, d) => uptoBulk d + 1
 end
def uptoSmall : (H : Type) → List (DataW H) → Bool := fun _ ds => decide (uptoBulkAll ds ≤ 1048576)
def OpenSpec.upto (s : _root_.Go.ChangeSpec) : _root_.Go.OpenSpec := { _root_.Go.OpenSpec.ofChange s with cond := some uptoSmall }

/-- 'tollwaylaw10.PlateNormals', WHERE WHAT IT READS IS OF BULK AT MOST 1048576: true; the input reads as it did. -/
def plateNormalsUptoRow : OpenClaim := { program := "ytldglchpaookiaadoor", sum := "34707d4f2f92a36899f5c4c81bd06dc8ab1c4ac9d7eb3604e38a4c00a4c9d07b", func := "tollway/tollwaylaw10.PlateNormals", spec := "plateNormals", inPlace := ["internal/abi.NoEscape", "internal/bytealg.MakeNoZero", "internal/bytealg.IndexByteString"], unfollowed := true, recurses := true, named := ["unicode/utf8.first", "unicode/utf8.acceptRanges"], apart := false, laid := [("unicode/utf8.acceptRanges", laid_unicode_utf8_acceptRanges), ("unicode/utf8.first", laid_unicode_utf8_first)], narrowed := true }
def PlateNormalsUptoSaid : Prop := plateNormalsUptoRow.holds Tryd.pinned (OpenSpec.upto plateNormalsSpec)

/-- 'tollwaylaw10.PlateDistances', WHERE WHAT IT READS IS OF BULK AT MOST 1048576: true; the input reads as it did. -/
def plateDistancesUptoRow : OpenClaim := { program := "ytldglchpaookiaadoor", sum := "34707d4f2f92a36899f5c4c81bd06dc8ab1c4ac9d7eb3604e38a4c00a4c9d07b", func := "tollway/tollwaylaw10.PlateDistances", spec := "plateDistances", inPlace := ["internal/abi.NoEscape", "internal/bytealg.MakeNoZero", "internal/bytealg.IndexByteString"], unfollowed := true, recurses := true, named := ["unicode/utf8.first", "unicode/utf8.acceptRanges"], apart := false, laid := [("unicode/utf8.acceptRanges", laid_unicode_utf8_acceptRanges), ("unicode/utf8.first", laid_unicode_utf8_first)], narrowed := true }
def PlateDistancesUptoSaid : Prop := plateDistancesUptoRow.holds Tryd.pinned (OpenSpec.upto plateDistancesSpec)

/-- 'tollwaylaw10.PlateLikes', WHERE WHAT IT READS IS OF BULK AT MOST 1048576: true; the input reads as it did. -/
def plateLikesUptoRow : OpenClaim := { program := "ytldglchpaookiaadoor", sum := "34707d4f2f92a36899f5c4c81bd06dc8ab1c4ac9d7eb3604e38a4c00a4c9d07b", func := "tollway/tollwaylaw10.PlateLikes", spec := "plateLikes", inPlace := ["internal/bytealg.IndexByteString", "internal/abi.NoEscape", "internal/bytealg.MakeNoZero"], unfollowed := true, recurses := true, named := ["unicode/utf8.first", "unicode/utf8.acceptRanges"], apart := false, laid := [("unicode/utf8.acceptRanges", laid_unicode_utf8_acceptRanges), ("unicode/utf8.first", laid_unicode_utf8_first)], narrowed := true }
def PlateLikesUptoSaid : Prop := plateLikesUptoRow.holds Tryd.pinned (OpenSpec.upto plateLikesSpec)

/-- 'tollwaylaw10.PlateNears', WHERE WHAT IT READS IS OF BULK AT MOST 1048576: true; the input reads as it did. -/
def plateNearsUptoRow : OpenClaim := { program := "ytldglchpaookiaadoor", sum := "34707d4f2f92a36899f5c4c81bd06dc8ab1c4ac9d7eb3604e38a4c00a4c9d07b", func := "tollway/tollwaylaw10.PlateNears", spec := "plateNears", inPlace := ["internal/abi.NoEscape", "internal/bytealg.MakeNoZero", "internal/bytealg.IndexByteString"], unfollowed := true, recurses := true, named := ["unicode/utf8.first", "unicode/utf8.acceptRanges"], apart := false, laid := [("unicode/utf8.acceptRanges", laid_unicode_utf8_acceptRanges), ("unicode/utf8.first", laid_unicode_utf8_first)], narrowed := true }
def PlateNearsUptoSaid : Prop := plateNearsUptoRow.holds Tryd.pinned (OpenSpec.upto plateNearsSpec)

/-- 'tollwaylaw10.PlateVotes', WHERE WHAT IT READS IS OF BULK AT MOST 1048576: true; the input reads as it did. -/
def plateVotesUptoRow : OpenClaim := { program := "ytldglchpaookiaadoor", sum := "34707d4f2f92a36899f5c4c81bd06dc8ab1c4ac9d7eb3604e38a4c00a4c9d07b", func := "tollway/tollwaylaw10.PlateVotes", spec := "plateVotes", inPlace := ["internal/abi.NoEscape", "internal/bytealg.MakeNoZero", "internal/bytealg.IndexByteString"], unfollowed := true, recurses := true, named := ["unicode/utf8.first", "unicode/utf8.acceptRanges"], apart := false, laid := [("unicode/utf8.acceptRanges", laid_unicode_utf8_acceptRanges), ("unicode/utf8.first", laid_unicode_utf8_first)], narrowed := true }
def PlateVotesUptoSaid : Prop := plateVotesUptoRow.holds Tryd.pinned (OpenSpec.upto plateVotesSpec)

/-- 'tollwaylaw10.PlateSymmetric', WHERE WHAT IT READS IS OF BULK AT MOST 1048576: true; the input reads as it did. -/
def plateSymmetricUptoRow : OpenClaim := { program := "ytldglchpaookiaadoor", sum := "34707d4f2f92a36899f5c4c81bd06dc8ab1c4ac9d7eb3604e38a4c00a4c9d07b", func := "tollway/tollwaylaw10.PlateSymmetric", spec := "plateSymmetric", inPlace := ["internal/abi.NoEscape", "internal/bytealg.MakeNoZero", "internal/bytealg.IndexByteString"], unfollowed := true, recurses := true, named := ["unicode/utf8.first", "unicode/utf8.acceptRanges"], apart := false, laid := [("unicode/utf8.acceptRanges", laid_unicode_utf8_acceptRanges), ("unicode/utf8.first", laid_unicode_utf8_first)], narrowed := true }
def PlateSymmetricUptoSaid : Prop := plateSymmetricUptoRow.holds Tryd.pinned (OpenSpec.upto plateSymmetricSpec)

/-- 'tollwaylaw10.PlateNormalAgain', WHERE WHAT IT READS IS OF BULK AT MOST 1048576: true; the input reads as it did. -/
def plateNormalAgainUptoRow : OpenClaim := { program := "ytldglchpaookiaadoor", sum := "34707d4f2f92a36899f5c4c81bd06dc8ab1c4ac9d7eb3604e38a4c00a4c9d07b", func := "tollway/tollwaylaw10.PlateNormalAgain", spec := "plateNormalAgain", inPlace := ["internal/abi.NoEscape", "internal/bytealg.MakeNoZero", "internal/bytealg.IndexByteString"], unfollowed := true, recurses := true, named := ["unicode/utf8.first", "unicode/utf8.acceptRanges"], apart := false, laid := [("unicode/utf8.acceptRanges", laid_unicode_utf8_acceptRanges), ("unicode/utf8.first", laid_unicode_utf8_first)], narrowed := true }
def PlateNormalAgainUptoSaid : Prop := plateNormalAgainUptoRow.holds Tryd.pinned (OpenSpec.upto plateNormalAgainSpec)

/-- 'tollwaylaw10.PlateVoteLeast', WHERE WHAT IT READS IS OF BULK AT MOST 1048576: true; the input reads as it did. -/
def plateVoteLeastUptoRow : OpenClaim := { program := "ytldglchpaookiaadoor", sum := "34707d4f2f92a36899f5c4c81bd06dc8ab1c4ac9d7eb3604e38a4c00a4c9d07b", func := "tollway/tollwaylaw10.PlateVoteLeast", spec := "plateVoteLeast", inPlace := ["internal/abi.NoEscape", "internal/bytealg.MakeNoZero", "internal/bytealg.IndexByteString"], unfollowed := true, recurses := true, named := ["unicode/utf8.first", "unicode/utf8.acceptRanges"], apart := false, laid := [("unicode/utf8.acceptRanges", laid_unicode_utf8_acceptRanges), ("unicode/utf8.first", laid_unicode_utf8_first)], narrowed := true }
def PlateVoteLeastUptoSaid : Prop := plateVoteLeastUptoRow.holds Tryd.pinned (OpenSpec.upto plateVoteLeastSpec)

end Rows
end Go.Proofs.YtldglchpaookiaaDoor
