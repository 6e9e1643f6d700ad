/-
  NARROWER THAN 'FOR EVERY INPUT', by the rows' own cells (each row's printed sentence says how): AppealFiles: laid · AppealDecides: laid · AppealAsks: laid · AppealStops: laid · AppealOnce: laid · AppealDelays: laid.
  DERIVED. THE GIVEN ROWS OF THIS SEAT. 6 by the template 'for every input the law returns true; each argument reads behind the call as it read before'; 0 by the template 'total and deterministic' (their statements: YtadfkfgachlgeaaDoorTotals.lean).
  GIVEN WITH THE SEED: the statements are not yours to turn. If you find one false, say at which input.
  Laid BY PROGRAM, IN A SANDBOX (cutbox-rows.mjs): the forced cells as the released guide's own fill.sh prints them over the translation f7c38f3dc0e1f130… (all of the seat's roots in one cut). By AI agents, Wed Nov 11 2026. No macro, syntax, notation, axiom, sorry.
-/
import Derived.Test.YtadfkfgachlgeaaDoorChecked
import GoSem.PinnedTables
import GoSem.Claim
import GoSem.ClaimJoined
import GoSem.ClaimMapViews
import Derived.JoinedTies
import Derived.KernelRfl
namespace Go.Proofs.YtadfkfgachlgeaaDoor
/- THE CELL 'sum', in the pinned program and in every row, IS THE sha256 OF THE DUMP (.gsa) THAT YtadfkfgachlgeaaDoorProg.lean LOADS. Nothing in Lean hashes anything: it is a label: what it is worth is what the hold of that sum in a sandbox is worth. -/
noncomputable def Tryd.pinned : Pinned := { name := "ytadfkfgachlgeaadoor", sum := "f7c38f3dc0e1f130d6c39845b3729bc7b8447dcd9d829b06ab9f9a69b5434cd9", checked := Tryd.checked }
namespace Rows
def none {H : Type} : Left H := { results := [], args := [] }

/- WHAT THE LISTED PACKAGE-LEVEL VARIABLES READ AS WHEN THE CALL BEGINS. Each datum BY PROGRAM (the guide's laid-datum.mjs) off the statement by which the dump's own 'gosem.cut.vars' lays the variable. In a bare row this is a premise. The card (YtadfkfgachlgeaaDoorCards.lean) ties it to the program's text. -/
def laid_unicode_utf8_acceptRanges {H : Type} : DataW H := .agg [.agg [.lit (.int .u8 128), .lit (.int .u8 191)], .agg [.lit (.int .u8 160), .lit (.int .u8 191)], .agg [.lit (.int .u8 128), .lit (.int .u8 159)], .agg [.lit (.int .u8 144), .lit (.int .u8 191)], .agg [.lit (.int .u8 128), .lit (.int .u8 143)], .agg [.lit (.int .u8 0), .lit (.int .u8 0)], .agg [.lit (.int .u8 0), .lit (.int .u8 0)], .agg [.lit (.int .u8 0), .lit (.int .u8 0)], .agg [.lit (.int .u8 0), .lit (.int .u8 0)], .agg [.lit (.int .u8 0), .lit (.int .u8 0)], .agg [.lit (.int .u8 0), .lit (.int .u8 0)], .agg [.lit (.int .u8 0), .lit (.int .u8 0)], .agg [.lit (.int .u8 0), .lit (.int .u8 0)], .agg [.lit (.int .u8 0), .lit (.int .u8 0)], .agg [.lit (.int .u8 0), .lit (.int .u8 0)], .agg [.lit (.int .u8 0), .lit (.int .u8 0)]]
def laid_tollway_appeal_grounds {H : Type} : DataW H := .agg [.lit (.string [100, 114, 105, 118, 101, 114]), .lit (.string [115, 111, 108, 100]), .lit (.string [115, 116, 111, 108, 101, 110]), .lit (.string [112, 97, 105, 100]), .lit (.string [109, 105, 115, 114, 101, 97, 100])]
/-- One of Go's own tables, pinned by name: the form's constant. -/
def laid_unicode_utf8_first : DataW Unit := Go.Pinned.utf8First

/-- 'tollwaylaw39.AppealFiles': WHATEVER THE INPUT: true; the input reads as it did. -/
def appealFilesSpec : ChangeSpec := { name := "appealFiles", fn := fun _ => fun
  | [d1, d2, d3, d4, d5] => { results := [.lit (.bool true)], args := [d1, d2, d3, d4, d5] }
  | _ => none }
def appealFilesRow : OpenClaim := { program := "ytadfkfgachlgeaadoor", sum := "f7c38f3dc0e1f130d6c39845b3729bc7b8447dcd9d829b06ab9f9a69b5434cd9", func := "tollway/tollwaylaw39.AppealFiles", spec := "appealFiles", inPlace := ["internal/abi.NoEscape", "internal/bytealg.MakeNoZero"], unfollowed := true, recurses := true, named := ["unicode/utf8.first", "unicode/utf8.acceptRanges", "tollway/appeal.grounds"], apart := false, laid := [("unicode/utf8.acceptRanges", laid_unicode_utf8_acceptRanges), ("tollway/appeal.grounds", laid_tollway_appeal_grounds), ("unicode/utf8.first", laid_unicode_utf8_first)] }
def AppealFilesSaid : Prop := appealFilesRow.holds Tryd.pinned (OpenSpec.ofChange appealFilesSpec)

/-- ITS FALSE NEIGHBOUR: 'it returns false'. Refute it at one input. -/
def appealFilesWrong : ChangeSpec := { name := "appealFiles", fn := fun _ => fun
  | [d1, d2, d3, d4, d5] => { results := [.lit (.bool false)], args := [d1, d2, d3, d4, d5] }
  | _ => none }
def AppealFilesWrongFalsely : Prop := appealFilesRow.holds Tryd.pinned (OpenSpec.ofChange appealFilesWrong)

/-- 'tollwaylaw39.AppealDecides': WHATEVER THE INPUT: true; the input reads as it did. -/
def appealDecidesSpec : ChangeSpec := { name := "appealDecides", fn := fun _ => fun
  | [d1, d2, d3, d4, d5] => { results := [.lit (.bool true)], args := [d1, d2, d3, d4, d5] }
  | _ => none }
def appealDecidesRow : OpenClaim := { program := "ytadfkfgachlgeaadoor", sum := "f7c38f3dc0e1f130d6c39845b3729bc7b8447dcd9d829b06ab9f9a69b5434cd9", func := "tollway/tollwaylaw39.AppealDecides", spec := "appealDecides", inPlace := ["internal/abi.NoEscape", "internal/bytealg.MakeNoZero"], unfollowed := true, recurses := true, named := ["unicode/utf8.first", "unicode/utf8.acceptRanges", "tollway/appeal.grounds"], apart := false, laid := [("unicode/utf8.acceptRanges", laid_unicode_utf8_acceptRanges), ("tollway/appeal.grounds", laid_tollway_appeal_grounds), ("unicode/utf8.first", laid_unicode_utf8_first)] }
def AppealDecidesSaid : Prop := appealDecidesRow.holds Tryd.pinned (OpenSpec.ofChange appealDecidesSpec)

/-- ITS FALSE NEIGHBOUR: 'it returns false'. Refute it at one input. -/
def appealDecidesWrong : ChangeSpec := { name := "appealDecides", fn := fun _ => fun
  | [d1, d2, d3, d4, d5] => { results := [.lit (.bool false)], args := [d1, d2, d3, d4, d5] }
  | _ => none }
def AppealDecidesWrongFalsely : Prop := appealDecidesRow.holds Tryd.pinned (OpenSpec.ofChange appealDecidesWrong)

/-- 'tollwaylaw39.AppealAsks': WHATEVER THE INPUT: true; the input reads as it did. -/
def appealAsksSpec : ChangeSpec := { name := "appealAsks", fn := fun _ => fun
  | [d1, d2, d3, d4] => { results := [.lit (.bool true)], args := [d1, d2, d3, d4] }
  | _ => none }
def appealAsksRow : OpenClaim := { program := "ytadfkfgachlgeaadoor", sum := "f7c38f3dc0e1f130d6c39845b3729bc7b8447dcd9d829b06ab9f9a69b5434cd9", func := "tollway/tollwaylaw39.AppealAsks", spec := "appealAsks", inPlace := ["internal/abi.NoEscape", "internal/bytealg.MakeNoZero"], unfollowed := true, recurses := true, named := ["tollway/appeal.grounds", "unicode/utf8.first", "unicode/utf8.acceptRanges"], apart := false, laid := [("unicode/utf8.acceptRanges", laid_unicode_utf8_acceptRanges), ("tollway/appeal.grounds", laid_tollway_appeal_grounds), ("unicode/utf8.first", laid_unicode_utf8_first)] }
def AppealAsksSaid : Prop := appealAsksRow.holds Tryd.pinned (OpenSpec.ofChange appealAsksSpec)

/-- ITS FALSE NEIGHBOUR: 'it returns false'. Refute it at one input. -/
def appealAsksWrong : ChangeSpec := { name := "appealAsks", fn := fun _ => fun
  | [d1, d2, d3, d4] => { results := [.lit (.bool false)], args := [d1, d2, d3, d4] }
  | _ => none }
def AppealAsksWrongFalsely : Prop := appealAsksRow.holds Tryd.pinned (OpenSpec.ofChange appealAsksWrong)

/-- 'tollwaylaw39.AppealStops': WHATEVER THE INPUT: true; the input reads as it did. -/
def appealStopsSpec : ChangeSpec := { name := "appealStops", fn := fun _ => fun
  | [d1, d2, d3, d4, d5, d6] => { results := [.lit (.bool true)], args := [d1, d2, d3, d4, d5, d6] }
  | _ => none }
def appealStopsRow : OpenClaim := { program := "ytadfkfgachlgeaadoor", sum := "f7c38f3dc0e1f130d6c39845b3729bc7b8447dcd9d829b06ab9f9a69b5434cd9", func := "tollway/tollwaylaw39.AppealStops", spec := "appealStops", inPlace := ["internal/abi.NoEscape", "internal/bytealg.MakeNoZero"], unfollowed := true, recurses := true, named := ["unicode/utf8.first", "unicode/utf8.acceptRanges", "tollway/appeal.grounds"], apart := false, laid := [("unicode/utf8.acceptRanges", laid_unicode_utf8_acceptRanges), ("tollway/appeal.grounds", laid_tollway_appeal_grounds), ("unicode/utf8.first", laid_unicode_utf8_first)] }
def AppealStopsSaid : Prop := appealStopsRow.holds Tryd.pinned (OpenSpec.ofChange appealStopsSpec)

/-- ITS FALSE NEIGHBOUR: 'it returns false'. Refute it at one input. -/
def appealStopsWrong : ChangeSpec := { name := "appealStops", fn := fun _ => fun
  | [d1, d2, d3, d4, d5, d6] => { results := [.lit (.bool false)], args := [d1, d2, d3, d4, d5, d6] }
  | _ => none }
def AppealStopsWrongFalsely : Prop := appealStopsRow.holds Tryd.pinned (OpenSpec.ofChange appealStopsWrong)

/-- 'tollwaylaw39.AppealOnce': WHATEVER THE INPUT: true; the input reads as it did. -/
def appealOnceSpec : ChangeSpec := { name := "appealOnce", fn := fun _ => fun
  | [d1, d2, d3, d4, d5, d6] => { results := [.lit (.bool true)], args := [d1, d2, d3, d4, d5, d6] }
  | _ => none }
def appealOnceRow : OpenClaim := { program := "ytadfkfgachlgeaadoor", sum := "f7c38f3dc0e1f130d6c39845b3729bc7b8447dcd9d829b06ab9f9a69b5434cd9", func := "tollway/tollwaylaw39.AppealOnce", spec := "appealOnce", inPlace := ["internal/abi.NoEscape", "internal/bytealg.MakeNoZero"], unfollowed := true, recurses := true, named := ["unicode/utf8.first", "unicode/utf8.acceptRanges", "tollway/appeal.grounds"], apart := false, laid := [("unicode/utf8.acceptRanges", laid_unicode_utf8_acceptRanges), ("tollway/appeal.grounds", laid_tollway_appeal_grounds), ("unicode/utf8.first", laid_unicode_utf8_first)] }
def AppealOnceSaid : Prop := appealOnceRow.holds Tryd.pinned (OpenSpec.ofChange appealOnceSpec)

/-- ITS FALSE NEIGHBOUR: 'it returns false'. Refute it at one input. -/
def appealOnceWrong : ChangeSpec := { name := "appealOnce", fn := fun _ => fun
  | [d1, d2, d3, d4, d5, d6] => { results := [.lit (.bool false)], args := [d1, d2, d3, d4, d5, d6] }
  | _ => none }
def AppealOnceWrongFalsely : Prop := appealOnceRow.holds Tryd.pinned (OpenSpec.ofChange appealOnceWrong)

/-- 'tollwaylaw39.AppealDelays': WHATEVER THE INPUT: true; the input reads as it did. -/
def appealDelaysSpec : ChangeSpec := { name := "appealDelays", fn := fun _ => fun
  | [d1, d2, d3, d4] => { results := [.lit (.bool true)], args := [d1, d2, d3, d4] }
  | _ => none }
def appealDelaysRow : OpenClaim := { program := "ytadfkfgachlgeaadoor", sum := "f7c38f3dc0e1f130d6c39845b3729bc7b8447dcd9d829b06ab9f9a69b5434cd9", func := "tollway/tollwaylaw39.AppealDelays", spec := "appealDelays", inPlace := ["internal/abi.NoEscape", "internal/bytealg.MakeNoZero"], unfollowed := true, recurses := true, named := ["unicode/utf8.first", "unicode/utf8.acceptRanges", "tollway/appeal.grounds"], apart := false, laid := [("unicode/utf8.acceptRanges", laid_unicode_utf8_acceptRanges), ("tollway/appeal.grounds", laid_tollway_appeal_grounds), ("unicode/utf8.first", laid_unicode_utf8_first)] }
def AppealDelaysSaid : Prop := appealDelaysRow.holds Tryd.pinned (OpenSpec.ofChange appealDelaysSpec)

/-- ITS FALSE NEIGHBOUR: 'it returns false'. Refute it at one input. -/
def appealDelaysWrong : ChangeSpec := { name := "appealDelays", fn := fun _ => fun
  | [d1, d2, d3, d4] => { results := [.lit (.bool false)], args := [d1, d2, d3, d4] }
  | _ => none }
def AppealDelaysWrongFalsely : Prop := appealDelaysRow.holds Tryd.pinned (OpenSpec.ofChange appealDelaysWrong)

/- THE SECOND FORM. 'bulk': how many values and letters a reading holds, each counted each time it is reached (what is shared counts as often as it is met; a slice's spare places count too). A statement '..UptoSaid' is the law's where the arguments, and the package variables that the reading takes, are together of bulk at most 1048576: NARROWER than '..Said'. Prove '..Said' where nothing that the law and all that it calls make is longer than what came in: it says more and counts as full. Else prove '..UptoSaid'. A law counts once. -/
mutual
def uptoBulk {H : Type} : DataW H → Nat
  | .lit (.string bytes) => bytes.length + 1
  | .lit _ => 1
  | .nil => 1
  | .ptr d => uptoBulk d + 1
  | .slice elems spare => uptoBulkAll elems + uptoBulkAll spare + 1
  | .agg parts => uptoBulkAll parts + 1
  | .iface _ d => uptoBulk d + 1
  | .map entries => uptoBulkEntries entries + 1
  | .held _ => 1
def uptoBulkAll {H : Type} : List (DataW H) → Nat
  | [] => 0
  | d :: r => uptoBulk d + uptoBulkAll r
def uptoBulkEntries {H : Type} : List (Lit × DataW H) → Nat
  | [] => 0
  | x :: r => uptoBulkEntry x + uptoBulkEntries r
def uptoBulkEntry {H : Type} : Lit × DataW H → Nat
  | (.string bytes, d) => bytes.length + uptoBulk d + 1
  | (_, d) => uptoBulk d + 1
 end
def uptoSmall : (H : Type) → List (DataW H) → Bool := fun _ ds => decide (uptoBulkAll ds ≤ 1048576)
def OpenSpec.upto (s : _root_.Go.ChangeSpec) : _root_.Go.OpenSpec := { _root_.Go.OpenSpec.ofChange s with cond := some uptoSmall }

/-- 'tollwaylaw39.AppealFiles', WHERE WHAT IT READS IS OF BULK AT MOST 1048576: true; the input reads as it did. -/
def appealFilesUptoRow : OpenClaim := { program := "ytadfkfgachlgeaadoor", sum := "f7c38f3dc0e1f130d6c39845b3729bc7b8447dcd9d829b06ab9f9a69b5434cd9", func := "tollway/tollwaylaw39.AppealFiles", spec := "appealFiles", inPlace := ["internal/abi.NoEscape", "internal/bytealg.MakeNoZero"], unfollowed := true, recurses := true, named := ["unicode/utf8.first", "unicode/utf8.acceptRanges", "tollway/appeal.grounds"], apart := false, laid := [("unicode/utf8.acceptRanges", laid_unicode_utf8_acceptRanges), ("tollway/appeal.grounds", laid_tollway_appeal_grounds), ("unicode/utf8.first", laid_unicode_utf8_first)], narrowed := true }
def AppealFilesUptoSaid : Prop := appealFilesUptoRow.holds Tryd.pinned (OpenSpec.upto appealFilesSpec)

/-- 'tollwaylaw39.AppealDecides', WHERE WHAT IT READS IS OF BULK AT MOST 1048576: true; the input reads as it did. -/
def appealDecidesUptoRow : OpenClaim := { program := "ytadfkfgachlgeaadoor", sum := "f7c38f3dc0e1f130d6c39845b3729bc7b8447dcd9d829b06ab9f9a69b5434cd9", func := "tollway/tollwaylaw39.AppealDecides", spec := "appealDecides", inPlace := ["internal/abi.NoEscape", "internal/bytealg.MakeNoZero"], unfollowed := true, recurses := true, named := ["unicode/utf8.first", "unicode/utf8.acceptRanges", "tollway/appeal.grounds"], apart := false, laid := [("unicode/utf8.acceptRanges", laid_unicode_utf8_acceptRanges), ("tollway/appeal.grounds", laid_tollway_appeal_grounds), ("unicode/utf8.first", laid_unicode_utf8_first)], narrowed := true }
def AppealDecidesUptoSaid : Prop := appealDecidesUptoRow.holds Tryd.pinned (OpenSpec.upto appealDecidesSpec)

/-- 'tollwaylaw39.AppealAsks', WHERE WHAT IT READS IS OF BULK AT MOST 1048576: true; the input reads as it did. -/
def appealAsksUptoRow : OpenClaim := { program := "ytadfkfgachlgeaadoor", sum := "f7c38f3dc0e1f130d6c39845b3729bc7b8447dcd9d829b06ab9f9a69b5434cd9", func := "tollway/tollwaylaw39.AppealAsks", spec := "appealAsks", inPlace := ["internal/abi.NoEscape", "internal/bytealg.MakeNoZero"], unfollowed := true, recurses := true, named := ["tollway/appeal.grounds", "unicode/utf8.first", "unicode/utf8.acceptRanges"], apart := false, laid := [("unicode/utf8.acceptRanges", laid_unicode_utf8_acceptRanges), ("tollway/appeal.grounds", laid_tollway_appeal_grounds), ("unicode/utf8.first", laid_unicode_utf8_first)], narrowed := true }
def AppealAsksUptoSaid : Prop := appealAsksUptoRow.holds Tryd.pinned (OpenSpec.upto appealAsksSpec)

/-- 'tollwaylaw39.AppealStops', WHERE WHAT IT READS IS OF BULK AT MOST 1048576: true; the input reads as it did. -/
def appealStopsUptoRow : OpenClaim := { program := "ytadfkfgachlgeaadoor", sum := "f7c38f3dc0e1f130d6c39845b3729bc7b8447dcd9d829b06ab9f9a69b5434cd9", func := "tollway/tollwaylaw39.AppealStops", spec := "appealStops", inPlace := ["internal/abi.NoEscape", "internal/bytealg.MakeNoZero"], unfollowed := true, recurses := true, named := ["unicode/utf8.first", "unicode/utf8.acceptRanges", "tollway/appeal.grounds"], apart := false, laid := [("unicode/utf8.acceptRanges", laid_unicode_utf8_acceptRanges), ("tollway/appeal.grounds", laid_tollway_appeal_grounds), ("unicode/utf8.first", laid_unicode_utf8_first)], narrowed := true }
def AppealStopsUptoSaid : Prop := appealStopsUptoRow.holds Tryd.pinned (OpenSpec.upto appealStopsSpec)

/-- 'tollwaylaw39.AppealOnce', WHERE WHAT IT READS IS OF BULK AT MOST 1048576: true; the input reads as it did. -/
def appealOnceUptoRow : OpenClaim := { program := "ytadfkfgachlgeaadoor", sum := "f7c38f3dc0e1f130d6c39845b3729bc7b8447dcd9d829b06ab9f9a69b5434cd9", func := "tollway/tollwaylaw39.AppealOnce", spec := "appealOnce", inPlace := ["internal/abi.NoEscape", "internal/bytealg.MakeNoZero"], unfollowed := true, recurses := true, named := ["unicode/utf8.first", "unicode/utf8.acceptRanges", "tollway/appeal.grounds"], apart := false, laid := [("unicode/utf8.acceptRanges", laid_unicode_utf8_acceptRanges), ("tollway/appeal.grounds", laid_tollway_appeal_grounds), ("unicode/utf8.first", laid_unicode_utf8_first)], narrowed := true }
def AppealOnceUptoSaid : Prop := appealOnceUptoRow.holds Tryd.pinned (OpenSpec.upto appealOnceSpec)

/-- 'tollwaylaw39.AppealDelays', WHERE WHAT IT READS IS OF BULK AT MOST 1048576: true; the input reads as it did. -/
def appealDelaysUptoRow : OpenClaim := { program := "ytadfkfgachlgeaadoor", sum := "f7c38f3dc0e1f130d6c39845b3729bc7b8447dcd9d829b06ab9f9a69b5434cd9", func := "tollway/tollwaylaw39.AppealDelays", spec := "appealDelays", inPlace := ["internal/abi.NoEscape", "internal/bytealg.MakeNoZero"], unfollowed := true, recurses := true, named := ["unicode/utf8.first", "unicode/utf8.acceptRanges", "tollway/appeal.grounds"], apart := false, laid := [("unicode/utf8.acceptRanges", laid_unicode_utf8_acceptRanges), ("tollway/appeal.grounds", laid_tollway_appeal_grounds), ("unicode/utf8.first", laid_unicode_utf8_first)], narrowed := true }
def AppealDelaysUptoSaid : Prop := appealDelaysUptoRow.holds Tryd.pinned (OpenSpec.upto appealDelaysSpec)

end Rows
end Go.Proofs.YtadfkfgachlgeaaDoor
