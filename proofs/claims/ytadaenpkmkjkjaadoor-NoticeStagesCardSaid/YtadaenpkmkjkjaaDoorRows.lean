/-
  NARROWER THAN 'FOR EVERY INPUT', by the rows' own cells (each row's printed sentence says how): NoticeChecks: laid · NoticeNew: laid · NoticeAdvances: laid · NoticePays: laid · NoticeTwice: laid · NoticeStages: laid · NoticeWhole: laid.
  DERIVED. THE GIVEN ROWS OF THIS SEAT. 7 by the template 'for every input the law returns true; each argument reads behind the call as it read before'; 0 by the template 'total and deterministic' (their statements: YtadaenpkmkjkjaaDoorTotals.lean).
  GIVEN WITH THE SEED: the statements are not yours to turn. If you find one false, say at which input.
  Laid BY PROGRAM, IN A SANDBOX (cutbox-rows.mjs): the forced cells as the released guide's own fill.sh prints them over the translation fed1d42bc9b4e1e7… (all of the seat's roots in one cut). By AI agents, Wed Nov 11 2026. No macro, syntax, notation, axiom, sorry.
-/
import Derived.Test.YtadaenpkmkjkjaaDoorChecked
import GoSem.PinnedTables
import GoSem.Claim
import GoSem.ClaimJoined
import GoSem.ClaimMapViews
import Derived.JoinedTies
import Derived.KernelRfl
namespace Go.Proofs.YtadaenpkmkjkjaaDoor
/- THE CELL 'sum', in the pinned program and in every row, IS THE sha256 OF THE DUMP (.gsa) THAT YtadaenpkmkjkjaaDoorProg.lean LOADS. Nothing in Lean hashes anything: it is a label: what it is worth is what the hold of that sum in a sandbox is worth. -/
noncomputable def Tryd.pinned : Pinned := { name := "ytadaenpkmkjkjaadoor", sum := "fed1d42bc9b4e1e73ce8a79f4e58aa45ec3645a6ec59ce54b3eda1fb1a1f51b8", checked := Tryd.checked }
namespace Rows
def none {H : Type} : Left H := { results := [], args := [] }

/- WHAT THE LISTED PACKAGE-LEVEL VARIABLES READ AS WHEN THE CALL BEGINS. Each datum BY PROGRAM (the guide's laid-datum.mjs) off the statement by which the dump's own 'gosem.cut.vars' lays the variable. In a bare row this is a premise. The card (YtadaenpkmkjkjaaDoorCards.lean) ties it to the program's text. -/
def laid_unicode_utf8_acceptRanges {H : Type} : DataW H := .agg [.agg [.lit (.int .u8 128), .lit (.int .u8 191)], .agg [.lit (.int .u8 160), .lit (.int .u8 191)], .agg [.lit (.int .u8 128), .lit (.int .u8 159)], .agg [.lit (.int .u8 144), .lit (.int .u8 191)], .agg [.lit (.int .u8 128), .lit (.int .u8 143)], .agg [.lit (.int .u8 0), .lit (.int .u8 0)], .agg [.lit (.int .u8 0), .lit (.int .u8 0)], .agg [.lit (.int .u8 0), .lit (.int .u8 0)], .agg [.lit (.int .u8 0), .lit (.int .u8 0)], .agg [.lit (.int .u8 0), .lit (.int .u8 0)], .agg [.lit (.int .u8 0), .lit (.int .u8 0)], .agg [.lit (.int .u8 0), .lit (.int .u8 0)], .agg [.lit (.int .u8 0), .lit (.int .u8 0)], .agg [.lit (.int .u8 0), .lit (.int .u8 0)], .agg [.lit (.int .u8 0), .lit (.int .u8 0)], .agg [.lit (.int .u8 0), .lit (.int .u8 0)]]
/-- One of Go's own tables, pinned by name: the form's constant. -/
def laid_unicode_utf8_first : DataW Unit := Go.Pinned.utf8First

/-- 'tollwaylaw38.NoticeChecks': WHATEVER THE INPUT: true; the input reads as it did. -/
def noticeChecksSpec : ChangeSpec := { name := "noticeChecks", fn := fun _ => fun
  | [d] => { results := [.lit (.bool true)], args := [d] }
  | _ => none }
def noticeChecksRow : OpenClaim := { program := "ytadaenpkmkjkjaadoor", sum := "fed1d42bc9b4e1e73ce8a79f4e58aa45ec3645a6ec59ce54b3eda1fb1a1f51b8", func := "tollway/tollwaylaw38.NoticeChecks", spec := "noticeChecks", inPlace := ["internal/abi.NoEscape", "internal/bytealg.MakeNoZero"], unfollowed := true, recurses := true, named := ["unicode/utf8.first", "unicode/utf8.acceptRanges"], apart := false, laid := [("unicode/utf8.acceptRanges", laid_unicode_utf8_acceptRanges), ("unicode/utf8.first", laid_unicode_utf8_first)] }
def NoticeChecksSaid : Prop := noticeChecksRow.holds Tryd.pinned (OpenSpec.ofChange noticeChecksSpec)

/-- ITS FALSE NEIGHBOUR: 'it returns false'. Refute it at one input. -/
def noticeChecksWrong : ChangeSpec := { name := "noticeChecks", fn := fun _ => fun
  | [d] => { results := [.lit (.bool false)], args := [d] }
  | _ => none }
def NoticeChecksWrongFalsely : Prop := noticeChecksRow.holds Tryd.pinned (OpenSpec.ofChange noticeChecksWrong)

/-- 'tollwaylaw38.NoticeNew': WHATEVER THE INPUT: true; the input reads as it did. -/
def noticeNewSpec : ChangeSpec := { name := "noticeNew", fn := fun _ => fun
  | [d] => { results := [.lit (.bool true)], args := [d] }
  | _ => none }
def noticeNewRow : OpenClaim := { program := "ytadaenpkmkjkjaadoor", sum := "fed1d42bc9b4e1e73ce8a79f4e58aa45ec3645a6ec59ce54b3eda1fb1a1f51b8", func := "tollway/tollwaylaw38.NoticeNew", spec := "noticeNew", inPlace := ["internal/abi.NoEscape", "internal/bytealg.MakeNoZero"], unfollowed := true, recurses := true, named := ["unicode/utf8.first", "unicode/utf8.acceptRanges"], apart := false, laid := [("unicode/utf8.acceptRanges", laid_unicode_utf8_acceptRanges), ("unicode/utf8.first", laid_unicode_utf8_first)] }
def NoticeNewSaid : Prop := noticeNewRow.holds Tryd.pinned (OpenSpec.ofChange noticeNewSpec)

/-- ITS FALSE NEIGHBOUR: 'it returns false'. Refute it at one input. -/
def noticeNewWrong : ChangeSpec := { name := "noticeNew", fn := fun _ => fun
  | [d] => { results := [.lit (.bool false)], args := [d] }
  | _ => none }
def NoticeNewWrongFalsely : Prop := noticeNewRow.holds Tryd.pinned (OpenSpec.ofChange noticeNewWrong)

/-- 'tollwaylaw38.NoticeAdvances': WHATEVER THE INPUT: true; the input reads as it did. -/
def noticeAdvancesSpec : ChangeSpec := { name := "noticeAdvances", fn := fun _ => fun
  | [d1, d2] => { results := [.lit (.bool true)], args := [d1, d2] }
  | _ => none }
def noticeAdvancesRow : OpenClaim := { program := "ytadaenpkmkjkjaadoor", sum := "fed1d42bc9b4e1e73ce8a79f4e58aa45ec3645a6ec59ce54b3eda1fb1a1f51b8", func := "tollway/tollwaylaw38.NoticeAdvances", spec := "noticeAdvances", inPlace := ["internal/abi.NoEscape", "internal/bytealg.MakeNoZero"], unfollowed := true, recurses := true, named := ["unicode/utf8.first", "unicode/utf8.acceptRanges"], apart := false, laid := [("unicode/utf8.acceptRanges", laid_unicode_utf8_acceptRanges), ("unicode/utf8.first", laid_unicode_utf8_first)] }
def NoticeAdvancesSaid : Prop := noticeAdvancesRow.holds Tryd.pinned (OpenSpec.ofChange noticeAdvancesSpec)

/-- ITS FALSE NEIGHBOUR: 'it returns false'. Refute it at one input. -/
def noticeAdvancesWrong : ChangeSpec := { name := "noticeAdvances", fn := fun _ => fun
  | [d1, d2] => { results := [.lit (.bool false)], args := [d1, d2] }
  | _ => none }
def NoticeAdvancesWrongFalsely : Prop := noticeAdvancesRow.holds Tryd.pinned (OpenSpec.ofChange noticeAdvancesWrong)

/-- 'tollwaylaw38.NoticePays': WHATEVER THE INPUT: true; the input reads as it did. -/
def noticePaysSpec : ChangeSpec := { name := "noticePays", fn := fun _ => fun
  | [d1, d2] => { results := [.lit (.bool true)], args := [d1, d2] }
  | _ => none }
def noticePaysRow : OpenClaim := { program := "ytadaenpkmkjkjaadoor", sum := "fed1d42bc9b4e1e73ce8a79f4e58aa45ec3645a6ec59ce54b3eda1fb1a1f51b8", func := "tollway/tollwaylaw38.NoticePays", spec := "noticePays", inPlace := ["internal/abi.NoEscape", "internal/bytealg.MakeNoZero"], unfollowed := true, recurses := true, named := ["unicode/utf8.first", "unicode/utf8.acceptRanges"], apart := false, laid := [("unicode/utf8.acceptRanges", laid_unicode_utf8_acceptRanges), ("unicode/utf8.first", laid_unicode_utf8_first)] }
def NoticePaysSaid : Prop := noticePaysRow.holds Tryd.pinned (OpenSpec.ofChange noticePaysSpec)

/-- ITS FALSE NEIGHBOUR: 'it returns false'. Refute it at one input. -/
def noticePaysWrong : ChangeSpec := { name := "noticePays", fn := fun _ => fun
  | [d1, d2] => { results := [.lit (.bool false)], args := [d1, d2] }
  | _ => none }
def NoticePaysWrongFalsely : Prop := noticePaysRow.holds Tryd.pinned (OpenSpec.ofChange noticePaysWrong)

/-- 'tollwaylaw38.NoticeTwice': WHATEVER THE INPUT: true; the input reads as it did. -/
def noticeTwiceSpec : ChangeSpec := { name := "noticeTwice", fn := fun _ => fun
  | [d1, d2, d3] => { results := [.lit (.bool true)], args := [d1, d2, d3] }
  | _ => none }
def noticeTwiceRow : OpenClaim := { program := "ytadaenpkmkjkjaadoor", sum := "fed1d42bc9b4e1e73ce8a79f4e58aa45ec3645a6ec59ce54b3eda1fb1a1f51b8", func := "tollway/tollwaylaw38.NoticeTwice", spec := "noticeTwice", inPlace := ["internal/abi.NoEscape", "internal/bytealg.MakeNoZero"], unfollowed := true, recurses := true, named := ["unicode/utf8.first", "unicode/utf8.acceptRanges"], apart := false, laid := [("unicode/utf8.acceptRanges", laid_unicode_utf8_acceptRanges), ("unicode/utf8.first", laid_unicode_utf8_first)] }
def NoticeTwiceSaid : Prop := noticeTwiceRow.holds Tryd.pinned (OpenSpec.ofChange noticeTwiceSpec)

/-- ITS FALSE NEIGHBOUR: 'it returns false'. Refute it at one input. -/
def noticeTwiceWrong : ChangeSpec := { name := "noticeTwice", fn := fun _ => fun
  | [d1, d2, d3] => { results := [.lit (.bool false)], args := [d1, d2, d3] }
  | _ => none }
def NoticeTwiceWrongFalsely : Prop := noticeTwiceRow.holds Tryd.pinned (OpenSpec.ofChange noticeTwiceWrong)

/-- 'tollwaylaw38.NoticeStages': WHATEVER THE INPUT: true; the input reads as it did. -/
def noticeStagesSpec : ChangeSpec := { name := "noticeStages", fn := fun _ => fun
  | [d1, d2] => { results := [.lit (.bool true)], args := [d1, d2] }
  | _ => none }
def noticeStagesRow : OpenClaim := { program := "ytadaenpkmkjkjaadoor", sum := "fed1d42bc9b4e1e73ce8a79f4e58aa45ec3645a6ec59ce54b3eda1fb1a1f51b8", func := "tollway/tollwaylaw38.NoticeStages", spec := "noticeStages", inPlace := ["internal/abi.NoEscape", "internal/bytealg.MakeNoZero"], unfollowed := true, recurses := true, named := ["unicode/utf8.first", "unicode/utf8.acceptRanges"], apart := false, laid := [("unicode/utf8.acceptRanges", laid_unicode_utf8_acceptRanges), ("unicode/utf8.first", laid_unicode_utf8_first)] }
def NoticeStagesSaid : Prop := noticeStagesRow.holds Tryd.pinned (OpenSpec.ofChange noticeStagesSpec)

/-- ITS FALSE NEIGHBOUR: 'it returns false'. Refute it at one input. -/
def noticeStagesWrong : ChangeSpec := { name := "noticeStages", fn := fun _ => fun
  | [d1, d2] => { results := [.lit (.bool false)], args := [d1, d2] }
  | _ => none }
def NoticeStagesWrongFalsely : Prop := noticeStagesRow.holds Tryd.pinned (OpenSpec.ofChange noticeStagesWrong)

/-- 'tollwaylaw38.NoticeWhole': WHATEVER THE INPUT: true; the input reads as it did. -/
def noticeWholeSpec : ChangeSpec := { name := "noticeWhole", fn := fun _ => fun
  | [d1, d2] => { results := [.lit (.bool true)], args := [d1, d2] }
  | _ => none }
def noticeWholeRow : OpenClaim := { program := "ytadaenpkmkjkjaadoor", sum := "fed1d42bc9b4e1e73ce8a79f4e58aa45ec3645a6ec59ce54b3eda1fb1a1f51b8", func := "tollway/tollwaylaw38.NoticeWhole", spec := "noticeWhole", inPlace := ["internal/abi.NoEscape", "internal/bytealg.MakeNoZero"], unfollowed := true, recurses := true, named := ["unicode/utf8.first", "unicode/utf8.acceptRanges"], apart := false, laid := [("unicode/utf8.acceptRanges", laid_unicode_utf8_acceptRanges), ("unicode/utf8.first", laid_unicode_utf8_first)] }
def NoticeWholeSaid : Prop := noticeWholeRow.holds Tryd.pinned (OpenSpec.ofChange noticeWholeSpec)

/-- ITS FALSE NEIGHBOUR: 'it returns false'. Refute it at one input. -/
def noticeWholeWrong : ChangeSpec := { name := "noticeWhole", fn := fun _ => fun
  | [d1, d2] => { results := [.lit (.bool false)], args := [d1, d2] }
  | _ => none }
def NoticeWholeWrongFalsely : Prop := noticeWholeRow.holds Tryd.pinned (OpenSpec.ofChange noticeWholeWrong)

/- THE SECOND FORM. 'bulk': how many values and letters a reading holds, each counted each time it is reached (what is shared counts as often as it is met; a slice's spare places count too). A statement '..UptoSaid' is the law's where the arguments, and the package variables that the reading takes, are together of bulk at most 1048576: NARROWER than '..Said'. Prove '..Said' where nothing that the law and all that it calls make is longer than what came in: it says more and counts as full. Else prove '..UptoSaid'. A law counts once. -/
mutual
def uptoBulk {H : Type} : DataW H → Nat
  | .lit (.string bytes) => bytes.length + 1
  | .lit _ => 1
  | .nil => 1
  | .ptr d => uptoBulk d + 1
  | .slice elems spare => uptoBulkAll elems + uptoBulkAll spare + 1
  | .agg parts => uptoBulkAll parts + 1
  | .iface _ d => uptoBulk d + 1
  | .map entries => uptoBulkEntries entries + 1
  | .held _ => 1
def uptoBulkAll {H : Type} : List (DataW H) → Nat
  | [] => 0
  | d :: r => uptoBulk d + uptoBulkAll r
def uptoBulkEntries {H : Type} : List (Lit × DataW H) → Nat
  | [] => 0
  | x :: r => uptoBulkEntry x + uptoBulkEntries r
def uptoBulkEntry {H : Type} : Lit × DataW H → Nat
  | (.string bytes, d) => bytes.length + uptoBulk d + 1
  | (_, d) => uptoBulk d + 1
 end
def uptoSmall : (H : Type) → List (DataW H) → Bool := fun _ ds => decide (uptoBulkAll ds ≤ 1048576)
def OpenSpec.upto (s : _root_.Go.ChangeSpec) : _root_.Go.OpenSpec := { _root_.Go.OpenSpec.ofChange s with cond := some uptoSmall }

/-- 'tollwaylaw38.NoticeChecks', WHERE WHAT IT READS IS OF BULK AT MOST 1048576: true; the input reads as it did. -/
def noticeChecksUptoRow : OpenClaim := { program := "ytadaenpkmkjkjaadoor", sum := "fed1d42bc9b4e1e73ce8a79f4e58aa45ec3645a6ec59ce54b3eda1fb1a1f51b8", func := "tollway/tollwaylaw38.NoticeChecks", spec := "noticeChecks", inPlace := ["internal/abi.NoEscape", "internal/bytealg.MakeNoZero"], unfollowed := true, recurses := true, named := ["unicode/utf8.first", "unicode/utf8.acceptRanges"], apart := false, laid := [("unicode/utf8.acceptRanges", laid_unicode_utf8_acceptRanges), ("unicode/utf8.first", laid_unicode_utf8_first)], narrowed := true }
def NoticeChecksUptoSaid : Prop := noticeChecksUptoRow.holds Tryd.pinned (OpenSpec.upto noticeChecksSpec)

/-- 'tollwaylaw38.NoticeNew', WHERE WHAT IT READS IS OF BULK AT MOST 1048576: true; the input reads as it did. -/
def noticeNewUptoRow : OpenClaim := { program := "ytadaenpkmkjkjaadoor", sum := "fed1d42bc9b4e1e73ce8a79f4e58aa45ec3645a6ec59ce54b3eda1fb1a1f51b8", func := "tollway/tollwaylaw38.NoticeNew", spec := "noticeNew", inPlace := ["internal/abi.NoEscape", "internal/bytealg.MakeNoZero"], unfollowed := true, recurses := true, named := ["unicode/utf8.first", "unicode/utf8.acceptRanges"], apart := false, laid := [("unicode/utf8.acceptRanges", laid_unicode_utf8_acceptRanges), ("unicode/utf8.first", laid_unicode_utf8_first)], narrowed := true }
def NoticeNewUptoSaid : Prop := noticeNewUptoRow.holds Tryd.pinned (OpenSpec.upto noticeNewSpec)

/-- 'tollwaylaw38.NoticeAdvances', WHERE WHAT IT READS IS OF BULK AT MOST 1048576: true; the input reads as it did. -/
def noticeAdvancesUptoRow : OpenClaim := { program := "ytadaenpkmkjkjaadoor", sum := "fed1d42bc9b4e1e73ce8a79f4e58aa45ec3645a6ec59ce54b3eda1fb1a1f51b8", func := "tollway/tollwaylaw38.NoticeAdvances", spec := "noticeAdvances", inPlace := ["internal/abi.NoEscape", "internal/bytealg.MakeNoZero"], unfollowed := true, recurses := true, named := ["unicode/utf8.first", "unicode/utf8.acceptRanges"], apart := false, laid := [("unicode/utf8.acceptRanges", laid_unicode_utf8_acceptRanges), ("unicode/utf8.first", laid_unicode_utf8_first)], narrowed := true }
def NoticeAdvancesUptoSaid : Prop := noticeAdvancesUptoRow.holds Tryd.pinned (OpenSpec.upto noticeAdvancesSpec)

/-- 'tollwaylaw38.NoticePays', WHERE WHAT IT READS IS OF BULK AT MOST 1048576: true; the input reads as it did. -/
def noticePaysUptoRow : OpenClaim := { program := "ytadaenpkmkjkjaadoor", sum := "fed1d42bc9b4e1e73ce8a79f4e58aa45ec3645a6ec59ce54b3eda1fb1a1f51b8", func := "tollway/tollwaylaw38.NoticePays", spec := "noticePays", inPlace := ["internal/abi.NoEscape", "internal/bytealg.MakeNoZero"], unfollowed := true, recurses := true, named := ["unicode/utf8.first", "unicode/utf8.acceptRanges"], apart := false, laid := [("unicode/utf8.acceptRanges", laid_unicode_utf8_acceptRanges), ("unicode/utf8.first", laid_unicode_utf8_first)], narrowed := true }
def NoticePaysUptoSaid : Prop := noticePaysUptoRow.holds Tryd.pinned (OpenSpec.upto noticePaysSpec)

/-- 'tollwaylaw38.NoticeTwice', WHERE WHAT IT READS IS OF BULK AT MOST 1048576: true; the input reads as it did. -/
def noticeTwiceUptoRow : OpenClaim := { program := "ytadaenpkmkjkjaadoor", sum := "fed1d42bc9b4e1e73ce8a79f4e58aa45ec3645a6ec59ce54b3eda1fb1a1f51b8", func := "tollway/tollwaylaw38.NoticeTwice", spec := "noticeTwice", inPlace := ["internal/abi.NoEscape", "internal/bytealg.MakeNoZero"], unfollowed := true, recurses := true, named := ["unicode/utf8.first", "unicode/utf8.acceptRanges"], apart := false, laid := [("unicode/utf8.acceptRanges", laid_unicode_utf8_acceptRanges), ("unicode/utf8.first", laid_unicode_utf8_first)], narrowed := true }
def NoticeTwiceUptoSaid : Prop := noticeTwiceUptoRow.holds Tryd.pinned (OpenSpec.upto noticeTwiceSpec)

/-- 'tollwaylaw38.NoticeStages', WHERE WHAT IT READS IS OF BULK AT MOST 1048576: true; the input reads as it did. -/
def noticeStagesUptoRow : OpenClaim := { program := "ytadaenpkmkjkjaadoor", sum := "fed1d42bc9b4e1e73ce8a79f4e58aa45ec3645a6ec59ce54b3eda1fb1a1f51b8", func := "tollway/tollwaylaw38.NoticeStages", spec := "noticeStages", inPlace := ["internal/abi.NoEscape", "internal/bytealg.MakeNoZero"], unfollowed := true, recurses := true, named := ["unicode/utf8.first", "unicode/utf8.acceptRanges"], apart := false, laid := [("unicode/utf8.acceptRanges", laid_unicode_utf8_acceptRanges), ("unicode/utf8.first", laid_unicode_utf8_first)], narrowed := true }
def NoticeStagesUptoSaid : Prop := noticeStagesUptoRow.holds Tryd.pinned (OpenSpec.upto noticeStagesSpec)

/-- 'tollwaylaw38.NoticeWhole', WHERE WHAT IT READS IS OF BULK AT MOST 1048576: true; the input reads as it did. -/
def noticeWholeUptoRow : OpenClaim := { program := "ytadaenpkmkjkjaadoor", sum := "fed1d42bc9b4e1e73ce8a79f4e58aa45ec3645a6ec59ce54b3eda1fb1a1f51b8", func := "tollway/tollwaylaw38.NoticeWhole", spec := "noticeWhole", inPlace := ["internal/abi.NoEscape", "internal/bytealg.MakeNoZero"], unfollowed := true, recurses := true, named := ["unicode/utf8.first", "unicode/utf8.acceptRanges"], apart := false, laid := [("unicode/utf8.acceptRanges", laid_unicode_utf8_acceptRanges), ("unicode/utf8.first", laid_unicode_utf8_first)], narrowed := true }
def NoticeWholeUptoSaid : Prop := noticeWholeUptoRow.holds Tryd.pinned (OpenSpec.upto noticeWholeSpec)

end Rows
end Go.Proofs.YtadaenpkmkjkjaaDoor
