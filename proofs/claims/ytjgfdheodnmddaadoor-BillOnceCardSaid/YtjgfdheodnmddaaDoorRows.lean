/-
  NARROWER THAN 'FOR EVERY INPUT', by the rows' own cells (each row's printed sentence says how): BillMonths: laid · BillEarlier: laid · BillOnce: laid · BillSums: laid · BillDays: laid.
  DERIVED. THE GIVEN ROWS OF THIS SEAT. 5 by the template 'for every input the law returns true; each argument reads behind the call as it read before'; 0 by the template 'total and deterministic' (their statements: YtjgfdheodnmddaaDoorTotals.lean).
  GIVEN WITH THE SEED: the statements are not yours to turn. If you find one false, say at which input.
  Laid BY PROGRAM, IN A SANDBOX (cutbox-rows.mjs): the forced cells as the released guide's own fill.sh prints them over the translation be3d7d387e1e249b… (all of the seat's roots in one cut). By AI agents, Wed Nov 11 2026. No macro, syntax, notation, axiom, sorry.
-/
import Derived.Test.YtjgfdheodnmddaaDoorChecked
import GoSem.Claim
import GoSem.ClaimJoined
import GoSem.ClaimMapViews
import Derived.JoinedTies
import Derived.KernelRfl
namespace Go.Proofs.YtjgfdheodnmddaaDoor
/- THE CELL 'sum', in the pinned program and in every row, IS THE sha256 OF THE DUMP (.gsa) THAT YtjgfdheodnmddaaDoorProg.lean LOADS. Nothing in Lean hashes anything: it is a label: what it is worth is what the hold of that sum in a sandbox is worth. -/
noncomputable def Tryd.pinned : Pinned := { name := "ytjgfdheodnmddaadoor", sum := "be3d7d387e1e249b540e375dbb2399a5756704fb5a25cc2f5638ec89a9afedb9", checked := Tryd.checked }
namespace Rows
def none {H : Type} : Left H := { results := [], args := [] }

/- WHAT THE LISTED PACKAGE-LEVEL VARIABLES READ AS WHEN THE CALL BEGINS. Each datum BY PROGRAM (the guide's laid-datum.mjs) off the statement by which the dump's own 'gosem.cut.vars' lays the variable. In a bare row this is a premise. The card (YtjgfdheodnmddaaDoorCards.lean) ties it to the program's text. -/
def laid_tollway_clock_monthDays {H : Type} : DataW H := .agg [.lit (.int .i64 31), .lit (.int .i64 28), .lit (.int .i64 31), .lit (.int .i64 30), .lit (.int .i64 31), .lit (.int .i64 30), .lit (.int .i64 31), .lit (.int .i64 31), .lit (.int .i64 30), .lit (.int .i64 31), .lit (.int .i64 30), .lit (.int .i64 31)]

/-- 'tollwaylaw34.BillMonths': WHATEVER THE INPUT: true; the input reads as it did. -/
def billMonthsSpec : ChangeSpec := { name := "billMonths", fn := fun _ => fun
  | [d] => { results := [.lit (.bool true)], args := [d] }
  | _ => none }
def billMonthsRow : OpenClaim := { program := "ytjgfdheodnmddaadoor", sum := "be3d7d387e1e249b540e375dbb2399a5756704fb5a25cc2f5638ec89a9afedb9", func := "tollway/tollwaylaw34.BillMonths", spec := "billMonths", unfollowed := true, recurses := true, named := ["tollway/clock.monthDays"], plainKeys := false, apart := false, laid := [("tollway/clock.monthDays", laid_tollway_clock_monthDays)] }
def BillMonthsSaid : Prop := billMonthsRow.holds Tryd.pinned (OpenSpec.ofChange billMonthsSpec)

/-- ITS FALSE NEIGHBOUR: 'it returns false'. Refute it at one input. -/
def billMonthsWrong : ChangeSpec := { name := "billMonths", fn := fun _ => fun
  | [d] => { results := [.lit (.bool false)], args := [d] }
  | _ => none }
def BillMonthsWrongFalsely : Prop := billMonthsRow.holds Tryd.pinned (OpenSpec.ofChange billMonthsWrong)

/-- 'tollwaylaw34.BillEarlier': WHATEVER THE INPUT: true; the input reads as it did. -/
def billEarlierSpec : ChangeSpec := { name := "billEarlier", fn := fun _ => fun
  | [d1, d2] => { results := [.lit (.bool true)], args := [d1, d2] }
  | _ => none }
def billEarlierRow : OpenClaim := { program := "ytjgfdheodnmddaadoor", sum := "be3d7d387e1e249b540e375dbb2399a5756704fb5a25cc2f5638ec89a9afedb9", func := "tollway/tollwaylaw34.BillEarlier", spec := "billEarlier", unfollowed := true, recurses := true, named := ["tollway/clock.monthDays"], plainKeys := false, apart := false, laid := [("tollway/clock.monthDays", laid_tollway_clock_monthDays)] }
def BillEarlierSaid : Prop := billEarlierRow.holds Tryd.pinned (OpenSpec.ofChange billEarlierSpec)

/-- ITS FALSE NEIGHBOUR: 'it returns false'. Refute it at one input. -/
def billEarlierWrong : ChangeSpec := { name := "billEarlier", fn := fun _ => fun
  | [d1, d2] => { results := [.lit (.bool false)], args := [d1, d2] }
  | _ => none }
def BillEarlierWrongFalsely : Prop := billEarlierRow.holds Tryd.pinned (OpenSpec.ofChange billEarlierWrong)

/-- 'tollwaylaw34.BillOnce': WHATEVER THE INPUT: true; the input reads as it did. -/
def billOnceSpec : ChangeSpec := { name := "billOnce", fn := fun _ => fun
  | [d] => { results := [.lit (.bool true)], args := [d] }
  | _ => none }
def billOnceRow : OpenClaim := { program := "ytjgfdheodnmddaadoor", sum := "be3d7d387e1e249b540e375dbb2399a5756704fb5a25cc2f5638ec89a9afedb9", func := "tollway/tollwaylaw34.BillOnce", spec := "billOnce", unfollowed := true, recurses := true, named := ["tollway/clock.monthDays"], plainKeys := false, apart := false, laid := [("tollway/clock.monthDays", laid_tollway_clock_monthDays)] }
def BillOnceSaid : Prop := billOnceRow.holds Tryd.pinned (OpenSpec.ofChange billOnceSpec)

/-- ITS FALSE NEIGHBOUR: 'it returns false'. Refute it at one input. -/
def billOnceWrong : ChangeSpec := { name := "billOnce", fn := fun _ => fun
  | [d] => { results := [.lit (.bool false)], args := [d] }
  | _ => none }
def BillOnceWrongFalsely : Prop := billOnceRow.holds Tryd.pinned (OpenSpec.ofChange billOnceWrong)

/-- 'tollwaylaw34.BillSums': WHATEVER THE INPUT: true; the input reads as it did. -/
def billSumsSpec : ChangeSpec := { name := "billSums", fn := fun _ => fun
  | [d] => { results := [.lit (.bool true)], args := [d] }
  | _ => none }
def billSumsRow : OpenClaim := { program := "ytjgfdheodnmddaadoor", sum := "be3d7d387e1e249b540e375dbb2399a5756704fb5a25cc2f5638ec89a9afedb9", func := "tollway/tollwaylaw34.BillSums", spec := "billSums", unfollowed := true, recurses := true, named := ["tollway/clock.monthDays"], plainKeys := false, apart := false, laid := [("tollway/clock.monthDays", laid_tollway_clock_monthDays)] }
def BillSumsSaid : Prop := billSumsRow.holds Tryd.pinned (OpenSpec.ofChange billSumsSpec)

/-- ITS FALSE NEIGHBOUR: 'it returns false'. Refute it at one input. -/
def billSumsWrong : ChangeSpec := { name := "billSums", fn := fun _ => fun
  | [d] => { results := [.lit (.bool false)], args := [d] }
  | _ => none }
def BillSumsWrongFalsely : Prop := billSumsRow.holds Tryd.pinned (OpenSpec.ofChange billSumsWrong)

/-- 'tollwaylaw34.BillDays': WHATEVER THE INPUT: true; the input reads as it did. -/
def billDaysSpec : ChangeSpec := { name := "billDays", fn := fun _ => fun
  | [d] => { results := [.lit (.bool true)], args := [d] }
  | _ => none }
def billDaysRow : OpenClaim := { program := "ytjgfdheodnmddaadoor", sum := "be3d7d387e1e249b540e375dbb2399a5756704fb5a25cc2f5638ec89a9afedb9", func := "tollway/tollwaylaw34.BillDays", spec := "billDays", unfollowed := true, recurses := true, named := ["tollway/clock.monthDays"], plainKeys := false, apart := false, laid := [("tollway/clock.monthDays", laid_tollway_clock_monthDays)] }
def BillDaysSaid : Prop := billDaysRow.holds Tryd.pinned (OpenSpec.ofChange billDaysSpec)

/-- ITS FALSE NEIGHBOUR: 'it returns false'. Refute it at one input. -/
def billDaysWrong : ChangeSpec := { name := "billDays", fn := fun _ => fun
  | [d] => { results := [.lit (.bool false)], args := [d] }
  | _ => none }
def BillDaysWrongFalsely : Prop := billDaysRow.holds Tryd.pinned (OpenSpec.ofChange billDaysWrong)

/- THE SECOND FORM. 'bulk': how many values and letters a reading holds, each counted each time it is reached (what is shared counts as often as it is met; a slice's spare places count too). A statement '..UptoSaid' is the law's where the arguments, and the package variables that the reading takes, are together of bulk at most 1048576: NARROWER than '..Said'. Prove '..Said' where nothing that the law and all that it calls make is longer than what came in: it says more and counts as full. Else prove '..UptoSaid'. A law counts once. -/
mutual
def uptoBulk {H : Type} : DataW H → Nat
  | .lit (.string bytes) => bytes.length + 1
  | .lit _ => 1
  | .nil => 1
  | .ptr d => uptoBulk d + 1
  | .slice elems spare => uptoBulkAll elems + uptoBulkAll spare + 1
  | .agg parts => uptoBulkAll parts + 1
  | .iface _ d => uptoBulk d + 1
  | .map entries => uptoBulkEntries entries + 1
  | .held _ => 1
def uptoBulkAll {H : Type} : List (DataW H) → Nat
  | [] => 0
  | d :: r => uptoBulk d + uptoBulkAll r
def uptoBulkEntries {H : Type} : List (Lit × DataW H) → Nat
  | [] => 0
  | x :: r => uptoBulkEntry x + uptoBulkEntries r
def uptoBulkEntry {H : Type} : Lit × DataW H → Nat
  | (.string bytes, d) => bytes.length + uptoBulk d + 1
  | (_, d) => uptoBulk d + 1
 end
def uptoSmall : (H : Type) → List (DataW H) → Bool := fun _ ds => decide (uptoBulkAll ds ≤ 1048576)
def OpenSpec.upto (s : _root_.Go.ChangeSpec) : _root_.Go.OpenSpec := { _root_.Go.OpenSpec.ofChange s with cond := some uptoSmall }

/-- 'tollwaylaw34.BillMonths', WHERE WHAT IT READS IS OF BULK AT MOST 1048576: true; the input reads as it did. -/
def billMonthsUptoRow : OpenClaim := { program := "ytjgfdheodnmddaadoor", sum := "be3d7d387e1e249b540e375dbb2399a5756704fb5a25cc2f5638ec89a9afedb9", func := "tollway/tollwaylaw34.BillMonths", spec := "billMonths", unfollowed := true, recurses := true, named := ["tollway/clock.monthDays"], plainKeys := false, apart := false, laid := [("tollway/clock.monthDays", laid_tollway_clock_monthDays)], narrowed := true }
def BillMonthsUptoSaid : Prop := billMonthsUptoRow.holds Tryd.pinned (OpenSpec.upto billMonthsSpec)

/-- 'tollwaylaw34.BillEarlier', WHERE WHAT IT READS IS OF BULK AT MOST 1048576: true; the input reads as it did. -/
def billEarlierUptoRow : OpenClaim := { program := "ytjgfdheodnmddaadoor", sum := "be3d7d387e1e249b540e375dbb2399a5756704fb5a25cc2f5638ec89a9afedb9", func := "tollway/tollwaylaw34.BillEarlier", spec := "billEarlier", unfollowed := true, recurses := true, named := ["tollway/clock.monthDays"], plainKeys := false, apart := false, laid := [("tollway/clock.monthDays", laid_tollway_clock_monthDays)], narrowed := true }
def BillEarlierUptoSaid : Prop := billEarlierUptoRow.holds Tryd.pinned (OpenSpec.upto billEarlierSpec)

/-- 'tollwaylaw34.BillOnce', WHERE WHAT IT READS IS OF BULK AT MOST 1048576: true; the input reads as it did. -/
def billOnceUptoRow : OpenClaim := { program := "ytjgfdheodnmddaadoor", sum := "be3d7d387e1e249b540e375dbb2399a5756704fb5a25cc2f5638ec89a9afedb9", func := "tollway/tollwaylaw34.BillOnce", spec := "billOnce", unfollowed := true, recurses := true, named := ["tollway/clock.monthDays"], plainKeys := false, apart := false, laid := [("tollway/clock.monthDays", laid_tollway_clock_monthDays)], narrowed := true }
def BillOnceUptoSaid : Prop := billOnceUptoRow.holds Tryd.pinned (OpenSpec.upto billOnceSpec)

/-- 'tollwaylaw34.BillSums', WHERE WHAT IT READS IS OF BULK AT MOST 1048576: true; the input reads as it did. -/
def billSumsUptoRow : OpenClaim := { program := "ytjgfdheodnmddaadoor", sum := "be3d7d387e1e249b540e375dbb2399a5756704fb5a25cc2f5638ec89a9afedb9", func := "tollway/tollwaylaw34.BillSums", spec := "billSums", unfollowed := true, recurses := true, named := ["tollway/clock.monthDays"], plainKeys := false, apart := false, laid := [("tollway/clock.monthDays", laid_tollway_clock_monthDays)], narrowed := true }
def BillSumsUptoSaid : Prop := billSumsUptoRow.holds Tryd.pinned (OpenSpec.upto billSumsSpec)

/-- 'tollwaylaw34.BillDays', WHERE WHAT IT READS IS OF BULK AT MOST 1048576: true; the input reads as it did. -/
def billDaysUptoRow : OpenClaim := { program := "ytjgfdheodnmddaadoor", sum := "be3d7d387e1e249b540e375dbb2399a5756704fb5a25cc2f5638ec89a9afedb9", func := "tollway/tollwaylaw34.BillDays", spec := "billDays", unfollowed := true, recurses := true, named := ["tollway/clock.monthDays"], plainKeys := false, apart := false, laid := [("tollway/clock.monthDays", laid_tollway_clock_monthDays)], narrowed := true }
def BillDaysUptoSaid : Prop := billDaysUptoRow.holds Tryd.pinned (OpenSpec.upto billDaysSpec)

end Rows
end Go.Proofs.YtjgfdheodnmddaaDoor
