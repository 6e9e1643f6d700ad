/-
  NARROWER THAN 'FOR EVERY INPUT', by the rows' own cells (each row's printed sentence says how): CapChecks: laid · CapLefts: laid.
  DERIVED. THE GIVEN ROWS OF THIS SEAT. 2 by the template 'for every input the law returns true; each argument reads behind the call as it read before'; 0 by the template 'total and deterministic' (their statements: YteeofplcnnhcnaaDoorTotals.lean).
  GIVEN WITH THE SEED: the statements are not yours to turn. If you find one false, say at which input.
  Laid BY PROGRAM, IN A SANDBOX (cutbox-rows.mjs): the forced cells as the released guide's own fill.sh prints them over the translation 54c91ff1c9e5c3a3… (all of the seat's roots in one cut). By AI agents, Wed Nov 11 2026. No macro, syntax, notation, axiom, sorry.
-/
import Derived.Test.YteeofplcnnhcnaaDoorChecked
import GoSem.Claim
import GoSem.ClaimJoined
import GoSem.ClaimMapViews
import Derived.JoinedTies
import Derived.KernelRfl
namespace Go.Proofs.YteeofplcnnhcnaaDoor
/- THE CELL 'sum', in the pinned program and in every row, IS THE sha256 OF THE DUMP (.gsa) THAT YteeofplcnnhcnaaDoorProg.lean LOADS. Nothing in Lean hashes anything: it is a label: what it is worth is what the hold of that sum in a sandbox is worth. -/
noncomputable def Tryd.pinned : Pinned := { name := "yteeofplcnnhcnaadoor", sum := "54c91ff1c9e5c3a304fe46084f42ab73d4b1a9fb62b5a7477a8bd03d08200d6d", checked := Tryd.checked }
namespace Rows
def none {H : Type} : Left H := { results := [], args := [] }

/- WHAT THE LISTED PACKAGE-LEVEL VARIABLES READ AS WHEN THE CALL BEGINS. Each datum BY PROGRAM (the guide's laid-datum.mjs) off the statement by which the dump's own 'gosem.cut.vars' lays the variable. In a bare row this is a premise. The card (YteeofplcnnhcnaaDoorCards.lean) ties it to the program's text. -/
def laid_tollway_clock_monthDays {H : Type} : DataW H := .agg [.lit (.int .i64 31), .lit (.int .i64 28), .lit (.int .i64 31), .lit (.int .i64 30), .lit (.int .i64 31), .lit (.int .i64 30), .lit (.int .i64 31), .lit (.int .i64 31), .lit (.int .i64 30), .lit (.int .i64 31), .lit (.int .i64 30), .lit (.int .i64 31)]

/-- 'tollwaylaw25.CapChecks': WHATEVER THE INPUT: true; the input reads as it did. -/
def capChecksSpec : ChangeSpec := { name := "capChecks", fn := fun _ => fun
  | [d1, d2, d3] => { results := [.lit (.bool true)], args := [d1, d2, d3] }
  | _ => none }
def capChecksRow : OpenClaim := { program := "yteeofplcnnhcnaadoor", sum := "54c91ff1c9e5c3a304fe46084f42ab73d4b1a9fb62b5a7477a8bd03d08200d6d", func := "tollway/tollwaylaw25.CapChecks", spec := "capChecks", unfollowed := true, recurses := true, named := ["tollway/clock.monthDays"], plainKeys := false, apart := false, laid := [("tollway/clock.monthDays", laid_tollway_clock_monthDays)] }
def CapChecksSaid : Prop := capChecksRow.holds Tryd.pinned (OpenSpec.ofChange capChecksSpec)

/-- ITS FALSE NEIGHBOUR: 'it returns false'. Refute it at one input. -/
def capChecksWrong : ChangeSpec := { name := "capChecks", fn := fun _ => fun
  | [d1, d2, d3] => { results := [.lit (.bool false)], args := [d1, d2, d3] }
  | _ => none }
def CapChecksWrongFalsely : Prop := capChecksRow.holds Tryd.pinned (OpenSpec.ofChange capChecksWrong)

/-- 'tollwaylaw25.CapLefts': WHATEVER THE INPUT: true; the input reads as it did. -/
def capLeftsSpec : ChangeSpec := { name := "capLefts", fn := fun _ => fun
  | [d1, d2, d3] => { results := [.lit (.bool true)], args := [d1, d2, d3] }
  | _ => none }
def capLeftsRow : OpenClaim := { program := "yteeofplcnnhcnaadoor", sum := "54c91ff1c9e5c3a304fe46084f42ab73d4b1a9fb62b5a7477a8bd03d08200d6d", func := "tollway/tollwaylaw25.CapLefts", spec := "capLefts", unfollowed := true, recurses := true, named := ["tollway/clock.monthDays"], plainKeys := false, apart := false, laid := [("tollway/clock.monthDays", laid_tollway_clock_monthDays)] }
def CapLeftsSaid : Prop := capLeftsRow.holds Tryd.pinned (OpenSpec.ofChange capLeftsSpec)

/-- ITS FALSE NEIGHBOUR: 'it returns false'. Refute it at one input. -/
def capLeftsWrong : ChangeSpec := { name := "capLefts", fn := fun _ => fun
  | [d1, d2, d3] => { results := [.lit (.bool false)], args := [d1, d2, d3] }
  | _ => none }
def CapLeftsWrongFalsely : Prop := capLeftsRow.holds Tryd.pinned (OpenSpec.ofChange capLeftsWrong)

/- THE SECOND FORM. 'bulk': how many values and letters a reading holds, each counted each time it is reached (what is shared counts as often as it is met; a slice's spare places count too). A statement '..UptoSaid' is the law's where the arguments, and the package variables that the reading takes, are together of bulk at most 1048576: NARROWER than '..Said'. Prove '..Said' where nothing that the law and all that it calls make is longer than what came in: it says more and counts as full. Else prove '..UptoSaid'. A law counts once. -/
mutual
def uptoBulk {H : Type} : DataW H → Nat
  | .lit (.string bytes) => bytes.length + 1
  | .lit _ => 1
  | .nil => 1
  | .ptr d => uptoBulk d + 1
  | .slice elems spare => uptoBulkAll elems + uptoBulkAll spare + 1
  | .agg parts => uptoBulkAll parts + 1
  | .iface _ d => uptoBulk d + 1
  | .map entries => uptoBulkEntries entries + 1
  | .held _ => 1
def uptoBulkAll {H : Type} : List (DataW H) → Nat
  | [] => 0
  | d :: r => uptoBulk d + uptoBulkAll r
def uptoBulkEntries {H : Type} : List (Lit × DataW H) → Nat
  | [] => 0
  | x :: r => uptoBulkEntry x + uptoBulkEntries r
def uptoBulkEntry {H : Type} : Lit × DataW H → Nat
  | (.string bytes, d) => bytes.length + uptoBulk d + 1
  | (_, d) => uptoBulk d + 1
 end
def uptoSmall : (H : Type) → List (DataW H) → Bool := fun _ ds => decide (uptoBulkAll ds ≤ 1048576)
def OpenSpec.upto (s : _root_.Go.ChangeSpec) : _root_.Go.OpenSpec := { _root_.Go.OpenSpec.ofChange s with cond := some uptoSmall }

/-- 'tollwaylaw25.CapChecks', WHERE WHAT IT READS IS OF BULK AT MOST 1048576: true; the input reads as it did. -/
def capChecksUptoRow : OpenClaim := { program := "yteeofplcnnhcnaadoor", sum := "54c91ff1c9e5c3a304fe46084f42ab73d4b1a9fb62b5a7477a8bd03d08200d6d", func := "tollway/tollwaylaw25.CapChecks", spec := "capChecks", unfollowed := true, recurses := true, named := ["tollway/clock.monthDays"], plainKeys := false, apart := false, laid := [("tollway/clock.monthDays", laid_tollway_clock_monthDays)], narrowed := true }
def CapChecksUptoSaid : Prop := capChecksUptoRow.holds Tryd.pinned (OpenSpec.upto capChecksSpec)

/-- 'tollwaylaw25.CapLefts', WHERE WHAT IT READS IS OF BULK AT MOST 1048576: true; the input reads as it did. -/
def capLeftsUptoRow : OpenClaim := { program := "yteeofplcnnhcnaadoor", sum := "54c91ff1c9e5c3a304fe46084f42ab73d4b1a9fb62b5a7477a8bd03d08200d6d", func := "tollway/tollwaylaw25.CapLefts", spec := "capLefts", unfollowed := true, recurses := true, named := ["tollway/clock.monthDays"], plainKeys := false, apart := false, laid := [("tollway/clock.monthDays", laid_tollway_clock_monthDays)], narrowed := true }
def CapLeftsUptoSaid : Prop := capLeftsUptoRow.holds Tryd.pinned (OpenSpec.upto capLeftsSpec)

end Rows
end Go.Proofs.YteeofplcnnhcnaaDoor
