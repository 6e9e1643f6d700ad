/-
  No cell of these rows narrows 'for every input' (looked for: loops, veiled, ifaces, maps, wideKeys, modest, calm, conditions, laid).
  DERIVED. THE GIVEN ROWS OF THIS SEAT. 5 by the template 'for every input the law returns true; each argument reads behind the call as it read before'; 0 by the template 'total and deterministic' (their statements: YtniefocnfcaebaaTotals.lean).
  GIVEN WITH THE SEED: the statements are not yours to turn. If you find one false, say at which input.
  Laid BY PROGRAM, IN A SANDBOX (cutbox-rows.mjs): the forced cells as the released guide's own fill.sh prints them over the translation fb620684d73de12b… (all of the seat's roots in one cut). By AI agents, Wed Nov 11 2026. No macro, syntax, notation, axiom, sorry.
-/
import Derived.Test.YtniefocnfcaebaaChecked
import GoSem.Claim
import GoSem.ClaimJoined
import GoSem.ClaimMapViews
import Derived.JoinedTies
import Derived.KernelRfl
namespace Go.Proofs.Ytniefocnfcaebaa
/- THE CELL 'sum', in the pinned program and in every row, IS THE sha256 OF THE DUMP (.gsa) THAT YtniefocnfcaebaaProg.lean LOADS. Nothing in Lean hashes anything: it is a label: what it is worth is what the hold of that sum in a sandbox is worth. -/
noncomputable def Try.pinned : Pinned := { name := "ytniefocnfcaebaa", sum := "fb620684d73de12b334aec4a250cc48093506dbb2900978183586803b7673ad7", checked := Try.checked }
namespace Rows
def none {H : Type} : Left H := { results := [], args := [] }

/-- 'tollwaylaw26.ZoneOpens': WHATEVER THE INPUT: true; the input reads as it did. -/
def zoneOpensSpec : ChangeSpec := { name := "zoneOpens", fn := fun _ => fun
  | [d1, d2] => { results := [.lit (.bool true)], args := [d1, d2] }
  | _ => none }
def zoneOpensRow : OpenClaim := { program := "ytniefocnfcaebaa", sum := "fb620684d73de12b334aec4a250cc48093506dbb2900978183586803b7673ad7", func := "tollway/tollwaylaw26.ZoneOpens", spec := "zoneOpens", unfollowed := true, recurses := true, apart := false }
def ZoneOpensSaid : Prop := zoneOpensRow.holds Try.pinned (OpenSpec.ofChange zoneOpensSpec)

/-- ITS FALSE NEIGHBOUR: 'it returns false'. Refute it at one input. -/
def zoneOpensWrong : ChangeSpec := { name := "zoneOpens", fn := fun _ => fun
  | [d1, d2] => { results := [.lit (.bool false)], args := [d1, d2] }
  | _ => none }
def ZoneOpensWrongFalsely : Prop := zoneOpensRow.holds Try.pinned (OpenSpec.ofChange zoneOpensWrong)

/-- 'tollwaylaw26.ZoneEnforces': WHATEVER THE INPUT: true; the input reads as it did. -/
def zoneEnforcesSpec : ChangeSpec := { name := "zoneEnforces", fn := fun _ => fun
  | [d1, d2] => { results := [.lit (.bool true)], args := [d1, d2] }
  | _ => none }
def zoneEnforcesRow : OpenClaim := { program := "ytniefocnfcaebaa", sum := "fb620684d73de12b334aec4a250cc48093506dbb2900978183586803b7673ad7", func := "tollway/tollwaylaw26.ZoneEnforces", spec := "zoneEnforces", unfollowed := true, recurses := true, apart := false }
def ZoneEnforcesSaid : Prop := zoneEnforcesRow.holds Try.pinned (OpenSpec.ofChange zoneEnforcesSpec)

/-- ITS FALSE NEIGHBOUR: 'it returns false'. Refute it at one input. -/
def zoneEnforcesWrong : ChangeSpec := { name := "zoneEnforces", fn := fun _ => fun
  | [d1, d2] => { results := [.lit (.bool false)], args := [d1, d2] }
  | _ => none }
def ZoneEnforcesWrongFalsely : Prop := zoneEnforcesRow.holds Try.pinned (OpenSpec.ofChange zoneEnforcesWrong)

/-- 'tollwaylaw26.ZoneOpenTimes': WHATEVER THE INPUT: true; the input reads as it did. -/
def zoneOpenTimesSpec : ChangeSpec := { name := "zoneOpenTimes", fn := fun _ => fun
  | [d1, d2, d3] => { results := [.lit (.bool true)], args := [d1, d2, d3] }
  | _ => none }
def zoneOpenTimesRow : OpenClaim := { program := "ytniefocnfcaebaa", sum := "fb620684d73de12b334aec4a250cc48093506dbb2900978183586803b7673ad7", func := "tollway/tollwaylaw26.ZoneOpenTimes", spec := "zoneOpenTimes", unfollowed := true, recurses := true, apart := false }
def ZoneOpenTimesSaid : Prop := zoneOpenTimesRow.holds Try.pinned (OpenSpec.ofChange zoneOpenTimesSpec)

/-- ITS FALSE NEIGHBOUR: 'it returns false'. Refute it at one input. -/
def zoneOpenTimesWrong : ChangeSpec := { name := "zoneOpenTimes", fn := fun _ => fun
  | [d1, d2, d3] => { results := [.lit (.bool false)], args := [d1, d2, d3] }
  | _ => none }
def ZoneOpenTimesWrongFalsely : Prop := zoneOpenTimesRow.holds Try.pinned (OpenSpec.ofChange zoneOpenTimesWrong)

/-- 'tollwaylaw26.ZoneJoins': WHATEVER THE INPUT: true; the input reads as it did. -/
def zoneJoinsSpec : ChangeSpec := { name := "zoneJoins", fn := fun _ => fun
  | [d1, d2, d3] => { results := [.lit (.bool true)], args := [d1, d2, d3] }
  | _ => none }
def zoneJoinsRow : OpenClaim := { program := "ytniefocnfcaebaa", sum := "fb620684d73de12b334aec4a250cc48093506dbb2900978183586803b7673ad7", func := "tollway/tollwaylaw26.ZoneJoins", spec := "zoneJoins", unfollowed := true, recurses := true, apart := false }
def ZoneJoinsSaid : Prop := zoneJoinsRow.holds Try.pinned (OpenSpec.ofChange zoneJoinsSpec)

/-- ITS FALSE NEIGHBOUR: 'it returns false'. Refute it at one input. -/
def zoneJoinsWrong : ChangeSpec := { name := "zoneJoins", fn := fun _ => fun
  | [d1, d2, d3] => { results := [.lit (.bool false)], args := [d1, d2, d3] }
  | _ => none }
def ZoneJoinsWrongFalsely : Prop := zoneJoinsRow.holds Try.pinned (OpenSpec.ofChange zoneJoinsWrong)

/-- 'tollwaylaw26.ZoneNexts': WHATEVER THE INPUT: true; the input reads as it did. -/
def zoneNextsSpec : ChangeSpec := { name := "zoneNexts", fn := fun _ => fun
  | [d1, d2, d3] => { results := [.lit (.bool true)], args := [d1, d2, d3] }
  | _ => none }
def zoneNextsRow : OpenClaim := { program := "ytniefocnfcaebaa", sum := "fb620684d73de12b334aec4a250cc48093506dbb2900978183586803b7673ad7", func := "tollway/tollwaylaw26.ZoneNexts", spec := "zoneNexts", unfollowed := true, recurses := true, apart := false }
def ZoneNextsSaid : Prop := zoneNextsRow.holds Try.pinned (OpenSpec.ofChange zoneNextsSpec)

/-- ITS FALSE NEIGHBOUR: 'it returns false'. Refute it at one input. -/
def zoneNextsWrong : ChangeSpec := { name := "zoneNexts", fn := fun _ => fun
  | [d1, d2, d3] => { results := [.lit (.bool false)], args := [d1, d2, d3] }
  | _ => none }
def ZoneNextsWrongFalsely : Prop := zoneNextsRow.holds Try.pinned (OpenSpec.ofChange zoneNextsWrong)

/- THE SECOND FORM. 'bulk': how many values and letters a reading holds, each counted each time it is reached (what is shared counts as often as it is met; a slice's spare places count too). A statement '..UptoSaid' is the law's where the arguments, and the package variables that the reading takes, are together of bulk at most 1048576: NARROWER than '..Said'. Prove '..Said' where nothing that the law and all that it calls make is longer than what came in: it says more and counts as full. Else prove '..UptoSaid'. A law counts once. -/
mutual
def uptoBulk {H : Type} : DataW H → Nat
  | .lit (.string bytes) => bytes.length + 1
  | .lit _ => 1
  | .nil => 1
  | .ptr d => uptoBulk d + 1
  | .slice elems spare => uptoBulkAll elems + uptoBulkAll spare + 1
  | .agg parts => uptoBulkAll parts + 1
  | .iface _ d => uptoBulk d + 1
  | .map entries => uptoBulkEntries entries + 1
  | .held _ => 1
def uptoBulkAll {H : Type} : List (DataW H) → Nat
  | [] => 0
  | d :: r => uptoBulk d + uptoBulkAll r
def uptoBulkEntries {H : Type} : List (Lit × DataW H) → Nat
  | [] => 0
  | x :: r => uptoBulkEntry x + uptoBulkEntries r
def uptoBulkEntry {H : Type} : Lit × DataW H → Nat
  | (.string bytes, d) => bytes.length + uptoBulk d + 1
  | (_, d) => uptoBulk d + 1
 end
def uptoSmall : (H : Type) → List (DataW H) → Bool := fun _ ds => decide (uptoBulkAll ds ≤ 1048576)
def OpenSpec.upto (s : _root_.Go.ChangeSpec) : _root_.Go.OpenSpec := { _root_.Go.OpenSpec.ofChange s with cond := some uptoSmall }

/-- 'tollwaylaw26.ZoneOpens', WHERE WHAT IT READS IS OF BULK AT MOST 1048576: true; the input reads as it did. -/
def zoneOpensUptoRow : OpenClaim := { program := "ytniefocnfcaebaa", sum := "fb620684d73de12b334aec4a250cc48093506dbb2900978183586803b7673ad7", func := "tollway/tollwaylaw26.ZoneOpens", spec := "zoneOpens", unfollowed := true, recurses := true, apart := false, narrowed := true }
def ZoneOpensUptoSaid : Prop := zoneOpensUptoRow.holds Try.pinned (OpenSpec.upto zoneOpensSpec)

/-- 'tollwaylaw26.ZoneEnforces', WHERE WHAT IT READS IS OF BULK AT MOST 1048576: true; the input reads as it did. -/
def zoneEnforcesUptoRow : OpenClaim := { program := "ytniefocnfcaebaa", sum := "fb620684d73de12b334aec4a250cc48093506dbb2900978183586803b7673ad7", func := "tollway/tollwaylaw26.ZoneEnforces", spec := "zoneEnforces", unfollowed := true, recurses := true, apart := false, narrowed := true }
def ZoneEnforcesUptoSaid : Prop := zoneEnforcesUptoRow.holds Try.pinned (OpenSpec.upto zoneEnforcesSpec)

/-- 'tollwaylaw26.ZoneOpenTimes', WHERE WHAT IT READS IS OF BULK AT MOST 1048576: true; the input reads as it did. -/
def zoneOpenTimesUptoRow : OpenClaim := { program := "ytniefocnfcaebaa", sum := "fb620684d73de12b334aec4a250cc48093506dbb2900978183586803b7673ad7", func := "tollway/tollwaylaw26.ZoneOpenTimes", spec := "zoneOpenTimes", unfollowed := true, recurses := true, apart := false, narrowed := true }
def ZoneOpenTimesUptoSaid : Prop := zoneOpenTimesUptoRow.holds Try.pinned (OpenSpec.upto zoneOpenTimesSpec)

/-- 'tollwaylaw26.ZoneJoins', WHERE WHAT IT READS IS OF BULK AT MOST 1048576: true; the input reads as it did. -/
def zoneJoinsUptoRow : OpenClaim := { program := "ytniefocnfcaebaa", sum := "fb620684d73de12b334aec4a250cc48093506dbb2900978183586803b7673ad7", func := "tollway/tollwaylaw26.ZoneJoins", spec := "zoneJoins", unfollowed := true, recurses := true, apart := false, narrowed := true }
def ZoneJoinsUptoSaid : Prop := zoneJoinsUptoRow.holds Try.pinned (OpenSpec.upto zoneJoinsSpec)

/-- 'tollwaylaw26.ZoneNexts', WHERE WHAT IT READS IS OF BULK AT MOST 1048576: true; the input reads as it did. -/
def zoneNextsUptoRow : OpenClaim := { program := "ytniefocnfcaebaa", sum := "fb620684d73de12b334aec4a250cc48093506dbb2900978183586803b7673ad7", func := "tollway/tollwaylaw26.ZoneNexts", spec := "zoneNexts", unfollowed := true, recurses := true, apart := false, narrowed := true }
def ZoneNextsUptoSaid : Prop := zoneNextsUptoRow.holds Try.pinned (OpenSpec.upto zoneNextsSpec)

end Rows
end Go.Proofs.Ytniefocnfcaebaa
