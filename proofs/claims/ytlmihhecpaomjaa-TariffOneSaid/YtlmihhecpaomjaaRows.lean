/-
  No cell of these rows narrows 'for every input' (looked for: loops, veiled, ifaces, maps, wideKeys, modest, calm, conditions, laid).
  DERIVED. THE GIVEN ROWS OF THIS SEAT. 3 by the template 'for every input the law returns true; each argument reads behind the call as it read before'; 0 by the template 'total and deterministic' (their statements: YtlmihhecpaomjaaTotals.lean).
  GIVEN WITH THE SEED: the statements are not yours to turn. If you find one false, say at which input.
  Laid BY PROGRAM, IN A SANDBOX (cutbox-rows.mjs): the forced cells as the released guide's own fill.sh prints them over the translation 98e431997082c6ef… (all of the seat's roots in one cut). By AI agents, Wed Nov 11 2026. No macro, syntax, notation, axiom, sorry.
-/
import Derived.Test.YtlmihhecpaomjaaChecked
import GoSem.Claim
import GoSem.ClaimJoined
import GoSem.ClaimMapViews
import Derived.JoinedTies
import Derived.KernelRfl
namespace Go.Proofs.Ytlmihhecpaomjaa
/- THE CELL 'sum', in the pinned program and in every row, IS THE sha256 OF THE DUMP (.gsa) THAT YtlmihhecpaomjaaProg.lean LOADS. Nothing in Lean hashes anything: it is a label: what it is worth is what the hold of that sum in a sandbox is worth. -/
noncomputable def Try.pinned : Pinned := { name := "ytlmihhecpaomjaa", sum := "98e431997082c6ef312adf5027e7f834a4cc016f204ebff0baed8148f413d581", checked := Try.checked }
namespace Rows
def none {H : Type} : Left H := { results := [], args := [] }

/-- 'tollwaylaw22.TariffChecks': WHATEVER THE INPUT: true; the input reads as it did. -/
def tariffChecksSpec : ChangeSpec := { name := "tariffChecks", fn := fun _ => fun
  | [d1, d2] => { results := [.lit (.bool true)], args := [d1, d2] }
  | _ => none }
def tariffChecksRow : OpenClaim := { program := "ytlmihhecpaomjaa", sum := "98e431997082c6ef312adf5027e7f834a4cc016f204ebff0baed8148f413d581", func := "tollway/tollwaylaw22.TariffChecks", spec := "tariffChecks", unfollowed := true, recurses := true, plainKeys := false, apart := false }
def TariffChecksSaid : Prop := tariffChecksRow.holds Try.pinned (OpenSpec.ofChange tariffChecksSpec)

/-- ITS FALSE NEIGHBOUR: 'it returns false'. Refute it at one input. -/
def tariffChecksWrong : ChangeSpec := { name := "tariffChecks", fn := fun _ => fun
  | [d1, d2] => { results := [.lit (.bool false)], args := [d1, d2] }
  | _ => none }
def TariffChecksWrongFalsely : Prop := tariffChecksRow.holds Try.pinned (OpenSpec.ofChange tariffChecksWrong)

/-- 'tollwaylaw22.TariffLists': WHATEVER THE INPUT: true; the input reads as it did. -/
def tariffListsSpec : ChangeSpec := { name := "tariffLists", fn := fun _ => fun
  | [d1, d2] => { results := [.lit (.bool true)], args := [d1, d2] }
  | _ => none }
def tariffListsRow : OpenClaim := { program := "ytlmihhecpaomjaa", sum := "98e431997082c6ef312adf5027e7f834a4cc016f204ebff0baed8148f413d581", func := "tollway/tollwaylaw22.TariffLists", spec := "tariffLists", unfollowed := true, recurses := true, plainKeys := false, apart := false }
def TariffListsSaid : Prop := tariffListsRow.holds Try.pinned (OpenSpec.ofChange tariffListsSpec)

/-- ITS FALSE NEIGHBOUR: 'it returns false'. Refute it at one input. -/
def tariffListsWrong : ChangeSpec := { name := "tariffLists", fn := fun _ => fun
  | [d1, d2] => { results := [.lit (.bool false)], args := [d1, d2] }
  | _ => none }
def TariffListsWrongFalsely : Prop := tariffListsRow.holds Try.pinned (OpenSpec.ofChange tariffListsWrong)

/-- 'tollwaylaw22.TariffOne': WHATEVER THE INPUT: true; the input reads as it did. -/
def tariffOneSpec : ChangeSpec := { name := "tariffOne", fn := fun _ => fun
  | [d1, d2, d3] => { results := [.lit (.bool true)], args := [d1, d2, d3] }
  | _ => none }
def tariffOneRow : OpenClaim := { program := "ytlmihhecpaomjaa", sum := "98e431997082c6ef312adf5027e7f834a4cc016f204ebff0baed8148f413d581", func := "tollway/tollwaylaw22.TariffOne", spec := "tariffOne", unfollowed := true, recurses := true, plainKeys := false, apart := false }
def TariffOneSaid : Prop := tariffOneRow.holds Try.pinned (OpenSpec.ofChange tariffOneSpec)

/-- ITS FALSE NEIGHBOUR: 'it returns false'. Refute it at one input. -/
def tariffOneWrong : ChangeSpec := { name := "tariffOne", fn := fun _ => fun
  | [d1, d2, d3] => { results := [.lit (.bool false)], args := [d1, d2, d3] }
  | _ => none }
def TariffOneWrongFalsely : Prop := tariffOneRow.holds Try.pinned (OpenSpec.ofChange tariffOneWrong)

/- THE SECOND FORM. 'bulk': how many values and letters a reading holds, each counted each time it is reached (what is shared counts as often as it is met; a slice's spare places count too). A statement '..UptoSaid' is the law's where the arguments, and the package variables that the reading takes, are together of bulk at most 1048576: NARROWER than '..Said'. Prove '..Said' where nothing that the law and all that it calls make is longer than what came in: it says more and counts as full. Else prove '..UptoSaid'. A law counts once. -/
mutual
def uptoBulk {H : Type} : DataW H → Nat
  | .lit (.string bytes) => bytes.length + 1
  | .lit _ => 1
  | .nil => 1
  | .ptr d => uptoBulk d + 1
  | .slice elems spare => uptoBulkAll elems + uptoBulkAll spare + 1
  | .agg parts => uptoBulkAll parts + 1
  | .iface _ d => uptoBulk d + 1
  | .map entries => uptoBulkEntries entries + 1
  | .held _ => 1
def uptoBulkAll {H : Type} : List (DataW H) → Nat
  | [] => 0
  | d :: r => uptoBulk d + uptoBulkAll r
def uptoBulkEntries {H : Type} : List (Lit × DataW H) → Nat
  | [] => 0
  | x :: r => uptoBulkEntry x + uptoBulkEntries r
def uptoBulkEntry {H : Type} : Lit × DataW H → Nat
  | (.string bytes, d) => bytes.length + uptoBulk d + 1
  | (_, d) => uptoBulk d + 1
 end
def uptoSmall : (H : Type) → List (DataW H) → Bool := fun _ ds => decide (uptoBulkAll ds ≤ 1048576)
def OpenSpec.upto (s : _root_.Go.ChangeSpec) : _root_.Go.OpenSpec := { _root_.Go.OpenSpec.ofChange s with cond := some uptoSmall }

/-- 'tollwaylaw22.TariffChecks', WHERE WHAT IT READS IS OF BULK AT MOST 1048576: true; the input reads as it did. -/
def tariffChecksUptoRow : OpenClaim := { program := "ytlmihhecpaomjaa", sum := "98e431997082c6ef312adf5027e7f834a4cc016f204ebff0baed8148f413d581", func := "tollway/tollwaylaw22.TariffChecks", spec := "tariffChecks", unfollowed := true, recurses := true, plainKeys := false, apart := false, narrowed := true }
def TariffChecksUptoSaid : Prop := tariffChecksUptoRow.holds Try.pinned (OpenSpec.upto tariffChecksSpec)

/-- 'tollwaylaw22.TariffLists', WHERE WHAT IT READS IS OF BULK AT MOST 1048576: true; the input reads as it did. -/
def tariffListsUptoRow : OpenClaim := { program := "ytlmihhecpaomjaa", sum := "98e431997082c6ef312adf5027e7f834a4cc016f204ebff0baed8148f413d581", func := "tollway/tollwaylaw22.TariffLists", spec := "tariffLists", unfollowed := true, recurses := true, plainKeys := false, apart := false, narrowed := true }
def TariffListsUptoSaid : Prop := tariffListsUptoRow.holds Try.pinned (OpenSpec.upto tariffListsSpec)

/-- 'tollwaylaw22.TariffOne', WHERE WHAT IT READS IS OF BULK AT MOST 1048576: true; the input reads as it did. -/
def tariffOneUptoRow : OpenClaim := { program := "ytlmihhecpaomjaa", sum := "98e431997082c6ef312adf5027e7f834a4cc016f204ebff0baed8148f413d581", func := "tollway/tollwaylaw22.TariffOne", spec := "tariffOne", unfollowed := true, recurses := true, plainKeys := false, apart := false, narrowed := true }
def TariffOneUptoSaid : Prop := tariffOneUptoRow.holds Try.pinned (OpenSpec.upto tariffOneSpec)

end Rows
end Go.Proofs.Ytlmihhecpaomjaa
