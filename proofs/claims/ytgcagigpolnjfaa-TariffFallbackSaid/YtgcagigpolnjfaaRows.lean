/-
  No cell of these rows narrows 'for every input' (looked for: loops, veiled, ifaces, maps, wideKeys, modest, calm, conditions, laid).
  DERIVED. THE GIVEN ROWS OF THIS SEAT. 3 by the template 'for every input the law returns true; each argument reads behind the call as it read before'; 0 by the template 'total and deterministic' (their statements: YtgcagigpolnjfaaTotals.lean).
  GIVEN WITH THE SEED: the statements are not yours to turn. If you find one false, say at which input.
  Laid BY PROGRAM, IN A SANDBOX (cutbox-rows.mjs): the forced cells as the released guide's own fill.sh prints them over the translation 44714ee516f38f0d… (all of the seat's roots in one cut). By AI agents, Wed Nov 11 2026. No macro, syntax, notation, axiom, sorry.
-/
import Derived.Test.YtgcagigpolnjfaaChecked
import GoSem.Claim
import GoSem.ClaimJoined
import GoSem.ClaimMapViews
import Derived.JoinedTies
import Derived.KernelRfl
namespace Go.Proofs.Ytgcagigpolnjfaa
/- THE CELL 'sum', in the pinned program and in every row, IS THE sha256 OF THE DUMP (.gsa) THAT YtgcagigpolnjfaaProg.lean LOADS. Nothing in Lean hashes anything: it is a label: what it is worth is what the hold of that sum in a sandbox is worth. -/
noncomputable def Try.pinned : Pinned := { name := "ytgcagigpolnjfaa", sum := "44714ee516f38f0d99db197adb0b0e820ae90d5b4bbf6e433f9044c7cd15a90c", checked := Try.checked }
namespace Rows
def none {H : Type} : Left H := { results := [], args := [] }

/-- 'tollwaylaw22.TariffTimes': WHATEVER THE INPUT: true; the input reads as it did. -/
def tariffTimesSpec : ChangeSpec := { name := "tariffTimes", fn := fun _ => fun
  | [d1, d2, d3] => { results := [.lit (.bool true)], args := [d1, d2, d3] }
  | _ => none }
def tariffTimesRow : OpenClaim := { program := "ytgcagigpolnjfaa", sum := "44714ee516f38f0d99db197adb0b0e820ae90d5b4bbf6e433f9044c7cd15a90c", func := "tollway/tollwaylaw22.TariffTimes", spec := "tariffTimes", unfollowed := true, recurses := true, apart := false }
def TariffTimesSaid : Prop := tariffTimesRow.holds Try.pinned (OpenSpec.ofChange tariffTimesSpec)

/-- ITS FALSE NEIGHBOUR: 'it returns false'. Refute it at one input. -/
def tariffTimesWrong : ChangeSpec := { name := "tariffTimes", fn := fun _ => fun
  | [d1, d2, d3] => { results := [.lit (.bool false)], args := [d1, d2, d3] }
  | _ => none }
def TariffTimesWrongFalsely : Prop := tariffTimesRow.holds Try.pinned (OpenSpec.ofChange tariffTimesWrong)

/-- 'tollwaylaw22.TariffWeeks': WHATEVER THE INPUT: true; the input reads as it did. -/
def tariffWeeksSpec : ChangeSpec := { name := "tariffWeeks", fn := fun _ => fun
  | [d1, d2, d3] => { results := [.lit (.bool true)], args := [d1, d2, d3] }
  | _ => none }
def tariffWeeksRow : OpenClaim := { program := "ytgcagigpolnjfaa", sum := "44714ee516f38f0d99db197adb0b0e820ae90d5b4bbf6e433f9044c7cd15a90c", func := "tollway/tollwaylaw22.TariffWeeks", spec := "tariffWeeks", unfollowed := true, recurses := true, apart := false }
def TariffWeeksSaid : Prop := tariffWeeksRow.holds Try.pinned (OpenSpec.ofChange tariffWeeksSpec)

/-- ITS FALSE NEIGHBOUR: 'it returns false'. Refute it at one input. -/
def tariffWeeksWrong : ChangeSpec := { name := "tariffWeeks", fn := fun _ => fun
  | [d1, d2, d3] => { results := [.lit (.bool false)], args := [d1, d2, d3] }
  | _ => none }
def TariffWeeksWrongFalsely : Prop := tariffWeeksRow.holds Try.pinned (OpenSpec.ofChange tariffWeeksWrong)

/-- 'tollwaylaw22.TariffFallback': WHATEVER THE INPUT: true; the input reads as it did. -/
def tariffFallbackSpec : ChangeSpec := { name := "tariffFallback", fn := fun _ => fun
  | [d1, d2] => { results := [.lit (.bool true)], args := [d1, d2] }
  | _ => none }
def tariffFallbackRow : OpenClaim := { program := "ytgcagigpolnjfaa", sum := "44714ee516f38f0d99db197adb0b0e820ae90d5b4bbf6e433f9044c7cd15a90c", func := "tollway/tollwaylaw22.TariffFallback", spec := "tariffFallback", unfollowed := true, recurses := true, apart := false }
def TariffFallbackSaid : Prop := tariffFallbackRow.holds Try.pinned (OpenSpec.ofChange tariffFallbackSpec)

/-- ITS FALSE NEIGHBOUR: 'it returns false'. Refute it at one input. -/
def tariffFallbackWrong : ChangeSpec := { name := "tariffFallback", fn := fun _ => fun
  | [d1, d2] => { results := [.lit (.bool false)], args := [d1, d2] }
  | _ => none }
def TariffFallbackWrongFalsely : Prop := tariffFallbackRow.holds Try.pinned (OpenSpec.ofChange tariffFallbackWrong)

/- THE SECOND FORM. 'bulk': how many values and letters a reading holds, each counted each time it is reached (what is shared counts as often as it is met; a slice's spare places count too). A statement '..UptoSaid' is the law's where the arguments, and the package variables that the reading takes, are together of bulk at most 1048576: NARROWER than '..Said'. Prove '..Said' where nothing that the law and all that it calls make is longer than what came in: it says more and counts as full. Else prove '..UptoSaid'. A law counts once. -/
mutual
def uptoBulk {H : Type} : DataW H → Nat
  | .lit (.string bytes) => bytes.length + 1
  | .lit _ => 1
  | .nil => 1
  | .ptr d => uptoBulk d + 1
  | .slice elems spare => uptoBulkAll elems + uptoBulkAll spare + 1
  | .agg parts => uptoBulkAll parts + 1
  | .iface _ d => uptoBulk d + 1
  | .map entries => uptoBulkEntries entries + 1
  | .held _ => 1
def uptoBulkAll {H : Type} : List (DataW H) → Nat
  | [] => 0
  | d :: r => uptoBulk d + uptoBulkAll r
def uptoBulkEntries {H : Type} : List (Lit × DataW H) → Nat
  | [] => 0
  | x :: r => uptoBulkEntry x + uptoBulkEntries r
def uptoBulkEntry {H : Type} : Lit × DataW H → Nat
  | (.string bytes, d) => bytes.length + uptoBulk d + 1
  | (_, d) => uptoBulk d + 1
 end
def uptoSmall : (H : Type) → List (DataW H) → Bool := fun _ ds => decide (uptoBulkAll ds ≤ 1048576)
def OpenSpec.upto (s : _root_.Go.ChangeSpec) : _root_.Go.OpenSpec := { _root_.Go.OpenSpec.ofChange s with cond := some uptoSmall }

/-- 'tollwaylaw22.TariffTimes', WHERE WHAT IT READS IS OF BULK AT MOST 1048576: true; the input reads as it did. -/
def tariffTimesUptoRow : OpenClaim := { program := "ytgcagigpolnjfaa", sum := "44714ee516f38f0d99db197adb0b0e820ae90d5b4bbf6e433f9044c7cd15a90c", func := "tollway/tollwaylaw22.TariffTimes", spec := "tariffTimes", unfollowed := true, recurses := true, apart := false, narrowed := true }
def TariffTimesUptoSaid : Prop := tariffTimesUptoRow.holds Try.pinned (OpenSpec.upto tariffTimesSpec)

/-- 'tollwaylaw22.TariffWeeks', WHERE WHAT IT READS IS OF BULK AT MOST 1048576: true; the input reads as it did. -/
def tariffWeeksUptoRow : OpenClaim := { program := "ytgcagigpolnjfaa", sum := "44714ee516f38f0d99db197adb0b0e820ae90d5b4bbf6e433f9044c7cd15a90c", func := "tollway/tollwaylaw22.TariffWeeks", spec := "tariffWeeks", unfollowed := true, recurses := true, apart := false, narrowed := true }
def TariffWeeksUptoSaid : Prop := tariffWeeksUptoRow.holds Try.pinned (OpenSpec.upto tariffWeeksSpec)

/-- 'tollwaylaw22.TariffFallback', WHERE WHAT IT READS IS OF BULK AT MOST 1048576: true; the input reads as it did. -/
def tariffFallbackUptoRow : OpenClaim := { program := "ytgcagigpolnjfaa", sum := "44714ee516f38f0d99db197adb0b0e820ae90d5b4bbf6e433f9044c7cd15a90c", func := "tollway/tollwaylaw22.TariffFallback", spec := "tariffFallback", unfollowed := true, recurses := true, apart := false, narrowed := true }
def TariffFallbackUptoSaid : Prop := tariffFallbackUptoRow.holds Try.pinned (OpenSpec.upto tariffFallbackSpec)

end Rows
end Go.Proofs.Ytgcagigpolnjfaa
