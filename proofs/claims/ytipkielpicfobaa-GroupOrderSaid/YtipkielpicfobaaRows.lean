/-
  No cell of these rows narrows 'for every input' (looked for: loops, veiled, ifaces, maps, wideKeys, modest, calm, conditions, laid).
  DERIVED. THE GIVEN ROWS OF THIS SEAT. 7 by the template 'for every input the law returns true; each argument reads behind the call as it read before'; 0 by the template 'total and deterministic' (their statements: YtipkielpicfobaaTotals.lean).
  GIVEN WITH THE SEED: the statements are not yours to turn. If you find one false, say at which input.
  Laid BY PROGRAM, IN A SANDBOX (cutbox-rows.mjs): the forced cells as the released guide's own fill.sh prints them over the translation 3814030013f3c79a… (all of the seat's roots in one cut). By AI agents, Wed Nov 11 2026. No macro, syntax, notation, axiom, sorry.
-/
import Derived.Test.YtipkielpicfobaaChecked
import GoSem.Claim
import GoSem.ClaimJoined
import GoSem.ClaimMapViews
import Derived.JoinedTies
import Derived.KernelRfl
namespace Go.Proofs.Ytipkielpicfobaa
/- THE CELL 'sum', in the pinned program and in every row, IS THE sha256 OF THE DUMP (.gsa) THAT YtipkielpicfobaaProg.lean LOADS. Nothing in Lean hashes anything: it is a label: what it is worth is what the hold of that sum in a sandbox is worth. -/
noncomputable def Try.pinned : Pinned := { name := "ytipkielpicfobaa", sum := "3814030013f3c79adbeeb30585c85b6c3d40da8fe2a0006ada82f81bd5891a56", checked := Try.checked }
namespace Rows
def none {H : Type} : Left H := { results := [], args := [] }

/-- 'tollwaylaw14.GroupFrames': WHATEVER THE INPUT: true; the input reads as it did. -/
def groupFramesSpec : ChangeSpec := { name := "groupFrames", fn := fun _ => fun
  | [d1, d2] => { results := [.lit (.bool true)], args := [d1, d2] }
  | _ => none }
def groupFramesRow : OpenClaim := { program := "ytipkielpicfobaa", sum := "3814030013f3c79adbeeb30585c85b6c3d40da8fe2a0006ada82f81bd5891a56", func := "tollway/tollwaylaw14.GroupFrames", spec := "groupFrames", unfollowed := true, recurses := true, apart := false }
def GroupFramesSaid : Prop := groupFramesRow.holds Try.pinned (OpenSpec.ofChange groupFramesSpec)

/-- ITS FALSE NEIGHBOUR: 'it returns false'. Refute it at one input. -/
def groupFramesWrong : ChangeSpec := { name := "groupFrames", fn := fun _ => fun
  | [d1, d2] => { results := [.lit (.bool false)], args := [d1, d2] }
  | _ => none }
def GroupFramesWrongFalsely : Prop := groupFramesRow.holds Try.pinned (OpenSpec.ofChange groupFramesWrong)

/-- 'tollwaylaw14.GroupAsks': WHATEVER THE INPUT: true; the input reads as it did. -/
def groupAsksSpec : ChangeSpec := { name := "groupAsks", fn := fun _ => fun
  | [d1, d2, d3, d4] => { results := [.lit (.bool true)], args := [d1, d2, d3, d4] }
  | _ => none }
def groupAsksRow : OpenClaim := { program := "ytipkielpicfobaa", sum := "3814030013f3c79adbeeb30585c85b6c3d40da8fe2a0006ada82f81bd5891a56", func := "tollway/tollwaylaw14.GroupAsks", spec := "groupAsks", unfollowed := true, recurses := true, apart := false }
def GroupAsksSaid : Prop := groupAsksRow.holds Try.pinned (OpenSpec.ofChange groupAsksSpec)

/-- ITS FALSE NEIGHBOUR: 'it returns false'. Refute it at one input. -/
def groupAsksWrong : ChangeSpec := { name := "groupAsks", fn := fun _ => fun
  | [d1, d2, d3, d4] => { results := [.lit (.bool false)], args := [d1, d2, d3, d4] }
  | _ => none }
def GroupAsksWrongFalsely : Prop := groupAsksRow.holds Try.pinned (OpenSpec.ofChange groupAsksWrong)

/-- 'tollwaylaw14.GroupInserts': WHATEVER THE INPUT: true; the input reads as it did. -/
def groupInsertsSpec : ChangeSpec := { name := "groupInserts", fn := fun _ => fun
  | [d1, d2, d3] => { results := [.lit (.bool true)], args := [d1, d2, d3] }
  | _ => none }
def groupInsertsRow : OpenClaim := { program := "ytipkielpicfobaa", sum := "3814030013f3c79adbeeb30585c85b6c3d40da8fe2a0006ada82f81bd5891a56", func := "tollway/tollwaylaw14.GroupInserts", spec := "groupInserts", unfollowed := true, recurses := true, apart := false }
def GroupInsertsSaid : Prop := groupInsertsRow.holds Try.pinned (OpenSpec.ofChange groupInsertsSpec)

/-- ITS FALSE NEIGHBOUR: 'it returns false'. Refute it at one input. -/
def groupInsertsWrong : ChangeSpec := { name := "groupInserts", fn := fun _ => fun
  | [d1, d2, d3] => { results := [.lit (.bool false)], args := [d1, d2, d3] }
  | _ => none }
def GroupInsertsWrongFalsely : Prop := groupInsertsRow.holds Try.pinned (OpenSpec.ofChange groupInsertsWrong)

/-- 'tollwaylaw14.GroupParts': WHATEVER THE INPUT: true; the input reads as it did. -/
def groupPartsSpec : ChangeSpec := { name := "groupParts", fn := fun _ => fun
  | [d1, d2] => { results := [.lit (.bool true)], args := [d1, d2] }
  | _ => none }
def groupPartsRow : OpenClaim := { program := "ytipkielpicfobaa", sum := "3814030013f3c79adbeeb30585c85b6c3d40da8fe2a0006ada82f81bd5891a56", func := "tollway/tollwaylaw14.GroupParts", spec := "groupParts", unfollowed := true, recurses := true, apart := false }
def GroupPartsSaid : Prop := groupPartsRow.holds Try.pinned (OpenSpec.ofChange groupPartsSpec)

/-- ITS FALSE NEIGHBOUR: 'it returns false'. Refute it at one input. -/
def groupPartsWrong : ChangeSpec := { name := "groupParts", fn := fun _ => fun
  | [d1, d2] => { results := [.lit (.bool false)], args := [d1, d2] }
  | _ => none }
def GroupPartsWrongFalsely : Prop := groupPartsRow.holds Try.pinned (OpenSpec.ofChange groupPartsWrong)

/-- 'tollwaylaw14.GroupOrder': WHATEVER THE INPUT: true; the input reads as it did. -/
def groupOrderSpec : ChangeSpec := { name := "groupOrder", fn := fun _ => fun
  | [d1, d2, d3, d4] => { results := [.lit (.bool true)], args := [d1, d2, d3, d4] }
  | _ => none }
def groupOrderRow : OpenClaim := { program := "ytipkielpicfobaa", sum := "3814030013f3c79adbeeb30585c85b6c3d40da8fe2a0006ada82f81bd5891a56", func := "tollway/tollwaylaw14.GroupOrder", spec := "groupOrder", unfollowed := true, recurses := true, apart := false }
def GroupOrderSaid : Prop := groupOrderRow.holds Try.pinned (OpenSpec.ofChange groupOrderSpec)

/-- ITS FALSE NEIGHBOUR: 'it returns false'. Refute it at one input. -/
def groupOrderWrong : ChangeSpec := { name := "groupOrder", fn := fun _ => fun
  | [d1, d2, d3, d4] => { results := [.lit (.bool false)], args := [d1, d2, d3, d4] }
  | _ => none }
def GroupOrderWrongFalsely : Prop := groupOrderRow.holds Try.pinned (OpenSpec.ofChange groupOrderWrong)

/-- 'tollwaylaw14.GroupSteps': WHATEVER THE INPUT: true; the input reads as it did. -/
def groupStepsSpec : ChangeSpec := { name := "groupSteps", fn := fun _ => fun
  | [d1, d2] => { results := [.lit (.bool true)], args := [d1, d2] }
  | _ => none }
def groupStepsRow : OpenClaim := { program := "ytipkielpicfobaa", sum := "3814030013f3c79adbeeb30585c85b6c3d40da8fe2a0006ada82f81bd5891a56", func := "tollway/tollwaylaw14.GroupSteps", spec := "groupSteps", unfollowed := true, recurses := true, apart := false }
def GroupStepsSaid : Prop := groupStepsRow.holds Try.pinned (OpenSpec.ofChange groupStepsSpec)

/-- ITS FALSE NEIGHBOUR: 'it returns false'. Refute it at one input. -/
def groupStepsWrong : ChangeSpec := { name := "groupSteps", fn := fun _ => fun
  | [d1, d2] => { results := [.lit (.bool false)], args := [d1, d2] }
  | _ => none }
def GroupStepsWrongFalsely : Prop := groupStepsRow.holds Try.pinned (OpenSpec.ofChange groupStepsWrong)

/-- 'tollwaylaw14.GroupOwn': WHATEVER THE INPUT: true; the input reads as it did. -/
def groupOwnSpec : ChangeSpec := { name := "groupOwn", fn := fun _ => fun
  | [d1, d2, d3] => { results := [.lit (.bool true)], args := [d1, d2, d3] }
  | _ => none }
def groupOwnRow : OpenClaim := { program := "ytipkielpicfobaa", sum := "3814030013f3c79adbeeb30585c85b6c3d40da8fe2a0006ada82f81bd5891a56", func := "tollway/tollwaylaw14.GroupOwn", spec := "groupOwn", unfollowed := true, recurses := true, apart := false }
def GroupOwnSaid : Prop := groupOwnRow.holds Try.pinned (OpenSpec.ofChange groupOwnSpec)

/-- ITS FALSE NEIGHBOUR: 'it returns false'. Refute it at one input. -/
def groupOwnWrong : ChangeSpec := { name := "groupOwn", fn := fun _ => fun
  | [d1, d2, d3] => { results := [.lit (.bool false)], args := [d1, d2, d3] }
  | _ => none }
def GroupOwnWrongFalsely : Prop := groupOwnRow.holds Try.pinned (OpenSpec.ofChange groupOwnWrong)

/- THE SECOND FORM. 'bulk': how many values and letters a reading holds, each counted each time it is reached (what is shared counts as often as it is met; a slice's spare places count too). A statement '..UptoSaid' is the law's where the arguments, and the package variables that the reading takes, are together of bulk at most 1048576: NARROWER than '..Said'. Prove '..Said' where nothing that the law and all that it calls make is longer than what came in: it says more and counts as full. Else prove '..UptoSaid'. A law counts once. -/
mutual
def uptoBulk {H : Type} : DataW H → Nat
  | .lit (.string bytes) => bytes.length + 1
  | .lit _ => 1
  | .nil => 1
  | .ptr d => uptoBulk d + 1
  | .slice elems spare => uptoBulkAll elems + uptoBulkAll spare + 1
  | .agg parts => uptoBulkAll parts + 1
  | .iface _ d => uptoBulk d + 1
  | .map entries => uptoBulkEntries entries + 1
  | .held _ => 1
def uptoBulkAll {H : Type} : List (DataW H) → Nat
  | [] => 0
  | d :: r => uptoBulk d + uptoBulkAll r
def uptoBulkEntries {H : Type} : List (Lit × DataW H) → Nat
  | [] => 0
  | x :: r => uptoBulkEntry x + uptoBulkEntries r
def uptoBulkEntry {H : Type} : Lit × DataW H → Nat
  | (.string bytes, d) => bytes.length + uptoBulk d + 1
  | (_, d) => uptoBulk d + 1
 end
def uptoSmall : (H : Type) → List (DataW H) → Bool := fun _ ds => decide (uptoBulkAll ds ≤ 1048576)
def OpenSpec.upto (s : _root_.Go.ChangeSpec) : _root_.Go.OpenSpec := { _root_.Go.OpenSpec.ofChange s with cond := some uptoSmall }

/-- 'tollwaylaw14.GroupFrames', WHERE WHAT IT READS IS OF BULK AT MOST 1048576: true; the input reads as it did. -/
def groupFramesUptoRow : OpenClaim := { program := "ytipkielpicfobaa", sum := "3814030013f3c79adbeeb30585c85b6c3d40da8fe2a0006ada82f81bd5891a56", func := "tollway/tollwaylaw14.GroupFrames", spec := "groupFrames", unfollowed := true, recurses := true, apart := false, narrowed := true }
def GroupFramesUptoSaid : Prop := groupFramesUptoRow.holds Try.pinned (OpenSpec.upto groupFramesSpec)

/-- 'tollwaylaw14.GroupAsks', WHERE WHAT IT READS IS OF BULK AT MOST 1048576: true; the input reads as it did. -/
def groupAsksUptoRow : OpenClaim := { program := "ytipkielpicfobaa", sum := "3814030013f3c79adbeeb30585c85b6c3d40da8fe2a0006ada82f81bd5891a56", func := "tollway/tollwaylaw14.GroupAsks", spec := "groupAsks", unfollowed := true, recurses := true, apart := false, narrowed := true }
def GroupAsksUptoSaid : Prop := groupAsksUptoRow.holds Try.pinned (OpenSpec.upto groupAsksSpec)

/-- 'tollwaylaw14.GroupInserts', WHERE WHAT IT READS IS OF BULK AT MOST 1048576: true; the input reads as it did. -/
def groupInsertsUptoRow : OpenClaim := { program := "ytipkielpicfobaa", sum := "3814030013f3c79adbeeb30585c85b6c3d40da8fe2a0006ada82f81bd5891a56", func := "tollway/tollwaylaw14.GroupInserts", spec := "groupInserts", unfollowed := true, recurses := true, apart := false, narrowed := true }
def GroupInsertsUptoSaid : Prop := groupInsertsUptoRow.holds Try.pinned (OpenSpec.upto groupInsertsSpec)

/-- 'tollwaylaw14.GroupParts', WHERE WHAT IT READS IS OF BULK AT MOST 1048576: true; the input reads as it did. -/
def groupPartsUptoRow : OpenClaim := { program := "ytipkielpicfobaa", sum := "3814030013f3c79adbeeb30585c85b6c3d40da8fe2a0006ada82f81bd5891a56", func := "tollway/tollwaylaw14.GroupParts", spec := "groupParts", unfollowed := true, recurses := true, apart := false, narrowed := true }
def GroupPartsUptoSaid : Prop := groupPartsUptoRow.holds Try.pinned (OpenSpec.upto groupPartsSpec)

/-- 'tollwaylaw14.GroupOrder', WHERE WHAT IT READS IS OF BULK AT MOST 1048576: true; the input reads as it did. -/
def groupOrderUptoRow : OpenClaim := { program := "ytipkielpicfobaa", sum := "3814030013f3c79adbeeb30585c85b6c3d40da8fe2a0006ada82f81bd5891a56", func := "tollway/tollwaylaw14.GroupOrder", spec := "groupOrder", unfollowed := true, recurses := true, apart := false, narrowed := true }
def GroupOrderUptoSaid : Prop := groupOrderUptoRow.holds Try.pinned (OpenSpec.upto groupOrderSpec)

/-- 'tollwaylaw14.GroupSteps', WHERE WHAT IT READS IS OF BULK AT MOST 1048576: true; the input reads as it did. -/
def groupStepsUptoRow : OpenClaim := { program := "ytipkielpicfobaa", sum := "3814030013f3c79adbeeb30585c85b6c3d40da8fe2a0006ada82f81bd5891a56", func := "tollway/tollwaylaw14.GroupSteps", spec := "groupSteps", unfollowed := true, recurses := true, apart := false, narrowed := true }
def GroupStepsUptoSaid : Prop := groupStepsUptoRow.holds Try.pinned (OpenSpec.upto groupStepsSpec)

/-- 'tollwaylaw14.GroupOwn', WHERE WHAT IT READS IS OF BULK AT MOST 1048576: true; the input reads as it did. -/
def groupOwnUptoRow : OpenClaim := { program := "ytipkielpicfobaa", sum := "3814030013f3c79adbeeb30585c85b6c3d40da8fe2a0006ada82f81bd5891a56", func := "tollway/tollwaylaw14.GroupOwn", spec := "groupOwn", unfollowed := true, recurses := true, apart := false, narrowed := true }
def GroupOwnUptoSaid : Prop := groupOwnUptoRow.holds Try.pinned (OpenSpec.upto groupOwnSpec)

end Rows
end Go.Proofs.Ytipkielpicfobaa
