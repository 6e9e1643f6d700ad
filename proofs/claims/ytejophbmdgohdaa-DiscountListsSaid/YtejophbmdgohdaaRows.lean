/-
  No cell of these rows narrows 'for every input' (looked for: loops, veiled, ifaces, maps, wideKeys, modest, calm, conditions, laid).
  DERIVED. THE GIVEN ROWS OF THIS SEAT. 3 by the template 'for every input the law returns true; each argument reads behind the call as it read before'; 0 by the template 'total and deterministic' (their statements: YtejophbmdgohdaaTotals.lean).
  GIVEN WITH THE SEED: the statements are not yours to turn. If you find one false, say at which input.
  Laid BY PROGRAM, IN A SANDBOX (cutbox-rows.mjs): the forced cells as the released guide's own fill.sh prints them over the translation 37933849a2c7e091… (all of the seat's roots in one cut). By AI agents, Wed Nov 11 2026. No macro, syntax, notation, axiom, sorry.
-/
import Derived.Test.YtejophbmdgohdaaChecked
import GoSem.Claim
import GoSem.ClaimJoined
import GoSem.ClaimMapViews
import Derived.JoinedTies
import Derived.KernelRfl
namespace Go.Proofs.Ytejophbmdgohdaa
/- THE CELL 'sum', in the pinned program and in every row, IS THE sha256 OF THE DUMP (.gsa) THAT YtejophbmdgohdaaProg.lean LOADS. Nothing in Lean hashes anything: it is a label: what it is worth is what the hold of that sum in a sandbox is worth. -/
noncomputable def Try.pinned : Pinned := { name := "ytejophbmdgohdaa", sum := "37933849a2c7e09132ad5a9ded52874b45d2aeb50d8892e249084f02151a094a", checked := Try.checked }
namespace Rows
def none {H : Type} : Left H := { results := [], args := [] }

/-- 'tollwaylaw24.DiscountChecks': WHATEVER THE INPUT: true; the input reads as it did. -/
def discountChecksSpec : ChangeSpec := { name := "discountChecks", fn := fun _ => fun
  | [d1, d2] => { results := [.lit (.bool true)], args := [d1, d2] }
  | _ => none }
def discountChecksRow : OpenClaim := { program := "ytejophbmdgohdaa", sum := "37933849a2c7e09132ad5a9ded52874b45d2aeb50d8892e249084f02151a094a", func := "tollway/tollwaylaw24.DiscountChecks", spec := "discountChecks", unfollowed := true, recurses := true, named := ["math/bits.divideError", "math/bits.overflowError"], apart := false }
def DiscountChecksSaid : Prop := discountChecksRow.holds Try.pinned (OpenSpec.ofChange discountChecksSpec)

/-- ITS FALSE NEIGHBOUR: 'it returns false'. Refute it at one input. -/
def discountChecksWrong : ChangeSpec := { name := "discountChecks", fn := fun _ => fun
  | [d1, d2] => { results := [.lit (.bool false)], args := [d1, d2] }
  | _ => none }
def DiscountChecksWrongFalsely : Prop := discountChecksRow.holds Try.pinned (OpenSpec.ofChange discountChecksWrong)

/-- 'tollwaylaw24.DiscountLists': WHATEVER THE INPUT: true; the input reads as it did. -/
def discountListsSpec : ChangeSpec := { name := "discountLists", fn := fun _ => fun
  | [d] => { results := [.lit (.bool true)], args := [d] }
  | _ => none }
def discountListsRow : OpenClaim := { program := "ytejophbmdgohdaa", sum := "37933849a2c7e09132ad5a9ded52874b45d2aeb50d8892e249084f02151a094a", func := "tollway/tollwaylaw24.DiscountLists", spec := "discountLists", unfollowed := true, recurses := true, named := ["math/bits.divideError", "math/bits.overflowError"], apart := false }
def DiscountListsSaid : Prop := discountListsRow.holds Try.pinned (OpenSpec.ofChange discountListsSpec)

/-- ITS FALSE NEIGHBOUR: 'it returns false'. Refute it at one input. -/
def discountListsWrong : ChangeSpec := { name := "discountLists", fn := fun _ => fun
  | [d] => { results := [.lit (.bool false)], args := [d] }
  | _ => none }
def DiscountListsWrongFalsely : Prop := discountListsRow.holds Try.pinned (OpenSpec.ofChange discountListsWrong)

/-- 'tollwaylaw24.DiscountApplies': WHATEVER THE INPUT: true; the input reads as it did. -/
def discountAppliesSpec : ChangeSpec := { name := "discountApplies", fn := fun _ => fun
  | [d1, d2, d3] => { results := [.lit (.bool true)], args := [d1, d2, d3] }
  | _ => none }
def discountAppliesRow : OpenClaim := { program := "ytejophbmdgohdaa", sum := "37933849a2c7e09132ad5a9ded52874b45d2aeb50d8892e249084f02151a094a", func := "tollway/tollwaylaw24.DiscountApplies", spec := "discountApplies", unfollowed := true, recurses := true, named := ["math/bits.divideError", "math/bits.overflowError"], apart := false }
def DiscountAppliesSaid : Prop := discountAppliesRow.holds Try.pinned (OpenSpec.ofChange discountAppliesSpec)

/-- ITS FALSE NEIGHBOUR: 'it returns false'. Refute it at one input. -/
def discountAppliesWrong : ChangeSpec := { name := "discountApplies", fn := fun _ => fun
  | [d1, d2, d3] => { results := [.lit (.bool false)], args := [d1, d2, d3] }
  | _ => none }
def DiscountAppliesWrongFalsely : Prop := discountAppliesRow.holds Try.pinned (OpenSpec.ofChange discountAppliesWrong)

/- THE SECOND FORM. 'bulk': how many values and letters a reading holds, each counted each time it is reached (what is shared counts as often as it is met; a slice's spare places count too). A statement '..UptoSaid' is the law's where the arguments, and the package variables that the reading takes, are together of bulk at most 1048576: NARROWER than '..Said'. Prove '..Said' where nothing that the law and all that it calls make is longer than what came in: it says more and counts as full. Else prove '..UptoSaid'. A law counts once. -/
mutual
def uptoBulk {H : Type} : DataW H → Nat
  | .lit (.string bytes) => bytes.length + 1
  | .lit _ => 1
  | .nil => 1
  | .ptr d => uptoBulk d + 1
  | .slice elems spare => uptoBulkAll elems + uptoBulkAll spare + 1
  | .agg parts => uptoBulkAll parts + 1
  | .iface _ d => uptoBulk d + 1
  | .map entries => uptoBulkEntries entries + 1
  | .held _ => 1
def uptoBulkAll {H : Type} : List (DataW H) → Nat
  | [] => 0
  | d :: r => uptoBulk d + uptoBulkAll r
def uptoBulkEntries {H : Type} : List (Lit × DataW H) → Nat
  | [] => 0
  | x :: r => uptoBulkEntry x + uptoBulkEntries r
def uptoBulkEntry {H : Type} : Lit × DataW H → Nat
  | (.string bytes, d) => bytes.length + uptoBulk d + 1
  | (_, d) => uptoBulk d + 1
 end
def uptoSmall : (H : Type) → List (DataW H) → Bool := fun _ ds => decide (uptoBulkAll ds ≤ 1048576)
def OpenSpec.upto (s : _root_.Go.ChangeSpec) : _root_.Go.OpenSpec := { _root_.Go.OpenSpec.ofChange s with cond := some uptoSmall }

/-- 'tollwaylaw24.DiscountChecks', WHERE WHAT IT READS IS OF BULK AT MOST 1048576: true; the input reads as it did. -/
def discountChecksUptoRow : OpenClaim := { program := "ytejophbmdgohdaa", sum := "37933849a2c7e09132ad5a9ded52874b45d2aeb50d8892e249084f02151a094a", func := "tollway/tollwaylaw24.DiscountChecks", spec := "discountChecks", unfollowed := true, recurses := true, named := ["math/bits.divideError", "math/bits.overflowError"], apart := false, narrowed := true }
def DiscountChecksUptoSaid : Prop := discountChecksUptoRow.holds Try.pinned (OpenSpec.upto discountChecksSpec)

/-- 'tollwaylaw24.DiscountLists', WHERE WHAT IT READS IS OF BULK AT MOST 1048576: true; the input reads as it did. -/
def discountListsUptoRow : OpenClaim := { program := "ytejophbmdgohdaa", sum := "37933849a2c7e09132ad5a9ded52874b45d2aeb50d8892e249084f02151a094a", func := "tollway/tollwaylaw24.DiscountLists", spec := "discountLists", unfollowed := true, recurses := true, named := ["math/bits.divideError", "math/bits.overflowError"], apart := false, narrowed := true }
def DiscountListsUptoSaid : Prop := discountListsUptoRow.holds Try.pinned (OpenSpec.upto discountListsSpec)

/-- 'tollwaylaw24.DiscountApplies', WHERE WHAT IT READS IS OF BULK AT MOST 1048576: true; the input reads as it did. -/
def discountAppliesUptoRow : OpenClaim := { program := "ytejophbmdgohdaa", sum := "37933849a2c7e09132ad5a9ded52874b45d2aeb50d8892e249084f02151a094a", func := "tollway/tollwaylaw24.DiscountApplies", spec := "discountApplies", unfollowed := true, recurses := true, named := ["math/bits.divideError", "math/bits.overflowError"], apart := false, narrowed := true }
def DiscountAppliesUptoSaid : Prop := discountAppliesUptoRow.holds Try.pinned (OpenSpec.upto discountAppliesSpec)

end Rows
end Go.Proofs.Ytejophbmdgohdaa
