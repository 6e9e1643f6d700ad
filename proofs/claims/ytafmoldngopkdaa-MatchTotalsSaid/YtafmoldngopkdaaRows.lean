/-
  No cell of these rows narrows 'for every input' (looked for: loops, veiled, ifaces, maps, wideKeys, modest, calm, conditions, laid).
  DERIVED. THE GIVEN ROWS OF THIS SEAT. 7 by the template 'for every input the law returns true; each argument reads behind the call as it read before'; 0 by the template 'total and deterministic' (their statements: YtafmoldngopkdaaTotals.lean).
  GIVEN WITH THE SEED: the statements are not yours to turn. If you find one false, say at which input.
  Laid BY PROGRAM, IN A SANDBOX (cutbox-rows.mjs): the forced cells as the released guide's own fill.sh prints them over the translation 929c3049592786a1… (all of the seat's roots in one cut). By AI agents, Wed Nov 11 2026. No macro, syntax, notation, axiom, sorry.
-/
import Derived.Test.YtafmoldngopkdaaChecked
import GoSem.Claim
import GoSem.ClaimJoined
import GoSem.ClaimMapViews
import Derived.JoinedTies
import Derived.KernelRfl
namespace Go.Proofs.Ytafmoldngopkdaa
/- THE CELL 'sum', in the pinned program and in every row, IS THE sha256 OF THE DUMP (.gsa) THAT YtafmoldngopkdaaProg.lean LOADS. Nothing in Lean hashes anything: it is a label: what it is worth is what the hold of that sum in a sandbox is worth. -/
noncomputable def Try.pinned : Pinned := { name := "ytafmoldngopkdaa", sum := "929c3049592786a110de66bd3e336099d068d421f7b767adbb1af4b625d70d17", checked := Try.checked }
namespace Rows
def none {H : Type} : Left H := { results := [], args := [] }

/-- 'tollwaylaw06.MatchTotals': WHATEVER THE INPUT: true; the input reads as it did. -/
def matchTotalsSpec : ChangeSpec := { name := "matchTotals", fn := fun _ => fun
  | [d1, d2] => { results := [.lit (.bool true)], args := [d1, d2] }
  | _ => none }
def matchTotalsRow : OpenClaim := { program := "ytafmoldngopkdaa", sum := "929c3049592786a110de66bd3e336099d068d421f7b767adbb1af4b625d70d17", func := "tollway/tollwaylaw06.MatchTotals", spec := "matchTotals", apart := false }
def MatchTotalsSaid : Prop := matchTotalsRow.holds Try.pinned (OpenSpec.ofChange matchTotalsSpec)

/-- ITS FALSE NEIGHBOUR: 'it returns false'. Refute it at one input. -/
def matchTotalsWrong : ChangeSpec := { name := "matchTotals", fn := fun _ => fun
  | [d1, d2] => { results := [.lit (.bool false)], args := [d1, d2] }
  | _ => none }
def MatchTotalsWrongFalsely : Prop := matchTotalsRow.holds Try.pinned (OpenSpec.ofChange matchTotalsWrong)

/-- 'tollwaylaw06.MatchBests': WHATEVER THE INPUT: true; the input reads as it did. -/
def matchBestsSpec : ChangeSpec := { name := "matchBests", fn := fun _ => fun
  | [d] => { results := [.lit (.bool true)], args := [d] }
  | _ => none }
def matchBestsRow : OpenClaim := { program := "ytafmoldngopkdaa", sum := "929c3049592786a110de66bd3e336099d068d421f7b767adbb1af4b625d70d17", func := "tollway/tollwaylaw06.MatchBests", spec := "matchBests", apart := false }
def MatchBestsSaid : Prop := matchBestsRow.holds Try.pinned (OpenSpec.ofChange matchBestsSpec)

/-- ITS FALSE NEIGHBOUR: 'it returns false'. Refute it at one input. -/
def matchBestsWrong : ChangeSpec := { name := "matchBests", fn := fun _ => fun
  | [d] => { results := [.lit (.bool false)], args := [d] }
  | _ => none }
def MatchBestsWrongFalsely : Prop := matchBestsRow.holds Try.pinned (OpenSpec.ofChange matchBestsWrong)

/-- 'tollwaylaw06.MatchSeconds': WHATEVER THE INPUT: true; the input reads as it did. -/
def matchSecondsSpec : ChangeSpec := { name := "matchSeconds", fn := fun _ => fun
  | [d] => { results := [.lit (.bool true)], args := [d] }
  | _ => none }
def matchSecondsRow : OpenClaim := { program := "ytafmoldngopkdaa", sum := "929c3049592786a110de66bd3e336099d068d421f7b767adbb1af4b625d70d17", func := "tollway/tollwaylaw06.MatchSeconds", spec := "matchSeconds", apart := false }
def MatchSecondsSaid : Prop := matchSecondsRow.holds Try.pinned (OpenSpec.ofChange matchSecondsSpec)

/-- ITS FALSE NEIGHBOUR: 'it returns false'. Refute it at one input. -/
def matchSecondsWrong : ChangeSpec := { name := "matchSeconds", fn := fun _ => fun
  | [d] => { results := [.lit (.bool false)], args := [d] }
  | _ => none }
def MatchSecondsWrongFalsely : Prop := matchSecondsRow.holds Try.pinned (OpenSpec.ofChange matchSecondsWrong)

/-- 'tollwaylaw06.MatchWiths': WHATEVER THE INPUT: true; the input reads as it did. -/
def matchWithsSpec : ChangeSpec := { name := "matchWiths", fn := fun _ => fun
  | [d1, d2, d3] => { results := [.lit (.bool true)], args := [d1, d2, d3] }
  | _ => none }
def matchWithsRow : OpenClaim := { program := "ytafmoldngopkdaa", sum := "929c3049592786a110de66bd3e336099d068d421f7b767adbb1af4b625d70d17", func := "tollway/tollwaylaw06.MatchWiths", spec := "matchWiths", apart := false }
def MatchWithsSaid : Prop := matchWithsRow.holds Try.pinned (OpenSpec.ofChange matchWithsSpec)

/-- ITS FALSE NEIGHBOUR: 'it returns false'. Refute it at one input. -/
def matchWithsWrong : ChangeSpec := { name := "matchWiths", fn := fun _ => fun
  | [d1, d2, d3] => { results := [.lit (.bool false)], args := [d1, d2, d3] }
  | _ => none }
def MatchWithsWrongFalsely : Prop := matchWithsRow.holds Try.pinned (OpenSpec.ofChange matchWithsWrong)

/-- 'tollwaylaw06.MatchOptimal': WHATEVER THE INPUT: true; the input reads as it did. -/
def matchOptimalSpec : ChangeSpec := { name := "matchOptimal", fn := fun _ => fun
  | [d1, d2] => { results := [.lit (.bool true)], args := [d1, d2] }
  | _ => none }
def matchOptimalRow : OpenClaim := { program := "ytafmoldngopkdaa", sum := "929c3049592786a110de66bd3e336099d068d421f7b767adbb1af4b625d70d17", func := "tollway/tollwaylaw06.MatchOptimal", spec := "matchOptimal", apart := false }
def MatchOptimalSaid : Prop := matchOptimalRow.holds Try.pinned (OpenSpec.ofChange matchOptimalSpec)

/-- ITS FALSE NEIGHBOUR: 'it returns false'. Refute it at one input. -/
def matchOptimalWrong : ChangeSpec := { name := "matchOptimal", fn := fun _ => fun
  | [d1, d2] => { results := [.lit (.bool false)], args := [d1, d2] }
  | _ => none }
def MatchOptimalWrongFalsely : Prop := matchOptimalRow.holds Try.pinned (OpenSpec.ofChange matchOptimalWrong)

/-- 'tollwaylaw06.MatchChoices': WHATEVER THE INPUT: true; the input reads as it did. -/
def matchChoicesSpec : ChangeSpec := { name := "matchChoices", fn := fun _ => fun
  | [d] => { results := [.lit (.bool true)], args := [d] }
  | _ => none }
def matchChoicesRow : OpenClaim := { program := "ytafmoldngopkdaa", sum := "929c3049592786a110de66bd3e336099d068d421f7b767adbb1af4b625d70d17", func := "tollway/tollwaylaw06.MatchChoices", spec := "matchChoices", apart := false }
def MatchChoicesSaid : Prop := matchChoicesRow.holds Try.pinned (OpenSpec.ofChange matchChoicesSpec)

/-- ITS FALSE NEIGHBOUR: 'it returns false'. Refute it at one input. -/
def matchChoicesWrong : ChangeSpec := { name := "matchChoices", fn := fun _ => fun
  | [d] => { results := [.lit (.bool false)], args := [d] }
  | _ => none }
def MatchChoicesWrongFalsely : Prop := matchChoicesRow.holds Try.pinned (OpenSpec.ofChange matchChoicesWrong)

/-- 'tollwaylaw06.MatchTurned': WHATEVER THE INPUT: true; the input reads as it did. -/
def matchTurnedSpec : ChangeSpec := { name := "matchTurned", fn := fun _ => fun
  | [d] => { results := [.lit (.bool true)], args := [d] }
  | _ => none }
def matchTurnedRow : OpenClaim := { program := "ytafmoldngopkdaa", sum := "929c3049592786a110de66bd3e336099d068d421f7b767adbb1af4b625d70d17", func := "tollway/tollwaylaw06.MatchTurned", spec := "matchTurned", apart := false }
def MatchTurnedSaid : Prop := matchTurnedRow.holds Try.pinned (OpenSpec.ofChange matchTurnedSpec)

/-- ITS FALSE NEIGHBOUR: 'it returns false'. Refute it at one input. -/
def matchTurnedWrong : ChangeSpec := { name := "matchTurned", fn := fun _ => fun
  | [d] => { results := [.lit (.bool false)], args := [d] }
  | _ => none }
def MatchTurnedWrongFalsely : Prop := matchTurnedRow.holds Try.pinned (OpenSpec.ofChange matchTurnedWrong)

/- THE SECOND FORM. 'bulk': how many values and letters a reading holds, each counted each time it is reached (what is shared counts as often as it is met; a slice's spare places count too). A statement '..UptoSaid' is the law's where the arguments, and the package variables that the reading takes, are together of bulk at most 1048576: NARROWER than '..Said'. Prove '..Said' where nothing that the law and all that it calls make is longer than what came in: it says more and counts as full. Else prove '..UptoSaid'. A law counts once. -/
mutual
def uptoBulk {H : Type} : DataW H → Nat
  | .lit (.string bytes) => bytes.length + 1
  | .lit _ => 1
  | .nil => 1
  | .ptr d => uptoBulk d + 1
  | .slice elems spare => uptoBulkAll elems + uptoBulkAll spare + 1
  | .agg parts => uptoBulkAll parts + 1
  | .iface _ d => uptoBulk d + 1
  | .map entries => uptoBulkEntries entries + 1
  | .held _ => 1
def uptoBulkAll {H : Type} : List (DataW H) → Nat
  | [] => 0
  | d :: r => uptoBulk d + uptoBulkAll r
def uptoBulkEntries {H : Type} : List (Lit × DataW H) → Nat
  | [] => 0
  | x :: r => uptoBulkEntry x + uptoBulkEntries r
def uptoBulkEntry {H : Type} : Lit × DataW H → Nat
  | (.string bytes, d) => bytes.length + uptoBulk d + 1
  | (_, d) => uptoBulk d + 1
 end
def uptoSmall : (H : Type) → List (DataW H) → Bool := fun _ ds => decide (uptoBulkAll ds ≤ 1048576)
def OpenSpec.upto (s : _root_.Go.ChangeSpec) : _root_.Go.OpenSpec := { _root_.Go.OpenSpec.ofChange s with cond := some uptoSmall }

/-- 'tollwaylaw06.MatchTotals', WHERE WHAT IT READS IS OF BULK AT MOST 1048576: true; the input reads as it did. -/
def matchTotalsUptoRow : OpenClaim := { program := "ytafmoldngopkdaa", sum := "929c3049592786a110de66bd3e336099d068d421f7b767adbb1af4b625d70d17", func := "tollway/tollwaylaw06.MatchTotals", spec := "matchTotals", apart := false, narrowed := true }
def MatchTotalsUptoSaid : Prop := matchTotalsUptoRow.holds Try.pinned (OpenSpec.upto matchTotalsSpec)

/-- 'tollwaylaw06.MatchBests', WHERE WHAT IT READS IS OF BULK AT MOST 1048576: true; the input reads as it did. -/
def matchBestsUptoRow : OpenClaim := { program := "ytafmoldngopkdaa", sum := "929c3049592786a110de66bd3e336099d068d421f7b767adbb1af4b625d70d17", func := "tollway/tollwaylaw06.MatchBests", spec := "matchBests", apart := false, narrowed := true }
def MatchBestsUptoSaid : Prop := matchBestsUptoRow.holds Try.pinned (OpenSpec.upto matchBestsSpec)

/-- 'tollwaylaw06.MatchSeconds', WHERE WHAT IT READS IS OF BULK AT MOST 1048576: true; the input reads as it did. -/
def matchSecondsUptoRow : OpenClaim := { program := "ytafmoldngopkdaa", sum := "929c3049592786a110de66bd3e336099d068d421f7b767adbb1af4b625d70d17", func := "tollway/tollwaylaw06.MatchSeconds", spec := "matchSeconds", apart := false, narrowed := true }
def MatchSecondsUptoSaid : Prop := matchSecondsUptoRow.holds Try.pinned (OpenSpec.upto matchSecondsSpec)

/-- 'tollwaylaw06.MatchWiths', WHERE WHAT IT READS IS OF BULK AT MOST 1048576: true; the input reads as it did. -/
def matchWithsUptoRow : OpenClaim := { program := "ytafmoldngopkdaa", sum := "929c3049592786a110de66bd3e336099d068d421f7b767adbb1af4b625d70d17", func := "tollway/tollwaylaw06.MatchWiths", spec := "matchWiths", apart := false, narrowed := true }
def MatchWithsUptoSaid : Prop := matchWithsUptoRow.holds Try.pinned (OpenSpec.upto matchWithsSpec)

/-- 'tollwaylaw06.MatchOptimal', WHERE WHAT IT READS IS OF BULK AT MOST 1048576: true; the input reads as it did. -/
def matchOptimalUptoRow : OpenClaim := { program := "ytafmoldngopkdaa", sum := "929c3049592786a110de66bd3e336099d068d421f7b767adbb1af4b625d70d17", func := "tollway/tollwaylaw06.MatchOptimal", spec := "matchOptimal", apart := false, narrowed := true }
def MatchOptimalUptoSaid : Prop := matchOptimalUptoRow.holds Try.pinned (OpenSpec.upto matchOptimalSpec)

/-- 'tollwaylaw06.MatchChoices', WHERE WHAT IT READS IS OF BULK AT MOST 1048576: true; the input reads as it did. -/
def matchChoicesUptoRow : OpenClaim := { program := "ytafmoldngopkdaa", sum := "929c3049592786a110de66bd3e336099d068d421f7b767adbb1af4b625d70d17", func := "tollway/tollwaylaw06.MatchChoices", spec := "matchChoices", apart := false, narrowed := true }
def MatchChoicesUptoSaid : Prop := matchChoicesUptoRow.holds Try.pinned (OpenSpec.upto matchChoicesSpec)

/-- 'tollwaylaw06.MatchTurned', WHERE WHAT IT READS IS OF BULK AT MOST 1048576: true; the input reads as it did. -/
def matchTurnedUptoRow : OpenClaim := { program := "ytafmoldngopkdaa", sum := "929c3049592786a110de66bd3e336099d068d421f7b767adbb1af4b625d70d17", func := "tollway/tollwaylaw06.MatchTurned", spec := "matchTurned", apart := false, narrowed := true }
def MatchTurnedUptoSaid : Prop := matchTurnedUptoRow.holds Try.pinned (OpenSpec.upto matchTurnedSpec)

end Rows
end Go.Proofs.Ytafmoldngopkdaa
