/- Rules: a row of texts or numbers of the call's own is sorted in place by slices.Sort. Conditions: as each theorem names them. -/
import Derived.Test.YtipkielpicfobaaAvS
import Derived.Sort.OwnSorted
set_option linter.unusedSimpArgs false
set_option linter.unusedVariables false
namespace Go.Proofs.Ytipkielpicfobaa.Av
open Go Go.RowKit Go.Sort
def SortOkP (P : Program) (f : FuncId) {α : Type} (fα : α → Value) (sr : List α → List α) : Prop :=
  (∀ (b c : Nat) (l : List α) (w : World) (cur : Array Value) (e : TypeId), w.heap[b]? = some (.cells cur e (0, 0)) → l.length ≤ c → c ≤ maxLen → l.length < 4611686018427387904 → cur.size = c → cur.toList.take l.length = l.map fα →
    Calls P f #[.slice (some ⟨b, 0, none⟩) l.length c] w fun ex w' => ex = .returned (.tuple #[]) ∧ ∃ cur' : Array Value, w'.heap[b]? = some (.cells cur' e (0, 0)) ∧ cur'.size = cur.size ∧ cur'.toList.take l.length = (sr l).map fα ∧
      (∀ k, k < w.heap.size → k ≠ b → w'.heap[k]? = w.heap[k]?) ∧ w.heap.size ≤ w'.heap.size ∧ w'.os = w.os ∧ w'.tape = w.tape ∧ w'.output = w.output) ∧
  ∀ (p : Option Addr) (cap : Nat) (w : World), Calls P f #[.slice p 0 cap] w fun e w' => e = .returned (.tuple #[]) ∧ w' = w
section
variable {P : Program} {N : Nat} {w0 : World} {U0 : Nat → Nat}
end
end Go.Proofs.Ytipkielpicfobaa.Av
