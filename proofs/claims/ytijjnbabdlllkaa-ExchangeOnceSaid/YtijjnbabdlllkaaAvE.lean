/- Rules for states of data. Conditions: as each theorem names them. -/
import Derived.Test.YtijjnbabdlllkaaAvD
import Derived.Shelf.GgSortFunc.InsertionK
import Derived.Sort.Statements
set_option linter.unusedSimpArgs false
set_option linter.unusedVariables false
namespace Go.Proofs.Ytijjnbabdlllkaa.Av
open Go Go.RowKit
def SortOk (P : Program) (f g : FuncId) {α : Type} (z : Nat) (enc : α → List Value) (lt : α → α → Bool) : Prop :=
  (∀ (b c : Nat) (l : List α) (w : World) (cur : Array Value) (e : TypeId), w.heap[b]? = some (.cells cur e (0, 0)) → l.length ≤ c → c ≤ maxLen → l.length < 4611686018427387904 → cur.size = c * z → cur.toList.take (l.length * z) = (l.map enc).flatten →
    Calls P f #[.slice (some ⟨b, 0, none⟩) l.length c, .func (.func g) #[] #[]] w fun ex w' => ex = .returned (.tuple #[]) ∧ ∃ (l' : List α) (cur' : Array Value), l'.Perm l ∧ l'.Pairwise (fun x y => lt y x = false) ∧
      w'.heap[b]? = some (.cells cur' e (0, 0)) ∧ cur'.size = cur.size ∧ cur'.toList.take (l.length * z) = (l'.map enc).flatten ∧ (∀ k, k < w.heap.size → k ≠ b → w'.heap[k]? = w.heap[k]?) ∧ w.heap.size ≤ w'.heap.size ∧ w'.os = w.os ∧ w'.tape = w.tape ∧ w'.output = w.output) ∧
  ∀ w : World, Calls P f #[.slice none 0 0, .func (.func g) #[] #[]] w fun ex w' => ex = .returned (.tuple #[]) ∧ w' = w
section
variable {P : Program} {N : Nat} {w0 : World} {U0 : Nat → Nat}
end
end Go.Proofs.Ytijjnbabdlllkaa.Av

namespace Go.Proofs.Ytijjnbabdlllkaa.Av
open Go Go.RowKit Go.Sort
end Go.Proofs.Ytijjnbabdlllkaa.Av

namespace Go.Proofs.Ytijjnbabdlllkaa.Av
open Go Go.RowKit
def SortOkC (P : Program) (f g : FuncId) (caps : List DV) {α : Type} (z : Nat) (enc : α → List Value) (lt : α → α → Bool) : Prop :=
  ∀ (cv : Array Value) (U : Nat → Nat),
  (∀ (b c : Nat) (l : List α) (w : World) (cur : Array Value) (e : TypeId), U b = 0 → Rds w U cv.toList caps → w.heap[b]? = some (.cells cur e (0, 0)) → l.length ≤ c → c ≤ maxLen → l.length < 4611686018427387904 → cur.size = c * z → cur.toList.take (l.length * z) = (l.map enc).flatten →
    Calls P f #[.slice (some ⟨b, 0, none⟩) l.length c, .func (.func g) #[] cv] w fun ex w' => ex = .returned (.tuple #[]) ∧ ∃ (l' : List α) (cur' : Array Value), l'.Perm l ∧ l'.Pairwise (fun x y => lt y x = false) ∧
      w'.heap[b]? = some (.cells cur' e (0, 0)) ∧ cur'.size = cur.size ∧ cur'.toList.take (l.length * z) = (l'.map enc).flatten ∧ (∀ k, k < w.heap.size → k ≠ b → w'.heap[k]? = w.heap[k]?) ∧ w.heap.size ≤ w'.heap.size ∧ w'.os = w.os ∧ w'.tape = w.tape ∧ w'.output = w.output) ∧
  ∀ w : World, Calls P f #[.slice none 0 0, .func (.func g) #[] cv] w fun ex w' => ex = .returned (.tuple #[]) ∧ w' = w
section
variable {P : Program} {N : Nat} {w0 : World} {U0 : Nat → Nat}
end
end Go.Proofs.Ytijjnbabdlllkaa.Av

namespace Go.Proofs.Ytijjnbabdlllkaa.Av
open Go Go.RowKit Go.Sort
end Go.Proofs.Ytijjnbabdlllkaa.Av

namespace Go.Proofs.Ytijjnbabdlllkaa.Av
open Go Go.RowKit
section
variable {P : Program} {N : Nat} {w0 : World} {U0 : Nat → Nat}
end
end Go.Proofs.Ytijjnbabdlllkaa.Av
