/- A row of any data of the call's own is sorted in place by a function whose contract is known. Conditions: as each theorem names them. -/
import Derived.Test.YtjbhikldmaljaaaAvE
import Derived.Test.YtjbhikldmaljaaaAvM
import Derived.Shelf.SlSortCmp.InsertionK
import Derived.Lib.QuietBelow
set_option linter.unusedSimpArgs false
set_option linter.unusedVariables false
namespace Go.Proofs.Ytjbhikldmaljaaa.Av
open Go Go.RowKit Go.Sort
theorem tD_flat {α : Type} {f : α → List DV} : ∀ l : List α, (tD f l).flatten = ((l.map f).flatten).map OC.dv
  | [] => rfl
  | a :: l => by
    have ih := tD_flat (f := f) l
    show (f a).map OC.dv ++ (tD f l).flatten = _
    rw [ih]
    simp
structure SortG (P : Program) (f : FuncId) (z : Nat) : Prop where
  go : ∀ (β : Type) [Inhabited β] (enc : β → List Value), (∀ x, (enc x).length = z) → (∀ x, ∀ v ∈ enc x, v.oneCell' = true) → ∀ (cf : β → β → Int), SWO (ltOf cf) → ∀ (g : Nat) (cb : Array Value) (blk off cap : Nat) (d : Array β) (w : World), (∀ args w, (callFunc g args).run P w = .ok (.enter g args) w) → CmpLays P g cb enc z cf blk off d.size w → HoldsK enc z w blk off d → blk < w.heap.size → d.size < 4611686018427387904 →
    Calls P f #[.slice (some ⟨blk, off, none⟩) d.size cap, .func (.func g) #[] cb] w fun e w' => e = .returned (.tuple #[]) ∧ ∃ d' n os, PermIn 0 d.size d d' ∧ SortedIn (ltOf cf) 0 d.size d' ∧ w' = sortWorldK enc z w blk off n d' os
  none : ∀ (p : Option Addr) (cap : Nat) (fv : Value) (w : World), Calls P f #[.slice p 0 cap, fv] w fun e w' => e = .returned (.tuple #[]) ∧ w' = w
def SortOkD (P : Program) (f g : FuncId) (caps : List DV) {α : Type} (z : Nat) (fα : α → List DV) (p : α → Prop) (lt : α → α → Bool) : Prop :=
  (∀ (cv : Array Value) (U : Nat → Nat) (b c : Nat) (l : List α) (w : World) (cur : Array Value) (e : TypeId) (xs : List Value), (∀ x ∈ l, p x) → U b = 0 → Rds w U cv.toList caps → Rc w U xs ((l.map fα).flatten) → w.heap[b]? = some (.cells cur e (0, 0)) → l.length ≤ c → c ≤ maxLen → l.length < 4611686018427387904 → cur.size = c * z → cur.toList.take (l.length * z) = xs →
    Calls P f #[.slice (some ⟨b, 0, none⟩) l.length c, .func (.func g) #[] cv] w fun ex w' => ex = .returned (.tuple #[]) ∧ ∃ (l' : List α) (cur' : Array Value) (xs' : List Value), l'.Perm l ∧ l'.Pairwise (fun x y => lt y x = false) ∧
      w'.heap[b]? = some (.cells cur' e (0, 0)) ∧ cur'.size = cur.size ∧ cur'.toList.take (l.length * z) = xs' ∧ Rc w' U xs' ((l'.map fα).flatten) ∧ (∀ k, k < w.heap.size → k ≠ b → w'.heap[k]? = w.heap[k]?) ∧ w.heap.size ≤ w'.heap.size ∧ w'.os = w.os ∧ w'.tape = w.tape ∧ w'.output = w.output) ∧
  ∀ (p : Option Addr) (cap : Nat) (fv : Value) (w : World), Calls P f #[.slice p 0 cap, fv] w fun e w' => e = .returned (.tuple #[]) ∧ w' = w
section
variable {P : Program} {N : Nat} {w0 : World} {U0 : Nat → Nat}
end
end Go.Proofs.Ytjbhikldmaljaaa.Av
