/- A row of texts or numbers of the call's own is sorted in place by a function whose contract is known, by a closure's comparison. Conditions: as each theorem names them. -/
import Derived.Test.YtipkielpicfobaaAvT
import Derived.Test.YtipkielpicfobaaAvF
import Derived.Shelf.SlSortCmp.Kit1
set_option linter.unusedSimpArgs false
set_option linter.unusedVariables false
namespace Go.Proofs.Ytipkielpicfobaa.Av
open Go Go.RowKit Go.Sort
structure SortG1 (P : Program) (f : FuncId) : Prop where
  go : ∀ (enc : Nat → Value), (∀ i, (enc i).oneCell' = true) → ∀ (cf : Nat → Nat → Int), SWO (ltOf cf) → ∀ (g : Nat) (cb : Array Value) (blk off cap : Nat) (d : Array Nat) (w : World), (∀ args w, (callFunc g args).run P w = .ok (.enter g args) w) → CmpLays1 P g cb enc cf blk off d.size w → Holds enc w blk off d → blk < w.heap.size → d.size < 4611686018427387904 →
    Calls P f #[.slice (some ⟨blk, off, none⟩) d.size cap, .func (.func g) #[] cb] w fun e w' => e = .returned (.tuple #[]) ∧ ∃ d' n os, PermIn 0 d.size d d' ∧ SortedIn (ltOf cf) 0 d.size d' ∧ w' = sortWorld enc w blk off n d' os
  none : ∀ (p : Option Addr) (cap : Nat) (fv : Value) (w : World), Calls P f #[.slice p 0 cap, fv] w fun e w' => e = .returned (.tuple #[]) ∧ w' = w
theorem take_put1 {enc : Nat → Value} {cur : Array Value} {d : Array Nat} (h : d.size ≤ cur.size) : (putCells enc 0 d cur).toList.take d.size = d.toList.map enc := by
  apply List.ext_getElem?
  intro j
  by_cases hj : j < d.size
  · rw [List.getElem?_take_of_lt hj, Array.getElem?_toList]
    simp [putCells, hj, show j < cur.size by omega]
  · rw [List.getElem?_take_eq_none (by omega), List.getElem?_eq_none (by simp; omega)]
theorem sw1_but {enc : Nat → Value} {w : World} {b off n : Nat} {d : Array Nat} {os : Array Obj} : ∀ k, k < w.heap.size → k ≠ b → (sortWorld enc w b off n d os).heap[k]? = w.heap[k]? := by
  intro k hk hne
  unfold sortWorld
  rw [heap_grow_old _ _ (by simpa [putRow, mapBlock, Sort.ahead] using hk)]
  simp [putRow, mapBlock, Sort.ahead, Array.getElem?_modify, Ne.symm hne]
end Go.Proofs.Ytipkielpicfobaa.Av
