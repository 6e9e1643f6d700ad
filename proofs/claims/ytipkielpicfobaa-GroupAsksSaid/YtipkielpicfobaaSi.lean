/- slices.Sort of numbers at this program. No condition. -/
import Derived.Test.YtipkielpicfobaaLais
import Derived.Test.YtipkielpicfobaaAvT
set_option linter.unusedSimpArgs false
set_option linter.unusedVariables false
namespace Go.Proofs.Ytipkielpicfobaa.Av
open Go Go.RowKit Go.Sort Go.Shelf
def srtI (l : List Int) : List Int := l.mergeSort fun x y => decide (x ≤ y)
theorem srtI_perm (l : List Int) : (srtI l).Perm l := List.mergeSort_perm l _
theorem srtI_len (l : List Int) : (srtI l).length = l.length := (srtI_perm l).length_eq
theorem srtI_pw (l : List Int) : (srtI l).Pairwise (fun x y => x ≤ y) := by
  have := List.pairwise_mergeSort (le := fun x y : Int => decide (x ≤ y)) (fun a b c h1 h2 => by simp only [decide_eq_true_eq] at *; omega) (fun a b => by simp only [Bool.or_eq_true, decide_eq_true_eq]; omega) l
  exact this.imp (fun h => by simpa using h)
theorem take_putI (cur : Array Value) (ts : List Int) (h : ts.length ≤ cur.size) : (putCells (Value.int .i64) 0 ts.toArray cur).toList.take ts.length = ts.map (Value.int .i64) := by
  apply List.ext_getElem?
  intro t
  rcases Nat.lt_or_ge t ts.length with ht | ht
  · rw [List.getElem?_take_of_lt ht, Array.getElem?_toList]
    simp [putCells, show t < cur.size by omega, ht]
  · rw [List.getElem?_eq_none (by simp; omega), List.getElem?_eq_none (by simpa using ht)]
theorem sortInt : SortOkP Try.prog 38 (fun n : Int => Value.int .i64 n) srtI :=
  sortOkP_of (enc := Value.int .i64) (to := fun n : Int => n) (sb := fun ss => ss.mergeSort fun x y => decide (x ≤ y)) (fun x => rfl) (fun l => by
    unfold srtI
    rw [List.map_id', List.map_id']) (fun l => srtI_len l) (fun cur ts h => take_putI cur ts h)
    (fun blk off cap ss w hH hblk hsz => AnyM.slices_Sort_int Try.sortI blk off cap ss w hH hblk hsz) (fun p cap w => AnyM.slices_Sort_int_none Try.sortI p cap w)
end Go.Proofs.Ytipkielpicfobaa.Av
