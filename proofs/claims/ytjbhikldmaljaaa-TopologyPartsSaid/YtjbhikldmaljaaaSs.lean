/- slices.Sort of texts at this program. No condition. -/
import Derived.Test.YtjbhikldmaljaaaLais
import Derived.Test.YtjbhikldmaljaaaAvK
import Derived.Test.YtjbhikldmaljaaaAvT
set_option linter.unusedSimpArgs false
set_option linter.unusedVariables false
namespace Go.Proofs.Ytjbhikldmaljaaa.Av
open Go Go.RowKit Go.Maps Go.Sort Go.Shelf
theorem sortStr : SortOkP Try.prog 26 (fun s : ByteArray => Value.string s) srtS :=
  sortOkP_of (enc := encStr) (to := fun s : ByteArray => s.data.toList) (sb := fun ss => ss.mergeSort fun x y => decide (x ≤ y)) (fun x => rfl) (fun l => by
    unfold srtS
    rw [List.map_map]
    have : ((fun s : ByteArray => s.data.toList) ∘ fun x : List UInt8 => (⟨x.toArray⟩ : ByteArray)) = id := by funext s; rfl
    rw [this, List.map_id]) (fun l => (srtS_perm l).length_eq) (fun cur ts h => take_putCells cur ts h)
    (fun blk off cap ss w hH hblk hsz => AnyM.slices_Sort_string Try.sortS blk off cap ss w hH hblk hsz) (fun p cap w => AnyM.slices_Sort_string_none Try.sortS p cap w)
end Go.Proofs.Ytjbhikldmaljaaa.Av
