/- Whether a string is a number's form. Condition: at most 100000 bytes. -/
import Derived.Test.YtgfbgkoifcacdaaDoorORw
import Derived.Test.YtgfbgkoifcacdaaDoorLaid
set_option linter.unusedSimpArgs false
set_option linter.unusedVariables false
namespace Go.Proofs.YtgfbgkoifcacdaaDoor.Om
open Go
theorem ba_eq {a b : ByteArray} (h : a.data.toList = b.data.toList) : a = b := by
  apply ByteArray.ext
  exact Array.toList_inj.1 h
theorem bt_list (s : ByteArray) (i : Nat) (h : i < s.data.toList.length) : bt s i = ((s.data.toList[i]'h).toNat : Int) := by
  have h2 : i < s.size := by simpa using h
  rw [← bt_at h2]
  rfl
theorem emp {t : ByteArray} (h : t.size = 0) : t.toList.isEmpty = true := by
  have he : t = { data := #[] } := by
    apply ByteArray.ext
    exact Array.eq_empty_of_size_eq_zero h
  rw [he, ByteArray.toList_eq]; rfl
theorem not_emp {t : ByteArray} (h : t.size ≠ 0) : t.toList.isEmpty = false := by
  cases h1 : t.toList with
  | nil =>
    have h2 := congrArg List.length h1
    rw [ByteArray.toList_eq, Array.length_toList] at h2
    exact absurd h2 h
  | cons => rfl
end Go.Proofs.YtgfbgkoifcacdaaDoor.Om
