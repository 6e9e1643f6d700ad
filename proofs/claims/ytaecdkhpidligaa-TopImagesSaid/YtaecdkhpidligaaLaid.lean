/- The library's contract for slices.Delete at strings, laid at this program. No condition. -/
import Derived.Shelf.Slices.Cells
import Derived.Test.YtaecdkhpidligaaProg
import Derived.Test.YtaecdkhpidligaaTy
set_option linter.unusedSimpArgs false
set_option linter.unusedVariables false
namespace Go.Proofs
open Go.Shelf
def Try.laysDel_ren : Go.Shelf.Ren := ⟨fun | 24 => 24 | n => n, fun | 24 => 33 | 9 => 9 | 3 => 3 | 4 => 4 | 0 => 0 | n => n, fun | n => n⟩
theorem Try.laysDel : Go.Proofs.Lays2.n24 Try.prog Try.laysDel_ren := {
  mixed := by kernel_rfl
  f24 := Try.func24.trans (congrArg some (by kernel_rfl))
  t0 := Try.underlying0
  a0 := Try.isAgg0
  z0 := Try.sizeOf0
  v0 := Try.zeroValue0
  t3 := Try.underlying3
  a3 := Try.isAgg3
  z3 := Try.sizeOf3
  v3 := Try.zeroValue3
  t4 := Try.underlying4
  a4 := Try.isAgg4
  z4 := Try.sizeOf4
  v4 := Try.zeroValue4
  t9 := Try.underlying9
  a9 := Try.isAgg9
  z9 := Try.sizeOf9
  v9 := Try.zeroValue9
  t24 := Try.underlying33
  a24 := Try.isAgg33
  z24 := Try.sizeOf33
  v24 := Try.zeroValue33
  i9 := by kernel_rfl }
end Go.Proofs
namespace Go.Proofs.Ytaecdkhpidligaa.Wr
open Go Go.RowKit Go.Proofs.Ytaecdkhpidligaa.Av Go.Proofs.Ytaecdkhpidligaa.Wk
theorem strsOf_list (L : List ByteArray) : Lib.strsOf (fun k => L.getD k ⟨#[]⟩) L.length = L.map fun s => s.data.toList := by
  apply List.ext_getElem?
  intro k
  rcases Nat.lt_or_ge k L.length with hk | hk
  · simp [Lib.strsOf, List.getD, hk]
  · rw [List.getElem?_eq_none (by simp [Lib.strsOf]; exact hk), List.getElem?_eq_none (by simp; exact hk)]
theorem del40 : DelOk Try.prog 24 := by
  intro b c i j L w h1 h2 h3 h4 h5 h6
  have := Any.slices_Delete_string_cells Try.laysDel b 0 L.length c i j (fun k => L.getD k ⟨#[]⟩) w h1 h2 h3 h4 (fun k hk => by
    rw [Nat.zero_add]
    refine h5 k _ ?_
    simp [List.getD, hk]) (fun k hk => by rw [Nat.zero_add]; exact h6 k hk)
  refine Calls.mono this ?_
  rintro e w' ⟨rfl, q, rfl⟩
  refine ⟨rfl, q, ?_⟩
  rw [strsOf_list]
  congr 1
  rw [List.map_append, List.map_replicate, ← List.map_take, ← List.map_drop, ← List.map_append, List.map_map]
  congr 1
end Go.Proofs.Ytaecdkhpidligaa.Wr
