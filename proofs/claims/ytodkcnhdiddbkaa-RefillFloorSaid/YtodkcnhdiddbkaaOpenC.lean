/- What a slice of small numbers reads as. Condition: it reads as data. -/
import Derived.Test.YtodkcnhdiddbkaaOpenB
import Derived.Test.YtodkcnhdiddbkaaFlo
set_option linter.unusedSimpArgs false
set_option linter.unusedVariables false
namespace Go.Proofs.Ytodkcnhdiddbkaa.Wk
open Go.RowKit Go.ChangeShapes Go.WideShapes Go.Deep Go.Joins
open Go.Proofs.Ytodkcnhdiddbkaa.Mt
variable {H : Type} {enc : TypeId × Value → H} {w : World} {base : Nat} {spare : Nat → Bool} {held : Bool}
theorem u16_in_ {a : Int} (h : (Lit.int .u16 a).wf = true) : 0 ≤ a ∧ a ≤ 65535 := by
  simpa [Lit.wf, IntKind.min, IntKind.max, IntKind.signed, IntKind.bits] using h
theorem cells53_ : Try.prog.cellsOf 53 = 1 := by kernel_rfl
theorem open_smalls {r : Reach} {b0 : Nat} {v : Value} {d : DataW H} {p : List MemPlace} (hv : Value.okWide Try.prog w r b0 52 v) (h : DataW.Trod enc Try.prog w base spare held 52 v d p) :
    ∃ A n c xs, v = .slice A n c ∧ Rs w w.heap.size A n xs := by
  obtain ⟨A, n, c, rfl⟩ := okWide_slice Try.underlying52 hv
  obtain ⟨fuel, hf⟩ := h
  have hf : DataW.trod enc Try.prog w base spare held fuel 52 [.slice A n c] = some (d, p) := hf
  rcases open_ints Try.underlying52 Try.underlying53 cells53_ hf with ⟨h0, _⟩ | ⟨a, len, cap, zs, hcs, _, hl, hm, hz, _, hcell, hwf⟩
  · simp at h0
    obtain ⟨rfl, rfl, rfl⟩ := h0
    exact ⟨none, 0, 0, [], rfl, rfl, by omega, fun h => by omega, fun i => by simp⟩
  · simp at hcs
    obtain ⟨rfl, rfl, rfl⟩ := hcs
    unfold maxLen at hm
    have hzn : n ≤ zs.length := by
      have : zs.length = (if spare a.block then c else n) := by simpa using hz
      rw [this]; split <;> omega
    refine ⟨some a, n, c, zs.take n, rfl, by simp; omega, by omega, fun hn => ?_, fun i => ?_⟩
    · obtain ⟨b, off, spot⟩ := a
      have hc0 := hcell 0 (by omega)
      have hspot : spot = none := by simpa [Addr.add] using World.cell?_spot hc0
      subst hspot
      have hlt := World.block_lt_of_cell? _ _ hc0
      refine ⟨b, off, rfl, by simpa [Addr.add] using hlt, fun i hin => ?_⟩
      have h1 := hcell i (by omega)
      rw [add_at] at h1
      rw [h1]
      simp [List.getElem?_take, hin]
    · by_cases hi : i < n
      · have hiz : i < zs.length := by omega
        have e : (zs.take n).getD i 0 = zs[i] := by simp [List.getElem?_take, hi, hiz]
        rw [e]
        exact u16_in_ (hwf _ (List.getElem_mem _))
      · have e : (zs.take n).getD i 0 = 0 := by simp [List.getElem?_take, hi]
        rw [e]; omega
end Go.Proofs.Ytodkcnhdiddbkaa.Wk
