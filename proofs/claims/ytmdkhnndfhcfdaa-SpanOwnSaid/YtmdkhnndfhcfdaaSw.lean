/- The sort at a row of the call's own: the same intervals, ascending. Conditions: the row is known; at most 4096 intervals. -/
import Derived.Test.YtmdkhnndfhcfdaaJq
set_option linter.unusedSimpArgs false
set_option linter.unusedVariables false
namespace Go.Proofs.Ytmdkhnndfhcfdaa.Wk
open Go.RowKit
open Go.Proofs.Ytmdkhnndfhcfdaa.Mt
open Go.Lib Go.Sort Go.Shelf in
theorem sort_own (g cap : Nat) (l : List Iv) (w : World) (h : Qb w g l) (hl : l.length ≤ 4096) :
    Calls Try.prog 34 #[.slice (some ⟨g, 0, none⟩) l.length cap, .func (.func 35) #[] #[]] w fun e w' => e = .returned (.tuple #[]) ∧ ∃ l' : List Iv, l'.length = l.length ∧ (∀ v, v ∈ l' ↔ v ∈ l) ∧ (∀ i j, i < j → j < l'.length → (vat l' i).1 ≤ (vat l' j).1) ∧ Qb w' g l' ∧ w.grownBy w' (some g) := by
  have hc := sort34 g 0 cap l.toArray w (holds_of h) h.lt (by simp; omega)
  have e0 : l.toArray.size = l.length := by simp
  rw [e0] at hc
  refine hc.mono fun e w' ⟨h1, d', n, os, hp, hs, hw⟩ => ⟨h1, d'.toList, ?_⟩
  obtain ⟨p1, _, p3⟩ := hp
  have hsz : d'.toList.length = l.length := by simpa using p1
  have ex : (d'.extract 0 l.length).toList = d'.toList := by
    rw [Array.toList_extract]
    rw [← hsz]
    simp only [List.extract_eq_take_drop, List.drop_zero, Nat.sub_zero]
    exact List.take_of_length_le (Nat.le_refl _)
  have ex2 : (l.toArray.extract 0 l.length).toList = l := by
    rw [Array.toList_extract]
    simp [List.extract_eq_take_drop]
  rw [ex, ex2] at p3
  have hq := sorted_of (m := n) (os := os) (l' := d'.toList) h hsz
  rw [Array.toArray_toList, ← hw] at hq
  have hat : ∀ i, i < d'.toList.length → d'[i]! = vat d'.toList i := by
    intro i hi
    have hi2 : i < d'.size := by simpa using hi
    rw [getElem!_pos d' i hi2]
    unfold vat
    rw [List.getD_eq_getElem?_getD, List.getElem?_eq_getElem hi]
    simp
  refine ⟨hsz, fun v => p3.mem_iff, fun i j hij hj => ?_, hq.1, hq.2⟩
  have := hs i j (Nat.zero_le _) hij (by rw [← hsz]; exact hj)
  rw [hat i (by omega), hat j hj, ltIv] at this
  simpa using this
theorem sort_none (p : Option Addr) (cap : Nat) (fv : Value) (w : World) : Calls Try.prog 34 #[.slice p 0 cap, fv] w fun e w' => e = .returned (.tuple #[]) ∧ w' = w :=
  AnyF.slices_SortFunc_none Try.sortIv p cap fv w
end Go.Proofs.Ytmdkhnndfhcfdaa.Wk
