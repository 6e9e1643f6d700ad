/- What the sort leaves in a row of the call's own. Conditions: the row is owned; its cells are intervals. -/
import Derived.Test.YtmdkhnndfhcfdaaSo
import Derived.Test.YtmdkhnndfhcfdaaSp
set_option linter.unusedSimpArgs false
set_option linter.unusedVariables false
namespace Go.Proofs.Ytmdkhnndfhcfdaa.Mt
/-- the cells of a list of intervals -/
def fl (l : List Iv) : List Go.Value := l.flatMap fun v => [.int .i64 v.1, .int .i64 v.2]
theorem fl_len (l : List Iv) : (fl l).length = l.length * 2 := by
  induction l with
  | nil => rfl
  | cons v l ih => simp only [fl, List.flatMap_cons, List.length_append, List.length_cons, List.length_nil] at *; omega
theorem fl_app (a b : List Iv) : fl (a ++ b) = fl a ++ fl b := by simp [fl]
theorem fl_at : ∀ (l : List Iv) (i : Nat), i < l.length → (fl l)[i * 2]? = some (.int .i64 (vat l i).1) ∧ (fl l)[i * 2 + 1]? = some (.int .i64 (vat l i).2) := by
  intro l
  induction l with
  | nil => intro i h; simp at h
  | cons v l ih =>
    intro i h
    have e : fl (v :: l) = .int .i64 v.1 :: .int .i64 v.2 :: fl l := rfl
    rw [e]
    rcases i with _ | i
    · exact ⟨rfl, rfl⟩
    · obtain ⟨h1, h2⟩ := ih i (by simpa using h)
      have e1 : (i + 1) * 2 = i * 2 + 2 := by omega
      have e2 : vat (v :: l) (i + 1) = vat l i := by simp [vat]
      rw [e1, e2]
      exact ⟨by simpa using h1, by simpa using h2⟩
theorem fl_one (l : List Iv) : ∀ u ∈ fl l, u.oneCell' = true := by
  intro u hu
  simp only [fl, List.mem_flatMap] at hu
  obtain ⟨v, _, hv⟩ := hu
  simp at hv
  rcases hv with rfl | rfl <;> rfl
end Go.Proofs.Ytmdkhnndfhcfdaa.Mt
namespace Go.Proofs.Ytmdkhnndfhcfdaa.Wk
open Go.RowKit
open Go.Proofs.Ytmdkhnndfhcfdaa.Mt
/-- block g holds the intervals of l from its beginning on; none of these cells is frozen -/
def Qb (w : World) (g : Nat) (l : List Iv) : Prop := ∃ cur : Array Value, w.heap[g]? = some (.cells cur 25 (0, 0)) ∧ l.length * 2 ≤ cur.size ∧ cur.toList.take (l.length * 2) = fl l
theorem Qb.lt {w : World} {g : Nat} {l : List Iv} (h : Qb w g l) : g < w.heap.size := by
  obtain ⟨cur, h1, _⟩ := h
  exact Bx.lt (cs := cur) (t := 25) h1
theorem Qb.cell {w : World} {g : Nat} {l : List Iv} (h : Qb w g l) {i : Nat} (hi : i < l.length) : w.cell? ⟨g, i * 2, none⟩ = some (.int .i64 (vat l i).1) ∧ w.cell? ⟨g, i * 2 + 1, none⟩ = some (.int .i64 (vat l i).2) := by
  obtain ⟨cur, h1, h2, h3⟩ := h
  obtain ⟨e1, e2⟩ := fl_at l i hi
  rw [← h3, List.getElem?_take, if_pos (by omega)] at e1 e2
  have c1 := cell_of_row w g (i * 2) cur 25 (0, 0) h1
  have c2 := cell_of_row w g (i * 2 + 1) cur 25 (0, 0) h1
  rw [← Array.getElem?_toList] at c1 c2
  exact ⟨c1.trans e1, c2.trans e2⟩
theorem Qb.free {w : World} {g : Nat} {l : List Iv} (h : Qb w g l) (i : Nat) : w.frozen? ⟨g, i, none⟩ = false := by
  obtain ⟨cur, h1, _⟩ := h
  simp [World.frozen?, h1]
theorem Qb.next {w w' : World} {g : Nat} {l : List Iv} (h : Qb w g l) (hb : Below w.heap.size w w') : Qb w' g l := by
  have hl := h.lt
  obtain ⟨cur, h1, h2⟩ := h
  exact ⟨cur, (hb.block g hl).trans h1, h2⟩
theorem Qb.own {w : World} {base : Nat} {v : Value} {l : List Iv} (h : w.ownsRow base 25 2 v l.length (fl l)) (h0 : 0 < l.length) : ∃ g cap, v = .slice (some ⟨g, 0, none⟩) l.length cap ∧ l.length ≤ cap ∧ base ≤ g ∧ Qb w g l := by
  rcases h.2 with ⟨_, h2⟩ | ⟨g, cap, cur, hv, hb, hg, hc, _, hs, ht⟩
  · omega
  · exact ⟨g, cap, hv, hc, hb, cur, hg, by omega, ht⟩
open Go.Lib Go.Sort Go.Shelf in
theorem holds_of {w : World} {g : Nat} {l : List Iv} (h : Qb w g l) : HoldsK encIv 2 w g 0 l.toArray := by
  intro j hj
  have hj2 : j < l.length * 2 := by simpa using hj
  refine ⟨?_, by rw [Nat.zero_add]; exact h.free j⟩
  rw [get_flatK _ _ _ _ (by simpa using hj2), Nat.zero_add]
  have hi : j / 2 < l.length := by omega
  obtain ⟨c1, c2⟩ := h.cell hi
  have ev : l.toArray[j / 2]! = vat l (j / 2) := by simp [vat, hi]
  rw [ev]
  rcases Nat.mod_two_eq_zero_or_one j with h2 | h2
  · rw [h2, show j = j / 2 * 2 by omega]
    have : j / 2 * 2 / 2 = j / 2 := by omega
    rw [this]
    exact c1
  · rw [h2, show j = j / 2 * 2 + 1 by omega]
    have : (j / 2 * 2 + 1) / 2 = j / 2 := by omega
    rw [this]
    exact c2
open Go.Lib Go.Sort Go.Shelf in
theorem sorted_of {w : World} {g m : Nat} {os : Array Obj} {l l' : List Iv} (h : Qb w g l) (hl : l'.length = l.length) : Qb (sortWorldK encIv 2 w g 0 m l'.toArray os) g l' ∧ w.grownBy (sortWorldK encIv 2 w g 0 m l'.toArray os) (some g) := by
  have hg := h.lt
  obtain ⟨cur, h1, h2, h3⟩ := h
  constructor
  · refine ⟨putCells id 0 (flatK encIv 2 l'.toArray) cur, ?_, by simp [putCells]; omega, ?_⟩
    · unfold sortWorldK putRowK
      rw [heap_grow_old _ _ (by simpa using hg)]
      simp [putRow, mapBlock, Sort.ahead, Array.getElem?_modify, h1, onCells]
    · apply List.ext_getElem?
      intro j
      by_cases hj : j < l'.length * 2
      · rw [List.getElem?_take_of_lt hj, Array.getElem?_toList]
        have hi : j / 2 < l'.length := by omega
        obtain ⟨e1, e2⟩ := fl_at l' (j / 2) hi
        have ev : l'.toArray[j / 2]! = vat l' (j / 2) := by simp [vat, hi]
        have ep : (putCells id 0 (flatK encIv 2 l'.toArray) cur)[j]? = some (flatK encIv 2 l'.toArray)[j]! := by
          simp [putCells, hj, show j < cur.size by omega]
        rw [ep, get_flatK _ _ _ _ (by simpa using hj), ev]
        rcases Nat.mod_two_eq_zero_or_one j with h2' | h2'
        · rw [h2']
          have : j = j / 2 * 2 := by omega
          rw [this, e1]
          have : j / 2 * 2 / 2 = j / 2 := by omega
          rw [this]; rfl
        · rw [h2']
          have : j = j / 2 * 2 + 1 := by omega
          rw [this, e2]
          have : (j / 2 * 2 + 1) / 2 = j / 2 := by omega
          rw [this]; rfl
      · rw [List.getElem?_take_eq_none (by omega), List.getElem?_eq_none (by rw [fl_len]; omega)]
  · refine ⟨rfl, rfl, rfl, by unfold sortWorldK putRowK; simp [putRow, mapBlock, Sort.ahead, grow]; try omega, fun k hk hne => ?_⟩
    unfold sortWorldK putRowK
    rw [heap_grow_old _ _ (by simpa using hk)]
    have : g ≠ k := fun e => hne (by rw [e])
    simp [putRow, mapBlock, Sort.ahead, Array.getElem?_modify, this]
end Go.Proofs.Ytmdkhnndfhcfdaa.Wk
