/- Join, in the layer and in its reference. Conditions: the slice reads as the list; what is joined has at most a million bytes. -/
import Derived.Test.YtgfbgkoifcacdaaDoorORw
import Derived.Test.YtgfbgkoifcacdaaDoorLaid
set_option linter.unusedSimpArgs false
set_option linter.unusedVariables false
namespace Go.Proofs.YtgfbgkoifcacdaaDoor.Om
open Go
/-- the first k strings, joined with blanks -/
def js (l : List ByteArray) : Nat → ByteArray
  | 0 => ⟨#[]⟩
  | k + 1 => (if 0 < k then js l k ++ ⟨#[32]⟩ else js l k) ++ sat l k
theorem js_zero (l : List ByteArray) : js l 0 = ⟨#[]⟩ := rfl
theorem js_one (l : List ByteArray) : js l 1 = sat l 0 := by
  show (if 0 < 0 then _ else (⟨#[]⟩ : ByteArray)) ++ sat l 0 = _
  rw [if_neg (by decide)]
  exact ByteArray.empty_append
theorem js_next (l : List ByteArray) {k : Nat} (h : 0 < k) : js l (k + 1) = js l k ++ ⟨#[32]⟩ ++ sat l k := by
  show (if 0 < k then _ else _) ++ _ = _
  rw [if_pos h]
theorem js_step (l : List ByteArray) (k : Nat) : (js l k).size + (if k = 0 then 0 else 1) ≤ (js l (k + 1)).size := by
  rcases k with _ | k
  · have h0 : (js l 0).size = 0 := rfl
    rw [if_pos rfl, h0]
    exact Nat.zero_le _
  · have e := congrArg ByteArray.size (js_next l (k := k + 1) (by omega))
    rw [ByteArray.size_append, ByteArray.size_append] at e
    have h1 : (ByteArray.mk #[32]).size = 1 := rfl
    rw [if_neg (by omega)]
    omega
theorem js_mono (l : List ByteArray) {k j : Nat} (h : k ≤ j) : (js l k).size ≤ (js l j).size := by
  obtain ⟨d, rfl⟩ : ∃ d, j = k + d := ⟨j - k, by omega⟩
  induction d with
  | zero => exact Nat.le_refl _
  | succ d ih =>
    have h1 := ih (by omega)
    have h2 := js_step l (k + d)
    rw [Nat.add_assoc] at h2
    exact Nat.le_trans h1 (Nat.le_trans (Nat.le_add_right _ _) h2)
theorem js_many (l : List ByteArray) : ∀ k, k ≤ (js l k).size + 1 := by
  intro k
  induction k with
  | zero => omega
  | succ k ih =>
    have h2 := js_step l k
    split at h2
    · subst k; omega
    · omega
theorem ba_app (a b : ByteArray) : a ++ b = ⟨(a.data.toList ++ b.data.toList).toArray⟩ := by
  apply ByteArray.ext
  rw [ByteArray.data_append]
  simp
theorem js_join (l : List ByteArray) : ∀ k, k ≤ l.length → js l k = ⟨(Lib.join ((l.take k).map (·.data.toList)) [32]).toArray⟩ := by
  intro k
  induction k with
  | zero => intro _; simp [js_zero, Lib.join_nil]
  | succ k ih =>
    intro hk
    have h1 := ih (by omega)
    have ht : l.take (k + 1) = l.take k ++ [sat l k] := by
      rw [List.take_add_one]
      simp [sat, show k < l.length by omega]
    rw [ht, List.map_append]
    rcases Nat.eq_zero_or_pos k with h0 | h0
    · subst h0
      rw [js_one]
      simp [Lib.join_one]
    · rw [js_next l h0, h1]
      match hx : l.take k with
      | [] =>
        have := congrArg List.length hx
        rw [List.length_take, List.length_nil] at this
        omega
      | a :: r =>
        rw [List.map_cons, List.cons_append, Lib.join_cons, Lib.join_cons]
        rw [ba_app, ba_app]
        simp [Lib.joinTail]
end Go.Proofs.YtgfbgkoifcacdaaDoor.Om
namespace Go.Proofs.YtgfbgkoifcacdaaDoor.Ow
open Go.RowKit
open Go.Proofs.YtgfbgkoifcacdaaDoor.Om
theorem join37 (A : Option Addr) (n c : Nat) (l : List ByteArray) (w : World) (h : Rs w w.heap.size A n l) (hc : n ≤ c) (hs : (js l n).size ≤ 1000000) : Calls Tryd.prog 70 #[.slice A n c, .string ⟨#[32]⟩] w fun e w' => e = .returned (.string (js l n)) ∧ Below w.heap.size w w' := by
  rcases Nat.eq_zero_or_pos n with h0 | h0
  · subst h0
    exact (Any.strings_Join_none Tryd.laysJoin Tryd.joinExtra A c ⟨#[32]⟩ w).mono fun e w' ⟨he, hw⟩ => ⟨he, hw ▸ Below.refl _ _⟩
  · obtain ⟨b, off, rfl, hb, hcell⟩ := h.2.2 h0
    have hl := h.1
    have hj := js_join l n (by omega)
    rw [List.take_of_length_le (show l.length ≤ n by omega)] at hj
    have hm := js_many l n
    subst hl
    have hsz : (Lib.join (l.map (·.data.toList)) [32]).length = (js l l.length).size := by rw [hj]; simp [ByteArray.size]
    refine (Any.strings_Join Tryd.laysJoin Tryd.joinExtra b off c l ⟨#[32]⟩ w (fun j x hx => ?_) hb (by omega) hc ?_).mono fun e w' ⟨he, hw⟩ => ⟨?_, hw⟩
    · have hjl := (List.getElem?_eq_some_iff.1 hx).1
      rw [hcell j hjl]
      have : sat l j = x := by unfold sat; rw [List.getD_eq_getElem?_getD, hx]; rfl
      rw [this]
    · show (Lib.join (l.map (·.data.toList)) [32]).length ≤ _
      rw [hsz]; omega
    · rw [he, hj]
theorem join29 (A : Option Addr) (n c : Nat) (l : List ByteArray) (w : World) (h : Rs w w.heap.size A n l) (hc : n ≤ c) (hs : (js l n).size ≤ 1000000) : Calls Tryd.prog 46 #[.slice A n c] w fun e w' => e = .returned (.string (js l n)) ∧ Below w.heap.size w w' := by
  go_enter Tryd.func46, Tryd.ntmps46
  go_wp2_with fail
  go_at_call 70
  refine (join37 A n c l w h hc hs).mono ?_
  rintro e w1 ⟨rfl, q1⟩
  have Q1 := Lib.hid q1
  clear q1
  go_wp2_with fail
  go_ret
  exact ⟨rfl, Q1.out⟩
end Go.Proofs.YtgfbgkoifcacdaaDoor.Ow
