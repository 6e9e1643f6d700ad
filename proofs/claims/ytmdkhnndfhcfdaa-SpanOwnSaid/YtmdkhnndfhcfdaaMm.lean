/- Plain mathematics of the merge of ascending intervals. No condition. -/
import Derived.Test.YtmdkhnndfhcfdaaSw
set_option linter.unusedSimpArgs false
set_option linter.unusedVariables false
namespace Go.Proofs.Ytmdkhnndfhcfdaa.Mt
def flt (l : List Iv) : List Iv := l.filter fun v => decide (Ok v)
theorem flt_ok (l : List Iv) : ∀ v ∈ flt l, Ok v := by intro v hv; simpa using (List.mem_filter.1 hv).2
theorem flt_hs (l : List Iv) (t : Int) : Hs (flt l) t ↔ Hs l t := by
  constructor
  · rintro ⟨v, hv, h⟩; exact ⟨v, (List.mem_filter.1 hv).1, h⟩
  · rintro ⟨v, hv, h⟩; exact ⟨v, List.mem_filter.2 ⟨hv, by simpa using h.1⟩, h⟩
theorem flt_app (a b : List Iv) : flt (a ++ b) = flt a ++ flt b := List.filter_append ..
theorem flt_len (l : List Iv) : (flt l).length ≤ l.length := List.length_filter_le _ _
theorem take_next {l : List Iv} {k : Nat} (h : k < l.length) : l.take (k + 1) = l.take k ++ [vat l k] := by
  rw [List.take_add_one, List.getElem?_eq_getElem h]
  unfold vat
  rw [List.getD_eq_getElem?_getD, List.getElem?_eq_getElem h]
  rfl
theorem flt_yes {l : List Iv} {k : Nat} (h : k < l.length) (hk : Ok (vat l k)) : flt (l.take (k + 1)) = flt (l.take k) ++ [vat l k] := by
  rw [take_next h, flt_app]; congr 1; simp [flt, hk]
theorem flt_no {l : List Iv} {k : Nat} (h : k < l.length) (hk : ¬ Ok (vat l k)) : flt (l.take (k + 1)) = flt (l.take k) := by
  rw [take_next h, flt_app]; simp [flt, hk]
/-- what holds behind i rounds: the first m places are the normal form of the first i intervals -/
structure Mg (s T : List Iv) (i m : Nat) : Prop where
  len : T.length = s.length
  le : m ≤ i
  rest : ∀ j, i ≤ j → vat T j = vat s j
  nf : Nf (T.take m)
  hs : ∀ t, Hs (T.take m) t ↔ Hs (s.take i) t
  asc : 0 < m → ∀ j, i ≤ j → j < s.length → (vat T (m - 1)).1 ≤ (vat s j).1
theorem vat_set_same {T : List Iv} {k : Nat} {v : Iv} (h : k < T.length) : vat (T.set k v) k = v := by
  unfold vat; rw [List.getD_eq_getElem?_getD, List.getElem?_set_self h]; rfl
theorem vat_set_other {T : List Iv} {k j : Nat} {v : Iv} (h : k ≠ j) : vat (T.set k v) j = vat T j := by
  unfold vat; rw [List.getD_eq_getElem?_getD, List.getElem?_set_ne h, List.getD_eq_getElem?_getD]
theorem take_set {T : List Iv} {k : Nat} {v : Iv} (h : k < T.length) : (T.set k v).take (k + 1) = T.take k ++ [v] := by
  rw [take_next (by rw [List.length_set]; exact h), vat_set_same h]
  congr 1
  rw [List.take_set_of_le (Nat.le_refl _)]
theorem Mg.start (s : List Iv) : Mg s s 0 0 := ⟨rfl, Nat.le_refl _, fun _ _ => rfl, trivial, fun t => by simp, fun h => by omega⟩
/-- a new interval behind a gap, or the first one -/
theorem Mg.push {s T : List Iv} {i m : Nat} (h : Mg s T i m) (hi : i < s.length) (hok : Ok (vat s i)) (hs : ∀ a b, a < b → b < s.length → (vat s a).1 ≤ (vat s b).1) (hg : 0 < m → (vat T (m - 1)).2 < (vat s i).1) : Mg s (T.set m (vat s i)) (i + 1) (m + 1) := by
  have hl := h.len
  have hle := h.le
  refine ⟨by rw [List.length_set]; exact hl, by omega, fun j hj => ?_, ?_, fun t => ?_, fun _ j hj hj2 => ?_⟩
  · rw [vat_set_other (by omega)]; exact h.rest j (by omega)
  · rw [take_set (by omega)]
    refine h.nf.snoc hok fun u hu => ?_
    rcases Nat.eq_zero_or_pos m with h0 | h0
    · subst h0; simp at hu
    · have e : T.take m = T.take (m - 1) ++ [vat T (m - 1)] := by
        have := take_next (l := T) (k := m - 1) (by omega)
        rwa [show m - 1 + 1 = m by omega] at this
      have hn := h.nf
      rw [e] at hn hu
      obtain ⟨_, o, hx⟩ := hn.init
      have := hg h0
      rcases List.mem_append.1 hu with hu | hu
      · have := hx u hu
        unfold Ok at o
        omega
      · have : u = vat T (m - 1) := by simpa using hu
        rw [this]; omega
  · rw [take_set (by omega), Hs.app, h.hs t, take_next hi, Hs.app]
  · rw [Nat.add_sub_cancel, vat_set_same (by omega)]
    exact hs i j (by omega) hj2
/-- an interval that begins within the last one -/
theorem Mg.merge {s T : List Iv} {i m : Nat} (h : Mg s T i (m + 1)) (hi : i < s.length) (hok : Ok (vat s i)) (hg : (vat s i).1 ≤ (vat T m).2) {y : Int} (hy : y = max (vat T m).2 (vat s i).2) : Mg s (T.set m ((vat T m).1, y)) (i + 1) (m + 1) := by
  have hl := h.len
  have hle := h.le
  have ha := h.asc (by omega) i (Nat.le_refl _) hi
  rw [Nat.add_sub_cancel] at ha
  have hn := h.nf
  rw [take_next (by omega)] at hn
  obtain ⟨n1, o, n2⟩ := hn.init
  unfold Ok at o hok
  refine ⟨by rw [List.length_set]; exact hl, by omega, fun j hj => ?_, ?_, fun t => ?_, fun _ j hj hj2 => ?_⟩
  · rw [vat_set_other (by omega)]; exact h.rest j (by omega)
  · rw [take_set (by omega)]
    refine n1.snoc ?_ n2
    unfold Ok
    simp only
    omega
  · have e := h.hs t
    rw [take_next (by omega), Hs.app] at e
    rw [take_set (by omega), Hs.app, take_next hi, Hs.app, ← e]
    have c1 : ∀ v : Iv, Hs [v] t ↔ Ok v ∧ v.1 ≤ t ∧ t < v.2 := by
      intro v
      rw [Hs.cons]
      exact ⟨fun h => h.elim id (fun h => absurd h (Hs.nil t)), .inl⟩
    rw [c1, c1, c1]
    unfold Ok
    simp only
    constructor
    · rintro (h1 | h1)
      · exact .inl (.inl h1)
      · rcases Int.lt_or_le t (vat T m).2 with h2 | h2
        · exact .inl (.inr ⟨o, h1.2.1, h2⟩)
        · exact .inr ⟨hok, by omega, by omega⟩
    · rintro ((h1 | h1) | h1)
      · exact .inl h1
      · exact .inr ⟨by omega, by omega, by omega⟩
      · exact .inr ⟨by omega, by omega, by omega⟩
  · rw [Nat.add_sub_cancel, vat_set_same (by omega)]
    have := h.asc (by omega) j (by omega) hj2
    rw [Nat.add_sub_cancel] at this
    exact this
end Go.Proofs.Ytmdkhnndfhcfdaa.Mt
