/- An amount's format by its places: plain mathematics. No condition. -/
import Derived.Test.YtjipcopfggnlkaaDoorBk
set_option linter.unusedSimpArgs false
set_option linter.unusedVariables false
namespace Go.Proofs.YtjipcopfggnlkaaDoor.Mt
open Go
theorem lat_get {l : List UInt8} {i : Nat} (h : i < l.length) : lat l i = ((l[i]).toNat : Int) := by
  unfold lat
  rw [List.getD_eq_getElem?_getD, List.getElem?_eq_getElem h]
  rfl
theorem lat_left {a b : List UInt8} {i : Nat} (h : i < a.length) : lat (a ++ b) i = lat a i := by
  unfold lat
  rw [List.getD_eq_getElem?_getD, List.getD_eq_getElem?_getD, List.getElem?_append_left h]
theorem lat_right {a b : List UInt8} {i : Nat} (h : a.length ≤ i) : lat (a ++ b) i = lat b (i - a.length) := by
  unfold lat
  rw [List.getD_eq_getElem?_getD, List.getD_eq_getElem?_getD, List.getElem?_append_right h]
theorem lat_cons (c : UInt8) (b : List UInt8) (i : Nat) : lat (c :: b) (i + 1) = lat b i := by
  unfold lat
  rw [List.getD_eq_getElem?_getD, List.getD_eq_getElem?_getD, List.getElem?_cons_succ]
theorem lat_dig {l : List UInt8} (h : dgB l = true) {i : Nat} (hi : i < l.length) : 48 ≤ lat l i ∧ lat l i ≤ 57 := by
  rw [lat_get hi]
  have := dg_mem h (List.getElem_mem hi)
  omega
/-- what has the format, has it at its places -/
theorem am_gd {l : List UInt8} (h : amB l = true) :
    4 ≤ (tx l).length ∧ lat (tx l) ((tx l).length - 3) = 46 ∧ (∀ i, i < (tx l).length → i ≠ (tx l).length - 3 → 48 ≤ lat (tx l) i ∧ lat (tx l) i ≤ 57) ∧ ¬ (4 < (tx l).length ∧ lat (tx l) 0 = 48) := by
  have ha := am_parts h
  generalize cU (tx l) = U at ha
  generalize cC (tx l) = C at ha
  have hU : 0 < U.length := by
    rcases Nat.eq_zero_or_pos U.length with h0 | h0
    · exact absurd (List.eq_nil_of_length_eq_zero h0) ha.ne
    · exact h0
  have hC := ha.two
  have hlen : (tx l).length = U.length + 3 := by rw [ha.text, List.length_append, List.length_cons, hC]
  rw [hlen, ha.text]
  refine ⟨by omega, ?_, fun i hi hne => ?_, ?_⟩
  · rw [show U.length + 3 - 3 = U.length by omega, lat_right (Nat.le_refl _), Nat.sub_self]
    rfl
  · rcases Nat.lt_or_ge i U.length with h1 | h1
    · rw [lat_left h1]
      exact lat_dig ha.du h1
    · rw [lat_right h1, show i - U.length = (i - U.length - 1) + 1 by omega, lat_cons]
      exact lat_dig ha.dc (by omega)
  · rintro ⟨h1, h2⟩
    rw [lat_left hU] at h2
    rcases ha.lead with h3 | h3
    · rw [h3] at h1
      have : [(48 : UInt8)].length = 1 := rfl
      omega
    · exact h3 h2
/-- what has it at its places, has the format, if it is no negative zero -/
theorem gd_am {l : List UInt8} (h1 : 4 ≤ (tx l).length) (h2 : lat (tx l) ((tx l).length - 3) = 46) (h3 : ∀ i, i < (tx l).length → i ≠ (tx l).length - 3 → 48 ≤ lat (tx l) i ∧ lat (tx l) i ≤ 57) (h4 : ¬ (4 < (tx l).length ∧ lat (tx l) 0 = 48)) :
    amB l = decide (l ≠ [45, 48, 46, 48, 48]) ∧ (nv (tx l) = 0 → tx l = [48, 46, 48, 48]) := by
  obtain ⟨T, hT⟩ : ∃ T, tx l = T := ⟨_, rfl⟩
  rw [hT] at h1 h2 h3 h4
  obtain ⟨p, hp⟩ : ∃ p, T.length = p + 3 := ⟨T.length - 3, by omega⟩
  rw [hp, show p + 3 - 3 = p by omega] at h2 h3
  have hpl : p < T.length := by omega
  have e46 : T[p] = 46 := by
    rw [lat_get hpl] at h2
    apply UInt8.toNat_inj.1
    show T[p].toNat = 46
    omega
  have eT : T = T.take p ++ 46 :: T.drop (p + 1) := by
    have e := (List.take_append_drop p T).symm
    rw [List.drop_eq_getElem_cons hpl, e46] at e
    exact e
  obtain ⟨U, hU⟩ : ∃ U, T.take p = U := ⟨_, rfl⟩
  obtain ⟨C, hC⟩ : ∃ C, T.drop (p + 1) = C := ⟨_, rfl⟩
  rw [hU, hC] at eT
  have lU : U.length = p := by rw [← hU, List.length_take]; omega
  have lC : C.length = 2 := by rw [← hC, List.length_drop]; omega
  have dU : dgB U = true := dg_all fun i hi => by
    have := h3 i (by omega) (by omega)
    rwa [eT, lat_left hi] at this
  have dC : dgB C = true := dg_all fun i hi => by
    have := h3 (p + 1 + i) (by omega) (by omega)
    rwa [eT, lat_right (by omega), show p + 1 + i - U.length = i + 1 by omega, lat_cons] at this
  have neU : U ≠ [] := fun h => by rw [h] at lU; have : ([] : List UInt8).length = 0 := rfl; omega
  have lead : U = [48] ∨ lat U 0 ≠ 48 := by
    by_cases h0 : lat U 0 = 48
    · left
      have h9 : lat T 0 = 48 := by rw [eT, lat_left (by omega)]; exact h0
      have : p = 1 := by
        by_cases h8 : 4 < T.length
        · exact absurd ⟨h8, h9⟩ h4
        · omega
      match U, lU with
      | [x], _ =>
        have hx : ((x.toNat : Nat) : Int) = 48 := h0
        have : x = 48 := by apply UInt8.toNat_inj.1; show x.toNat = 48; omega
        rw [this]
      | [], h => rw [this] at h; cases h
      | _ :: _ :: _, h => rw [this] at h; simp at h
    · exact .inr h0
  have hc := cU_text (C := C) dU
  rw [← eT] at hc
  constructor
  · unfold amB
    rw [hT, hc.1, hc.2, if_neg neU, if_neg (by rw [dU]; decide), if_neg (by rw [lC]; decide), if_neg (by rw [dC]; decide), if_pos lead]
  · rw [hT]
    intro h0
    match C, lC with
    | [a, b], _ =>
      have hA := dg_mem dC (c := a) (by simp)
      have hB := dg_mem dC (c := b) (by simp)
      rw [eT, nv_text U a b hA.1 hB.1] at h0
      have hU1 : U = [48] := by
        rcases (dec_of _ _ (Nat.le_refl _) dU neU lead).2 with h9 | h9
        · exact h9
        · omega
      have ha : a = 48 := by apply UInt8.toNat_inj.1; show a.toNat = 48; omega
      have hb : b = 48 := by apply UInt8.toNat_inj.1; show b.toNat = 48; omega
      rw [eT, hU1, ha, hb]
      rfl
theorem nv_tx (l : List UInt8) : nv l = nv (tx l) := by
  rcases tx_cases l with ⟨t, e1, e2⟩ | ⟨e1, e2⟩ | ⟨e1, e2⟩
  · rw [e2, e1]; rfl
  · rw [e2]
  · rw [e2, e1]
/-- with the format at its places: the answer -/
theorem gd_all {l : List UInt8} (h1 : 4 ≤ (tx l).length) (h2 : lat (tx l) ((tx l).length - 3) = 46) (h3 : ∀ i, i < (tx l).length → i ≠ (tx l).length - 3 → 48 ≤ lat (tx l) i ∧ lat (tx l) i ≤ 57) (h4 : ¬ (4 < (tx l).length ∧ lat (tx l) 0 = 48)) :
    (lat l 0 = 45 → nv (tx l) = 0 → paE l = 5 ∧ paV l = 0) ∧ (¬ (lat l 0 = 45 ∧ nv (tx l) = 0) → (1125899906842624 < nv (tx l) → paE l = 13 ∧ paV l = 0) ∧ (nv (tx l) ≤ 1125899906842624 → paE l = 0 ∧ paV l = if lat l 0 = 45 then -((nv (tx l) : Nat) : Int) else ((nv (tx l) : Nat) : Int))) := by
  obtain ⟨g1, g2⟩ := gd_am h1 h2 h3 h4
  constructor
  · intro h5 h6
    have ht := g2 h6
    have hl : l = [45, 48, 46, 48, 48] := by
      rcases tx_cases l with ⟨t, e1, e2⟩ | ⟨e1, e2⟩ | ⟨e1, e2⟩
      · rw [e2] at ht; rw [e1, ht]
      · exact absurd h5 e1
      · rw [e2] at ht; cases ht
    exact pa_no (by rw [g1, hl]; decide)
  · intro h5
    have ha : amB l = true := by
      rw [g1]
      apply decide_eq_true
      intro h6
      apply h5
      rw [h6]
      exact ⟨rfl, by decide⟩
    refine ⟨fun h => pa_big ha (by rw [nv_tx]; exact h), fun h => ?_⟩
    have := pa_ok ha (by rw [nv_tx]; exact h)
    rw [nv_tx] at this
    exact this
/-- where a place is wrong: refused -/
theorem gd_bad {l : List UInt8} (h : ¬ (4 ≤ (tx l).length ∧ lat (tx l) ((tx l).length - 3) = 46 ∧ (∀ i, i < (tx l).length → i ≠ (tx l).length - 3 → 48 ≤ lat (tx l) i ∧ lat (tx l) i ≤ 57) ∧ ¬ (4 < (tx l).length ∧ lat (tx l) 0 = 48))) : paE l = 5 ∧ paV l = 0 := by
  rcases Wk.fot (amB l) with h1 | h1
  · exact pa_no h1
  · exact absurd (am_gd h1) h
end Go.Proofs.YtjipcopfggnlkaaDoor.Mt
