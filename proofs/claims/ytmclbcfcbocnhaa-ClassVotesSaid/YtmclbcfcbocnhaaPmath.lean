/- Plain mathematics for ClassPartition: valid rules assign a number of axles to the class whose range contains it, and to no other. No condition beside validity. -/
import Derived.Test.YtmclbcfcbocnhaaMath
set_option linter.unusedSimpArgs false
set_option linter.unusedVariables false
namespace Go.Proofs.Ytmclbcfcbocnhaa.Mt
def inr (r : Rule) (x : Int) : Prop := r.1 ≤ x ∧ x ≤ r.2.1
theorem of_spec (x : Int) (rs : List Rule) : (∃ j, j < rs.length ∧ inr (at_ rs j) x ∧ (∀ i, i < j → ¬ inr (at_ rs i) x) ∧ ofS x rs = ((at_ rs j).2.2, 0)) ∨ ((∀ j, j < rs.length → ¬ inr (at_ rs j) x) ∧ ofS x rs = (0, 20)) := by
  induction rs with
  | nil => right; exact ⟨fun j h => by simp at h, rfl⟩
  | cons r t ih =>
    by_cases h : r.1 ≤ x ∧ x ≤ r.2.1
    · left; exact ⟨0, by simp, h, fun i hi => by omega, by rw [ofS, if_pos h]; rfl⟩
    · rcases ih with ⟨j, hj, h1, h2, h3⟩ | ⟨h1, h2⟩
      · left
        refine ⟨j + 1, by simpa using hj, h1, fun i hi => ?_, by rw [ofS, if_neg h, h3]; rfl⟩
        cases i with
        | zero => exact h
        | succ i => exact h2 i (by omega)
      · right
        refine ⟨fun j hj => ?_, by rw [ofS, if_neg h, h2]⟩
        cases j with
        | zero => exact h
        | succ j => exact h1 j (by simpa using hj)
theorem ra_spec (c : Int) (rs : List Rule) : (∃ j, j < rs.length ∧ (at_ rs j).2.2 = c ∧ raS c rs = ((at_ rs j).1, (at_ rs j).2.1, true)) ∨ ((∀ j, j < rs.length → (at_ rs j).2.2 ≠ c) ∧ raS c rs = (0, 0, false)) := by
  induction rs with
  | nil => right; exact ⟨fun j h => by simp at h, rfl⟩
  | cons r t ih =>
    by_cases h : r.2.2 = c
    · left; exact ⟨0, by simp, h, by rw [raS, if_pos h]; rfl⟩
    · rcases ih with ⟨j, hj, h1, h3⟩ | ⟨h1, h2⟩
      · left
        exact ⟨j + 1, by simpa using hj, h1, by rw [raS, if_neg h, h3]; rfl⟩
      · right
        refine ⟨fun j hj => ?_, by rw [raS, if_neg h, h2]⟩
        cases j with
        | zero => exact h
        | succ j => exact h1 j (by simpa using hj)
theorem fb_zero {f : Nat → Int} : ∀ (m k : Nat), fb f k m = 0 → ∀ j, j < m → f (k + j) = 0 := by
  intro m
  induction m with
  | zero => intro k _ j hj; omega
  | succ m ih =>
    intro k h j hj
    rw [fb] at h
    split at h
    · cases j with
      | zero => assumption
      | succ j => have := ih (k + 1) h j (by omega); rw [← this]; congr 1; omega
    · exact absurd h (by assumption)
theorem good_of {rs : List Rule} (h : chS rs = 0) : ∀ j, j < rs.length → bad rs j = 0 := by
  intro j hj
  unfold chS at h
  split at h
  · omega
  · have := fb_zero _ 0 h j hj; simpa using this
theorem good_rule {rs : List Rule} {j : Nat} (h : bad rs j = 0) : (at_ rs j).1 ≤ (at_ rs j).2.1 ∧ 1 ≤ (at_ rs j).2.2 ∧ (at_ rs j).2.2 ≤ 9 ∧ (0 < j → (at_ rs (j - 1)).2.1 < (at_ rs j).1) ∧ ∀ i, i < j → (at_ rs i).2.2 ≠ (at_ rs j).2.2 := by
  unfold bad at h
  split at h
  · omega
  · rename_i h1
    split at h
    · omega
    · rename_i h2
      split at h
      · omega
      · rename_i h3
        split at h
        · omega
        · rename_i h4
          simp only [saw, decide_eq_true_eq, not_exists, not_and] at h4
          exact ⟨by omega, by omega, by omega, fun h0 => by
            rcases Int.lt_or_le (at_ rs (j - 1)).2.1 (at_ rs j).1 with h5 | h5
            · exact h5
            · exact absurd ⟨h0, h5⟩ h3, h4⟩
theorem rising {rs : List Rule} (h : ∀ j, j < rs.length → bad rs j = 0) : ∀ (d j : Nat), j + d + 1 < rs.length → (at_ rs j).2.1 < (at_ rs (j + d + 1)).1 := by
  intro d
  induction d with
  | zero =>
    intro j hj
    have := (good_rule (h (j + 1) hj)).2.2.2.1 (by omega)
    simpa using this
  | succ d ih =>
    intro j hj
    have h1 := ih j (by omega)
    have h2 := (good_rule (h (j + (d + 1)) (by omega))).1
    have h3 := (good_rule (h (j + (d + 1) + 1) hj)).2.2.2.1 (by omega)
    simp only [Nat.add_sub_cancel] at h3
    have e : j + (d + 1) = j + d + 1 := by omega
    rw [e] at h2 h3
    rw [e]
    omega
theorem partn {rs : List Rule} (hv : chS rs = 0) (x c : Int) : ((raS c rs).2.2 = true ∧ (raS c rs).1 ≤ x ∧ x ≤ (raS c rs).2.1) ↔ ofS x rs = (c, 0) := by
  have hg := good_of hv
  constructor
  · rintro ⟨h1, h2, h3⟩
    rcases ra_spec c rs with ⟨i, hi, hc, hr⟩ | ⟨_, hr⟩
    · rw [hr] at h2 h3
      simp only at h2 h3
      rcases of_spec x rs with ⟨j, hj, hx, hmin, ho⟩ | ⟨hn, _⟩
      · have hji : j = i := by
          rcases Nat.lt_trichotomy j i with h | h | h
          · obtain ⟨d, rfl⟩ : ∃ d, i = j + d + 1 := ⟨i - j - 1, by omega⟩
            have := rising hg d j hi
            have := hx.2
            omega
          · exact h
          · exact absurd ⟨h2, h3⟩ (hmin i h)
        subst hji
        rw [ho, hc]
      · exact absurd ⟨h2, h3⟩ (hn i hi)
    · rw [hr] at h1; simp at h1
  · intro ho
    rcases of_spec x rs with ⟨j, hj, hx, hmin, ho2⟩ | ⟨_, ho2⟩
    · rw [ho2] at ho
      have hc : (at_ rs j).2.2 = c := by injection ho
      rcases ra_spec c rs with ⟨i, hi, hci, hr⟩ | ⟨hn, _⟩
      · have hij : i = j := by
          rcases Nat.lt_trichotomy i j with h | h | h
          · exact absurd (hci.trans hc.symm) ((good_rule (hg j hj)).2.2.2.2 i h)
          · exact h
          · exact absurd (hc.trans hci.symm) ((good_rule (hg i hi)).2.2.2.2 j h)
        subst hij
        rw [hr]
        exact ⟨rfl, hx.1, hx.2⟩
      · exact absurd hc (hn j hj)
    · rw [ho2] at ho
      injection ho with h1 h2
      omega
theorem of_two {rs : List Rule} (hv : chS rs = 0) (x : Int) : (∃ d : Nat, 1 ≤ d ∧ d ≤ 9 ∧ ofS x rs = ((d : Int), 0)) ∨ ofS x rs = (0, 20) := by
  rcases of_spec x rs with ⟨j, hj, hx, hmin, ho⟩ | ⟨_, ho⟩
  · left
    have h := good_rule (good_of hv j hj)
    exact ⟨(at_ rs j).2.2.toNat, by omega, by omega, by rw [ho]; congr 1; omega⟩
  · exact .inr ho
end Go.Proofs.Ytmclbcfcbocnhaa.Mt
