/- Plain mathematics of levels: greater counts and levels don't lead lower; hysteresis. Condition: the scale is valid where said. -/
import Derived.Test.YtcobolmagjlbeaaLaw
namespace Go.Proofs.Ytcobolmagjlbeaa.Mt
theorem fb_zero {f : Nat → Int} : ∀ (m k : Nat), fb f k m = 0 → ∀ i, k ≤ i → i < k + m → f i = 0 := by
  intro m
  induction m with
  | zero => intro k _ i h1 h2; omega
  | succ m ih =>
    intro k h i h1 h2
    rw [fb] at h
    by_cases hk : f k = 0
    · rw [if_pos hk] at h
      rcases Nat.lt_or_ge k i with h3 | h3
      · exact ih (k + 1) h i (by omega) (by omega)
      · have : i = k := by omega
        subst this; exact hk
    · rw [if_neg hk] at h; exact absurd h hk
theorem ch_bad {s : Sc} (h : chS s = 0) : ∀ i, i < s.up.length → bad s i = 0 := by
  intro i hi
  have h2 : fb (bad s) 0 s.up.length = 0 := by
    unfold chS at h
    split at h
    · omega
    · split at h
      · omega
      · split at h
        · exact h
        · omega
  exact fb_zero _ 0 h2 i (by omega) (by omega)
theorem ch_lt {s : Sc} (h : chS s = 0) {i : Nat} (hi : i < s.up.length) : at_ s.dn i < at_ s.up i := by
  have := ch_bad h i hi
  unfold bad at this
  split at this
  · omega
  · omega
theorem ch_up {s : Sc} (h : chS s = 0) {i : Nat} (hi : i + 1 < s.up.length) : at_ s.up i < at_ s.up (i + 1) := by
  have := ch_bad h (i + 1) hi
  unfold bad at this
  split at this
  · omega
  · split at this
    · omega
    · rename_i h2
      simp only [Nat.add_sub_cancel] at h2
      omega
theorem ch_mono {s : Sc} (h : chS s = 0) : ∀ {j i : Nat}, i ≤ j → j < s.up.length → at_ s.up i ≤ at_ s.up j := by
  intro j
  induction j with
  | zero => intro i h1 _; have : i = 0 := by omega
            subst this; omega
  | succ j ih =>
    intro i h1 h2
    rcases Nat.lt_or_ge i (j + 1) with h3 | h3
    · have := ih (i := i) (by omega) (by omega)
      have := ch_up h h2
      omega
    · have : i = j + 1 := by omega
      subst this; omega
theorem upto_hit {up : List Int} {c : Int} : ∀ {k : Nat}, 0 < upto up c k → at_ up (upto up c k - 1) ≤ c := by
  intro k
  induction k with
  | zero => intro h; simp [upto] at h
  | succ k ih =>
    intro h
    by_cases hc : at_ up k ≤ c
    · rw [upto_yes hc]; simpa using hc
    · rw [upto_no hc] at h ⊢; exact ih h
theorem upto_step (up : List Int) (c : Int) (k : Nat) : upto up c k ≤ upto up c (k + 1) := by
  by_cases hc : at_ up k ≤ c
  · rw [upto_yes hc]; have := upto_le up c k; omega
  · rw [upto_no hc]; exact Nat.le_refl _
theorem upto_mono {up : List Int} {c c' : Int} (h : c ≤ c') : ∀ k, upto up c k ≤ upto up c' k := by
  intro k
  induction k with
  | zero => exact Nat.le_refl _
  | succ k ih =>
    by_cases hc : at_ up k ≤ c
    · rw [upto_yes hc, upto_yes (by omega)]; exact Nat.le_refl _
    · rw [upto_no hc]; exact Nat.le_trans ih (upto_step _ _ _)
theorem down_step (dn : List Int) (c : Int) (k : Nat) : down dn c k ≤ down dn c (k + 1) := by
  by_cases hc : c < at_ dn k
  · rw [down_yes hc]; exact Nat.le_refl _
  · rw [down_no hc]; have := down_le dn c k; omega
theorem down_mono {dn : List Int} {c c' : Int} (h : c ≤ c') : ∀ k, down dn c k ≤ down dn c' k := by
  intro k
  induction k with
  | zero => exact Nat.le_refl _
  | succ k ih =>
    by_cases hc : c < at_ dn k
    · rw [down_yes hc]; exact Nat.le_trans ih (down_step _ _ _)
    · rw [down_no hc, down_no (by omega)]; exact Nat.le_refl _
theorem down_up {dn : List Int} {c : Int} : ∀ {l k : Nat}, k ≤ l → down dn c k ≤ down dn c l := by
  intro l
  induction l with
  | zero => intro k h; have : k = 0 := by omega
            subst this; exact Nat.le_refl _
  | succ l ih =>
    intro k h
    rcases Nat.lt_or_ge k (l + 1) with h2 | h2
    · exact Nat.le_trans (ih (by omega)) (down_step _ _ _)
    · have : k = l + 1 := by omega
      subst this; exact Nat.le_refl _
/-- a level that has reached i stays there while the count is at least the bound below i -/
theorem down_stay {dn : List Int} {c : Int} {i : Nat} (h : at_ dn i ≤ c) : ∀ {l : Nat}, i + 1 ≤ l → i + 1 ≤ down dn c l := by
  intro l
  induction l with
  | zero => intro h2; omega
  | succ l ih =>
    intro h2
    by_cases hc : c < at_ dn l
    · rw [down_yes hc]
      refine ih ?_
      rcases Nat.lt_or_ge i l with h3 | h3
      · omega
      · have : i = l := by omega
        subst this; omega
    · rw [down_no hc]; exact h2
theorem clamp_in {n : Nat} {l : Nat} (h : l ≤ n) : clamp n (l : Int) = l := by
  unfold clamp
  rw [if_neg (by omega), if_neg (by omega)]; rfl
theorem nx_max {s : Sc} (h : chS s = 0) {l : Nat} (hl : l ≤ s.up.length) (c : Int) : nx s (l : Int) c = max (upto s.up c s.up.length) (down s.dn c l) := by
  unfold nx
  rw [clamp_in hl]
  have hd := down_le s.dn c l
  have hu := upto_le s.up c s.up.length
  split
  · omega
  · rename_i h1
    obtain ⟨U, hU⟩ : ∃ U, upto s.up c s.up.length = U := ⟨_, rfl⟩
    rw [hU] at h1 hu ⊢
    rcases Nat.eq_zero_or_pos U with h0 | h0
    · omega
    · have hh := upto_hit (up := s.up) (c := c) (k := s.up.length) (by omega)
      rw [hU] at hh
      have hlt := ch_lt h (i := U - 1) (by omega)
      have := down_stay (dn := s.dn) (c := c) (i := U - 1) (by omega) (l := l) (by omega)
      omega
theorem nx_mono {s : Sc} (h : chS s = 0) {l l' : Nat} (hl : l ≤ l') (hn : l' ≤ s.up.length) {c c' : Int} (hc : c ≤ c') : nx s (l : Int) c ≤ nx s (l' : Int) c' := by
  rw [nx_max h (by omega), nx_max h hn]
  have h1 := upto_mono (up := s.up) hc s.up.length
  have h2 := down_mono (dn := s.dn) hc l
  have h3 := down_up (dn := s.dn) (c := c') hl
  omega
theorem nx_stay {s : Sc} (h : chS s = 0) {l i : Nat} (hl : l ≤ s.up.length) (hi : i + 1 ≤ l) {c : Int} (hc : at_ s.dn i ≤ c) : i + 1 ≤ nx s (l : Int) c := by
  rw [nx_max h hl]
  have := down_stay hc hi
  omega
theorem nx_keep {s : Sc} (h : chS s = 0) {l i : Nat} (hl : l ≤ s.up.length) (hi : l < i + 1) (hin : i < s.up.length) {c : Int} (hc : c < at_ s.up i) : nx s (l : Int) c < i + 1 := by
  rw [nx_max h hl]
  have hd := down_le s.dn c l
  have hu := upto_le s.up c s.up.length
  obtain ⟨U, hU⟩ : ∃ U, upto s.up c s.up.length = U := ⟨_, rfl⟩
  rw [hU] at hu ⊢
  rcases Nat.lt_or_ge U (i + 1) with h0 | h0
  · omega
  · have hh := upto_hit (up := s.up) (c := c) (k := s.up.length) (by omega)
    rw [hU] at hh
    have := ch_mono h (j := U - 1) (i := i) (by omega) (by omega)
    omega
theorem lv_in (s : Sc) (cs : List Int) (k : Nat) : ∃ l : Nat, lv s cs k = (l : Int) ∧ l ≤ s.up.length := by
  cases k with
  | zero => exact ⟨0, rfl, Nat.zero_le _⟩
  | succ k => exact ⟨nx s (lv s cs k) (at_ cs k), rfl, nx_le _ _⟩
end Go.Proofs.Ytcobolmagjlbeaa.Mt
