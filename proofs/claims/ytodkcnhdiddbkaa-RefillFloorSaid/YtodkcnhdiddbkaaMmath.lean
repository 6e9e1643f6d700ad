/- Plain mathematics of RefillMoney: how often an amount was added. No condition. -/
import Derived.Test.YtodkcnhdiddbkaaRmath
set_option linter.unusedSimpArgs false
set_option linter.unusedVariables false
namespace Go.Proofs.Ytodkcnhdiddbkaa.Mt
/-- how many of the first j bools are true -/
def cT (os : List Bool) (j : Nat) : Nat := (os.take j).count true
theorem cT_zero (os : List Bool) : cT os 0 = 0 := rfl
theorem takeB {l : List Bool} {k : Nat} (h : k < l.length) : l.take (k + 1) = l.take k ++ [l.getD k false] := by
  rw [List.take_succ_eq_append_getElem h]; simp [List.getD, List.getElem?_eq_getElem h]
theorem cT_yes {os : List Bool} {j : Nat} (h : j < os.length) (e : os.getD j false = true) : cT os (j + 1) = cT os j + 1 := by
  unfold cT; rw [takeB h, e, List.count_append]; simp
theorem cT_no {os : List Bool} {j : Nat} (h : j < os.length) (e : os.getD j false = false) : cT os (j + 1) = cT os j := by
  unfold cT; rw [takeB h, e, List.count_append]; simp
theorem cT_over {os : List Bool} {j : Nat} (h : os.length ≤ j) : cT os j = cT os os.length := by
  unfold cT; rw [List.take_of_length_le h, List.take_of_length_le (Nat.le_refl _)]
theorem cT_le (os : List Bool) (j : Nat) : cT os j ≤ j := Nat.le_trans List.count_le_length (List.length_take_le _ _)
theorem cT_up (os : List Bool) (j : Nat) : cT os j ≤ cT os (j + 1) := by
  rcases Nat.lt_or_ge j os.length with h | h
  · cases e : os.getD j false
    · rw [cT_no h e]; exact Nat.le_refl _
    · rw [cT_yes h e]; omega
  · rw [cT_over h, cT_over (j := j + 1) (by omega)]; exact Nat.le_refl _
theorem cT_all (os : List Bool) (j : Nat) : cT os j ≤ cT os os.length := by
  rcases Nat.lt_or_ge j os.length with h | h
  · obtain ⟨d, hd⟩ : ∃ d, os.length = j + d := ⟨os.length - j, by omega⟩
    rw [hd]
    clear hd h
    induction d with
    | zero => exact Nat.le_refl _
    | succ d ih => exact Nat.le_trans ih (cT_up os (j + d))
  · rw [cT_over h]; exact Nat.le_refl _

/-- the balances xs follow from p by the moves ms: a of them by an amount more -/
inductive Trail (b c : Int) : Int → List Int → List Int → Nat → Prop
  | done (p : Int) : Trail b c p [] [] 0
  | plain {p m : Int} {ms xs : List Int} {a : Nat} (h : Trail b c (p + m) ms xs a) (h1 : fit p = true) (h2 : fit m = true) (h3 : fit (p + m) = true) : Trail b c p (m :: ms) ((p + m) :: xs) a
  | more {p m : Int} {ms xs : List Int} {a : Nat} (h : Trail b c (p + m + c) ms xs a) (h1 : fit p = true) (h2 : fit m = true) (h3 : fit (p + m) = true) (h4 : p + m < b) (h5 : 0 < c) (h6 : fit (p + m + c) = true) : Trail b c p (m :: ms) ((p + m + c) :: xs) (a + 1)
theorem ad_all {a b x : Int} (h : adS a b = (x, 0)) : fit a = true ∧ fit b = true ∧ fit (a + b) = true ∧ x = a + b := by
  unfold adS at h
  split at h
  · rename_i h1
    injection h with h2 _
    exact ⟨h1.1, h1.2.1, h1.2.2, h2.symm⟩
  · injection h with h1 h2
    omega
theorem ad_eq {a b : Int} (h : ¬ (adS a b).2 ≠ 0) : ∃ x, adS a b = (x, 0) := ⟨(adS a b).1, by
  have : (adS a b).2 = 0 := by omega
  rw [← this]⟩
theorem stp_more {r : Ru} {f : Fi} {bal t : Int} (h : 0 < (stp r f bal t).2) : (stp r f bal t).2 = r.c ∧ bal < r.b := by
  unfold stp at h ⊢
  split at h
  · simp at h
  · rename_i h1
    rw [if_neg h1]
    exact ⟨rfl, by omega⟩
theorem trail_of {r : Ru} {os : List Bool} : ∀ (ms : List Int) (st st' : St) (k : Nat), rloop r os st k ms = some st' →
    ∃ xs a, st'.out = st.out ++ xs ∧ Trail r.b r.c st.bal ms xs a ∧ a + cT os st.req ≤ cT os st'.req := by
  intro ms
  induction ms with
  | nil => intro st st' k h; injection h with h; subst h; exact ⟨[], 0, by simp, .done _, by omega⟩
  | cons m rest ih =>
    intro st st' k h
    rw [rloop] at h
    split at h
    · cases h
    · rename_i st1 hs
      obtain ⟨xs, a, h1, h2, h3⟩ := ih _ _ _ h
      unfold rstep at hs
      split at hs
      · cases hs
      · rename_i ha
        obtain ⟨x, hx⟩ := ad_eq ha
        obtain ⟨f1, f2, f3, rfl⟩ := ad_all hx
        rw [hx] at hs
        simp only at hs
        split at hs
        · rename_i hp
          obtain ⟨e1, e2⟩ := stp_more hp
          split at hs
          · rename_i hq
            split at hs
            · cases hs
            · rename_i ha2
              obtain ⟨y, hy⟩ := ad_eq ha2
              obtain ⟨_, _, f5, rfl⟩ := ad_all hy
              rw [hy] at hs
              injection hs with hs
              subst hs
              simp only [e1] at h1 h2 h3 f5
              refine ⟨_, _, by rw [h1, List.append_assoc]; rfl, .more h2 f1 f2 f3 e2 (by rw [e1] at hp; exact hp) f5, ?_⟩
              rw [cT_yes hq.1 hq.2] at h3
              omega
          · injection hs with hs
            subst hs
            simp only at h1 h2 h3
            refine ⟨_, _, by rw [h1, List.append_assoc]; rfl, .plain h2 f1 f2 f3, ?_⟩
            have := cT_up os st.req
            omega
        · injection hs with hs
          subst hs
          simp only at h1 h2 h3
          exact ⟨_, _, by rw [h1, List.append_assoc]; rfl, .plain h2 f1 f2 f3, h3⟩
theorem run_trail {r : Ru} {bal : Int} {ms out : List Int} {os : List Bool} {f : Fi} (h : runS r bal ms os = (out, f, 0)) : ∃ a, Trail r.b r.c bal ms out a ∧ a ≤ cT os os.length := by
  unfold runS at h
  split at h
  · rename_i h1
    injection h with h2 h3
    injection h3 with _ h4
    exact absurd h4 h1
  · split at h
    · injection h with h2 h3
      injection h3 with _ h4
      omega
    · split at h
      · injection h with h2 h3
        injection h3 with _ h4
        omega
      · split at h
        · injection h with h2 h3
          injection h3 with _ h4
          omega
        · rename_i st hs
          injection h with h2 h3
          obtain ⟨xs, a, h4, h5, h6⟩ := trail_of _ _ _ _ hs
          simp at h4 h5 h6
          rw [← h2, h4]
          exact ⟨a, h5, Nat.le_trans (by simpa [cT_zero] using h6) (cT_all os _)⟩
/-- one step of a trail -/
theorem trail_step {b c p : Int} {ms xs : List Int} {a k : Nat} (hk : k < ms.length) (h : Trail b c p (ms.drop k) (xs.drop k) a) :
    fit p = true ∧ fit (ms.getD k 0) = true ∧ fit (p + ms.getD k 0) = true ∧
    ((xs.getD k 0 = p + ms.getD k 0 ∧ Trail b c (xs.getD k 0) (ms.drop (k + 1)) (xs.drop (k + 1)) a) ∨
     (xs.getD k 0 = p + ms.getD k 0 + c ∧ p + ms.getD k 0 < b ∧ 0 < c ∧ fit (xs.getD k 0) = true ∧ ∃ a', a = a' + 1 ∧ Trail b c (xs.getD k 0) (ms.drop (k + 1)) (xs.drop (k + 1)) a')) := by
  rw [dropAt hk] at h
  generalize hx : xs.drop k = ys at h
  cases h with
  | plain h h1 h2 h3 =>
    have hkx : k < xs.length := by
      rcases Nat.lt_or_ge k xs.length with h | h
      · exact h
      · rw [List.drop_eq_nil_of_le h] at hx; cases hx
    rw [dropAt hkx] at hx
    injection hx with e1 e2
    rw [e1, e2]
    exact ⟨h1, h2, h3, .inl ⟨rfl, h⟩⟩
  | more h h1 h2 h3 h4 h5 h6 =>
    have hkx : k < xs.length := by
      rcases Nat.lt_or_ge k xs.length with h | h
      · exact h
      · rw [List.drop_eq_nil_of_le h] at hx; cases hx
    rw [dropAt hkx] at hx
    injection hx with e1 e2
    rw [e1, e2]
    exact ⟨h1, h2, h3, .inr ⟨rfl, h4, h5, h6, _, rfl, h⟩⟩
theorem trail_end {b c p : Int} {ms xs : List Int} {a k : Nat} (hk : ms.length ≤ k) (h : Trail b c p (ms.drop k) (xs.drop k) a) : a = 0 := by
  rw [List.drop_eq_nil_of_le hk] at h
  generalize xs.drop k = ys at h
  cases h
  rfl
end Go.Proofs.Ytodkcnhdiddbkaa.Mt
