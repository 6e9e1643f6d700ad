/- Plain mathematics of votes: the best has no fewer than any; a turned list has the same counts. No condition. -/
import Derived.Test.YtmclbcfcbocnhaaMath
set_option linter.unusedSimpArgs false
set_option linter.unusedVariables false
namespace Go.Proofs.Ytmclbcfcbocnhaa.Mt
theorem mj_best (f : Nat → Nat) : ∀ k c, c < k → f c ≤ f (mj f k) ∧ (c < mj f k → f c < f (mj f k)) := by
  intro k
  induction k with
  | zero => intro c h; omega
  | succ k ih =>
    intro c hc
    by_cases h : f (mj f k) < f k
    · rw [mj_yes h]
      rcases Nat.lt_or_ge c k with h1 | h1
      · have := ih c h1; exact ⟨by omega, fun _ => by omega⟩
      · have : c = k := by omega
        subst this; exact ⟨Nat.le_refl _, fun h2 => by omega⟩
    · rw [mj_no h]
      rcases Nat.lt_or_ge c k with h1 | h1
      · exact ih c h1
      · have : c = k := by omega
        subst this
        refine ⟨by omega, fun h2 => ?_⟩
        rcases Nat.eq_zero_or_pos c with rfl | h0
        · simp [mj] at h2
        · have := mj_lt f c h0; omega
/-- is one of the first k a class? -/
def sm (zs : List Int) (k : Nat) : Bool := decide (∃ i, i < k ∧ 1 ≤ zs.getD i 0 ∧ zs.getD i 0 ≤ 9)
theorem sm_zero (zs : List Int) : sm zs 0 = false := by simp [sm]
theorem sm_yes {zs : List Int} {k : Nat} (h : 1 ≤ zs.getD k 0 ∧ zs.getD k 0 ≤ 9) : sm zs (k + 1) = true := by simp only [sm, decide_eq_true_eq]; exact ⟨k, by omega, h⟩
theorem sm_no {zs : List Int} {k : Nat} (h : ¬ (1 ≤ zs.getD k 0 ∧ zs.getD k 0 ≤ 9)) : sm zs (k + 1) = sm zs k := by
  unfold sm
  congr 1
  apply propext
  constructor
  · rintro ⟨i, hi, e⟩
    rcases Nat.lt_or_ge i k with h1 | h1
    · exact ⟨i, h1, e⟩
    · have : i = k := by omega
      subst this; exact absurd e h
  · rintro ⟨i, hi, e⟩; exact ⟨i, by omega, e⟩
theorem cN_pos {zs : List Int} {k c : Nat} : k ≤ zs.length → 0 < cN zs k c → sm zs k = true := by
  induction k with
  | zero => intro _ h; rw [cN_start] at h; omega
  | succ k ih =>
    intro hk h
    by_cases e : 1 ≤ zs.getD k 0 ∧ zs.getD k 0 ≤ 9
    · exact sm_yes e
    · rw [cN_out (by omega) e] at h
      rw [sm_no e]; exact ih (by omega) h
theorem sm_pos {zs : List Int} {k : Nat} (hk : k ≤ zs.length) (h : sm zs k = true) : ∃ c, 1 ≤ c ∧ c ≤ 9 ∧ 0 < cN zs k c := by
  induction k with
  | zero => rw [sm_zero] at h; cases h
  | succ k ih =>
    by_cases e : 1 ≤ zs.getD k 0 ∧ zs.getD k 0 ≤ 9
    · refine ⟨(zs.getD k 0).toNat, by omega, by omega, ?_⟩
      rw [cN_hit (by omega) (by omega) (by omega)]; omega
    · rw [sm_no e] at h
      obtain ⟨c, h1, h2, h3⟩ := ih (by omega) h
      exact ⟨c, h1, h2, by rw [cN_out (by omega) e]; exact h3⟩
theorem maj_facts (zs : List Int) : majS zs ≤ 9 ∧ (0 < majS zs ↔ sm zs zs.length = true) ∧ ∀ c, 1 ≤ c → c ≤ 9 → cN zs zs.length c ≤ cN zs zs.length (majS zs) ∧ (c < majS zs → cN zs zs.length c < cN zs zs.length (majS zs)) := by
  have hb := mj_best (cN zs zs.length) 10
  have hl := mj_lt (cN zs zs.length) 10 (by omega)
  have e : majS zs = mj (cN zs zs.length) 10 := rfl
  rw [← e] at hb hl
  refine ⟨by omega, ⟨fun h => ?_, fun h => ?_⟩, fun c h1 h2 => hb c (by omega)⟩
  · have := (hb 0 (by omega)).2 h
    exact cN_pos (Nat.le_refl _) (c := majS zs) (by omega)
  · obtain ⟨c, h1, h2, h3⟩ := sm_pos (Nat.le_refl _) h
    have h4 := (hb c (by omega)).1
    rcases Nat.eq_zero_or_pos (majS zs) with h0 | h0
    · rw [h0, cN_zero] at h4; omega
    · exact h0
theorem maj_turn (zs : List Int) (t : Nat) : majS (zs.drop t ++ zs.take t) = majS zs := by
  have hlen : (zs.drop t ++ zs.take t).length = zs.length := by simp; omega
  have : cN (zs.drop t ++ zs.take t) (zs.drop t ++ zs.take t).length = cN zs zs.length := by
    funext c
    unfold cN
    split
    · rw [List.take_length, List.take_length, List.count_append, Nat.add_comm, ← List.count_append, List.take_append_drop]
    · rfl
  unfold majS
  rw [this]
end Go.Proofs.Ytmclbcfcbocnhaa.Mt
