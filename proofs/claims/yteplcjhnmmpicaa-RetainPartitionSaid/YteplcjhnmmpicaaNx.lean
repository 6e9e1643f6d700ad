/- What is next. No condition. -/
import Derived.Test.YteplcjhnmmpicaaLawB
set_option linter.unusedSimpArgs false
set_option linter.unusedVariables false
namespace Go.Proofs.Yteplcjhnmmpicaa.Wk
open Go Go.RowKit Go.Proofs.Yteplcjhnmmpicaa.Av
theorem fe_all {f : Nat → Int} : ∀ (n i : Nat), (∀ j, i ≤ j → j < i + n → f j = 0) → fe f i n = 0
  | 0, i, h => rfl
  | n + 1, i, h => by
    unfold fe
    rw [if_pos (h i (by omega) (by omega))]
    exact fe_all n (i + 1) (fun j h1 h2 => h j (by omega) (by omega))
structure PZ (l : List Kp) (m : List Im) (c : List Int) (t : Int) : Prop where
  ha : (ck l != 0) = false
  hb : ((c.length : Int) != (m.length : Int)) = false
  hc : isT t = true
  e : ∀ q, q < m.length → er l m c t q = 0
theorem PZ.of {l : List Kp} {m : List Im} {c : List Int} {t : Int} (h : (purge l m c t).2 = 0) : PZ l m c t := by
  unfold purge at h
  split at h
  · rename_i h1
    have h' : ck l = 0 := h
    rw [h'] at h1; cases h1
  · rename_i h1
    split at h
    · cases h
    · rename_i h2
      split at h
      · cases h
      · rename_i h3
        split at h
        · rename_i h4
          exact ⟨by simpa using h1, by simpa using h2, by simpa using h3, fun q hq => fe_zero _ _ h4 q (by omega) (by omega)⟩
        · rename_i h4; exact absurd h h4
theorem PZ.eq {l : List Kp} {m : List Im} {c : List Int} {t : Int} (h : PZ l m c t) : purge l m c t = ((kA l m c t m.length, kB l m c t m.length), 0) := by
  unfold purge
  rw [h.ha, h.hb, h.hc]
  exact if_pos (fe_all m.length 0 (fun j _ hj => h.e j (by omega)))
theorem er_two {l : List Kp} {m : List Im} {c : List Int} {t : Int} {q : Nat} (h : er l m c t q = 0) : (unt l (ix m q) (ix c q)).2 = 32 ∨ (unt l (ix m q) (ix c q)).2 = 11 ∨ (unt l (ix m q) (ix c q)).2 = 0 := by
  unfold er at h
  split at h
  · rename_i hk
    unfold kp at hk
    simp only [Bool.or_eq_true, Bool.and_eq_true, beq_iff_eq] at hk
    rcases hk with (hk | hk) | hk
    · exact .inl hk
    · exact .inr (.inl hk)
    · exact .inr (.inr hk.1)
  · exact .inr (.inr h)
theorem er_any {l : List Kp} {m : List Im} {c : List Int} {t x : Int} {q : Nat} (h : er l m c t q = 0) : er l m c x q = 0 := by
  unfold er
  split
  · rfl
  · rename_i hk
    unfold kp at hk
    rcases er_two h with h | h | h
    · rw [h] at hk; simp at hk
    · rw [h] at hk; simp at hk
    · exact h
theorem PZ.at {l : List Kp} {m : List Im} {c : List Int} {t x : Int} (h : PZ l m c t) (hx : isT x = true) : PZ l m c x := ⟨h.ha, h.hb, hx, fun q hq => er_any (h.e q hq)⟩
theorem kp_mono {l : List Kp} {m : List Im} {c : List Int} {t x : Int} {q : Nat} (htx : t ≤ x) (h : kp l m c x q = true) : kp l m c t q = true := by
  unfold kp at h ⊢
  simp only [Bool.or_eq_true, Bool.and_eq_true, beq_iff_eq, decide_eq_true_eq] at h ⊢
  rcases h with h | h
  · exact .inl h
  · exact .inr ⟨h.1, by omega⟩
theorem kp_diff {l : List Kp} {m : List Im} {c : List Int} {t x : Int} {q : Nat} (h : kp l m c t q = true) (h2 : kp l m c x q = false) : (unt l (ix m q) (ix c q)).2 = 0 ∧ t < (unt l (ix m q) (ix c q)).1 ∧ (unt l (ix m q) (ix c q)).1 ≤ x := by
  unfold kp at h h2
  simp only [Bool.or_eq_true, Bool.and_eq_true, beq_iff_eq, decide_eq_true_eq, Bool.or_eq_false_iff, Bool.and_eq_false_iff, beq_eq_false_iff_ne, ne_eq, decide_eq_false_iff_not] at h h2
  obtain ⟨⟨n1, n2⟩, n3⟩ := h2
  rcases h with (h | h) | h
  · exact absurd h n1
  · exact absurd h n2
  · refine ⟨h.1, h.2, ?_⟩
    rcases n3 with n3 | n3
    · exact absurd h.1 n3
    · omega
theorem kB_eq {l : List Kp} {m : List Im} {c : List Int} {t x : Int} : ∀ k, (∀ q, q < k → kp l m c x q = kp l m c t q) → kB l m c x k = kB l m c t k ∧ kA l m c x k = kA l m c t k
  | 0, h => ⟨rfl, rfl⟩
  | k + 1, h => by
    have ih := kB_eq (l := l) (m := m) (c := c) (x := x) (t := t) k (fun q hq => h q (by omega))
    unfold kB kA
    rw [h k (by omega), ih.1, ih.2]
    exact ⟨rfl, rfl⟩
theorem kB_le {l : List Kp} {m : List Im} {c : List Int} {t x : Int} (htx : t ≤ x) : ∀ k, (kB l m c t k).length ≤ (kB l m c x k).length ∧ (kA l m c x k).length ≤ (kA l m c t k).length
  | 0 => ⟨Nat.le_refl _, Nat.le_refl _⟩
  | k + 1 => by
    have ih := kB_le (l := l) (m := m) (c := c) htx k
    unfold kB kA
    cases h : kp l m c x k with
    | true =>
      rw [kp_mono htx h, if_pos rfl, if_pos rfl, if_pos rfl, if_pos rfl]
      simp; exact ih
    | false =>
      cases h2 : kp l m c t k <;> simp <;> omega
theorem kB_lt {l : List Kp} {m : List Im} {c : List Int} {t x : Int} (htx : t ≤ x) {q : Nat} (h1 : kp l m c t q = true) (h2 : kp l m c x q = false) : ∀ k, q < k → (kB l m c t k).length < (kB l m c x k).length
  | 0, h => by omega
  | k + 1, h => by
    rcases Nat.lt_or_ge q k with hq | hq
    · have ih := kB_lt (l := l) (m := m) (c := c) htx h1 h2 k hq
      unfold kB
      cases h3 : kp l m c x k with
      | true => rw [kp_mono htx h3, if_pos rfl, if_pos rfl]; exact ih
      | false => cases h4 : kp l m c t k <;> simp <;> omega
    · have e : q = k := by omega
      subst e
      have ih := (kB_le (l := l) (m := m) (c := c) htx q).1
      unfold kB
      rw [h1, h2, if_pos rfl, if_neg (by simp)]
      simp; omega
theorem nst_spec {l : List Kp} {m : List Im} {c : List Int} {t : Int} : ∀ k, ((nst l m c t k).2 = true → t < (nst l m c t k).1 ∧ ∃ q, q < k ∧ (unt l (ix m q) (ix c q)).2 = 0 ∧ (unt l (ix m q) (ix c q)).1 = (nst l m c t k).1) ∧ ∀ q, q < k → (unt l (ix m q) (ix c q)).2 = 0 → t < (unt l (ix m q) (ix c q)).1 → (nst l m c t k).2 = true ∧ (nst l m c t k).1 ≤ (unt l (ix m q) (ix c q)).1
  | 0 => ⟨fun h => (by cases h), fun q h => by omega⟩
  | k + 1 => by
    obtain ⟨i1, i2⟩ := nst_spec (l := l) (m := m) (c := c) (t := t) k
    unfold nst
    split
    · rename_i h
      simp only [Bool.and_eq_true, Bool.or_eq_true, beq_iff_eq, decide_eq_true_eq, Bool.not_eq_true'] at h
      obtain ⟨⟨h1, h2⟩, h3⟩ := h
      refine ⟨fun _ => ⟨h2, k, by omega, h1, rfl⟩, fun q hq e1 e2 => ⟨rfl, ?_⟩⟩
      rcases Nat.lt_succ_iff_lt_or_eq.1 hq with hq | hq
      · have := i2 q hq e1 e2
        rcases h3 with h3 | h3
        · rw [this.1] at h3; cases h3
        · show _ ≤ _; omega
      · subst hq; exact Int.le_refl _
    · rename_i h
      refine ⟨fun h' => ?_, fun q hq e1 e2 => ?_⟩
      · obtain ⟨j1, q, j2, j3, j4⟩ := i1 h'
        exact ⟨j1, q, by omega, j3, j4⟩
      · rcases Nat.lt_succ_iff_lt_or_eq.1 hq with hq | hq
        · exact i2 q hq e1 e2
        · subst hq
          simp only [Bool.and_eq_true, Bool.or_eq_true, beq_iff_eq, decide_eq_true_eq, Bool.not_eq_true', not_and, not_or] at h
          have := h ⟨e1, e2⟩
          cases h2 : (nst l m c t q).2 with
          | false => exact absurd h2 this.1
          | true => exact ⟨rfl, by have := this.2; omega⟩
theorem nxt_eq {l : List Kp} {m : List Im} {c : List Int} {t : Int} (h : PZ l m c t) : nxt l m c t = nst l m c t m.length := by
  unfold nxt; rw [h.ha, h.hb]; rfl
theorem nxt_gt {l : List Kp} {m : List Im} {c : List Int} {t : Int} (h : PZ l m c t) (ho : (nxt l m c t).2 = true) : t < (nxt l m c t).1 := by
  rw [nxt_eq h] at ho ⊢
  exact ((nst_spec m.length).1 ho).1
theorem purge_later {l : List Kp} {m : List Im} {c : List Int} {t x : Int} (h : PZ l m c t) (h1 : t ≤ x) (h2 : x < 68719476736) : PZ l m c x := h.at (by have := isT_t h.hc; simp [isT]; omega)
theorem next_same {l : List Kp} {m : List Im} {c : List Int} {t x : Int} (h : PZ l m c t) (h1 : t ≤ x) (h2 : x < 68719476736) (h3 : (nxt l m c t).2 = true → x < (nxt l m c t).1) : (purge l m c x).2 = 0 ∧ (purge l m c t).1.2 = (purge l m c x).1.2 := by
  have hx := purge_later h h1 h2
  rw [hx.eq, h.eq]
  refine ⟨rfl, ?_⟩
  rw [nxt_eq h] at h3
  have hs := nst_spec (l := l) (m := m) (c := c) (t := t) m.length
  exact (kB_eq m.length (fun q hq => by
    cases hk : kp l m c x q with
    | true => exact (kp_mono h1 hk).symm
    | false =>
      cases hk2 : kp l m c t q with
      | false => rfl
      | true =>
        obtain ⟨d1, d2, d3⟩ := kp_diff hk2 hk
        obtain ⟨e1, e2⟩ := hs.2 q hq d1 d2
        have := h3 e1
        omega)).1.symm
theorem next_more {l : List Kp} {m : List Im} {c : List Int} {t : Int} (h : PZ l m c t) (ho : (nxt l m c t).2 = true) (h2 : (nxt l m c t).1 < 68719476736) : (purge l m c (nxt l m c t).1).2 = 0 ∧ (purge l m c t).1.2.length < (purge l m c (nxt l m c t).1).1.2.length := by
  have hg := nxt_gt h ho
  have hx := purge_later h (by omega) h2
  rw [hx.eq, h.eq]
  refine ⟨rfl, ?_⟩
  rw [nxt_eq h] at ho hg ⊢
  obtain ⟨j1, q, j2, j3, j4⟩ := (nst_spec m.length).1 ho
  refine kB_lt (by omega) (q := q) ?_ ?_ m.length j2
  · unfold kp; rw [j3]; simp; rw [j4]; exact j1
  · unfold kp; rw [j3, j4]; simp
theorem texts_eq {a b : List ByteArray} (h : a = b) (hl : a.length ≤ 1000) : Ctr Try.prog 20 [.sl 1 (List.map rS a), .sl 1 (List.map rS b)] (.d (.fl (.bool true))) := by subst h; exact texts_self a hl
theorem same_eq {a b : List Im} (h : a = b) (hl : a.length ≤ 1000) (hb : ∀ q, q < a.length → (ix a q).hold.length ≤ 1000) : Ctr Try.prog 19 [.sl 5 (List.map eIm a), .sl 5 (List.map eIm b)] (.d (.fl (.bool true))) := by subst h; exact same_self a hl hb
theorem bne_z {a : Int} (h : a = 0) : (a != 0) = false := by rw [h]; rfl
theorem dle_f {a b : Int} (h : b < a) : decide (a ≤ b) = false := decide_eq_false (by omega)

end Go.Proofs.Yteplcjhnmmpicaa.Wk
