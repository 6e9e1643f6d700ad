/- Parts. No condition. -/
import Derived.Test.YteplcjhnmmpicaaAv20
import Derived.Test.YteplcjhnmmpicaaLawC
set_option linter.unusedSimpArgs false
set_option linter.unusedVariables false
namespace Go.Proofs.Yteplcjhnmmpicaa.Wk
open Go Go.RowKit Go.Proofs.Yteplcjhnmmpicaa.Av
theorem take_oneI {α : Type} [Inhabited α] {L : List α} {k : Nat} (h : k < L.length) : (L.drop k).take (((k : Int) + 1).toNat - k) = [ix L k] := by
  rw [show ((k : Int) + 1).toNat = k + 1 by omega]; exact take_one h
theorem kA_succ {l : List Kp} {m : List Im} {c : List Int} {t : Int} (n : Nat) : kA l m c t (n + 1) = if kp l m c t n = true then kA l m c t n ++ [ix m n] else kA l m c t n := rfl
theorem kB_succ {l : List Kp} {m : List Im} {c : List Int} {t : Int} (n : Nat) : kB l m c t (n + 1) = if kp l m c t n = true then kB l m c t n else kB l m c t n ++ [(ix m n).id] := rfl
theorem kA_pre {l : List Kp} {m : List Im} {c : List Int} {t : Int} {k : Nat} : ∀ n, k < n → kp l m c t k = true → ∃ r, kA l m c t n = kA l m c t k ++ ix m k :: r
  | 0, h, _ => by omega
  | n + 1, h, hk => by
    rcases Nat.lt_succ_iff_lt_or_eq.1 h with h | h
    · obtain ⟨r, hr⟩ := kA_pre n h hk
      rw [kA_succ]
      split
      · exact ⟨r ++ [ix m n], by rw [hr]; simp⟩
      · exact ⟨r, hr⟩
    · subst h
      exact ⟨[], (kA_yes hk).symm⟩
theorem kB_pre {l : List Kp} {m : List Im} {c : List Int} {t : Int} {k : Nat} : ∀ n, k < n → kp l m c t k = false → ∃ r, kB l m c t n = kB l m c t k ++ (ix m k).id :: r
  | 0, h, _ => by omega
  | n + 1, h, hk => by
    rcases Nat.lt_succ_iff_lt_or_eq.1 h with h | h
    · obtain ⟨r, hr⟩ := kB_pre n h hk
      rw [kB_succ]
      split
      · exact ⟨r, hr⟩
      · exact ⟨r ++ [(ix m n).id], by rw [hr]; simp⟩
    · subst h
      exact ⟨[], (kB_no hk).symm⟩
theorem ix_app {α : Type} [Inhabited α] {a r : List α} {x : α} : ix (a ++ x :: r) a.length = x := by simp [ix]
theorem kAB_len {l : List Kp} {m : List Im} {c : List Int} {t : Int} : ∀ k, (kA l m c t k).length + (kB l m c t k).length = k
  | 0 => rfl
  | k + 1 => by
    have ih := kAB_len (l := l) (m := m) (c := c) (t := t) k
    rw [kA_succ, kB_succ]
    split <;> simp <;> omega
theorem unt_zero {l : List Kp} {im : Im} {c : Int} (h : (unt l im c).2 = 0) : im.hold.length = 0 ∧ 0 ≤ c := by
  unfold unt at h
  split at h
  · rename_i h1
    have h' : ck l = 0 := h
    rw [h'] at h1; cases h1
  · split at h
    · cases h
    · rename_i h2
      split at h
      · cases h
      · split at h
        · cases h
        · rename_i h3
          split at h
          · cases h
          · rename_i h4
            simp at h2 h3 h4
            obtain ⟨h5, h6⟩ := h2
            refine ⟨by simp [h3], ?_⟩
            cases hc : isT c with
            | true => exact (isT_t hc).1
            | false => exact absurd (h6 hc) h4
theorem part_gone {l : List Kp} {m : List Im} {c : List Int} {t : Int} (h : PZ l m c t) {k : Nat} (hk : k < m.length) (h0 : (unt l (ix m k) (ix c k)).2 = 0) (h1 : (unt l (ix m k) (ix c k)).1 ≤ t) : kp l m c t k = false ∧ (ix m k).hold.length = 0 ∧ 0 ≤ ix c k ∧ (kB l m c t k).length < (purge l m c t).1.2.length ∧ ix (purge l m c t).1.2 (kB l m c t k).length = (ix m k).id := by
  have hkp : kp l m c t k = false := by
    unfold kp; rw [h0]; simp; omega
  obtain ⟨r, hr⟩ := kB_pre m.length hk hkp
  rw [h.eq]
  show _ ∧ _ ∧ _ ∧ _ < (kB l m c t m.length).length ∧ ix (kB l m c t m.length) _ = _
  rw [hr]
  exact ⟨hkp, (unt_zero h0).1, (unt_zero h0).2, by simp, ix_app⟩
theorem part_kept {l : List Kp} {m : List Im} {c : List Int} {t : Int} (h : PZ l m c t) {k : Nat} (hk : k < m.length) (h0 : (unt l (ix m k) (ix c k)).2 ≠ 0 ∨ t < (unt l (ix m k) (ix c k)).1) : kp l m c t k = true ∧ (kA l m c t k).length < (purge l m c t).1.1.length ∧ ix (purge l m c t).1.1 (kA l m c t k).length = ix m k := by
  have hkp : kp l m c t k = true := by
    unfold kp
    rcases er_two (h.e k hk) with e | e | e
    · rw [e]; rfl
    · rw [e]; rfl
    · rcases h0 with h0 | h0
      · exact absurd e h0
      · rw [e]; simp; exact h0
  obtain ⟨r, hr⟩ := kA_pre m.length hk hkp
  rw [h.eq]
  show _ ∧ _ < (kA l m c t m.length).length ∧ ix (kA l m c t m.length) _ = _
  rw [hr]
  exact ⟨hkp, by simp, ix_app⟩
theorem part_later {l : List Kp} {m : List Im} {c : List Int} {t : Int} {x : Int} (h : PZ l m c t) (h1 : t ≤ x) (h2 : x < 68719476736) : (purge l m c x).2 = 0 ∧ (purge l m c t).1.2.length ≤ (purge l m c x).1.2.length ∧ (purge l m c x).1.1.length ≤ (purge l m c t).1.1.length := by
  have hx := purge_later h h1 h2
  rw [hx.eq, h.eq]
  exact ⟨rfl, kB_le h1 m.length⟩
theorem part_len {l : List Kp} {m : List Im} {c : List Int} {t : Int} (h : PZ l m c t) : (purge l m c t).1.1.length + (purge l m c t).1.2.length = m.length := by
  rw [h.eq]; exact kAB_len m.length
theorem purge_bad {l : List Kp} {m : List Im} {c : List Int} {t : Int} (h : (purge l m c t).2 ≠ 0) : (purge l m c t).1.1.length = 0 ∧ (purge l m c t).1.2.length = 0 := by
  unfold purge at h ⊢
  split
  · exact ⟨rfl, rfl⟩
  · rename_i h1
    rw [if_neg h1] at h
    split
    · exact ⟨rfl, rfl⟩
    · rename_i h2
      rw [if_neg h2] at h
      split
      · exact ⟨rfl, rfl⟩
      · rename_i h3
        rw [if_neg h3] at h
        split
        · rename_i h4
          rw [if_pos h4] at h
          exact absurd rfl h
        · exact ⟨rfl, rfl⟩
theorem kA_up {l : List Kp} {m : List Im} {c : List Int} {t : Int} {k : Nat} (h : kp l m c t k = true) : (kA l m c t (k + 1)).length = (kA l m c t k).length + 1 ∧ (kB l m c t (k + 1)).length = (kB l m c t k).length := by
  rw [← kA_yes h, ← kB_yes h]; simp
theorem kB_up {l : List Kp} {m : List Im} {c : List Int} {t : Int} {k : Nat} (h : kp l m c t k = false) : (kA l m c t (k + 1)).length = (kA l m c t k).length ∧ (kB l m c t (k + 1)).length = (kB l m c t k).length + 1 := by
  rw [← kA_no h, ← kB_no h]; simp

end Go.Proofs.Yteplcjhnmmpicaa.Wk
