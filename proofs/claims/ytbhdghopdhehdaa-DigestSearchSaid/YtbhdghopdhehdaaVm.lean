/- Plain mathematics: each leaf is accepted with its proof, and not with one more or one less. No condition. -/
import Derived.Test.YtbhdghopdhehdaaVf
import Derived.Test.YtbhdghopdhehdaaDmath
set_option linter.unusedSimpArgs false
set_option linter.unusedVariables false
namespace Go.Proofs.Ytbhdghopdhehdaa.Mt
theorem iat_app {a b : List Int} {j : Nat} (h : j < a.length) : iat (a ++ b) j = iat a j := by
  unfold iat; rw [List.getD_eq_getElem?_getD, List.getD_eq_getElem?_getD, List.getElem?_append_left h]
theorem iat_end (a : List Int) (x : Int) : iat (a ++ [x]) a.length = x := by
  unfold iat; rw [List.getD_eq_getElem?_getD, List.getElem?_append_right (Nat.le_refl _)]; simp
theorem iat_pr {l : List Int} {k q : Nat} (h : q < k) : iat (pr l k) q = jn (iat l (2 * q)) (iat l (2 * q + 1)) := by
  show (pr l k).getD q 0 = _
  rw [List.getD_eq_getElem?_getD]
  simp [pr, h]
theorem iat_up {l : List Int} {q : Nat} (h : 2 * q + 1 < l.length) : iat (upS l) q = jn (iat l (2 * q)) (iat l (2 * q + 1)) := by
  by_cases ho : l.length % 2 = 1
  · rw [up_odd ho, iat_app (by rw [pr_len]; omega), iat_pr (by omega)]
  · rw [up_even ho, iat_pr (by omega)]
theorem pf_pre (l : List Int) (i k : Nat) : ∀ d, ∃ r, pfk l i (k + d) = pfk l i k ++ r := by
  intro d
  induction d with
  | zero => exact ⟨[], by simp⟩
  | succ d ih =>
    obtain ⟨r, hr⟩ := ih
    rw [← Nat.add_assoc, pfk]
    split
    · exact ⟨r ++ _, by rw [hr, List.append_assoc]⟩
    · split
      · exact ⟨r ++ _, by rw [hr, List.append_assoc]⟩
      · exact ⟨r, hr⟩
theorem pf_at {l : List Int} {i k K j : Nat} (h : k ≤ K) (hj : j < (pfk l i k).length) : iat (pfk l i K) j = iat (pfk l i k) j := by
  obtain ⟨r, hr⟩ := pf_pre l i k (K - k)
  rw [show K = k + (K - k) by omega, hr, iat_app hj]
theorem pf_mono {l : List Int} {i k K : Nat} (h : k ≤ K) : (pfk l i k).length ≤ (pfk l i K).length := by
  obtain ⟨r, hr⟩ := pf_pre l i k (K - k)
  rw [show K = k + (K - k) by omega, hr]; simp
/-- what is left of a proof that begins as the leaf's own does -/
theorem vs_all {l q : List Int} {n i : Nat} (hl : l.length = n) (hi : i < n) (hq : ∀ j, j < q.length → j < (pfk l i (ht n)).length → iat q j = iat (pfk l i (ht n)) j) :
    ∀ k, k ≤ ht n → vs q (iat l i) i n k = if (pfk l i k).length ≤ q.length then some (iat (upn l k) (ix i k), (pfk l i k).length) else none := by
  intro k
  induction k with
  | zero => intro _; simp [vs, pfk, upn, ix]
  | succ k ih =>
    intro hk
    have ih := ih (by omega)
    have hj := ix_lt hi k
    have hul : (upn l k).length = abn n k := by rw [upn_len, hl]
    by_cases h0 : (pfk l i k).length ≤ q.length
    · rw [if_pos h0] at ih
      by_cases ho : ix i k % 2 = 1
      · have e := pf_odd (l := l) ho
        have en : iat (upn l (k + 1)) (ix i (k + 1)) = jn (iat (upn l k) (ix i k - 1)) (iat (upn l k) (ix i k)) := by
          rw [upn, ix_next, iat_up (by rw [hul]; omega)]
          rw [show 2 * (ix i k / 2) = ix i k - 1 by omega, show ix i k - 1 + 1 = ix i k by omega]
        have el : (pfk l i (k + 1)).length = (pfk l i k).length + 1 := by rw [e]; simp
        by_cases h1 : (pfk l i k).length < q.length
        · have ea : iat q (pfk l i k).length = iat (upn l k) (ix i k - 1) := by
            rw [hq _ h1 (by have := pf_mono (l := l) (i := i) hk; omega), pf_at hk (by omega), e, iat_end]
          rw [vs_odd ih ho h1, if_pos (by omega), en, ea, el]
        · rw [vs_empty ih (.inl ho) h1, if_neg (by omega)]
      · by_cases h2 : ix i k + 1 < abn n k
        · have e := pf_even (l := l) ho (by rw [hl]; exact h2)
          have en : iat (upn l (k + 1)) (ix i (k + 1)) = jn (iat (upn l k) (ix i k)) (iat (upn l k) (ix i k + 1)) := by
            rw [upn, ix_next, iat_up (by rw [hul]; omega)]
            rw [show 2 * (ix i k / 2) = ix i k by omega]
          have el : (pfk l i (k + 1)).length = (pfk l i k).length + 1 := by rw [e]; simp
          by_cases h1 : (pfk l i k).length < q.length
          · have ea : iat q (pfk l i k).length = iat (upn l k) (ix i k + 1) := by
              rw [hq _ h1 (by have := pf_mono (l := l) (i := i) hk; omega), pf_at hk (by omega), e, iat_end]
            rw [vs_even ih ho h2 h1, if_pos (by omega), en, ea, el]
          · rw [vs_empty ih (.inr h2) h1, if_neg (by omega)]
        · have e := pf_alone (l := l) ho (by rw [hl]; exact h2)
          have en : iat (upn l (k + 1)) (ix i (k + 1)) = iat (upn l k) (ix i k) := by
            rw [upn, ix_next, up_alone (by rw [hul]; unfold ab; omega) (by rw [hul]; omega)]
            rw [show 2 * (ix i k / 2) = ix i k by omega]
          rw [vs_alone ih ho h2, e, en, if_pos h0]
    · rw [if_neg h0] at ih
      have := vs_none ih 1
      rw [this, if_neg (by have := pf_mono (l := l) (i := i) (show k ≤ k + 1 by omega); omega)]
theorem ix_root {n i : Nat} (hi : i < n) : ix i (ht n) = 0 := by
  have h1 := ix_lt hi (ht n)
  have h2 := abn_one (show 1 ≤ n by omega) (Nat.le_refl _) (Nat.le_refl _)
  omega
section
variable {l : List Int} {n i : Nat}
theorem prove_yes (hl : l.length = n) (hi : i < n) : vfS (rootS l) (iat l i) i n (pfk l i (ht n)) = true := by
  have h := vs_all hl hi (q := pfk l i (ht n)) (fun _ _ _ => rfl) (ht n) (Nat.le_refl _)
  rw [if_pos (Nat.le_refl _), ix_root hi, ← root_some hl (by omega) rfl] at h
  rw [vf_some hi rfl h]
  simp
theorem prove_more (hl : l.length = n) (hi : i < n) (x : Int) : vfS (rootS l) (iat l i) i n (pfk l i (ht n) ++ [x]) = false := by
  have h := vs_all hl hi (q := pfk l i (ht n) ++ [x]) (fun j _ hj => iat_app hj) (ht n) (Nat.le_refl _)
  rw [if_pos (by simp)] at h
  rw [vf_some hi rfl h]
  simp
theorem prove_less (hl : l.length = n) (hi : i < n) (h0 : 0 < (pfk l i (ht n)).length) : vfS (rootS l) (iat l i) i n ((pfk l i (ht n)).take ((pfk l i (ht n)).length - 1)) = false := by
  have h := vs_all hl hi (q := (pfk l i (ht n)).take ((pfk l i (ht n)).length - 1)) (fun j hj _ => by
    have : j < (pfk l i (ht n)).length - 1 := by rw [List.length_take] at hj; omega
    unfold iat
    rw [List.getD_eq_getElem?_getD, List.getD_eq_getElem?_getD, List.getElem?_take, if_pos this]) (ht n) (Nat.le_refl _)
  rw [if_neg (by rw [List.length_take]; omega)] at h
  exact vf_none hi (Nat.le_refl _) h
end
end Go.Proofs.Ytbhdghopdhehdaa.Mt
