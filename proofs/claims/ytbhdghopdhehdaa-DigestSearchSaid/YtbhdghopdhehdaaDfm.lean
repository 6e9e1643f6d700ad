/- Which leaves differ: the layer and its reference. Conditions: both slices read as 64-bit numbers; no more than 4096 of them. -/
import Derived.Test.YtbhdghopdhehdaaCp
set_option linter.unusedSimpArgs false
set_option linter.unusedVariables false
namespace Go.Proofs.Ytbhdghopdhehdaa.Mt
def rng (n : Nat) : List Int := (List.range n).map fun (i : Nat) => (i : Int)
theorem rng_len (n : Nat) : (rng n).length = n := by simp [rng]
theorem rng_next (n : Nat) : rng (n + 1) = rng n ++ [(n : Int)] := by simp [rng, List.range_succ]
def fil (n k : Nat) : List Int := (List.range n).map fun (i : Nat) => if i < k then (i : Int) else 0
theorem fil_len (n k : Nat) : (fil n k).length = n := by simp [fil]
theorem fil_zero (n : Nat) : fil n 0 = List.replicate n 0 := by
  apply List.ext_getElem
  · simp [fil]
  · intro i h1 h2; simp [fil]
theorem fil_all (n : Nat) : fil n n = rng n := by
  apply List.ext_getElem
  · simp [fil, rng]
  · intro i h1 h2
    have : i < n := by simpa [fil] using h1
    simp [fil, rng, this]
theorem fil_set {n k : Nat} (h : k < n) : (fil n k).set k (k : Int) = fil n (k + 1) := by
  apply List.ext_getElem
  · simp [fil]
  · intro i h1 h2
    rw [List.getElem_set]
    simp only [fil, List.getElem_map, List.getElem_range]
    by_cases e : k = i
    · subst e; rw [if_pos rfl, if_pos (by omega)]
    · rw [if_neg e]
      by_cases h3 : i < k
      · rw [if_pos h3, if_pos (by omega)]
      · rw [if_neg h3, if_neg (by omega)]
def dfS (a b : List Int) : List Int × Nat := if ¬ a.length = b.length then (rng (max a.length b.length), 0) else if a.length = 0 then ([], 0) else dv a b (ht a.length) 0 ([], 0)
theorem rng_in (n : Nat) : ∀ x ∈ rng n, 0 ≤ x ∧ x < n := by
  intro x hx
  simp only [rng, List.mem_map, List.mem_range] at hx
  obtain ⟨i, hi, rfl⟩ := hx
  omega
theorem df_in {a b : List Int} (h1 : a.length ≤ 4096) (h2 : b.length ≤ 4096) : ∀ x ∈ (dfS a b).1, 0 ≤ x ∧ x < 4096 := by
  intro x hx
  unfold dfS at hx
  split at hx
  · have := rng_in _ x hx; omega
  · split at hx
    · simp at hx
    · have h3 : 1 ≤ a.length := by omega
      have := dv_in a b _ _ _ (by have := abn_pos h3 (ht a.length); omega) (by simp) x hx
      omega
theorem ht_log : ∀ (j n : Nat), n ≤ 2 ^ j → ht n ≤ j := by
  intro j
  induction j with
  | zero => intro n h; rw [ht_one (by simpa using h)]; exact Nat.le_refl _
  | succ j ih =>
    intro n h
    rw [Nat.pow_succ] at h
    rcases Nat.lt_or_ge 1 n with h1 | h1
    · rw [ht_more h1]
      have := ih (ab n) (by unfold ab; omega)
      omega
    · rw [ht_one h1]; omega
theorem ht_12 {n : Nat} (h : n ≤ 4096) : ht n ≤ 12 := ht_log 12 n h
theorem pow_13 {k : Nat} (h : k ≤ 12) : 2 ^ k ≤ 4096 ∧ 2 ^ (k + 1) ≤ 8192 := ⟨Nat.le_trans (Nat.pow_le_pow_right (by omega) h) (by decide), Nat.le_trans (Nat.pow_le_pow_right (by omega) (show k + 1 ≤ 13 by omega)) (by decide)⟩
end Go.Proofs.Ytbhdghopdhehdaa.Mt
