/- Plain mathematics of trees: the levels, and the root. No condition. -/
import Derived.Test.YtbhdghopdhehdaaUmath
import Derived.WalkKit
set_option linter.unusedSimpArgs false
set_option linter.unusedVariables false
namespace Go.Proofs.Ytbhdghopdhehdaa.Mt
theorem ab_le {n : Nat} (h : 1 < n) : ab n + 1 ≤ n := by unfold ab; omega
theorem ab_pos {n : Nat} (h : 1 ≤ n) : 1 ≤ ab n := by unfold ab; omega
theorem ab_top (n : Nat) : ab n ≤ n := by unfold ab; omega
theorem ht_le (n : Nat) : ht n ≤ n := by
  induction n using Nat.strongRecOn with
  | _ n ih =>
    rcases Nat.lt_or_ge 1 n with h | h
    · have h1 := ab_le h
      have := ih (ab n) (by omega)
      rw [ht_more h]; omega
    · rw [ht_one h]; omega
/-- the nodes of level k -/
def abn (n : Nat) : Nat → Nat
  | 0 => n
  | k + 1 => ab (abn n k)
theorem abn_next (n k : Nat) : abn n (k + 1) = ab (abn n k) := rfl
theorem abn_le (n k : Nat) : abn n k ≤ n := by
  induction k with
  | zero => exact Nat.le_refl _
  | succ k ih => exact Nat.le_trans (ab_top _) ih
theorem abn_pos {n : Nat} (h : 1 ≤ n) (k : Nat) : 1 ≤ abn n k := by
  induction k with
  | zero => exact h
  | succ k ih => exact ab_pos ih
theorem ht_left {n : Nat} : ∀ {k : Nat}, k ≤ ht n → ht (abn n k) = ht n - k := by
  intro k
  induction k with
  | zero => intro _; rfl
  | succ k ih =>
    intro h
    have h1 := ih (by omega)
    have h2 : 1 < abn n k := by
      rcases Nat.lt_or_ge 1 (abn n k) with h3 | h3
      · exact h3
      · rw [ht_one h3] at h1; omega
    have h3 := ht_more h2
    rw [abn_next]; omega
theorem abn_more {n k : Nat} (h : k < ht n) : 1 < abn n k := by
  have h1 := ht_left (n := n) (k := k) (by omega)
  rcases Nat.lt_or_ge 1 (abn n k) with h3 | h3
  · exact h3
  · rw [ht_one h3] at h1; omega
theorem abn_one {n k : Nat} (h0 : 1 ≤ n) (h : k ≤ ht n) (h2 : ht n ≤ k) : abn n k = 1 := by
  have h1 := ht_left h
  have h3 := abn_pos h0 k
  rcases Nat.lt_or_ge 1 (abn n k) with h4 | h4
  · rw [ht_more h4] at h1; omega
  · omega
theorem abn_end {n k : Nat} (h : k ≤ ht n) (h2 : ¬ 1 < abn n k) : k = ht n := by
  rcases Nat.lt_or_ge k (ht n) with h3 | h3
  · exact absurd (abn_more h3) h2
  · omega
def upn (l : List Int) : Nat → List Int
  | 0 => l
  | k + 1 => upS (upn l k)
theorem upn_len (l : List Int) (k : Nat) : (upn l k).length = abn l.length k := by
  induction k with
  | zero => rfl
  | succ k ih => rw [upn, up_len, ih, abn_next]
def rootS (l : List Int) : Int := if l.length = 0 then 0 else iat (upn l (ht l.length)) 0
theorem root_some {l : List Int} {n k : Nat} (hl : l.length = n) (h : 1 ≤ n) (hk : k = ht n) : rootS l = iat (upn l k) 0 := by
  subst hl hk; rw [rootS, if_neg (by omega)]
def lenv : Value → Nat
  | .slice _ n _ => n
  | _ => 0
end Go.Proofs.Ytbhdghopdhehdaa.Mt
