/- Plain mathematics of trees: how many nodes are above, how high a tree is, the level above. No condition. -/
import Derived.Test.YtbhdghopdhehdaaMath
set_option linter.unusedSimpArgs false
set_option linter.unusedVariables false
namespace Go.Proofs.Ytbhdghopdhehdaa.Mt
def ab (n : Nat) : Nat := n / 2 + n % 2
def ht (n : Nat) : Nat := if n ≤ 1 then 0 else ht (ab n) + 1
termination_by n
decreasing_by unfold ab; omega
theorem ht_one {n : Nat} (h : n ≤ 1) : ht n = 0 := by rw [ht, if_pos h]
theorem ht_more {n : Nat} (h : 1 < n) : ht n = ht (ab n) + 1 := by rw [ht, if_neg (by omega)]
/-- the joins of the first k pairs -/
def pr (l : List Int) (k : Nat) : List Int := (List.range k).map fun i => jn (iat l (2 * i)) (iat l (2 * i + 1))
theorem pr_next (l : List Int) (k : Nat) : pr l (k + 1) = pr l k ++ [jn (iat l (2 * k)) (iat l (2 * k + 1))] := by simp [pr, List.range_succ]
theorem pr_len (l : List Int) (k : Nat) : (pr l k).length = k := by simp [pr]
def upS (l : List Int) : List Int := if l.length % 2 = 1 then pr l (l.length / 2) ++ [iat l (l.length - 1)] else pr l (l.length / 2)
theorem up_odd {l : List Int} (h : l.length % 2 = 1) : upS l = pr l (l.length / 2) ++ [iat l (l.length - 1)] := by rw [upS, if_pos h]
theorem up_even {l : List Int} (h : ¬ l.length % 2 = 1) : upS l = pr l (l.length / 2) := by rw [upS, if_neg h]
theorem up_len (l : List Int) : (upS l).length = ab l.length := by
  unfold upS ab
  split <;> simp [pr_len] <;> omega
/-- what the reference has behind k rounds -/
def upk (l : List Int) (k : Nat) : List Int := if 2 * k ≤ l.length then pr l k else upS l
theorem upk_zero (l : List Int) : upk l 0 = [] := by rw [upk, if_pos (by omega)]; rfl
theorem upk_len {l : List Int} {k : Nat} (h : 2 * k ≤ l.length) : (upk l k).length = k := by rw [upk, if_pos h, pr_len]
theorem upk_pair {l : List Int} {k : Nat} (h : 2 * k + 1 < l.length) : upk l (k + 1) = upk l k ++ [jn (iat l (2 * k)) (iat l (2 * k + 1))] := by
  rw [upk, if_pos (by omega), upk, if_pos (by omega), pr_next]
theorem upk_last {l : List Int} {k : Nat} (h : 2 * k + 1 = l.length) : upk l (k + 1) = upk l k ++ [iat l (l.length - 1)] := by
  have e : l.length / 2 = k := by omega
  rw [upk, if_neg (by omega), upk, if_pos (by omega), up_odd (by omega), e]
theorem upk_end {l : List Int} {k : Nat} (h : l.length ≤ 2 * k ∧ 2 * k ≤ l.length + 1) : upS l = upk l k := by
  unfold upk
  split
  · have e : l.length / 2 = k := by omega
    rw [up_even (by omega), e]
  · rfl
def U64 (l : List Int) : Prop := ∀ i, 0 ≤ iat l i ∧ iat l i ≤ 18446744073709551615
theorem u64_mem {l : List Int} (h : ∀ x ∈ l, 0 ≤ x ∧ x ≤ 18446744073709551615) : U64 l := by
  intro i
  unfold iat
  by_cases hi : i < l.length
  · rw [List.getD_eq_getElem?_getD, List.getElem?_eq_getElem hi]; exact h _ (List.getElem_mem hi)
  · rw [List.getD_eq_getElem?_getD, List.getElem?_eq_none (by omega)]; simp
theorem pr_in (l : List Int) (k : Nat) : ∀ x ∈ pr l k, 0 ≤ x ∧ x ≤ 18446744073709551615 := by
  intro x hx
  unfold pr at hx
  obtain ⟨i, _, rfl⟩ := List.mem_map.1 hx
  exact jn_in _ _
theorem up_in {l : List Int} (h : U64 l) : U64 (upS l) := by
  refine u64_mem fun x hx => ?_
  unfold upS at hx
  split at hx
  · rcases List.mem_append.1 hx with h1 | h1
    · exact pr_in _ _ x h1
    · have : x = iat l (l.length - 1) := by simpa using h1
      rw [this]; exact h _
  · exact pr_in _ _ x hx
end Go.Proofs.Ytbhdghopdhehdaa.Mt
