/- Names by their bytes. No condition. -/
import Derived.Test.YtaecdkhpidligaaR9
set_option linter.unusedSimpArgs false
set_option linter.unusedVariables false
namespace Go.Proofs.Ytaecdkhpidligaa.Wr
open Go Go.RowKit Go.Proofs.Ytaecdkhpidligaa.Av Go.Proofs.Ytaecdkhpidligaa.Wk
def lo (c : Nat) : Bool := decide (97 ≤ c) && decide (c ≤ 122)
def nc (c : Nat) : Bool := lo c || (decide (48 ≤ c) && decide (c ≤ 57)) || c == 45
def isN (s : ByteArray) : Bool := decide (1 ≤ s.size) && decide (s.size ≤ 12) && lo (bt s 0).toNat && (List.range s.size).all fun q => nc (bt s q).toNat
theorem isN_no0 {s : ByteArray} (h : s.size < 1 ∨ 12 < s.size ∨ lo (bt s 0).toNat = false) : isN s = false := by
  unfold isN
  rcases h with h | h | h
  · simp; omega
  · simp; omega
  · simp [h]
theorem isN_no {s : ByteArray} {k : Nat} (hk : k < s.size) (h : nc (bt s k).toNat = false) : isN s = false := by
  unfold isN
  rw [Bool.and_eq_false_iff]
  right
  rw [List.all_eq_false]
  exact ⟨k, by simpa using hk, by simp [h]⟩
theorem isN_yes {s : ByteArray} (h1 : 1 ≤ s.size) (h2 : s.size ≤ 12) (h3 : lo (bt s 0).toNat = true) (h : ∀ q, q < s.size → nc (bt s q).toNat = true) : isN s = true := by
  unfold isN
  simp only [Bool.and_eq_true, decide_eq_true_eq, List.all_eq_true, List.mem_range]
  exact ⟨⟨⟨h1, h2⟩, h3⟩, h⟩
theorem lo_iff {c : Nat} : lo c = true ↔ 97 ≤ c ∧ c ≤ 122 := by simp [lo]
theorem nc_iff {c : Nat} : nc c = true ↔ (97 ≤ c ∧ c ≤ 122) ∨ (48 ≤ c ∧ c ≤ 57) ∨ c = 45 := by simp [nc, lo, or_assoc]
theorem lo_f {c : Nat} (h : ¬ (97 ≤ c ∧ c ≤ 122)) : lo c = false := by
  cases hc : lo c with
  | false => rfl
  | true => exact absurd (lo_iff.1 hc) h
theorem nc_f {c : Nat} (h : ¬ ((97 ≤ c ∧ c ≤ 122) ∨ (48 ≤ c ∧ c ≤ 57) ∨ c = 45)) : nc c = false := by
  cases hc : nc c with
  | false => rfl
  | true => exact absurd (nc_iff.1 hc) h
theorem seq0 {s : ByteArray} : sEq s ⟨#[]⟩ = decide (s.size = 0) := by
  unfold sEq
  by_cases h : s.size = 0
  · have : s = ⟨#[]⟩ := by
      cases s; congr 1; exact Array.eq_empty_of_size_eq_zero h
    rw [decide_eq_true this, decide_eq_true h]
  · have : s ≠ ⟨#[]⟩ := fun e => by subst e; exact h rfl
    rw [decide_eq_false this, decide_eq_false h]

end Go.Proofs.Ytaecdkhpidligaa.Wr
