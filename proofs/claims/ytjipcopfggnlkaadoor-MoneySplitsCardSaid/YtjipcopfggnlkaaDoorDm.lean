/- Division of two words by one: plain mathematics. No condition. -/
import Derived.Test.YtjipcopfggnlkaaDoorBase
set_option linter.unusedSimpArgs false
set_option linter.unusedVariables false
namespace Go.Proofs.YtjipcopfggnlkaaDoor.Mt
open Go
/-- the step's state: q is not below the true digit; q and r belong together -/
structure Ds (n v1 v0 d q r : Nat) : Prop where
  sum : q * v1 + r = n
  ge : (n * 4294967296 + d) / (v1 * 4294967296 + v0) ≤ q
  le : q ≤ 4294967297
  rl : r < 4294967296
theorem ds_start {n v1 v0 d : Nat} (h1 : 2147483648 ≤ v1) (h1' : v1 < 4294967296) (h0 : v0 < 4294967296) (hd : d < 4294967296) (hn : n < v1 * 4294967296 + v0) : Ds n v1 v0 d (n / v1) (n - n / v1 * v1) := by
  have e := Nat.div_add_mod n v1
  have hm := Nat.mod_lt n (show v1 > 0 by omega)
  rw [Nat.mul_comm] at e
  refine ⟨by omega, ?_, ?_, by omega⟩
  · rw [Nat.div_le_iff_le_mul_add_pred (by omega)]
    have h2 : n < (n / v1 + 1) * v1 := by rw [Nat.add_mul]; omega
    generalize n / v1 = q at *
    have h3 : (n + 1) * 4294967296 ≤ (q + 1) * v1 * 4294967296 := Nat.mul_le_mul_right _ h2
    have h4 : (v1 * 4294967296 + v0) * q = q * v1 * 4294967296 + v0 * q := by rw [Nat.add_mul, Nat.mul_comm (v1 * 4294967296) q, ← Nat.mul_assoc]
    have h5 : (q + 1) * v1 * 4294967296 = q * v1 * 4294967296 + v1 * 4294967296 := by rw [Nat.add_mul, Nat.one_mul, Nat.add_mul]
    rw [h4]
    omega
  · have h2 : n / v1 < 4294967298 := by
      rw [Nat.div_lt_iff_lt_mul (by omega)]
      omega
    omega
theorem ds_more {n v1 v0 d q r : Nat} (h : Ds n v1 v0 d q r) (h0 : v0 < 4294967296) (h1 : 2147483648 ≤ v1) (hd : d < 4294967296) (hn : n < v1 * 4294967296 + v0) (hc : 4294967296 ≤ q ∨ 4294967296 * r + d < q * v0) : (n * 4294967296 + d) / (v1 * 4294967296 + v0) ≤ q - 1 ∧ 1 ≤ q := by
  have hlt : (n * 4294967296 + d) / (v1 * 4294967296 + v0) < q := by
    rw [Nat.div_lt_iff_lt_mul (by omega)]
    rcases hc with hc | hc
    · have h2 : (n + 1) * 4294967296 ≤ (v1 * 4294967296 + v0) * 4294967296 := Nat.mul_le_mul_right _ hn
      have h3 : (v1 * 4294967296 + v0) * 4294967296 ≤ q * (v1 * 4294967296 + v0) := by rw [Nat.mul_comm]; exact Nat.mul_le_mul_right _ hc
      omega
    · have h4 : q * (v1 * 4294967296 + v0) = q * v1 * 4294967296 + q * v0 := by rw [Nat.mul_add, Nat.mul_assoc]
      have := h.sum
      rw [h4]
      omega
  exact ⟨Nat.le_sub_one_of_lt hlt, Nat.lt_of_le_of_lt (Nat.zero_le _) hlt⟩
theorem ds_stop {n v1 v0 d q r : Nat} (h : Ds n v1 v0 d q r) (h0 : v0 < 4294967296) (h1 : 2147483648 ≤ v1) (hc : q * v0 ≤ 4294967296 * r + d) : q = (n * 4294967296 + d) / (v1 * 4294967296 + v0) := by
  have h4 : q * (v1 * 4294967296 + v0) = q * v1 * 4294967296 + q * v0 := by rw [Nat.mul_add, Nat.mul_assoc]
  have hge : q ≤ (n * 4294967296 + d) / (v1 * 4294967296 + v0) := by
    rw [Nat.le_div_iff_mul_le (by omega), h4]
    have := h.sum
    omega
  have := h.ge
  omega
/-- the loop ends by its inner test -/
theorem ds_break {n v1 v0 d q r : Nat} (hs : q * v1 + r = n) (hge : (n * 4294967296 + d) / (v1 * 4294967296 + v0) ≤ q) (hq : q ≤ 4294967296) (h0 : v0 < 4294967296) (h1 : 2147483648 ≤ v1) (hr : 4294967296 ≤ r) : q = (n * 4294967296 + d) / (v1 * 4294967296 + v0) := by
  have h4 : q * (v1 * 4294967296 + v0) = q * v1 * 4294967296 + q * v0 := by rw [Nat.mul_add, Nat.mul_assoc]
  have h5 : q * v0 ≤ 4294967296 * r := Nat.le_trans (Nat.mul_le_mul hq (Nat.le_of_lt h0)) (Nat.mul_le_mul_left _ hr)
  have hle : q ≤ (n * 4294967296 + d) / (v1 * 4294967296 + v0) := by
    rw [Nat.le_div_iff_mul_le (by omega), h4]
    omega
  omega
/-- the second digit's beginning: what is left, and that it fits -/
theorem ds_left {n v d q : Nat} (hv : 0 < v) (hn : n < v) (hd : d < 4294967296) (hq : q = (n * 4294967296 + d) / v) : q < 4294967296 ∧ q * v ≤ n * 4294967296 + d ∧ n * 4294967296 + d - q * v = (n * 4294967296 + d) % v ∧ (n * 4294967296 + d) % v < v := by
  have e := Nat.div_add_mod (n * 4294967296 + d) v
  have hm := Nat.mod_lt (n * 4294967296 + d) hv
  rw [← hq, Nat.mul_comm] at e
  have h2 : (n + 1) * 4294967296 ≤ v * 4294967296 := Nat.mul_le_mul_right _ hn
  refine ⟨?_, by omega, by omega, hm⟩
  rw [hq, Nat.div_lt_iff_lt_mul hv, Nat.mul_comm 4294967296]
  omega
theorem wrap64_sub (a b : Nat) (h : b ≤ a) (ha : a - b < 18446744073709551616) (A B : Int) (hA : A = ((a : Nat) : Int) % 18446744073709551616) (hB : B = ((b : Nat) : Int) % 18446744073709551616) : IntKind.u64.wrap (A - B) = ((a - b : Nat) : Int) := by
  rw [IntKind.wrap_u64]
  omega
set_option maxRecDepth 100000 in
/-- both digits together: the quotient and the remainder of what was divided -/
theorem ds_whole {hi lo y p p' v n32 n10 n1 n0 q1 u q0 : Nat} (hy : 0 < y) (hv : v = y * p) (hpp : p * p' = 18446744073709551616) (hU : (hi * 18446744073709551616 + lo) * p = n32 * 18446744073709551616 + n10) (h1 : n10 = n1 * 4294967296 + n0) (hq1 : n32 * 4294967296 + n1 = q1 * v + u) (hq0 : ∃ r2, u * 4294967296 + n0 = q0 * v + r2 ∧ r2 < v) :
    q1 * 4294967296 + q0 = (hi * 18446744073709551616 + lo) / y ∧ (u * 4294967296 + n0 - q0 * v) / p = (hi * 18446744073709551616 + lo) % y := by
  obtain ⟨r2, e2, hr2⟩ := hq0
  have hp : 0 < p := by
    rcases Nat.eq_zero_or_pos p with h | h
    · rw [h, Nat.zero_mul] at hpp; omega
    · exact h
  obtain ⟨A, hA⟩ : ∃ A, hi * 18446744073709551616 + lo = A := ⟨_, rfl⟩
  rw [hA] at hU ⊢
  have hb : A * p = (q1 * 4294967296 + q0) * v + r2 := by
    have h3 : (q1 * 4294967296 + q0) * v = (q1 * v) * 4294967296 + q0 * v := by rw [Nat.add_mul, Nat.mul_right_comm]
    rw [hU, h1, h3]
    have k : n32 * 18446744073709551616 = n32 * 4294967296 * 4294967296 := by rw [Nat.mul_assoc]
    rw [k, ← Nat.add_assoc, ← Nat.add_mul, hq1, Nat.add_mul, Nat.add_assoc, e2, Nat.add_assoc]
  obtain ⟨Q, hQ⟩ : ∃ Q, q1 * 4294967296 + q0 = Q := ⟨_, rfl⟩
  rw [hQ] at hb ⊢
  have hb2 : A * p = (Q * y) * p + r2 := by rw [hb, hv, Nat.mul_assoc]
  have hle : Q * y ≤ A := by
    rcases Nat.lt_or_ge A (Q * y) with h | h
    · have := Nat.mul_le_mul_right p h
      rw [Nat.succ_mul] at this
      omega
    · exact h
  have hr : r2 = (A - Q * y) * p := by rw [Nat.sub_mul]; omega
  have hlt : A - Q * y < y := by
    rw [hr, hv] at hr2
    exact Nat.lt_of_mul_lt_mul_right hr2
  have hdiv : A / y = Q ∧ A % y = A - Q * y := by
    have h4 : A = (A - Q * y) + y * Q := by rw [Nat.mul_comm y Q]; omega
    constructor
    · rw [h4, Nat.add_mul_div_left _ _ hy, Nat.div_eq_of_lt hlt, Nat.zero_add]
    · rw [h4, Nat.add_mul_mod_self_left, Nat.mod_eq_of_lt hlt, ← h4]
  rw [hdiv.1, hdiv.2]
  refine ⟨rfl, ?_⟩
  rw [show u * 4294967296 + n0 - q0 * v = r2 by omega, hr, Nat.mul_div_cancel _ hp]
set_option maxRecDepth 100000 in
/-- the shift -/
theorem ds_shift {hi lo y p p' : Nat} (hp : 0 < p) (hpp : p * p' = 18446744073709551616) (hlo : lo < 18446744073709551616) (hhi : hi < y) (hyp : y * p < 18446744073709551616) :
    (hi * 18446744073709551616 + lo) * p = (hi * p + lo / p') * 18446744073709551616 + lo * p % 18446744073709551616 ∧ lo / p' < p ∧ hi * p + lo / p' < y * p := by
  have hp' : 0 < p' := by
    rcases Nat.eq_zero_or_pos p' with h | h
    · rw [h, Nat.mul_zero] at hpp; omega
    · exact h
  have h1 : lo / p' < p := by rw [Nat.div_lt_iff_lt_mul hp', hpp]; exact hlo
  have h2 : lo * p / 18446744073709551616 = lo / p' := by rw [← hpp, Nat.mul_comm p p', Nat.mul_div_mul_right _ _ hp]
  refine ⟨?_, h1, ?_⟩
  · have e := Nat.div_add_mod (lo * p) 18446744073709551616
    rw [h2] at e
    rw [Nat.add_mul, Nat.add_mul, Nat.mul_right_comm hi]
    omega
  · have := Nat.mul_le_mul_right p hhi
    rw [Nat.succ_mul] at this
    omega
end Go.Proofs.YtjipcopfggnlkaaDoor.Mt
