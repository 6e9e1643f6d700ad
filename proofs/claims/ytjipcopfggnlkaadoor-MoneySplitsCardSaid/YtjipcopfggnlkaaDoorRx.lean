/- How the roundings and the signs of a ratio lie to each other: plain mathematics. No condition. -/
import Derived.Test.YtjipcopfggnlkaaDoorOp
set_option linter.unusedSimpArgs false
set_option linter.unusedVariables false
namespace Go.Proofs.YtjipcopfggnlkaaDoor.Mt
open Go
/-- the sign on a size -/
def sgn (b : Bool) (q : Nat) : Int := if b then -((q : Nat) : Int) else ((q : Nat) : Int)
theorem sgn_not (b : Bool) (q : Nat) : sgn (!b) q = -sgn b q := by cases b <;> simp [sgn]
theorem m_ok {m : Int} (h : m = 1 ∨ m = 2 ∨ m = 3) : ¬ (m ≠ 1 ∧ m ≠ 2 ∧ m ≠ 3) := by omega
theorem ra_cases {n num den m : Int} (h : fitB n = true) (hm : m = 1 ∨ m = 2 ∨ m = 3) (hd : den ≠ 0) :
    (1125899906842624 < raQ n num den m ∧ raE n num den m = 13 ∧ raV n num den m = 0) ∨ (raQ n num den m ≤ 1125899906842624 ∧ raE n num den m = 0 ∧ raV n num den m = sgn (neB n num den) (raQ n num den m)) := by
  by_cases hq : 1125899906842624 < raQ n num den m
  · have e := ra_big h (m_ok hm) hd hq
    exact .inl ⟨hq, e, ra_no (by rw [e]; decide)⟩
  · exact .inr ⟨by omega, ra_ok h (m_ok hm) hd (by omega)⟩
theorem raQ_one (n num den : Int) : raQ n num den 1 = n.natAbs * num.natAbs / den.natAbs := by unfold raQ awB; simp
theorem raQ_two (n num den : Int) : raQ n num den 2 = raQ n num den 1 ∨ raQ n num den 2 = raQ n num den 1 + 1 := by
  rw [raQ_one]
  unfold raQ
  split <;> omega
theorem raQ_three (n num den : Int) : raQ n num den 3 = raQ n num den 1 ∨ (raQ n num den 3 = raQ n num den 1 + 1 ∧ raQ n num den 2 = raQ n num den 1 + 1) := by
  rw [raQ_one]
  unfold raQ
  generalize n.natAbs * num.natAbs = P
  generalize hD : den.natAbs = D
  by_cases h : awB (P / D) (P % D) D 3 = true
  · right
    rw [if_pos h]
    refine ⟨rfl, ?_⟩
    have h2 : awB (P / D) (P % D) D 2 = true := by
      unfold awB at h ⊢
      simp at h ⊢
      rcases Nat.eq_zero_or_pos D with h0 | h0
      · subst h0
        simp at h ⊢
        omega
      · have := Nat.mod_lt P h0
        omega
    rw [if_pos h2]
  · left
    rw [if_neg h]
    rfl
/-- the three roundings -/
theorem ra_three {n num den : Int} (h : fitB n = true) (hd : den ≠ 0) :
    (raE n num den 1 = 13 ∧ raE n num den 2 = 13 ∧ raE n num den 3 = 13) ∨
    (raE n num den 1 = 0 ∧ fitB (raV n num den 1) = true ∧ (raE n num den 2 = 13 ∨ (raE n num den 2 = 0 ∧ raE n num den 3 = 0 ∧ raV n num den 1 - 1 ≤ raV n num den 2 ∧ raV n num den 2 ≤ raV n num den 1 + 1 ∧ (raV n num den 3 = raV n num den 1 ∨ raV n num den 3 = raV n num den 2)))) := by
  have q2 := raQ_two n num den
  have q3 := raQ_three n num den
  rcases ra_cases (num := num) h (.inl rfl) hd with ⟨a1, a2, a3⟩ | ⟨a1, a2, a3⟩ <;>
  rcases ra_cases (num := num) h (.inr (.inl rfl)) hd with ⟨b1, b2, b3⟩ | ⟨b1, b2, b3⟩ <;>
  rcases ra_cases (num := num) h (.inr (.inr rfl)) hd with ⟨c1, c2, c3⟩ | ⟨c1, c2, c3⟩
  · exact .inl ⟨a2, b2, c2⟩
  · omega
  · omega
  · omega
  · right
    refine ⟨a2, ?_, .inl b2⟩
    rw [a3, fit_iff]; unfold sgn; split <;> omega
  · right
    refine ⟨a2, ?_, .inl b2⟩
    rw [a3, fit_iff]; unfold sgn; split <;> omega
  · omega
  · right
    refine ⟨a2, ?_, .inr ⟨b2, c2, ?_, ?_, ?_⟩⟩
    · rw [a3, fit_iff]; unfold sgn; split <;> omega
    · rw [a3, b3]; unfold sgn; split <;> omega
    · rw [a3, b3]; unfold sgn; split <;> omega
    · rw [a3, b3, c3]
      rcases q3 with e | ⟨e1, e2⟩
      · left; rw [e]
      · right; rw [e1, e2]
theorem sgn_mul (a b : Bool) (p q : Nat) : sgn a p * sgn b q = sgn (a != b) (p * q) := by
  cases a <;> cases b <;> simp [sgn, Int.mul_neg, Int.neg_mul]
theorem sgn_abs (n : Int) : n = sgn (decide (n < 0)) n.natAbs := by
  unfold sgn
  by_cases h : n < 0
  · rw [decide_eq_true h]; simp; omega
  · rw [decide_eq_false h]; simp; omega
theorem sgn_sub (b : Bool) (p q r : Nat) (h : p = q + r) : sgn b p - sgn b q = sgn b r := by
  cases b <;> simp [sgn] <;> omega
/-- what is left over has the product's sign, and is less than the divisor -/
theorem ra_rest {n num den : Int} (h : fitB n = true) (hd : den ≠ 0) (he : raE n num den 1 = 0) :
    n * num - raV n num den 1 * den = sgn (decide (n < 0) != decide (num < 0)) (n.natAbs * num.natAbs % den.natAbs) := by
  rcases ra_cases (num := num) h (.inl rfl) hd with ⟨a1, a2, a3⟩ | ⟨a1, a2, a3⟩
  · rw [a2] at he; exact absurd he (by decide)
  · have e1 : n * num = sgn (decide (n < 0) != decide (num < 0)) (n.natAbs * num.natAbs) := by
      conv => lhs; rw [sgn_abs n, sgn_abs num]
      rw [sgn_mul]
    have e2 : raV n num den 1 * den = sgn (decide (n < 0) != decide (num < 0)) (n.natAbs * num.natAbs / den.natAbs * den.natAbs) := by
      rw [a3]
      conv => lhs; rhs; rw [sgn_abs den]
      rw [sgn_mul, raQ_one]
      congr 1
      unfold neB
      cases decide (n < 0) <;> cases decide (num < 0) <;> cases decide (den < 0) <;> rfl
    rw [e1, e2]
    exact sgn_sub _ _ _ _ (by have := Nat.div_add_mod (n.natAbs * num.natAbs) den.natAbs; rw [Nat.mul_comm] at this; omega)
theorem mul_small {a b : Int} (ha : fitB a = true) (hb : -4096 ≤ b ∧ b ≤ 4096) : -4611686018427387904 ≤ a * b ∧ a * b ≤ 4611686018427387904 := by
  have h := (fit_iff a).1 ha
  have h1 : (a * b).natAbs ≤ 1125899906842624 * 4096 := by
    rw [Int.natAbs_mul]
    exact Nat.mul_le_mul (by omega) (by omega)
  omega
theorem fit_neg {n : Int} (h : fitB n = true) : fitB (-n) = true := by rw [fit_iff] at *; omega
theorem raQ_negs (n num den m : Int) : raQ (-n) num den m = raQ n num den m ∧ raQ n (-num) den m = raQ n num den m ∧ raQ n num (-den) m = raQ n num den m := by
  unfold raQ
  simp [Int.natAbs_neg]
theorem raQ_nil {n num den m : Int} (hd : den ≠ 0) (h : n = 0 ∨ num = 0) : raQ n num den m = 0 := by
  have e : n.natAbs * num.natAbs = 0 := by rcases h with rfl | rfl <;> simp
  unfold raQ
  rw [e, Nat.zero_div, Nat.zero_mod]
  have : awB 0 0 den.natAbs m = false := by
    unfold awB
    split
    · simp
    · split
      · simp
        first | done | omega
      · rfl
  rw [this]
  rfl
theorem lt_neg {n : Int} (h : n ≠ 0) : decide (-n < 0) = !decide (n < 0) := by
  by_cases h0 : n < 0
  · rw [decide_eq_true h0, decide_eq_false (by omega)]; rfl
  · rw [decide_eq_false h0, decide_eq_true (by omega)]; rfl
theorem opp_of {n num den m n2 num2 den2 : Int} (h : fitB n = true) (h2 : fitB n2 = true) (hm : m = 1 ∨ m = 2 ∨ m = 3) (hd : den ≠ 0) (hd2 : den2 ≠ 0) (hq : raQ n2 num2 den2 m = raQ n num den m) (hs : neB n2 num2 den2 = !neB n num den ∨ raQ n num den m = 0) :
    raE n2 num2 den2 m = raE n num den m ∧ raV n num den m = -raV n2 num2 den2 m := by
  rcases ra_cases (num := num) h hm hd with ⟨a1, a2, a3⟩ | ⟨a1, a2, a3⟩ <;>
  rcases ra_cases (num := num2) h2 hm hd2 with ⟨b1, b2, b3⟩ | ⟨b1, b2, b3⟩
  · rw [a2, b2, a3, b3]; exact ⟨rfl, rfl⟩
  · omega
  · omega
  · rw [a2, b2, a3, b3, hq]
    refine ⟨rfl, ?_⟩
    rcases hs with hs | hs
    · rw [hs, sgn_not]; omega
    · rw [hs]; unfold sgn; split <;> split <;> rfl
/-- each sign counts -/
theorem ra_signs {n num den m : Int} (h : fitB n = true) (hm : m = 1 ∨ m = 2 ∨ m = 3) (hd : den ≠ 0) :
    (raE (-n) num den m = raE n num den m ∧ raV n num den m = -raV (-n) num den m) ∧ (raE n (-num) den m = raE n num den m ∧ raV n num den m = -raV n (-num) den m) ∧ (raE n num (-den) m = raE n num den m ∧ raV n num den m = -raV n num (-den) m) := by
  obtain ⟨q1, q2, q3⟩ := raQ_negs n num den m
  refine ⟨opp_of h (fit_neg h) hm hd hd q1 ?_, opp_of h h hm hd hd q2 ?_, opp_of h h hm hd (by omega) q3 (.inl ?_)⟩
  · by_cases h0 : n = 0
    · exact .inr (raQ_nil hd (.inl h0))
    · left; unfold neB; rw [lt_neg h0]; cases decide (n < 0) <;> cases decide (num < 0) <;> cases decide (den < 0) <;> rfl
  · by_cases h0 : num = 0
    · exact .inr (raQ_nil hd (.inr h0))
    · left; unfold neB; rw [lt_neg h0]; cases decide (n < 0) <;> cases decide (num < 0) <;> cases decide (den < 0) <;> rfl
  · unfold neB; rw [lt_neg hd]; cases decide (n < 0) <;> cases decide (num < 0) <;> cases decide (den < 0) <;> rfl
theorem raV_fit {n num den m : Int} (h : fitB n = true) (hm : m = 1 ∨ m = 2 ∨ m = 3) (hd : den ≠ 0) : fitB (raV n num den m) = true := by
  rcases ra_cases (num := num) h hm hd with ⟨a1, a2, a3⟩ | ⟨a1, a2, a3⟩
  · rw [a3]; rfl
  · rw [a3, fit_iff]; unfold sgn; split <;> omega
end Go.Proofs.YtjipcopfggnlkaaDoor.Mt
