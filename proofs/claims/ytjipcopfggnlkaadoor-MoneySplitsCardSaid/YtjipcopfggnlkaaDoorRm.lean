/- Amounts, sums and ratios: plain mathematics. No condition. -/
import Derived.Test.YtjipcopfggnlkaaDoorDv
set_option linter.unusedSimpArgs false
set_option linter.unusedVariables false
namespace Go.Proofs.YtjipcopfggnlkaaDoor.Mt
open Go
def In64 (x : Int) : Prop := -9223372036854775808 ≤ x ∧ x ≤ 9223372036854775807
/-- is it an amount that fits? -/
def fitB (n : Int) : Bool := decide (-1125899906842624 ≤ n) && decide (n ≤ 1125899906842624)
theorem fit_iff (n : Int) : fitB n = true ↔ -1125899906842624 ≤ n ∧ n ≤ 1125899906842624 := by simp [fitB]
theorem fit_no (n : Int) : fitB n = false ↔ n < -1125899906842624 ∨ 1125899906842624 < n := by
  rw [← Bool.not_eq_true, fit_iff]
  omega
/-- is the quotient q, with the rest r of a division by d, moved away from zero? -/
def awB (q r d : Nat) (mode : Int) : Bool := if mode = 2 then decide (0 < r) else if mode = 3 then (decide (d - r < r) || (decide (r = d - r) && decide (q % 2 = 1))) else false
/-- the size of a ratio before its sign -/
def raQ (n num den mode : Int) : Nat := n.natAbs * num.natAbs / den.natAbs + (if awB (n.natAbs * num.natAbs / den.natAbs) (n.natAbs * num.natAbs % den.natAbs) den.natAbs mode then 1 else 0)
def neB (n num den : Int) : Bool := (decide (n < 0) != decide (num < 0)) != decide (den < 0)
def raE (n num den mode : Int) : Int :=
  if fitB n = false then 13 else if mode ≠ 1 ∧ mode ≠ 2 ∧ mode ≠ 3 then 1 else if den = 0 then 14 else if 1125899906842624 < raQ n num den mode then 13 else 0
def raV (n num den mode : Int) : Int := if raE n num den mode = 0 then (if neB n num den then -((raQ n num den mode : Nat) : Int) else ((raQ n num den mode : Nat) : Int)) else 0
theorem ra_no {n num den mode : Int} (h : raE n num den mode ≠ 0) : raV n num den mode = 0 := if_neg h
theorem ra_fit {n num den mode : Int} (h : fitB n = false) : raE n num den mode = 13 := if_pos h
theorem ra_mode {n num den mode : Int} (h : fitB n = true) (hm : mode ≠ 1 ∧ mode ≠ 2 ∧ mode ≠ 3) : raE n num den mode = 1 := by unfold raE; rw [if_neg (by rw [h]; decide), if_pos hm]
theorem ra_zero {n num den mode : Int} (h : fitB n = true) (hm : ¬ (mode ≠ 1 ∧ mode ≠ 2 ∧ mode ≠ 3)) (hd : den = 0) : raE n num den mode = 14 := by unfold raE; rw [if_neg (by rw [h]; decide), if_neg hm, if_pos hd]
theorem ra_big {n num den mode : Int} (h : fitB n = true) (hm : ¬ (mode ≠ 1 ∧ mode ≠ 2 ∧ mode ≠ 3)) (hd : den ≠ 0) (hq : 1125899906842624 < raQ n num den mode) : raE n num den mode = 13 := by unfold raE; rw [if_neg (by rw [h]; decide), if_neg hm, if_neg hd, if_pos hq]
theorem ra_ok {n num den mode : Int} (h : fitB n = true) (hm : ¬ (mode ≠ 1 ∧ mode ≠ 2 ∧ mode ≠ 3)) (hd : den ≠ 0) (hq : raQ n num den mode ≤ 1125899906842624) : raE n num den mode = 0 ∧ raV n num den mode = if neB n num den then -((raQ n num den mode : Nat) : Int) else ((raQ n num den mode : Nat) : Int) := by
  have e : raE n num den mode = 0 := by unfold raE; rw [if_neg (by rw [h]; decide), if_neg hm, if_neg hd, if_neg (by omega)]
  exact ⟨e, if_pos e⟩
/-- the sum of a list's beginning -/
def su (zs : List Int) : Nat → Int
  | 0 => 0
  | k + 1 => su zs k + iat zs k
def toE (zs : List Int) : Int := if (∀ x ∈ zs, fitB x = true) ∧ fitB (su zs zs.length) = true then 0 else 13
def toV (zs : List Int) : Int := if toE zs = 0 then su zs zs.length else 0
theorem su_in {zs : List Int} : ∀ k, k ≤ 1024 → (∀ j, j < k → fitB (iat zs j) = true) → -((k : Int) * 1125899906842624) ≤ su zs k ∧ su zs k ≤ (k : Int) * 1125899906842624 := by
  intro k
  induction k with
  | zero => intro _ _; simp [su]
  | succ k ih =>
    intro hk h
    have h1 := ih (by omega) (fun j hj => h j (by omega))
    have h2 := (fit_iff _).1 (h k (by omega))
    rw [su]
    omega
theorem mem_iat {zs : List Int} {x : Int} : x ∈ zs ↔ ∃ i, i < zs.length ∧ iat zs i = x := by
  constructor
  · intro h
    obtain ⟨i, hi, e⟩ := List.getElem_of_mem h
    exact ⟨i, hi, by unfold iat; rw [List.getD_eq_getElem?_getD, List.getElem?_eq_getElem hi]; exact e⟩
  · rintro ⟨i, hi, e⟩
    rw [← e]
    unfold iat
    rw [List.getD_eq_getElem?_getD, List.getElem?_eq_getElem hi]
    exact List.getElem_mem hi
theorem to_bad {zs : List Int} {i : Nat} (hi : i < zs.length) (h : fitB (iat zs i) = false) : toE zs = 13 ∧ toV zs = 0 := by
  have e : toE zs = 13 := by
    unfold toE
    rw [if_neg]
    intro hh
    have := hh.1 _ (mem_iat.2 ⟨i, hi, rfl⟩)
    rw [h] at this
    cases this
  exact ⟨e, by unfold toV; rw [if_neg (by rw [e]; decide)]⟩
theorem to_all {zs : List Int} (h : ∀ j, j < zs.length → fitB (iat zs j) = true) : (fitB (su zs zs.length) = true → toE zs = 0 ∧ toV zs = su zs zs.length) ∧ (fitB (su zs zs.length) = false → toE zs = 13 ∧ toV zs = 0) := by
  have h1 : ∀ x ∈ zs, fitB x = true := by
    intro x hx
    obtain ⟨i, hi, e⟩ := mem_iat.1 hx
    rw [← e]
    exact h i hi
  constructor
  · intro hf
    have e : toE zs = 0 := if_pos ⟨h1, hf⟩
    exact ⟨e, if_pos e⟩
  · intro hf
    have e : toE zs = 13 := if_neg (fun hh => by rw [hf] at hh; cases hh.2)
    exact ⟨e, by unfold toV; rw [if_neg (by rw [e]; decide)]⟩
end Go.Proofs.YtjipcopfggnlkaaDoor.Mt
