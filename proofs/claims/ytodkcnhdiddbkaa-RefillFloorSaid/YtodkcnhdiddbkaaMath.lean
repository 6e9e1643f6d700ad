/- Plain mathematics for the refill layer. No condition. -/
import Derived.Lib.Hide
set_option linter.unusedSimpArgs false
set_option linter.unusedVariables false
namespace Go.Proofs.Ytodkcnhdiddbkaa.Mt
/-- an amount that fits -/
def fit (n : Int) : Bool := decide (-1125899906842624 ≤ n ∧ n ≤ 1125899906842624)
/-- a time -/
def tim (n : Int) : Bool := decide (0 ≤ n ∧ n < 68719476736)
theorem fit_iff (n : Int) : fit n = true ↔ -1125899906842624 ≤ n ∧ n ≤ 1125899906842624 := by simp [fit]
theorem tim_iff (n : Int) : tim n = true ↔ 0 ≤ n ∧ n < 68719476736 := by simp [tim]
structure Ru where
  b : Int
  c : Int
  t : Int
  w : Int
structure Fi where
  s : Int
  f : Int
  n : Int
def chk (r : Ru) : Int :=
  if r.b = 0 ∧ r.c = 0 ∧ r.t = 0 ∧ r.w = 0 then 0
  else if fit r.b = false ∨ fit r.c = false then 13
  else if r.b < 0 ∨ r.c < 1 ∨ r.t < 1 ∨ 16 < r.t ∨ tim r.w = false then 1 else 0
def stp (r : Ru) (f : Fi) (bal t : Int) : Fi × Int :=
  if f.s ≠ 1 ∨ r.c ≤ 0 ∨ r.b ≤ bal ∨ t < f.n then (f, 0) else (⟨2, f.f, f.n⟩, r.c)
def suc (f : Fi) : Fi × Int := if f.s = 2 then (⟨1, 0, 0⟩, 0) else (f, 11)
def res (f : Fi) : Fi × Int := if f.s = 3 then (⟨1, 0, 0⟩, 0) else (f, 11)
def fai (r : Ru) (f : Fi) (t : Int) : Fi × Int :=
  if f.s ≠ 2 then (f, 11) else if tim t = false then (f, 12) else if r.t ≤ f.f + 1 then (⟨3, f.f + 1, 0⟩, 0) else (⟨1, f.f + 1, t + r.w⟩, 0)
def adS (a b : Int) : Int × Int := if fit a = true ∧ fit b = true ∧ fit (a + b) = true then (a + b, 0) else (0, 13)
end Go.Proofs.Ytodkcnhdiddbkaa.Mt
