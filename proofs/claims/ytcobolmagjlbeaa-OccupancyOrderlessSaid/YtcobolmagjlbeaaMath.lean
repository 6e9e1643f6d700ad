/- Plain mathematics for the occupancy layer: the first error of a scale, and the next level. No condition. -/
import Derived.Lib.Hide
namespace Go.Proofs.Ytcobolmagjlbeaa.Mt
/-- the first index from k on at which f isn't 0 gives the answer; m: how many are left -/
def fb (f : Nat → Int) : Nat → Nat → Int
  | _, 0 => 0
  | k, m + 1 => if f k = 0 then fb f (k + 1) m else f k
theorem fb_step {f : Nat → Int} {k n : Nat} (hk : k < n) (h : f k = 0) : fb f (k + 1) (n - (k + 1)) = fb f k (n - k) := by
  obtain ⟨m, hm⟩ : ∃ m, n - k = m + 1 := ⟨n - k - 1, by omega⟩
  have hm' : n - (k + 1) = m := by omega
  rw [hm, hm', fb, if_pos h]
theorem fb_hit {f : Nat → Int} {k n : Nat} (hk : k < n) (h : f k ≠ 0) : fb f k (n - k) = f k := by
  obtain ⟨m, hm⟩ : ∃ m, n - k = m + 1 := ⟨n - k - 1, by omega⟩
  rw [hm, fb, if_neg h]
theorem fb_end {f : Nat → Int} {k n : Nat} (hk : n ≤ k) : fb f k (n - k) = 0 := by
  have : n - k = 0 := by omega
  rw [this, fb]
structure Sc where
  p : Int
  up : List Int
  dn : List Int
  pt : List Int
def at_ (l : List Int) (i : Nat) : Int := l.getD i 0
/-- the error at a level -/
def bad (s : Sc) (i : Nat) : Int :=
  if at_ s.dn i < 0 ∨ at_ s.up i ≤ at_ s.dn i ∨ 2147483648 < at_ s.up i then 1
  else if 0 < i ∧ (at_ s.up i ≤ at_ s.up (i - 1) ∨ at_ s.dn i ≤ at_ s.dn (i - 1)) then 15 else 0
/-- the error at a part -/
def bad2 (s : Sc) (i : Nat) : Int := if at_ s.pt i < 0 ∨ 10000 < at_ s.pt i then 1 else 0
def chS (s : Sc) : Int :=
  if 8 < s.up.length then 3
  else if s.p < 1 ∨ 86400 < s.p ∨ s.dn.length ≠ s.up.length ∨ s.pt.length ≠ s.up.length + 1 then 1
  else if fb (bad s) 0 s.up.length ≠ 0 then fb (bad s) 0 s.up.length else fb (bad2 s) 0 s.pt.length
/-- how far up a count leads: the greatest level whose bound it reaches, among the first k -/
def upto (up : List Int) (count : Int) : Nat → Nat
  | 0 => 0
  | k + 1 => if at_ up k ≤ count then k + 1 else upto up count k
/-- down from a level while the count is below its bound -/
def down (dn : List Int) (count : Int) : Nat → Nat
  | 0 => 0
  | k + 1 => if count < at_ dn k then down dn count k else k + 1
/-- a level within 0 .. n -/
def clamp (n : Nat) (level : Int) : Nat := if level < 0 then 0 else if (n : Int) < level then n else level.toNat
def nx (s : Sc) (level count : Int) : Nat :=
  if clamp s.up.length level < upto s.up count s.up.length then upto s.up count s.up.length else down s.dn count (clamp s.up.length level)
theorem upto_yes {up : List Int} {c : Int} {k : Nat} (h : at_ up k ≤ c) : upto up c (k + 1) = k + 1 := by rw [upto, if_pos h]
theorem upto_no {up : List Int} {c : Int} {k : Nat} (h : ¬ at_ up k ≤ c) : upto up c (k + 1) = upto up c k := by rw [upto, if_neg h]
theorem upto_le (up : List Int) (c : Int) (k : Nat) : upto up c k ≤ k := by
  induction k with
  | zero => exact Nat.le_refl _
  | succ k ih => rw [upto]; split <;> omega
theorem down_le (dn : List Int) (c : Int) (k : Nat) : down dn c k ≤ k := by
  induction k with
  | zero => exact Nat.le_refl _
  | succ k ih => rw [down]; split <;> omega
theorem down_yes {dn : List Int} {c : Int} {k : Nat} (h : c < at_ dn k) : down dn c (k + 1) = down dn c k := by rw [down, if_pos h]
theorem down_no {dn : List Int} {c : Int} {k : Nat} (h : ¬ c < at_ dn k) : down dn c (k + 1) = k + 1 := by rw [down, if_neg h]
theorem clamp_le (n : Nat) (l : Int) : clamp n l ≤ n := by unfold clamp; split; omega; split <;> omega
end Go.Proofs.Ytcobolmagjlbeaa.Mt
