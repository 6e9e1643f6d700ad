/- Plain mathematics for the class layer: the Lean functions that the Go functions compute, and small facts on them. No condition. -/
import Derived.Lib.Hide
set_option linter.unusedSimpArgs false
set_option linter.unusedVariables false
namespace Go.Proofs.Ytmclbcfcbocnhaa.Mt

abbrev Rule := Int × Int × Int

/-- the first index from k on at which f isn't 0 gives the answer; m: how many are left -/
def fb (f : Nat → Int) : Nat → Nat → Int
  | _, 0 => 0
  | k, m + 1 => if f k = 0 then fb f (k + 1) m else f k
theorem fb_step {f : Nat → Int} {k n : Nat} (hk : k < n) (h : f k = 0) : fb f (k + 1) (n - (k + 1)) = fb f k (n - k) := by
  obtain ⟨m, hm⟩ : ∃ m, n - k = m + 1 := ⟨n - k - 1, by omega⟩
  have hm' : n - (k + 1) = m := by omega
  rw [hm, hm', fb, if_pos h]
theorem fb_hit {f : Nat → Int} {k n : Nat} (hk : k < n) (h : f k ≠ 0) : fb f k (n - k) = f k := by
  obtain ⟨m, hm⟩ : ∃ m, n - k = m + 1 := ⟨n - k - 1, by omega⟩
  rw [hm, fb, if_neg h]
theorem fb_end {f : Nat → Int} {k n : Nat} (hk : n ≤ k) : fb f k (n - k) = 0 := by
  have : n - k = 0 := by omega
  rw [this, fb]

def dR : Rule := (0, 0, 0)
def at_ (rs : List Rule) (i : Nat) : Rule := rs.getD i dR

/-- Of: class and error -/
def ofS (x : Int) : List Rule → Int × Int
  | [] => (0, 20)
  | r :: t => if r.1 ≤ x ∧ x ≤ r.2.1 then (r.2.2, 0) else ofS x t
theorem drop_at {rs : List Rule} {k : Nat} (h : k < rs.length) : rs.drop k = at_ rs k :: rs.drop (k + 1) := by
  rw [List.drop_eq_getElem_cons h]; simp [at_, h]
theorem of_step {rs : List Rule} {x : Int} {k : Nat} (h : k < rs.length) (hn : ¬ ((at_ rs k).1 ≤ x ∧ x ≤ (at_ rs k).2.1)) : ofS x (rs.drop k) = ofS x (rs.drop (k + 1)) := by
  rw [drop_at h, ofS, if_neg hn]
theorem of_hit {rs : List Rule} {x : Int} {k : Nat} (h : k < rs.length) (hn : (at_ rs k).1 ≤ x ∧ x ≤ (at_ rs k).2.1) : ofS x (rs.drop k) = ((at_ rs k).2.2, 0) := by
  rw [drop_at h, ofS, if_pos hn]
theorem of_end {rs : List Rule} {x : Int} {k : Nat} (h : rs.length ≤ k) : ofS x (rs.drop k) = (0, 20) := by
  rw [List.drop_eq_nil_of_le h, ofS]

def raS (c : Int) : List Rule → Int × Int × Bool
  | [] => (0, 0, false)
  | r :: t => if r.2.2 = c then (r.1, r.2.1, true) else raS c t
theorem ra_step {rs : List Rule} {x : Int} {k : Nat} (h : k < rs.length) (hn : ¬ (at_ rs k).2.2 = x) : raS x (rs.drop k) = raS x (rs.drop (k + 1)) := by
  rw [drop_at h, raS, if_neg hn]
theorem ra_hit {rs : List Rule} {x : Int} {k : Nat} (h : k < rs.length) (hn : (at_ rs k).2.2 = x) : raS x (rs.drop k) = ((at_ rs k).1, (at_ rs k).2.1, true) := by
  rw [drop_at h, raS, if_pos hn]
theorem ra_end {rs : List Rule} {x : Int} {k : Nat} (h : rs.length ≤ k) : raS x (rs.drop k) = (0, 0, false) := by
  rw [List.drop_eq_nil_of_le h, raS]

def reS (d m : Int) : Int × Bool :=
  if 1 ≤ m ∧ m ≤ 9 then (m, decide (d = m) || !decide (1 ≤ d ∧ d ≤ 9)) else if 1 ≤ d ∧ d ≤ 9 then (d, false) else (0, false)

/-- how often the class c occurs among the first k numbers -/
def cN (l : List Int) (k c : Nat) : Nat := if 1 ≤ c ∧ c ≤ 9 then (l.take k).count (c : Int) else 0
theorem cN_zero (l : List Int) (k : Nat) : cN l k 0 = 0 := rfl
theorem cN_start (l : List Int) (c : Nat) : cN l 0 c = 0 := by unfold cN; split <;> simp
theorem cN_le (l : List Int) (k c : Nat) : cN l k c ≤ k := by
  unfold cN
  split
  · exact Nat.le_trans List.count_le_length (List.length_take_le _ _)
  · omega
theorem take_one {l : List Int} {k : Nat} (h : k < l.length) : l.take (k + 1) = l.take k ++ [l.getD k 0] := by
  rw [List.take_succ_eq_append_getElem h]; simp [List.getD, List.getElem?_eq_getElem h]
theorem cN_hit {l : List Int} {k c : Nat} (h : k < l.length) (hc : 1 ≤ c ∧ c ≤ 9) (e : l.getD k 0 = (c : Int)) : cN l (k + 1) c = cN l k c + 1 := by
  unfold cN
  rw [if_pos hc, if_pos hc, take_one h, List.count_append, e]; simp
theorem cN_miss {l : List Int} {k c : Nat} (h : k < l.length) (e : l.getD k 0 ≠ (c : Int)) : cN l (k + 1) c = cN l k c := by
  unfold cN
  split
  · rw [take_one h, List.count_append, List.count_singleton, if_neg (by simpa using e)]; omega
  · rfl
theorem cN_out {l : List Int} {k : Nat} (h : k < l.length) (e : ¬ (1 ≤ l.getD k 0 ∧ l.getD k 0 ≤ 9)) (c : Nat) : cN l (k + 1) c = cN l k c := by
  by_cases hc : 1 ≤ c ∧ c ≤ 9
  · exact cN_miss h (by omega)
  · unfold cN; rw [if_neg hc, if_neg hc]

/-- the best of the classes below k -/
def mj (f : Nat → Nat) : Nat → Nat
  | 0 => 0
  | k + 1 => if f (mj f k) < f k then k else mj f k
theorem mj_lt (f : Nat → Nat) (k : Nat) (h : 0 < k) : mj f k < k := by
  induction k with
  | zero => omega
  | succ k ih =>
    unfold mj
    split
    · omega
    · rcases Nat.eq_zero_or_pos k with rfl | hk
      · simp [mj]
      · have := ih hk; omega
theorem mj_yes {f : Nat → Nat} {k : Nat} (h : f (mj f k) < f k) : mj f (k + 1) = k := by rw [mj, if_pos h]
theorem mj_no {f : Nat → Nat} {k : Nat} (h : ¬ f (mj f k) < f k) : mj f (k + 1) = mj f k := by rw [mj, if_neg h]
theorem mj_one (f : Nat → Nat) : mj f 1 = 0 := by rw [mj]; split <;> rfl
def majS (l : List Int) : Nat := mj (cN l l.length) 10

/-- has one of the first k rules the class c? -/
def saw (rs : List Rule) (k : Nat) (c : Int) : Bool := decide (∃ i, i < k ∧ (at_ rs i).2.2 = c)
theorem saw_zero (rs : List Rule) (c : Int) : saw rs 0 c = false := by simp [saw]
theorem saw_same (rs : List Rule) (k : Nat) : saw rs (k + 1) (at_ rs k).2.2 = true := by
  simp only [saw, decide_eq_true_eq]; exact ⟨k, by omega, rfl⟩
theorem saw_other {rs : List Rule} {k : Nat} {c : Int} (h : (at_ rs k).2.2 ≠ c) : saw rs (k + 1) c = saw rs k c := by
  unfold saw
  congr 1
  apply propext
  constructor
  · rintro ⟨i, hi, e⟩
    refine ⟨i, ?_, e⟩
    rcases Nat.lt_or_ge i k with h1 | h1
    · exact h1
    · have : i = k := by omega
      subst this; exact absurd e h
  · rintro ⟨i, hi, e⟩
    exact ⟨i, by omega, e⟩
def bad (rs : List Rule) (j : Nat) : Int :=
  if (at_ rs j).1 < 1 ∨ (at_ rs j).2.1 < (at_ rs j).1 ∨ 20 < (at_ rs j).2.1 then 1
  else if ¬ (1 ≤ (at_ rs j).2.2 ∧ (at_ rs j).2.2 ≤ 9) then 20
  else if 0 < j ∧ (at_ rs j).1 ≤ (at_ rs (j - 1)).2.1 then 15
  else if saw rs j (at_ rs j).2.2 = true then 9 else 0
def chS (rs : List Rule) : Int := if 9 < rs.length then 3 else fb (bad rs) 0 rs.length
theorem bad_arg {rs : List Rule} {j : Nat} (h : (at_ rs j).1 < 1 ∨ (at_ rs j).2.1 < (at_ rs j).1 ∨ 20 < (at_ rs j).2.1) : bad rs j = 1 := by rw [bad, if_pos h]
theorem bad_class {rs : List Rule} {j : Nat} (h : ¬ ((at_ rs j).1 < 1 ∨ (at_ rs j).2.1 < (at_ rs j).1 ∨ 20 < (at_ rs j).2.1)) (h2 : ¬ (1 ≤ (at_ rs j).2.2 ∧ (at_ rs j).2.2 ≤ 9)) : bad rs j = 20 := by rw [bad, if_neg h, if_pos h2]
theorem bad_order {rs : List Rule} {j : Nat} (h : ¬ ((at_ rs j).1 < 1 ∨ (at_ rs j).2.1 < (at_ rs j).1 ∨ 20 < (at_ rs j).2.1)) (h2 : (1 ≤ (at_ rs j).2.2 ∧ (at_ rs j).2.2 ≤ 9))
    (h3 : 0 < j ∧ (at_ rs j).1 ≤ (at_ rs (j - 1)).2.1) : bad rs j = 15 := by rw [bad, if_neg h, if_neg (by simpa using h2), if_pos h3]
theorem bad_last {rs : List Rule} {j : Nat} (h : ¬ ((at_ rs j).1 < 1 ∨ (at_ rs j).2.1 < (at_ rs j).1 ∨ 20 < (at_ rs j).2.1)) (h2 : (1 ≤ (at_ rs j).2.2 ∧ (at_ rs j).2.2 ≤ 9))
    (h3 : ¬ (0 < j ∧ (at_ rs j).1 ≤ (at_ rs (j - 1)).2.1)) : bad rs j = if saw rs j (at_ rs j).2.2 = true then 9 else 0 := by rw [bad, if_neg h, if_neg (by simpa using h2), if_neg h3]
theorem ch_long {rs : List Rule} (h : 9 < rs.length) : chS rs = 3 := by rw [chS, if_pos h]
theorem ch_short {rs : List Rule} (h : ¬ 9 < rs.length) : chS rs = fb (bad rs) 0 (rs.length - 0) := by rw [chS, if_neg h]; rfl
end Go.Proofs.Ytmclbcfcbocnhaa.Mt
