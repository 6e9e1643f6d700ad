/- The checks of a matrix, both sides. Condition: it is small. -/
import Derived.Test.YtafmoldngopkdaaTy
set_option linter.unusedSimpArgs false
set_option linter.unusedVariables false
namespace Go.Proofs.Ytafmoldngopkdaa.Wk
open Go Go.RowKit Go.Proofs.Ytafmoldngopkdaa.Av
theorem ix_eq {α : Type} [Inhabited α] {l : List α} {i : Nat} (h : i < l.length) : l[i] = ix l i := by
  have := ix_get h
  rw [List.getElem?_eq_getElem h] at this
  injection this
theorem ix_mem {α : Type} [Inhabited α] {l : List α} {k : Nat} (h : k < l.length) : ix l k ∈ l := by rw [← ix_eq h]; exact List.getElem_mem h
theorem mem_ix {α : Type} [Inhabited α] {l : List α} {x : α} (h : x ∈ l) : ∃ k, k < l.length ∧ ix l k = x := by
  obtain ⟨j, hj, he⟩ := List.mem_iff_getElem.1 h
  exact ⟨j, hj, by rw [← ix_eq hj]; exact he⟩
theorem fnd_no {α : Type} [Inhabited α] {p : α → Bool} {l : List α} (h : ∀ q, q < l.length → p (ix l q) = false) : l.find? p = none := by
  rw [List.find?_eq_none]
  intro x hx
  obtain ⟨k, hk, he⟩ := mem_ix hx
  rw [← he, h k hk]; simp
theorem fnd_at {α : Type} [Inhabited α] {p : α → Bool} {l : List α} {k : Nat} (hk : k < l.length) (h : ∀ q, q < k → p (ix l q) = false) (hp : p (ix l k) = true) : l.find? p = some (ix l k) := by
  rw [List.find?_eq_some_iff_getElem]
  refine ⟨hp, k, hk, ix_eq hk, fun j hj => ?_⟩
  rw [ix_eq (by omega), h j hj]; rfl
theorem any_at {α : Type} [Inhabited α] {p : α → Bool} {l : List α} {k : Nat} (hk : k < l.length) (hp : p (ix l k) = true) : l.any p = true := by
  rw [List.any_eq_true]; exact ⟨_, ix_mem hk, hp⟩
theorem any_no {α : Type} [Inhabited α] {p : α → Bool} {l : List α} (h : ∀ q, q < l.length → p (ix l q) = false) : l.any p = false := by
  rw [List.any_eq_false]
  intro x hx
  obtain ⟨k, hk, he⟩ := mem_ix hx
  rw [← he, h k hk]; simp
theorem all_no {α : Type} [Inhabited α] {p : α → Bool} {l : List α} {k : Nat} (hk : k < l.length) (h : p (ix l k) = false) : l.all p = false := by
  rw [List.all_eq_false]; exact ⟨_, ix_mem hk, by rw [h]; simp⟩
theorem all_yes {α : Type} [Inhabited α] {p : α → Bool} {l : List α} (h : ∀ q, q < l.length → p (ix l q) = true) : l.all p = true := by
  rw [List.all_eq_true]
  intro x hx
  obtain ⟨k, hk, he⟩ := mem_ix hx
  rw [← he]; exact h k hk


def wb (n x : Int) : Bool := decide (x < n) || decide (2147483648 < x)
def wi (l : List Int) (n : Int) : Bool := l.all fun x => !(wb n x)
theorem wi_no {l : List Int} {n : Int} {k : Nat} (hk : k < l.length) (h : wb n (ix l k) = true) : wi l n = false := all_no (p := fun x => !(wb n x)) hk (by show (!(wb n (ix l k))) = false; rw [h]; rfl)
theorem wi_yes {l : List Int} {n : Int} (h : ∀ q, q < l.length → wb n (ix l q) = false) : wi l n = true := all_yes (p := fun x => !(wb n x)) (fun q hq => by show (!(wb n (ix l q))) = true; rw [h q hq]; rfl)
theorem wi_at {l : List Int} {n : Int} (h : wi l n = true) {q : Nat} (hq : q < l.length) : n ≤ ix l q ∧ ix l q ≤ 2147483648 := by
  have h1 := List.all_eq_true.1 h _ (ix_mem hq)
  have h2 : wb n (ix l q) = false := by simpa using h1
  unfold wb at h2
  rw [Bool.or_eq_false_iff] at h2
  have a := of_decide_eq_false h2.1
  have b := of_decide_eq_false h2.2
  omega
/-- a bad row of costs -/
def cb (m : Mat) (l : List Int) : Bool := ((l.length : Int) != (m.col.length : Int)) || !(wi l (-1))
def ck (m : Mat) : Int := if 8 < m.row.length ∨ 8 < m.col.length then 3 else if m.cost.length ≠ m.row.length then 1 else if m.cost.any (cb m) = true ∨ wi m.row 0 = false ∨ wi m.col 0 = false then 1 else 0
theorem ck_3 {m : Mat} (h : 8 < m.row.length ∨ 8 < m.col.length) : ck m = 3 := if_pos h
theorem ck_1a {m : Mat} (h : ¬ (8 < m.row.length ∨ 8 < m.col.length)) (h1 : m.cost.length ≠ m.row.length) : ck m = 1 := by unfold ck; rw [if_neg h, if_pos h1]
theorem ck_1b {m : Mat} (h : ¬ (8 < m.row.length ∨ 8 < m.col.length)) (h2 : m.cost.any (cb m) = true ∨ wi m.row 0 = false ∨ wi m.col 0 = false) : ck m = 1 := by
  unfold ck
  rw [if_neg h]
  by_cases h1 : m.cost.length ≠ m.row.length
  · rw [if_pos h1]
  · rw [if_neg h1, if_pos h2]
theorem ck_0 {m : Mat} (h : ¬ (8 < m.row.length ∨ 8 < m.col.length)) (h1 : m.cost.length = m.row.length) (h2 : ∀ q, q < m.cost.length → cb m (ix m.cost q) = false) (h3 : wi m.row 0 = true) (h4 : wi m.col 0 = true) : ck m = 0 := by
  unfold ck
  have hn : m.cost.any (cb m) = false := by
    rw [List.any_eq_false]
    intro x hx
    obtain ⟨k, hk, he⟩ := mem_ix hx
    rw [← he, h2 k hk]; simp
  rw [if_neg h, if_neg (by simp [h1]), if_neg (by rw [hn, h3, h4]; simp)]
theorem anyb_at {α : Type} [Inhabited α] {p : α → Bool} {l : List α} {k : Nat} (hk : k < l.length) (h : p (ix l k) = true) : l.any p = true := List.any_eq_true.2 ⟨_, ix_mem hk, h⟩
structure Ok (m : Mat) : Prop where
  r : m.row.length ≤ 8
  c : m.col.length ≤ 8
  e : m.cost.length = m.row.length
  t : ∀ q, q < m.cost.length → (ix m.cost q).length = m.col.length ∧ ∀ p, p < m.col.length → -1 ≤ ix (ix m.cost q) p ∧ ix (ix m.cost q) p ≤ 2147483648
  rw : ∀ q, q < m.row.length → 0 ≤ ix m.row q ∧ ix m.row q ≤ 2147483648
  cw : ∀ q, q < m.col.length → 0 ≤ ix m.col q ∧ ix m.col q ≤ 2147483648
theorem ck_ok {m : Mat} (h : ck m = 0) : Ok m := by
  unfold ck at h
  by_cases h1 : 8 < m.row.length ∨ 8 < m.col.length
  · rw [if_pos h1] at h; exact absurd h (by decide)
  rw [if_neg h1] at h
  by_cases h2 : m.cost.length ≠ m.row.length
  · rw [if_pos h2] at h; exact absurd h (by decide)
  rw [if_neg h2] at h
  by_cases h3 : m.cost.any (cb m) = true ∨ wi m.row 0 = false ∨ wi m.col 0 = false
  · rw [if_pos h3] at h; exact absurd h (by decide)
  have ha : m.cost.any (cb m) = false := Bool.not_eq_true _ ▸ fun q => h3 (.inl q)
  have hr : wi m.row 0 = true := by cases hh : wi m.row 0 with | true => rfl | false => exact absurd (.inr (.inl hh)) h3
  have hc : wi m.col 0 = true := by cases hh : wi m.col 0 with | true => rfl | false => exact absurd (.inr (.inr hh)) h3
  refine ⟨by omega, by omega, by omega, fun q hq => ?_, fun q hq => wi_at hr hq, fun q hq => wi_at hc hq⟩
  have h5 : cb m (ix m.cost q) = false := by have := List.any_eq_false.1 ha _ (ix_mem hq); simpa using this
  unfold cb at h5
  rw [Bool.or_eq_false_iff] at h5
  have h6 : (ix m.cost q).length = m.col.length := by have h := h5.1; simp at h; omega
  have h7 : wi (ix m.cost q) (-1) = true := by have := h5.2; simpa using this
  exact ⟨h6, fun p hp => wi_at h7 (by omega)⟩
def gr (m : Mat) : Bool := decide (20 < m.cost.length) || decide (20 < m.row.length) || decide (20 < m.col.length) || m.cost.any fun l => decide (20 < l.length)
structure Bd (m : Mat) : Prop where
  a : m.cost.length ≤ 20
  b : m.row.length ≤ 20
  c : m.col.length ≤ 20
  l : ∀ q, q < m.cost.length → (ix m.cost q).length ≤ 20
theorem gr_bd {m : Mat} (h : gr m = false) : Bd m := by
  unfold gr at h
  simp only [Bool.or_eq_false_iff] at h
  obtain ⟨⟨⟨h1, h2⟩, h3⟩, h4⟩ := h
  have h1 := of_decide_eq_false h1
  have h2 := of_decide_eq_false h2
  have h3 := of_decide_eq_false h3
  refine ⟨by omega, by omega, by omega, fun q hq => ?_⟩
  have := List.any_eq_false.1 h4 _ (ix_mem hq)
  have : ¬ 20 < (ix m.cost q).length := by simpa using this
  omega
theorem gr_y1 {m : Mat} (h : 20 < m.cost.length ∨ 20 < m.row.length ∨ 20 < m.col.length) : gr m = true := by
  unfold gr
  rcases h with h | h | h <;> simp [h]
theorem gr_y2 {m : Mat} {k : Nat} (hk : k < m.cost.length) (h : 20 < (ix m.cost k).length) : gr m = true := by
  unfold gr
  rw [anyb_at (p := fun l : List Int => decide (20 < l.length)) hk (decide_eq_true h), Bool.or_true]
theorem gr_n {m : Mat} (h : ¬ (20 < m.cost.length ∨ 20 < m.row.length ∨ 20 < m.col.length)) (h2 : ∀ q, q < m.cost.length → ¬ 20 < (ix m.cost q).length) : gr m = false := by
  unfold gr
  have hn : (m.cost.any fun l => decide (20 < l.length)) = false := by
    rw [List.any_eq_false]
    intro x hx
    obtain ⟨k, hk, he⟩ := mem_ix hx
    rw [← he]; simp; have := h2 k hk; omega
  rw [hn, decide_eq_false (by omega), decide_eq_false (by omega), decide_eq_false (by omega)]; rfl
/-- the columns of earlier rows -/
def us (a : List Int) (k : Int) : Nat → Bool
  | 0 => false
  | q + 1 => us a k q || (ix a q == k)
theorem us_at {a : List Int} {k : Int} : ∀ {i q}, q < i → ix a q = k → us a k i = true
  | 0, q, h, _ => by omega
  | i + 1, q, h, e => by
    simp only [us]
    rcases Nat.lt_succ_iff_lt_or_eq.1 h with g | g
    · rw [us_at g e, Bool.true_or]
    · rw [← g, e]; simp
def tn (a : List Int) : Nat → Nat
  | 0 => 0
  | i + 1 => if ix a i < 0 then tn a i else tn a i ||| 2 ^ (ix a i).toNat
theorem tn_in {a : List Int} : ∀ i, (∀ q, q < i → ix a q < 8) → tn a i < 256
  | 0, _ => by simp [tn]
  | i + 1, h => by
    have ih := tn_in i (fun q hq => h q (by omega))
    simp only [tn]
    by_cases h1 : ix a i < 0
    · rw [if_pos h1]; exact ih
    · rw [if_neg h1]
      have := h i (by omega)
      exact Nat.or_lt_two_pow (n := 8) ih (Nat.pow_lt_pow_right (by decide) (by omega))
theorem tn_bit {a : List Int} (j : Nat) : ∀ i, (tn a i).testBit j = us a (j : Int) i
  | 0 => by simp [tn, us]
  | i + 1 => by
    have ih := tn_bit (a := a) j i
    simp only [tn, us]
    by_cases h1 : ix a i < 0
    · rw [if_pos h1, ih, show (ix a i == (j : Int)) = false from by simp; omega, Bool.or_false]
    · rw [if_neg h1, Nat.testBit_or, ih, Nat.testBit_two_pow]
      congr 1
      by_cases h2 : ix a i = (j : Int)
      · rw [h2]; simp
      · rw [show (ix a i == (j : Int)) = false from by simp [h2]]
        exact decide_eq_false (by omega)
theorem bit_all : ((List.range 256).all fun n => (List.range 8).all fun k => decide (bits .and .i64 ((n : Int) / 2 ^ min k 64) 1 = bif n.testBit k then 1 else 0) && decide (bits .or .i64 (n : Int) (IntKind.i64.wrap (1 * 2 ^ min k 64)) = ((n ||| 2 ^ k : Nat) : Int))) = true := by kernel_rfl
theorem bit_at {n : Nat} (hn : n < 256) {j : Int} (hj : 0 ≤ j ∧ j < 8) : bits .and .i64 ((n : Int) / 2 ^ min j.toNat IntKind.i64.bits) 1 = (bif n.testBit j.toNat then 1 else 0) ∧ bits .or .i64 (n : Int) (IntKind.i64.wrap (1 * 2 ^ min j.toNat IntKind.i64.bits)) = ((n ||| 2 ^ j.toNat : Nat) : Int) := by
  have h1 := List.all_eq_true.1 bit_all n (List.mem_range.2 hn)
  have h2 := List.all_eq_true.1 h1 j.toNat (List.mem_range.2 (by omega))
  rw [Bool.and_eq_true] at h2
  exact ⟨of_decide_eq_true h2.1, of_decide_eq_true h2.2⟩
theorem bt1 {n : Nat} (hn : n < 256) {j : Int} (hj : 0 ≤ j ∧ j < 8) {b : Bool} (h : (bits .and .i64 ((n : Int) / 2 ^ min j.toNat IntKind.i64.bits) 1 == 1) = b) : n.testBit j.toNat = b := by
  rw [(bit_at hn hj).1] at h
  rw [← h]
  cases n.testBit j.toNat <;> rfl
theorem bt0 {n : Nat} (hn : n < 256) {j : Int} (hj : 0 ≤ j ∧ j < 8) {b : Bool} (h : (bits .and .i64 ((n : Int) / 2 ^ min j.toNat IntKind.i64.bits) 1 == 0) = b) : n.testBit j.toNat = !b := by
  rw [(bit_at hn hj).1] at h
  rw [← h]
  cases n.testBit j.toNat <;> rfl
theorem us_bit {a : List Int} {i : Nat} {j : Int} (hj : 0 ≤ j) : us a j i = (tn a i).testBit j.toNat := by rw [tn_bit, show ((j.toNat : Nat) : Int) = j from by omega]
def pr (m : Mat) (i : Nat) (k : Int) : Int := if k < 0 then ix m.row i else ix (ix m.cost i) k.toNat
/-- what is wrong with a row's column -/
def er (m : Mat) (a : List Int) (i : Nat) : Int := if ix a i < -1 ∨ (m.col.length : Int) ≤ ix a i then 2 else if 0 ≤ ix a i ∧ us a (ix a i) i = true then 9 else if pr m i (ix a i) < 0 then 1 else 0
theorem er_2 {m : Mat} {a : List Int} {i : Nat} (h : ix a i < -1 ∨ (m.col.length : Int) ≤ ix a i) : er m a i = 2 := if_pos h
theorem er_9 {m : Mat} {a : List Int} {i : Nat} (h : ¬ (ix a i < -1 ∨ (m.col.length : Int) ≤ ix a i)) (h0 : 0 ≤ ix a i) (hu : us a (ix a i) i = true) : er m a i = 9 := by unfold er; rw [if_neg h, if_pos ⟨h0, hu⟩]
theorem er_1 {m : Mat} {a : List Int} {i : Nat} (h : ¬ (ix a i < -1 ∨ (m.col.length : Int) ≤ ix a i)) (hu : 0 ≤ ix a i → us a (ix a i) i = false) (hp : pr m i (ix a i) < 0) : er m a i = 1 := by unfold er; rw [if_neg h, if_neg (fun q => by rw [hu q.1] at q; exact absurd q.2 (by decide)), if_pos hp]
theorem er_0 {m : Mat} {a : List Int} {i : Nat} (h : ¬ (ix a i < -1 ∨ (m.col.length : Int) ≤ ix a i)) (hu : 0 ≤ ix a i → us a (ix a i) i = false) (hp : ¬ pr m i (ix a i) < 0) : er m a i = 0 := by unfold er; rw [if_neg h, if_neg (fun q => by rw [hu q.1] at q; exact absurd q.2 (by decide)), if_neg hp]
theorem pr_n {m : Mat} {i : Nat} {k : Int} (h : k < 0) : pr m i k = ix m.row i := if_pos h
theorem pr_p {m : Mat} {i : Nat} {k : Int} (h : ¬ k < 0) : pr m i k = ix (ix m.cost i) k.toNat := if_neg h
theorem er_lt {m : Mat} {a : List Int} {i : Nat} (h : er m a i = 0) : -1 ≤ ix a i ∧ ix a i < (m.col.length : Int) ∧ 0 ≤ pr m i (ix a i) := by
  unfold er at h
  by_cases h1 : ix a i < -1 ∨ (m.col.length : Int) ≤ ix a i
  · rw [if_pos h1] at h; exact absurd h (by decide)
  rw [if_neg h1] at h
  by_cases h2 : 0 ≤ ix a i ∧ us a (ix a i) i = true
  · rw [if_pos h2] at h; exact absurd h (by decide)
  rw [if_neg h2] at h
  by_cases h3 : pr m i (ix a i) < 0
  · rw [if_pos h3] at h; exact absurd h (by decide)
  omega
def fe (m : Mat) (a : List Int) : Nat → Int
  | 0 => 0
  | i + 1 => if fe m a i = 0 then er m a i else fe m a i
theorem fe_0 {m : Mat} {a : List Int} : ∀ n, (∀ q, q < n → er m a q = 0) → fe m a n = 0
  | 0, _ => rfl
  | n + 1, h => by
    have ih := fe_0 n (fun q hq => h q (by omega))
    simp only [fe]; rw [if_pos ih]; exact h n (by omega)
theorem fe_at {m : Mat} {a : List Int} {i : Nat} (h : ∀ q, q < i → er m a q = 0) (he : er m a i ≠ 0) : ∀ n, i < n → fe m a n = er m a i
  | 0, hi => by omega
  | n + 1, hi => by
    simp only [fe]
    rcases Nat.lt_succ_iff_lt_or_eq.1 hi with g | g
    · rw [fe_at h he n g, if_neg he]
    · subst g; rw [fe_0 i h, if_pos rfl]
def sm (m : Mat) (a : List Int) : Nat → Int
  | 0 => 0
  | i + 1 => sm m a i + pr m i (ix a i)
theorem pr_hi {m : Mat} (hO : Ok m) {i : Nat} (hi : i < m.row.length) {k : Int} (hk : k < (m.col.length : Int)) : pr m i k ≤ 2147483648 := by
  unfold pr
  by_cases h : k < 0
  · rw [if_pos h]; exact (hO.rw i hi).2
  · rw [if_neg h]; exact ((hO.t i (by rw [hO.e]; exact hi)).2 k.toNat (by omega)).2
theorem sm_in {m : Mat} (hO : Ok m) {a : List Int} : ∀ i, i ≤ m.row.length → (∀ q, q < i → er m a q = 0) → 0 ≤ sm m a i ∧ sm m a i ≤ 2147483648 * (i : Int)
  | 0, _, _ => by simp [sm]
  | i + 1, hi, h => by
    have ih := sm_in hO i (by omega) (fun q hq => h q (by omega))
    have h1 := er_lt (h i (by omega))
    have h2 := pr_hi hO (i := i) (by omega) h1.2.1
    simp only [sm]; omega
/-- the columns that stay -/
def lf (c : List Int) (t : Nat) : Nat → Int
  | 0 => 0
  | j + 1 => lf c t j + (bif t.testBit j then 0 else ix c j)
def cl (m : Mat) (a : List Int) (n : Nat) : Nat → Int
  | 0 => 0
  | j + 1 => cl m a n j + (bif us a (j : Int) n then 0 else ix m.col j)
theorem lf_cl (m : Mat) (a : List Int) (n : Nat) : ∀ k, lf m.col (tn a n) k = cl m a n k
  | 0 => rfl
  | k + 1 => by simp only [lf, cl]; rw [lf_cl m a n k, tn_bit]
theorem cl_in {m : Mat} (hO : Ok m) (a : List Int) (n : Nat) : ∀ k, k ≤ m.col.length → 0 ≤ cl m a n k ∧ cl m a n k ≤ 2147483648 * (k : Int)
  | 0, _ => by simp [cl]
  | k + 1, h => by
    have ih := cl_in hO a n k (by omega)
    have := hO.cw k (by omega)
    simp only [cl]
    cases us a (k : Int) n <;> simp only [cond_true, cond_false] <;> omega
theorem lf_in {m : Mat} (hO : Ok m) (t : Nat) : ∀ k, k ≤ m.col.length → 0 ≤ lf m.col t k ∧ lf m.col t k ≤ 2147483648 * (k : Int)
  | 0, _ => by simp [lf]
  | k + 1, h => by
    have ih := lf_in hO t k (by omega)
    have := hO.cw k (by omega)
    simp only [lf]
    cases t.testBit k <;> simp only [cond_true, cond_false] <;> omega
def tt (m : Mat) (a : List Int) : Int × Int := if ck m ≠ 0 then (0, ck m) else if a.length ≠ m.row.length then (0, 2) else if fe m a a.length ≠ 0 then (0, fe m a a.length) else (sm m a a.length + cl m a a.length m.col.length, 0)
theorem tt_c {m : Mat} {a : List Int} (h : ck m ≠ 0) : tt m a = (0, ck m) := if_pos h
theorem tt_l {m : Mat} {a : List Int} (h : ck m = 0) (h1 : a.length ≠ m.row.length) : tt m a = (0, 2) := by unfold tt; rw [if_neg (by simp [h]), if_pos h1]
theorem tt_e {m : Mat} {a : List Int} (h : ck m = 0) (h1 : a.length = m.row.length) {i : Nat} (hi : i < a.length) (hq : ∀ q, q < i → er m a q = 0) {c : Int} (he : er m a i = c) (hc : c ≠ 0) : tt m a = (0, c) := by
  unfold tt
  rw [if_neg (by simp [h]), if_neg (by simp [h1]), fe_at hq (by rw [he]; exact hc) _ hi, he, if_pos hc]
theorem tt_0 {m : Mat} {a : List Int} (h : ck m = 0) (h1 : a.length = m.row.length) (hq : ∀ q, q < a.length → er m a q = 0) : tt m a = (sm m a a.length + cl m a a.length m.col.length, 0) := by
  unfold tt
  rw [if_neg (by simp [h]), if_neg (by simp [h1]), fe_0 _ hq, if_neg (by simp)]

set_option maxHeartbeats 4000000 in
set_option maxRecDepth 100000 in
theorem wiC (l : List Int) (n : Int) (hl : l.length ≤ 20) : Ctr Try.prog 28 [.sl 1 (List.map (rI .i64) l), .fl (.int .i64 n)] (.d (.fl (.bool (wi l n)))) := by
  refine ctr (n := 21) (rs := #[.tmp 4]) (L := [(0, .d (.sl 1 (List.map (rI .i64) l))), (1, .d (.fl (.int .i64 n)))]) Try.func28 rfl rfl rfl rfl rfl (fun w0 U0 => ?_)
  refine a_rseq ?_
  refine rg_put (d := 4) (v := .d (.fl (.bool false))) rfl (og rfl (op_assign rfl rfl rfl)) ?_
  refine rg_done rfl ?_
  refine a_seq ?_
  refine a_rseq ?_
  refine rg_put (d := 7) (v := .d (.sl 1 (List.map (rI .i64) l))) rfl (og rfl (op_move rfl rfl rfl)) ?_
  refine rg_put (d := 8) (v := .d (.fl (.int .i64 (l.length : Int)))) rfl (og rfl (s_len rfl Try.underlying23 rfl rfl)) ?_
  refine rg_put (d := 9) (v := .d (.fl (.int .i64 0))) rfl (og rfl (op_move rfl rfl rfl)) ?_
  refine rg_done rfl ?_
  refine a_block ?_
  refine a_loop (ι := Nat) (fun k => SS [(0, .d (.sl 1 (List.map (rI .i64) l))), (1, .d (.fl (.int .i64 n))), (7, .d (.sl 1 (List.map (rI .i64) l))), (8, .d (.fl (.int .i64 (l.length : Int)))), (9, .d (.fl (.int .i64 (k : Int))))] []) (fun k => k ≤ l.length ∧ ∀ q, q < k → (wb n (ix l q)) = false) (fun k => l.length - k) 0 (⟨by omega, fun q h => by omega⟩) (imp_forget rfl ⟨rfl, rfl, rfl, rfl, (by first | rfl | exact ci (by omega) | exact ci (by simp) | exact cd (by simp) | simp), trivial⟩ trivial) (fun k hok => ?_)
  obtain ⟨hkk, hq⟩ := hok
  refine a_rseq ?_
  refine rg_put (d := 10) (v := .d (.fl (.bool ((decide ((k : Int) < (l.length : Int))))))) rfl (og rfl (op_bin rfl rfl rfl (b_lss _ _ _ _) rfl)) ?_
  refine rg_done rfl ?_
  refine a_seq ?_
  refine a_cond rfl (fun h1 => ?_) (fun h1 => ?_)
  · skip
    have h2 := t_dec h1
    refine a_skip ?_
    show A _ _ _ _ _ _ _
    refine a_seq ?_
    refine a_block ?_
    refine a_rseq ?_
    refine rg_put (d := 11) (v := .el ((rI .i64 (ix l k)))) rfl (og rfl (s_index rfl Try.underlying23 ti3 rfl rfl (by omega) (row_at (by omega)) rfl)) ?_
    refine rg_put (d := 12) (v := .d (.fl (.int .i64 (ix l k)))) rfl (og rfl (op_load_el rfl Try.underlying3 rfl rfl rfl rfl)) ?_
    refine rg_put (d := 6) (v := .d (.fl (.int .i64 (ix l k)))) rfl (og rfl (op_assign rfl rfl rfl)) ?_
    refine rg_done rfl ?_
    refine a_rseq ?_
    refine rg_put (d := 13) (v := .d (.fl (.int .i64 (ix l k)))) rfl (og rfl (op_move rfl rfl rfl)) ?_
    refine rg_put (d := 14) (v := .d (.fl (.int .i64 n))) rfl (og rfl (op_move rfl rfl rfl)) ?_
    refine rg_put (d := 15) (v := .d (.fl (.bool ((decide ((ix l k) < n)))))) rfl (og rfl (op_bin rfl rfl rfl (b_lss _ _ _ _) rfl)) ?_
    refine rg_put (d := 16) (v := .d (.fl (.bool ((decide ((ix l k) < n)))))) rfl (og rfl (op_move rfl rfl rfl)) ?_
    rcases fot ((decide ((ix l k) < n))) with h3 | h3
    · skip
      have h4 := f_dec h3
      refine rg_put (d := 17) (v := .d (.fl (.int .i64 (ix l k)))) rfl (oy rfl rfl rfl h3 (op_move rfl rfl rfl)) ?_
      refine rg_put (d := 18) (v := .d (.fl (.bool ((decide (2147483648 < (ix l k))))))) rfl (oy rfl rfl rfl h3 (op_bin rfl rfl rfl (b_gtr _ _ _ _) rfl)) ?_
      refine rg_put (d := 19) (v := .d (.fl (.bool ((decide (2147483648 < (ix l k))))))) rfl (og rfl (op_pick rfl rfl (by rw [h3]; rfl) rfl)) ?_
      refine rg_done rfl ?_
      refine a_cond rfl (fun h5 => ?_) (fun h5 => ?_)
      · skip
        have h6 := t_dec h5
        refine a_rseq ?_
        refine rg_put (d := 4) (v := .d (.fl (.bool false))) rfl (og rfl (op_assign rfl rfl rfl)) ?_
        refine rg_done rfl ?_
        refine a_ret ?_
        show ∃ ds, ResL _ _ _ ds ∧ RV.of ds = _
        refine ⟨[.fl (.bool false)], (.cons (.tmp rfl (.d _)) .nil), ?_⟩
        have hx : (wb n (ix l k)) = true := by unfold wb; simp only [h1, h3, h5, Bool.true_or, Bool.false_or, Bool.or_true, Bool.or_false, Bool.not_true, Bool.not_false, cond_true, cond_false, Bool.true_and, Bool.false_and, Bool.and_true, Bool.and_false] <;> rfl
        rw [show wi l n = false from wi_no (by omega) hx]; rfl
      · skip
        have h7 := f_dec h5
        refine a_skip ?_
        show A _ _ _ _ _ _ _
        refine a_region ?_
        refine rg_put (d := 20) (v := .d (.fl (.int .i64 (((k : Int) + 1))))) rfl (og rfl (op_bin rfl rfl rfl (fun x y w => b_add64 _ _ _ x y w (by omega)) rfl)) ?_
        refine rg_put (d := 9) (v := .d (.fl (.int .i64 (((k : Int) + 1))))) rfl (og rfl (op_move rfl rfl rfl)) ?_
        refine rg_done rfl ?_
        have hx : (wb n (ix l k)) = false := by unfold wb; simp only [h1, h3, h5, Bool.true_or, Bool.false_or, Bool.or_true, Bool.or_false, Bool.not_true, Bool.not_false, cond_true, cond_false, Bool.true_and, Bool.false_and, Bool.and_true, Bool.and_false] <;> rfl
        show ∃ i, _ ∧ _ ∧ Imp _ _ _ _ _
        refine ⟨k + 1, ⟨by omega, fun q h => (Nat.lt_succ_iff_lt_or_eq.1 h).elim (hq q) (fun e => by rw [e]; exact hx)⟩, by omega, imp_forget rfl ⟨rfl, rfl, rfl, rfl, (by first | rfl | exact ci (by omega) | exact ci (by simp) | exact cd (by simp) | simp), trivial⟩ trivial⟩
    · skip
      have h8 := t_dec h3
      refine rg_put (d := 17) (v := .d (.fl undef)) rfl (on rfl rfl rfl h3) ?_
      refine rg_put (d := 18) (v := .d (.fl undef)) rfl (on rfl rfl rfl h3) ?_
      refine rg_put (d := 19) (v := .d (.fl (.bool true))) rfl (og rfl (op_pick rfl rfl (by rw [h3]; rfl) rfl)) ?_
      refine rg_done rfl ?_
      refine a_condK rfl rfl ?_
      refine a_rseq ?_
      refine rg_put (d := 4) (v := .d (.fl (.bool false))) rfl (og rfl (op_assign rfl rfl rfl)) ?_
      refine rg_done rfl ?_
      refine a_ret ?_
      show ∃ ds, ResL _ _ _ ds ∧ RV.of ds = _
      refine ⟨[.fl (.bool false)], (.cons (.tmp rfl (.d _)) .nil), ?_⟩
      have hx : (wb n (ix l k)) = true := by unfold wb; simp only [h1, h3, Bool.true_or, Bool.false_or, Bool.or_true, Bool.or_false, Bool.not_true, Bool.not_false, cond_true, cond_false, Bool.true_and, Bool.false_and, Bool.and_true, Bool.and_false] <;> rfl
      rw [show wi l n = false from wi_no (by omega) hx]; rfl
  · skip
    have h9 := f_dec h1
    refine a_exit ?_
    show A _ _ _ _ _ _ _
    refine a_rseq ?_
    refine rg_put (d := 4) (v := .d (.fl (.bool true))) rfl (og rfl (op_assign rfl rfl rfl)) ?_
    refine rg_done rfl ?_
    refine a_ret ?_
    show ∃ ds, ResL _ _ _ ds ∧ RV.of ds = _
    refine ⟨[.fl (.bool true)], (.cons (.tmp rfl (.d _)) .nil), ?_⟩
    rw [show wi l n = true from wi_yes (fun q h => hq q (by omega))]; rfl
set_option maxHeartbeats 4000000 in
set_option maxRecDepth 100000 in
theorem grC (m : Mat) : Ctr Try.prog 10 [.ag (eMat m)] (.d (.fl (.bool (gr m)))) := by
  refine ctr (n := 32) (rs := #[.tmp 2]) (L := [(0, .d (.ag (eMat m)))]) Try.func10 rfl rfl rfl rfl rfl (fun w0 U0 => ?_)
  refine a_rseq ?_
  refine rg_nam (d := 1) (v := .pt 101 0) (m := 101) (nw := [(101, .bx 25 (eMat m))]) rfl (og rfl (of_eff (op_box 101 rfl rfl rfl rfl) rfl)) rfl ?_
  refine rg_put (d := 2) (v := .d (.fl (.bool false))) rfl (og rfl (op_assign rfl rfl rfl)) ?_
  refine rg_done rfl ?_
  refine a_seq ?_
  refine a_rseq ?_
  refine rg_put (d := 5) (v := .pt 101 0) rfl (og rfl (of_eff (s_field_pt rfl Try.underlying25 rfl ti22 rfl rfl rfl) rfl)) ?_
  refine rg_put (d := 6) (v := .d (.sl 1 (List.map (rL 1 (rI .i64)) m.cost))) rfl (og rfl (op_load_pt rfl Try.underlying22 rfl rfl rfl rfl rfl)) ?_
  refine rg_put (d := 7) (v := .d (.fl (.int .i64 (m.cost.length : Int)))) rfl (og rfl (s_len rfl Try.underlying22 rfl rfl)) ?_
  refine rg_put (d := 8) (v := .d (.fl (.bool ((decide (20 < (m.cost.length : Int))))))) rfl (og rfl (op_bin rfl rfl rfl (b_gtr _ _ _ _) rfl)) ?_
  refine rg_put (d := 9) (v := .d (.fl (.bool ((decide (20 < (m.cost.length : Int))))))) rfl (og rfl (op_move rfl rfl rfl)) ?_
  rcases fot ((decide (20 < (m.cost.length : Int)))) with h1 | h1
  · skip
    have h2 := f_dec h1
    refine rg_put (d := 10) (v := .pt 101 1) rfl (oy rfl rfl rfl h1 (of_eff (s_field_pt rfl Try.underlying25 rfl ti23 rfl rfl rfl) rfl)) ?_
    refine rg_put (d := 11) (v := .d (.sl 1 (List.map (rI .i64) m.row))) rfl (oy rfl rfl rfl h1 (op_load_pt rfl Try.underlying23 rfl rfl rfl rfl rfl)) ?_
    refine rg_put (d := 12) (v := .d (.fl (.int .i64 (m.row.length : Int)))) rfl (oy rfl rfl rfl h1 (s_len rfl Try.underlying23 rfl rfl)) ?_
    refine rg_put (d := 13) (v := .d (.fl (.bool ((decide (20 < (m.row.length : Int))))))) rfl (oy rfl rfl rfl h1 (op_bin rfl rfl rfl (b_gtr _ _ _ _) rfl)) ?_
    refine rg_put (d := 14) (v := .d (.fl (.bool ((decide (20 < (m.row.length : Int))))))) rfl (og rfl (op_pick rfl rfl (by rw [h1]; rfl) rfl)) ?_
    refine rg_put (d := 15) (v := .d (.fl (.bool ((decide (20 < (m.row.length : Int))))))) rfl (og rfl (op_move rfl rfl rfl)) ?_
    rcases fot ((decide (20 < (m.row.length : Int)))) with h3 | h3
    · skip
      have h4 := f_dec h3
      refine rg_put (d := 16) (v := .pt 101 2) rfl (oy rfl rfl rfl h3 (of_eff (s_field_pt rfl Try.underlying25 rfl ti23 rfl rfl rfl) rfl)) ?_
      refine rg_put (d := 17) (v := .d (.sl 1 (List.map (rI .i64) m.col))) rfl (oy rfl rfl rfl h3 (op_load_pt rfl Try.underlying23 rfl rfl rfl rfl rfl)) ?_
      refine rg_put (d := 18) (v := .d (.fl (.int .i64 (m.col.length : Int)))) rfl (oy rfl rfl rfl h3 (s_len rfl Try.underlying23 rfl rfl)) ?_
      refine rg_put (d := 19) (v := .d (.fl (.bool ((decide (20 < (m.col.length : Int))))))) rfl (oy rfl rfl rfl h3 (op_bin rfl rfl rfl (b_gtr _ _ _ _) rfl)) ?_
      refine rg_put (d := 20) (v := .d (.fl (.bool ((decide (20 < (m.col.length : Int))))))) rfl (og rfl (op_pick rfl rfl (by rw [h3]; rfl) rfl)) ?_
      refine rg_done rfl ?_
      refine a_cond rfl (fun h5 => ?_) (fun h5 => ?_)
      · skip
        have h6 := t_dec h5
        refine a_rseq ?_
        refine rg_put (d := 2) (v := .d (.fl (.bool true))) rfl (og rfl (op_assign rfl rfl rfl)) ?_
        refine rg_done rfl ?_
        refine a_ret ?_
        show ∃ ds, ResL _ _ _ ds ∧ RV.of ds = _
        refine ⟨[.fl (.bool true)], (.cons (.tmp rfl (.d _)) .nil), ?_⟩
        first
          | (rw [gr_y1 (m := m) (by omega)]; rfl)
          | (rw [gr_y2 (m := m) (k := k) (by omega) (by omega)]; rfl)
      · skip
        have h7 := f_dec h5
        refine a_skip ?_
        show A _ _ _ _ _ _ _
        refine a_seq ?_
        refine a_rseq ?_
        refine rg_put (d := 21) (v := .pt 101 0) rfl (og rfl (of_eff (s_field_pt rfl Try.underlying25 rfl ti22 rfl rfl rfl) rfl)) ?_
        refine rg_put (d := 22) (v := .d (.sl 1 (List.map (rL 1 (rI .i64)) m.cost))) rfl (og rfl (op_load_pt rfl Try.underlying22 rfl rfl rfl rfl rfl)) ?_
        refine rg_put (d := 23) (v := .d (.fl (.int .i64 (m.cost.length : Int)))) rfl (og rfl (s_len rfl Try.underlying22 rfl rfl)) ?_
        refine rg_put (d := 24) (v := .d (.fl (.int .i64 0))) rfl (og rfl (op_move rfl rfl rfl)) ?_
        refine rg_done rfl ?_
        refine a_block ?_
        refine a_loop (ι := Nat) (fun k => SS [(0, .d (.ag (eMat m))), (1, .pt 101 0), (20, .d (.fl (.bool ((decide (20 < (m.col.length : Int))))))), (22, .d (.sl 1 (List.map (rL 1 (rI .i64)) m.cost))), (23, .d (.fl (.int .i64 (m.cost.length : Int)))), (24, .d (.fl (.int .i64 (k : Int))))] [(101, .bx 25 (eMat m))]) (fun k => k ≤ m.cost.length ∧ ∀ q, q < k → (decide (20 < ((ix m.cost q).length : Int))) = false) (fun k => m.cost.length - k) 0 (⟨by omega, fun q h => by omega⟩) (imp_forget rfl ⟨rfl, rfl, rfl, rfl, rfl, (by first | rfl | exact ci (by omega) | exact ci (by simp) | exact cd (by simp) | simp), trivial⟩ ⟨rfl, trivial⟩) (fun k hok => ?_)
        obtain ⟨hkk, hq⟩ := hok
        refine a_rseq ?_
        refine rg_put (d := 25) (v := .d (.fl (.bool ((decide ((k : Int) < (m.cost.length : Int))))))) rfl (og rfl (op_bin rfl rfl rfl (b_lss _ _ _ _) rfl)) ?_
        refine rg_done rfl ?_
        refine a_seq ?_
        refine a_cond rfl (fun h8 => ?_) (fun h8 => ?_)
        · skip
          have h9 := t_dec h8
          refine a_skip ?_
          show A _ _ _ _ _ _ _
          refine a_seq ?_
          refine a_block ?_
          refine a_rseq ?_
          refine rg_put (d := 26) (v := .el (((rL 1 (rI .i64)) (ix m.cost k)))) rfl (og rfl (s_index rfl Try.underlying22 ti23 rfl rfl (by omega) (row_at (by omega)) rfl)) ?_
          refine rg_put (d := 27) (v := .d (.sl 1 (List.map (rI .i64) (ix m.cost k)))) rfl (og rfl (op_load_el rfl Try.underlying23 rfl rfl rfl rfl)) ?_
          refine rg_put (d := 4) (v := .d (.sl 1 (List.map (rI .i64) (ix m.cost k)))) rfl (og rfl (op_assign rfl rfl rfl)) ?_
          refine rg_done rfl ?_
          refine a_rseq ?_
          refine rg_put (d := 28) (v := .d (.sl 1 (List.map (rI .i64) (ix m.cost k)))) rfl (og rfl (op_move rfl rfl rfl)) ?_
          refine rg_put (d := 29) (v := .d (.fl (.int .i64 (((ix m.cost k).length : Int))))) rfl (og rfl (s_len rfl Try.underlying23 rfl rfl)) ?_
          refine rg_put (d := 30) (v := .d (.fl (.bool ((decide (20 < ((ix m.cost k).length : Int))))))) rfl (og rfl (op_bin rfl rfl rfl (b_gtr _ _ _ _) rfl)) ?_
          refine rg_done rfl ?_
          refine a_cond rfl (fun h10 => ?_) (fun h10 => ?_)
          · skip
            have h11 := t_dec h10
            refine a_rseq ?_
            refine rg_put (d := 2) (v := .d (.fl (.bool true))) rfl (og rfl (op_assign rfl rfl rfl)) ?_
            refine rg_done rfl ?_
            refine a_ret ?_
            show ∃ ds, ResL _ _ _ ds ∧ RV.of ds = _
            refine ⟨[.fl (.bool true)], (.cons (.tmp rfl (.d _)) .nil), ?_⟩
            first
              | (rw [gr_y1 (m := m) (by omega)]; rfl)
              | (rw [gr_y2 (m := m) (k := k) (by omega) (by omega)]; rfl)
          · skip
            have h12 := f_dec h10
            refine a_skip ?_
            show A _ _ _ _ _ _ _
            refine a_region ?_
            refine rg_put (d := 31) (v := .d (.fl (.int .i64 (((k : Int) + 1))))) rfl (og rfl (op_bin rfl rfl rfl (fun x y w => b_add64 _ _ _ x y w (by omega)) rfl)) ?_
            refine rg_put (d := 24) (v := .d (.fl (.int .i64 (((k : Int) + 1))))) rfl (og rfl (op_move rfl rfl rfl)) ?_
            refine rg_done rfl ?_
            have hx : (decide (20 < ((ix m.cost k).length : Int))) = false := h10
            show ∃ i, _ ∧ _ ∧ Imp _ _ _ _ _
            refine ⟨k + 1, ⟨by omega, fun q h => (Nat.lt_succ_iff_lt_or_eq.1 h).elim (hq q) (fun e => by rw [e]; exact hx)⟩, by omega, imp_forget rfl ⟨rfl, rfl, rfl, rfl, rfl, (by first | rfl | exact ci (by omega) | exact ci (by simp) | exact cd (by simp) | simp), trivial⟩ ⟨rfl, trivial⟩⟩
        · skip
          have h13 := f_dec h8
          refine a_exit ?_
          show A _ _ _ _ _ _ _
          refine a_rseq ?_
          refine rg_put (d := 2) (v := .d (.fl (.bool false))) rfl (og rfl (op_assign rfl rfl rfl)) ?_
          refine rg_done rfl ?_
          refine a_ret ?_
          show ∃ ds, ResL _ _ _ ds ∧ RV.of ds = _
          refine ⟨[.fl (.bool false)], (.cons (.tmp rfl (.d _)) .nil), ?_⟩
          rw [gr_n (m := m) (by omega) (fun q h => by have := of_decide_eq_false (hq q (by omega)); omega)]; rfl
    · skip
      have h14 := t_dec h3
      refine rg_put (d := 16) (v := .d (.fl undef)) rfl (on rfl rfl rfl h3) ?_
      refine rg_put (d := 17) (v := .d (.fl undef)) rfl (on rfl rfl rfl h3) ?_
      refine rg_put (d := 18) (v := .d (.fl undef)) rfl (on rfl rfl rfl h3) ?_
      refine rg_put (d := 19) (v := .d (.fl undef)) rfl (on rfl rfl rfl h3) ?_
      refine rg_put (d := 20) (v := .d (.fl (.bool true))) rfl (og rfl (op_pick rfl rfl (by rw [h3]; rfl) rfl)) ?_
      refine rg_done rfl ?_
      refine a_condK rfl rfl ?_
      refine a_rseq ?_
      refine rg_put (d := 2) (v := .d (.fl (.bool true))) rfl (og rfl (op_assign rfl rfl rfl)) ?_
      refine rg_done rfl ?_
      refine a_ret ?_
      show ∃ ds, ResL _ _ _ ds ∧ RV.of ds = _
      refine ⟨[.fl (.bool true)], (.cons (.tmp rfl (.d _)) .nil), ?_⟩
      first
        | (rw [gr_y1 (m := m) (by omega)]; rfl)
        | (rw [gr_y2 (m := m) (k := k) (by omega) (by omega)]; rfl)
  · skip
    have h15 := t_dec h1
    refine rg_put (d := 10) (v := .d (.fl undef)) rfl (on rfl rfl rfl h1) ?_
    refine rg_put (d := 11) (v := .d (.fl undef)) rfl (on rfl rfl rfl h1) ?_
    refine rg_put (d := 12) (v := .d (.fl undef)) rfl (on rfl rfl rfl h1) ?_
    refine rg_put (d := 13) (v := .d (.fl undef)) rfl (on rfl rfl rfl h1) ?_
    refine rg_put (d := 14) (v := .d (.fl (.bool true))) rfl (og rfl (op_pick rfl rfl (by rw [h1]; rfl) rfl)) ?_
    refine rg_put (d := 15) (v := .d (.fl (.bool true))) rfl (og rfl (op_move rfl rfl rfl)) ?_
    refine rg_put (d := 16) (v := .d (.fl undef)) rfl (on rfl rfl rfl rfl) ?_
    refine rg_put (d := 17) (v := .d (.fl undef)) rfl (on rfl rfl rfl rfl) ?_
    refine rg_put (d := 18) (v := .d (.fl undef)) rfl (on rfl rfl rfl rfl) ?_
    refine rg_put (d := 19) (v := .d (.fl undef)) rfl (on rfl rfl rfl rfl) ?_
    refine rg_put (d := 20) (v := .d (.fl (.bool true))) rfl (og rfl (op_pick rfl rfl rfl rfl)) ?_
    refine rg_done rfl ?_
    refine a_condK rfl rfl ?_
    refine a_rseq ?_
    refine rg_put (d := 2) (v := .d (.fl (.bool true))) rfl (og rfl (op_assign rfl rfl rfl)) ?_
    refine rg_done rfl ?_
    refine a_ret ?_
    show ∃ ds, ResL _ _ _ ds ∧ RV.of ds = _
    refine ⟨[.fl (.bool true)], (.cons (.tmp rfl (.d _)) .nil), ?_⟩
    first
      | (rw [gr_y1 (m := m) (by omega)]; rfl)
      | (rw [gr_y2 (m := m) (k := k) (by omega) (by omega)]; rfl)
set_option maxHeartbeats 4000000 in
set_option maxRecDepth 100000 in
theorem ckP (m : Mat) (hb : Bd m) (hb1 : m.cost.length ≤ 20) (hb2 : m.row.length ≤ 20) (hb3 : m.col.length ≤ 20) : Ctr Try.prog 14 [.ag (eMat m)] (.d (.fl (.int .i64 (ck m)))) := by
  refine ctr (n := 51) (rs := #[.tmp 2]) (L := [(0, .d (.ag (eMat m)))]) Try.func14 rfl rfl rfl rfl rfl (fun w0 U0 => ?_)
  refine a_rseq ?_
  refine rg_nam (d := 1) (v := .pt 101 0) (m := 101) (nw := [(101, .bx 25 (eMat m))]) rfl (og rfl (of_eff (op_box 101 rfl rfl rfl rfl) rfl)) rfl ?_
  refine rg_put (d := 2) (v := .d (.fl (.int .i64 0))) rfl (og rfl (op_assign rfl rfl rfl)) ?_
  refine rg_done rfl ?_
  refine a_seq ?_
  refine a_rseq ?_
  refine rg_put (d := 5) (v := .pt 101 1) rfl (og rfl (of_eff (s_field_pt rfl Try.underlying25 rfl ti23 rfl rfl rfl) rfl)) ?_
  refine rg_put (d := 6) (v := .d (.sl 1 (List.map (rI .i64) m.row))) rfl (og rfl (op_load_pt rfl Try.underlying23 rfl rfl rfl rfl rfl)) ?_
  refine rg_put (d := 7) (v := .d (.fl (.int .i64 (m.row.length : Int)))) rfl (og rfl (s_len rfl Try.underlying23 rfl rfl)) ?_
  refine rg_put (d := 8) (v := .d (.fl (.bool ((decide (8 < (m.row.length : Int))))))) rfl (og rfl (op_bin rfl rfl rfl (b_gtr _ _ _ _) rfl)) ?_
  refine rg_put (d := 9) (v := .d (.fl (.bool ((decide (8 < (m.row.length : Int))))))) rfl (og rfl (op_move rfl rfl rfl)) ?_
  rcases fot ((decide (8 < (m.row.length : Int)))) with h1 | h1
  · skip
    have h2 := f_dec h1
    refine rg_put (d := 10) (v := .pt 101 2) rfl (oy rfl rfl rfl h1 (of_eff (s_field_pt rfl Try.underlying25 rfl ti23 rfl rfl rfl) rfl)) ?_
    refine rg_put (d := 11) (v := .d (.sl 1 (List.map (rI .i64) m.col))) rfl (oy rfl rfl rfl h1 (op_load_pt rfl Try.underlying23 rfl rfl rfl rfl rfl)) ?_
    refine rg_put (d := 12) (v := .d (.fl (.int .i64 (m.col.length : Int)))) rfl (oy rfl rfl rfl h1 (s_len rfl Try.underlying23 rfl rfl)) ?_
    refine rg_put (d := 13) (v := .d (.fl (.bool ((decide (8 < (m.col.length : Int))))))) rfl (oy rfl rfl rfl h1 (op_bin rfl rfl rfl (b_gtr _ _ _ _) rfl)) ?_
    refine rg_put (d := 14) (v := .d (.fl (.bool ((decide (8 < (m.col.length : Int))))))) rfl (og rfl (op_pick rfl rfl (by rw [h1]; rfl) rfl)) ?_
    refine rg_done rfl ?_
    refine a_cond rfl (fun h3 => ?_) (fun h3 => ?_)
    · skip
      have h4 := t_dec h3
      refine a_rseq ?_
      refine rg_put (d := 2) (v := .d (.fl (.int .i64 3))) rfl (og rfl (op_assign rfl rfl rfl)) ?_
      refine rg_done rfl ?_
      refine a_ret ?_
      show ∃ ds, ResL _ _ _ ds ∧ RV.of ds = _
      refine ⟨[.fl (.int .i64 3)], (.cons (.tmp rfl (.d _)) .nil), ?_⟩
      first
        | (rw [ck_3 (m := m) (by omega)]; rfl)
        | (rw [ck_1a (m := m) (by omega) (by omega)]; rfl)
    · skip
      have h5 := f_dec h3
      refine a_skip ?_
      show A _ _ _ _ _ _ _
      refine a_seq ?_
      refine a_rseq ?_
      refine rg_put (d := 15) (v := .pt 101 0) rfl (og rfl (of_eff (s_field_pt rfl Try.underlying25 rfl ti22 rfl rfl rfl) rfl)) ?_
      refine rg_put (d := 16) (v := .d (.sl 1 (List.map (rL 1 (rI .i64)) m.cost))) rfl (og rfl (op_load_pt rfl Try.underlying22 rfl rfl rfl rfl rfl)) ?_
      refine rg_put (d := 17) (v := .d (.fl (.int .i64 (m.cost.length : Int)))) rfl (og rfl (s_len rfl Try.underlying22 rfl rfl)) ?_
      refine rg_put (d := 18) (v := .pt 101 1) rfl (og rfl (of_eff (s_field_pt rfl Try.underlying25 rfl ti23 rfl rfl rfl) rfl)) ?_
      refine rg_put (d := 19) (v := .d (.sl 1 (List.map (rI .i64) m.row))) rfl (og rfl (op_load_pt rfl Try.underlying23 rfl rfl rfl rfl rfl)) ?_
      refine rg_put (d := 20) (v := .d (.fl (.int .i64 (m.row.length : Int)))) rfl (og rfl (s_len rfl Try.underlying23 rfl rfl)) ?_
      refine rg_put (d := 21) (v := .d (.fl (.bool (((m.cost.length : Int) != (m.row.length : Int)))))) rfl (og rfl (op_bin rfl rfl rfl (b_neq _ _ _ _) rfl)) ?_
      refine rg_done rfl ?_
      refine a_cond rfl (fun h6 => ?_) (fun h6 => ?_)
      · skip
        have h7 := t_bne h6
        refine a_rseq ?_
        refine rg_put (d := 2) (v := .d (.fl (.int .i64 1))) rfl (og rfl (op_assign rfl rfl rfl)) ?_
        refine rg_done rfl ?_
        refine a_ret ?_
        show ∃ ds, ResL _ _ _ ds ∧ RV.of ds = _
        refine ⟨[.fl (.int .i64 1)], (.cons (.tmp rfl (.d _)) .nil), ?_⟩
        first
          | (rw [ck_3 (m := m) (by omega)]; rfl)
          | (rw [ck_1a (m := m) (by omega) (by omega)]; rfl)
      · skip
        have h8 := f_bne h6
        refine a_skip ?_
        show A _ _ _ _ _ _ _
        refine a_seq ?_
        refine a_rseq ?_
        refine rg_put (d := 22) (v := .pt 101 0) rfl (og rfl (of_eff (s_field_pt rfl Try.underlying25 rfl ti22 rfl rfl rfl) rfl)) ?_
        refine rg_put (d := 23) (v := .d (.sl 1 (List.map (rL 1 (rI .i64)) m.cost))) rfl (og rfl (op_load_pt rfl Try.underlying22 rfl rfl rfl rfl rfl)) ?_
        refine rg_put (d := 24) (v := .d (.fl (.int .i64 (m.cost.length : Int)))) rfl (og rfl (s_len rfl Try.underlying22 rfl rfl)) ?_
        refine rg_put (d := 25) (v := .d (.fl (.int .i64 0))) rfl (og rfl (op_move rfl rfl rfl)) ?_
        refine rg_done rfl ?_
        refine a_block ?_
        refine a_loop (ι := Nat) (fun k => SS [(0, .d (.ag (eMat m))), (1, .pt 101 0), (14, .d (.fl (.bool ((decide (8 < (m.col.length : Int))))))), (21, .d (.fl (.bool (((m.cost.length : Int) != (m.row.length : Int)))))), (23, .d (.sl 1 (List.map (rL 1 (rI .i64)) m.cost))), (24, .d (.fl (.int .i64 (m.cost.length : Int)))), (25, .d (.fl (.int .i64 (k : Int))))] [(101, .bx 25 (eMat m))]) (fun k => k ≤ m.cost.length ∧ ∀ q, q < k → (cb m (ix m.cost q)) = false) (fun k => m.cost.length - k) 0 (⟨by omega, fun q h => by omega⟩) (imp_forget rfl ⟨rfl, rfl, rfl, rfl, rfl, rfl, (by first | rfl | exact ci (by omega) | exact ci (by simp) | exact cd (by simp) | simp), trivial⟩ ⟨rfl, trivial⟩) (fun k hok => ?_)
        obtain ⟨hkk, hq⟩ := hok
        refine a_rseq ?_
        refine rg_put (d := 26) (v := .d (.fl (.bool ((decide ((k : Int) < (m.cost.length : Int))))))) rfl (og rfl (op_bin rfl rfl rfl (b_lss _ _ _ _) rfl)) ?_
        refine rg_done rfl ?_
        refine a_seq ?_
        refine a_cond rfl (fun h9 => ?_) (fun h9 => ?_)
        · skip
          have h10 := t_dec h9
          refine a_skip ?_
          show A _ _ _ _ _ _ _
          refine a_seq ?_
          refine a_block ?_
          refine a_rseq ?_
          refine rg_put (d := 27) (v := .el (((rL 1 (rI .i64)) (ix m.cost k)))) rfl (og rfl (s_index rfl Try.underlying22 ti23 rfl rfl (by omega) (row_at (by omega)) rfl)) ?_
          refine rg_put (d := 28) (v := .d (.sl 1 (List.map (rI .i64) (ix m.cost k)))) rfl (og rfl (op_load_el rfl Try.underlying23 rfl rfl rfl rfl)) ?_
          refine rg_put (d := 4) (v := .d (.sl 1 (List.map (rI .i64) (ix m.cost k)))) rfl (og rfl (op_assign rfl rfl rfl)) ?_
          refine rg_done rfl ?_
          refine a_rseq ?_
          refine rg_put (d := 29) (v := .d (.sl 1 (List.map (rI .i64) (ix m.cost k)))) rfl (og rfl (op_move rfl rfl rfl)) ?_
          refine rg_put (d := 30) (v := .d (.fl (.int .i64 (((ix m.cost k).length : Int))))) rfl (og rfl (s_len rfl Try.underlying23 rfl rfl)) ?_
          refine rg_put (d := 31) (v := .pt 101 2) rfl (og rfl (of_eff (s_field_pt rfl Try.underlying25 rfl ti23 rfl rfl rfl) rfl)) ?_
          refine rg_put (d := 32) (v := .d (.sl 1 (List.map (rI .i64) m.col))) rfl (og rfl (op_load_pt rfl Try.underlying23 rfl rfl rfl rfl rfl)) ?_
          refine rg_put (d := 33) (v := .d (.fl (.int .i64 (m.col.length : Int)))) rfl (og rfl (s_len rfl Try.underlying23 rfl rfl)) ?_
          refine rg_put (d := 34) (v := .d (.fl (.bool ((((ix m.cost k).length : Int) != (m.col.length : Int)))))) rfl (og rfl (op_bin rfl rfl rfl (b_neq _ _ _ _) rfl)) ?_
          refine rg_put (d := 35) (v := .d (.fl (.bool ((((ix m.cost k).length : Int) != (m.col.length : Int)))))) rfl (og rfl (op_move rfl rfl rfl)) ?_
          rcases fot ((((ix m.cost k).length : Int) != (m.col.length : Int))) with h11 | h11
          · skip
            have h12 := f_bne h11
            refine rg_put (d := 36) (v := .d (.sl 1 (List.map (rI .i64) (ix m.cost k)))) rfl (oy rfl rfl rfl h11 (op_move rfl rfl rfl)) ?_
            refine rg_put (d := 37) (v := .d (.fl (.bool ((wi (ix m.cost k) (-1)))))) rfl (oy rfl rfl rfl h11 (op_call rfl Try.func28 nm28 rfl (.cons rfl (.d _) (.cons rfl (.d _) .nil)) (wiC (ix m.cost k) (-1) (by first | omega | (exact hb.l _ (by omega)))) rfl)) ?_
            refine rg_put (d := 38) (v := .d (.fl (.bool ((!((wi (ix m.cost k) (-1)))))))) rfl (oy rfl rfl rfl h11 (op_un rfl rfl (u_not _) rfl)) ?_
            refine rg_put (d := 39) (v := .d (.fl (.bool ((!((wi (ix m.cost k) (-1)))))))) rfl (og rfl (op_pick rfl rfl (by rw [h11]; rfl) rfl)) ?_
            refine rg_done rfl ?_
            refine a_cond rfl (fun h13 => ?_) (fun h13 => ?_)
            · skip
              have h14 := t_not h13
              refine a_rseq ?_
              refine rg_put (d := 2) (v := .d (.fl (.int .i64 1))) rfl (og rfl (op_assign rfl rfl rfl)) ?_
              refine rg_done rfl ?_
              refine a_ret ?_
              show ∃ ds, ResL _ _ _ ds ∧ RV.of ds = _
              refine ⟨[.fl (.int .i64 1)], (.cons (.tmp rfl (.d _)) .nil), ?_⟩
              have hx : (cb m (ix m.cost k)) = true := by unfold cb; simp only [h1, h3, h6, h9, h11, h13, h14, Bool.true_or, Bool.false_or, Bool.or_true, Bool.or_false, Bool.not_true, Bool.not_false, cond_true, cond_false, Bool.true_and, Bool.false_and, Bool.and_true, Bool.and_false] <;> rfl
              rw [ck_1b (m := m) (by omega) (.inl (anyb_at (k := k) (by omega) hx))]; rfl
            · skip
              have h15 := f_not h13
              refine a_skip ?_
              show A _ _ _ _ _ _ _
              refine a_region ?_
              refine rg_put (d := 40) (v := .d (.fl (.int .i64 (((k : Int) + 1))))) rfl (og rfl (op_bin rfl rfl rfl (fun x y w => b_add64 _ _ _ x y w (by omega)) rfl)) ?_
              refine rg_put (d := 25) (v := .d (.fl (.int .i64 (((k : Int) + 1))))) rfl (og rfl (op_move rfl rfl rfl)) ?_
              refine rg_done rfl ?_
              have hx : (cb m (ix m.cost k)) = false := by unfold cb; simp only [h1, h3, h6, h9, h11, h13, h15, Bool.true_or, Bool.false_or, Bool.or_true, Bool.or_false, Bool.not_true, Bool.not_false, cond_true, cond_false, Bool.true_and, Bool.false_and, Bool.and_true, Bool.and_false] <;> rfl
              show ∃ i, _ ∧ _ ∧ Imp _ _ _ _ _
              refine ⟨k + 1, ⟨by omega, fun q h => (Nat.lt_succ_iff_lt_or_eq.1 h).elim (hq q) (fun e => by rw [e]; exact hx)⟩, by omega, imp_forget rfl ⟨rfl, rfl, rfl, rfl, rfl, rfl, (by first | rfl | exact ci (by omega) | exact ci (by simp) | exact cd (by simp) | simp), trivial⟩ ⟨rfl, trivial⟩⟩
          · skip
            have h16 := t_bne h11
            refine rg_put (d := 36) (v := .d (.fl undef)) rfl (on rfl rfl rfl h11) ?_
            refine rg_put (d := 37) (v := .d (.fl undef)) rfl (on rfl rfl rfl h11) ?_
            refine rg_put (d := 38) (v := .d (.fl undef)) rfl (on rfl rfl rfl h11) ?_
            refine rg_put (d := 39) (v := .d (.fl (.bool true))) rfl (og rfl (op_pick rfl rfl (by rw [h11]; rfl) rfl)) ?_
            refine rg_done rfl ?_
            refine a_condK rfl rfl ?_
            refine a_rseq ?_
            refine rg_put (d := 2) (v := .d (.fl (.int .i64 1))) rfl (og rfl (op_assign rfl rfl rfl)) ?_
            refine rg_done rfl ?_
            refine a_ret ?_
            show ∃ ds, ResL _ _ _ ds ∧ RV.of ds = _
            refine ⟨[.fl (.int .i64 1)], (.cons (.tmp rfl (.d _)) .nil), ?_⟩
            have hx : (cb m (ix m.cost k)) = true := by unfold cb; simp only [h1, h3, h6, h9, h11, Bool.true_or, Bool.false_or, Bool.or_true, Bool.or_false, Bool.not_true, Bool.not_false, cond_true, cond_false, Bool.true_and, Bool.false_and, Bool.and_true, Bool.and_false] <;> rfl
            rw [ck_1b (m := m) (by omega) (.inl (anyb_at (k := k) (by omega) hx))]; rfl
        · skip
          have h17 := f_dec h9
          refine a_exit ?_
          show A _ _ _ _ _ _ _
          refine a_seq ?_
          refine a_rseq ?_
          refine rg_put (d := 41) (v := .pt 101 1) rfl (og rfl (of_eff (s_field_pt rfl Try.underlying25 rfl ti23 rfl rfl rfl) rfl)) ?_
          refine rg_put (d := 42) (v := .d (.sl 1 (List.map (rI .i64) m.row))) rfl (og rfl (op_load_pt rfl Try.underlying23 rfl rfl rfl rfl rfl)) ?_
          refine rg_put (d := 43) (v := .d (.fl (.bool (wi m.row 0)))) rfl (og rfl (op_call rfl Try.func28 nm28 rfl (.cons rfl (.d _) (.cons rfl (.d _) .nil)) (wiC m.row 0 (by first | omega | (exact hb.l _ (by omega)))) rfl)) ?_
          refine rg_put (d := 44) (v := .d (.fl (.bool ((!(wi m.row 0)))))) rfl (og rfl (op_un rfl rfl (u_not _) rfl)) ?_
          refine rg_put (d := 45) (v := .d (.fl (.bool ((!(wi m.row 0)))))) rfl (og rfl (op_move rfl rfl rfl)) ?_
          rcases fot ((!(wi m.row 0))) with h18 | h18
          · skip
            have h19 := f_not h18
            refine rg_put (d := 46) (v := .pt 101 2) rfl (oy rfl rfl rfl h18 (of_eff (s_field_pt rfl Try.underlying25 rfl ti23 rfl rfl rfl) rfl)) ?_
            refine rg_put (d := 47) (v := .d (.sl 1 (List.map (rI .i64) m.col))) rfl (oy rfl rfl rfl h18 (op_load_pt rfl Try.underlying23 rfl rfl rfl rfl rfl)) ?_
            refine rg_put (d := 48) (v := .d (.fl (.bool (wi m.col 0)))) rfl (oy rfl rfl rfl h18 (op_call rfl Try.func28 nm28 rfl (.cons rfl (.d _) (.cons rfl (.d _) .nil)) (wiC m.col 0 (by first | omega | (exact hb.l _ (by omega)))) rfl)) ?_
            refine rg_put (d := 49) (v := .d (.fl (.bool ((!(wi m.col 0)))))) rfl (oy rfl rfl rfl h18 (op_un rfl rfl (u_not _) rfl)) ?_
            refine rg_put (d := 50) (v := .d (.fl (.bool ((!(wi m.col 0)))))) rfl (og rfl (op_pick rfl rfl (by rw [h18]; rfl) rfl)) ?_
            refine rg_done rfl ?_
            refine a_cond rfl (fun h20 => ?_) (fun h20 => ?_)
            · skip
              have h21 := t_not h20
              refine a_rseq ?_
              refine rg_put (d := 2) (v := .d (.fl (.int .i64 1))) rfl (og rfl (op_assign rfl rfl rfl)) ?_
              refine rg_done rfl ?_
              refine a_ret ?_
              show ∃ ds, ResL _ _ _ ds ∧ RV.of ds = _
              refine ⟨[.fl (.int .i64 1)], (.cons (.tmp rfl (.d _)) .nil), ?_⟩
              rw [ck_1b (m := m) (by omega) (.inr (.inr h21))]; rfl
            · skip
              have h22 := f_not h20
              refine a_skip ?_
              show A _ _ _ _ _ _ _
              refine a_rseq ?_
              refine rg_put (d := 2) (v := .d (.fl (.int .i64 0))) rfl (og rfl (op_assign rfl rfl rfl)) ?_
              refine rg_done rfl ?_
              refine a_ret ?_
              show ∃ ds, ResL _ _ _ ds ∧ RV.of ds = _
              refine ⟨[.fl (.int .i64 0)], (.cons (.tmp rfl (.d _)) .nil), ?_⟩
              rw [ck_0 (m := m) (by omega) (by omega) (fun q h => hq q (by omega)) h19 h22]; rfl
          · skip
            have h23 := t_not h18
            refine rg_put (d := 46) (v := .d (.fl undef)) rfl (on rfl rfl rfl h18) ?_
            refine rg_put (d := 47) (v := .d (.fl undef)) rfl (on rfl rfl rfl h18) ?_
            refine rg_put (d := 48) (v := .d (.fl undef)) rfl (on rfl rfl rfl h18) ?_
            refine rg_put (d := 49) (v := .d (.fl undef)) rfl (on rfl rfl rfl h18) ?_
            refine rg_put (d := 50) (v := .d (.fl (.bool true))) rfl (og rfl (op_pick rfl rfl (by rw [h18]; rfl) rfl)) ?_
            refine rg_done rfl ?_
            refine a_condK rfl rfl ?_
            refine a_rseq ?_
            refine rg_put (d := 2) (v := .d (.fl (.int .i64 1))) rfl (og rfl (op_assign rfl rfl rfl)) ?_
            refine rg_done rfl ?_
            refine a_ret ?_
            show ∃ ds, ResL _ _ _ ds ∧ RV.of ds = _
            refine ⟨[.fl (.int .i64 1)], (.cons (.tmp rfl (.d _)) .nil), ?_⟩
            rw [ck_1b (m := m) (by omega) (.inr (.inl h23))]; rfl
  · skip
    have h24 := t_dec h1
    refine rg_put (d := 10) (v := .d (.fl undef)) rfl (on rfl rfl rfl h1) ?_
    refine rg_put (d := 11) (v := .d (.fl undef)) rfl (on rfl rfl rfl h1) ?_
    refine rg_put (d := 12) (v := .d (.fl undef)) rfl (on rfl rfl rfl h1) ?_
    refine rg_put (d := 13) (v := .d (.fl undef)) rfl (on rfl rfl rfl h1) ?_
    refine rg_put (d := 14) (v := .d (.fl (.bool true))) rfl (og rfl (op_pick rfl rfl (by rw [h1]; rfl) rfl)) ?_
    refine rg_done rfl ?_
    refine a_condK rfl rfl ?_
    refine a_rseq ?_
    refine rg_put (d := 2) (v := .d (.fl (.int .i64 3))) rfl (og rfl (op_assign rfl rfl rfl)) ?_
    refine rg_done rfl ?_
    refine a_ret ?_
    show ∃ ds, ResL _ _ _ ds ∧ RV.of ds = _
    refine ⟨[.fl (.int .i64 3)], (.cons (.tmp rfl (.d _)) .nil), ?_⟩
    first
      | (rw [ck_3 (m := m) (by omega)]; rfl)
      | (rw [ck_1a (m := m) (by omega) (by omega)]; rfl)
set_option maxHeartbeats 4000000 in
set_option maxRecDepth 100000 in
theorem ckR (m : Mat) (hb : Bd m) (hb1 : m.cost.length ≤ 20) (hb2 : m.row.length ≤ 20) (hb3 : m.col.length ≤ 20) : Ctr Try.prog 15 [.ag (eMat m)] (.d (.fl (.int .i64 (ck m)))) := by
  refine ctr (n := 110) (rs := #[.tmp 2]) (L := [(0, .d (.ag (eMat m)))]) Try.func15 rfl rfl rfl rfl rfl (fun w0 U0 => ?_)
  refine a_rseq ?_
  refine rg_nam (d := 1) (v := .pt 101 0) (m := 101) (nw := [(101, .bx 25 (eMat m))]) rfl (og rfl (of_eff (op_box 101 rfl rfl rfl rfl) rfl)) rfl ?_
  refine rg_put (d := 2) (v := .d (.fl (.int .i64 0))) rfl (og rfl (op_assign rfl rfl rfl)) ?_
  refine rg_done rfl ?_
  refine a_seq ?_
  refine a_rseq ?_
  refine rg_put (d := 7) (v := .pt 101 1) rfl (og rfl (of_eff (s_field_pt rfl Try.underlying25 rfl ti23 rfl rfl rfl) rfl)) ?_
  refine rg_put (d := 8) (v := .d (.sl 1 (List.map (rI .i64) m.row))) rfl (og rfl (op_load_pt rfl Try.underlying23 rfl rfl rfl rfl rfl)) ?_
  refine rg_put (d := 9) (v := .d (.fl (.int .i64 (m.row.length : Int)))) rfl (og rfl (s_len rfl Try.underlying23 rfl rfl)) ?_
  refine rg_put (d := 10) (v := .d (.fl (.bool ((decide (8 < (m.row.length : Int))))))) rfl (og rfl (op_bin rfl rfl rfl (b_gtr _ _ _ _) rfl)) ?_
  refine rg_put (d := 11) (v := .d (.fl (.bool ((decide (8 < (m.row.length : Int))))))) rfl (og rfl (op_move rfl rfl rfl)) ?_
  rcases fot ((decide (8 < (m.row.length : Int)))) with h1 | h1
  · skip
    have h2 := f_dec h1
    refine rg_put (d := 12) (v := .pt 101 2) rfl (oy rfl rfl rfl h1 (of_eff (s_field_pt rfl Try.underlying25 rfl ti23 rfl rfl rfl) rfl)) ?_
    refine rg_put (d := 13) (v := .d (.sl 1 (List.map (rI .i64) m.col))) rfl (oy rfl rfl rfl h1 (op_load_pt rfl Try.underlying23 rfl rfl rfl rfl rfl)) ?_
    refine rg_put (d := 14) (v := .d (.fl (.int .i64 (m.col.length : Int)))) rfl (oy rfl rfl rfl h1 (s_len rfl Try.underlying23 rfl rfl)) ?_
    refine rg_put (d := 15) (v := .d (.fl (.bool ((decide (8 < (m.col.length : Int))))))) rfl (oy rfl rfl rfl h1 (op_bin rfl rfl rfl (b_gtr _ _ _ _) rfl)) ?_
    refine rg_put (d := 16) (v := .d (.fl (.bool ((decide (8 < (m.col.length : Int))))))) rfl (og rfl (op_pick rfl rfl (by rw [h1]; rfl) rfl)) ?_
    refine rg_done rfl ?_
    refine a_cond rfl (fun h3 => ?_) (fun h3 => ?_)
    · skip
      have h4 := t_dec h3
      refine a_rseq ?_
      refine rg_put (d := 2) (v := .d (.fl (.int .i64 3))) rfl (og rfl (op_assign rfl rfl rfl)) ?_
      refine rg_done rfl ?_
      refine a_ret ?_
      show ∃ ds, ResL _ _ _ ds ∧ RV.of ds = _
      refine ⟨[.fl (.int .i64 3)], (.cons (.tmp rfl (.d _)) .nil), ?_⟩
      first
        | (rw [ck_3 (m := m) (by omega)]; rfl)
        | (rw [ck_1a (m := m) (by omega) (by omega)]; rfl)
    · skip
      have h5 := f_dec h3
      refine a_skip ?_
      show A _ _ _ _ _ _ _
      refine a_seq ?_
      refine a_rseq ?_
      refine rg_put (d := 17) (v := .pt 101 0) rfl (og rfl (of_eff (s_field_pt rfl Try.underlying25 rfl ti22 rfl rfl rfl) rfl)) ?_
      refine rg_put (d := 18) (v := .d (.sl 1 (List.map (rL 1 (rI .i64)) m.cost))) rfl (og rfl (op_load_pt rfl Try.underlying22 rfl rfl rfl rfl rfl)) ?_
      refine rg_put (d := 19) (v := .d (.fl (.int .i64 (m.cost.length : Int)))) rfl (og rfl (s_len rfl Try.underlying22 rfl rfl)) ?_
      refine rg_put (d := 20) (v := .pt 101 1) rfl (og rfl (of_eff (s_field_pt rfl Try.underlying25 rfl ti23 rfl rfl rfl) rfl)) ?_
      refine rg_put (d := 21) (v := .d (.sl 1 (List.map (rI .i64) m.row))) rfl (og rfl (op_load_pt rfl Try.underlying23 rfl rfl rfl rfl rfl)) ?_
      refine rg_put (d := 22) (v := .d (.fl (.int .i64 (m.row.length : Int)))) rfl (og rfl (s_len rfl Try.underlying23 rfl rfl)) ?_
      refine rg_put (d := 23) (v := .d (.fl (.bool (((m.cost.length : Int) != (m.row.length : Int)))))) rfl (og rfl (op_bin rfl rfl rfl (b_neq _ _ _ _) rfl)) ?_
      refine rg_done rfl ?_
      refine a_cond rfl (fun h6 => ?_) (fun h6 => ?_)
      · skip
        have h7 := t_bne h6
        refine a_rseq ?_
        refine rg_put (d := 2) (v := .d (.fl (.int .i64 1))) rfl (og rfl (op_assign rfl rfl rfl)) ?_
        refine rg_done rfl ?_
        refine a_ret ?_
        show ∃ ds, ResL _ _ _ ds ∧ RV.of ds = _
        refine ⟨[.fl (.int .i64 1)], (.cons (.tmp rfl (.d _)) .nil), ?_⟩
        first
          | (rw [ck_3 (m := m) (by omega)]; rfl)
          | (rw [ck_1a (m := m) (by omega) (by omega)]; rfl)
      · skip
        have h8 := f_bne h6
        refine a_skip ?_
        show A _ _ _ _ _ _ _
        refine a_seq ?_
        refine a_rseq ?_
        refine rg_put (d := 3) (v := .d (.fl (.int .i64 0))) rfl (og rfl (op_assign rfl rfl rfl)) ?_
        refine rg_done rfl ?_
        refine a_block ?_
        refine a_loop (ι := Nat) (fun i => SS [(0, .d (.ag (eMat m))), (1, .pt 101 0), (16, .d (.fl (.bool ((decide (8 < (m.col.length : Int))))))), (23, .d (.fl (.bool (((m.cost.length : Int) != (m.row.length : Int)))))), (3, .d (.fl (.int .i64 (i : Int))))] [(101, .bx 25 (eMat m))]) (fun i => i ≤ m.cost.length ∧ ∀ q, q < i → cb m (ix m.cost q) = false) (fun i => m.cost.length - i) 0 (⟨by omega, fun q h => by omega⟩) (imp_forget rfl ⟨rfl, rfl, rfl, rfl, (by first | rfl | exact ci (by omega) | exact ci (by simp) | exact cd (by simp) | simp), trivial⟩ ⟨rfl, trivial⟩) (fun i hok => ?_)
        obtain ⟨hi, hq⟩ := hok
        refine a_seq ?_
        refine a_rseq ?_
        refine rg_put (d := 24) (v := .d (.fl (.int .i64 (i : Int)))) rfl (og rfl (op_move rfl rfl rfl)) ?_
        refine rg_put (d := 25) (v := .pt 101 0) rfl (og rfl (of_eff (s_field_pt rfl Try.underlying25 rfl ti22 rfl rfl rfl) rfl)) ?_
        refine rg_put (d := 26) (v := .d (.sl 1 (List.map (rL 1 (rI .i64)) m.cost))) rfl (og rfl (op_load_pt rfl Try.underlying22 rfl rfl rfl rfl rfl)) ?_
        refine rg_put (d := 27) (v := .d (.fl (.int .i64 (m.cost.length : Int)))) rfl (og rfl (s_len rfl Try.underlying22 rfl rfl)) ?_
        refine rg_put (d := 28) (v := .d (.fl (.bool ((decide ((i : Int) < (m.cost.length : Int))))))) rfl (og rfl (op_bin rfl rfl rfl (b_lss _ _ _ _) rfl)) ?_
        refine rg_done rfl ?_
        refine a_cond rfl (fun h9 => ?_) (fun h9 => ?_)
        · skip
          have h10 := t_dec h9
          refine a_skip ?_
          show A _ _ _ _ _ _ _
          refine a_seq ?_
          refine a_block ?_
          refine a_seq ?_
          refine a_dseq (by kernel_rfl) ?_
          refine dr_put (d := 31) (v := .pt 101 0) rfl (og rfl (of_eff (s_field_pt rfl Try.underlying25 rfl ti22 rfl rfl rfl) rfl)) ?_
          refine dr_put (d := 32) (v := .d (.sl 1 (List.map (rL 1 (rI .i64)) m.cost))) rfl (og rfl (op_load_pt rfl Try.underlying22 rfl rfl rfl rfl rfl)) ?_
          refine dr_put (d := 33) (v := .d (.fl (.int .i64 (i : Int)))) rfl (og rfl (op_move rfl rfl rfl)) ?_
          refine dr_put (d := 34) (v := .el (((rL 1 (rI .i64)) (ix m.cost i)))) rfl (og rfl (s_index rfl Try.underlying22 ti23 rfl rfl (by omega) (row_at (by omega)) rfl)) ?_
          refine dr_put (d := 35) (v := .d (.sl 1 (List.map (rI .i64) (ix m.cost i)))) rfl (og rfl (op_load_el rfl Try.underlying23 rfl rfl rfl rfl)) ?_
          refine dr_put (d := 36) (v := .d (.fl (.int .i64 (((ix m.cost i).length : Int))))) rfl (og rfl (s_len rfl Try.underlying23 rfl rfl)) ?_
          refine dr_put (d := 37) (v := .pt 101 2) rfl (og rfl (of_eff (s_field_pt rfl Try.underlying25 rfl ti23 rfl rfl rfl) rfl)) ?_
          refine dr_put (d := 38) (v := .d (.sl 1 (List.map (rI .i64) m.col))) rfl (og rfl (op_load_pt rfl Try.underlying23 rfl rfl rfl rfl rfl)) ?_
          refine dr_put (d := 39) (v := .d (.fl (.int .i64 (m.col.length : Int)))) rfl (og rfl (s_len rfl Try.underlying23 rfl rfl)) ?_
          refine dr_put (d := 40) (v := .d (.fl (.bool ((((ix m.cost i).length : Int) != (m.col.length : Int)))))) rfl (og rfl (op_bin rfl rfl rfl (b_neq _ _ _ _) rfl)) ?_
          refine dr_done rfl (by kernel_rfl) (by kernel_rfl) ?_
          refine a_cond rfl (fun h11 => ?_) (fun h11 => ?_)
          · skip
            have h12 := t_bne h11
            refine a_rseq ?_
            refine rg_put (d := 2) (v := .d (.fl (.int .i64 1))) rfl (og rfl (op_assign rfl rfl rfl)) ?_
            refine rg_done rfl ?_
            refine a_ret ?_
            show ∃ ds, ResL _ _ _ ds ∧ RV.of ds = _
            refine ⟨[.fl (.int .i64 1)], (.cons (.tmp rfl (.d _)) .nil), ?_⟩
            rw [ck_1b (m := m) (by omega) (.inl (anyb_at (k := i) (by omega) (by unfold cb; rw [show (((ix m.cost i).length : Int) != (m.col.length : Int)) = true from by simp; omega]; rfl)))]; rfl
          · skip
            have h13 := f_bne h11
            refine a_skip ?_
            show A _ _ _ _ _ _ _
            refine a_rseq ?_
            refine rg_put (d := 4) (v := .d (.fl (.int .i64 0))) rfl (og rfl (op_assign rfl rfl rfl)) ?_
            refine rg_done rfl ?_
            refine a_block ?_
            refine a_loop (ι := Nat) (fun j => SS [(0, .d (.ag (eMat m))), (1, .pt 101 0), (3, .d (.fl (.int .i64 (i : Int)))), (16, .d (.fl (.bool ((decide (8 < (m.col.length : Int))))))), (23, .d (.fl (.bool (((m.cost.length : Int) != (m.row.length : Int)))))), (28, .d (.fl (.bool ((decide ((i : Int) < (m.cost.length : Int))))))), (40, .d (.fl (.bool ((((ix m.cost i).length : Int) != (m.col.length : Int)))))), (4, .d (.fl (.int .i64 (j : Int))))] [(101, .bx 25 (eMat m))]) (fun j => j ≤ m.col.length ∧ ∀ p, p < j → wb (-1) (ix (ix m.cost i) p) = false) (fun j => m.col.length - j) 0 (⟨by omega, fun q h => by omega⟩) (imp_forget rfl ⟨rfl, rfl, rfl, rfl, rfl, rfl, rfl, (by first | rfl | exact ci (by omega) | exact ci (by simp) | exact cd (by simp) | simp), trivial⟩ ⟨rfl, trivial⟩) (fun j hok => ?_)
            obtain ⟨hj, hp⟩ := hok
            refine a_seq ?_
            refine a_rseq ?_
            refine rg_put (d := 41) (v := .d (.fl (.int .i64 (j : Int)))) rfl (og rfl (op_move rfl rfl rfl)) ?_
            refine rg_put (d := 42) (v := .pt 101 2) rfl (og rfl (of_eff (s_field_pt rfl Try.underlying25 rfl ti23 rfl rfl rfl) rfl)) ?_
            refine rg_put (d := 43) (v := .d (.sl 1 (List.map (rI .i64) m.col))) rfl (og rfl (op_load_pt rfl Try.underlying23 rfl rfl rfl rfl rfl)) ?_
            refine rg_put (d := 44) (v := .d (.fl (.int .i64 (m.col.length : Int)))) rfl (og rfl (s_len rfl Try.underlying23 rfl rfl)) ?_
            refine rg_put (d := 45) (v := .d (.fl (.bool ((decide ((j : Int) < (m.col.length : Int))))))) rfl (og rfl (op_bin rfl rfl rfl (b_lss _ _ _ _) rfl)) ?_
            refine rg_done rfl ?_
            refine a_cond rfl (fun h14 => ?_) (fun h14 => ?_)
            · skip
              have h15 := t_dec h14
              refine a_skip ?_
              show A _ _ _ _ _ _ _
              refine a_seq ?_
              refine a_block ?_
              refine a_rseq ?_
              refine rg_put (d := 48) (v := .pt 101 0) rfl (og rfl (of_eff (s_field_pt rfl Try.underlying25 rfl ti22 rfl rfl rfl) rfl)) ?_
              refine rg_put (d := 49) (v := .d (.sl 1 (List.map (rL 1 (rI .i64)) m.cost))) rfl (og rfl (op_load_pt rfl Try.underlying22 rfl rfl rfl rfl rfl)) ?_
              refine rg_put (d := 50) (v := .d (.fl (.int .i64 (i : Int)))) rfl (og rfl (op_move rfl rfl rfl)) ?_
              refine rg_put (d := 51) (v := .el (((rL 1 (rI .i64)) (ix m.cost i)))) rfl (og rfl (s_index rfl Try.underlying22 ti23 rfl rfl (by omega) (row_at (by omega)) rfl)) ?_
              refine rg_put (d := 52) (v := .d (.sl 1 (List.map (rI .i64) (ix m.cost i)))) rfl (og rfl (op_load_el rfl Try.underlying23 rfl rfl rfl rfl)) ?_
              refine rg_put (d := 53) (v := .d (.fl (.int .i64 (j : Int)))) rfl (og rfl (op_move rfl rfl rfl)) ?_
              refine rg_put (d := 54) (v := .el ((rI .i64 ((ix (ix m.cost i) j))))) rfl (og rfl (s_index rfl Try.underlying23 ti3 rfl rfl (by omega) (row_at (by omega)) rfl)) ?_
              refine rg_put (d := 55) (v := .d (.fl (.int .i64 ((ix (ix m.cost i) j))))) rfl (og rfl (op_load_el rfl Try.underlying3 rfl rfl rfl rfl)) ?_
              refine rg_put (d := 56) (v := .d (.fl (.bool ((decide ((ix (ix m.cost i) j) < (-1))))))) rfl (og rfl (op_bin rfl rfl rfl (b_lss _ _ _ _) rfl)) ?_
              refine rg_put (d := 57) (v := .d (.fl (.bool ((decide ((ix (ix m.cost i) j) < (-1))))))) rfl (og rfl (op_move rfl rfl rfl)) ?_
              rcases fot ((decide ((ix (ix m.cost i) j) < (-1)))) with h16 | h16
              · skip
                have h17 := f_dec h16
                refine rg_put (d := 58) (v := .pt 101 0) rfl (oy rfl rfl rfl h16 (of_eff (s_field_pt rfl Try.underlying25 rfl ti22 rfl rfl rfl) rfl)) ?_
                refine rg_put (d := 59) (v := .d (.sl 1 (List.map (rL 1 (rI .i64)) m.cost))) rfl (oy rfl rfl rfl h16 (op_load_pt rfl Try.underlying22 rfl rfl rfl rfl rfl)) ?_
                refine rg_put (d := 60) (v := .d (.fl (.int .i64 (i : Int)))) rfl (oy rfl rfl rfl h16 (op_move rfl rfl rfl)) ?_
                refine rg_put (d := 61) (v := .el (((rL 1 (rI .i64)) (ix m.cost i)))) rfl (oy rfl rfl rfl h16 (s_index rfl Try.underlying22 ti23 rfl rfl (by omega) (row_at (by omega)) rfl)) ?_
                refine rg_put (d := 62) (v := .d (.sl 1 (List.map (rI .i64) (ix m.cost i)))) rfl (oy rfl rfl rfl h16 (op_load_el rfl Try.underlying23 rfl rfl rfl rfl)) ?_
                refine rg_put (d := 63) (v := .d (.fl (.int .i64 (j : Int)))) rfl (oy rfl rfl rfl h16 (op_move rfl rfl rfl)) ?_
                refine rg_put (d := 64) (v := .el ((rI .i64 ((ix (ix m.cost i) j))))) rfl (oy rfl rfl rfl h16 (s_index rfl Try.underlying23 ti3 rfl rfl (by omega) (row_at (by omega)) rfl)) ?_
                refine rg_put (d := 65) (v := .d (.fl (.int .i64 ((ix (ix m.cost i) j))))) rfl (oy rfl rfl rfl h16 (op_load_el rfl Try.underlying3 rfl rfl rfl rfl)) ?_
                refine rg_put (d := 66) (v := .d (.fl (.bool ((decide (2147483648 < (ix (ix m.cost i) j))))))) rfl (oy rfl rfl rfl h16 (op_bin rfl rfl rfl (b_gtr _ _ _ _) rfl)) ?_
                refine rg_put (d := 67) (v := .d (.fl (.bool ((decide (2147483648 < (ix (ix m.cost i) j))))))) rfl (og rfl (op_pick rfl rfl (by rw [h16]; rfl) rfl)) ?_
                refine rg_done rfl ?_
                refine a_cond rfl (fun h18 => ?_) (fun h18 => ?_)
                · skip
                  have h19 := t_dec h18
                  refine a_rseq ?_
                  refine rg_put (d := 2) (v := .d (.fl (.int .i64 1))) rfl (og rfl (op_assign rfl rfl rfl)) ?_
                  refine rg_done rfl ?_
                  refine a_ret ?_
                  show ∃ ds, ResL _ _ _ ds ∧ RV.of ds = _
                  refine ⟨[.fl (.int .i64 1)], (.cons (.tmp rfl (.d _)) .nil), ?_⟩
                  have hx : (wb (-1) (ix (ix m.cost i) j)) = true := by unfold wb; simp only [h1, h3, h6, h9, h11, h14, h16, h18, Bool.true_or, Bool.false_or, Bool.or_true, Bool.or_false, Bool.not_true, Bool.not_false, cond_true, cond_false, Bool.true_and, Bool.false_and, Bool.and_true, Bool.and_false] <;> rfl
                  rw [ck_1b (m := m) (by omega) (.inl (anyb_at (k := i) (by omega) (by unfold cb; rw [wi_no (by omega) hx]; simp)))]; rfl
                · skip
                  have h20 := f_dec h18
                  refine a_skip ?_
                  show A _ _ _ _ _ _ _
                  refine a_region ?_
                  refine rg_put (d := 46) (v := .d (.fl (.int .i64 (j : Int)))) rfl (og rfl (op_move rfl rfl rfl)) ?_
                  refine rg_put (d := 47) (v := .d (.fl (.int .i64 (((j : Int) + 1))))) rfl (og rfl (op_bin rfl rfl rfl (fun x y w => b_add64 _ _ _ x y w (by omega)) rfl)) ?_
                  refine rg_put (d := 4) (v := .d (.fl (.int .i64 (((j : Int) + 1))))) rfl (og rfl (op_assign rfl rfl rfl)) ?_
                  refine rg_done rfl ?_
                  have hx : (wb (-1) (ix (ix m.cost i) j)) = false := by unfold wb; simp only [h1, h3, h6, h9, h11, h14, h16, h18, Bool.true_or, Bool.false_or, Bool.or_true, Bool.or_false, Bool.not_true, Bool.not_false, cond_true, cond_false, Bool.true_and, Bool.false_and, Bool.and_true, Bool.and_false] <;> rfl
                  show ∃ i, _ ∧ _ ∧ Imp _ _ _ _ _
                  refine ⟨j + 1, ⟨by omega, fun q h => (Nat.lt_succ_iff_lt_or_eq.1 h).elim (hp q) (fun e => by rw [e]; exact hx)⟩, by omega, imp_forget rfl ⟨rfl, rfl, rfl, rfl, rfl, rfl, rfl, (by first | rfl | exact ci (by omega)), trivial⟩ ⟨rfl, trivial⟩⟩
              · skip
                have h21 := t_dec h16
                refine rg_put (d := 58) (v := .d (.fl undef)) rfl (on rfl rfl rfl h16) ?_
                refine rg_put (d := 59) (v := .d (.fl undef)) rfl (on rfl rfl rfl h16) ?_
                refine rg_put (d := 60) (v := .d (.fl undef)) rfl (on rfl rfl rfl h16) ?_
                refine rg_put (d := 61) (v := .d (.fl undef)) rfl (on rfl rfl rfl h16) ?_
                refine rg_put (d := 62) (v := .d (.fl undef)) rfl (on rfl rfl rfl h16) ?_
                refine rg_put (d := 63) (v := .d (.fl undef)) rfl (on rfl rfl rfl h16) ?_
                refine rg_put (d := 64) (v := .d (.fl undef)) rfl (on rfl rfl rfl h16) ?_
                refine rg_put (d := 65) (v := .d (.fl undef)) rfl (on rfl rfl rfl h16) ?_
                refine rg_put (d := 66) (v := .d (.fl undef)) rfl (on rfl rfl rfl h16) ?_
                refine rg_put (d := 67) (v := .d (.fl (.bool true))) rfl (og rfl (op_pick rfl rfl (by rw [h16]; rfl) rfl)) ?_
                refine rg_done rfl ?_
                refine a_condK rfl rfl ?_
                refine a_rseq ?_
                refine rg_put (d := 2) (v := .d (.fl (.int .i64 1))) rfl (og rfl (op_assign rfl rfl rfl)) ?_
                refine rg_done rfl ?_
                refine a_ret ?_
                show ∃ ds, ResL _ _ _ ds ∧ RV.of ds = _
                refine ⟨[.fl (.int .i64 1)], (.cons (.tmp rfl (.d _)) .nil), ?_⟩
                have hx : (wb (-1) (ix (ix m.cost i) j)) = true := by unfold wb; simp only [h1, h3, h6, h9, h11, h14, h16, Bool.true_or, Bool.false_or, Bool.or_true, Bool.or_false, Bool.not_true, Bool.not_false, cond_true, cond_false, Bool.true_and, Bool.false_and, Bool.and_true, Bool.and_false] <;> rfl
                rw [ck_1b (m := m) (by omega) (.inl (anyb_at (k := i) (by omega) (by unfold cb; rw [wi_no (by omega) hx]; simp)))]; rfl
            · skip
              have h22 := f_dec h14
              refine a_exit ?_
              show A _ _ _ _ _ _ _
              refine a_region ?_
              refine rg_put (d := 29) (v := .d (.fl (.int .i64 (i : Int)))) rfl (og rfl (op_move rfl rfl rfl)) ?_
              refine rg_put (d := 30) (v := .d (.fl (.int .i64 (((i : Int) + 1))))) rfl (og rfl (op_bin rfl rfl rfl (fun x y w => b_add64 _ _ _ x y w (by omega)) rfl)) ?_
              refine rg_put (d := 3) (v := .d (.fl (.int .i64 (((i : Int) + 1))))) rfl (og rfl (op_assign rfl rfl rfl)) ?_
              refine rg_done rfl ?_
              have hx : cb m (ix m.cost i) = false := by unfold cb; rw [show wi (ix m.cost i) (-1) = true from wi_yes (fun q h => hp q (by omega)), show (((ix m.cost i).length : Int) != (m.col.length : Int)) = false from by simp; omega]; rfl
              show ∃ i, _ ∧ _ ∧ Imp _ _ _ _ _
              refine ⟨i + 1, ⟨by omega, fun q h => (Nat.lt_succ_iff_lt_or_eq.1 h).elim (hq q) (fun e => by rw [e]; exact hx)⟩, by omega, imp_forget rfl ⟨rfl, rfl, rfl, rfl, (by first | rfl | exact ci (by omega)), trivial⟩ ⟨rfl, trivial⟩⟩
        · skip
          have h23 := f_dec h9
          refine a_exit ?_
          show A _ _ _ _ _ _ _
          refine a_seq ?_
          refine a_rseq ?_
          refine rg_put (d := 5) (v := .d (.fl (.int .i64 0))) rfl (og rfl (op_assign rfl rfl rfl)) ?_
          refine rg_done rfl ?_
          refine a_block ?_
          refine a_loop (ι := Nat) (fun p => SS [(0, .d (.ag (eMat m))), (1, .pt 101 0), (3, .d (.fl (.int .i64 (i : Int)))), (16, .d (.fl (.bool ((decide (8 < (m.col.length : Int))))))), (23, .d (.fl (.bool (((m.cost.length : Int) != (m.row.length : Int)))))), (28, .d (.fl (.bool ((decide ((i : Int) < (m.cost.length : Int))))))), (5, .d (.fl (.int .i64 (p : Int))))] [(101, .bx 25 (eMat m))]) (fun p => p ≤ m.row.length ∧ ∀ q, q < p → (wb 0 (ix m.row q)) = false) (fun p => m.row.length - p) 0 (⟨by omega, fun q h => by omega⟩) (imp_forget rfl ⟨rfl, rfl, rfl, rfl, rfl, rfl, (by first | rfl | exact ci (by omega) | exact ci (by simp) | exact cd (by simp) | simp), trivial⟩ ⟨rfl, trivial⟩) (fun p hok => ?_)
          obtain ⟨hkp, hr⟩ := hok
          refine a_seq ?_
          refine a_rseq ?_
          refine rg_put (d := 68) (v := .d (.fl (.int .i64 (p : Int)))) rfl (og rfl (op_move rfl rfl rfl)) ?_
          refine rg_put (d := 69) (v := .pt 101 1) rfl (og rfl (of_eff (s_field_pt rfl Try.underlying25 rfl ti23 rfl rfl rfl) rfl)) ?_
          refine rg_put (d := 70) (v := .d (.sl 1 (List.map (rI .i64) m.row))) rfl (og rfl (op_load_pt rfl Try.underlying23 rfl rfl rfl rfl rfl)) ?_
          refine rg_put (d := 71) (v := .d (.fl (.int .i64 (m.row.length : Int)))) rfl (og rfl (s_len rfl Try.underlying23 rfl rfl)) ?_
          refine rg_put (d := 72) (v := .d (.fl (.bool ((decide ((p : Int) < (m.row.length : Int))))))) rfl (og rfl (op_bin rfl rfl rfl (b_lss _ _ _ _) rfl)) ?_
          refine rg_done rfl ?_
          refine a_cond rfl (fun h24 => ?_) (fun h24 => ?_)
          · skip
            have h25 := t_dec h24
            refine a_skip ?_
            show A _ _ _ _ _ _ _
            refine a_seq ?_
            refine a_block ?_
            refine a_rseq ?_
            refine rg_put (d := 75) (v := .pt 101 1) rfl (og rfl (of_eff (s_field_pt rfl Try.underlying25 rfl ti23 rfl rfl rfl) rfl)) ?_
            refine rg_put (d := 76) (v := .d (.sl 1 (List.map (rI .i64) m.row))) rfl (og rfl (op_load_pt rfl Try.underlying23 rfl rfl rfl rfl rfl)) ?_
            refine rg_put (d := 77) (v := .d (.fl (.int .i64 (p : Int)))) rfl (og rfl (op_move rfl rfl rfl)) ?_
            refine rg_put (d := 78) (v := .el ((rI .i64 (ix m.row p)))) rfl (og rfl (s_index rfl Try.underlying23 ti3 rfl rfl (by omega) (row_at (by omega)) rfl)) ?_
            refine rg_put (d := 79) (v := .d (.fl (.int .i64 (ix m.row p)))) rfl (og rfl (op_load_el rfl Try.underlying3 rfl rfl rfl rfl)) ?_
            refine rg_put (d := 80) (v := .d (.fl (.bool ((decide ((ix m.row p) < 0)))))) rfl (og rfl (op_bin rfl rfl rfl (b_lss _ _ _ _) rfl)) ?_
            refine rg_put (d := 81) (v := .d (.fl (.bool ((decide ((ix m.row p) < 0)))))) rfl (og rfl (op_move rfl rfl rfl)) ?_
            rcases fot ((decide ((ix m.row p) < 0))) with h26 | h26
            · skip
              have h27 := f_dec h26
              refine rg_put (d := 82) (v := .pt 101 1) rfl (oy rfl rfl rfl h26 (of_eff (s_field_pt rfl Try.underlying25 rfl ti23 rfl rfl rfl) rfl)) ?_
              refine rg_put (d := 83) (v := .d (.sl 1 (List.map (rI .i64) m.row))) rfl (oy rfl rfl rfl h26 (op_load_pt rfl Try.underlying23 rfl rfl rfl rfl rfl)) ?_
              refine rg_put (d := 84) (v := .d (.fl (.int .i64 (p : Int)))) rfl (oy rfl rfl rfl h26 (op_move rfl rfl rfl)) ?_
              refine rg_put (d := 85) (v := .el ((rI .i64 (ix m.row p)))) rfl (oy rfl rfl rfl h26 (s_index rfl Try.underlying23 ti3 rfl rfl (by omega) (row_at (by omega)) rfl)) ?_
              refine rg_put (d := 86) (v := .d (.fl (.int .i64 (ix m.row p)))) rfl (oy rfl rfl rfl h26 (op_load_el rfl Try.underlying3 rfl rfl rfl rfl)) ?_
              refine rg_put (d := 87) (v := .d (.fl (.bool ((decide (2147483648 < (ix m.row p))))))) rfl (oy rfl rfl rfl h26 (op_bin rfl rfl rfl (b_gtr _ _ _ _) rfl)) ?_
              refine rg_put (d := 88) (v := .d (.fl (.bool ((decide (2147483648 < (ix m.row p))))))) rfl (og rfl (op_pick rfl rfl (by rw [h26]; rfl) rfl)) ?_
              refine rg_done rfl ?_
              refine a_cond rfl (fun h28 => ?_) (fun h28 => ?_)
              · skip
                have h29 := t_dec h28
                refine a_rseq ?_
                refine rg_put (d := 2) (v := .d (.fl (.int .i64 1))) rfl (og rfl (op_assign rfl rfl rfl)) ?_
                refine rg_done rfl ?_
                refine a_ret ?_
                show ∃ ds, ResL _ _ _ ds ∧ RV.of ds = _
                refine ⟨[.fl (.int .i64 1)], (.cons (.tmp rfl (.d _)) .nil), ?_⟩
                have hx : (wb 0 (ix m.row p)) = true := by unfold wb; simp only [h1, h3, h6, h9, h24, h26, h28, Bool.true_or, Bool.false_or, Bool.or_true, Bool.or_false, Bool.not_true, Bool.not_false, cond_true, cond_false, Bool.true_and, Bool.false_and, Bool.and_true, Bool.and_false] <;> rfl
                rw [ck_1b (m := m) (by omega) (.inr (.inl (wi_no (by omega) hx)))]; rfl
              · skip
                have h30 := f_dec h28
                refine a_skip ?_
                show A _ _ _ _ _ _ _
                refine a_region ?_
                refine rg_put (d := 73) (v := .d (.fl (.int .i64 (p : Int)))) rfl (og rfl (op_move rfl rfl rfl)) ?_
                refine rg_put (d := 74) (v := .d (.fl (.int .i64 (((p : Int) + 1))))) rfl (og rfl (op_bin rfl rfl rfl (fun x y w => b_add64 _ _ _ x y w (by omega)) rfl)) ?_
                refine rg_put (d := 5) (v := .d (.fl (.int .i64 (((p : Int) + 1))))) rfl (og rfl (op_assign rfl rfl rfl)) ?_
                refine rg_done rfl ?_
                have hx : (wb 0 (ix m.row p)) = false := by unfold wb; simp only [h1, h3, h6, h9, h24, h26, h28, Bool.true_or, Bool.false_or, Bool.or_true, Bool.or_false, Bool.not_true, Bool.not_false, cond_true, cond_false, Bool.true_and, Bool.false_and, Bool.and_true, Bool.and_false] <;> rfl
                show ∃ i, _ ∧ _ ∧ Imp _ _ _ _ _
                refine ⟨p + 1, ⟨by omega, fun q h => (Nat.lt_succ_iff_lt_or_eq.1 h).elim (hr q) (fun e => by rw [e]; exact hx)⟩, by omega, imp_forget rfl ⟨rfl, rfl, rfl, rfl, rfl, rfl, (by first | rfl | exact ci (by omega) | exact ci (by simp) | exact cd (by simp) | simp), trivial⟩ ⟨rfl, trivial⟩⟩
            · skip
              have h31 := t_dec h26
              refine rg_put (d := 82) (v := .d (.fl undef)) rfl (on rfl rfl rfl h26) ?_
              refine rg_put (d := 83) (v := .d (.fl undef)) rfl (on rfl rfl rfl h26) ?_
              refine rg_put (d := 84) (v := .d (.fl undef)) rfl (on rfl rfl rfl h26) ?_
              refine rg_put (d := 85) (v := .d (.fl undef)) rfl (on rfl rfl rfl h26) ?_
              refine rg_put (d := 86) (v := .d (.fl undef)) rfl (on rfl rfl rfl h26) ?_
              refine rg_put (d := 87) (v := .d (.fl undef)) rfl (on rfl rfl rfl h26) ?_
              refine rg_put (d := 88) (v := .d (.fl (.bool true))) rfl (og rfl (op_pick rfl rfl (by rw [h26]; rfl) rfl)) ?_
              refine rg_done rfl ?_
              refine a_condK rfl rfl ?_
              refine a_rseq ?_
              refine rg_put (d := 2) (v := .d (.fl (.int .i64 1))) rfl (og rfl (op_assign rfl rfl rfl)) ?_
              refine rg_done rfl ?_
              refine a_ret ?_
              show ∃ ds, ResL _ _ _ ds ∧ RV.of ds = _
              refine ⟨[.fl (.int .i64 1)], (.cons (.tmp rfl (.d _)) .nil), ?_⟩
              have hx : (wb 0 (ix m.row p)) = true := by unfold wb; simp only [h1, h3, h6, h9, h24, h26, Bool.true_or, Bool.false_or, Bool.or_true, Bool.or_false, Bool.not_true, Bool.not_false, cond_true, cond_false, Bool.true_and, Bool.false_and, Bool.and_true, Bool.and_false] <;> rfl
              rw [ck_1b (m := m) (by omega) (.inr (.inl (wi_no (by omega) hx)))]; rfl
          · skip
            have h32 := f_dec h24
            refine a_exit ?_
            show A _ _ _ _ _ _ _
            refine a_seq ?_
            refine a_rseq ?_
            refine rg_put (d := 6) (v := .d (.fl (.int .i64 0))) rfl (og rfl (op_assign rfl rfl rfl)) ?_
            refine rg_done rfl ?_
            refine a_block ?_
            refine a_loop (ι := Nat) (fun k => SS [(0, .d (.ag (eMat m))), (1, .pt 101 0), (3, .d (.fl (.int .i64 (i : Int)))), (5, .d (.fl (.int .i64 (p : Int)))), (16, .d (.fl (.bool ((decide (8 < (m.col.length : Int))))))), (23, .d (.fl (.bool (((m.cost.length : Int) != (m.row.length : Int)))))), (28, .d (.fl (.bool ((decide ((i : Int) < (m.cost.length : Int))))))), (72, .d (.fl (.bool ((decide ((p : Int) < (m.row.length : Int))))))), (6, .d (.fl (.int .i64 (k : Int))))] [(101, .bx 25 (eMat m))]) (fun k => k ≤ m.col.length ∧ ∀ q, q < k → (wb 0 (ix m.col q)) = false) (fun k => m.col.length - k) 0 (⟨by omega, fun q h => by omega⟩) (imp_forget rfl ⟨rfl, rfl, rfl, rfl, rfl, rfl, rfl, rfl, (by first | rfl | exact ci (by omega) | exact ci (by simp) | exact cd (by simp) | simp), trivial⟩ ⟨rfl, trivial⟩) (fun k hok => ?_)
            obtain ⟨hkk, hc⟩ := hok
            refine a_seq ?_
            refine a_rseq ?_
            refine rg_put (d := 89) (v := .d (.fl (.int .i64 (k : Int)))) rfl (og rfl (op_move rfl rfl rfl)) ?_
            refine rg_put (d := 90) (v := .pt 101 2) rfl (og rfl (of_eff (s_field_pt rfl Try.underlying25 rfl ti23 rfl rfl rfl) rfl)) ?_
            refine rg_put (d := 91) (v := .d (.sl 1 (List.map (rI .i64) m.col))) rfl (og rfl (op_load_pt rfl Try.underlying23 rfl rfl rfl rfl rfl)) ?_
            refine rg_put (d := 92) (v := .d (.fl (.int .i64 (m.col.length : Int)))) rfl (og rfl (s_len rfl Try.underlying23 rfl rfl)) ?_
            refine rg_put (d := 93) (v := .d (.fl (.bool ((decide ((k : Int) < (m.col.length : Int))))))) rfl (og rfl (op_bin rfl rfl rfl (b_lss _ _ _ _) rfl)) ?_
            refine rg_done rfl ?_
            refine a_cond rfl (fun h33 => ?_) (fun h33 => ?_)
            · skip
              have h34 := t_dec h33
              refine a_skip ?_
              show A _ _ _ _ _ _ _
              refine a_seq ?_
              refine a_block ?_
              refine a_rseq ?_
              refine rg_put (d := 96) (v := .pt 101 2) rfl (og rfl (of_eff (s_field_pt rfl Try.underlying25 rfl ti23 rfl rfl rfl) rfl)) ?_
              refine rg_put (d := 97) (v := .d (.sl 1 (List.map (rI .i64) m.col))) rfl (og rfl (op_load_pt rfl Try.underlying23 rfl rfl rfl rfl rfl)) ?_
              refine rg_put (d := 98) (v := .d (.fl (.int .i64 (k : Int)))) rfl (og rfl (op_move rfl rfl rfl)) ?_
              refine rg_put (d := 99) (v := .el ((rI .i64 (ix m.col k)))) rfl (og rfl (s_index rfl Try.underlying23 ti3 rfl rfl (by omega) (row_at (by omega)) rfl)) ?_
              refine rg_put (d := 100) (v := .d (.fl (.int .i64 (ix m.col k)))) rfl (og rfl (op_load_el rfl Try.underlying3 rfl rfl rfl rfl)) ?_
              refine rg_put (d := 101) (v := .d (.fl (.bool ((decide ((ix m.col k) < 0)))))) rfl (og rfl (op_bin rfl rfl rfl (b_lss _ _ _ _) rfl)) ?_
              refine rg_put (d := 102) (v := .d (.fl (.bool ((decide ((ix m.col k) < 0)))))) rfl (og rfl (op_move rfl rfl rfl)) ?_
              rcases fot ((decide ((ix m.col k) < 0))) with h35 | h35
              · skip
                have h36 := f_dec h35
                refine rg_put (d := 103) (v := .pt 101 2) rfl (oy rfl rfl rfl h35 (of_eff (s_field_pt rfl Try.underlying25 rfl ti23 rfl rfl rfl) rfl)) ?_
                refine rg_put (d := 104) (v := .d (.sl 1 (List.map (rI .i64) m.col))) rfl (oy rfl rfl rfl h35 (op_load_pt rfl Try.underlying23 rfl rfl rfl rfl rfl)) ?_
                refine rg_put (d := 105) (v := .d (.fl (.int .i64 (k : Int)))) rfl (oy rfl rfl rfl h35 (op_move rfl rfl rfl)) ?_
                refine rg_put (d := 106) (v := .el ((rI .i64 (ix m.col k)))) rfl (oy rfl rfl rfl h35 (s_index rfl Try.underlying23 ti3 rfl rfl (by omega) (row_at (by omega)) rfl)) ?_
                refine rg_put (d := 107) (v := .d (.fl (.int .i64 (ix m.col k)))) rfl (oy rfl rfl rfl h35 (op_load_el rfl Try.underlying3 rfl rfl rfl rfl)) ?_
                refine rg_put (d := 108) (v := .d (.fl (.bool ((decide (2147483648 < (ix m.col k))))))) rfl (oy rfl rfl rfl h35 (op_bin rfl rfl rfl (b_gtr _ _ _ _) rfl)) ?_
                refine rg_put (d := 109) (v := .d (.fl (.bool ((decide (2147483648 < (ix m.col k))))))) rfl (og rfl (op_pick rfl rfl (by rw [h35]; rfl) rfl)) ?_
                refine rg_done rfl ?_
                refine a_cond rfl (fun h37 => ?_) (fun h37 => ?_)
                · skip
                  have h38 := t_dec h37
                  refine a_rseq ?_
                  refine rg_put (d := 2) (v := .d (.fl (.int .i64 1))) rfl (og rfl (op_assign rfl rfl rfl)) ?_
                  refine rg_done rfl ?_
                  refine a_ret ?_
                  show ∃ ds, ResL _ _ _ ds ∧ RV.of ds = _
                  refine ⟨[.fl (.int .i64 1)], (.cons (.tmp rfl (.d _)) .nil), ?_⟩
                  have hx : (wb 0 (ix m.col k)) = true := by unfold wb; simp only [h1, h3, h6, h9, h24, h33, h35, h37, Bool.true_or, Bool.false_or, Bool.or_true, Bool.or_false, Bool.not_true, Bool.not_false, cond_true, cond_false, Bool.true_and, Bool.false_and, Bool.and_true, Bool.and_false] <;> rfl
                  rw [ck_1b (m := m) (by omega) (.inr (.inr (wi_no (by omega) hx)))]; rfl
                · skip
                  have h39 := f_dec h37
                  refine a_skip ?_
                  show A _ _ _ _ _ _ _
                  refine a_region ?_
                  refine rg_put (d := 94) (v := .d (.fl (.int .i64 (k : Int)))) rfl (og rfl (op_move rfl rfl rfl)) ?_
                  refine rg_put (d := 95) (v := .d (.fl (.int .i64 (((k : Int) + 1))))) rfl (og rfl (op_bin rfl rfl rfl (fun x y w => b_add64 _ _ _ x y w (by omega)) rfl)) ?_
                  refine rg_put (d := 6) (v := .d (.fl (.int .i64 (((k : Int) + 1))))) rfl (og rfl (op_assign rfl rfl rfl)) ?_
                  refine rg_done rfl ?_
                  have hx : (wb 0 (ix m.col k)) = false := by unfold wb; simp only [h1, h3, h6, h9, h24, h33, h35, h37, Bool.true_or, Bool.false_or, Bool.or_true, Bool.or_false, Bool.not_true, Bool.not_false, cond_true, cond_false, Bool.true_and, Bool.false_and, Bool.and_true, Bool.and_false] <;> rfl
                  show ∃ i, _ ∧ _ ∧ Imp _ _ _ _ _
                  refine ⟨k + 1, ⟨by omega, fun q h => (Nat.lt_succ_iff_lt_or_eq.1 h).elim (hc q) (fun e => by rw [e]; exact hx)⟩, by omega, imp_forget rfl ⟨rfl, rfl, rfl, rfl, rfl, rfl, rfl, rfl, (by first | rfl | exact ci (by omega) | exact ci (by simp) | exact cd (by simp) | simp), trivial⟩ ⟨rfl, trivial⟩⟩
              · skip
                have h40 := t_dec h35
                refine rg_put (d := 103) (v := .d (.fl undef)) rfl (on rfl rfl rfl h35) ?_
                refine rg_put (d := 104) (v := .d (.fl undef)) rfl (on rfl rfl rfl h35) ?_
                refine rg_put (d := 105) (v := .d (.fl undef)) rfl (on rfl rfl rfl h35) ?_
                refine rg_put (d := 106) (v := .d (.fl undef)) rfl (on rfl rfl rfl h35) ?_
                refine rg_put (d := 107) (v := .d (.fl undef)) rfl (on rfl rfl rfl h35) ?_
                refine rg_put (d := 108) (v := .d (.fl undef)) rfl (on rfl rfl rfl h35) ?_
                refine rg_put (d := 109) (v := .d (.fl (.bool true))) rfl (og rfl (op_pick rfl rfl (by rw [h35]; rfl) rfl)) ?_
                refine rg_done rfl ?_
                refine a_condK rfl rfl ?_
                refine a_rseq ?_
                refine rg_put (d := 2) (v := .d (.fl (.int .i64 1))) rfl (og rfl (op_assign rfl rfl rfl)) ?_
                refine rg_done rfl ?_
                refine a_ret ?_
                show ∃ ds, ResL _ _ _ ds ∧ RV.of ds = _
                refine ⟨[.fl (.int .i64 1)], (.cons (.tmp rfl (.d _)) .nil), ?_⟩
                have hx : (wb 0 (ix m.col k)) = true := by unfold wb; simp only [h1, h3, h6, h9, h24, h33, h35, Bool.true_or, Bool.false_or, Bool.or_true, Bool.or_false, Bool.not_true, Bool.not_false, cond_true, cond_false, Bool.true_and, Bool.false_and, Bool.and_true, Bool.and_false] <;> rfl
                rw [ck_1b (m := m) (by omega) (.inr (.inr (wi_no (by omega) hx)))]; rfl
            · skip
              have h41 := f_dec h33
              refine a_exit ?_
              show A _ _ _ _ _ _ _
              refine a_rseq ?_
              refine rg_put (d := 2) (v := .d (.fl (.int .i64 0))) rfl (og rfl (op_assign rfl rfl rfl)) ?_
              refine rg_done rfl ?_
              refine a_ret ?_
              show ∃ ds, ResL _ _ _ ds ∧ RV.of ds = _
              refine ⟨[.fl (.int .i64 0)], (.cons (.tmp rfl (.d _)) .nil), ?_⟩
              rw [ck_0 (m := m) (by omega) (by omega) (fun q h => hq q (by omega)) (wi_yes (fun q h => hr q (by omega))) (wi_yes (fun q h => hc q (by omega)))]; rfl
  · skip
    have h42 := t_dec h1
    refine rg_put (d := 12) (v := .d (.fl undef)) rfl (on rfl rfl rfl h1) ?_
    refine rg_put (d := 13) (v := .d (.fl undef)) rfl (on rfl rfl rfl h1) ?_
    refine rg_put (d := 14) (v := .d (.fl undef)) rfl (on rfl rfl rfl h1) ?_
    refine rg_put (d := 15) (v := .d (.fl undef)) rfl (on rfl rfl rfl h1) ?_
    refine rg_put (d := 16) (v := .d (.fl (.bool true))) rfl (og rfl (op_pick rfl rfl (by rw [h1]; rfl) rfl)) ?_
    refine rg_done rfl ?_
    refine a_condK rfl rfl ?_
    refine a_rseq ?_
    refine rg_put (d := 2) (v := .d (.fl (.int .i64 3))) rfl (og rfl (op_assign rfl rfl rfl)) ?_
    refine rg_done rfl ?_
    refine a_ret ?_
    show ∃ ds, ResL _ _ _ ds ∧ RV.of ds = _
    refine ⟨[.fl (.int .i64 3)], (.cons (.tmp rfl (.d _)) .nil), ?_⟩
    first
      | (rw [ck_3 (m := m) (by omega)]; rfl)
      | (rw [ck_1a (m := m) (by omega) (by omega)]; rfl)
end Go.Proofs.Ytafmoldngopkdaa.Wk
