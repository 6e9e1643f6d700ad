/- Plain mathematics of counts: a turned list counts as before; times at and past the period don't matter; the sum of the counts. Condition: the period is at least 1 where said. -/
import Derived.Test.YtcobolmagjlbeaaLaw
set_option linter.unusedSimpArgs false
set_option linter.unusedVariables false
namespace Go.Proofs.Ytcobolmagjlbeaa.Mt
theorem at_app_l {l r : List Int} {i : Nat} (h : i < l.length) : at_ (l ++ r) i = at_ l i := by simp [at_, List.getElem?_append_left h]
theorem at_app_end (l : List Int) (x : Int) : at_ (l ++ [x]) l.length = x := by simp [at_]
theorem cn_pre (p f : Int) (n : Nat) (l r : List Int) : ∀ k, k ≤ l.length → cn p f n (l ++ r) k = cn p f n l k := by
  intro k
  induction k with
  | zero => intro _; rfl
  | succ k ih => intro h; rw [cn, cn, ih (by omega), at_app_l (by omega)]
theorem cn_app (p f : Int) (n : Nat) (l : List Int) (x : Int) : cn p f n (l ++ [x]) (l.length + 1) = cstep p f (cn p f n l l.length) x := by
  rw [cn, cn_pre _ _ _ _ _ _ (Nat.le_refl _), at_app_end]
theorem cn_fold (p f : Int) (n : Nat) (ts : List Int) : cn p f n ts ts.length = ts.foldl (cstep p f) (List.replicate n 0) := by
  have : ∀ k, k ≤ ts.length → cn p f n ts k = (ts.take k).foldl (cstep p f) (List.replicate n 0) := by
    intro k
    induction k with
    | zero => intro _; rfl
    | succ k ih =>
      intro h
      rw [cn, ih (by omega), List.take_add_one, List.getElem?_eq_getElem (by omega), List.foldl_append]
      simp [at_, List.getElem?_eq_getElem (show k < ts.length by omega)]
  rw [this _ (Nat.le_refl _), List.take_length]
def bump (L : List Int) (q : Nat) : List Int := L.set q (at_ L q + 1)
theorem bump_comm (L : List Int) (a b : Nat) : bump (bump L a) b = bump (bump L b) a := by
  by_cases h : a = b
  · rw [h]
  · unfold bump
    rw [at_set, at_set, if_neg (by omega), if_neg (by omega), List.set_comm _ _ h]
def idx (p f : Int) (n : Nat) (t : Int) : Option Nat := if t < f then none else if (n : Int) ≤ (t - f) / p then none else some ((t - f) / p).toNat
def opt (L : List Int) : Option Nat → List Int
  | none => L
  | some q => bump L q
theorem cstep_opt (p f : Int) (L : List Int) (t : Int) : cstep p f L t = opt L (idx p f L.length t) := by
  unfold cstep idx
  split
  · rfl
  · split <;> rfl
theorem opt_len (L : List Int) (o : Option Nat) : (opt L o).length = L.length := by cases o <;> simp [opt, bump]
theorem opt_comm (L : List Int) (a b : Option Nat) : opt (opt L a) b = opt (opt L b) a := by
  cases a <;> cases b <;> simp only [opt]
  exact bump_comm _ _ _
theorem cstep_comm (p f : Int) (L : List Int) (a b : Int) : cstep p f (cstep p f L a) b = cstep p f (cstep p f L b) a := by
  rw [cstep_opt p f L a, cstep_opt p f L b, cstep_opt, cstep_opt, opt_len, opt_len]
  exact opt_comm _ _ _
theorem fold_comm {g : List Int → Int → List Int} (hc : ∀ L a b, g (g L a) b = g (g L b) a) : ∀ (l : List Int) (s : List Int) (x : Int), l.foldl g (g s x) = g (l.foldl g s) x := by
  intro l
  induction l with
  | nil => intro s x; rfl
  | cons y l ih => intro s x; simp only [List.foldl_cons]; rw [hc, ih]
theorem fold_swap {g : List Int → Int → List Int} (hc : ∀ L a b, g (g L a) b = g (g L b) a) : ∀ (l r : List Int) (s : List Int), (l ++ r).foldl g s = (r ++ l).foldl g s := by
  intro l
  induction l with
  | nil => intro r s; simp
  | cons x l ih =>
    intro r s
    rw [List.cons_append, List.foldl_cons, ih, List.foldl_append, List.foldl_append, List.foldl_cons, fold_comm hc]
theorem cn_turn (p f : Int) (n : Nat) (ts : List Int) (t : Nat) : cn p f n (ts.drop t ++ ts.take t) (ts.drop t ++ ts.take t).length = cn p f n ts ts.length := by
  rw [cn_fold, cn_fold, fold_swap (cstep_comm p f), List.take_append_drop]
theorem ct_turn (s : Sc) (ts : List Int) (t : Nat) (f n : Int) : ctS s (ts.drop t ++ ts.take t) f n = ctS s ts f n := by simp only [ctS, cn_turn]
theorem a_turn (s : Sc) (ts : List Int) (t : Nat) (x : Int) : aS s (ts.drop t ++ ts.take t) x = aS s ts x := by simp only [aS, cn_turn]
/-- of the first k times, those before b -/
def bf (b : Int) (ts : List Int) : Nat → List Int
  | 0 => []
  | k + 1 => if at_ ts k < b then bf b ts k ++ [at_ ts k] else bf b ts k
theorem bf_yes {b : Int} {ts : List Int} {k : Nat} (h : at_ ts k < b) : bf b ts (k + 1) = bf b ts k ++ [at_ ts k] := by rw [bf, if_pos h]
theorem bf_no {b : Int} {ts : List Int} {k : Nat} (h : ¬ at_ ts k < b) : bf b ts (k + 1) = bf b ts k := by rw [bf, if_neg h]
theorem bf_len (b : Int) (ts : List Int) (k : Nat) : (bf b ts k).length ≤ k := by
  induction k with
  | zero => simp [bf]
  | succ k ih =>
    rw [bf]
    split
    · simp; omega
    · omega
theorem cn_bf {p f b : Int} {n : Nat} {ts : List Int} (h : ∀ x, b ≤ x → f ≤ x ∧ (n : Int) ≤ (x - f) / p) (k : Nat) : cn p f n (bf b ts k) (bf b ts k).length = cn p f n ts k := by
  induction k with
  | zero => rfl
  | succ k ih =>
    by_cases hx : at_ ts k < b
    · rw [bf_yes hx, List.length_append, List.length_singleton, cn_app, ih, cn]
    · have h2 := h _ (Int.not_lt.1 hx)
      rw [bf_no hx, ih, cn_high (by omega) h2.2]
theorem a_bf {s : Sc} {ts : List Int} {t : Int} (h : chS s = 0) (ht : 0 ≤ t) : aS s (bf (t / s.p * s.p) ts ts.length) t = aS s ts t := by
  have hp := (ch_eq h).2.2.2
  have h0 : 0 ≤ t / s.p := Int.ediv_nonneg ht (by omega)
  have hw : 0 ≤ wn s.p t ∧ wn s.p t ≤ t / s.p := by unfold wn; split <;> omega
  have := cn_bf (p := s.p) (f := (t / s.p - wn s.p t) * s.p) (b := t / s.p * s.p) (n := (wn s.p t).toNat) (ts := ts) (by
    intro x hx
    have h1 : 0 ≤ wn s.p t * s.p := Int.mul_nonneg hw.1 (by omega)
    have h2 : (t / s.p - wn s.p t) * s.p = t / s.p * s.p - wn s.p t * s.p := Int.sub_mul _ _ _
    refine ⟨by omega, ?_⟩
    rw [Int.toNat_of_nonneg hw.1]
    exact Int.le_ediv_of_mul_le (by omega) (by omega)) ts.length
  simp only [aS, this]
/-- how many of the first k times lie in b .. e -/
def inn (b e : Int) (ts : List Int) : Nat → Nat
  | 0 => 0
  | k + 1 => if b ≤ at_ ts k ∧ at_ ts k < e then inn b e ts k + 1 else inn b e ts k
theorem inn_le (b e : Int) (ts : List Int) (k : Nat) : inn b e ts k ≤ k := by
  induction k with
  | zero => exact Nat.le_refl _
  | succ k ih => rw [inn]; split <;> omega
theorem inn_yes {b e : Int} {ts : List Int} {k : Nat} (h : b ≤ at_ ts k) (h2 : at_ ts k < e) : inn b e ts (k + 1) = inn b e ts k + 1 := by rw [inn, if_pos ⟨h, h2⟩]
theorem inn_no {b e : Int} {ts : List Int} {k : Nat} (h : ¬ (b ≤ at_ ts k ∧ at_ ts k < e)) : inn b e ts (k + 1) = inn b e ts k := by rw [inn, if_neg h]
/-- the sum of the first k -/
def su (L : List Int) : Nat → Int
  | 0 => 0
  | k + 1 => su L k + at_ L k
theorem su_next (L : List Int) (k : Nat) : su L (k + 1) = su L k + at_ L k := rfl
theorem su_bump {L : List Int} {q : Nat} (hq : q < L.length) (k : Nat) : su (bump L q) k = su L k + if q < k then 1 else 0 := by
  induction k with
  | zero => simp [su]
  | succ k ih =>
    rw [su, su, ih]
    have : at_ (bump L q) k = if q = k then at_ L k + 1 else at_ L k := by
      unfold bump
      rw [at_set]
      by_cases h : q = k
      · subst h; simp [hq]
      · simp [h]
    rw [this]
    by_cases h : q = k
    · subst h; simp; omega
    · by_cases h2 : q < k
      · rw [if_pos h2, if_neg h, if_pos (by omega)]; omega
      · rw [if_neg h2, if_neg h, if_neg (by omega)]; omega
theorem su_bound {L : List Int} (h : ∀ i, 0 ≤ at_ L i ∧ at_ L i ≤ 200) (k : Nat) : 0 ≤ su L k ∧ su L k ≤ 200 * k := by
  induction k with
  | zero => simp [su]
  | succ k ih => have := h k; rw [su]; omega
theorem su_cn {p f : Int} {ts : List Int} (hp : 1 ≤ p) (k : Nat) : su (cn p f 7 ts k) 7 = (inn f (f + 7 * p) ts k : Nat) := by
  induction k with
  | zero => simp [cn, inn, su, at_]
  | succ k ih =>
    by_cases h1 : at_ ts k < f
    · rw [cn_low h1, inn_no (by omega), ih]
    · by_cases h2 : ((7 : Nat) : Int) ≤ (at_ ts k - f) / p
      · have h3 : 7 * p ≤ at_ ts k - f := by
          have := Int.ediv_mul_le (at_ ts k - f) (b := p) (by omega)
          have h4 : (7 : Int) * p ≤ (at_ ts k - f) / p * p := Int.mul_le_mul_of_nonneg_right h2 (by omega)
          omega
        rw [cn_high h1 h2, inn_no (by omega), ih]
      · have h0 : 0 ≤ (at_ ts k - f) / p := Int.ediv_nonneg (by omega) (by omega)
        have h3 : at_ ts k - f < 7 * p := (Int.ediv_lt_iff_lt_mul (by omega)).1 (by omega)
        obtain ⟨q, hq⟩ : ∃ q : Nat, (at_ ts k - f) / p = q := ⟨((at_ ts k - f) / p).toNat, by omega⟩
        have hq7 : q < 7 := by omega
        rw [cn_hit h1 hq hq7, inn_yes (by omega) (by omega)]
        have := su_bump (L := cn p f 7 ts k) (q := q) (by rw [cn_len]; exact hq7) 7
        rw [if_pos hq7] at this
        unfold bump at this
        rw [this, ih]
        omega
theorem mem_at {l : List Int} {x : Int} (h : x ∈ l) : ∃ i, x = at_ l i := by
  obtain ⟨i, hi, rfl⟩ := List.mem_iff_getElem.1 h
  exact ⟨i, by simp [at_, List.getElem?_eq_getElem hi]⟩
theorem turn_small {ts : List Int} (h : ∀ i, at_ ts i ≤ 9223372036854775807) (t : Nat) : ∀ i, at_ (ts.drop t ++ ts.take t) i ≤ 9223372036854775807 := by
  refine Wk.small_at fun z hz => ?_
  have : z ∈ ts := by
    rcases List.mem_append.1 hz with h1 | h1
    · exact List.mem_of_mem_drop h1
    · exact List.mem_of_mem_take h1
  obtain ⟨i, rfl⟩ := mem_at this
  exact h i
theorem bf_small {ts : List Int} (h : ∀ i, at_ ts i ≤ 9223372036854775807) (b : Int) (k : Nat) : ∀ i, at_ (bf b ts k) i ≤ 9223372036854775807 := by
  refine Wk.small_at ?_
  induction k with
  | zero => intro z hz; simp [bf] at hz
  | succ k ih =>
    intro z hz
    by_cases hx : at_ ts k < b
    · rw [bf_yes hx] at hz
      rcases List.mem_append.1 hz with h1 | h1
      · exact ih z h1
      · have : z = at_ ts k := by simpa using h1
        rw [this]; exact h k
    · rw [bf_no hx] at hz; exact ih z hz
theorem ct7 {s : Sc} {ts : List Int} {f : Int} (h : chS s = 0) (hf : 0 ≤ f ∧ f < 68719476736) : ctS s ts f 7 = cn s.p f 7 ts ts.length := by
  unfold ctS
  rw [if_neg (by omega), if_neg (by omega), if_neg (by omega), if_neg (by omega)]
  rfl
theorem begin_in {p t : Int} (hp : 1 ≤ p ∧ p ≤ 86400) (ht : 0 ≤ t ∧ t < 68719476736) : 0 ≤ t / p * p ∧ t / p * p < 68719476736 :=
  ⟨Int.mul_nonneg (div_in hp ht).1 (by omega), by have := Int.ediv_mul_le t (b := p) (by omega); omega⟩
end Go.Proofs.Ytcobolmagjlbeaa.Mt
