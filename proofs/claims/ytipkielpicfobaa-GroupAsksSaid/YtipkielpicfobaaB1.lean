/- Lanes, both sides. Condition: lists of at most a hundred. -/
import Derived.Test.YtipkielpicfobaaSi
import Derived.Test.YtipkielpicfobaaAvW
import Derived.Test.YtipkielpicfobaaTy
set_option linter.unusedSimpArgs false
set_option linter.unusedVariables false
namespace Go.Proofs.Ytipkielpicfobaa.Wk
open Go Go.RowKit Go.Sort Go.Shelf Go.Lib Go.Proofs.Ytipkielpicfobaa.Av
theorem ne_self_b (a : Int) : (a != a) = false := by simp
theorem sEq_eq {a b : ByteArray} (h : sEq a b = true) : a = b := of_decide_eq_true h
theorem sEq_of {a b : ByteArray} (h : a = b) : sEq a b = true := decide_eq_true h
theorem nb {b : Bool} (h : ¬ b = true) : b = false := by cases b <;> simp at h ⊢
theorem nnb {b : Bool} (h : ¬ (!b) = true) : b = true := by cases b <;> simp at h ⊢

theorem ix_eq {α : Type} [Inhabited α] {l : List α} {i : Nat} (h : i < l.length) : l[i] = ix l i := by
  have := ix_get h
  rw [List.getElem?_eq_getElem h] at this
  injection this
theorem ix_mem {α : Type} [Inhabited α] {l : List α} {k : Nat} (h : k < l.length) : ix l k ∈ l := by rw [← ix_eq h]; exact List.getElem_mem h
theorem mem_ix {α : Type} [Inhabited α] {l : List α} {x : α} (h : x ∈ l) : ∃ k, k < l.length ∧ ix l k = x := by
  obtain ⟨j, hj, he⟩ := List.mem_iff_getElem.1 h
  exact ⟨j, hj, by rw [← ix_eq hj]; exact he⟩
theorem fnd_no {α : Type} [Inhabited α] {p : α → Bool} {l : List α} (h : ∀ q, q < l.length → p (ix l q) = false) : l.find? p = none := by
  rw [List.find?_eq_none]
  intro x hx
  obtain ⟨k, hk, he⟩ := mem_ix hx
  rw [← he, h k hk]; simp
theorem fnd_at {α : Type} [Inhabited α] {p : α → Bool} {l : List α} {k : Nat} (hk : k < l.length) (h : ∀ q, q < k → p (ix l q) = false) (hp : p (ix l k) = true) : l.find? p = some (ix l k) := by
  rw [List.find?_eq_some_iff_getElem]
  refine ⟨hp, k, hk, ix_eq hk, fun j hj => ?_⟩
  rw [ix_eq (by omega), h j hj]; rfl
theorem any_at {α : Type} [Inhabited α] {p : α → Bool} {l : List α} {k : Nat} (hk : k < l.length) (hp : p (ix l k) = true) : l.any p = true := by
  rw [List.any_eq_true]; exact ⟨_, ix_mem hk, hp⟩
theorem any_no {α : Type} [Inhabited α] {p : α → Bool} {l : List α} (h : ∀ q, q < l.length → p (ix l q) = false) : l.any p = false := by
  rw [List.any_eq_false]
  intro x hx
  obtain ⟨k, hk, he⟩ := mem_ix hx
  rw [← he, h k hk]; simp
theorem all_no {α : Type} [Inhabited α] {p : α → Bool} {l : List α} {k : Nat} (hk : k < l.length) (h : p (ix l k) = false) : l.all p = false := by
  rw [List.all_eq_false]; exact ⟨_, ix_mem hk, by rw [h]; simp⟩
theorem all_yes {α : Type} [Inhabited α] {p : α → Bool} {l : List α} (h : ∀ q, q < l.length → p (ix l q) = true) : l.all p = true := by
  rw [List.all_eq_true]
  intro x hx
  obtain ⟨k, hk, he⟩ := mem_ix hx
  rw [← he]; exact h k hk










def dd (l : List Int) : Nat → List Int
  | 0 => []
  | n + 1 => bif decide (n = 0) || !(ix l n == ix l (n - 1)) then dd l n ++ [ix l n] else dd l n
def rwD (l : List Int) (n : Nat) : List Int := dd l n ++ l.drop (dd l n).length
theorem dd_new {l : List Int} {n : Nat} (h : n = 0 ∨ (ix l n == ix l (n - 1)) = false) : dd l (n + 1) = dd l n ++ [ix l n] := by
  have : (decide (n = 0) || !(ix l n == ix l (n - 1))) = true := by
    rcases h with h | h
    · rw [decide_eq_true h, Bool.true_or]
    · rw [h]; simp
  simp only [dd, this, cond_true]
theorem dd_old {l : List Int} {n : Nat} (h0 : n ≠ 0) (h : (ix l n == ix l (n - 1)) = true) : dd l (n + 1) = dd l n := by
  have : (decide (n = 0) || !(ix l n == ix l (n - 1))) = false := by rw [h, decide_eq_false h0]; rfl
  simp only [dd, this, cond_false]
theorem dd_len (l : List Int) : ∀ n, (dd l n).length ≤ n
  | 0 => by simp [dd]
  | n + 1 => by
    have := dd_len l n
    simp only [dd]
    cases (decide (n = 0) || !(ix l n == ix l (n - 1))) <;> simp only [cond_true, cond_false, List.length_append, List.length_singleton] <;> omega
theorem dd_pos (l : List Int) : ∀ n, 0 < n → 0 < (dd l n).length
  | 0, h => by omega
  | 1, _ => by rw [dd_new (.inl rfl)]; simp
  | n + 2, _ => by
    have := dd_pos l (n + 1) (by omega)
    cases hb : (ix l (n + 1) == ix l (n + 1 - 1)) with
    | true => rw [dd_old (by omega) hb]; exact this
    | false => rw [dd_new (.inr hb), List.length_append]; omega
theorem dd_all {l : List Int} : ∀ n, n ≤ l.length → (∀ q, 1 ≤ q → q < n → (ix l q == ix l (q - 1)) = false) → dd l n = l.take n
  | 0, _, _ => by simp [dd]
  | n + 1, h, hq => by
    have ih := dd_all n (by omega) (fun q h1 h2 => hq q h1 (by omega))
    rw [dd_new (by rcases Nat.eq_zero_or_pos n with h | h; exact .inl h; exact .inr (hq n h (by omega))), ih, take_ix (by omega)]
theorem rwD_len {l : List Int} {n : Nat} (h : n ≤ l.length) : (rwD l n).length = l.length := by
  have := dd_len l n
  unfold rwD
  rw [List.length_append, List.length_drop]; omega
theorem ix_app {α : Type} [Inhabited α] {l m : List α} {q : Nat} (h : l.length ≤ q) : ix (l ++ m) q = ix m (q - l.length) := by
  unfold ix
  rw [List.getD_eq_getElem?_getD, List.getD_eq_getElem?_getD, List.getElem?_append_right h]
theorem ix_drop {α : Type} [Inhabited α] (l : List α) (k q : Nat) : ix (l.drop k) q = ix l (k + q) := by unfold ix; rw [List.getD_eq_getElem?_getD, List.getD_eq_getElem?_getD, List.getElem?_drop]
theorem rwD_ix {l : List Int} {n q : Nat} (h : (dd l n).length ≤ q) : ix (rwD l n) q = ix l q := by
  unfold rwD
  rw [ix_app h, ix_drop]; congr 1; omega
theorem rwD_mem {l : List Int} {n q : Nat} (h : n ≤ l.length) (hq : q < l.length) (hd : ∀ x ∈ dd l n, x ∈ l) : ix (rwD l n) q ∈ l := by
  have h1 : ix (rwD l n) q ∈ rwD l n := ix_mem (by rw [rwD_len h]; exact hq)
  unfold rwD at h1
  rcases List.mem_append.1 h1 with h1 | h1
  · unfold rwD; exact hd _ h1
  · unfold rwD; exact List.mem_of_mem_drop h1
theorem dd_sub {l : List Int} : ∀ n, n ≤ l.length → ∀ x ∈ dd l n, x ∈ l
  | 0, _, x, hx => by simp [dd] at hx
  | n + 1, h, x, hx => by
    have ih := dd_sub (l := l) n (by omega) x
    simp only [dd] at hx
    cases hb : (decide (n = 0) || !(ix l n == ix l (n - 1))) with
    | true =>
      rw [hb, cond_true] at hx
      rcases List.mem_append.1 hx with hx | hx
      · exact ih hx
      · rw [List.mem_singleton] at hx; rw [hx]; exact ix_mem (by omega)
    | false => rw [hb, cond_false] at hx; exact ih hx
theorem rwD_start {l : List Int} {k : Nat} (h0 : 1 ≤ k) (hk : k < l.length) (hq : ∀ q, 1 ≤ q → q < k → (ix l q == ix l (q - 1)) = false) (h : (ix l k == ix l (k - 1)) = true) : rwD l (k + 1) = l ∧ (dd l (k + 1)).length = k := by
  have e : dd l (k + 1) = l.take k := (dd_old (by omega) h).trans (dd_all k (by omega) hq)
  have el : (l.take k).length = k := by rw [List.length_take]; omega
  unfold rwD
  rw [e, el, List.take_append_drop]; exact ⟨rfl, rfl⟩
theorem tD_set {α : Type} {e : α → List DV} {l : List α} {k : Nat} {x : α} {y : List OC} (hy : y = (e x).map OC.dv) : (tD e l).set k y = tD e (l.set k x) := by
  rw [hy]
  unfold tD
  rw [List.map_set, List.map_set]
theorem rwD_set {l : List Int} {n : Nat} (hn : n < l.length) (hk : (dd l n).length < l.length) (h : (ix l n == ix l (n - 1)) = false) : (rwD l n).set (dd l n).length (ix l n) = rwD l (n + 1) := by
  unfold rwD
  rw [dd_new (.inr h), List.set_append_right _ _ (Nat.le_refl _), Nat.sub_self, List.drop_eq_getElem_cons hk, List.set_cons_zero, List.length_append, List.append_assoc]
  rfl
theorem rwD_end {l : List Int} (n : Nat) : (rwD l n).take (dd l n).length = dd l n := by unfold rwD; rw [List.take_append, List.take_of_length_le (Nat.le_refl _), Nat.sub_self, List.take_zero, List.append_nil]

theorem dd_mem {l : List Int} : ∀ n, n ≤ l.length → ∀ q, q < n → ix l q ∈ dd l n
  | 0, _, q, h => by omega
  | n + 1, h, q, hq => by
    have ih := dd_mem (l := l) n (by omega)
    cases hb : (decide (n = 0) || !(ix l n == ix l (n - 1))) with
    | true =>
      simp only [dd, hb, cond_true]
      rcases Nat.lt_succ_iff_lt_or_eq.1 hq with e | e
      · exact List.mem_append_left _ (ih q e)
      · rw [e]; simp
    | false =>
      simp only [dd, hb, cond_false]
      rcases Nat.lt_succ_iff_lt_or_eq.1 hq with e | e
      · exact ih q e
      · simp only [Bool.or_eq_false_iff, decide_eq_false_iff_not, Bool.not_eq_false'] at hb
        have e2 : ix l n = ix l (n - 1) := by simpa using hb.2
        have h0 := hb.1; rw [e, e2]; exact ih (n - 1) (by omega)
theorem dd_last {l : List Int} : ∀ n, 0 < n → n ≤ l.length → ∃ r, dd l n = r ++ [ix l (n - 1)]
  | 0, h, _ => by omega
  | 1, _, _ => ⟨[], by rw [dd_new (.inl rfl)]; rfl⟩
  | n + 2, _, h => by
    obtain ⟨r, hr⟩ := dd_last (l := l) (n + 1) (by omega) (by omega)
    cases hb : (ix l (n + 1) == ix l (n + 1 - 1)) with
    | true =>
      have e : ix l (n + 1) = ix l (n + 1 - 1) := by simpa using hb
      exact ⟨r, by rw [dd_old (by omega) hb, hr, show n + 2 - 1 = n + 1 from rfl, e]⟩
    | false => exact ⟨dd l (n + 1), by rw [dd_new (.inr hb)]; rfl⟩
/-- what is left of a sorted list ascends -/
theorem dd_asc {l : List Int} (hs : l.Pairwise (fun x y => x ≤ y)) : ∀ n, n ≤ l.length → (dd l n).Pairwise (fun x y => x < y)
  | 0, _ => by simp [dd]
  | n + 1, h => by
    have ih := dd_asc hs n (by omega)
    by_cases h0 : n = 0
    · subst h0; rw [dd_new (.inl rfl)]; simp [dd]
    cases hb : (ix l n == ix l (n - 1)) with
    | true => rw [dd_old h0 hb]; exact ih
    | false =>
      rw [dd_new (.inr hb), List.pairwise_append]
      refine ⟨ih, List.pairwise_singleton _ _, fun a ha b hb' => ?_⟩
      rw [List.mem_singleton] at hb'
      subst hb'
      have hle : ix l (n - 1) ≤ ix l n := by
        have := List.pairwise_iff_getElem.1 hs (n - 1) n (by omega) (by omega) (by omega)
        rwa [ix_eq (by omega), ix_eq (by omega)] at this
      have hne : ix l n ≠ ix l (n - 1) := by simpa using hb
      obtain ⟨r, hr⟩ := dd_last (l := l) n (by omega) (by omega)
      rw [hr] at ha ih
      rcases List.mem_append.1 ha with ha | ha
      · have h1 : a < ix l (n - 1) := (List.pairwise_append.1 ih).2.2 a ha _ (by simp)
        omega
      · rw [List.mem_singleton] at ha; rw [ha]; omega
def dfl (l : List Int) : List Int := dd (srtI l) (srtI l).length
theorem dfl_mem {l : List Int} {x : Int} : x ∈ dfl l ↔ x ∈ l := by
  unfold dfl
  constructor
  · intro h; exact (srtI_perm l).subset (dd_sub _ (Nat.le_refl _) x h)
  · intro h
    obtain ⟨q, hq, rfl⟩ := List.getElem_of_mem ((srtI_perm l).symm.subset h)
    rw [ix_eq hq]; exact dd_mem _ (Nat.le_refl _) q hq
theorem dfl_asc (l : List Int) : (dfl l).Pairwise (fun x y => x < y) := dd_asc (srtI_pw l) _ (Nat.le_refl _)
theorem asc_uniq : ∀ {l m : List Int}, l.Pairwise (fun x y => x < y) → m.Pairwise (fun x y => x < y) → (∀ x, x ∈ l ↔ x ∈ m) → l = m
  | [], [], _, _, _ => rfl
  | [], y :: m, _, _, h => absurd ((h y).2 (by simp)) (by simp)
  | x :: l, [], _, _, h => absurd ((h x).1 (by simp)) (by simp)
  | x :: l, y :: m, h1, h2, h => by
    rw [List.pairwise_cons] at h1 h2
    have e : x = y := by
      rcases List.mem_cons.1 ((h x).1 (by simp)) with e | hx
      · exact e
      · rcases List.mem_cons.1 ((h y).2 (by simp)) with e | hy
        · exact e.symm
        · have a := h1.1 y hy
          have b := h2.1 x hx
          omega
    subst e
    rw [asc_uniq h1.2 h2.2 (fun z => ?_)]
    constructor
    · intro hz
      rcases List.mem_cons.1 ((h z).1 (List.mem_cons_of_mem _ hz)) with e | q
      · have := h1.1 z hz; omega
      · exact q
    · intro hz
      rcases List.mem_cons.1 ((h z).2 (List.mem_cons_of_mem _ hz)) with e | q
      · have := h2.1 z hz; omega
      · exact q
def insD : List Int → Int → List Int
  | [], x => [x]
  | y :: o, x => bif decide (y < x) then y :: insD o x else bif y == x then y :: o else x :: y :: o
theorem insD_lt {y x : Int} {o : List Int} (h : y < x) : insD (y :: o) x = y :: insD o x := by simp only [insD, decide_eq_true h, cond_true]
theorem insD_eq {y x : Int} {o : List Int} (h : y = x) : insD (y :: o) x = y :: o := by
  have e : (y == x) = true := by simpa using h
  simp only [insD, decide_eq_false (show ¬ y < x by omega), e, cond_false, cond_true]
theorem insD_gt {y x : Int} {o : List Int} (h : ¬ y < x) (h2 : y ≠ x) : insD (y :: o) x = x :: y :: o := by
  have e : (y == x) = false := by simpa using h2
  simp only [insD, decide_eq_false h, e, cond_false]
theorem insD_at : ∀ {o : List Int} {x : Int} {j : Nat}, j ≤ o.length → (∀ q, q < j → ix o q < x) → (j < o.length → ¬ ix o j < x) → insD o x = if j < o.length ∧ ix o j = x then o else (((o.drop 0).take (j - 0)) ++ [x]) ++ o.drop j
  | [], x, j, h, _, _ => by
    have : j = 0 := by simpa using h
    subst this; simp [insD]
  | y :: o, x, 0, _, _, h => by
    have h : ¬ y < x := h (by simp)
    by_cases e : y = x
    · rw [insD_eq e, if_pos ⟨by simp, e⟩]
    · rw [insD_gt h e, if_neg (fun q => e q.2)]; rfl
  | y :: o, x, j + 1, h1, h2, h3 => by
    have h0 : y < x := h2 0 (by omega)
    have ih := insD_at (o := o) (x := x) (j := j) (by simpa using h1) (fun q hq => h2 (q + 1) (by omega)) (fun h => h3 (by simpa using h))
    rw [insD_lt h0, ih]
    by_cases c : j < o.length ∧ ix o j = x
    · rw [if_pos c, if_pos ⟨by simpa using c.1, c.2⟩]
    · rw [if_neg c, if_neg (fun q => c ⟨by simpa using q.1, q.2⟩)]; simp
theorem insD_mem {z x : Int} : ∀ {o : List Int}, z ∈ insD o x ↔ z ∈ o ∨ z = x
  | [] => by simp [insD]
  | y :: o => by
    have ih := insD_mem (z := z) (x := x) (o := o)
    by_cases h : y < x
    · rw [insD_lt h, List.mem_cons, List.mem_cons, ih, or_assoc]
    · by_cases e : y = x
      · rw [insD_eq e]
        subst e
        exact ⟨.inl, fun h => h.elim id (fun e => by rw [e]; simp)⟩
      · rw [insD_gt h e, List.mem_cons, or_comm]
theorem insD_pw {x : Int} : ∀ {o : List Int}, o.Pairwise (fun x y => x < y) → (insD o x).Pairwise (fun x y => x < y)
  | [], _ => by simp [insD]
  | y :: o, h => by
    have h' := List.pairwise_cons.1 h
    by_cases c : y < x
    · rw [insD_lt c]
      exact List.pairwise_cons.2 ⟨fun z hz => (insD_mem.1 hz).elim (h'.1 z) (fun e => by rw [e]; exact c), insD_pw h'.2⟩
    · by_cases e : y = x
      · rw [insD_eq e]; exact h
      · rw [insD_gt c e]
        have hx : x < y := by omega
        exact List.pairwise_cons.2 ⟨fun z hz => (List.mem_cons.1 hz).elim (fun e => by rw [e]; exact hx) (fun q => by have := h'.1 z q; omega), h⟩
def rsP (l : List Sen) : Nat → List Int
  | 0 => []
  | k + 1 => insD (rsP l k) (ix l k).lane
theorem rsP_pw (l : List Sen) : ∀ k, (rsP l k).Pairwise (fun x y => x < y)
  | 0 => List.Pairwise.nil
  | k + 1 => insD_pw (rsP_pw l k)
theorem rsP_mem {l : List Sen} {z : Int} : ∀ k, z ∈ rsP l k ↔ ∃ q, q < k ∧ (ix l q).lane = z
  | 0 => by simp [rsP]
  | k + 1 => by
    simp only [rsP]
    rw [insD_mem, rsP_mem k]
    constructor
    · rintro (⟨q, h1, h2⟩ | h)
      · exact ⟨q, by omega, h2⟩
      · exact ⟨k, by omega, h.symm⟩
    · rintro ⟨q, h1, h2⟩
      rcases Nat.lt_succ_iff_lt_or_eq.1 h1 with e | e
      · exact .inl ⟨q, e, h2⟩
      · rw [e] at h2; exact .inr h2.symm
theorem rsP_len (l : List Sen) : ∀ k, (rsP l k).length ≤ k
  | 0 => by simp [rsP]
  | k + 1 => by
    have ih := rsP_len l k
    have hl : ∀ (o : List Int) (x : Int), (insD o x).length ≤ o.length + 1 := by
      intro o x
      induction o with
      | nil => simp [insD]
      | cons y o ih =>
        by_cases c : y < x
        · rw [insD_lt c]; simpa using ih
        · by_cases e : y = x
          · rw [insD_eq e]; omega
          · rw [insD_gt c e]; simp
    have := hl (rsP l k) (ix l k).lane
    simp only [rsP]; omega
def lnE (l : List Sen) (k : Nat) : List Int := (l.take k).map (·.lane)
theorem lnE_s {l : List Sen} {k : Nat} (h : k < l.length) : lnE l k ++ [(ix l k).lane] = lnE l (k + 1) := by
  unfold lnE
  rw [take_ix h, List.map_append]; rfl
theorem lnE_len (l : List Sen) (k : Nat) : (lnE l k).length ≤ k := by unfold lnE; rw [List.length_map, List.length_take]; omega
theorem lnE_end {l : List Sen} {k : Nat} (h : k = l.length) : lnE l k = l.map (·.lane) := by unfold lnE; rw [h, List.take_length]
theorem dfl_rs (l : List Sen) : dfl (l.map (·.lane)) = rsP l l.length := asc_uniq (dfl_asc _) (rsP_pw l _) (fun z => by
  rw [dfl_mem, rsP_mem, List.mem_map]
  constructor
  · rintro ⟨x, hx, rfl⟩
    obtain ⟨q, h1, h2⟩ := mem_ix hx
    exact ⟨q, h1, by rw [h2]⟩
  · rintro ⟨q, h1, h2⟩
    exact ⟨ix l q, ix_mem h1, h2⟩)
def mn (l : List Sen) : Nat → Int
  | 0 => (ix l 0).time
  | k + 1 => min (mn l k) (ix l k).time
def mx (l : List Sen) : Nat → Int
  | 0 => (ix l 0).time
  | k + 1 => max (mx l k) (ix l k).time
def hx (l : List Sen) : Nat → Int
  | 0 => (ix l 0).time
  | k + 1 => max (hx l k) ((ix l k).time + 1)
theorem hx_mx (l : List Sen) : ∀ k, 0 < k → hx l k = mx l k + 1
  | 0, h => by omega
  | 1, _ => by simp only [hx, mx]; omega
  | k + 2, _ => by
    have ih := hx_mx l (k + 1) (by omega)
    rw [show hx l (k + 2) = max (hx l (k + 1)) ((ix l (k + 1)).time + 1) from rfl, show mx l (k + 2) = max (mx l (k + 1)) (ix l (k + 1)).time from rfl, ih]
    omega
theorem mn_le {l : List Sen} : ∀ n q, q < n → mn l n ≤ (ix l q).time
  | 0, q, h => by omega
  | n + 1, q, h => by
    simp only [mn]
    rcases Nat.lt_succ_iff_lt_or_eq.1 h with e | e
    · have := mn_le (l := l) n q e; omega
    · rw [e]; omega
theorem mx_ge {l : List Sen} : ∀ n q, q < n → (ix l q).time ≤ mx l n
  | 0, q, h => by omega
  | n + 1, q, h => by
    simp only [mx]
    rcases Nat.lt_succ_iff_lt_or_eq.1 h with e | e
    · have := mx_ge (l := l) n q e; omega
    · rw [e]; omega
theorem mn_mx (l : List Sen) : ∀ k, mn l k ≤ mx l k
  | 0 => Int.le_refl _
  | k + 1 => by
    have := mn_mx l k
    simp only [mn, mx]; omega
def tB (s : Sen) : Bool := decide (s.time < 0) || decide (68719476736 ≤ s.time)
theorem tB_f {s : Sen} (h : tB s = false) : 0 ≤ s.time ∧ s.time < 68719476736 := by
  unfold tB at h
  simp only [Bool.or_eq_false_iff, decide_eq_false_iff_not] at h
  omega
theorem mm_in {l : List Sen} : ∀ k, 0 < k → (∀ q, q < k → tB (ix l q) = false) → 0 ≤ mn l k ∧ mx l k < 68719476736
  | 0, h, _ => by omega
  | 1, _, h => by
    have := tB_f (h 0 (by omega))
    simp only [mn, mx]; omega
  | k + 2, _, h => by
    have ih := mm_in (l := l) (k + 1) (by omega) (fun q hq => h q (by omega))
    have := tB_f (h (k + 1) (by omega))
    rw [show mn l (k + 2) = min (mn l (k + 1)) (ix l (k + 1)).time from rfl, show mx l (k + 2) = max (mx l (k + 1)) (ix l (k + 1)).time from rfl]
    omega
def sp (l : List Sen) : Itv := bif l.length == 0 then ⟨0, 0⟩ else bif (decide (mn l l.length < 0) || decide (68719476736 ≤ mx l l.length)) then ⟨0, 0⟩ else ⟨mn l l.length, mx l l.length + 1⟩
theorem sp_0 {l : List Sen} (h : l.length = 0) : sp l = ⟨0, 0⟩ := by unfold sp; rw [show (l.length == 0) = true from by simpa using h]; rfl
theorem sp_bad {l : List Sen} (h : mn l l.length < 0 ∨ 68719476736 ≤ mx l l.length) : sp l = ⟨0, 0⟩ := by
  unfold sp
  cases (l.length == 0) with
  | true => rfl
  | false =>
    rw [show (decide (mn l l.length < 0) || decide (68719476736 ≤ mx l l.length)) = true from by simp only [Bool.or_eq_true, decide_eq_true_eq]; exact h]; rfl
theorem sp_ok {l : List Sen} (h0 : l.length ≠ 0) (h1 : ¬ mn l l.length < 0) (h2 : ¬ 68719476736 ≤ mx l l.length) : sp l = ⟨mn l l.length, mx l l.length + 1⟩ := by
  unfold sp
  rw [show (l.length == 0) = false from by simpa using h0, decide_eq_false h1, decide_eq_false h2]; rfl
theorem sp_hit {l : List Sen} {k : Nat} (hk : k < l.length) (h : tB (ix l k) = true) : sp l = ⟨0, 0⟩ := sp_bad (by
  have h1 := mn_le (l := l) l.length k hk
  have h2 := mx_ge (l := l) l.length k hk
  unfold tB at h
  simp only [Bool.or_eq_true, decide_eq_true_eq] at h
  omega)
theorem sp_all {l : List Sen} {k : Nat} (h0 : l.length ≠ 0) (hk : k = l.length) (hq : ∀ q, q < k → tB (ix l q) = false) : sp l = ⟨mn l k, hx l k⟩ := by
  subst hk
  have := mm_in (l := l) l.length (by omega) hq
  rw [sp_ok h0 (by omega) (by omega), hx_mx l _ (by omega)]
def nrB (a b gap : Int) : Bool := decide (IntKind.u64.wrap (IntKind.u64.wrap (max a b) - IntKind.u64.wrap (min a b)) ≤ IntKind.u64.wrap (max gap 0))
def clB (a b : Sen) (gap : Int) : Bool := sEq a.point b.point && nrB a.time b.time gap
def tcB (l : List Sen) (s : Sen) (gap : Int) : Bool := l.any fun x => clB x s gap
def ofE (l : List Sen) (kind : Int) (k : Nat) : List Sen := (l.take k).filter fun x => x.kind == kind
theorem ofE_y {l : List Sen} {kind : Int} {k : Nat} (hk : k < l.length) (h : ((ix l k).kind == kind) = true) : ofE l kind k ++ [ix l k] = ofE l kind (k + 1) := by
  unfold ofE
  rw [take_ix hk, List.filter_append]
  simp [h]
theorem ofE_n {l : List Sen} {kind : Int} {k : Nat} (hk : k < l.length) (h : ((ix l k).kind == kind) = false) : ofE l kind k = ofE l kind (k + 1) := by
  unfold ofE
  rw [take_ix hk, List.filter_append]
  simp [h]
theorem ofE_len (l : List Sen) (kind : Int) (k : Nat) : (ofE l kind k).length ≤ k := by
  unfold ofE
  have := List.length_filter_le (fun x : Sen => x.kind == kind) (l.take k)
  rw [List.length_take] at this; omega
theorem eq_self_bb (a : Bool) : (a == a) = true := by cases a <;> rfl

set_option maxHeartbeats 4000000 in
set_option maxRecDepth 100000 in
theorem cptT (l : List Int) (hl : l.length ≤ 1000) : CtrT Try.prog 39 3 1 (tD (rI .i64) l) [] (tD (rI .i64) (dd l l.length)) := by
  refine ctrT (n := 61) (t := 2) (L := []) Try.func39 rfl rfl rfl rfl rfl (fun w0 U0 H0 V0 Q0 => ?_)
  refine a_rseq ?_
  refine rg_put (d := 2) (v := .d (.fl (.slice none 0 0))) rfl (og rfl (op_assign rfl rfl rfl)) ?_
  refine rg_done rfl ?_
  refine a_seq ?_
  refine a_rseq ?_
  refine rg_put (d := 6) (v := .ow 0) rfl (og rfl (op_move rfl rfl rfl)) ?_
  refine rg_put (d := 7) (v := .d (.fl (.int .i64 (((l).length : Int))))) rfl (og rfl (op_len_tr rfl Try.underlying32 rfl rfl tD_len rfl)) ?_
  refine rg_put (d := 8) (v := .d (.fl (.bool ((decide (((l).length : Int) < 2)))))) rfl (og rfl (op_bin rfl rfl rfl (b_lss _ _ _ _) rfl)) ?_
  refine rg_done rfl ?_
  refine a_cond rfl (fun h1 => ?_) (fun h1 => ?_)
  · skip
    have h2 := t_dec h1
    refine a_rseq ?_
    refine rg_put (d := 9) (v := .ow 0) rfl (og rfl (op_move rfl rfl rfl)) ?_
    refine rg_put (d := 2) (v := .ow 0) rfl (og rfl (op_assign rfl rfl rfl)) ?_
    refine rg_done rfl ?_
    refine a_ret ?_
    show ∃ m, _ ∧ _ ∧ _ ∧ _
    rw [show dd l l.length = l from (dd_all l.length (Nat.le_refl _) (fun q h1 h2 => by omega)).trans (List.take_of_length_le (Nat.le_refl _))]
    exact ⟨0, by decide, rfl, rfl, rfl⟩
  · skip
    have h3 := f_dec h1
    refine a_skip ?_
    show A _ _ _ _ _ _ _
    refine a_seq ?_
    refine a_rseq ?_
    refine rg_put (d := 3) (v := .d (.fl (.int .i64 1))) rfl (og rfl (op_assign rfl rfl rfl)) ?_
    refine rg_done rfl ?_
    refine a_block ?_
    refine a_loop (ι := Nat) (fun k => SS [(0, .ow 0), (8, .d (.fl (.bool ((decide (((l).length : Int) < 2)))))), (3, .d (.fl (.int .i64 (k : Int))))] [(0, .tr 3 1 (tD (rI .i64) l)), (1, .pin H0 V0 Q0)]) (fun k => 1 ≤ k ∧ k ≤ l.length ∧ ∀ q, 1 ≤ q → q < k → (ix l q == ix l (q - 1)) = false) (fun k => l.length - k) 1 (⟨by omega, by omega, fun q h1 h2 => by omega⟩) (imp_forget rfl ⟨rfl, rfl, rfl, trivial⟩ ⟨rfl, rfl, trivial⟩) (fun k hok => ?_)
    obtain ⟨hk1, hk, hq⟩ := hok
    refine a_seq ?_
    refine a_rseq ?_
    refine rg_put (d := 10) (v := .d (.fl (.int .i64 (k : Int)))) rfl (og rfl (op_move rfl rfl rfl)) ?_
    refine rg_put (d := 11) (v := .ow 0) rfl (og rfl (op_move rfl rfl rfl)) ?_
    refine rg_put (d := 12) (v := .d (.fl (.int .i64 (((l).length : Int))))) rfl (og rfl (op_len_tr rfl Try.underlying32 rfl rfl tD_len rfl)) ?_
    refine rg_put (d := 13) (v := .d (.fl (.bool ((decide ((k : Int) < ((l).length : Int))))))) rfl (og rfl (op_bin rfl rfl rfl (b_lss _ _ _ _) rfl)) ?_
    refine rg_done rfl ?_
    refine a_cond rfl (fun h4 => ?_) (fun h4 => ?_)
    · skip
      have h5 := t_dec h4
      refine a_skip ?_
      show A _ _ _ _ _ _ _
      refine a_seq ?_
      refine a_block ?_
      refine a_dseq (by kernel_rfl) ?_
      refine dr_put (d := 16) (v := .ow 0) rfl (og rfl (op_move rfl rfl rfl)) ?_
      refine dr_put (d := 17) (v := .d (.fl (.int .i64 (k : Int)))) rfl (og rfl (op_move rfl rfl rfl)) ?_
      refine dr_put (d := 18) (v := .pe 0 1 k 0) rfl (og rfl (op_index_tr rfl Try.underlying32 ti3 rfl rfl rfl (get_lt (tD_at (by omega))) rfl)) ?_
      refine dr_put (d := 19) (v := .d (.fl (.int .i64 (ix l k)))) rfl (og rfl (of_eff (op_load_pe rfl Try.underlying3 rfl rfl rfl (tD_at (by omega)) rfl rfl) rfl)) ?_
      refine dr_put (d := 20) (v := .ow 0) rfl (og rfl (op_move rfl rfl rfl)) ?_
      refine dr_put (d := 21) (v := .d (.fl (.int .i64 (k : Int)))) rfl (og rfl (op_move rfl rfl rfl)) ?_
      refine dr_put (d := 22) (v := .d (.fl (.int .i64 (((k : Int) - 1))))) rfl (og rfl (op_bin rfl rfl rfl (fun x y w => b_sub64 _ _ _ x y w (by omega)) rfl)) ?_
      refine dr_put (d := 23) (v := .pe 0 1 ((((k : Int) - 1)).toNat) 0) rfl (og rfl (op_index_trI rfl Try.underlying32 ti3 rfl rfl rfl (by omega) (get_lt (tD_at (by omega))) rfl)) ?_
      refine dr_put (d := 24) (v := .d (.fl (.int .i64 ((ix l ((((k : Int) - 1)).toNat)))))) rfl (og rfl (of_eff (op_load_pe rfl Try.underlying3 rfl rfl rfl (tD_at (by omega)) rfl rfl) rfl)) ?_
      refine dr_put (d := 25) (v := .d (.fl (.bool (((ix l k) == (ix l ((((k : Int) - 1)).toNat))))))) rfl (og rfl (op_bin rfl rfl rfl (b_eql _ _ _ _) rfl)) ?_
      refine dr_done rfl (by kernel_rfl) (by kernel_rfl) ?_
      refine a_cond rfl (fun h6 => ?_) (fun h6 => ?_)
      · skip
        have h7 := t_beq h6
        refine a_rseq ?_
        refine rg_put (d := 26) (v := .ow 0) rfl (og rfl (op_move rfl rfl rfl)) ?_
        refine rg_put (d := 27) (v := .d (.fl (.int .i64 (k : Int)))) rfl (og rfl (op_move rfl rfl rfl)) ?_
        refine rg_put (d := 28) (v := .wn 0 k 1) rfl (og rfl (op_winD rfl Try.underlying32 ti3 rfl rfl rfl (k := k) (by omega) (by omega) rfl)) ?_
        refine rg_put (d := 4) (v := .wn 0 k 1) rfl (og rfl (op_assign rfl rfl rfl)) ?_
        refine rg_done rfl ?_
        refine a_seq ?_
        refine a_rseq ?_
        refine rg_put (d := 5) (v := .d (.fl (.int .i64 1))) rfl (og rfl (op_assign rfl rfl rfl)) ?_
        refine rg_done rfl ?_
        refine a_block ?_
        have hxk : (ix l k == ix l (k - 1)) = true := by have h := h6; rwa [show ((k : Int) - 1).toNat = k - 1 by omega] at h
        obtain ⟨hr1, hr2⟩ := rwD_start hk1 (by omega) hq hxk
        refine a_loop (ι := Nat) (fun j => SS [(0, .ow 0), (4, .wn 0 k 1), (8, .d (.fl (.bool ((decide (((l).length : Int) < 2)))))), (13, .d (.fl (.bool ((decide ((k : Int) < ((l).length : Int))))))), (25, .d (.fl (.bool (((ix l k) == (ix l ((((k : Int) - 1)).toNat))))))), (5, .d (.fl (.int .i64 (j : Int)))), (3, .d (.fl (.int .i64 (((dd l (k + j)).length : Int)))))] [(1, .pin H0 V0 Q0), (0, .tr 3 1 (tD (rI .i64) ((rwD l (k + j)))))]) (fun j => 1 ≤ j ∧ k + j ≤ l.length ∧ (dd l (k + j)).length + 1 ≤ k + j) (fun j => l.length - (k + j)) 1 (⟨by omega, by omega, by omega⟩) (imp_forget rfl ⟨rfl, rfl, rfl, rfl, rfl, rfl, (ci (by omega)), trivial⟩ ⟨rfl, (congrArg (fun z => Ob.tr 3 1 (tD (rI .i64) z)) hr1.symm), trivial⟩) (fun j hok => ?_)
        obtain ⟨hj1, hjl, hdl0⟩ := hok
        have hrl := rwD_len hjl
        have hp := dd_pos l (k + j) (by omega)
        refine a_seq ?_
        refine a_rseq ?_
        refine rg_put (d := 29) (v := .d (.fl (.int .i64 (j : Int)))) rfl (og rfl (op_move rfl rfl rfl)) ?_
        refine rg_put (d := 30) (v := .wn 0 k 1) rfl (og rfl (op_move rfl rfl rfl)) ?_
        refine rg_put (d := 31) (v := .d (.fl (.int .i64 (((((rwD l (k + j))).length : Int) - (k : Int)))))) rfl (og rfl (op_len_wnD rfl Try.underlying32 rfl rfl (by omega) rfl)) ?_
        refine rg_put (d := 32) (v := .d (.fl (.bool ((decide ((j : Int) < ((((rwD l (k + j))).length : Int) - (k : Int)))))))) rfl (og rfl (op_bin rfl rfl rfl (b_lss _ _ _ _) rfl)) ?_
        refine rg_done rfl ?_
        refine a_cond rfl (fun h8 => ?_) (fun h8 => ?_)
        · skip
          have h9 := t_dec h8
          refine a_skip ?_
          show A _ _ _ _ _ _ _
          refine a_seq ?_
          refine a_block ?_
          refine a_dseq (by kernel_rfl) ?_
          refine dr_put (d := 35) (v := .wn 0 k 1) rfl (og rfl (op_move rfl rfl rfl)) ?_
          refine dr_put (d := 36) (v := .d (.fl (.int .i64 (j : Int)))) rfl (og rfl (op_move rfl rfl rfl)) ?_
          refine dr_put (d := 37) (v := .pe 0 1 (k + j) 0) rfl (og rfl (op_index_wnD rfl Try.underlying32 ti3 rfl rfl rfl (j := j) (by omega) (by omega) rfl)) ?_
          refine dr_put (d := 38) (v := .d (.fl (.int .i64 ((ix ((rwD l (k + j))) (k + j)))))) rfl (og rfl (of_eff (op_load_pe rfl Try.underlying3 rfl rfl rfl (tD_at (by omega)) rfl rfl) rfl)) ?_
          refine dr_put (d := 39) (v := .wn 0 k 1) rfl (og rfl (op_move rfl rfl rfl)) ?_
          refine dr_put (d := 40) (v := .d (.fl (.int .i64 (j : Int)))) rfl (og rfl (op_move rfl rfl rfl)) ?_
          refine dr_put (d := 41) (v := .d (.fl (.int .i64 (((j : Int) - 1))))) rfl (og rfl (op_bin rfl rfl rfl (fun x y w => b_sub64 _ _ _ x y w (by omega)) rfl)) ?_
          refine dr_put (d := 42) (v := .pe 0 1 ((k + (((j : Int) - 1)).toNat)) 0) rfl (og rfl (op_index_wnD rfl Try.underlying32 ti3 rfl rfl rfl (j := (((j : Int) - 1)).toNat) (by omega) (by omega) rfl)) ?_
          refine dr_put (d := 43) (v := .d (.fl (.int .i64 ((ix ((rwD l (k + j))) ((k + (((j : Int) - 1)).toNat))))))) rfl (og rfl (of_eff (op_load_pe rfl Try.underlying3 rfl rfl rfl (tD_at (by omega)) rfl rfl) rfl)) ?_
          refine dr_put (d := 44) (v := .d (.fl (.bool (((ix ((rwD l (k + j))) (k + j)) != (ix ((rwD l (k + j))) ((k + (((j : Int) - 1)).toNat)))))))) rfl (og rfl (op_bin rfl rfl rfl (b_neq _ _ _ _) rfl)) ?_
          refine dr_done rfl (by kernel_rfl) (by kernel_rfl) ?_
          refine a_cond rfl (fun h10 => ?_) (fun h10 => ?_)
          · skip
            have h11 := t_bne h10
            refine a_rseq ?_
            refine rg_put (d := 45) (v := .ow 0) rfl (og rfl (op_move rfl rfl rfl)) ?_
            refine rg_put (d := 46) (v := .d (.fl (.int .i64 (((dd l (k + j)).length : Int))))) rfl (og rfl (op_move rfl rfl rfl)) ?_
            refine rg_put (d := 47) (v := .wn 0 k 1) rfl (og rfl (op_move rfl rfl rfl)) ?_
            refine rg_put (d := 48) (v := .d (.fl (.int .i64 (j : Int)))) rfl (og rfl (op_move rfl rfl rfl)) ?_
            refine rg_put (d := 49) (v := .pe 0 1 (k + j) 0) rfl (og rfl (op_index_wnD rfl Try.underlying32 ti3 rfl rfl rfl (j := j) (by omega) (by omega) rfl)) ?_
            refine rg_put (d := 50) (v := .d (.fl (.int .i64 ((ix ((rwD l (k + j))) (k + j)))))) rfl (og rfl (of_eff (op_load_pe rfl Try.underlying3 rfl rfl rfl (tD_at (by omega)) rfl rfl) rfl)) ?_
            refine rg_put (d := 51) (v := .pe 0 1 ((dd l (k + j)).length) 0) rfl (og rfl (op_index_tr rfl Try.underlying32 ti3 rfl rfl rfl (get_lt (tD_at (by omega))) rfl)) ?_
            refine rg_sto (nw := [(0, .tr 3 1 ((((tD (rI .i64) ((rwD l (k + j))))).set ((dd l (k + j)).length) [.dv (.fl (.int .i64 ((ix ((rwD l (k + j))) (k + j)))))])))]) rfl (og rfl (of_eff (op_store_pe rfl rfl ti3 rfl rfl (tD_at (by omega)) rfl (.d rfl) rfl rfl rfl) rfl)) ?_
            refine rg_done rfl ?_
            refine a_region ?_
            refine rg_put (d := 52) (v := .d (.fl (.int .i64 (((dd l (k + j)).length : Int))))) rfl (og rfl (op_move rfl rfl rfl)) ?_
            refine rg_put (d := 53) (v := .d (.fl (.int .i64 ((((dd l (k + j)).length : Int) + 1))))) rfl (og rfl (op_bin rfl rfl rfl (fun x y w => b_add64 _ _ _ x y w (by omega)) rfl)) ?_
            refine rg_put (d := 3) (v := .d (.fl (.int .i64 ((((dd l (k + j)).length : Int) + 1))))) rfl (og rfl (op_assign rfl rfl rfl)) ?_
            refine rg_done rfl ?_
            show A _ _ _ _ _ _ _
            refine a_region ?_
            refine rg_put (d := 33) (v := .d (.fl (.int .i64 (j : Int)))) rfl (og rfl (op_move rfl rfl rfl)) ?_
            refine rg_put (d := 34) (v := .d (.fl (.int .i64 (((j : Int) + 1))))) rfl (og rfl (op_bin rfl rfl rfl (fun x y w => b_add64 _ _ _ x y w (by omega)) rfl)) ?_
            refine rg_put (d := 5) (v := .d (.fl (.int .i64 (((j : Int) + 1))))) rfl (og rfl (op_assign rfl rfl rfl)) ?_
            refine rg_done rfl ?_
            have hc : ((ix (rwD l (k + j)) (k + j)) == (ix (rwD l (k + j)) (k + ((j : Int) - 1).toNat))) = false := by have h := h10; simp only [bne, Bool.not_eq_true'] at h; simpa using h
            rw [rwD_ix (by omega), rwD_ix (by omega), show k + ((j : Int) - 1).toNat = k + j - 1 by omega] at hc
            have hd := dd_new (.inr hc)
            have hdl : (dd l (k + (j + 1))).length = (dd l (k + j)).length + 1 := (congrArg List.length hd).trans (by rw [List.length_append]; rfl)
            have hst : (((tD (rI .i64) ((rwD l (k + j))))).set ((dd l (k + j)).length) [.dv (.fl (.int .i64 ((ix ((rwD l (k + j))) (k + j)))))]) = tD (rI .i64) (rwD l (k + (j + 1))) := (tD_set (x := ix (rwD l (k + j)) (k + j)) rfl).trans (by rw [rwD_ix (q := k + j) (by omega)]; exact congrArg (tD (rI .i64)) (rwD_set (by omega) (by omega) hc))
            show ∃ i, _ ∧ _ ∧ Imp _ _ _ _ _
            refine ⟨j + 1, ⟨by omega, by omega, by omega⟩, by omega, imp_forget rfl ⟨rfl, rfl, rfl, rfl, rfl, (ci (by omega)), (ci (by omega)), trivial⟩ ⟨rfl, (congrArg (fun z => Ob.tr 3 1 z) hst), trivial⟩⟩
          · skip
            have h12 := f_bne h10
            refine a_skip ?_
            show A _ _ _ _ _ _ _
            refine a_region ?_
            refine rg_put (d := 33) (v := .d (.fl (.int .i64 (j : Int)))) rfl (og rfl (op_move rfl rfl rfl)) ?_
            refine rg_put (d := 34) (v := .d (.fl (.int .i64 (((j : Int) + 1))))) rfl (og rfl (op_bin rfl rfl rfl (fun x y w => b_add64 _ _ _ x y w (by omega)) rfl)) ?_
            refine rg_put (d := 5) (v := .d (.fl (.int .i64 (((j : Int) + 1))))) rfl (og rfl (op_assign rfl rfl rfl)) ?_
            refine rg_done rfl ?_
            have hc : ((ix (rwD l (k + j)) (k + j)) == (ix (rwD l (k + j)) (k + ((j : Int) - 1).toNat))) = true := by have h := h10; simp only [bne, Bool.not_eq_false'] at h; simpa using h
            rw [rwD_ix (by omega), rwD_ix (by omega), show k + ((j : Int) - 1).toNat = k + j - 1 by omega] at hc
            have hd := dd_old (by omega) hc
            have hdl : (dd l (k + (j + 1))).length = (dd l (k + j)).length := congrArg List.length hd
            have hst : tD (rI .i64) (rwD l (k + j)) = tD (rI .i64) (rwD l (k + (j + 1))) := by unfold rwD; rw [show dd l (k + (j + 1)) = dd l (k + j) from hd]
            show ∃ i, _ ∧ _ ∧ Imp _ _ _ _ _
            refine ⟨j + 1, ⟨by omega, by omega, by omega⟩, by omega, imp_forget rfl ⟨rfl, rfl, rfl, rfl, rfl, (ci (by omega)), (ci (by omega)), trivial⟩ ⟨rfl, (congrArg (fun z => Ob.tr 3 1 z) hst), trivial⟩⟩
        · skip
          have h13 := f_dec h8
          refine a_exit ?_
          show A _ _ _ _ _ _ _
          refine a_rseq ?_
          have hkj : k + j = l.length := by omega
          rw [show (k + j) = l.length from hkj]
          rw [hkj] at hrl hp hdl0
          refine rg_put (d := 54) (v := .ow 0) rfl (og rfl (op_move rfl rfl rfl)) ?_
          refine rg_put (d := 55) (v := .d (.fl (.int .i64 (((dd l l.length).length : Int))))) rfl (og rfl (op_move rfl rfl rfl)) ?_
          refine rg_put (d := 56) (v := .wn 0 ((dd l l.length).length) 1) rfl (og rfl (op_winD rfl Try.underlying32 ti3 rfl rfl rfl (k := (dd l l.length).length) (by omega) (by omega) rfl)) ?_
          refine rg_sto (nw := [(0, .tr 3 1 (tD (rI .i64) (((rwD l l.length).take ((dd l l.length).length))) ++ List.replicate ((rwD l l.length).length - ((dd l l.length).length)) (List.replicate 1 OC.un)))]) rfl (og rfl (of_eff (op_clear_wn rfl Try.underlying32 ti3 rfl (by kernel_rfl) (enc := (rI .i64)) (fun _ => rfl) rfl rfl (by omega) rfl) rfl)) ?_
          refine rg_done rfl ?_
          refine a_rseq ?_
          have htk : ((rwD l l.length).take (dd l l.length).length).length = (dd l l.length).length := by rw [rwD_end]
          refine rg_put (d := 57) (v := .ow 0) rfl (og rfl (op_move rfl rfl rfl)) ?_
          refine rg_put (d := 58) (v := .d (.fl (.int .i64 (((dd l l.length).length : Int))))) rfl (og rfl (op_move rfl rfl rfl)) ?_
          refine rg_nam (d := 59) (v := .ow 101) (m := 101) (nw := [(101, .tr 3 1 (tD (rI .i64) (((rwD l l.length).take ((dd l l.length).length))))), (0, .no)]) rfl (og rfl (of_eff (op_sliceOwnZ 101 rfl Try.underlying32 ti3 (enc := (rI .i64)) (A := ((rwD l l.length).take ((dd l l.length).length))) (fun _ => rfl) rfl rfl rfl (by omega) (by omega) rfl) rfl)) rfl ?_
          refine rg_put (d := 2) (v := .ow 101) rfl (og rfl (op_assign rfl rfl rfl)) ?_
          refine rg_done rfl ?_
          refine a_ret ?_
          show ∃ m, _ ∧ _ ∧ _ ∧ _
          rw [rwD_end]
          exact ⟨101, by decide, rfl, rfl, rfl⟩
      · skip
        have h14 := f_beq h6
        refine a_skip ?_
        show A _ _ _ _ _ _ _
        refine a_region ?_
        refine rg_put (d := 14) (v := .d (.fl (.int .i64 (k : Int)))) rfl (og rfl (op_move rfl rfl rfl)) ?_
        refine rg_put (d := 15) (v := .d (.fl (.int .i64 (((k : Int) + 1))))) rfl (og rfl (op_bin rfl rfl rfl (fun x y w => b_add64 _ _ _ x y w (by omega)) rfl)) ?_
        refine rg_put (d := 3) (v := .d (.fl (.int .i64 (((k : Int) + 1))))) rfl (og rfl (op_assign rfl rfl rfl)) ?_
        refine rg_done rfl ?_
        have hx : (ix l k == ix l (k - 1)) = false := by have h := h6; rwa [show ((k : Int) - 1).toNat = k - 1 by omega] at h
        show ∃ i, _ ∧ _ ∧ Imp _ _ _ _ _
        refine ⟨k + 1, ⟨by omega, by omega, fun q h1 h2 => (Nat.lt_succ_iff_lt_or_eq.1 h2).elim (hq q h1) (fun e => by rw [e]; exact hx)⟩, by omega, imp_forget rfl ⟨rfl, rfl, (ci (by omega)), trivial⟩ ⟨rfl, rfl, trivial⟩⟩
    · skip
      have h15 := f_dec h4
      refine a_exit ?_
      show A _ _ _ _ _ _ _
      refine a_rseq ?_
      refine rg_put (d := 60) (v := .ow 0) rfl (og rfl (op_move rfl rfl rfl)) ?_
      refine rg_put (d := 2) (v := .ow 0) rfl (og rfl (op_assign rfl rfl rfl)) ?_
      refine rg_done rfl ?_
      refine a_ret ?_
      show ∃ m, _ ∧ _ ∧ _ ∧ _
      rw [show dd l l.length = l from (dd_all l.length (Nat.le_refl _) (fun q h1 h2 => hq q h1 (by omega))).trans (List.take_of_length_le (Nat.le_refl _))]
      exact ⟨0, by decide, rfl, rfl, rfl⟩
set_option maxHeartbeats 4000000 in
set_option maxRecDepth 100000 in
theorem lanC (l : List Sen) (hl : l.length ≤ 100) : Ctr Try.prog 14 [.sl 11 (List.map eSen l)] (.d (.sl 1 (List.map (rI .i64) (rsP l l.length)))) := by
  refine ctr (n := 22) (rs := #[.tmp 2]) (L := [(0, .d (.sl 11 (List.map eSen l)))]) Try.func14 rfl rfl rfl rfl rfl (fun w0 U0 => ?_)
  refine a_rseq ?_
  refine rg_put (d := 2) (v := .d (.fl (.slice none 0 0))) rfl (og rfl (op_assign rfl rfl rfl)) ?_
  refine rg_done rfl ?_
  refine a_rseq ?_
  refine rg_put (d := 3) (v := .d (.fl (.slice none 0 0))) rfl (og rfl (op_assign rfl rfl rfl)) ?_
  refine rg_done rfl ?_
  refine a_seq ?_
  refine a_rseq ?_
  refine rg_imp (imp_nilT 3 101 3 1 rfl rfl) ?_
  refine rg_put (d := 6) (v := .d (.sl 11 (List.map eSen l))) rfl (og rfl (op_move rfl rfl rfl)) ?_
  refine rg_put (d := 7) (v := .d (.fl (.int .i64 (l.length : Int)))) rfl (og rfl (s_len rfl Try.underlying22 rfl rfl)) ?_
  refine rg_put (d := 8) (v := .d (.fl (.int .i64 0))) rfl (og rfl (op_move rfl rfl rfl)) ?_
  refine rg_done rfl ?_
  refine a_block ?_
  refine a_loop (ι := Nat) (fun k => SS [(0, .d (.sl 11 (List.map eSen l))), (2, .d (.fl (.slice none 0 0))), (6, .d (.sl 11 (List.map eSen l))), (7, .d (.fl (.int .i64 (l.length : Int)))), (8, .d (.fl (.int .i64 (k : Int)))), (3, .ow 101)] [(101, .tr 3 1 (tD (rI .i64) (lnE l k)))]) (fun k => k ≤ l.length) (fun k => l.length - k) 0 (by omega) (imp_forget rfl ⟨rfl, rfl, rfl, rfl, (by first | rfl | exact ci (by omega) | exact ci (by simp) | exact cd (by simp) | simp), (by first | rfl | exact ci (by omega) | exact ci (by simp) | exact cd (by simp) | simp), trivial⟩ ⟨rfl, trivial⟩) (fun k hok => ?_)
  have hk := hok
  have hnl := lnE_len l k
  refine a_rseq ?_
  refine rg_put (d := 9) (v := .d (.fl (.bool ((decide ((k : Int) < (l.length : Int))))))) rfl (og rfl (op_bin rfl rfl rfl (b_lss _ _ _ _) rfl)) ?_
  refine rg_done rfl ?_
  refine a_seq ?_
  refine a_cond rfl (fun h1 => ?_) (fun h1 => ?_)
  · skip
    have h2 := t_dec h1
    refine a_skip ?_
    show A _ _ _ _ _ _ _
    refine a_seq ?_
    refine a_block ?_
    refine a_rseq ?_
    refine rg_put (d := 10) (v := .el ((eSen (ix l k)))) rfl (og rfl (s_index rfl Try.underlying22 ti31 rfl rfl (by omega) (row_at (by omega)) rfl)) ?_
    refine rg_put (d := 11) (v := .d (.ag (eSen (ix l k)))) rfl (og rfl (of_eff (s_load_els rfl Try.underlying31 rfl ti31 rfl rfl rfl) rfl)) ?_
    refine rg_nam (d := 5) (v := .pt 102 0) (m := 102) (nw := [(102, .bx 31 ([.fl (.string (⟨#[]⟩)), .fl (.int .i64 0), .fl (.int .i64 0), .fl (.string (⟨#[]⟩)), .fl (.string (⟨#[]⟩)), .fl (.int .i64 0), .fl (.int .i64 0), .fl (.int .i64 0), .fl (.string (⟨#[]⟩)), .fl (.int .i64 0), .fl (.int .i64 0)]))]) rfl (og rfl (of_eff (s_alloc 102 rfl ti31 (by kernel_rfl) rfl) rfl)) rfl ?_
    refine rg_sto (nw := [(102, .bx 31 ((eSen (ix l k))))]) rfl (og rfl (of_eff (s_store rfl rfl ti31 rfl rfl rfl rfl rfl rfl) rfl)) ?_
    refine rg_done rfl ?_
    refine a_region ?_
    refine rg_put (d := 12) (v := .ow 101) rfl (og rfl (op_move rfl rfl rfl)) ?_
    refine rg_put (d := 13) (v := .pt 102 9) rfl (og rfl (of_eff (s_field_pt rfl Try.underlying31 rfl ti3 rfl rfl rfl) rfl)) ?_
    refine rg_put (d := 14) (v := .d (.fl (.int .i64 ((ix l k).lane)))) rfl (og rfl (op_load_pt rfl Try.underlying3 rfl rfl rfl rfl rfl)) ?_
    refine rg_put (d := 15) (v := .d (.sl 1 (List.map (rI .i64) [(ix l k).lane]))) rfl (og rfl (of_eff (op_slices rfl Try.underlying32 ti3 rfl rfl rfl (by kernel_rfl) (xs := [.fl (.int .i64 ((ix l k).lane))]) rfl rfl (.cons rfl rfl (.d _) rfl rfl rfl .nil) rfl) rfl)) ?_
    refine rg_nam (d := 16) (v := .ow 103) (m := 103) (nw := [(103, .tr 3 1 (tD (rI .i64) (((lnE l k) ++ [(ix l k).lane])))), (101, .no)]) rfl (og rfl (of_eff (s_append_td 103 rfl Try.underlying32 ti3 rfl rfl rfl rfl rfl (.d _) (by simp only [List.length_append, List.length_cons, List.length_nil]; omega) rfl) rfl)) rfl ?_
    refine rg_put (d := 3) (v := .ow 103) rfl (og rfl (op_assign rfl rfl rfl)) ?_
    refine rg_done rfl ?_
    show A _ _ _ _ _ _ _
    refine a_region ?_
    refine rg_put (d := 17) (v := .d (.fl (.int .i64 (((k : Int) + 1))))) rfl (og rfl (op_bin rfl rfl rfl (fun x y w => b_add64 _ _ _ x y w (by omega)) rfl)) ?_
    refine rg_put (d := 8) (v := .d (.fl (.int .i64 (((k : Int) + 1))))) rfl (og rfl (op_move rfl rfl rfl)) ?_
    refine rg_done rfl ?_
    show ∃ i, _ ∧ _ ∧ Imp _ _ _ _ _
    refine ⟨k + 1, (by omega), by omega, imp_ren (fun m => bif Nat.beq m 101 then 103 else m) rfl ⟨rfl, rfl, rfl, rfl, (by first | rfl | exact ci (by omega) | exact ci (by simp) | exact cd (by simp) | simp), rfl, trivial⟩ ⟨(congrArg (fun z => Ob.tr 3 1 (tD (rI .i64) z)) (lnE_s (by omega))), trivial⟩⟩
  · skip
    have h3 := f_dec h1
    refine a_exit ?_
    show A _ _ _ _ _ _ _
    refine a_rseq ?_
    rw [show (lnE l k) = (List.map (·.lane) l) from (lnE_end (by omega))]
    have hml : (List.map (fun x : Sen => x.lane) l).length = l.length := List.length_map _
    refine rg_put (d := 18) (v := .ow 101) rfl (og rfl (op_move rfl rfl rfl)) ?_
    refine rg_sortP (gα := (rI .i64)) (fα := (fun n : Int => Value.int .i64 n)) (sr := srtI) (l := (List.map (·.lane) l)) rfl rfl rfl rfl (by rfl) Try.func38 nm38 rfl rfl rfl (fun _ => rfl) (fun _ => rfl) sortInt srtI_len (by omega) ?_
    refine rg_done rfl ?_
    refine a_rseq ?_
    refine rg_put (d := 20) (v := .ow 101) rfl (og rfl (op_move rfl rfl rfl)) ?_
    refine rg_nam (d := 21) (v := .ow 104) (m := 104) (nw := [(104, .tr 3 1 (tD (rI .i64) ((dd ((srtI ((List.map (·.lane) l)))) ((srtI ((List.map (·.lane) l)))).length)))), (101, .no)]) rfl (og rfl (of_eff (op_callT 104 rfl Try.func39 nm39 rfl rfl rfl rfl .nil (cptT ((srtI ((List.map (·.lane) l)))) (by rw [srtI_len]; omega)) rfl) rfl)) rfl ?_
    refine rg_put (d := 2) (v := .ow 104) rfl (og rfl (op_assign rfl rfl rfl)) ?_
    refine rg_done rfl ?_
    refine a_imp (imp_leakT 2 104 rfl rfl) ?_
    refine a_ret ?_
    show ∃ ds, ResL _ _ _ ds ∧ RV.of ds = _
    refine ⟨[.sl 1 (List.map (rI .i64) ((dd ((srtI ((List.map (·.lane) l)))) ((srtI ((List.map (·.lane) l)))).length)))], (.cons (.tmp rfl (.d _)) .nil), ?_⟩
    rw [show dd (srtI (List.map (fun x : Sen => x.lane) l)) (srtI (List.map (fun x : Sen => x.lane) l)).length = rsP l l.length from dfl_rs l]; rfl
set_option maxHeartbeats 4000000 in
set_option maxRecDepth 100000 in
theorem lanR (l : List Sen) (hl : l.length ≤ 100) : Ctr Try.prog 15 [.sl 11 (List.map eSen l)] (.d (.sl 1 (List.map (rI .i64) (rsP l l.length)))) := by
  refine ctr (n := 67) (rs := #[.tmp 2]) (L := [(0, .d (.sl 11 (List.map eSen l)))]) Try.func15 rfl rfl rfl rfl rfl (fun w0 U0 => ?_)
  refine a_rseq ?_
  refine rg_put (d := 2) (v := .d (.fl (.slice none 0 0))) rfl (og rfl (op_assign rfl rfl rfl)) ?_
  refine rg_done rfl ?_
  refine a_rseq ?_
  refine rg_put (d := 3) (v := .d (.fl (.slice none 0 0))) rfl (og rfl (op_assign rfl rfl rfl)) ?_
  refine rg_done rfl ?_
  refine a_seq ?_
  refine a_rseq ?_
  refine rg_imp (imp_nilT 3 101 3 1 rfl rfl) ?_
  refine rg_imp (imp_leakT 3 101 (f := (rI .i64)) (l := []) rfl rfl) ?_
  refine rg_put (d := 4) (v := .d (.fl (.int .i64 0))) rfl (og rfl (op_assign rfl rfl rfl)) ?_
  refine rg_done rfl ?_
  refine a_block ?_
  refine a_loop (ι := Nat) (fun k => SS [(0, .d (.sl 11 (List.map eSen l))), (2, .d (.fl (.slice none 0 0))), (4, .d (.fl (.int .i64 (k : Int)))), (3, .d (.sl 1 (List.map (rI .i64) (rsP l k))))] []) (fun k => k ≤ l.length) (fun k => l.length - k) 0 (by omega) (imp_forget rfl ⟨rfl, rfl, (by first | rfl | exact ci (by omega) | exact ci (by simp) | exact cd (by simp) | simp), rfl, trivial⟩ trivial) (fun k hok => ?_)
  have hk := hok
  have hlu := rsP_len l k
  refine a_seq ?_
  refine a_rseq ?_
  refine rg_put (d := 7) (v := .d (.fl (.int .i64 (k : Int)))) rfl (og rfl (op_move rfl rfl rfl)) ?_
  refine rg_put (d := 8) (v := .d (.sl 11 (List.map eSen l))) rfl (og rfl (op_move rfl rfl rfl)) ?_
  refine rg_put (d := 9) (v := .d (.fl (.int .i64 (l.length : Int)))) rfl (og rfl (s_len rfl Try.underlying22 rfl rfl)) ?_
  refine rg_put (d := 10) (v := .d (.fl (.bool ((decide ((k : Int) < (l.length : Int))))))) rfl (og rfl (op_bin rfl rfl rfl (b_lss _ _ _ _) rfl)) ?_
  refine rg_done rfl ?_
  refine a_cond rfl (fun h1 => ?_) (fun h1 => ?_)
  · skip
    have h2 := t_dec h1
    refine a_skip ?_
    show A _ _ _ _ _ _ _
    refine a_seq ?_
    refine a_block ?_
    refine a_rseq ?_
    refine rg_put (d := 5) (v := .d (.fl (.int .i64 0))) rfl (og rfl (op_assign rfl rfl rfl)) ?_
    refine rg_done rfl ?_
    refine a_seq ?_
    refine a_block ?_
    refine a_loop (ι := Nat) (fun j => SS [(0, .d (.sl 11 (List.map eSen l))), (2, .d (.fl (.slice none 0 0))), (3, .d (.sl 1 (List.map (rI .i64) (rsP l k)))), (4, .d (.fl (.int .i64 (k : Int)))), (10, .d (.fl (.bool ((decide ((k : Int) < (l.length : Int))))))), (5, .d (.fl (.int .i64 (j : Int))))] []) (fun j => j ≤ (rsP l k).length ∧ ∀ q, q < j → ix (rsP l k) q < (ix l k).lane) (fun j => (rsP l k).length - j) 0 (⟨by omega, fun q h => absurd h (by omega)⟩) (imp_forget rfl ⟨rfl, rfl, rfl, rfl, rfl, (by first | rfl | exact ci (by omega) | exact ci (by simp) | exact cd (by simp) | simp), trivial⟩ trivial) (fun j hok => ?_)
    obtain ⟨hj, hq⟩ := hok
    refine a_seq ?_
    refine a_dseq (by kernel_rfl) ?_
    refine dr_put (d := 13) (v := .d (.fl (.int .i64 (j : Int)))) rfl (og rfl (op_move rfl rfl rfl)) ?_
    refine dr_put (d := 14) (v := .d (.sl 1 (List.map (rI .i64) (rsP l k)))) rfl (og rfl (op_move rfl rfl rfl)) ?_
    refine dr_put (d := 15) (v := .d (.fl (.int .i64 (((rsP l k).length : Int))))) rfl (og rfl (s_len rfl Try.underlying32 rfl rfl)) ?_
    refine dr_put (d := 16) (v := .d (.fl (.bool ((decide ((j : Int) < ((rsP l k).length : Int))))))) rfl (og rfl (op_bin rfl rfl rfl (b_lss _ _ _ _) rfl)) ?_
    refine dr_put (d := 17) (v := .d (.fl (.bool ((decide ((j : Int) < ((rsP l k).length : Int))))))) rfl (og rfl (op_move rfl rfl rfl)) ?_
    rcases fot ((decide ((j : Int) < ((rsP l k).length : Int)))) with h3 | h3
    · skip
      have h4 := f_dec h3
      refine dr_put (d := 18) (v := .d (.fl undef)) rfl (on rfl rfl rfl h3) ?_
      refine dr_put (d := 19) (v := .d (.fl undef)) rfl (on rfl rfl rfl h3) ?_
      refine dr_put (d := 20) (v := .d (.fl undef)) rfl (on rfl rfl rfl h3) ?_
      refine dr_put (d := 21) (v := .d (.fl undef)) rfl (on rfl rfl rfl h3) ?_
      refine dr_put (d := 22) (v := .d (.fl undef)) rfl (on rfl rfl rfl h3) ?_
      refine dr_put (d := 23) (v := .d (.fl undef)) rfl (on rfl rfl rfl h3) ?_
      refine dr_put (d := 24) (v := .d (.fl undef)) rfl (on rfl rfl rfl h3) ?_
      refine dr_put (d := 25) (v := .d (.fl undef)) rfl (on rfl rfl rfl h3) ?_
      refine dr_put (d := 26) (v := .d (.fl undef)) rfl (on rfl rfl rfl h3) ?_
      refine dr_put (d := 27) (v := .d (.fl undef)) rfl (on rfl rfl rfl h3) ?_
      refine dr_put (d := 28) (v := .d (.fl (.bool false))) rfl (og rfl (op_pick rfl rfl (by rw [h3]; rfl) rfl)) ?_
      refine dr_done rfl (sepB_of [0, 0, 2, 7, 15, 31, 31, 127, 255, 31, 31, 1567, 3615, 7711, 16383, 32767] (by kernel_rfl)) (by kernel_rfl) ?_
      refine a_condF rfl rfl ?_
      refine a_exit ?_
      show A _ _ _ _ _ _ _
      refine a_seq ?_
      refine a_dseq (by kernel_rfl) ?_
      refine dr_put (d := 31) (v := .d (.fl (.int .i64 (j : Int)))) rfl (og rfl (op_move rfl rfl rfl)) ?_
      refine dr_put (d := 32) (v := .d (.sl 1 (List.map (rI .i64) (rsP l k)))) rfl (og rfl (op_move rfl rfl rfl)) ?_
      refine dr_put (d := 33) (v := .d (.fl (.int .i64 (((rsP l k).length : Int))))) rfl (og rfl (s_len rfl Try.underlying32 rfl rfl)) ?_
      refine dr_put (d := 34) (v := .d (.fl (.bool ((decide ((j : Int) < ((rsP l k).length : Int))))))) rfl (og rfl (op_bin rfl rfl rfl (b_lss _ _ _ _) rfl)) ?_
      refine dr_put (d := 35) (v := .d (.fl (.bool ((decide ((j : Int) < ((rsP l k).length : Int))))))) rfl (og rfl (op_move rfl rfl rfl)) ?_
      refine dr_put (d := 36) (v := .d (.fl undef)) rfl (on rfl rfl rfl h3) ?_
      refine dr_put (d := 37) (v := .d (.fl undef)) rfl (on rfl rfl rfl h3) ?_
      refine dr_put (d := 38) (v := .d (.fl undef)) rfl (on rfl rfl rfl h3) ?_
      refine dr_put (d := 39) (v := .d (.fl undef)) rfl (on rfl rfl rfl h3) ?_
      refine dr_put (d := 40) (v := .d (.fl undef)) rfl (on rfl rfl rfl h3) ?_
      refine dr_put (d := 41) (v := .d (.fl undef)) rfl (on rfl rfl rfl h3) ?_
      refine dr_put (d := 42) (v := .d (.fl undef)) rfl (on rfl rfl rfl h3) ?_
      refine dr_put (d := 43) (v := .d (.fl undef)) rfl (on rfl rfl rfl h3) ?_
      refine dr_put (d := 44) (v := .d (.fl undef)) rfl (on rfl rfl rfl h3) ?_
      refine dr_put (d := 45) (v := .d (.fl undef)) rfl (on rfl rfl rfl h3) ?_
      refine dr_put (d := 46) (v := .d (.fl (.bool false))) rfl (og rfl (op_pick rfl rfl (by rw [h3]; rfl) rfl)) ?_
      refine dr_done rfl (sepB_of [0, 0, 2, 7, 15, 31, 31, 127, 255, 31, 31, 1567, 3615, 7711, 16383, 32767] (by kernel_rfl)) (by kernel_rfl) ?_
      refine a_condF rfl rfl ?_
      refine a_skip ?_
      show A _ _ _ _ _ _ _
      refine a_rseq ?_
      refine rg_put (d := 6) (v := .d (.fl (.slice none 0 0))) rfl (og rfl (op_assign rfl rfl rfl)) ?_
      refine rg_done rfl ?_
      refine a_rseq ?_
      refine rg_put (d := 47) (v := .d (.fl (.slice none 0 0))) rfl (og rfl (op_move rfl rfl rfl)) ?_
      refine rg_put (d := 48) (v := .d (.sl 1 (List.map (rI .i64) (rsP l k)))) rfl (og rfl (op_move rfl rfl rfl)) ?_
      refine rg_put (d := 49) (v := .d (.fl (.int .i64 (j : Int)))) rfl (og rfl (op_move rfl rfl rfl)) ?_
      refine rg_put (d := 50) (v := .d (.sl 1 (List.map (rI .i64) ((((rsP l k).drop 0).take (j - 0)))))) rfl (og rfl (s_slice rfl Try.underlying32 ti3 rfl (.no _) (.so (n := j) _ rfl (by omega)) (by omega) (by omega) rfl)) ?_
      refine rg_nam (d := 51) (v := .ow 102) (m := 102) (nw := [(102, .tr 3 1 (tD (rI .i64) ((((rsP l k).drop 0).take (j - 0)))))]) rfl (og rfl (of_eff (s_append_nilT 102 rfl Try.underlying32 ti3 rfl rfl rfl rfl (.d _) (by simp only [List.length_append, List.length_cons, List.length_nil, List.length_take, List.length_drop]; omega) rfl) rfl)) rfl ?_
      refine rg_put (d := 6) (v := .ow 102) rfl (og rfl (op_assign rfl rfl rfl)) ?_
      refine rg_done rfl ?_
      refine a_rseq ?_
      refine rg_put (d := 52) (v := .ow 102) rfl (og rfl (op_move rfl rfl rfl)) ?_
      refine rg_put (d := 53) (v := .d (.sl 11 (List.map eSen l))) rfl (og rfl (op_move rfl rfl rfl)) ?_
      refine rg_put (d := 54) (v := .d (.fl (.int .i64 (k : Int)))) rfl (og rfl (op_move rfl rfl rfl)) ?_
      refine rg_put (d := 55) (v := .el ((eSen (ix l k)))) rfl (og rfl (s_index rfl Try.underlying22 ti31 rfl rfl (by omega) (row_at (by omega)) rfl)) ?_
      refine rg_put (d := 56) (v := .el ((List.drop 9 ((eSen (ix l k)))))) rfl (og rfl (of_eff (s_field_el rfl Try.underlying31 rfl ti3 rfl rfl rfl) rfl)) ?_
      refine rg_put (d := 57) (v := .d (.fl (.int .i64 ((ix l k).lane)))) rfl (og rfl (op_load_el rfl Try.underlying3 rfl rfl rfl rfl)) ?_
      refine rg_put (d := 58) (v := .d (.sl 1 (List.map (rI .i64) [(ix l k).lane]))) rfl (og rfl (of_eff (op_slices rfl Try.underlying32 ti3 rfl rfl rfl (by kernel_rfl) (xs := [.fl (.int .i64 ((ix l k).lane))]) rfl rfl (.cons rfl rfl (.d _) rfl rfl rfl .nil) rfl) rfl)) ?_
      refine rg_nam (d := 59) (v := .ow 103) (m := 103) (nw := [(103, .tr 3 1 (tD (rI .i64) (((((rsP l k).drop 0).take (j - 0)) ++ [(ix l k).lane])))), (102, .no)]) rfl (og rfl (of_eff (s_append_td 103 rfl Try.underlying32 ti3 rfl rfl rfl rfl rfl (.d _) (by simp only [List.length_append, List.length_cons, List.length_nil, List.length_take, List.length_drop]; omega) rfl) rfl)) rfl ?_
      refine rg_put (d := 6) (v := .ow 103) rfl (og rfl (op_assign rfl rfl rfl)) ?_
      refine rg_done rfl ?_
      refine a_rseq ?_
      refine rg_put (d := 60) (v := .ow 103) rfl (og rfl (op_move rfl rfl rfl)) ?_
      refine rg_put (d := 61) (v := .d (.sl 1 (List.map (rI .i64) (rsP l k)))) rfl (og rfl (op_move rfl rfl rfl)) ?_
      refine rg_put (d := 62) (v := .d (.fl (.int .i64 (j : Int)))) rfl (og rfl (op_move rfl rfl rfl)) ?_
      refine rg_put (d := 63) (v := .d (.sl 1 (List.map (rI .i64) (((rsP l k).drop j))))) rfl (og rfl (s_sliceTail rfl Try.underlying32 ti3 rfl (.so (n := j) _ rfl (by omega)) (by omega) rfl)) ?_
      refine rg_nam (d := 64) (v := .ow 104) (m := 104) (nw := [(104, .tr 3 1 (tD (rI .i64) ((((((rsP l k).drop 0).take (j - 0)) ++ [(ix l k).lane]) ++ ((rsP l k).drop j))))), (103, .no)]) rfl (og rfl (of_eff (s_append_td 104 rfl Try.underlying32 ti3 rfl rfl rfl rfl rfl (.d _) (by simp only [List.length_append, List.length_cons, List.length_nil, List.length_take, List.length_drop]; omega) rfl) rfl)) rfl ?_
      refine rg_put (d := 6) (v := .ow 104) rfl (og rfl (op_assign rfl rfl rfl)) ?_
      refine rg_done rfl ?_
      refine a_region ?_
      refine rg_put (d := 65) (v := .ow 104) rfl (og rfl (op_move rfl rfl rfl)) ?_
      refine rg_put (d := 3) (v := .ow 104) rfl (og rfl (op_assign rfl rfl rfl)) ?_
      refine rg_done rfl ?_
      show A _ _ _ _ _ _ _
      refine a_region ?_
      rw [show (((((rsP l k).drop 0).take (j - 0)) ++ [(ix l k).lane]) ++ ((rsP l k).drop j)) = (rsP l (k + 1)) from (((insD_at (x := (ix l k).lane) (by omega) hq (fun h => absurd h (by omega))).trans (if_neg (fun q => absurd q.1 (by omega)))).symm)]
      refine rg_imp (imp_leakT 3 104 rfl rfl) ?_
      refine rg_put (d := 11) (v := .d (.fl (.int .i64 (k : Int)))) rfl (og rfl (op_move rfl rfl rfl)) ?_
      refine rg_put (d := 12) (v := .d (.fl (.int .i64 (((k : Int) + 1))))) rfl (og rfl (op_bin rfl rfl rfl (fun x y w => b_add64 _ _ _ x y w (by omega)) rfl)) ?_
      refine rg_put (d := 4) (v := .d (.fl (.int .i64 (((k : Int) + 1))))) rfl (og rfl (op_assign rfl rfl rfl)) ?_
      refine rg_done rfl ?_
      have hst : (rsP l (k + 1)) = rsP l (k + 1) := rfl
      show ∃ i, _ ∧ _ ∧ Imp _ _ _ _ _
      refine ⟨k + 1, (by omega), by omega, imp_forget rfl ⟨rfl, rfl, (ci (by omega)), (cd (congrArg (fun z => DV.sl 1 (List.map (rI .i64) z)) hst)), trivial⟩ trivial⟩
    · skip
      have h5 := t_dec h3
      refine dr_put (d := 18) (v := .d (.sl 1 (List.map (rI .i64) (rsP l k)))) rfl (oy rfl rfl rfl h3 (op_move rfl rfl rfl)) ?_
      refine dr_put (d := 19) (v := .d (.fl (.int .i64 (j : Int)))) rfl (oy rfl rfl rfl h3 (op_move rfl rfl rfl)) ?_
      refine dr_put (d := 20) (v := .el ((rI .i64 ((ix (rsP l k) j))))) rfl (oy rfl rfl rfl h3 (s_index rfl Try.underlying32 ti3 rfl rfl (by omega) (row_at (by omega)) rfl)) ?_
      refine dr_put (d := 21) (v := .d (.fl (.int .i64 ((ix (rsP l k) j))))) rfl (oy rfl rfl rfl h3 (op_load_el rfl Try.underlying3 rfl rfl rfl rfl)) ?_
      refine dr_put (d := 22) (v := .d (.sl 11 (List.map eSen l))) rfl (oy rfl rfl rfl h3 (op_move rfl rfl rfl)) ?_
      refine dr_put (d := 23) (v := .d (.fl (.int .i64 (k : Int)))) rfl (oy rfl rfl rfl h3 (op_move rfl rfl rfl)) ?_
      refine dr_put (d := 24) (v := .el ((eSen (ix l k)))) rfl (oy rfl rfl rfl h3 (s_index rfl Try.underlying22 ti31 rfl rfl (by omega) (row_at (by omega)) rfl)) ?_
      refine dr_put (d := 25) (v := .el ((List.drop 9 ((eSen (ix l k)))))) rfl (oy rfl rfl rfl h3 (of_eff (s_field_el rfl Try.underlying31 rfl ti3 rfl rfl rfl) rfl)) ?_
      refine dr_put (d := 26) (v := .d (.fl (.int .i64 ((ix l k).lane)))) rfl (oy rfl rfl rfl h3 (op_load_el rfl Try.underlying3 rfl rfl rfl rfl)) ?_
      refine dr_put (d := 27) (v := .d (.fl (.bool ((decide ((ix (rsP l k) j) < (ix l k).lane)))))) rfl (oy rfl rfl rfl h3 (op_bin rfl rfl rfl (b_lss _ _ _ _) rfl)) ?_
      refine dr_put (d := 28) (v := .d (.fl (.bool ((decide ((ix (rsP l k) j) < (ix l k).lane)))))) rfl (og rfl (op_pick rfl rfl (by rw [h3]; rfl) rfl)) ?_
      refine dr_done rfl (sepB_of [0, 0, 2, 7, 15, 31, 31, 127, 255, 31, 31, 1567, 3615, 7711, 16383, 32767] (by kernel_rfl)) (by kernel_rfl) ?_
      refine a_cond rfl (fun h6 => ?_) (fun h6 => ?_)
      · skip
        have h7 := t_dec h6
        refine a_skip ?_
        show A _ _ _ _ _ _ _
        refine a_block ?_
        refine a_region ?_
        refine rg_put (d := 29) (v := .d (.fl (.int .i64 (j : Int)))) rfl (og rfl (op_move rfl rfl rfl)) ?_
        refine rg_put (d := 30) (v := .d (.fl (.int .i64 (((j : Int) + 1))))) rfl (og rfl (op_bin rfl rfl rfl (fun x y w => b_add64 _ _ _ x y w (by omega)) rfl)) ?_
        refine rg_put (d := 5) (v := .d (.fl (.int .i64 (((j : Int) + 1))))) rfl (og rfl (op_assign rfl rfl rfl)) ?_
        refine rg_done rfl ?_
        have hcj := of_decide_eq_true h6
        show ∃ i, _ ∧ _ ∧ Imp _ _ _ _ _
        refine ⟨j + 1, ⟨by omega, fun q h => by rcases Nat.lt_succ_iff_lt_or_eq.1 h with h | h <;> first | exact hq q h | (subst h; exact hcj)⟩, by omega, imp_forget rfl ⟨rfl, rfl, rfl, rfl, rfl, (ci (by omega)), trivial⟩ trivial⟩
      · skip
        have h8 := f_dec h6
        refine a_exit ?_
        show A _ _ _ _ _ _ _
        refine a_seq ?_
        refine a_dseq (by kernel_rfl) ?_
        refine dr_put (d := 31) (v := .d (.fl (.int .i64 (j : Int)))) rfl (og rfl (op_move rfl rfl rfl)) ?_
        refine dr_put (d := 32) (v := .d (.sl 1 (List.map (rI .i64) (rsP l k)))) rfl (og rfl (op_move rfl rfl rfl)) ?_
        refine dr_put (d := 33) (v := .d (.fl (.int .i64 (((rsP l k).length : Int))))) rfl (og rfl (s_len rfl Try.underlying32 rfl rfl)) ?_
        refine dr_put (d := 34) (v := .d (.fl (.bool ((decide ((j : Int) < ((rsP l k).length : Int))))))) rfl (og rfl (op_bin rfl rfl rfl (b_lss _ _ _ _) rfl)) ?_
        refine dr_put (d := 35) (v := .d (.fl (.bool ((decide ((j : Int) < ((rsP l k).length : Int))))))) rfl (og rfl (op_move rfl rfl rfl)) ?_
        refine dr_put (d := 36) (v := .d (.sl 1 (List.map (rI .i64) (rsP l k)))) rfl (oy rfl rfl rfl h3 (op_move rfl rfl rfl)) ?_
        refine dr_put (d := 37) (v := .d (.fl (.int .i64 (j : Int)))) rfl (oy rfl rfl rfl h3 (op_move rfl rfl rfl)) ?_
        refine dr_put (d := 38) (v := .el ((rI .i64 ((ix (rsP l k) j))))) rfl (oy rfl rfl rfl h3 (s_index rfl Try.underlying32 ti3 rfl rfl (by omega) (row_at (by omega)) rfl)) ?_
        refine dr_put (d := 39) (v := .d (.fl (.int .i64 ((ix (rsP l k) j))))) rfl (oy rfl rfl rfl h3 (op_load_el rfl Try.underlying3 rfl rfl rfl rfl)) ?_
        refine dr_put (d := 40) (v := .d (.sl 11 (List.map eSen l))) rfl (oy rfl rfl rfl h3 (op_move rfl rfl rfl)) ?_
        refine dr_put (d := 41) (v := .d (.fl (.int .i64 (k : Int)))) rfl (oy rfl rfl rfl h3 (op_move rfl rfl rfl)) ?_
        refine dr_put (d := 42) (v := .el ((eSen (ix l k)))) rfl (oy rfl rfl rfl h3 (s_index rfl Try.underlying22 ti31 rfl rfl (by omega) (row_at (by omega)) rfl)) ?_
        refine dr_put (d := 43) (v := .el ((List.drop 9 ((eSen (ix l k)))))) rfl (oy rfl rfl rfl h3 (of_eff (s_field_el rfl Try.underlying31 rfl ti3 rfl rfl rfl) rfl)) ?_
        refine dr_put (d := 44) (v := .d (.fl (.int .i64 ((ix l k).lane)))) rfl (oy rfl rfl rfl h3 (op_load_el rfl Try.underlying3 rfl rfl rfl rfl)) ?_
        refine dr_put (d := 45) (v := .d (.fl (.bool (((ix (rsP l k) j) == (ix l k).lane))))) rfl (oy rfl rfl rfl h3 (op_bin rfl rfl rfl (b_eql _ _ _ _) rfl)) ?_
        refine dr_put (d := 46) (v := .d (.fl (.bool (((ix (rsP l k) j) == (ix l k).lane))))) rfl (og rfl (op_pick rfl rfl (by rw [h3]; rfl) rfl)) ?_
        refine dr_done rfl (sepB_of [0, 0, 2, 7, 15, 31, 31, 127, 255, 31, 31, 1567, 3615, 7711, 16383, 32767] (by kernel_rfl)) (by kernel_rfl) ?_
        refine a_cond rfl (fun h9 => ?_) (fun h9 => ?_)
        · skip
          have h10 := t_beq h9
          refine a_exit ?_
          show A _ _ _ _ _ _ _
          refine a_region ?_
          refine rg_put (d := 11) (v := .d (.fl (.int .i64 (k : Int)))) rfl (og rfl (op_move rfl rfl rfl)) ?_
          refine rg_put (d := 12) (v := .d (.fl (.int .i64 (((k : Int) + 1))))) rfl (og rfl (op_bin rfl rfl rfl (fun x y w => b_add64 _ _ _ x y w (by omega)) rfl)) ?_
          refine rg_put (d := 4) (v := .d (.fl (.int .i64 (((k : Int) + 1))))) rfl (og rfl (op_assign rfl rfl rfl)) ?_
          refine rg_done rfl ?_
          have hst : (rsP l k) = rsP l (k + 1) := ((insD_at (by omega) hq (fun _ => of_decide_eq_false h6)).trans (if_pos ⟨by omega, by simpa using h9⟩)).symm
          show ∃ i, _ ∧ _ ∧ Imp _ _ _ _ _
          refine ⟨k + 1, (by omega), by omega, imp_forget rfl ⟨rfl, rfl, (ci (by omega)), (cd (congrArg (fun z => DV.sl 1 (List.map (rI .i64) z)) hst)), trivial⟩ trivial⟩
        · skip
          have h11 := f_beq h9
          refine a_skip ?_
          show A _ _ _ _ _ _ _
          refine a_rseq ?_
          refine rg_put (d := 6) (v := .d (.fl (.slice none 0 0))) rfl (og rfl (op_assign rfl rfl rfl)) ?_
          refine rg_done rfl ?_
          refine a_rseq ?_
          refine rg_put (d := 47) (v := .d (.fl (.slice none 0 0))) rfl (og rfl (op_move rfl rfl rfl)) ?_
          refine rg_put (d := 48) (v := .d (.sl 1 (List.map (rI .i64) (rsP l k)))) rfl (og rfl (op_move rfl rfl rfl)) ?_
          refine rg_put (d := 49) (v := .d (.fl (.int .i64 (j : Int)))) rfl (og rfl (op_move rfl rfl rfl)) ?_
          refine rg_put (d := 50) (v := .d (.sl 1 (List.map (rI .i64) ((((rsP l k).drop 0).take (j - 0)))))) rfl (og rfl (s_slice rfl Try.underlying32 ti3 rfl (.no _) (.so (n := j) _ rfl (by omega)) (by omega) (by omega) rfl)) ?_
          refine rg_nam (d := 51) (v := .ow 105) (m := 105) (nw := [(105, .tr 3 1 (tD (rI .i64) ((((rsP l k).drop 0).take (j - 0)))))]) rfl (og rfl (of_eff (s_append_nilT 105 rfl Try.underlying32 ti3 rfl rfl rfl rfl (.d _) (by simp only [List.length_append, List.length_cons, List.length_nil, List.length_take, List.length_drop]; omega) rfl) rfl)) rfl ?_
          refine rg_put (d := 6) (v := .ow 105) rfl (og rfl (op_assign rfl rfl rfl)) ?_
          refine rg_done rfl ?_
          refine a_rseq ?_
          refine rg_put (d := 52) (v := .ow 105) rfl (og rfl (op_move rfl rfl rfl)) ?_
          refine rg_put (d := 53) (v := .d (.sl 11 (List.map eSen l))) rfl (og rfl (op_move rfl rfl rfl)) ?_
          refine rg_put (d := 54) (v := .d (.fl (.int .i64 (k : Int)))) rfl (og rfl (op_move rfl rfl rfl)) ?_
          refine rg_put (d := 55) (v := .el ((eSen (ix l k)))) rfl (og rfl (s_index rfl Try.underlying22 ti31 rfl rfl (by omega) (row_at (by omega)) rfl)) ?_
          refine rg_put (d := 56) (v := .el ((List.drop 9 ((eSen (ix l k)))))) rfl (og rfl (of_eff (s_field_el rfl Try.underlying31 rfl ti3 rfl rfl rfl) rfl)) ?_
          refine rg_put (d := 57) (v := .d (.fl (.int .i64 ((ix l k).lane)))) rfl (og rfl (op_load_el rfl Try.underlying3 rfl rfl rfl rfl)) ?_
          refine rg_put (d := 58) (v := .d (.sl 1 (List.map (rI .i64) [(ix l k).lane]))) rfl (og rfl (of_eff (op_slices rfl Try.underlying32 ti3 rfl rfl rfl (by kernel_rfl) (xs := [.fl (.int .i64 ((ix l k).lane))]) rfl rfl (.cons rfl rfl (.d _) rfl rfl rfl .nil) rfl) rfl)) ?_
          refine rg_nam (d := 59) (v := .ow 106) (m := 106) (nw := [(106, .tr 3 1 (tD (rI .i64) (((((rsP l k).drop 0).take (j - 0)) ++ [(ix l k).lane])))), (105, .no)]) rfl (og rfl (of_eff (s_append_td 106 rfl Try.underlying32 ti3 rfl rfl rfl rfl rfl (.d _) (by simp only [List.length_append, List.length_cons, List.length_nil, List.length_take, List.length_drop]; omega) rfl) rfl)) rfl ?_
          refine rg_put (d := 6) (v := .ow 106) rfl (og rfl (op_assign rfl rfl rfl)) ?_
          refine rg_done rfl ?_
          refine a_rseq ?_
          refine rg_put (d := 60) (v := .ow 106) rfl (og rfl (op_move rfl rfl rfl)) ?_
          refine rg_put (d := 61) (v := .d (.sl 1 (List.map (rI .i64) (rsP l k)))) rfl (og rfl (op_move rfl rfl rfl)) ?_
          refine rg_put (d := 62) (v := .d (.fl (.int .i64 (j : Int)))) rfl (og rfl (op_move rfl rfl rfl)) ?_
          refine rg_put (d := 63) (v := .d (.sl 1 (List.map (rI .i64) (((rsP l k).drop j))))) rfl (og rfl (s_sliceTail rfl Try.underlying32 ti3 rfl (.so (n := j) _ rfl (by omega)) (by omega) rfl)) ?_
          refine rg_nam (d := 64) (v := .ow 107) (m := 107) (nw := [(107, .tr 3 1 (tD (rI .i64) ((((((rsP l k).drop 0).take (j - 0)) ++ [(ix l k).lane]) ++ ((rsP l k).drop j))))), (106, .no)]) rfl (og rfl (of_eff (s_append_td 107 rfl Try.underlying32 ti3 rfl rfl rfl rfl rfl (.d _) (by simp only [List.length_append, List.length_cons, List.length_nil, List.length_take, List.length_drop]; omega) rfl) rfl)) rfl ?_
          refine rg_put (d := 6) (v := .ow 107) rfl (og rfl (op_assign rfl rfl rfl)) ?_
          refine rg_done rfl ?_
          refine a_region ?_
          refine rg_put (d := 65) (v := .ow 107) rfl (og rfl (op_move rfl rfl rfl)) ?_
          refine rg_put (d := 3) (v := .ow 107) rfl (og rfl (op_assign rfl rfl rfl)) ?_
          refine rg_done rfl ?_
          show A _ _ _ _ _ _ _
          refine a_region ?_
          rw [show (((((rsP l k).drop 0).take (j - 0)) ++ [(ix l k).lane]) ++ ((rsP l k).drop j)) = (rsP l (k + 1)) from (((insD_at (x := (ix l k).lane) (by omega) hq (fun _ => of_decide_eq_false h6)).trans (if_neg (fun q => absurd q.2 (by simpa using h9)))).symm)]
          refine rg_imp (imp_leakT 3 107 rfl rfl) ?_
          refine rg_put (d := 11) (v := .d (.fl (.int .i64 (k : Int)))) rfl (og rfl (op_move rfl rfl rfl)) ?_
          refine rg_put (d := 12) (v := .d (.fl (.int .i64 (((k : Int) + 1))))) rfl (og rfl (op_bin rfl rfl rfl (fun x y w => b_add64 _ _ _ x y w (by omega)) rfl)) ?_
          refine rg_put (d := 4) (v := .d (.fl (.int .i64 (((k : Int) + 1))))) rfl (og rfl (op_assign rfl rfl rfl)) ?_
          refine rg_done rfl ?_
          have hst : (rsP l (k + 1)) = rsP l (k + 1) := rfl
          show ∃ i, _ ∧ _ ∧ Imp _ _ _ _ _
          refine ⟨k + 1, (by omega), by omega, imp_forget rfl ⟨rfl, rfl, (ci (by omega)), (cd (congrArg (fun z => DV.sl 1 (List.map (rI .i64) z)) hst)), trivial⟩ trivial⟩
  · skip
    have h12 := f_dec h1
    refine a_exit ?_
    show A _ _ _ _ _ _ _
    refine a_rseq ?_
    rw [show (rsP l k) = (rsP l l.length) from (by rw [show k = l.length by omega])]
    refine rg_put (d := 66) (v := .d (.sl 1 (List.map (rI .i64) (rsP l l.length)))) rfl (og rfl (op_move rfl rfl rfl)) ?_
    refine rg_put (d := 2) (v := .d (.sl 1 (List.map (rI .i64) (rsP l l.length)))) rfl (og rfl (op_assign rfl rfl rfl)) ?_
    refine rg_done rfl ?_
    refine a_ret ?_
    show ∃ ds, ResL _ _ _ ds ∧ RV.of ds = _
    refine ⟨[.sl 1 (List.map (rI .i64) (rsP l l.length))], (.cons (.tmp rfl (.d _)) .nil), ?_⟩
    rfl
end Go.Proofs.Ytipkielpicfobaa.Wk
