/- Sums of records, both sides. Condition: at most 200 records whose amounts fit. -/
import Derived.Test.YtobgdemhadlgnaaLaid
import Derived.Shelf.SlSortCmp.NoneTotal
import Derived.Shelf.Small.Strs
import Derived.Test.YtobgdemhadlgnaaAvR
import Derived.Test.YtobgdemhadlgnaaAvS
import Derived.Test.YtobgdemhadlgnaaAvK
import Derived.Test.YtobgdemhadlgnaaAvI
import Derived.Test.YtobgdemhadlgnaaTy
set_option linter.unusedSimpArgs false
set_option linter.unusedVariables false
namespace Go.Proofs.Ytobgdemhadlgnaa.Wk
open Go Go.RowKit Go.Sort Go.Shelf Go.Lib Go.Proofs.Ytobgdemhadlgnaa.Av
theorem ne_self_b (a : Int) : (a != a) = false := by simp
theorem sEq_eq {a b : ByteArray} (h : sEq a b = true) : a = b := of_decide_eq_true h
theorem sEq_of {a b : ByteArray} (h : a = b) : sEq a b = true := decide_eq_true h
theorem nb {b : Bool} (h : ¬ b = true) : b = false := by cases b <;> simp at h ⊢
theorem nnb {b : Bool} (h : ¬ (!b) = true) : b = true := by cases b <;> simp at h ⊢

theorem ix_eq {α : Type} [Inhabited α] {l : List α} {i : Nat} (h : i < l.length) : l[i] = ix l i := by
  have := ix_get h
  rw [List.getElem?_eq_getElem h] at this
  injection this
theorem ix_mem {α : Type} [Inhabited α] {l : List α} {k : Nat} (h : k < l.length) : ix l k ∈ l := by rw [← ix_eq h]; exact List.getElem_mem h
theorem mem_ix {α : Type} [Inhabited α] {l : List α} {x : α} (h : x ∈ l) : ∃ k, k < l.length ∧ ix l k = x := by
  obtain ⟨j, hj, he⟩ := List.mem_iff_getElem.1 h
  exact ⟨j, hj, by rw [← ix_eq hj]; exact he⟩
theorem fnd_no {α : Type} [Inhabited α] {p : α → Bool} {l : List α} (h : ∀ q, q < l.length → p (ix l q) = false) : l.find? p = none := by
  rw [List.find?_eq_none]
  intro x hx
  obtain ⟨k, hk, he⟩ := mem_ix hx
  rw [← he, h k hk]; simp
theorem fnd_at {α : Type} [Inhabited α] {p : α → Bool} {l : List α} {k : Nat} (hk : k < l.length) (h : ∀ q, q < k → p (ix l q) = false) (hp : p (ix l k) = true) : l.find? p = some (ix l k) := by
  rw [List.find?_eq_some_iff_getElem]
  refine ⟨hp, k, hk, ix_eq hk, fun j hj => ?_⟩
  rw [ix_eq (by omega), h j hj]; rfl
theorem any_at {α : Type} [Inhabited α] {p : α → Bool} {l : List α} {k : Nat} (hk : k < l.length) (hp : p (ix l k) = true) : l.any p = true := by
  rw [List.any_eq_true]; exact ⟨_, ix_mem hk, hp⟩
theorem any_no {α : Type} [Inhabited α] {p : α → Bool} {l : List α} (h : ∀ q, q < l.length → p (ix l q) = false) : l.any p = false := by
  rw [List.any_eq_false]
  intro x hx
  obtain ⟨k, hk, he⟩ := mem_ix hx
  rw [← he, h k hk]; simp
theorem all_no {α : Type} [Inhabited α] {p : α → Bool} {l : List α} {k : Nat} (hk : k < l.length) (h : p (ix l k) = false) : l.all p = false := by
  rw [List.all_eq_false]; exact ⟨_, ix_mem hk, by rw [h]; simp⟩
theorem all_yes {α : Type} [Inhabited α] {p : α → Bool} {l : List α} (h : ∀ q, q < l.length → p (ix l q) = true) : l.all p = true := by
  rw [List.all_eq_true]
  intro x hx
  obtain ⟨k, hk, he⟩ := mem_ix hx
  rw [← he]; exact h k hk

theorem less_at : ∀ (x y : List UInt8) (k : Nat), k < x.length → k < y.length → (∀ q, q < k → x.getD q 0 = y.getD q 0) → x.getD k 0 ≠ y.getD k 0 → Op.bytesLess x y = decide (x.getD k 0 < y.getD k 0)
  | [], _, _, h, _, _, _ => by simp at h
  | _ :: _, [], _, _, h, _, _ => by simp at h
  | a :: x, b :: y, 0, _, _, _, h => by
    have h' : a ≠ b := by simpa using h
    simp [Op.bytesLess, h']
  | a :: x, b :: y, k + 1, h1, h2, h3, h4 => by
    have e : a = b := by simpa using h3 0 (by omega)
    subst e
    have ih := less_at x y k (by simpa using h1) (by simpa using h2) (fun q hq => by simpa using h3 (q + 1) (by omega)) (by simpa using h4)
    simp [Op.bytesLess, ih, UInt8.lt_irrefl]
theorem less_end : ∀ (x y : List UInt8), (∀ q, q < x.length → q < y.length → x.getD q 0 = y.getD q 0) → Op.bytesLess x y = decide (x.length < y.length)
  | [], [], _ => by simp [Op.bytesLess]
  | [], _ :: _, _ => by simp [Op.bytesLess]
  | _ :: _, [], _ => by simp [Op.bytesLess]
  | a :: x, b :: y, h => by
    have e : a = b := by simpa using h 0 (by simp) (by simp)
    subst e
    have ih := less_end x y (fun q h1 h2 => by simpa using h (q + 1) (by simpa using h1) (by simpa using h2))
    simp [Op.bytesLess, ih, UInt8.lt_irrefl]
theorem dlen (s : ByteArray) : s.data.toList.length = s.size := by simp
theorem bef_at {a b : ByteArray} {k : Nat} (h1 : k < a.size) (h2 : k < b.size) (hq : ∀ q, q < k → bt a q = bt b q) (h : bt a k ≠ bt b k) : sLt a b = decide (((bt a k).toNat : Int) < ((bt b k).toNat : Int)) := by
  unfold sLt
  rw [ByteArray.toList_eq, ByteArray.toList_eq, less_at a.data.toList b.data.toList k (by rw [dlen]; exact h1) (by rw [dlen]; exact h2) hq h]
  show decide (bt a k < bt b k) = _
  rw [decide_eq_decide, UInt8.lt_iff_toNat_lt]
  omega
theorem bef_end {a b : ByteArray} {k : Nat} (h : ¬ (k < a.size ∧ k < b.size)) (hq : ∀ q, q < k → bt a q = bt b q) : sLt a b = decide ((a.size : Int) < (b.size : Int)) := by
  unfold sLt
  rw [ByteArray.toList_eq, ByteArray.toList_eq, less_end a.data.toList b.data.toList (fun q h1 h2 => hq q (by rw [dlen] at h1 h2; omega)), dlen, dlen, decide_eq_decide]
  omega
theorem sLt_self (s : ByteArray) : sLt s s = false := by
  rw [bef_end (a := s) (b := s) (k := s.size) (by omega) (fun _ _ => rfl)]
  simp
theorem sLt_ne {s u : ByteArray} (h : sLt s u = true) : sEq s u = false := by
  cases he : sEq s u with
  | false => rfl
  | true => rw [of_decide_eq_true (show decide (s = u) = true from he), sLt_self] at h; cases h
def ic (a b : Int) : Int := bif decide (a < b) then -1 else bif decide (b < a) then 1 else 0
def sc (s u : ByteArray) : Int := bif sEq s u then 0 else bif sLt s u then -1 else 1
theorem sc_lt {s u : ByteArray} (h : sLt s u = true) : sc s u = -1 := by unfold sc; rw [sLt_ne h, h]; rfl
theorem sc_gt {s u : ByteArray} (h : sLt s u = false) (h2 : (sLt s u || sEq s u) = false) : sc s u = 1 := by
  rw [h, Bool.false_or] at h2
  unfold sc; rw [h2, h]; rfl
theorem sc_eq {s u : ByteArray} (h : sLt s u = false) (h2 : (sLt s u || sEq s u) = true) : sc s u = 0 := by
  rw [h, Bool.false_or] at h2
  unfold sc; rw [h2]; rfl
def fz : List Int → Int
  | [] => 0
  | x :: l => bif x != 0 then x else fz l
theorem fz_at : ∀ {l : List Int} {k : Nat}, k < l.length → (∀ q, q < k → ix l q = 0) → ix l k ≠ 0 → fz l = ix l k
  | [], _, h, _, _ => by simp at h
  | x :: l, 0, _, _, h => by
    have h' : x ≠ 0 := h
    show (bif x != 0 then x else fz l) = x
    rw [show (x != 0) = true by simpa using h']; rfl
  | x :: l, k + 1, h1, h2, h3 => by
    have h' : x = 0 := h2 0 (by omega)
    show (bif x != 0 then x else fz l) = ix l k
    rw [show (x != 0) = false by simpa using h', cond_false]
    exact fz_at (by simpa using h1) (fun q hq => h2 (q + 1) (by omega)) h3
theorem fz_no : ∀ {l : List Int}, (∀ q, q < l.length → ix l q = 0) → fz l = 0
  | [], _ => rfl
  | x :: l, h => by
    have h' : x = 0 := h 0 (by simp)
    show (bif x != 0 then x else fz l) = 0
    rw [show (x != 0) = false by simpa using h', cond_false]
    exact fz_no (fun q hq => h (q + 1) (by simpa using hq))
theorem less_anti : ∀ (x y : List UInt8), Op.bytesLess x y = true → Op.bytesLess y x = false
  | [], [], h => by simp [Op.bytesLess] at h
  | [], _ :: _, _ => by simp [Op.bytesLess]
  | _ :: _, [], h => by simp [Op.bytesLess] at h
  | a :: x, b :: y, h => by
    simp only [Op.bytesLess, Bool.or_eq_true, decide_eq_true_eq, Bool.and_eq_true, beq_iff_eq] at h
    simp only [Op.bytesLess, Bool.or_eq_false_iff, decide_eq_false_iff_not, Bool.and_eq_false_iff]
    rcases h with h | ⟨rfl, h⟩
    · refine ⟨fun h2 => UInt8.lt_irrefl a (UInt8.lt_trans h h2), .inl ?_⟩
      simp only [beq_eq_false_iff_ne]
      intro e; subst e; exact UInt8.lt_irrefl _ h
    · exact ⟨UInt8.lt_irrefl a, .inr (less_anti x y h)⟩
theorem less_tot : ∀ (x y : List UInt8), Op.bytesLess x y = false → x ≠ y → Op.bytesLess y x = true
  | [], [], _, h => absurd rfl h
  | [], _ :: _, h, _ => by simp [Op.bytesLess] at h
  | _ :: _, [], _, _ => by simp [Op.bytesLess]
  | a :: x, b :: y, h, hn => by
    simp only [Op.bytesLess, Bool.or_eq_false_iff, decide_eq_false_iff_not, Bool.and_eq_false_iff] at h
    simp only [Op.bytesLess, Bool.or_eq_true, decide_eq_true_eq, Bool.and_eq_true, beq_iff_eq]
    by_cases e : a = b
    · subst e
      refine .inr ⟨rfl, less_tot x y ?_ (fun e => hn (by rw [e]))⟩
      rcases h.2 with h2 | h2
      · simp at h2
      · exact h2
    · left
      rcases UInt8.lt_or_lt_of_ne e with h2 | h2
      · exact absurd h2 h.1
      · exact h2
theorem less_tr : ∀ (x y z : List UInt8), Op.bytesLess x y = true → Op.bytesLess y z = true → Op.bytesLess x z = true
  | _, [], _, h, _ => by cases ‹List UInt8› <;> simp [Op.bytesLess] at h
  | _, _ :: _, [], _, h => by simp [Op.bytesLess] at h
  | [], _ :: _, _ :: _, _, _ => by simp [Op.bytesLess]
  | a :: x, b :: y, c :: z, h1, h2 => by
    simp only [Op.bytesLess, Bool.or_eq_true, decide_eq_true_eq, Bool.and_eq_true, beq_iff_eq] at h1 h2 ⊢
    rcases h1 with h1 | ⟨rfl, h1⟩
    · rcases h2 with h2 | ⟨rfl, h2⟩
      · exact .inl (UInt8.lt_trans h1 h2)
      · exact .inl h1
    · rcases h2 with h2 | ⟨rfl, h2⟩
      · exact .inl h2
      · exact .inr ⟨rfl, less_tr x y z h1 h2⟩
theorem sEq_t {s u : ByteArray} (h : sEq s u = true) : s = u := of_decide_eq_true h
theorem sEq_f {s u : ByteArray} (h : sEq s u = false) : s.toList ≠ u.toList := fun e => by
  have := toList_sEq s u
  rw [e] at this
  rw [h] at this; simp at this
theorem sEq_sym (s u : ByteArray) : sEq s u = sEq u s := by
  unfold sEq; rw [decide_eq_decide]; exact eq_comm
theorem sLt_anti {s u : ByteArray} (h : sLt s u = true) : sLt u s = false := less_anti _ _ h
theorem sLt_tot {s u : ByteArray} (h : sLt s u = false) (h2 : sEq s u = false) : sLt u s = true := less_tot _ _ h (sEq_f h2)
theorem sc_cases (s u : ByteArray) : (sc s u = 0 ∧ s = u) ∨ (sc s u = -1 ∧ sLt s u = true ∧ s ≠ u) ∨ (sc s u = 1 ∧ sLt u s = true ∧ s ≠ u) := by
  unfold sc
  cases h : sEq s u with
  | true => exact .inl ⟨rfl, sEq_t h⟩
  | false =>
    have hn : s ≠ u := fun e => by rw [e] at h; unfold sEq at h; simp at h
    cases h2 : sLt s u with
    | true => exact .inr (.inl ⟨rfl, rfl, hn⟩)
    | false => exact .inr (.inr ⟨rfl, sLt_tot h2 h, hn⟩)
def Neg (x y : Int) : Prop := x = -y
def Tq (x y z : Int) : Prop := x ≤ 0 → y ≤ 0 → z ≤ 0 ∧ (z < 0 ↔ x < 0 ∨ y < 0)
theorem sc_neg (s u : ByteArray) : sc s u = -(sc u s) := by
  rcases sc_cases s u with ⟨h, e⟩ | ⟨h, l, n⟩ | ⟨h, l, n⟩ <;> rcases sc_cases u s with ⟨h', e'⟩ | ⟨h', l', n'⟩ | ⟨h', l', n'⟩ <;> rw [h, h'] <;>
    first
      | rfl
      | exact absurd e'.symm n
      | exact absurd e.symm n'
      | (have := sLt_anti l; rw [l'] at this; cases this)
theorem sc_tq (s u v : ByteArray) : Tq (sc s u) (sc u v) (sc s v) := by
  intro h1 h2
  rcases sc_cases s u with ⟨h, e⟩ | ⟨h, l, n⟩ | ⟨h, l, n⟩
  · rw [e] at h ⊢
    rw [h]; omega
  · rcases sc_cases u v with ⟨h', e'⟩ | ⟨h', l', n'⟩ | ⟨h', l', n'⟩
    · subst e'
      rw [h', h]; omega
    · have hl : sLt s v = true := less_tr _ _ _ l l'
      rw [sc_lt hl, h, h']; omega
    · omega
  · omega
theorem ic_neg (a b : Int) : ic a b = -(ic b a) := by
  unfold ic
  cases h : decide (a < b) <;> cases h2 : decide (b < a) <;> simp at h h2 ⊢ <;> omega
theorem ic_val (a b : Int) : (a < b ∧ ic a b = -1) ∨ (a = b ∧ ic a b = 0) ∨ (b < a ∧ ic a b = 1) := by
  unfold ic
  cases h : decide (a < b) <;> cases h2 : decide (b < a) <;> simp at h h2 ⊢ <;> omega
theorem ic_tq (a b c : Int) : Tq (ic a b) (ic b c) (ic a c) := by
  intro h1 h2
  have := ic_val a b
  have := ic_val b c
  have := ic_val a c
  omega
theorem fz_neg : ∀ {l m : List Int}, l = m.map (fun x => -x) → fz l = -(fz m)
  | [], [], _ => rfl
  | [], _ :: _, h => by cases h
  | _ :: _, [], h => by cases h
  | x :: l, y :: m, h => by
    simp only [List.map_cons, List.cons.injEq] at h
    have ih := fz_neg h.2
    have hx := h.1
    simp only [fz]
    cases h1 : (x != 0) <;> cases h2 : (y != 0) <;> simp at h1 h2 ⊢ <;> omega
inductive T3 : List Int → List Int → List Int → Prop
  | nil : T3 [] [] []
  | cons {x y z : Int} {l m n : List Int} (h : Tq x y z) (hs : T3 l m n) : T3 (x :: l) (y :: m) (z :: n)
theorem fz_tq {l m n : List Int} (h : T3 l m n) : Tq (fz l) (fz m) (fz n) := by
  induction h with
  | nil => intro _ _; simp [fz]
  | @cons x y z l m n h hs ih =>
    unfold Tq at *
    simp only [fz]
    cases h1 : (x != 0) <;> cases h2 : (y != 0) <;> cases h3 : (z != 0) <;> simp at h1 h2 h3 ⊢ <;> omega
theorem fz_zero : ∀ {l : List Int}, fz l = 0 ↔ ∀ x ∈ l, x = 0
  | [] => by simp [fz]
  | x :: l => by
    have ih := fz_zero (l := l)
    simp only [fz, List.mem_cons, forall_eq_or_imp]
    cases h1 : (x != 0) <;> simp at h1 ⊢
    · rw [ih]; simp [h1]
    · intro h; exact absurd h h1
theorem fz_in : ∀ {l : List Int}, (∀ x ∈ l, -1 ≤ x ∧ x ≤ 1) → -1 ≤ fz l ∧ fz l ≤ 1
  | [], _ => by simp [fz]
  | x :: l, h => by
    have h0 := h x (by simp)
    have ih := fz_in (l := l) (fun y hy => h y (by simp [hy]))
    simp only [fz]
    cases (x != 0) <;> simp <;> omega
theorem sc_in (s u : ByteArray) : -1 ≤ sc s u ∧ sc s u ≤ 1 := by rcases sc_cases s u with h | h | h <;> omega
theorem ic_in (a b : Int) : -1 ≤ ic a b ∧ ic a b ≤ 1 := by have := ic_val a b; omega
def inD (u : List ByteArray) (s : ByteArray) : Nat → Bool
  | 0 => false
  | k + 1 => inD u s k || sLt s (ix u k)
def inO (u : List ByteArray) (s : ByteArray) : Nat → List ByteArray
  | 0 => []
  | k + 1 => (bif !(inD u s k) && sLt s (ix u k) then inO u s k ++ [s] else inO u s k) ++ [ix u k]
def insT (u : List ByteArray) (s : ByteArray) : List ByteArray := bif u.any (fun y => sEq y s) then u else bif inD u s u.length then inO u s u.length else inO u s u.length ++ [s]
theorem sc_of_le {y z : ByteArray} (h : y.data.toList ≤ z.data.toList) : sc y z ≤ 0 := by
  rcases sc_cases y z with ⟨e, _⟩ | ⟨e, _⟩ | ⟨e, h2, _⟩
  · omega
  · omega
  · exfalso
    unfold sLt at h2
    rw [ByteArray.toList_eq, ByteArray.toList_eq, Go.Proofs.bytesLess_eq, decide_eq_true_eq] at h2
    exact absurd h2 (List.not_lt.2 h)
theorem srtS_pw (l : List ByteArray) : (srtS l).Pairwise (fun y z => sc y z ≤ 0) := by
  unfold srtS
  rw [List.pairwise_map]
  exact (leK_sorted _).imp (fun h => sc_of_le h)
theorem sc_0 {y z : ByteArray} (h : sc y z = 0) : y = z := by rcases sc_cases y z with q | q | q <;> first | exact q.2 | omega
theorem srtS_eq {u w : List ByteArray} (hp : u.Perm w) (hs : u.Pairwise (fun y z => sc y z ≤ 0)) : u = srtS w :=
  perm_uniqL (fun y z h1 h2 => sc_0 (by have := sc_neg y z; omega)) (hp.trans (srtS_perm w).symm) hs (srtS_pw w)
theorem inD_no {u : List ByteArray} {s : ByteArray} : ∀ {k}, inD u s k = false → ∀ q, q < k → sLt s (ix u q) = false
  | 0, _, q, h => by omega
  | k + 1, hd, q, h => by
    simp only [inD, Bool.or_eq_false_iff] at hd
    rcases Nat.lt_succ_iff_lt_or_eq.1 h with e | e
    · exact inD_no hd.1 q e
    · rw [e]; exact hd.2
theorem inD_yes {u : List ByteArray} {s : ByteArray} : ∀ {k}, inD u s k = true → ∃ q, q < k ∧ sLt s (ix u q) = true
  | 0, h => by simp [inD] at h
  | k + 1, h => by
    simp only [inD, Bool.or_eq_true] at h
    rcases h with h | h
    · obtain ⟨q, h1, h2⟩ := inD_yes h; exact ⟨q, by omega, h2⟩
    · exact ⟨k, by omega, h⟩
theorem inO_perm {u : List ByteArray} {s : ByteArray} : ∀ k, k ≤ u.length → (inO u s k).Perm (u.take k ++ (bif inD u s k then [s] else []))
  | 0, _ => by simp [inO, inD]
  | k + 1, h => by
    have ih := inO_perm (u := u) (s := s) k (by omega)
    rw [take_ix (by omega)]
    simp only [inO, inD]
    cases hd : inD u s k with
    | true =>
      rw [hd] at ih
      simp only [Bool.not_true, Bool.false_and, cond_false, Bool.true_or, cond_true] at ih ⊢
      refine (List.Perm.append_right _ ih).trans ?_
      rw [List.append_assoc, List.append_assoc]
      exact List.Perm.append_left _ List.perm_append_comm
    | false =>
      rw [hd] at ih
      cases hl : sLt s (ix u k) with
      | true =>
        simp only [Bool.not_false, Bool.and_self, cond_true, Bool.or_true, cond_false, List.append_nil] at ih ⊢
        refine (List.Perm.append_right _ (List.Perm.append_right _ ih)).trans ?_
        rw [List.append_assoc, List.append_assoc]
        exact List.Perm.append_left _ List.perm_append_comm
      | false =>
        simp only [Bool.not_false, Bool.and_false, cond_false, Bool.or_false, List.append_nil] at ih ⊢
        exact List.Perm.append_right _ ih
theorem le_of_nlt {y z : ByteArray} (h : sLt y z = false) : sc z y ≤ 0 := by
  rcases sc_cases y z with q | q | q
  · have := sc_neg z y; omega
  · rw [q.2.1] at h; cases h
  · have := sc_neg z y; omega
theorem le_of_lt {y z : ByteArray} (h : sLt y z = true) : sc y z ≤ 0 := by
  rcases sc_cases y z with q | q | q
  · omega
  · omega
  · rw [sLt_anti q.2.1] at h; cases h
theorem inO_pw {u : List ByteArray} {s : ByteArray} (hs : u.Pairwise (fun y z => sc y z ≤ 0)) : ∀ k, k ≤ u.length → (inO u s k).Pairwise (fun y z => sc y z ≤ 0) ∧ (∀ y ∈ inO u s k, ∀ q, k ≤ q → q < u.length → sc y (ix u q) ≤ 0)
  | 0, _ => by simp [inO]
  | k + 1, h => by
    obtain ⟨h1, h2⟩ := inO_pw hs k (by omega)
    have hu : ∀ i j, i < j → j < u.length → sc (ix u i) (ix u j) ≤ 0 := fun i j hij hj => by
      have := List.pairwise_iff_getElem.1 hs i j (by omega) hj hij
      rwa [ix_eq (by omega), ix_eq hj] at this
    have hmem : ∀ y ∈ inO u s k, inD u s k = false → sc y s ≤ 0 := by
      intro y hy hd
      have := (inO_perm k (by omega)).subset hy
      rw [hd] at this
      simp only [cond_false, List.append_nil] at this
      obtain ⟨q, hq, rfl⟩ := List.getElem_of_mem this
      rw [List.length_take] at hq
      rw [List.getElem_take, ix_eq (by omega)]
      exact le_of_nlt (inD_no hd q (by omega))
    simp only [inO]
    cases hb : (!(inD u s k) && sLt s (ix u k)) with
    | true =>
      simp only [Bool.and_eq_true, Bool.not_eq_true'] at hb
      simp only [cond_true]
      refine ⟨?_, fun y hy q hq hl => ?_⟩
      · rw [List.pairwise_append, List.pairwise_append]
        refine ⟨⟨h1, List.pairwise_singleton _ _, fun a ha b hb' => by rw [List.mem_singleton] at hb'; rw [hb']; exact hmem a ha hb.1⟩, List.pairwise_singleton _ _, fun a ha b hb' => ?_⟩
        rw [List.mem_singleton] at hb'
        rw [hb']
        rcases List.mem_append.1 ha with ha | ha
        · exact h2 a ha k (Nat.le_refl _) (by omega)
        · rw [List.mem_singleton] at ha; rw [ha]; exact le_of_lt hb.2
      · rcases List.mem_append.1 hy with hy | hy
        · rcases List.mem_append.1 hy with hy | hy
          · exact h2 y hy q (by omega) hl
          · rw [List.mem_singleton] at hy
            rw [hy]
            exact (sc_tq s (ix u k) (ix u q) (le_of_lt hb.2) (hu k q (by omega) hl)).1
        · rw [List.mem_singleton] at hy; rw [hy]; exact hu k q (by omega) hl
    | false =>
      simp only [cond_false]
      refine ⟨?_, fun y hy q hq hl => ?_⟩
      · rw [List.pairwise_append]
        exact ⟨h1, List.pairwise_singleton _ _, fun a ha b hb' => by rw [List.mem_singleton] at hb'; rw [hb']; exact h2 a ha k (Nat.le_refl _) (by omega)⟩
      · rcases List.mem_append.1 hy with hy | hy
        · exact h2 y hy q (by omega) hl
        · rw [List.mem_singleton] at hy; rw [hy]; exact hu k q (by omega) hl
/-- one text more, in its place -/
theorem insT_srt (w : List ByteArray) (s : ByteArray) : insT (srtS w) s = srtS (bif w.any (fun y => sEq y s) then w else w ++ [s]) := by
  have ha : (srtS w).any (fun y => sEq y s) = w.any (fun y => sEq y s) := by
    have hp := srtS_perm w
    cases h : w.any (fun y => sEq y s) with
    | true => obtain ⟨y, hy, he⟩ := List.any_eq_true.1 h; exact List.any_eq_true.2 ⟨y, hp.symm.subset hy, he⟩
    | false => rw [List.any_eq_false] at h ⊢; exact fun y hy => h y (hp.subset hy)
  unfold insT
  rw [ha]
  cases h : w.any (fun y => sEq y s) with
  | true => rfl
  | false =>
    simp only [cond_false]
    have hpm := inO_perm (u := srtS w) (s := s) _ (Nat.le_refl _)
    obtain ⟨h1, _⟩ := inO_pw (s := s) (srtS_pw w) _ (Nat.le_refl _)
    rw [List.take_of_length_le (Nat.le_refl _)] at hpm
    cases hd : inD (srtS w) s (srtS w).length with
    | true =>
      rw [hd] at hpm
      exact srtS_eq (hpm.trans (List.Perm.append_right _ (srtS_perm w))) h1
    | false =>
      rw [hd] at hpm
      simp only [cond_false, List.append_nil] at hpm ⊢
      refine srtS_eq (List.Perm.append_right _ (hpm.trans (srtS_perm w))) ?_
      rw [List.pairwise_append]
      refine ⟨h1, List.pairwise_singleton _ _, fun a ha b hb => ?_⟩
      rw [List.mem_singleton] at hb
      rw [hb]
      obtain ⟨q, hq, rfl⟩ := List.getElem_of_mem (hpm.subset ha)
      rw [ix_eq hq]
      exact le_of_nlt (inD_no hd q hq)
theorem inO_len (u : List ByteArray) (s : ByteArray) : ∀ k, (inO u s k).length ≤ 2 * k
  | 0 => by simp [inO]
  | k + 1 => by
    have := inO_len u s k
    simp only [inO]
    cases (!(inD u s k) && sLt s (ix u k)) <;> simp only [cond_true, cond_false, List.length_append, List.length_singleton] <;> omega
theorem srtS_len (l : List ByteArray) : (srtS l).length = l.length := (srtS_perm l).length_eq
theorem srtS_nil : srtS [] = [] := List.length_eq_zero_iff.1 (by rw [srtS_len]; rfl)
/-- one more, if it isn't there -/
def adS (w : List ByteArray) (s : ByteArray) : List ByteArray := bif w.any (fun y => sEq y s) then w else w ++ [s]
theorem adS_y {w : List ByteArray} {s : ByteArray} (h : w.any (fun y => sEq y s) = true) : adS w s = w := by simp only [adS, h, cond_true]
theorem adS_n {w : List ByteArray} {s : ByteArray} (h : w.any (fun y => sEq y s) = false) : adS w s = w ++ [s] := by simp only [adS, h, cond_false]
theorem adS_len (w : List ByteArray) (s : ByteArray) : (adS w s).length ≤ w.length + 1 := by
  unfold adS
  cases w.any (fun y => sEq y s) <;> simp
theorem adS_mem {w : List ByteArray} {s x : ByteArray} : x ∈ adS w s ↔ x ∈ w ∨ x = s := by
  cases h : w.any (fun y => sEq y s) with
  | true =>
    rw [adS_y h]
    obtain ⟨y, hy, he⟩ := List.any_eq_true.1 h
    exact ⟨.inl, fun hx => hx.elim id (fun e => by rw [e, ← sEq_eq he]; exact hy)⟩
  | false => rw [adS_n h]; simp
theorem adS_nd {w : List ByteArray} {s : ByteArray} (hn : w.Nodup) : (adS w s).Nodup := by
  cases h : w.any (fun y => sEq y s) with
  | true => rw [adS_y h]; exact hn
  | false =>
    rw [adS_n h]
    refine List.nodup_append.2 ⟨hn, by simp, fun a ha b hb e => ?_⟩
    rw [List.mem_singleton] at hb
    exact List.any_eq_false.1 h a ha (sEq_of (e.trans hb))
def setV (l : List ByteArray) : List (Value × DV) := l.map fun s => (Value.string s, DV.fl (.bool true))
theorem srtS_same {u w : List ByteArray} (hu : u.Nodup) (hw : w.Nodup) (h : ∀ x, x ∈ u ↔ x ∈ w) : srtS u = srtS w :=
  srtS_eq ((srtS_perm u).trans ((List.perm_ext_iff_of_nodup hu hw).2 h)) (srtS_pw u)

theorem swo_of {α : Type} {c : α → α → Int} (hn : ∀ x y, c x y = -(c y x)) (ht : ∀ x y z, Tq (c x y) (c y z) (c x z)) : Go.Sort.SWO (ltOf c) where
  irrefl x := by have := hn x x; unfold ltOf; exact decide_eq_false (by omega)
  trans x y z h1 h2 := by
    unfold ltOf at *
    simp only [decide_eq_true_eq] at *
    have := ht x y z (by omega) (by omega)
    omega
  ntrans x y z h1 h2 := by
    unfold ltOf at *
    simp only [decide_eq_false_iff_not] at *
    have h3 := hn x y
    have h4 := hn y z
    have h5 := hn x z
    have := ht z y x (by omega) (by omega)
    omega
theorem le_of_sorted {α : Type} {c : α → α → Int} (hn : ∀ x y, c x y = -(c y x)) {x y : α} (h : ltOf c y x = false) : c x y ≤ 0 := by
  unfold ltOf at h
  simp only [decide_eq_false_iff_not] at h
  have := hn x y
  omega

theorem cmpB_eq : ∀ a b : List UInt8, Lib.compareBytes a b = if a = b then 0 else if a < b then -1 else 1
  | [], [] => rfl
  | [], _ :: _ => by simp [Lib.compareBytes]
  | _ :: _, [] => by simp [Lib.compareBytes]
  | x :: a, y :: b => by
    have ih := cmpB_eq a b
    unfold Lib.compareBytes
    by_cases h1 : x < y
    · have hne : x ≠ y := fun h => by rw [h] at h1; exact absurd h1 (UInt8.lt_irrefl y)
      rw [if_pos h1, if_neg (by simp [hne]), if_pos (by rw [List.cons_lt_cons_iff]; exact .inl h1)]
    · rw [if_neg h1]
      by_cases h2 : y < x
      · have hne : x ≠ y := fun h => by rw [h] at h2; exact absurd h2 (UInt8.lt_irrefl y)
        rw [if_pos h2, if_neg (by simp [hne]), if_neg (by rw [List.cons_lt_cons_iff]; rintro (h | h) <;> first | exact h1 h | exact hne h.1)]
      · have he : x = y := UInt8.le_antisymm (UInt8.not_lt.1 h2) (UInt8.not_lt.1 h1)
        subst he
        rw [if_neg h2, ih]
        by_cases h3 : a = b
        · rw [if_pos h3, h3, if_pos rfl]
        · rw [if_neg h3, if_neg (show ¬ (x :: a = x :: b) from fun q => by injection q with _ q; exact h3 q)]
          by_cases h4 : a < b
          · rw [if_pos h4, if_pos (by rw [List.cons_lt_cons_iff]; exact .inr ⟨rfl, h4⟩)]
          · rw [if_neg h4, if_neg (by rw [List.cons_lt_cons_iff]; rintro (h | h) <;> first | exact h2 h | exact h4 h.2)]
theorem cmpB_sc (s u : ByteArray) : Lib.compareBytes s.data.toList u.data.toList = sc s u := by
  rw [cmpB_eq]
  rcases sc_cases s u with ⟨e, h⟩ | ⟨e, h, hn⟩ | ⟨e, h, hn⟩
  · rw [e, h, if_pos rfl]
  · have hne : s.data.toList ≠ u.data.toList := fun q => hn (ByteArray.ext (Array.toList_inj.1 q))
    unfold sLt at h
    rw [ByteArray.toList_eq, ByteArray.toList_eq, Go.Proofs.bytesLess_eq, decide_eq_true_eq] at h
    rw [e, if_neg hne, if_pos h]
  · have hne : s.data.toList ≠ u.data.toList := fun q => hn (ByteArray.ext (Array.toList_inj.1 q))
    unfold sLt at h
    rw [ByteArray.toList_eq, ByteArray.toList_eq, Go.Proofs.bytesLess_eq, decide_eq_true_eq] at h
    rw [e, if_neg hne, if_neg (fun q => List.lt_asymm q h)]

theorem mfind_mapS {α : Type} (key : α → ByteArray) (val : α → DV) (p : ByteArray) : ∀ l : List α, mfind .string (.string p) (l.map fun x => (Value.string (key x), val x)) = some ((l.find? fun x => sEq (key x) p).map val)
  | [] => rfl
  | x :: l => by
    have ih := mfind_mapS key val p l
    have hb : Instr.sameNow .string (.string p) (.string (key x)) = some (sEq (key x) p) := by
      show some (p == key x) = _
      congr 1
      by_cases h : p = key x
      · rw [← h, show sEq p p = true by simp [sEq]]
        exact (MapKept.bytes_beq p p).2 rfl
      · rw [show sEq (key x) p = false from by simp [sEq, Ne.symm h]]
        cases hq : p == key x with
        | false => rfl
        | true => exact absurd ((MapKept.bytes_beq p (key x)).1 hq) h
    simp only [List.map_cons, mfind, hb]
    cases h : sEq (key x) p with
    | true => simp [h]
    | false => simp [h]; exact ih
theorem same_s (p q : ByteArray) : Instr.sameNow .string (.string p) (.string q) = some (sEq q p) := by
  show some (p == q) = _
  congr 1
  by_cases h : p = q
  · rw [← h, show sEq p p = true by simp [sEq]]
    exact (MapKept.bytes_beq p p).2 rfl
  · rw [show sEq q p = false from by simp [sEq, Ne.symm h]]
    cases hq : p == q with
    | false => rfl
    | true => exact absurd ((MapKept.bytes_beq p q).1 hq) h
theorem mput_map (p : ByteArray) (d : DV) (v v' : ByteArray → DV) (hv : v' p = d) (ho : ∀ s, s ≠ p → v' s = v s) : ∀ l : List ByteArray, l.Nodup → p ∈ l → mput .string (.string p) d (l.map fun s => (Value.string s, v s)) = l.map fun s => (Value.string s, v' s)
  | [], _, h => by cases h
  | x :: l, hn, h => by
    rw [List.nodup_cons] at hn
    have hb := same_s p x
    show (match Instr.sameNow .string (.string p) (.string x) with
      | some true => _
      | _ => _) = _
    rw [hb]
    cases hx : sEq x p with
    | true =>
      have e := sEq_eq hx
      subst e
      show (Value.string x, d) :: _ = _
      rw [List.map_cons, hv]
      congr 1
      exact List.map_congr_left fun y hy => by rw [ho y (fun e => hn.1 (by rw [← e]; exact hy))]
    | false =>
      have hne : x ≠ p := fun e => by rw [e] at hx; simp [sEq] at hx
      have hm : p ∈ l := (List.mem_cons.1 h).resolve_left (fun e => hne e.symm)
      have ih := mput_map p d v v' hv ho l hn.2 hm
      show (Value.string x, v x) :: _ = _
      rw [List.map_cons, ho x hne]
      exact congrArg _ ih
/-- what a record makes of an amount -/
def chg (n : Int) (r : Rec) : Int := if r.kind = 1 ∨ r.kind = 2 then n + r.cents else if r.kind = 4 then n - r.cents else if r.kind = 3 then 0 else n
def am (l : List Rec) (s : ByteArray) : Nat → Int
  | 0 => 0
  | k + 1 => bif sEq (ix l k).key s then chg (am l s k) (ix l k) else am l s k
def tm (l : List Rec) (s : ByteArray) : Nat → Int
  | 0 => 0
  | k + 1 => bif sEq (ix l k).key s then (ix l k).time else tm l s k
/-- the keys, in the order of their first record -/
def fk (l : List Rec) : Nat → List ByteArray
  | 0 => []
  | k + 1 => adS (fk l k) (ix l k).key
def gR (l : List Rec) (k : Nat) (s : ByteArray) : Rec := ⟨1, s, tm l s k, am l s k, 0⟩
def fE (l : List Rec) (k : Nat) (s : ByteArray) : Value × DV := (.string s, .ag (eRec (gR l k s)))
def entR (l : List Rec) (k : Nat) : List (Value × DV) := (fk l k).map (fE l k)
theorem am_y {l : List Rec} {s : ByteArray} {k : Nat} (h : sEq (ix l k).key s = true) : am l s (k + 1) = chg (am l s k) (ix l k) := by simp only [am, h, cond_true]
theorem am_n {l : List Rec} {s : ByteArray} {k : Nat} (h : sEq (ix l k).key s = false) : am l s (k + 1) = am l s k := by simp only [am, h, cond_false]
def okR (l : List Rec) : Prop := ∀ r ∈ l, -1125899906842624 ≤ r.cents ∧ r.cents ≤ 1125899906842624
theorem am_in {l : List Rec} (h : okR l) (s : ByteArray) : ∀ k, k ≤ l.length → -(1125899906842624 * (k : Int)) ≤ am l s k ∧ am l s k ≤ 1125899906842624 * (k : Int)
  | 0, _ => by simp [am]
  | k + 1, hk => by
    have ih := am_in h s k (by omega)
    have hc := h _ (ix_mem (by omega : k < l.length))
    simp only [am]
    cases sEq (ix l k).key s with
    | false => simp only [cond_false]; omega
    | true =>
      simp only [cond_true, chg]
      split
      · omega
      · split
        · omega
        · split <;> omega
theorem fk_nd (l : List Rec) : ∀ k, (fk l k).Nodup
  | 0 => List.Pairwise.nil
  | k + 1 => adS_nd (fk_nd l k)
theorem fk_len (l : List Rec) : ∀ k, (fk l k).length ≤ k
  | 0 => Nat.le_refl _
  | k + 1 => by
    have := fk_len l k
    have := adS_len (fk l k) (ix l k).key
    simp only [fk]; omega
theorem am_0 {l : List Rec} {s : ByteArray} : ∀ {k}, s ∉ fk l k → am l s k = 0
  | 0, _ => rfl
  | k + 1, h => by
    have h2 : ¬ (s ∈ fk l k ∨ s = (ix l k).key) := fun q => h (adS_mem.2 q)
    have hne : sEq (ix l k).key s = false := by
      cases hq : sEq (ix l k).key s with
      | false => rfl
      | true => exact absurd (.inr (sEq_eq hq).symm) h2
    rw [am_n hne]; exact am_0 (fun q => h2 (.inl q))
theorem gR_new {l : List Rec} {k : Nat} : gR l (k + 1) (ix l k).key = ⟨1, (ix l k).key, (ix l k).time, chg (am l (ix l k).key k) (ix l k), 0⟩ := by
  unfold gR
  have : sEq (ix l k).key (ix l k).key = true := by simp [sEq]
  rw [am_y this]
  simp only [tm, this, cond_true]
theorem gR_old {l : List Rec} {k : Nat} {s : ByteArray} (h : s ≠ (ix l k).key) : gR l (k + 1) s = gR l k s := by
  have : sEq (ix l k).key s = false := by
    cases hq : sEq (ix l k).key s with
    | false => rfl
    | true => exact absurd (sEq_eq hq).symm h
  unfold gR
  rw [am_n this]
  simp only [tm, this, cond_false]
theorem ent_put {l : List Rec} {k : Nat} (h : (fk l k).any (fun y => sEq y (ix l k).key) = true) : mput .string (.string (ix l k).key) (.ag (eRec ⟨1, (ix l k).key, (ix l k).time, chg (am l (ix l k).key k) (ix l k), 0⟩)) (entR l k) = entR l (k + 1) := by
  have e : fk l (k + 1) = fk l k := adS_y h
  obtain ⟨y, hy, he⟩ := List.any_eq_true.1 h
  unfold entR
  rw [e]
  exact mput_map _ _ (fun s => .ag (eRec (gR l k s))) (fun s => .ag (eRec (gR l (k + 1) s))) (by rw [gR_new]) (fun s hs => by rw [gR_old hs]) _ (fk_nd l k) (by rw [← sEq_eq he]; exact hy)
theorem ent_new {l : List Rec} {k : Nat} (h : (fk l k).any (fun y => sEq y (ix l k).key) = false) : entR l k ++ [(Value.string (ix l k).key, .ag (eRec ⟨1, (ix l k).key, (ix l k).time, chg 0 (ix l k), 0⟩))] = entR l (k + 1) := by
  have e : fk l (k + 1) = fk l k ++ [(ix l k).key] := adS_n h
  have hn : (ix l k).key ∉ fk l k := fun q => by have := List.any_eq_false.1 h _ q; exact this (by simp [sEq])
  unfold entR
  rw [e, List.map_append]
  congr 1
  · exact List.map_congr_left fun s hs => by unfold fE; rw [gR_old (fun e => hn (by rw [← e]; exact hs))]
  · show _ = [fE l (k + 1) (ix l k).key]
    unfold fE
    rw [gR_new, am_0 hn]
theorem mfindR (l : List Rec) (k : Nat) (p : ByteArray) : mfind .string (.string p) (entR l k) = some (bif (fk l k).any (fun y => sEq y p) then some (.ag (eRec (gR l k p))) else none) := by
  have h0 := mfind_mapS (fun x : ByteArray => x) (fun x => DV.ag (eRec (gR l k x))) p (fk l k)
  refine Eq.trans h0 ?_
  congr 1
  cases h : (fk l k).any (fun y => sEq y p) with
  | false =>
    have : (fk l k).find? (fun y => sEq y p) = none := List.find?_eq_none.2 (fun x hx => List.any_eq_false.1 h x hx)
    rw [this]; rfl
  | true =>
    cases hf : (fk l k).find? (fun y => sEq y p) with
    | none => exact absurd h (by rw [Bool.not_eq_true, List.any_eq_false]; exact List.find?_eq_none.1 hf)
    | some y => have := List.find?_some hf; rw [← sEq_eq this]; rfl
def cpR (a b : Rec) : Int := sc a.key b.key
theorem cpR_neg (a b : Rec) : cpR a b = -(cpR b a) := sc_neg _ _
theorem cpR_tq (a b c : Rec) : Tq (cpR a b) (cpR b c) (cpR a c) := sc_tq _ _ _
/-- the sorted row, whichever the order was -/
theorem net_eq {l : List Rec} {n : Nat} {c : List ByteArray} {m : List Rec} (hc : c.Perm (fk l n)) (hp : m.Perm (c.map (gR l n))) (hs : m.Pairwise fun x y => ltOf cpR y x = false) : m = (srtS (fk l n)).map (gR l n) := by
  have hk : m.map (·.key) = srtS (fk l n) := by
    refine srtS_eq ?_ ?_
    · have := hp.map (·.key)
      rw [List.map_map] at this
      have e : (fun r : Rec => r.key) ∘ gR l n = id := by funext s; rfl
      rw [e, List.map_id] at this
      exact this.trans hc
    · rw [List.pairwise_map]
      exact hs.imp fun {x y} h => le_of_sorted (c := cpR) cpR_neg h
  have hm : m = (m.map (·.key)).map (gR l n) := by
    rw [List.map_map]
    conv => lhs; rw [← List.map_id m]
    refine List.map_congr_left fun r hr => ?_
    obtain ⟨s, _, rfl⟩ := List.mem_map.1 (hp.subset hr)
    rfl
  rw [hm, hk]
theorem isum_perm {l m : List Int} (h : l.Perm m) : l.sum = m.sum := by
  induction h with
  | nil => rfl
  | cons x _ ih => simp only [List.sum_cons, ih]
  | swap x y l => simp only [List.sum_cons]; omega
  | trans _ _ h1 h2 => exact h1.trans h2
def aa (l : List Rec) (s : ByteArray) : Nat → Int
  | 0 => 0
  | k + 1 => aa l s k + (bif sEq (ix l k).key s then 1125899906842624 else 0)
theorem am_aa {l : List Rec} (h : okR l) (s : ByteArray) : ∀ k, k ≤ l.length → -(aa l s k) ≤ am l s k ∧ am l s k ≤ aa l s k
  | 0, _ => by simp [am, aa]
  | k + 1, hk => by
    have ih := am_aa h s k (by omega)
    have hc := h _ (ix_mem (by omega : k < l.length))
    simp only [am, aa]
    cases sEq (ix l k).key s with
    | false => simp only [cond_false]; omega
    | true =>
      simp only [cond_true, chg]
      split
      · omega
      · split
        · omega
        · split <;> omega
theorem sm_map {α : Type} (f g : α → Int) : ∀ u : List α, (u.map fun a => f a + g a).sum = (u.map f).sum + (u.map g).sum
  | [] => rfl
  | a :: u => by simp only [List.map_cons, List.sum_cons]; rw [sm_map f g u]; omega
theorem one_le (p : ByteArray) : ∀ u : List ByteArray, u.Nodup → (p ∉ u → (u.map fun s => bif sEq p s then (1125899906842624 : Int) else 0).sum = 0) ∧ (u.map fun s => bif sEq p s then (1125899906842624 : Int) else 0).sum ≤ 1125899906842624
  | [], _ => ⟨fun _ => rfl, by simp⟩
  | a :: u, hn => by
    obtain ⟨h1, h2⟩ := one_le p u (List.nodup_cons.1 hn).2
    simp only [List.map_cons, List.sum_cons]
    cases h : sEq p a with
    | true =>
      have e := sEq_eq h
      have := h1 (by rw [e]; exact (List.nodup_cons.1 hn).1)
      simp only [cond_true]
      exact ⟨fun q => absurd (by rw [e]; exact List.mem_cons_self ..) q, by omega⟩
    | false =>
      simp only [cond_false]
      exact ⟨fun q => by have := h1 (fun x => q (List.mem_cons_of_mem _ x)); omega, by omega⟩
theorem aa_sum {l : List Rec} {u : List ByteArray} (hn : u.Nodup) : ∀ k, (u.map fun s => aa l s k).sum ≤ 1125899906842624 * (k : Int)
  | 0 => by
    have : ∀ u : List ByteArray, (u.map fun s => aa l s 0).sum = 0 := fun u => by
      induction u with
      | nil => rfl
      | cons a u ih => simp only [List.map_cons, List.sum_cons, ih]; rfl
    rw [this u]; simp
  | k + 1 => by
    have ih := aa_sum (l := l) hn k
    have h1 := (one_le (ix l k).key u hn).2
    simp only [aa]
    rw [sm_map (fun s => aa l s k) (fun s => bif sEq (ix l k).key s then 1125899906842624 else 0)]
    omega
theorem abs_sum {α : Type} {f g : α → Int} (h : ∀ s, -(g s) ≤ f s ∧ f s ≤ g s) : ∀ u : List α, -((u.map g).sum) ≤ (u.map f).sum ∧ (u.map f).sum ≤ (u.map g).sum
  | [] => by simp
  | a :: u => by
    have ih := abs_sum h u
    have := h a
    simp only [List.map_cons, List.sum_cons]; omega
theorem am_sum {l : List Rec} (h : okR l) (hl : l.length ≤ 200) {u : List ByteArray} (hn : u.Nodup) : -225179981368524800 ≤ (u.map fun s => am l s l.length).sum ∧ (u.map fun s => am l s l.length).sum ≤ 225179981368524800 := by
  have h1 := abs_sum (fun s => am_aa h s l.length (Nat.le_refl _)) u
  have h2 := aa_sum (l := l) hn l.length
  omega
def sN (u : List Rec) : Nat → Int
  | 0 => 0
  | k + 1 => sN u k + (ix u k).cents
theorem sN_sum (u : List Rec) : ∀ k, k ≤ u.length → sN u k = ((u.take k).map (·.cents)).sum
  | 0, _ => by simp [sN]
  | k + 1, hk => by
    rw [take_ix (by omega), List.map_append, List.sum_append, ← sN_sum u k (by omega)]
    simp [sN]
/-- the reference's sum -/
def rs (l : List Rec) : Nat → Int
  | 0 => 0
  | i + 1 => bif (fk l i).any (fun y => sEq y (ix l i).key) then rs l i else rs l i + am l (ix l i).key l.length
theorem rs_sum (l : List Rec) : ∀ i, rs l i = ((fk l i).map fun s => am l s l.length).sum
  | 0 => rfl
  | i + 1 => by
    have ih := rs_sum l i
    cases h : (fk l i).any (fun y => sEq y (ix l i).key) with
    | true => rw [show fk l (i + 1) = fk l i from adS_y h, ← ih]; simp only [rs, h, cond_true]
    | false => rw [show fk l (i + 1) = fk l i ++ [(ix l i).key] from adS_n h, List.map_append, List.sum_append, ← ih]; simp [rs, h]
def netL (l : List Rec) : List Rec := (srtS (fk l l.length)).map (gR l l.length)
theorem net_len (l : List Rec) : (netL l).length ≤ l.length := by unfold netL; rw [List.length_map, srtS_len]; exact fk_len _ _
theorem net_sum (l : List Rec) : sN (netL l) (netL l).length = rs l l.length := by
  rw [sN_sum _ _ (Nat.le_refl _), List.take_length, rs_sum]
  unfold netL
  rw [List.map_map]
  exact isum_perm ((srtS_perm _).map _)
theorem rs_in {l : List Rec} (h : okR l) (hl : l.length ≤ 200) (i : Nat) : -225179981368524800 ≤ rs l i ∧ rs l i ≤ 225179981368524800 := by rw [rs_sum]; exact am_sum h hl (fk_nd l i)
theorem net_in {l : List Rec} (h : okR l) (hl : l.length ≤ 200) {k : Nat} (hk : k ≤ (netL l).length) : -225179981368524800 ≤ sN (netL l) k ∧ sN (netL l) k ≤ 225179981368524800 := by
  rw [sN_sum _ _ hk]
  unfold netL
  rw [← List.map_take, List.map_map]
  exact am_sum h hl (((srtS_perm _).symm.nodup (fk_nd _ _)).sublist (List.take_sublist _ _))
theorem er_len {α : Type} {l : List α} {j : Nat} (h : j < l.length) : (l.eraseIdx j).length < l.length := by rw [List.length_eraseIdx]; split <;> omega
theorem er_p1 {α : Type} : ∀ {l : List α} {j : Nat} (h : j < l.length), (l[j] :: l.eraseIdx j).Perm l
  | x :: l, 0, _ => List.Perm.refl _
  | x :: l, j + 1, h => by
    have ih := er_p1 (l := l) (j := j) (by simpa using h)
    have hj : j < l.length := by simpa using h
    show (l[j] :: x :: l.eraseIdx j).Perm (x :: l)
    exact (List.Perm.swap _ _ _).trans (List.Perm.cons _ ih)
theorem er_perm {α : Type} [Inhabited α] {c l : List α} {j : Nat} (hj : j < l.length) : ((c ++ [ix l j]) ++ l.eraseIdx j).Perm (c ++ l) := by
  rw [List.append_assoc]
  refine List.Perm.append_left _ ?_
  rw [← ix_eq hj]
  exact er_p1 hj

theorem cmpC (s u : ByteArray) : Ctr Try.prog 33 [.fl (.string s), .fl (.string u)] (.d (.fl (.int .i64 (sc s u)))) := ctr_flat [.string s, .string u] (fun w => (Any.strings_Compare Try.strC s u w).mono (by rintro e w' ⟨rfl, rfl⟩; exact ⟨by rw [cmpB_sc], Below.refl _ _⟩))

set_option maxHeartbeats 4000000 in
set_option maxRecDepth 100000 in
theorem cpC (a b : Rec) : Ctr Try.prog 32 [.ag (eRec a), .ag (eRec b)] (.d (.fl (.int .i64 (cpR a b)))) := by
  refine ctr (n := 10) (rs := #[.tmp 4]) (L := [(0, .d (.ag (eRec a))), (1, .d (.ag (eRec b)))]) Try.func32 rfl rfl rfl rfl rfl (fun w0 U0 => ?_)
  refine a_rseq ?_
  refine rg_nam (d := 2) (v := .pt 101 0) (m := 101) (nw := [(101, .bx 37 (eRec a))]) rfl (og rfl (of_eff (op_box 101 rfl rfl rfl rfl) rfl)) rfl ?_
  refine rg_nam (d := 3) (v := .pt 102 0) (m := 102) (nw := [(102, .bx 37 (eRec b))]) rfl (og rfl (of_eff (op_box 102 rfl rfl rfl rfl) rfl)) rfl ?_
  refine rg_put (d := 4) (v := .d (.fl (.int .i64 0))) rfl (og rfl (op_assign rfl rfl rfl)) ?_
  refine rg_done rfl ?_
  refine a_rseq ?_
  refine rg_put (d := 5) (v := .pt 101 1) rfl (og rfl (of_eff (s_field_pt rfl Try.underlying37 rfl ti9 rfl rfl rfl) rfl)) ?_
  refine rg_put (d := 6) (v := .d (.fl (.string a.key))) rfl (og rfl (op_load_pt rfl Try.underlying9 rfl rfl rfl rfl rfl)) ?_
  refine rg_put (d := 7) (v := .pt 102 1) rfl (og rfl (of_eff (s_field_pt rfl Try.underlying37 rfl ti9 rfl rfl rfl) rfl)) ?_
  refine rg_put (d := 8) (v := .d (.fl (.string b.key))) rfl (og rfl (op_load_pt rfl Try.underlying9 rfl rfl rfl rfl rfl)) ?_
  refine rg_put (d := 9) (v := .d (.fl (.int .i64 (sc a.key b.key)))) rfl (og rfl (op_call rfl Try.func33 nm33 rfl (.cons rfl (.d _) (.cons rfl (.d _) .nil)) (cmpC a.key b.key) rfl)) ?_
  refine rg_put (d := 4) (v := .d (.fl (.int .i64 (sc a.key b.key)))) rfl (og rfl (op_assign rfl rfl rfl)) ?_
  refine rg_done rfl ?_
  refine a_ret ?_
  show ∃ ds, ResL _ _ _ ds ∧ RV.of ds = _
  refine ⟨[.fl (.int .i64 (sc a.key b.key))], (.cons (.tmp rfl (.d _)) .nil), ?_⟩
  rfl
theorem sortG : SortG Try.prog 31 5 := ⟨fun β _ enc hk h1 cf hO g cb blk off cap d w eg hc hH hb hs => AnyQ.slices_SortFunc Try.sortP 5 Try.isAgg37 Try.sizeOf37 enc hk h1 cf hO g cb blk off cap d w eg hc hH hb hs, fun p cap fv w => AnyF.slices_SortFunc_none Try.sortP p cap fv w⟩
theorem sortD : SortOkD Try.prog 31 32 [] 5 eRec (fun _ => True) (ltOf cpR) := sortOkD_of sortG (fun _ => rfl) (swo_of cpR_neg cpR_tq) (enters_of Try.func32 (by kernel_rfl) rfl) (fun x y _ _ => cpC x y)
set_option maxHeartbeats 4000000 in
set_option maxRecDepth 100000 in
theorem chgC (n : Int) (r : Rec) (hn : -225179981368524800 ≤ n ∧ n ≤ 225179981368524800) (hr : -1125899906842624 ≤ r.cents ∧ r.cents ≤ 1125899906842624) : Ctr Try.prog 30 [.fl (.int .i64 n), .ag (eRec r)] (.d (.fl (.int .i64 (chg n r)))) := by
  refine ctr (n := 23) (rs := #[.tmp 4]) (L := [(0, .d (.fl (.int .i64 n))), (1, .d (.ag (eRec r)))]) Try.func30 rfl rfl rfl rfl rfl (fun w0 U0 => ?_)
  refine a_rseq ?_
  refine rg_nam (d := 3) (v := .pt 101 0) (m := 101) (nw := [(101, .bx 37 (eRec r))]) rfl (og rfl (of_eff (op_box 101 rfl rfl rfl rfl) rfl)) rfl ?_
  refine rg_put (d := 4) (v := .d (.fl (.int .i64 0))) rfl (og rfl (op_assign rfl rfl rfl)) ?_
  refine rg_done rfl ?_
  refine a_seq ?_
  refine a_rseq ?_
  refine rg_put (d := 5) (v := .pt 101 0) rfl (og rfl (of_eff (s_field_pt rfl Try.underlying37 rfl ti3 rfl rfl rfl) rfl)) ?_
  refine rg_put (d := 6) (v := .d (.fl (.int .i64 r.kind))) rfl (og rfl (op_load_pt rfl Try.underlying3 rfl rfl rfl rfl rfl)) ?_
  refine rg_done rfl ?_
  refine a_block ?_
  refine a_seq ?_
  refine a_rseq ?_
  refine rg_put (d := 8) (v := .d (.fl (.bool (r.kind == 1)))) rfl (og rfl (op_bin rfl rfl rfl (b_eql _ _ _ _) rfl)) ?_
  refine rg_put (d := 7) (v := .d (.fl (.bool (r.kind == 1)))) rfl (og rfl (op_assign rfl rfl rfl)) ?_
  refine rg_done rfl ?_
  refine a_cond rfl (fun h1 => ?_) (fun h1 => ?_)
  · skip
    have h2 := t_beq h1
    refine a_skip ?_
    show A _ _ _ _ _ _ _
    refine a_condK rfl h1 ?_
    refine a_rseq ?_
    refine rg_put (d := 10) (v := .d (.fl (.int .i64 n))) rfl (og rfl (op_move rfl rfl rfl)) ?_
    refine rg_put (d := 11) (v := .pt 101 3) rfl (og rfl (of_eff (s_field_pt rfl Try.underlying37 rfl ti3 rfl rfl rfl) rfl)) ?_
    refine rg_put (d := 12) (v := .d (.fl (.int .i64 r.cents))) rfl (og rfl (op_load_pt rfl Try.underlying3 rfl rfl rfl rfl rfl)) ?_
    refine rg_put (d := 13) (v := .d (.fl (.int .i64 (n + r.cents)))) rfl (og rfl (op_bin rfl rfl rfl (fun x y w => b_add64 _ _ _ x y w (by omega)) rfl)) ?_
    refine rg_put (d := 4) (v := .d (.fl (.int .i64 (n + r.cents)))) rfl (og rfl (op_assign rfl rfl rfl)) ?_
    refine rg_done rfl ?_
    refine a_ret ?_
    show ∃ ds, ResL _ _ _ ds ∧ RV.of ds = _
    refine ⟨[.fl (.int .i64 (n + r.cents))], (.cons (.tmp rfl (.d _)) .nil), ?_⟩
    rw [show chg n r = (n + r.cents) from by unfold chg; rw [if_pos (by omega)]]; rfl
  · skip
    have h3 := f_beq h1
    refine a_region ?_
    refine rg_put (d := 9) (v := .d (.fl (.bool (r.kind == 2)))) rfl (og rfl (op_bin rfl rfl rfl (b_eql _ _ _ _) rfl)) ?_
    refine rg_put (d := 7) (v := .d (.fl (.bool (r.kind == 2)))) rfl (og rfl (op_assign rfl rfl rfl)) ?_
    refine rg_done rfl ?_
    show A _ _ _ _ _ _ _
    refine a_cond rfl (fun h4 => ?_) (fun h4 => ?_)
    · skip
      have h5 := t_beq h4
      refine a_rseq ?_
      refine rg_put (d := 10) (v := .d (.fl (.int .i64 n))) rfl (og rfl (op_move rfl rfl rfl)) ?_
      refine rg_put (d := 11) (v := .pt 101 3) rfl (og rfl (of_eff (s_field_pt rfl Try.underlying37 rfl ti3 rfl rfl rfl) rfl)) ?_
      refine rg_put (d := 12) (v := .d (.fl (.int .i64 r.cents))) rfl (og rfl (op_load_pt rfl Try.underlying3 rfl rfl rfl rfl rfl)) ?_
      refine rg_put (d := 13) (v := .d (.fl (.int .i64 (n + r.cents)))) rfl (og rfl (op_bin rfl rfl rfl (fun x y w => b_add64 _ _ _ x y w (by omega)) rfl)) ?_
      refine rg_put (d := 4) (v := .d (.fl (.int .i64 (n + r.cents)))) rfl (og rfl (op_assign rfl rfl rfl)) ?_
      refine rg_done rfl ?_
      refine a_ret ?_
      show ∃ ds, ResL _ _ _ ds ∧ RV.of ds = _
      refine ⟨[.fl (.int .i64 (n + r.cents))], (.cons (.tmp rfl (.d _)) .nil), ?_⟩
      rw [show chg n r = (n + r.cents) from by unfold chg; rw [if_pos (by omega)]]; rfl
    · skip
      have h6 := f_beq h4
      refine a_rseq ?_
      refine rg_put (d := 15) (v := .d (.fl (.bool (r.kind == 4)))) rfl (og rfl (op_bin rfl rfl rfl (b_eql _ _ _ _) rfl)) ?_
      refine rg_put (d := 14) (v := .d (.fl (.bool (r.kind == 4)))) rfl (og rfl (op_assign rfl rfl rfl)) ?_
      refine rg_done rfl ?_
      refine a_cond rfl (fun h7 => ?_) (fun h7 => ?_)
      · skip
        have h8 := t_beq h7
        refine a_rseq ?_
        refine rg_put (d := 16) (v := .d (.fl (.int .i64 n))) rfl (og rfl (op_move rfl rfl rfl)) ?_
        refine rg_put (d := 17) (v := .pt 101 3) rfl (og rfl (of_eff (s_field_pt rfl Try.underlying37 rfl ti3 rfl rfl rfl) rfl)) ?_
        refine rg_put (d := 18) (v := .d (.fl (.int .i64 r.cents))) rfl (og rfl (op_load_pt rfl Try.underlying3 rfl rfl rfl rfl rfl)) ?_
        refine rg_put (d := 19) (v := .d (.fl (.int .i64 (n - r.cents)))) rfl (og rfl (op_bin rfl rfl rfl (fun x y w => b_sub64 _ _ _ x y w (by omega)) rfl)) ?_
        refine rg_put (d := 4) (v := .d (.fl (.int .i64 (n - r.cents)))) rfl (og rfl (op_assign rfl rfl rfl)) ?_
        refine rg_done rfl ?_
        refine a_ret ?_
        show ∃ ds, ResL _ _ _ ds ∧ RV.of ds = _
        refine ⟨[.fl (.int .i64 (n - r.cents))], (.cons (.tmp rfl (.d _)) .nil), ?_⟩
        rw [show chg n r = (n - r.cents) from by unfold chg; rw [if_neg (by omega), if_pos (by omega)]]; rfl
      · skip
        have h9 := f_beq h7
        refine a_rseq ?_
        refine rg_put (d := 21) (v := .d (.fl (.bool (r.kind == 3)))) rfl (og rfl (op_bin rfl rfl rfl (b_eql _ _ _ _) rfl)) ?_
        refine rg_put (d := 20) (v := .d (.fl (.bool (r.kind == 3)))) rfl (og rfl (op_assign rfl rfl rfl)) ?_
        refine rg_done rfl ?_
        refine a_cond rfl (fun h10 => ?_) (fun h10 => ?_)
        · skip
          have h11 := t_beq h10
          refine a_rseq ?_
          refine rg_put (d := 4) (v := .d (.fl (.int .i64 0))) rfl (og rfl (op_assign rfl rfl rfl)) ?_
          refine rg_done rfl ?_
          refine a_ret ?_
          show ∃ ds, ResL _ _ _ ds ∧ RV.of ds = _
          refine ⟨[.fl (.int .i64 0)], (.cons (.tmp rfl (.d _)) .nil), ?_⟩
          rw [show chg n r = 0 from by unfold chg; rw [if_neg (by omega), if_neg (by omega), if_pos (by omega)]]; rfl
        · skip
          have h12 := f_beq h10
          refine a_skip ?_
          show A _ _ _ _ _ _ _
          refine a_rseq ?_
          refine rg_put (d := 22) (v := .d (.fl (.int .i64 n))) rfl (og rfl (op_move rfl rfl rfl)) ?_
          refine rg_put (d := 4) (v := .d (.fl (.int .i64 n))) rfl (og rfl (op_assign rfl rfl rfl)) ?_
          refine rg_done rfl ?_
          refine a_ret ?_
          show ∃ ds, ResL _ _ _ ds ∧ RV.of ds = _
          refine ⟨[.fl (.int .i64 n)], (.cons (.tmp rfl (.d _)) .nil), ?_⟩
          rw [show chg n r = n from by unfold chg; rw [if_neg (by omega), if_neg (by omega), if_neg (by omega)]]; rfl
set_option maxHeartbeats 4000000 in
set_option maxRecDepth 100000 in
theorem netC (l : List Rec) (hl : l.length ≤ 200) (ho : okR l) : Ctr Try.prog 18 [.sl 5 (List.map eRec l)] (.d (.sl 5 (List.map eRec (netL l)))) := by
  refine ctr (n := 47) (rs := #[.tmp 2]) (L := [(0, .d (.sl 5 (List.map eRec l)))]) Try.func18 rfl rfl rfl rfl rfl (fun w0 U0 => ?_)
  refine a_rseq ?_
  refine rg_put (d := 2) (v := .d (.fl (.slice none 0 0))) rfl (og rfl (op_assign rfl rfl rfl)) ?_
  refine rg_done rfl ?_
  refine a_rseq ?_
  refine rg_nam (d := 10) (v := .ow 101) (m := 101) (nw := [(101, .mp [])]) rfl (og rfl (op_makeMap 101 rfl rfl)) rfl ?_
  refine rg_put (d := 3) (v := .ow 101) rfl (og rfl (op_assign rfl rfl rfl)) ?_
  refine rg_done rfl ?_
  refine a_seq ?_
  refine a_rseq ?_
  refine rg_put (d := 11) (v := .d (.sl 5 (List.map eRec l))) rfl (og rfl (op_move rfl rfl rfl)) ?_
  refine rg_put (d := 12) (v := .d (.fl (.int .i64 (l.length : Int)))) rfl (og rfl (s_len rfl Try.underlying23 rfl rfl)) ?_
  refine rg_put (d := 13) (v := .d (.fl (.int .i64 0))) rfl (og rfl (op_move rfl rfl rfl)) ?_
  refine rg_done rfl ?_
  refine a_block ?_
  refine a_loop (ι := Nat) (fun k => SS [(0, .d (.sl 5 (List.map eRec l))), (2, .d (.fl (.slice none 0 0))), (3, .ow 101), (11, .d (.sl 5 (List.map eRec l))), (12, .d (.fl (.int .i64 (l.length : Int)))), (13, .d (.fl (.int .i64 (k : Int))))] [(101, .mp (entR l k))]) (fun k => k ≤ l.length) (fun k => l.length - k) 0 (by omega) (imp_forget rfl ⟨rfl, rfl, rfl, rfl, rfl, (by first | rfl | exact ci (by omega) | exact ci (by simp) | exact cd (by simp) | simp), trivial⟩ ⟨rfl, trivial⟩) (fun k hok => ?_)
  have hk := hok
  refine a_rseq ?_
  refine rg_put (d := 14) (v := .d (.fl (.bool ((decide ((k : Int) < (l.length : Int))))))) rfl (og rfl (op_bin rfl rfl rfl (b_lss _ _ _ _) rfl)) ?_
  refine rg_done rfl ?_
  refine a_seq ?_
  refine a_cond rfl (fun h1 => ?_) (fun h1 => ?_)
  · skip
    have h2 := t_dec h1
    refine a_skip ?_
    show A _ _ _ _ _ _ _
    refine a_seq ?_
    refine a_block ?_
    refine a_rseq ?_
    refine rg_put (d := 15) (v := .el ((eRec (ix l k)))) rfl (og rfl (s_index rfl Try.underlying23 ti37 rfl rfl (by first | omega | (simp only [List.length_map]; omega)) (row_at (by first | omega | (simp only [List.length_map]; omega))) rfl)) ?_
    refine rg_put (d := 16) (v := .d (.ag (eRec (ix l k)))) rfl (og rfl (of_eff (s_load_els rfl Try.underlying37 rfl ti37 rfl rfl rfl) rfl)) ?_
    refine rg_nam (d := 5) (v := .pt 102 0) (m := 102) (nw := [(102, .bx 37 ([.fl (.int .i64 0), .fl (.string (⟨#[]⟩)), .fl (.int .i64 0), .fl (.int .i64 0), .fl (.int .i64 0)]))]) rfl (og rfl (of_eff (s_alloc 102 rfl ti37 (by kernel_rfl) rfl) rfl)) rfl ?_
    refine rg_sto (nw := [(102, .bx 37 ((eRec (ix l k))))]) rfl (og rfl (of_eff (s_store rfl rfl ti37 rfl rfl rfl rfl rfl rfl) rfl)) ?_
    refine rg_done rfl ?_
    refine a_rseq ?_
    have hct := ho _ (ix_mem (by omega : k < l.length))
    have ham := am_in ho (ix l k).key k (by omega)
    have hgc : (gR l k (ix l k).key).cents = am l (ix l k).key k := rfl
    refine rg_put (d := 17) (v := .ow 101) rfl (og rfl (op_move rfl rfl rfl)) ?_
    refine rg_put (d := 18) (v := .pt 102 1) rfl (og rfl (of_eff (s_field_pt rfl Try.underlying37 rfl ti9 rfl rfl rfl) rfl)) ?_
    refine rg_put (d := 19) (v := .d (.fl (.string ((ix l k).key)))) rfl (og rfl (op_load_pt rfl Try.underlying9 rfl rfl rfl rfl rfl)) ?_
    rcases fot (((fk l k).any (fun y => sEq y (ix l k).key))) with h3 | h3
    · skip
      refine rg_put (d := 20) (v := .d (.ag (eRec ((Rec.mk 0 (⟨#[]⟩) 0 0 0))))) rfl (og rfl (op_lookup1 rfl Try.underlying64 Try.underlying9 rfl ti37 rfl rfl (.ow rfl) rfl (r := none) ((mfindR _ _ _).trans (by rw [show (fk l k).any (fun y => sEq y (ix l k).key) = false from h3]; rfl)) rfl rfl)) ?_
      refine rg_put (d := 21) (v := .d (.fl (.int .i64 (((Rec.mk 0 (⟨#[]⟩) 0 0 0)).cents)))) rfl (og rfl (op_fieldC rfl Try.underlying37 rfl Try.underlying3 rfl rfl rfl rfl rfl)) ?_
      refine rg_put (d := 22) (v := .d (.ag (eRec (ix l k)))) rfl (og rfl (of_eff (s_load_pts rfl Try.underlying37 rfl ti37 rfl rfl rfl rfl) rfl)) ?_
      refine rg_put (d := 23) (v := .d (.fl (.int .i64 ((chg 0 (ix l k)))))) rfl (og rfl (op_call rfl Try.func30 nm30 rfl (.cons rfl (.d _) (.cons rfl (.d _) .nil)) (chgC 0 (ix l k) (by decide) hct) rfl)) ?_
      refine rg_put (d := 6) (v := .d (.fl (.int .i64 ((chg 0 (ix l k)))))) rfl (og rfl (op_assign rfl rfl rfl)) ?_
      refine rg_done rfl ?_
      refine a_region ?_
      refine rg_put (d := 24) (v := .ow 101) rfl (og rfl (op_move rfl rfl rfl)) ?_
      refine rg_put (d := 25) (v := .pt 102 1) rfl (og rfl (of_eff (s_field_pt rfl Try.underlying37 rfl ti9 rfl rfl rfl) rfl)) ?_
      refine rg_put (d := 26) (v := .d (.fl (.string ((ix l k).key)))) rfl (og rfl (op_load_pt rfl Try.underlying9 rfl rfl rfl rfl rfl)) ?_
      refine rg_put (d := 27) (v := .pt 102 1) rfl (og rfl (of_eff (s_field_pt rfl Try.underlying37 rfl ti9 rfl rfl rfl) rfl)) ?_
      refine rg_put (d := 28) (v := .d (.fl (.string ((ix l k).key)))) rfl (og rfl (op_load_pt rfl Try.underlying9 rfl rfl rfl rfl rfl)) ?_
      refine rg_put (d := 29) (v := .pt 102 2) rfl (og rfl (of_eff (s_field_pt rfl Try.underlying37 rfl ti3 rfl rfl rfl) rfl)) ?_
      refine rg_put (d := 30) (v := .d (.fl (.int .i64 ((ix l k).time)))) rfl (og rfl (op_load_pt rfl Try.underlying3 rfl rfl rfl rfl rfl)) ?_
      refine rg_put (d := 31) (v := .d (.fl (.int .i64 ((chg 0 (ix l k)))))) rfl (og rfl (op_move rfl rfl rfl)) ?_
      refine rg_put (d := 32) (v := .d (.ag (eRec ((Rec.mk 1 ((ix l k).key) ((ix l k).time) ((chg 0 (ix l k))) 0))))) rfl (og rfl (of_eff (op_build rfl Try.underlying37 ti37 rfl (by kernel_rfl) (by kernel_rfl) (pl := #[(0, 1), (1, 1), (2, 1), (3, 1), (4, 1)]) (by kernel_rfl) (.cons rfl rfl (.d _) rfl rfl rfl (.cons rfl rfl (.d _) rfl rfl rfl (.cons rfl rfl (.d _) rfl rfl rfl (.cons rfl rfl (.d _) rfl rfl rfl .nil)))) rfl) rfl)) ?_
      refine rg_sto (nw := [(101, .mp ((entR l k) ++ [((.string ((ix l k).key)), .ag (eRec ((Rec.mk 1 ((ix l k).key) ((ix l k).time) ((chg 0 (ix l k))) 0))))]))]) rfl (og rfl (op_mapPush rfl rfl Try.underlying64 Try.underlying9 rfl rfl rfl rfl ((mfindR _ _ _).trans (by rw [show (fk l k).any (fun y => sEq y (ix l k).key) = false from h3]; rfl)) rfl)) ?_
      refine rg_done rfl ?_
      show A _ _ _ _ _ _ _
      refine a_region ?_
      refine rg_put (d := 33) (v := .d (.fl (.int .i64 (((k : Int) + 1))))) rfl (og rfl (op_bin rfl rfl rfl (fun x y w => b_add64 _ _ _ x y w (by first | omega | (simp only [List.length_map]; omega))) rfl)) ?_
      refine rg_put (d := 13) (v := .d (.fl (.int .i64 (((k : Int) + 1))))) rfl (og rfl (op_move rfl rfl rfl)) ?_
      refine rg_done rfl ?_
      have hst : ((entR l k) ++ [((.string ((ix l k).key)), .ag (eRec ((Rec.mk 1 ((ix l k).key) ((ix l k).time) ((chg 0 (ix l k))) 0))))]) = entR l (k + 1) := ent_new h3
      show ∃ i, _ ∧ _ ∧ Imp _ _ _ _ _
      refine ⟨k + 1, (by omega), by omega, imp_forget rfl ⟨rfl, rfl, rfl, rfl, rfl, (by first | rfl | exact ci (by omega) | exact ci (by simp) | exact cd (by simp) | simp), trivial⟩ ⟨(congrArg (fun z => Ob.mp z) hst), trivial⟩⟩
    · skip
      refine rg_put (d := 20) (v := .d (.ag (eRec ((gR l k (ix l k).key))))) rfl (og rfl (op_lookup1 rfl Try.underlying64 Try.underlying9 rfl ti37 rfl rfl (.ow rfl) rfl (r := (some (.ag (eRec ((gR l k (ix l k).key)))))) ((mfindR _ _ _).trans (by rw [show (fk l k).any (fun y => sEq y (ix l k).key) = true from h3]; rfl)) rfl rfl)) ?_
      refine rg_put (d := 21) (v := .d (.fl (.int .i64 (((gR l k (ix l k).key)).cents)))) rfl (og rfl (op_fieldC rfl Try.underlying37 rfl Try.underlying3 rfl rfl rfl rfl rfl)) ?_
      refine rg_put (d := 22) (v := .d (.ag (eRec (ix l k)))) rfl (og rfl (of_eff (s_load_pts rfl Try.underlying37 rfl ti37 rfl rfl rfl rfl) rfl)) ?_
      refine rg_put (d := 23) (v := .d (.fl (.int .i64 ((chg (((gR l k (ix l k).key)).cents) (ix l k)))))) rfl (og rfl (op_call rfl Try.func30 nm30 rfl (.cons rfl (.d _) (.cons rfl (.d _) .nil)) (chgC (((gR l k (ix l k).key)).cents) (ix l k) (by omega) hct) rfl)) ?_
      refine rg_put (d := 6) (v := .d (.fl (.int .i64 ((chg (((gR l k (ix l k).key)).cents) (ix l k)))))) rfl (og rfl (op_assign rfl rfl rfl)) ?_
      refine rg_done rfl ?_
      refine a_region ?_
      refine rg_put (d := 24) (v := .ow 101) rfl (og rfl (op_move rfl rfl rfl)) ?_
      refine rg_put (d := 25) (v := .pt 102 1) rfl (og rfl (of_eff (s_field_pt rfl Try.underlying37 rfl ti9 rfl rfl rfl) rfl)) ?_
      refine rg_put (d := 26) (v := .d (.fl (.string ((ix l k).key)))) rfl (og rfl (op_load_pt rfl Try.underlying9 rfl rfl rfl rfl rfl)) ?_
      refine rg_put (d := 27) (v := .pt 102 1) rfl (og rfl (of_eff (s_field_pt rfl Try.underlying37 rfl ti9 rfl rfl rfl) rfl)) ?_
      refine rg_put (d := 28) (v := .d (.fl (.string ((ix l k).key)))) rfl (og rfl (op_load_pt rfl Try.underlying9 rfl rfl rfl rfl rfl)) ?_
      refine rg_put (d := 29) (v := .pt 102 2) rfl (og rfl (of_eff (s_field_pt rfl Try.underlying37 rfl ti3 rfl rfl rfl) rfl)) ?_
      refine rg_put (d := 30) (v := .d (.fl (.int .i64 ((ix l k).time)))) rfl (og rfl (op_load_pt rfl Try.underlying3 rfl rfl rfl rfl rfl)) ?_
      refine rg_put (d := 31) (v := .d (.fl (.int .i64 ((chg (((gR l k (ix l k).key)).cents) (ix l k)))))) rfl (og rfl (op_move rfl rfl rfl)) ?_
      refine rg_put (d := 32) (v := .d (.ag (eRec ((Rec.mk 1 ((ix l k).key) ((ix l k).time) ((chg (((gR l k (ix l k).key)).cents) (ix l k))) 0))))) rfl (og rfl (of_eff (op_build rfl Try.underlying37 ti37 rfl (by kernel_rfl) (by kernel_rfl) (pl := #[(0, 1), (1, 1), (2, 1), (3, 1), (4, 1)]) (by kernel_rfl) (.cons rfl rfl (.d _) rfl rfl rfl (.cons rfl rfl (.d _) rfl rfl rfl (.cons rfl rfl (.d _) rfl rfl rfl (.cons rfl rfl (.d _) rfl rfl rfl .nil)))) rfl) rfl)) ?_
      refine rg_sto (nw := [(101, .mp (mput .string ((.string ((ix l k).key))) (.ag (eRec ((Rec.mk 1 ((ix l k).key) ((ix l k).time) ((chg (((gR l k (ix l k).key)).cents) (ix l k))) 0)))) (entR l k)))]) rfl (og rfl (op_mapSet rfl rfl Try.underlying64 Try.underlying9 rfl rfl rfl rfl ((mfindR _ _ _).trans (by rw [show (fk l k).any (fun y => sEq y (ix l k).key) = true from h3]; rfl)) rfl (stays_str _))) ?_
      refine rg_done rfl ?_
      show A _ _ _ _ _ _ _
      refine a_region ?_
      refine rg_put (d := 33) (v := .d (.fl (.int .i64 (((k : Int) + 1))))) rfl (og rfl (op_bin rfl rfl rfl (fun x y w => b_add64 _ _ _ x y w (by first | omega | (simp only [List.length_map]; omega))) rfl)) ?_
      refine rg_put (d := 13) (v := .d (.fl (.int .i64 (((k : Int) + 1))))) rfl (og rfl (op_move rfl rfl rfl)) ?_
      refine rg_done rfl ?_
      have hst : (mput .string ((.string ((ix l k).key))) (.ag (eRec ((Rec.mk 1 ((ix l k).key) ((ix l k).time) ((chg (((gR l k (ix l k).key)).cents) (ix l k))) 0)))) (entR l k)) = entR l (k + 1) := ent_put h3
      show ∃ i, _ ∧ _ ∧ Imp _ _ _ _ _
      refine ⟨k + 1, (by omega), by omega, imp_forget rfl ⟨rfl, rfl, rfl, rfl, rfl, (by first | rfl | exact ci (by omega) | exact ci (by simp) | exact cd (by simp) | simp), trivial⟩ ⟨(congrArg (fun z => Ob.mp z) hst), trivial⟩⟩
  · skip
    have h4 := f_dec h1
    refine a_exit ?_
    show A _ _ _ _ _ _ _
    refine a_rseq ?_
    have hke : k = l.length := by omega
    rw [show (entR l k) = (entR l l.length) from (by rw [hke])]
    refine rg_put (d := 7) (v := .d (.fl (.slice none 0 0))) rfl (og rfl (op_assign rfl rfl rfl)) ?_
    refine rg_done rfl ?_
    refine a_seq ?_
    refine a_rseq ?_
    refine rg_imp (imp_nilT 7 103 37 5 rfl rfl) ?_
    refine rg_put (d := 34) (v := .ow 101) rfl (og rfl (op_move rfl rfl rfl)) ?_
    refine rg_imp (imp_mp 34 101 rfl rfl) ?_
    refine rg_nam (d := 35) (v := .ow 104) (m := 104) (nw := [(104, .mi (List.map (fE l l.length) (fk l l.length)) none)]) rfl (og rfl (op_rangeM 104 rfl Try.underlying64 rfl rfl)) rfl ?_
    refine rg_done rfl ?_
    refine a_block ?_
    refine a_loop (ι := List ByteArray × Option (Value × DV) × List ByteArray) (fun pr => SS [(0, .d (.sl 5 (List.map eRec l))), (2, .d (.fl (.slice none 0 0))), (11, .d (.sl 5 (List.map eRec l))), (12, .d (.fl (.int .i64 (l.length : Int)))), (13, .d (.fl (.int .i64 (k : Int)))), (14, .d (.fl (.bool ((decide ((k : Int) < (l.length : Int))))))), (35, .ow 104), (7, .ow 103)] [(104, .mi (List.map (fE l l.length) pr.1) pr.2.1), (103, .tr 37 5 (tD eRec ((pr.2.2.map (gR l l.length)))))]) (fun pr => (pr.2.2 ++ pr.1).Perm (fk l l.length)) (fun pr => pr.1.length) (((fk l l.length), none, [])) (List.Perm.refl _) (imp_forget rfl ⟨rfl, rfl, rfl, rfl, rfl, rfl, rfl, (by first | rfl | exact ci (by omega) | exact ci (by simp) | exact cd (by simp) | simp), trivial⟩ ⟨rfl, rfl, trivial⟩) (fun pr hok => ?_)
    have hp0 := hok
    have hcl0 : pr.2.2.length + pr.1.length = (fk l l.length).length := by have := hp0.length_eq; rwa [List.length_append] at this
    have hfl := fk_len l l.length
    refine a_rseq ?_
    refine rg_nextM (α := ByteArray) (f := (fE l l.length)) (l := pr.1) rfl rfl rfl rfl rfl rfl rfl (fun h5 => ?_) (fun jh5 h5 => ?_)
    · skip
      refine rg_put (d := 37) (v := .d (.fl (.bool false))) rfl (og rfl (op_extract rfl rfl rfl rfl)) ?_
      refine rg_done rfl ?_
      refine a_seq ?_
      refine a_condF rfl rfl ?_
      refine a_exit ?_
      show A _ _ _ _ _ _ _
      refine a_rseq ?_
      have hz0 : pr.1 = [] := h5
      have hcp : pr.2.2.Perm (fk l l.length) := by have := hp0; rwa [hz0, List.append_nil] at this
      refine rg_put (d := 44) (v := .ow 103) rfl (og rfl (op_move rfl rfl rfl)) ?_
      refine rg_sortE rfl rfl rfl rfl (by rfl) Try.func31 nm31 rfl rfl rfl rfl (fun _ => rfl) (p := fun _ => True) (fun _ _ => trivial) sortD (by first | omega | (simp only [List.length_map]; omega)) (fun l' hp hs => ?_)
      refine rg_done rfl ?_
      refine a_rseq ?_
      have hne := net_eq hcp hp hs
      rw [show l' = (netL l) from hne]
      refine rg_put (d := 46) (v := .ow 103) rfl (og rfl (op_move rfl rfl rfl)) ?_
      refine rg_put (d := 2) (v := .ow 103) rfl (og rfl (op_assign rfl rfl rfl)) ?_
      refine rg_done rfl ?_
      refine a_imp (imp_leakT 2 103 rfl rfl) ?_
      refine a_ret ?_
      show ∃ ds, ResL _ _ _ ds ∧ RV.of ds = _
      refine ⟨[.sl 5 (List.map eRec (netL l))], (.cons (.tmp rfl (.d _)) .nil), ?_⟩
      rfl
    · skip
      refine rg_put (d := 37) (v := .d (.fl (.bool true))) rfl (og rfl (op_extract rfl rfl rfl rfl)) ?_
      refine rg_done rfl ?_
      refine a_seq ?_
      refine a_condK rfl rfl ?_
      refine a_skip ?_
      show A _ _ _ _ _ _ _
      refine a_block ?_
      refine a_rseq ?_
      refine rg_put (d := 38) (v := .tu [.fl (.string (ix pr.1 jh5)), .ag (eRec ((gR l l.length (ix pr.1 jh5))))]) rfl (og rfl (of_eff (op_entry (v := ((fE l l.length) (ix pr.1 jh5))) rfl rfl rfl rfl) rfl)) ?_
      refine rg_put (d := 39) (v := .d (.ag (eRec ((gR l l.length (ix pr.1 jh5)))))) rfl (og rfl (op_extract rfl rfl rfl rfl)) ?_
      refine rg_nam (d := 9) (v := .pt 105 0) (m := 105) (nw := [(105, .bx 37 ([.fl (.int .i64 0), .fl (.string (⟨#[]⟩)), .fl (.int .i64 0), .fl (.int .i64 0), .fl (.int .i64 0)]))]) rfl (og rfl (of_eff (s_alloc 105 rfl ti37 (by kernel_rfl) rfl) rfl)) rfl ?_
      refine rg_sto (nw := [(105, .bx 37 ((eRec ((gR l l.length (ix pr.1 jh5))))))]) rfl (og rfl (of_eff (s_store rfl rfl ti37 rfl rfl rfl rfl rfl rfl) rfl)) ?_
      refine rg_done rfl ?_
      refine a_region ?_
      refine rg_put (d := 40) (v := .ow 103) rfl (og rfl (op_move rfl rfl rfl)) ?_
      refine rg_put (d := 41) (v := .d (.ag (eRec (((gR l l.length (ix pr.1 jh5))))))) rfl (og rfl (of_eff (s_load_pts rfl Try.underlying37 rfl ti37 rfl rfl rfl rfl) rfl)) ?_
      refine rg_put (d := 42) (v := .d (.sl 5 (List.map eRec [((gR l l.length (ix pr.1 jh5)))]))) rfl (og rfl (of_eff (op_slices rfl Try.underlying23 ti37 rfl rfl rfl (by kernel_rfl) (xs := [.ag (eRec (((gR l l.length (ix pr.1 jh5)))))]) rfl rfl (.cons rfl rfl (.d _) rfl rfl rfl .nil) rfl) rfl)) ?_
      refine rg_nam (d := 43) (v := .ow 106) (m := 106) (nw := [(106, .tr 37 5 (tD eRec (((pr.2.2.map (gR l l.length)) ++ [((gR l l.length (ix pr.1 jh5)))])))), (103, .no)]) rfl (og rfl (of_eff (s_append_td 106 rfl Try.underlying23 ti37 rfl rfl rfl rfl rfl (.d _) (by simp only [List.length_map, List.length_append, List.length_cons, List.length_nil]; omega) rfl) rfl)) rfl ?_
      refine rg_put (d := 7) (v := .ow 106) rfl (og rfl (op_assign rfl rfl rfl)) ?_
      refine rg_done rfl ?_
      have hjj := h5
      have hnp : ((pr.2.2 ++ [ix pr.1 jh5]) ++ pr.1.eraseIdx jh5).Perm (fk l l.length) := (er_perm hjj).trans hp0
      have hcl : (pr.2.2 ++ pr.1).length = (fk l l.length).length := hp0.length_eq
      have hst : ((pr.2.2.map (gR l l.length)) ++ [((gR l l.length (ix pr.1 jh5)))]) = (pr.2.2 ++ [ix pr.1 jh5]).map (gR l l.length) := by rw [List.map_append]; rfl
      show ∃ i, _ ∧ _ ∧ Imp _ _ _ _ _
      refine ⟨(pr.1.eraseIdx jh5, some (fE l l.length (ix pr.1 jh5)), pr.2.2 ++ [ix pr.1 jh5]), hnp, (er_len hjj), imp_ren (fun m => bif Nat.beq m 103 then 106 else m) rfl ⟨rfl, rfl, rfl, rfl, rfl, rfl, rfl, rfl, trivial⟩ ⟨rfl, (congrArg (fun z => Ob.tr 37 5 (tD eRec z)) hst), trivial⟩⟩
set_option maxHeartbeats 4000000 in
set_option maxRecDepth 100000 in
theorem amoR (l : List Rec) (s : ByteArray) (hl : l.length ≤ 200) (ho : okR l) : Ctr Try.prog 22 [.sl 5 (List.map eRec l), .fl (.string s)] (.d (.fl (.int .i64 (am l s l.length)))) := by
  refine ctr (n := 47) (rs := #[.tmp 4]) (L := [(0, .d (.sl 5 (List.map eRec l))), (1, .d (.fl (.string s)))]) Try.func22 rfl rfl rfl rfl rfl (fun w0 U0 => ?_)
  refine a_rseq ?_
  refine rg_put (d := 4) (v := .d (.fl (.int .i64 0))) rfl (og rfl (op_assign rfl rfl rfl)) ?_
  refine rg_done rfl ?_
  refine a_rseq ?_
  refine rg_put (d := 5) (v := .d (.fl (.int .i64 0))) rfl (og rfl (op_assign rfl rfl rfl)) ?_
  refine rg_done rfl ?_
  refine a_seq ?_
  refine a_rseq ?_
  refine rg_put (d := 6) (v := .d (.fl (.int .i64 0))) rfl (og rfl (op_assign rfl rfl rfl)) ?_
  refine rg_done rfl ?_
  refine a_block ?_
  refine a_loop (ι := Nat) (fun k => SS [(0, .d (.sl 5 (List.map eRec l))), (1, .d (.fl (.string s))), (4, .d (.fl (.int .i64 0))), (6, .d (.fl (.int .i64 (k : Int)))), (5, .d (.fl (.int .i64 (am l s k))))] []) (fun k => k ≤ l.length) (fun k => l.length - k) 0 (by omega) (imp_forget rfl ⟨rfl, rfl, rfl, (by first | rfl | exact ci (by omega) | exact ci (by simp) | exact cd (by simp) | simp), rfl, trivial⟩ trivial) (fun k hok => ?_)
  have hk := hok
  have ham := am_in ho s k hk
  refine a_seq ?_
  refine a_rseq ?_
  refine rg_put (d := 7) (v := .d (.fl (.int .i64 (k : Int)))) rfl (og rfl (op_move rfl rfl rfl)) ?_
  refine rg_put (d := 8) (v := .d (.sl 5 (List.map eRec l))) rfl (og rfl (op_move rfl rfl rfl)) ?_
  refine rg_put (d := 9) (v := .d (.fl (.int .i64 (l.length : Int)))) rfl (og rfl (s_len rfl Try.underlying23 rfl rfl)) ?_
  refine rg_put (d := 10) (v := .d (.fl (.bool ((decide ((k : Int) < (l.length : Int))))))) rfl (og rfl (op_bin rfl rfl rfl (b_lss _ _ _ _) rfl)) ?_
  refine rg_done rfl ?_
  refine a_cond rfl (fun h1 => ?_) (fun h1 => ?_)
  · skip
    have h2 := t_dec h1
    refine a_skip ?_
    show A _ _ _ _ _ _ _
    refine a_seq ?_
    refine a_block ?_
    refine a_seq ?_
    refine a_rseq ?_
    refine rg_put (d := 13) (v := .d (.sl 5 (List.map eRec l))) rfl (og rfl (op_move rfl rfl rfl)) ?_
    refine rg_put (d := 14) (v := .d (.fl (.int .i64 (k : Int)))) rfl (og rfl (op_move rfl rfl rfl)) ?_
    refine rg_put (d := 15) (v := .el ((eRec (ix l k)))) rfl (og rfl (s_index rfl Try.underlying23 ti37 rfl rfl (by omega) (row_at (by omega)) rfl)) ?_
    refine rg_put (d := 16) (v := .el ((List.drop 1 ((eRec (ix l k)))))) rfl (og rfl (of_eff (s_field_el rfl Try.underlying37 rfl ti9 rfl rfl rfl) rfl)) ?_
    refine rg_put (d := 17) (v := .d (.fl (.string ((ix l k).key)))) rfl (og rfl (op_load_el rfl Try.underlying9 rfl rfl rfl rfl)) ?_
    refine rg_put (d := 18) (v := .d (.fl (.string s))) rfl (og rfl (op_move rfl rfl rfl)) ?_
    refine rg_put (d := 19) (v := .d (.fl (.bool ((!(sEq ((ix l k).key) s)))))) rfl (og rfl (op_bin rfl rfl rfl (b_sne _ _ _) rfl)) ?_
    refine rg_done rfl ?_
    refine a_cond rfl (fun h3 => ?_) (fun h3 => ?_)
    · skip
      have h4 := t_not h3
      refine a_exit ?_
      show A _ _ _ _ _ _ _
      refine a_region ?_
      refine rg_put (d := 11) (v := .d (.fl (.int .i64 (k : Int)))) rfl (og rfl (op_move rfl rfl rfl)) ?_
      refine rg_put (d := 12) (v := .d (.fl (.int .i64 (((k : Int) + 1))))) rfl (og rfl (op_bin rfl rfl rfl (fun x y w => b_add64 _ _ _ x y w (by omega)) rfl)) ?_
      refine rg_put (d := 6) (v := .d (.fl (.int .i64 (((k : Int) + 1))))) rfl (og rfl (op_assign rfl rfl rfl)) ?_
      refine rg_done rfl ?_
      have hst : (am l s k) = am l s (k + 1) := (am_n h4).symm
      show ∃ i, _ ∧ _ ∧ Imp _ _ _ _ _
      refine ⟨k + 1, (by omega), by omega, imp_forget rfl ⟨rfl, rfl, rfl, (by first | rfl | exact ci (by omega)), (ci hst), trivial⟩ trivial⟩
    · skip
      have h5 := f_not h3
      refine a_skip ?_
      show A _ _ _ _ _ _ _
      refine a_rseq ?_
      have hct := ho _ (ix_mem (by omega : k < l.length))
      refine rg_put (d := 20) (v := .d (.sl 5 (List.map eRec l))) rfl (og rfl (op_move rfl rfl rfl)) ?_
      refine rg_put (d := 21) (v := .d (.fl (.int .i64 (k : Int)))) rfl (og rfl (op_move rfl rfl rfl)) ?_
      refine rg_put (d := 22) (v := .el ((eRec (ix l k)))) rfl (og rfl (s_index rfl Try.underlying23 ti37 rfl rfl (by omega) (row_at (by omega)) rfl)) ?_
      refine rg_put (d := 23) (v := .el ((List.drop 0 ((eRec (ix l k)))))) rfl (og rfl (of_eff (s_field_el rfl Try.underlying37 rfl ti3 rfl rfl rfl) rfl)) ?_
      refine rg_put (d := 24) (v := .d (.fl (.int .i64 ((ix l k).kind)))) rfl (og rfl (op_load_el rfl Try.underlying3 rfl rfl rfl rfl)) ?_
      refine rg_done rfl ?_
      refine a_block ?_
      refine a_seq ?_
      refine a_rseq ?_
      refine rg_put (d := 26) (v := .d (.fl (.bool (((ix l k).kind == 1))))) rfl (og rfl (op_bin rfl rfl rfl (b_eql _ _ _ _) rfl)) ?_
      refine rg_put (d := 25) (v := .d (.fl (.bool (((ix l k).kind == 1))))) rfl (og rfl (op_assign rfl rfl rfl)) ?_
      refine rg_done rfl ?_
      refine a_cond rfl (fun h6 => ?_) (fun h6 => ?_)
      · skip
        have h7 := t_beq h6
        refine a_skip ?_
        show A _ _ _ _ _ _ _
        refine a_condK rfl h6 ?_
        refine a_region ?_
        refine rg_put (d := 28) (v := .d (.fl (.int .i64 (am l s k)))) rfl (og rfl (op_move rfl rfl rfl)) ?_
        refine rg_put (d := 29) (v := .d (.sl 5 (List.map eRec l))) rfl (og rfl (op_move rfl rfl rfl)) ?_
        refine rg_put (d := 30) (v := .d (.fl (.int .i64 (k : Int)))) rfl (og rfl (op_move rfl rfl rfl)) ?_
        refine rg_put (d := 31) (v := .el ((eRec (ix l k)))) rfl (og rfl (s_index rfl Try.underlying23 ti37 rfl rfl (by omega) (row_at (by omega)) rfl)) ?_
        refine rg_put (d := 32) (v := .el ((List.drop 3 ((eRec (ix l k)))))) rfl (og rfl (of_eff (s_field_el rfl Try.underlying37 rfl ti3 rfl rfl rfl) rfl)) ?_
        refine rg_put (d := 33) (v := .d (.fl (.int .i64 ((ix l k).cents)))) rfl (og rfl (op_load_el rfl Try.underlying3 rfl rfl rfl rfl)) ?_
        refine rg_put (d := 34) (v := .d (.fl (.int .i64 (((am l s k) + (ix l k).cents))))) rfl (og rfl (op_bin rfl rfl rfl (fun x y w => b_add64 _ _ _ x y w (by omega)) rfl)) ?_
        refine rg_put (d := 5) (v := .d (.fl (.int .i64 (((am l s k) + (ix l k).cents))))) rfl (og rfl (op_assign rfl rfl rfl)) ?_
        refine rg_done rfl ?_
        show A _ _ _ _ _ _ _
        refine a_region ?_
        refine rg_put (d := 11) (v := .d (.fl (.int .i64 (k : Int)))) rfl (og rfl (op_move rfl rfl rfl)) ?_
        refine rg_put (d := 12) (v := .d (.fl (.int .i64 (((k : Int) + 1))))) rfl (og rfl (op_bin rfl rfl rfl (fun x y w => b_add64 _ _ _ x y w (by omega)) rfl)) ?_
        refine rg_put (d := 6) (v := .d (.fl (.int .i64 (((k : Int) + 1))))) rfl (og rfl (op_assign rfl rfl rfl)) ?_
        refine rg_done rfl ?_
        have hst : ((am l s k) + (ix l k).cents) = am l s (k + 1) := by rw [am_y h5]; unfold chg; rw [if_pos (by omega)]
        show ∃ i, _ ∧ _ ∧ Imp _ _ _ _ _
        refine ⟨k + 1, (by omega), by omega, imp_forget rfl ⟨rfl, rfl, rfl, (by first | rfl | exact ci (by omega)), (ci hst), trivial⟩ trivial⟩
      · skip
        have h8 := f_beq h6
        refine a_region ?_
        refine rg_put (d := 27) (v := .d (.fl (.bool (((ix l k).kind == 2))))) rfl (og rfl (op_bin rfl rfl rfl (b_eql _ _ _ _) rfl)) ?_
        refine rg_put (d := 25) (v := .d (.fl (.bool (((ix l k).kind == 2))))) rfl (og rfl (op_assign rfl rfl rfl)) ?_
        refine rg_done rfl ?_
        show A _ _ _ _ _ _ _
        refine a_cond rfl (fun h9 => ?_) (fun h9 => ?_)
        · skip
          have h10 := t_beq h9
          refine a_region ?_
          refine rg_put (d := 28) (v := .d (.fl (.int .i64 (am l s k)))) rfl (og rfl (op_move rfl rfl rfl)) ?_
          refine rg_put (d := 29) (v := .d (.sl 5 (List.map eRec l))) rfl (og rfl (op_move rfl rfl rfl)) ?_
          refine rg_put (d := 30) (v := .d (.fl (.int .i64 (k : Int)))) rfl (og rfl (op_move rfl rfl rfl)) ?_
          refine rg_put (d := 31) (v := .el ((eRec (ix l k)))) rfl (og rfl (s_index rfl Try.underlying23 ti37 rfl rfl (by omega) (row_at (by omega)) rfl)) ?_
          refine rg_put (d := 32) (v := .el ((List.drop 3 ((eRec (ix l k)))))) rfl (og rfl (of_eff (s_field_el rfl Try.underlying37 rfl ti3 rfl rfl rfl) rfl)) ?_
          refine rg_put (d := 33) (v := .d (.fl (.int .i64 ((ix l k).cents)))) rfl (og rfl (op_load_el rfl Try.underlying3 rfl rfl rfl rfl)) ?_
          refine rg_put (d := 34) (v := .d (.fl (.int .i64 (((am l s k) + (ix l k).cents))))) rfl (og rfl (op_bin rfl rfl rfl (fun x y w => b_add64 _ _ _ x y w (by omega)) rfl)) ?_
          refine rg_put (d := 5) (v := .d (.fl (.int .i64 (((am l s k) + (ix l k).cents))))) rfl (og rfl (op_assign rfl rfl rfl)) ?_
          refine rg_done rfl ?_
          show A _ _ _ _ _ _ _
          refine a_region ?_
          refine rg_put (d := 11) (v := .d (.fl (.int .i64 (k : Int)))) rfl (og rfl (op_move rfl rfl rfl)) ?_
          refine rg_put (d := 12) (v := .d (.fl (.int .i64 (((k : Int) + 1))))) rfl (og rfl (op_bin rfl rfl rfl (fun x y w => b_add64 _ _ _ x y w (by omega)) rfl)) ?_
          refine rg_put (d := 6) (v := .d (.fl (.int .i64 (((k : Int) + 1))))) rfl (og rfl (op_assign rfl rfl rfl)) ?_
          refine rg_done rfl ?_
          have hst : ((am l s k) + (ix l k).cents) = am l s (k + 1) := by rw [am_y h5]; unfold chg; rw [if_pos (by omega)]
          show ∃ i, _ ∧ _ ∧ Imp _ _ _ _ _
          refine ⟨k + 1, (by omega), by omega, imp_forget rfl ⟨rfl, rfl, rfl, (by first | rfl | exact ci (by omega)), (ci hst), trivial⟩ trivial⟩
        · skip
          have h11 := f_beq h9
          refine a_rseq ?_
          refine rg_put (d := 36) (v := .d (.fl (.bool (((ix l k).kind == 4))))) rfl (og rfl (op_bin rfl rfl rfl (b_eql _ _ _ _) rfl)) ?_
          refine rg_put (d := 35) (v := .d (.fl (.bool (((ix l k).kind == 4))))) rfl (og rfl (op_assign rfl rfl rfl)) ?_
          refine rg_done rfl ?_
          refine a_cond rfl (fun h12 => ?_) (fun h12 => ?_)
          · skip
            have h13 := t_beq h12
            refine a_region ?_
            refine rg_put (d := 37) (v := .d (.fl (.int .i64 (am l s k)))) rfl (og rfl (op_move rfl rfl rfl)) ?_
            refine rg_put (d := 38) (v := .d (.sl 5 (List.map eRec l))) rfl (og rfl (op_move rfl rfl rfl)) ?_
            refine rg_put (d := 39) (v := .d (.fl (.int .i64 (k : Int)))) rfl (og rfl (op_move rfl rfl rfl)) ?_
            refine rg_put (d := 40) (v := .el ((eRec (ix l k)))) rfl (og rfl (s_index rfl Try.underlying23 ti37 rfl rfl (by omega) (row_at (by omega)) rfl)) ?_
            refine rg_put (d := 41) (v := .el ((List.drop 3 ((eRec (ix l k)))))) rfl (og rfl (of_eff (s_field_el rfl Try.underlying37 rfl ti3 rfl rfl rfl) rfl)) ?_
            refine rg_put (d := 42) (v := .d (.fl (.int .i64 ((ix l k).cents)))) rfl (og rfl (op_load_el rfl Try.underlying3 rfl rfl rfl rfl)) ?_
            refine rg_put (d := 43) (v := .d (.fl (.int .i64 (((am l s k) - (ix l k).cents))))) rfl (og rfl (op_bin rfl rfl rfl (fun x y w => b_sub64 _ _ _ x y w (by omega)) rfl)) ?_
            refine rg_put (d := 5) (v := .d (.fl (.int .i64 (((am l s k) - (ix l k).cents))))) rfl (og rfl (op_assign rfl rfl rfl)) ?_
            refine rg_done rfl ?_
            show A _ _ _ _ _ _ _
            refine a_region ?_
            refine rg_put (d := 11) (v := .d (.fl (.int .i64 (k : Int)))) rfl (og rfl (op_move rfl rfl rfl)) ?_
            refine rg_put (d := 12) (v := .d (.fl (.int .i64 (((k : Int) + 1))))) rfl (og rfl (op_bin rfl rfl rfl (fun x y w => b_add64 _ _ _ x y w (by omega)) rfl)) ?_
            refine rg_put (d := 6) (v := .d (.fl (.int .i64 (((k : Int) + 1))))) rfl (og rfl (op_assign rfl rfl rfl)) ?_
            refine rg_done rfl ?_
            have hst : ((am l s k) - (ix l k).cents) = am l s (k + 1) := by rw [am_y h5]; unfold chg; rw [if_neg (by omega), if_pos (by omega)]
            show ∃ i, _ ∧ _ ∧ Imp _ _ _ _ _
            refine ⟨k + 1, (by omega), by omega, imp_forget rfl ⟨rfl, rfl, rfl, (by first | rfl | exact ci (by omega)), (ci hst), trivial⟩ trivial⟩
          · skip
            have h14 := f_beq h12
            refine a_rseq ?_
            refine rg_put (d := 45) (v := .d (.fl (.bool (((ix l k).kind == 3))))) rfl (og rfl (op_bin rfl rfl rfl (b_eql _ _ _ _) rfl)) ?_
            refine rg_put (d := 44) (v := .d (.fl (.bool (((ix l k).kind == 3))))) rfl (og rfl (op_assign rfl rfl rfl)) ?_
            refine rg_done rfl ?_
            refine a_cond rfl (fun h15 => ?_) (fun h15 => ?_)
            · skip
              have h16 := t_beq h15
              refine a_region ?_
              refine rg_put (d := 5) (v := .d (.fl (.int .i64 0))) rfl (og rfl (op_assign rfl rfl rfl)) ?_
              refine rg_done rfl ?_
              show A _ _ _ _ _ _ _
              refine a_region ?_
              refine rg_put (d := 11) (v := .d (.fl (.int .i64 (k : Int)))) rfl (og rfl (op_move rfl rfl rfl)) ?_
              refine rg_put (d := 12) (v := .d (.fl (.int .i64 (((k : Int) + 1))))) rfl (og rfl (op_bin rfl rfl rfl (fun x y w => b_add64 _ _ _ x y w (by omega)) rfl)) ?_
              refine rg_put (d := 6) (v := .d (.fl (.int .i64 (((k : Int) + 1))))) rfl (og rfl (op_assign rfl rfl rfl)) ?_
              refine rg_done rfl ?_
              have hst : 0 = am l s (k + 1) := by rw [am_y h5]; unfold chg; rw [if_neg (by omega), if_neg (by omega), if_pos (by omega)]
              show ∃ i, _ ∧ _ ∧ Imp _ _ _ _ _
              refine ⟨k + 1, (by omega), by omega, imp_forget rfl ⟨rfl, rfl, rfl, (by first | rfl | exact ci (by omega)), (ci hst), trivial⟩ trivial⟩
            · skip
              have h17 := f_beq h15
              refine a_skip ?_
              show A _ _ _ _ _ _ _
              refine a_region ?_
              refine rg_put (d := 11) (v := .d (.fl (.int .i64 (k : Int)))) rfl (og rfl (op_move rfl rfl rfl)) ?_
              refine rg_put (d := 12) (v := .d (.fl (.int .i64 (((k : Int) + 1))))) rfl (og rfl (op_bin rfl rfl rfl (fun x y w => b_add64 _ _ _ x y w (by omega)) rfl)) ?_
              refine rg_put (d := 6) (v := .d (.fl (.int .i64 (((k : Int) + 1))))) rfl (og rfl (op_assign rfl rfl rfl)) ?_
              refine rg_done rfl ?_
              have hst : (am l s k) = am l s (k + 1) := by rw [am_y h5]; unfold chg; rw [if_neg (by omega), if_neg (by omega), if_neg (by omega)]
              show ∃ i, _ ∧ _ ∧ Imp _ _ _ _ _
              refine ⟨k + 1, (by omega), by omega, imp_forget rfl ⟨rfl, rfl, rfl, (by first | rfl | exact ci (by omega)), (ci hst), trivial⟩ trivial⟩
  · skip
    have h18 := f_dec h1
    refine a_exit ?_
    show A _ _ _ _ _ _ _
    refine a_rseq ?_
    refine rg_put (d := 46) (v := .d (.fl (.int .i64 (am l s k)))) rfl (og rfl (op_move rfl rfl rfl)) ?_
    refine rg_put (d := 4) (v := .d (.fl (.int .i64 (am l s k)))) rfl (og rfl (op_assign rfl rfl rfl)) ?_
    refine rg_done rfl ?_
    refine a_ret ?_
    show ∃ ds, ResL _ _ _ ds ∧ RV.of ds = _
    refine ⟨[.fl (.int .i64 (am l s k))], (.cons (.tmp rfl (.d _)) .nil), ?_⟩
    rw [show l.length = k from by omega]; rfl
end Go.Proofs.Ytobgdemhadlgnaa.Wk
