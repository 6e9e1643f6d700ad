/- Sources in their order, both sides. Conditions: as each theorem names them. -/
import Derived.Test.YtmngepmckghcpaaGreatDoorLaid
import Derived.Shelf.SlSortCmp.NoneTotal
import Derived.Test.YtmngepmckghcpaaGreatDoorAvS
import Derived.Test.YtmngepmckghcpaaGreatDoorAvW
import Derived.Test.YtmngepmckghcpaaGreatDoorTy
set_option linter.unusedSimpArgs false
set_option linter.unusedVariables false
namespace Go.Proofs.YtmngepmckghcpaaGreatDoor.Wk
open Go Go.RowKit Go.Sort Go.Shelf Go.Lib Go.Proofs.YtmngepmckghcpaaGreatDoor.Av
theorem ne_self_b (a : Int) : (a != a) = false := by simp
theorem sEq_eq {a b : ByteArray} (h : sEq a b = true) : a = b := of_decide_eq_true h
theorem sEq_of {a b : ByteArray} (h : a = b) : sEq a b = true := decide_eq_true h
theorem nb {b : Bool} (h : ¬ b = true) : b = false := by cases b <;> simp at h ⊢
theorem nnb {b : Bool} (h : ¬ (!b) = true) : b = true := by cases b <;> simp at h ⊢

theorem ix_eq {α : Type} [Inhabited α] {l : List α} {i : Nat} (h : i < l.length) : l[i] = ix l i := by
  have := ix_get h
  rw [List.getElem?_eq_getElem h] at this
  injection this
theorem ix_mem {α : Type} [Inhabited α] {l : List α} {k : Nat} (h : k < l.length) : ix l k ∈ l := by rw [← ix_eq h]; exact List.getElem_mem h
theorem mem_ix {α : Type} [Inhabited α] {l : List α} {x : α} (h : x ∈ l) : ∃ k, k < l.length ∧ ix l k = x := by
  obtain ⟨j, hj, he⟩ := List.mem_iff_getElem.1 h
  exact ⟨j, hj, by rw [← ix_eq hj]; exact he⟩
theorem fnd_no {α : Type} [Inhabited α] {p : α → Bool} {l : List α} (h : ∀ q, q < l.length → p (ix l q) = false) : l.find? p = none := by
  rw [List.find?_eq_none]
  intro x hx
  obtain ⟨k, hk, he⟩ := mem_ix hx
  rw [← he, h k hk]; simp
theorem fnd_at {α : Type} [Inhabited α] {p : α → Bool} {l : List α} {k : Nat} (hk : k < l.length) (h : ∀ q, q < k → p (ix l q) = false) (hp : p (ix l k) = true) : l.find? p = some (ix l k) := by
  rw [List.find?_eq_some_iff_getElem]
  refine ⟨hp, k, hk, ix_eq hk, fun j hj => ?_⟩
  rw [ix_eq (by omega), h j hj]; rfl
theorem any_at {α : Type} [Inhabited α] {p : α → Bool} {l : List α} {k : Nat} (hk : k < l.length) (hp : p (ix l k) = true) : l.any p = true := by
  rw [List.any_eq_true]; exact ⟨_, ix_mem hk, hp⟩
theorem any_no {α : Type} [Inhabited α] {p : α → Bool} {l : List α} (h : ∀ q, q < l.length → p (ix l q) = false) : l.any p = false := by
  rw [List.any_eq_false]
  intro x hx
  obtain ⟨k, hk, he⟩ := mem_ix hx
  rw [← he, h k hk]; simp
theorem all_no {α : Type} [Inhabited α] {p : α → Bool} {l : List α} {k : Nat} (hk : k < l.length) (h : p (ix l k) = false) : l.all p = false := by
  rw [List.all_eq_false]; exact ⟨_, ix_mem hk, by rw [h]; simp⟩
theorem all_yes {α : Type} [Inhabited α] {p : α → Bool} {l : List α} (h : ∀ q, q < l.length → p (ix l q) = true) : l.all p = true := by
  rw [List.all_eq_true]
  intro x hx
  obtain ⟨k, hk, he⟩ := mem_ix hx
  rw [← he]; exact h k hk

theorem less_at : ∀ (x y : List UInt8) (k : Nat), k < x.length → k < y.length → (∀ q, q < k → x.getD q 0 = y.getD q 0) → x.getD k 0 ≠ y.getD k 0 → Op.bytesLess x y = decide (x.getD k 0 < y.getD k 0)
  | [], _, _, h, _, _, _ => by simp at h
  | _ :: _, [], _, _, h, _, _ => by simp at h
  | a :: x, b :: y, 0, _, _, _, h => by
    have h' : a ≠ b := by simpa using h
    simp [Op.bytesLess, h']
  | a :: x, b :: y, k + 1, h1, h2, h3, h4 => by
    have e : a = b := by simpa using h3 0 (by omega)
    subst e
    have ih := less_at x y k (by simpa using h1) (by simpa using h2) (fun q hq => by simpa using h3 (q + 1) (by omega)) (by simpa using h4)
    simp [Op.bytesLess, ih, UInt8.lt_irrefl]
theorem less_end : ∀ (x y : List UInt8), (∀ q, q < x.length → q < y.length → x.getD q 0 = y.getD q 0) → Op.bytesLess x y = decide (x.length < y.length)
  | [], [], _ => by simp [Op.bytesLess]
  | [], _ :: _, _ => by simp [Op.bytesLess]
  | _ :: _, [], _ => by simp [Op.bytesLess]
  | a :: x, b :: y, h => by
    have e : a = b := by simpa using h 0 (by simp) (by simp)
    subst e
    have ih := less_end x y (fun q h1 h2 => by simpa using h (q + 1) (by simpa using h1) (by simpa using h2))
    simp [Op.bytesLess, ih, UInt8.lt_irrefl]
theorem dlen (s : ByteArray) : s.data.toList.length = s.size := by simp
theorem bef_at {a b : ByteArray} {k : Nat} (h1 : k < a.size) (h2 : k < b.size) (hq : ∀ q, q < k → bt a q = bt b q) (h : bt a k ≠ bt b k) : sLt a b = decide (((bt a k).toNat : Int) < ((bt b k).toNat : Int)) := by
  unfold sLt
  rw [ByteArray.toList_eq, ByteArray.toList_eq, less_at a.data.toList b.data.toList k (by rw [dlen]; exact h1) (by rw [dlen]; exact h2) hq h]
  show decide (bt a k < bt b k) = _
  rw [decide_eq_decide, UInt8.lt_iff_toNat_lt]
  omega
theorem bef_end {a b : ByteArray} {k : Nat} (h : ¬ (k < a.size ∧ k < b.size)) (hq : ∀ q, q < k → bt a q = bt b q) : sLt a b = decide ((a.size : Int) < (b.size : Int)) := by
  unfold sLt
  rw [ByteArray.toList_eq, ByteArray.toList_eq, less_end a.data.toList b.data.toList (fun q h1 h2 => hq q (by rw [dlen] at h1 h2; omega)), dlen, dlen, decide_eq_decide]
  omega
theorem sLt_self (s : ByteArray) : sLt s s = false := by
  rw [bef_end (a := s) (b := s) (k := s.size) (by omega) (fun _ _ => rfl)]
  simp
theorem sLt_ne {s u : ByteArray} (h : sLt s u = true) : sEq s u = false := by
  cases he : sEq s u with
  | false => rfl
  | true => rw [of_decide_eq_true (show decide (s = u) = true from he), sLt_self] at h; cases h
def ic (a b : Int) : Int := bif decide (a < b) then -1 else bif decide (b < a) then 1 else 0
def sc (s u : ByteArray) : Int := bif sEq s u then 0 else bif sLt s u then -1 else 1
theorem sc_lt {s u : ByteArray} (h : sLt s u = true) : sc s u = -1 := by unfold sc; rw [sLt_ne h, h]; rfl
theorem sc_gt {s u : ByteArray} (h : sLt s u = false) (h2 : (sLt s u || sEq s u) = false) : sc s u = 1 := by
  rw [h, Bool.false_or] at h2
  unfold sc; rw [h2, h]; rfl
theorem sc_eq {s u : ByteArray} (h : sLt s u = false) (h2 : (sLt s u || sEq s u) = true) : sc s u = 0 := by
  rw [h, Bool.false_or] at h2
  unfold sc; rw [h2]; rfl
def fz : List Int → Int
  | [] => 0
  | x :: l => bif x != 0 then x else fz l
theorem fz_at : ∀ {l : List Int} {k : Nat}, k < l.length → (∀ q, q < k → ix l q = 0) → ix l k ≠ 0 → fz l = ix l k
  | [], _, h, _, _ => by simp at h
  | x :: l, 0, _, _, h => by
    have h' : x ≠ 0 := h
    show (bif x != 0 then x else fz l) = x
    rw [show (x != 0) = true by simpa using h']; rfl
  | x :: l, k + 1, h1, h2, h3 => by
    have h' : x = 0 := h2 0 (by omega)
    show (bif x != 0 then x else fz l) = ix l k
    rw [show (x != 0) = false by simpa using h', cond_false]
    exact fz_at (by simpa using h1) (fun q hq => h2 (q + 1) (by omega)) h3
theorem fz_no : ∀ {l : List Int}, (∀ q, q < l.length → ix l q = 0) → fz l = 0
  | [], _ => rfl
  | x :: l, h => by
    have h' : x = 0 := h 0 (by simp)
    show (bif x != 0 then x else fz l) = 0
    rw [show (x != 0) = false by simpa using h', cond_false]
    exact fz_no (fun q hq => h (q + 1) (by simpa using hq))

theorem less_anti : ∀ (x y : List UInt8), Op.bytesLess x y = true → Op.bytesLess y x = false
  | [], [], h => by simp [Op.bytesLess] at h
  | [], _ :: _, _ => by simp [Op.bytesLess]
  | _ :: _, [], h => by simp [Op.bytesLess] at h
  | a :: x, b :: y, h => by
    simp only [Op.bytesLess, Bool.or_eq_true, decide_eq_true_eq, Bool.and_eq_true, beq_iff_eq] at h
    simp only [Op.bytesLess, Bool.or_eq_false_iff, decide_eq_false_iff_not, Bool.and_eq_false_iff]
    rcases h with h | ⟨rfl, h⟩
    · refine ⟨fun h2 => UInt8.lt_irrefl a (UInt8.lt_trans h h2), .inl ?_⟩
      simp only [beq_eq_false_iff_ne]
      intro e; subst e; exact UInt8.lt_irrefl _ h
    · exact ⟨UInt8.lt_irrefl a, .inr (less_anti x y h)⟩
theorem less_tot : ∀ (x y : List UInt8), Op.bytesLess x y = false → x ≠ y → Op.bytesLess y x = true
  | [], [], _, h => absurd rfl h
  | [], _ :: _, h, _ => by simp [Op.bytesLess] at h
  | _ :: _, [], _, _ => by simp [Op.bytesLess]
  | a :: x, b :: y, h, hn => by
    simp only [Op.bytesLess, Bool.or_eq_false_iff, decide_eq_false_iff_not, Bool.and_eq_false_iff] at h
    simp only [Op.bytesLess, Bool.or_eq_true, decide_eq_true_eq, Bool.and_eq_true, beq_iff_eq]
    by_cases e : a = b
    · subst e
      refine .inr ⟨rfl, less_tot x y ?_ (fun e => hn (by rw [e]))⟩
      rcases h.2 with h2 | h2
      · simp at h2
      · exact h2
    · left
      rcases UInt8.lt_or_lt_of_ne e with h2 | h2
      · exact absurd h2 h.1
      · exact h2
theorem less_tr : ∀ (x y z : List UInt8), Op.bytesLess x y = true → Op.bytesLess y z = true → Op.bytesLess x z = true
  | _, [], _, h, _ => by cases ‹List UInt8› <;> simp [Op.bytesLess] at h
  | _, _ :: _, [], _, h => by simp [Op.bytesLess] at h
  | [], _ :: _, _ :: _, _, _ => by simp [Op.bytesLess]
  | a :: x, b :: y, c :: z, h1, h2 => by
    simp only [Op.bytesLess, Bool.or_eq_true, decide_eq_true_eq, Bool.and_eq_true, beq_iff_eq] at h1 h2 ⊢
    rcases h1 with h1 | ⟨rfl, h1⟩
    · rcases h2 with h2 | ⟨rfl, h2⟩
      · exact .inl (UInt8.lt_trans h1 h2)
      · exact .inl h1
    · rcases h2 with h2 | ⟨rfl, h2⟩
      · exact .inl h2
      · exact .inr ⟨rfl, less_tr x y z h1 h2⟩
theorem sEq_t {s u : ByteArray} (h : sEq s u = true) : s = u := of_decide_eq_true h
theorem sEq_f {s u : ByteArray} (h : sEq s u = false) : s.toList ≠ u.toList := fun e => by
  have := toList_sEq s u
  rw [e] at this
  rw [h] at this; simp at this
theorem sEq_sym (s u : ByteArray) : sEq s u = sEq u s := by
  unfold sEq; rw [decide_eq_decide]; exact eq_comm
theorem sLt_anti {s u : ByteArray} (h : sLt s u = true) : sLt u s = false := less_anti _ _ h
theorem sLt_tot {s u : ByteArray} (h : sLt s u = false) (h2 : sEq s u = false) : sLt u s = true := less_tot _ _ h (sEq_f h2)
theorem sc_cases (s u : ByteArray) : (sc s u = 0 ∧ s = u) ∨ (sc s u = -1 ∧ sLt s u = true ∧ s ≠ u) ∨ (sc s u = 1 ∧ sLt u s = true ∧ s ≠ u) := by
  unfold sc
  cases h : sEq s u with
  | true => exact .inl ⟨rfl, sEq_t h⟩
  | false =>
    have hn : s ≠ u := fun e => by rw [e] at h; unfold sEq at h; simp at h
    cases h2 : sLt s u with
    | true => exact .inr (.inl ⟨rfl, rfl, hn⟩)
    | false => exact .inr (.inr ⟨rfl, sLt_tot h2 h, hn⟩)
def Neg (x y : Int) : Prop := x = -y
def Tq (x y z : Int) : Prop := x ≤ 0 → y ≤ 0 → z ≤ 0 ∧ (z < 0 ↔ x < 0 ∨ y < 0)
theorem sc_neg (s u : ByteArray) : sc s u = -(sc u s) := by
  rcases sc_cases s u with ⟨h, e⟩ | ⟨h, l, n⟩ | ⟨h, l, n⟩ <;> rcases sc_cases u s with ⟨h', e'⟩ | ⟨h', l', n'⟩ | ⟨h', l', n'⟩ <;> rw [h, h'] <;>
    first
      | rfl
      | exact absurd e'.symm n
      | exact absurd e.symm n'
      | (have := sLt_anti l; rw [l'] at this; cases this)
theorem sc_tq (s u v : ByteArray) : Tq (sc s u) (sc u v) (sc s v) := by
  intro h1 h2
  rcases sc_cases s u with ⟨h, e⟩ | ⟨h, l, n⟩ | ⟨h, l, n⟩
  · rw [e] at h ⊢
    rw [h]; omega
  · rcases sc_cases u v with ⟨h', e'⟩ | ⟨h', l', n'⟩ | ⟨h', l', n'⟩
    · subst e'
      rw [h', h]; omega
    · have hl : sLt s v = true := less_tr _ _ _ l l'
      rw [sc_lt hl, h, h']; omega
    · omega
  · omega
theorem ic_neg (a b : Int) : ic a b = -(ic b a) := by
  unfold ic
  cases h : decide (a < b) <;> cases h2 : decide (b < a) <;> simp at h h2 ⊢ <;> omega
theorem ic_val (a b : Int) : (a < b ∧ ic a b = -1) ∨ (a = b ∧ ic a b = 0) ∨ (b < a ∧ ic a b = 1) := by
  unfold ic
  cases h : decide (a < b) <;> cases h2 : decide (b < a) <;> simp at h h2 ⊢ <;> omega
theorem ic_tq (a b c : Int) : Tq (ic a b) (ic b c) (ic a c) := by
  intro h1 h2
  have := ic_val a b
  have := ic_val b c
  have := ic_val a c
  omega
theorem fz_neg : ∀ {l m : List Int}, l = m.map (fun x => -x) → fz l = -(fz m)
  | [], [], _ => rfl
  | [], _ :: _, h => by cases h
  | _ :: _, [], h => by cases h
  | x :: l, y :: m, h => by
    simp only [List.map_cons, List.cons.injEq] at h
    have ih := fz_neg h.2
    have hx := h.1
    simp only [fz]
    cases h1 : (x != 0) <;> cases h2 : (y != 0) <;> simp at h1 h2 ⊢ <;> omega
inductive T3 : List Int → List Int → List Int → Prop
  | nil : T3 [] [] []
  | cons {x y z : Int} {l m n : List Int} (h : Tq x y z) (hs : T3 l m n) : T3 (x :: l) (y :: m) (z :: n)
theorem fz_tq {l m n : List Int} (h : T3 l m n) : Tq (fz l) (fz m) (fz n) := by
  induction h with
  | nil => intro _ _; simp [fz]
  | @cons x y z l m n h hs ih =>
    unfold Tq at *
    simp only [fz]
    cases h1 : (x != 0) <;> cases h2 : (y != 0) <;> cases h3 : (z != 0) <;> simp at h1 h2 h3 ⊢ <;> omega
theorem fz_zero : ∀ {l : List Int}, fz l = 0 ↔ ∀ x ∈ l, x = 0
  | [] => by simp [fz]
  | x :: l => by
    have ih := fz_zero (l := l)
    simp only [fz, List.mem_cons, forall_eq_or_imp]
    cases h1 : (x != 0) <;> simp at h1 ⊢
    · rw [ih]; simp [h1]
    · intro h; exact absurd h h1
theorem fz_in : ∀ {l : List Int}, (∀ x ∈ l, -1 ≤ x ∧ x ≤ 1) → -1 ≤ fz l ∧ fz l ≤ 1
  | [], _ => by simp [fz]
  | x :: l, h => by
    have h0 := h x (by simp)
    have ih := fz_in (l := l) (fun y hy => h y (by simp [hy]))
    simp only [fz]
    cases (x != 0) <;> simp <;> omega
theorem sc_in (s u : ByteArray) : -1 ≤ sc s u ∧ sc s u ≤ 1 := by rcases sc_cases s u with h | h | h <;> omega
theorem ic_in (a b : Int) : -1 ≤ ic a b ∧ ic a b ≤ 1 := by have := ic_val a b; omega

theorem swo_of {α : Type} {c : α → α → Int} (hn : ∀ x y, c x y = -(c y x)) (ht : ∀ x y z, Tq (c x y) (c y z) (c x z)) : Go.Sort.SWO (ltOf c) where
  irrefl x := by have := hn x x; unfold ltOf; exact decide_eq_false (by omega)
  trans x y z h1 h2 := by
    unfold ltOf at *
    simp only [decide_eq_true_eq] at *
    have := ht x y z (by omega) (by omega)
    omega
  ntrans x y z h1 h2 := by
    unfold ltOf at *
    simp only [decide_eq_false_iff_not] at *
    have h3 := hn x y
    have h4 := hn y z
    have h5 := hn x z
    have := ht z y x (by omega) (by omega)
    omega
theorem le_of_sorted {α : Type} {c : α → α → Int} (hn : ∀ x y, c x y = -(c y x)) {x y : α} (h : ltOf c y x = false) : c x y ≤ 0 := by
  unfold ltOf at h
  simp only [decide_eq_false_iff_not] at h
  have := hn x y
  omega

def cpl (a b : Srx) : List Int := [sc a.dev b.dev, ic a.seq b.seq]
def cp (a b : Srx) : Int := fz (cpl a b)
theorem cp_neg (a b : Srx) : cp a b = -(cp b a) := fz_neg (by
  unfold cpl
  simp only [List.map_cons, List.map_nil]
  rw [sc_neg a.dev, ic_neg a.seq])
theorem cp_tq (a b c : Srx) : Tq (cp a b) (cp b c) (cp a c) := fz_tq (.cons (sc_tq _ _ _) (.cons (ic_tq _ _ _) .nil))
theorem cp_0 {a b : Srx} (h : cp a b = 0) : a = b := by
  have hz := fz_zero.1 h
  have T : ∀ {s u : ByteArray}, sc s u = 0 → s = u := fun {s u} h => by rcases sc_cases s u with q | q | q <;> first | exact q.2 | omega
  have I : ∀ {x y : Int}, ic x y = 0 → x = y := fun {x y} h => by have := ic_val x y; omega
  have e1 := T (hz (sc a.dev b.dev) (by simp [cpl]))
  have e2 := I (hz (ic a.seq b.seq) (by simp [cpl]))
  cases a; cases b; simp at e1 e2; subst e1 e2; rfl
theorem cp_self (a : Srx) : cp a a = 0 := by have := cp_neg a a; omega
theorem cp_tr {a b c : Srx} (h1 : cp a b < 0) (h2 : cp b c < 0) : cp a c < 0 := ((cp_tq a b c (by omega) (by omega)).2).2 (.inl h1)
def eP (a b : Srx) : Bool := sEq a.dev b.dev && (a.seq == b.seq)
theorem eP_eq {a b : Srx} (h : eP a b = true) : a = b := by
  unfold eP at h
  simp only [Bool.and_eq_true, beq_iff_eq] at h
  obtain ⟨h2, h5⟩ := h
  have g2 := sEq_eq h2
  clear h2
  cases a; cases b; simp at g2 h5; subst g2 h5; rfl
theorem eP_cp (a b : Srx) : eP a b = (cp a b == 0) := by
  rw [Bool.eq_iff_iff]
  constructor
  · intro h
    rw [eP_eq h, cp_self]; rfl
  · intro h
    have : a = b := cp_0 (by simpa using h)
    rw [this]; simp [eP, sEq]
def lb (y x : Srx) : Bool := sLt y.dev x.dev || (sEq y.dev x.dev && decide (y.seq ≤ x.seq))
theorem lb_cp (y x : Srx) : lb y x = decide (cp y x ≤ 0) := by
  have hc : cp y x = bif sc y.dev x.dev != 0 then sc y.dev x.dev else bif ic y.seq x.seq != 0 then ic y.seq x.seq else 0 := rfl
  rw [hc]
  unfold lb
  rcases sc_cases y.dev x.dev with ⟨h, e⟩ | ⟨h, l, n⟩ | ⟨h, l, n⟩
  · rw [h, e, sLt_self]
    have hi := ic_val y.seq x.seq
    rcases hi with ⟨a, b⟩ | ⟨a, b⟩ | ⟨a, b⟩ <;> rw [b] <;> simp [sEq] <;> omega
  · rw [h, l]; rfl
  · rw [h]
    have h1 : sLt y.dev x.dev = false := sLt_anti l
    have h2 : sEq y.dev x.dev = false := by simp [sEq, n]
    rw [h1, h2]; rfl
theorem eqG23 (a b : Srx) (w : World) : (Op.equalIn 10000 32 (.agg (([.string a.dev, .int .i64 a.seq] : List Value).toArray)) (.agg (([.string b.dev, .int .i64 b.seq] : List Value).toArray))).run Tryz.prog w = .ok (eP a b) w := by
  have hS : Tryz.prog.underlying 32 = some (.struct (Tryz.prog.fieldsOf 32)) := by kernel_rfl
  have hp : Tryz.prog.stoodInHeld 32 = false := by kernel_rfl
  unfold eP
  rw [show (10000 : Nat) = 9999 + 1 from rfl, run_equalIn_agg w 9999 32 _ _ hS hp]
  simp only [Program.fieldsOf, Tryz.underlying32]
  simp only [← toList_sEq]
  by_cases h1 : a.dev.toList == b.dev.toList <;> by_cases h2 : a.seq == b.seq <;> simp only [h1, h2] <;> go_simp
theorem eqlC (a b : Srx) (x y : Operand) (w : World) : (do eqGuard .eql 32 x y (.agg (([.string a.dev, .int .i64 a.seq] : List Value).toArray)) (.agg (([.string b.dev, .int .i64 b.seq] : List Value).toArray)); binOp .eql 32 (.agg (([.string a.dev, .int .i64 a.seq] : List Value).toArray)) (.agg (([.string b.dev, .int .i64 b.seq] : List Value).toArray)) : Sem Value).run Tryz.prog w = .ok (.bool (cp a b == 0)) w := by
  have hm : Tryz.prog.eqGuardType Tryz.prog.depth 32 = false := by kernel_rfl
  rw [Sem.run_bind, run_eqGuard_agg w .eql 32 x y _ _ hm, Result.andThen_ok, run_eql_struct, eqG23, eP_cp]
  rfl
theorem neqC (a b : Srx) (x y : Operand) (w : World) : (do eqGuard .neq 32 x y (.agg (([.string a.dev, .int .i64 a.seq] : List Value).toArray)) (.agg (([.string b.dev, .int .i64 b.seq] : List Value).toArray)); binOp .neq 32 (.agg (([.string a.dev, .int .i64 a.seq] : List Value).toArray)) (.agg (([.string b.dev, .int .i64 b.seq] : List Value).toArray)) : Sem Value).run Tryz.prog w = .ok (.bool (!(cp a b == 0))) w := by
  have hm : Tryz.prog.eqGuardType Tryz.prog.depth 32 = false := by kernel_rfl
  rw [Sem.run_bind, run_eqGuard_agg w .neq 32 x y _ _ hm, Result.andThen_ok, run_neq_struct, eqG23, eP_cp]
  rfl

theorem perm_uniq {α : Type} {r : α → α → Prop} (ha : ∀ x y, r x y → r y x → x = y) : ∀ {l m : List α}, l.Perm m → l.Pairwise r → m.Pairwise r → l = m
  | [], m, h, _, _ => (List.Perm.nil_eq h)
  | x :: l, [], h, _, _ => by have := h.length_eq; simp at this
  | x :: l, y :: m, h, h1, h2 => by
    rw [List.pairwise_cons] at h1 h2
    have e : x = y := by
      have hx : x ∈ y :: m := h.subset (by simp)
      have hy : y ∈ x :: l := h.symm.subset (by simp)
      rcases List.mem_cons.1 hx with e | hx
      · exact e
      · rcases List.mem_cons.1 hy with e | hy
        · exact e.symm
        · exact ha _ _ (h1.1 y hy) (h2.1 x hx)
    subst e
    rw [perm_uniq ha (List.Perm.cons_inv h) h1.2 h2.2]
def leP (x y : Srx) : Bool := decide (cp x y ≤ 0)
noncomputable def srt (l : List Srx) : List Srx := l.mergeSort leP
theorem leP_tr (a b c : Srx) (h1 : leP a b = true) (h2 : leP b c = true) : leP a c = true := by
  unfold leP at *
  simp only [decide_eq_true_eq] at *
  exact (cp_tq a b c h1 h2).1
theorem leP_tot (a b : Srx) : (leP a b || leP b a) = true := by
  unfold leP
  have := cp_neg a b
  simp only [Bool.or_eq_true, decide_eq_true_eq]; omega
theorem srt_perm (l : List Srx) : (srt l).Perm l := List.mergeSort_perm l leP
theorem srt_pw (l : List Srx) : (srt l).Pairwise (fun x y => cp x y ≤ 0) := by
  have := List.pairwise_mergeSort leP_tr leP_tot l
  exact this.imp (fun h => by unfold leP at h; simpa using h)
theorem srt_eq {l l' : List Srx} (hp : l'.Perm l) (hs : l'.Pairwise (fun x y => cp x y ≤ 0)) : l' = srt l :=
  perm_uniq (fun x y h1 h2 => cp_0 (by have := cp_neg x y; omega)) (hp.trans (srt_perm l).symm) hs (srt_pw l)
theorem srt_len (l : List Srx) : (srt l).length = l.length := (srt_perm l).length_eq

def dd (l : List Srx) : Nat → List Srx
  | 0 => []
  | n + 1 => bif decide (n = 0) || !(cp (ix l n) (ix l (n - 1)) == 0) then dd l n ++ [ix l n] else dd l n
def rwD (l : List Srx) (n : Nat) : List Srx := dd l n ++ l.drop (dd l n).length
theorem dd_new {l : List Srx} {n : Nat} (h : n = 0 ∨ (cp (ix l n) (ix l (n - 1)) == 0) = false) : dd l (n + 1) = dd l n ++ [ix l n] := by
  have : (decide (n = 0) || !(cp (ix l n) (ix l (n - 1)) == 0)) = true := by
    rcases h with h | h
    · rw [decide_eq_true h, Bool.true_or]
    · rw [h]; simp
  simp only [dd, this, cond_true]
theorem dd_old {l : List Srx} {n : Nat} (h0 : n ≠ 0) (h : (cp (ix l n) (ix l (n - 1)) == 0) = true) : dd l (n + 1) = dd l n := by
  have : (decide (n = 0) || !(cp (ix l n) (ix l (n - 1)) == 0)) = false := by rw [h, decide_eq_false h0]; rfl
  simp only [dd, this, cond_false]
theorem dd_len (l : List Srx) : ∀ n, (dd l n).length ≤ n
  | 0 => by simp [dd]
  | n + 1 => by
    have := dd_len l n
    simp only [dd]
    cases (decide (n = 0) || !(cp (ix l n) (ix l (n - 1)) == 0)) <;> simp only [cond_true, cond_false, List.length_append, List.length_singleton] <;> omega
theorem dd_pos (l : List Srx) : ∀ n, 0 < n → 0 < (dd l n).length
  | 0, h => by omega
  | 1, _ => by rw [dd_new (.inl rfl)]; simp
  | n + 2, _ => by
    have := dd_pos l (n + 1) (by omega)
    cases hb : (cp (ix l (n + 1)) (ix l (n + 1 - 1)) == 0) with
    | true => rw [dd_old (by omega) hb]; exact this
    | false => rw [dd_new (.inr hb), List.length_append]; omega
theorem dd_all {l : List Srx} : ∀ n, n ≤ l.length → (∀ q, 1 ≤ q → q < n → (cp (ix l q) (ix l (q - 1)) == 0) = false) → dd l n = l.take n
  | 0, _, _ => by simp [dd]
  | n + 1, h, hq => by
    have ih := dd_all n (by omega) (fun q h1 h2 => hq q h1 (by omega))
    rw [dd_new (by rcases Nat.eq_zero_or_pos n with h | h; exact .inl h; exact .inr (hq n h (by omega))), ih, take_ix (by omega)]
theorem rwD_len {l : List Srx} {n : Nat} (h : n ≤ l.length) : (rwD l n).length = l.length := by
  have := dd_len l n
  unfold rwD
  rw [List.length_append, List.length_drop]; omega
theorem ix_app {α : Type} [Inhabited α] {l m : List α} {q : Nat} (h : l.length ≤ q) : ix (l ++ m) q = ix m (q - l.length) := by
  unfold ix
  rw [List.getD_eq_getElem?_getD, List.getD_eq_getElem?_getD, List.getElem?_append_right h]
theorem ix_drop {α : Type} [Inhabited α] (l : List α) (k q : Nat) : ix (l.drop k) q = ix l (k + q) := by unfold ix; rw [List.getD_eq_getElem?_getD, List.getD_eq_getElem?_getD, List.getElem?_drop]
theorem rwD_ix {l : List Srx} {n q : Nat} (h : (dd l n).length ≤ q) : ix (rwD l n) q = ix l q := by
  unfold rwD
  rw [ix_app h, ix_drop]; congr 1; omega
theorem rwD_mem {l : List Srx} {n q : Nat} (h : n ≤ l.length) (hq : q < l.length) (hd : ∀ x ∈ dd l n, x ∈ l) : ix (rwD l n) q ∈ l := by
  have h1 : ix (rwD l n) q ∈ rwD l n := ix_mem (by rw [rwD_len h]; exact hq)
  unfold rwD at h1
  rcases List.mem_append.1 h1 with h1 | h1
  · unfold rwD; exact hd _ h1
  · unfold rwD; exact List.mem_of_mem_drop h1
theorem dd_sub {l : List Srx} : ∀ n, n ≤ l.length → ∀ x ∈ dd l n, x ∈ l
  | 0, _, x, hx => by simp [dd] at hx
  | n + 1, h, x, hx => by
    have ih := dd_sub (l := l) n (by omega) x
    simp only [dd] at hx
    cases hb : (decide (n = 0) || !(cp (ix l n) (ix l (n - 1)) == 0)) with
    | true =>
      rw [hb, cond_true] at hx
      rcases List.mem_append.1 hx with hx | hx
      · exact ih hx
      · rw [List.mem_singleton] at hx; rw [hx]; exact ix_mem (by omega)
    | false => rw [hb, cond_false] at hx; exact ih hx
theorem rwD_start {l : List Srx} {k : Nat} (h0 : 1 ≤ k) (hk : k < l.length) (hq : ∀ q, 1 ≤ q → q < k → (cp (ix l q) (ix l (q - 1)) == 0) = false) (h : (cp (ix l k) (ix l (k - 1)) == 0) = true) : rwD l (k + 1) = l ∧ (dd l (k + 1)).length = k := by
  have e : dd l (k + 1) = l.take k := (dd_old (by omega) h).trans (dd_all k (by omega) hq)
  have el : (l.take k).length = k := by rw [List.length_take]; omega
  unfold rwD
  rw [e, el, List.take_append_drop]; exact ⟨rfl, rfl⟩
theorem tD_set {α : Type} {e : α → List DV} {l : List α} {k : Nat} {x : α} {y : List OC} (hy : y = (e x).map OC.dv) : (tD e l).set k y = tD e (l.set k x) := by
  rw [hy]
  unfold tD
  rw [List.map_set, List.map_set]
theorem rwD_set {l : List Srx} {n : Nat} (hn : n < l.length) (hk : (dd l n).length < l.length) (h : (cp (ix l n) (ix l (n - 1)) == 0) = false) : (rwD l n).set (dd l n).length (ix l n) = rwD l (n + 1) := by
  unfold rwD
  rw [dd_new (.inr h), List.set_append_right _ _ (Nat.le_refl _), Nat.sub_self, List.drop_eq_getElem_cons hk, List.set_cons_zero, List.length_append, List.append_assoc]
  rfl
theorem rwD_end {l : List Srx} (n : Nat) : (rwD l n).take (dd l n).length = dd l n := by unfold rwD; rw [List.take_append, List.take_of_length_le (Nat.le_refl _), Nat.sub_self, List.take_zero, List.append_nil]

theorem dd_mem {l : List Srx} : ∀ n, n ≤ l.length → ∀ q, q < n → ix l q ∈ dd l n
  | 0, _, q, h => by omega
  | n + 1, h, q, hq => by
    have ih := dd_mem (l := l) n (by omega)
    cases hb : (decide (n = 0) || !(cp (ix l n) (ix l (n - 1)) == 0)) with
    | true =>
      simp only [dd, hb, cond_true]
      rcases Nat.lt_succ_iff_lt_or_eq.1 hq with e | e
      · exact List.mem_append_left _ (ih q e)
      · rw [e]; simp
    | false =>
      simp only [dd, hb, cond_false]
      rcases Nat.lt_succ_iff_lt_or_eq.1 hq with e | e
      · exact ih q e
      · simp only [Bool.or_eq_false_iff, decide_eq_false_iff_not, Bool.not_eq_false'] at hb
        have e2 : ix l n = ix l (n - 1) := cp_0 (by simpa using hb.2)
        have h0 := hb.1; rw [e, e2]; exact ih (n - 1) (by omega)
theorem dd_last {l : List Srx} : ∀ n, 0 < n → n ≤ l.length → ∃ r, dd l n = r ++ [ix l (n - 1)]
  | 0, h, _ => by omega
  | 1, _, _ => ⟨[], by rw [dd_new (.inl rfl)]; rfl⟩
  | n + 2, _, h => by
    obtain ⟨r, hr⟩ := dd_last (l := l) (n + 1) (by omega) (by omega)
    cases hb : (cp (ix l (n + 1)) (ix l (n + 1 - 1)) == 0) with
    | true =>
      have e : ix l (n + 1) = ix l (n + 1 - 1) := cp_0 (by simpa using hb)
      exact ⟨r, by rw [dd_old (by omega) hb, hr, show n + 2 - 1 = n + 1 from rfl, e]⟩
    | false => exact ⟨dd l (n + 1), by rw [dd_new (.inr hb)]; rfl⟩
/-- what is left of a sorted list ascends -/
theorem dd_asc {l : List Srx} (hs : l.Pairwise (fun x y => cp x y ≤ 0)) : ∀ n, n ≤ l.length → (dd l n).Pairwise (fun x y => cp x y < 0)
  | 0, _ => by simp [dd]
  | n + 1, h => by
    have ih := dd_asc hs n (by omega)
    by_cases h0 : n = 0
    · subst h0; rw [dd_new (.inl rfl)]; simp [dd]
    cases hb : (cp (ix l n) (ix l (n - 1)) == 0) with
    | true => rw [dd_old h0 hb]; exact ih
    | false =>
      rw [dd_new (.inr hb), List.pairwise_append]
      refine ⟨ih, List.pairwise_singleton _ _, fun a ha b hb' => ?_⟩
      rw [List.mem_singleton] at hb'
      subst hb'
      have hle : cp (ix l (n - 1)) (ix l n) ≤ 0 := by
        have := List.pairwise_iff_getElem.1 hs (n - 1) n (by omega) (by omega) (by omega)
        rwa [ix_eq (by omega), ix_eq (by omega)] at this
      have hne : cp (ix l n) (ix l (n - 1)) ≠ 0 := by simpa using hb
      have hlt : cp (ix l (n - 1)) (ix l n) < 0 := by have := cp_neg (ix l n) (ix l (n - 1)); omega
      obtain ⟨r, hr⟩ := dd_last (l := l) n (by omega) (by omega)
      rw [hr] at ha ih
      rcases List.mem_append.1 ha with ha | ha
      · have h1 : cp a (ix l (n - 1)) < 0 := (List.pairwise_append.1 ih).2.2 a ha _ (by simp)
        have h2 := cp_tq a (ix l (n - 1)) (ix l n) (by omega) hle
        have h3 := h2.1
        by_cases e : cp a (ix l n) = 0
        · have ea := cp_0 e
          rw [ea] at h1
          have := cp_neg (ix l n) (ix l (n - 1)); omega
        · omega
      · rw [List.mem_singleton] at ha; rw [ha]; exact hlt
noncomputable def dfl (l : List Srx) : List Srx := dd (srt l) (srt l).length
theorem dfl_mem {l : List Srx} {x : Srx} : x ∈ dfl l ↔ x ∈ l := by
  unfold dfl
  constructor
  · intro h; exact (srt_perm l).subset (dd_sub _ (Nat.le_refl _) x h)
  · intro h
    obtain ⟨q, hq, rfl⟩ := List.getElem_of_mem ((srt_perm l).symm.subset h)
    rw [ix_eq hq]; exact dd_mem _ (Nat.le_refl _) q hq
theorem dfl_asc (l : List Srx) : (dfl l).Pairwise (fun x y => cp x y < 0) := dd_asc (srt_pw l) _ (Nat.le_refl _)
theorem dfl_len (l : List Srx) : (dfl l).length ≤ l.length := by have := dd_len (srt l) (srt l).length; rw [srt_len] at this; unfold dfl; rw [srt_len]; exact this

theorem asc_uniq : ∀ {l m : List Srx}, l.Pairwise (fun x y => cp x y < 0) → m.Pairwise (fun x y => cp x y < 0) → (∀ x, x ∈ l ↔ x ∈ m) → l = m
  | [], [], _, _, _ => rfl
  | [], y :: m, _, _, h => absurd ((h y).2 (by simp)) (by simp)
  | x :: l, [], _, _, h => absurd ((h x).1 (by simp)) (by simp)
  | x :: l, y :: m, h1, h2, h => by
    rw [List.pairwise_cons] at h1 h2
    have e : x = y := by
      rcases List.mem_cons.1 ((h x).1 (by simp)) with e | hx
      · exact e
      · rcases List.mem_cons.1 ((h y).2 (by simp)) with e | hy
        · exact e.symm
        · have a := h1.1 y hy
          have b := h2.1 x hx
          have := cp_neg x y; omega
    subst e
    rw [asc_uniq h1.2 h2.2 (fun z => ?_)]
    constructor
    · intro hz
      rcases List.mem_cons.1 ((h z).1 (List.mem_cons_of_mem _ hz)) with e | q
      · have := h1.1 z hz; rw [e, cp_self] at this; omega
      · exact q
    · intro hz
      rcases List.mem_cons.1 ((h z).2 (List.mem_cons_of_mem _ hz)) with e | q
      · have := h2.1 z hz; rw [e, cp_self] at this; omega
      · exact q
def insD : List Srx → Srx → List Srx
  | [], x => [x]
  | y :: o, x => bif decide (cp y x < 0) then y :: insD o x else bif cp y x == 0 then y :: o else x :: y :: o
theorem insD_lt {y x : Srx} {o : List Srx} (h : cp y x < 0) : insD (y :: o) x = y :: insD o x := by simp only [insD, decide_eq_true h, cond_true]
theorem insD_eq {y x : Srx} {o : List Srx} (h : cp y x = 0) : insD (y :: o) x = y :: o := by simp only [insD, h]; rfl
theorem insD_gt {y x : Srx} {o : List Srx} (h : ¬ cp y x < 0) (h2 : cp y x ≠ 0) : insD (y :: o) x = x :: y :: o := by
  have e : (cp y x == 0) = false := by simpa using h2
  simp only [insD, decide_eq_false h, e, cond_false]
theorem insD_at : ∀ {o : List Srx} {x : Srx} {j : Nat}, j ≤ o.length → (∀ q, q < j → cp (ix o q) x < 0) → (j < o.length → ¬ cp (ix o j) x < 0) → insD o x = if j < o.length ∧ cp (ix o j) x = 0 then o else (((o.drop 0).take (j - 0)) ++ [x]) ++ o.drop j
  | [], x, j, h, _, _ => by
    have : j = 0 := by simpa using h
    subst this; simp [insD]
  | y :: o, x, 0, _, _, h => by
    have h : ¬ cp y x < 0 := h (by simp)
    by_cases e : cp y x = 0
    · rw [insD_eq e, if_pos ⟨by simp, e⟩]
    · rw [insD_gt h e, if_neg (fun q => e q.2)]; rfl
  | y :: o, x, j + 1, h1, h2, h3 => by
    have h0 : cp y x < 0 := h2 0 (by omega)
    have ih := insD_at (o := o) (x := x) (j := j) (by simpa using h1) (fun q hq => h2 (q + 1) (by omega)) (fun h => h3 (by simpa using h))
    rw [insD_lt h0, ih]
    by_cases c : j < o.length ∧ cp (ix o j) x = 0
    · rw [if_pos c, if_pos ⟨by simpa using c.1, c.2⟩]
    · rw [if_neg c, if_neg (fun q => c ⟨by simpa using q.1, q.2⟩)]; simp
theorem insD_mem {z x : Srx} : ∀ {o : List Srx}, z ∈ insD o x ↔ z ∈ o ∨ z = x
  | [] => by simp [insD]
  | y :: o => by
    have ih := insD_mem (z := z) (x := x) (o := o)
    by_cases h : cp y x < 0
    · rw [insD_lt h, List.mem_cons, List.mem_cons, ih, or_assoc]
    · by_cases e : cp y x = 0
      · rw [insD_eq e]
        have := cp_0 e
        subst this
        exact ⟨.inl, fun h => h.elim id (fun e => by rw [e]; simp)⟩
      · rw [insD_gt h e, List.mem_cons, or_comm]
theorem insD_pw {x : Srx} : ∀ {o : List Srx}, o.Pairwise (fun x y => cp x y < 0) → (insD o x).Pairwise (fun x y => cp x y < 0)
  | [], _ => by simp [insD]
  | y :: o, h => by
    have h' := List.pairwise_cons.1 h
    by_cases c : cp y x < 0
    · rw [insD_lt c]
      exact List.pairwise_cons.2 ⟨fun z hz => (insD_mem.1 hz).elim (h'.1 z) (fun e => by rw [e]; exact c), insD_pw h'.2⟩
    · by_cases e : cp y x = 0
      · rw [insD_eq e]; exact h
      · rw [insD_gt c e]
        have hx : cp x y < 0 := by have := cp_neg x y; omega
        exact List.pairwise_cons.2 ⟨fun z hz => (List.mem_cons.1 hz).elim (fun e => by rw [e]; exact hx) (fun q => cp_tr hx (h'.1 z q)), h⟩
theorem insD_in : ∀ {o : List Srx} {x : Srx}, o.Pairwise (fun x y => cp x y < 0) → x ∈ o → insD o x = o
  | [], x, _, h => by simp at h
  | y :: o, x, hp, h => by
    have h' := List.pairwise_cons.1 hp
    rcases List.mem_cons.1 h with e | hx
    · rw [e]; exact insD_eq (cp_self _)
    · rw [insD_lt (h'.1 x hx), insD_in h'.2 hx]
def rsF (m : List Srx) : List Srx := m.foldl insD []
theorem rsF_app (m : List Srx) (x : Srx) : rsF (m ++ [x]) = insD (rsF m) x := by unfold rsF; rw [List.foldl_append]; rfl
theorem fol_pw : ∀ (m o : List Srx), o.Pairwise (fun x y => cp x y < 0) → (m.foldl insD o).Pairwise (fun x y => cp x y < 0)
  | [], _, h => h
  | x :: m, o, h => fol_pw m (insD o x) (insD_pw h)
theorem fol_mem {z : Srx} : ∀ (m o : List Srx), z ∈ m.foldl insD o ↔ z ∈ o ∨ z ∈ m
  | [], o => by simp
  | x :: m, o => by
    show z ∈ m.foldl insD (insD o x) ↔ _
    rw [fol_mem m, insD_mem, List.mem_cons, or_assoc]
theorem rsF_pw (m : List Srx) : (rsF m).Pairwise (fun x y => cp x y < 0) := fol_pw m [] List.Pairwise.nil
theorem rsF_mem {z : Srx} {m : List Srx} : z ∈ rsF m ↔ z ∈ m := by unfold rsF; rw [fol_mem]; simp
theorem dfl_rs (m : List Srx) : dfl m = rsF m := asc_uniq (dfl_asc m) (rsF_pw m) (fun z => by rw [dfl_mem, rsF_mem])
theorem insD_len (o : List Srx) (x : Srx) : (insD o x).length ≤ o.length + 1 := by
  induction o with
  | nil => simp [insD]
  | cons y o ih =>
    by_cases c : cp y x < 0
    · rw [insD_lt c]; simpa using ih
    · by_cases e : cp y x = 0
      · rw [insD_eq e]; omega
      · rw [insD_gt c e]; simp
theorem fol_len : ∀ (m o : List Srx), (m.foldl insD o).length ≤ o.length + m.length
  | [], o => by simp
  | x :: m, o => by
    have h1 := fol_len m (insD o x)
    have h2 := insD_len o x
    show (m.foldl insD (insD o x)).length ≤ _
    simp only [List.length_cons]; omega
theorem rsF_len (m : List Srx) : (rsF m).length ≤ m.length := by have := fol_len m []; simpa [rsF] using this
def hasS (l : List Srx) (x : Srx) : Bool := l.any fun y => eP y x
theorem hasS_y {l : List Srx} {x : Srx} {k : Nat} (hk : k < l.length) (h : eP (ix l k) x = true) : hasS l x = true := List.any_eq_true.2 ⟨_, ix_mem hk, h⟩
theorem hasS_n {l : List Srx} {x : Srx} (h : ∀ q, q < l.length → eP (ix l q) x = false) : hasS l x = false := List.any_eq_false.2 (fun y hy => by obtain ⟨k, hk, rfl⟩ := mem_ix hy; rw [h k hk]; simp)
theorem hasS_t {l : List Srx} {x : Srx} (h : hasS l x = true) : x ∈ l := by obtain ⟨y, hy, he⟩ := List.any_eq_true.1 h; rw [← eP_eq he]; exact hy
theorem hasS_f {l : List Srx} {x : Srx} (h : hasS l x = false) {q : Nat} (hq : q < l.length) : cp (ix l q) x ≠ 0 := fun e => by
  have := List.any_eq_false.1 h _ (ix_mem hq)
  rw [eP_cp, e] at this; simp at this
/-- the place behind all that are not greater -/
def srI (o : List Srx) (x : Srx) : List Srx := insD o x
theorem srI_at {o : List Srx} {x : Srx} {j : Nat} (hn : hasS o x = false) (hj : j ≤ o.length) (hq : ∀ q, q < j → lb (ix o q) x = true) (he : j < o.length → lb (ix o j) x = false) : (((o.drop 0).take (j - 0)) ++ [x]) ++ o.drop j = insD o x := by
  have h1 : ∀ q, q < j → cp (ix o q) x < 0 := fun q h => by
    have := hq q h
    rw [lb_cp] at this
    have a := of_decide_eq_true this
    have b := hasS_f hn (q := q) (by omega)
    omega
  have h2 : j < o.length → ¬ cp (ix o j) x < 0 := fun h => by
    have := he h
    rw [lb_cp] at this
    have a := of_decide_eq_false this
    omega
  rw [insD_at hj h1 h2, if_neg (fun q => hasS_f hn q.1 q.2)]
/-- the sources, one passage behind the other -/
def cc (l : List Psg) : Nat → List Srx
  | 0 => []
  | k + 1 => cc l k ++ (ix l k).src
theorem cc_len {l : List Psg} (h : ∀ q, q < l.length → (ix l q).src.length ≤ 20) : ∀ k, k ≤ l.length → (cc l k).length ≤ 20 * k
  | 0, _ => by simp [cc]
  | k + 1, hk => by
    have ih := cc_len h k (by omega)
    have := h k (by omega)
    simp only [cc, List.length_append]; omega
theorem tk_s {m : List Srx} {k : Nat} (h : k < m.length) : m.take (k + 1) = m.take k ++ [ix m k] := take_ix h

set_option maxHeartbeats 4000000 in
set_option maxRecDepth 100000 in
theorem nanI (x : Int) : Ctr Tryz.prog 68 [.fl (.int .i64 x)] (.d (.fl (.bool (x != x)))) := by
  refine ctr (n := 6) (rs := #[.tmp 2]) (L := [(0, .d (.fl (.int .i64 x)))]) Tryz.func68 rfl rfl rfl rfl rfl (fun w0 U0 => ?_)
  refine a_rseq ?_
  refine rg_put (d := 2) (v := .d (.fl (.bool false))) rfl (og rfl (op_assign rfl rfl rfl)) ?_
  refine rg_done rfl ?_
  refine a_rseq ?_
  refine rg_put (d := 3) (v := .d (.fl (.int .i64 x))) rfl (og rfl (op_move rfl rfl rfl)) ?_
  refine rg_put (d := 4) (v := .d (.fl (.int .i64 x))) rfl (og rfl (op_move rfl rfl rfl)) ?_
  refine rg_put (d := 5) (v := .d (.fl (.bool (x != x)))) rfl (og rfl (op_bin rfl rfl rfl (b_neq _ _ _ _) rfl)) ?_
  refine rg_put (d := 2) (v := .d (.fl (.bool (x != x)))) rfl (og rfl (op_assign rfl rfl rfl)) ?_
  refine rg_done rfl ?_
  refine a_ret ?_
  show ∃ ds, ResL _ _ _ ds ∧ RV.of ds = _
  refine ⟨[.fl (.bool (x != x))], (.cons (.tmp rfl (.d _)) .nil), ?_⟩
  rfl
set_option maxHeartbeats 4000000 in
set_option maxRecDepth 100000 in
theorem nanS (s : ByteArray) : Ctr Tryz.prog 67 [.fl (.string s)] (.d (.fl (.bool (!(sEq s s))))) := by
  refine ctr (n := 6) (rs := #[.tmp 2]) (L := [(0, .d (.fl (.string s)))]) Tryz.func67 rfl rfl rfl rfl rfl (fun w0 U0 => ?_)
  refine a_rseq ?_
  refine rg_put (d := 2) (v := .d (.fl (.bool false))) rfl (og rfl (op_assign rfl rfl rfl)) ?_
  refine rg_done rfl ?_
  refine a_rseq ?_
  refine rg_put (d := 3) (v := .d (.fl (.string s))) rfl (og rfl (op_move rfl rfl rfl)) ?_
  refine rg_put (d := 4) (v := .d (.fl (.string s))) rfl (og rfl (op_move rfl rfl rfl)) ?_
  refine rg_put (d := 5) (v := .d (.fl (.bool ((!(sEq s s)))))) rfl (og rfl (op_bin rfl rfl rfl (b_sne _ _ _) rfl)) ?_
  refine rg_put (d := 2) (v := .d (.fl (.bool ((!(sEq s s)))))) rfl (og rfl (op_assign rfl rfl rfl)) ?_
  refine rg_done rfl ?_
  refine a_ret ?_
  show ∃ ds, ResL _ _ _ ds ∧ RV.of ds = _
  refine ⟨[.fl (.bool ((!(sEq s s))))], (.cons (.tmp rfl (.d _)) .nil), ?_⟩
  rfl
set_option maxHeartbeats 4000000 in
set_option maxRecDepth 100000 in
theorem icC (x y : Int) : Ctr Tryz.prog 31 [.fl (.int .i64 x), .fl (.int .i64 y)] (.d (.fl (.int .i64 (ic x y)))) := by
  refine ctr (n := 20) (rs := #[.tmp 4]) (L := [(0, .d (.fl (.int .i64 x))), (1, .d (.fl (.int .i64 y)))]) Tryz.func31 rfl rfl rfl rfl rfl (fun w0 U0 => ?_)
  refine a_rseq ?_
  refine rg_put (d := 4) (v := .d (.fl (.int .i64 0))) rfl (og rfl (op_assign rfl rfl rfl)) ?_
  refine rg_done rfl ?_
  refine a_rseq ?_
  refine rg_put (d := 7) (v := .d (.fl (.int .i64 x))) rfl (og rfl (op_move rfl rfl rfl)) ?_
  refine rg_put (d := 8) (v := .d (.fl (.bool (x != x)))) rfl (og rfl (op_call rfl Tryz.func68 nm68 rfl (.cons rfl (.d _) .nil) (nanI x) rfl)) ?_
  refine rg_put (d := 5) (v := .d (.fl (.bool (x != x)))) rfl (og rfl (op_assign rfl rfl rfl)) ?_
  refine rg_done rfl ?_
  refine a_rseq ?_
  refine rg_put (d := 9) (v := .d (.fl (.int .i64 y))) rfl (og rfl (op_move rfl rfl rfl)) ?_
  refine rg_put (d := 10) (v := .d (.fl (.bool (y != y)))) rfl (og rfl (op_call rfl Tryz.func68 nm68 rfl (.cons rfl (.d _) .nil) (nanI y) rfl)) ?_
  refine rg_put (d := 6) (v := .d (.fl (.bool (y != y)))) rfl (og rfl (op_assign rfl rfl rfl)) ?_
  refine rg_done rfl ?_
  refine a_seq ?_
  refine a_rseq ?_
  refine rg_put (d := 11) (v := .d (.fl (.bool (x != x)))) rfl (og rfl (op_move rfl rfl rfl)) ?_
  refine rg_done rfl ?_
  refine a_condF rfl (ne_self_b _) ?_
  refine a_skip ?_
  show A _ _ _ _ _ _ _
  refine a_seq ?_
  refine a_rseq ?_
  refine rg_put (d := 13) (v := .d (.fl (.bool (y != y)))) rfl (og rfl (op_move rfl rfl rfl)) ?_
  refine rg_done rfl ?_
  refine a_condF rfl (ne_self_b _) ?_
  refine a_skip ?_
  show A _ _ _ _ _ _ _
  refine a_seq ?_
  refine a_rseq ?_
  refine rg_put (d := 14) (v := .d (.fl (.int .i64 x))) rfl (og rfl (op_move rfl rfl rfl)) ?_
  refine rg_put (d := 15) (v := .d (.fl (.int .i64 y))) rfl (og rfl (op_move rfl rfl rfl)) ?_
  refine rg_put (d := 16) (v := .d (.fl (.bool ((decide (x < y)))))) rfl (og rfl (op_bin rfl rfl rfl (b_lss _ _ _ _) rfl)) ?_
  refine rg_done rfl ?_
  refine a_cond rfl (fun h1 => ?_) (fun h1 => ?_)
  · skip
    have h2 := t_dec h1
    refine a_rseq ?_
    refine rg_put (d := 4) (v := .d (.fl (.int .i64 (-1)))) rfl (og rfl (op_assign rfl rfl rfl)) ?_
    refine rg_done rfl ?_
    refine a_ret ?_
    show ∃ ds, ResL _ _ _ ds ∧ RV.of ds = _
    refine ⟨[.fl (.int .i64 (-1))], (.cons (.tmp rfl (.d _)) .nil), ?_⟩
    first
      | (have hu : ic x y = (-1) := by
          unfold ic; simp only [h1, Bool.true_or, Bool.false_or, Bool.or_true, Bool.or_false, Bool.not_true, Bool.not_false, cond_true, cond_false, Bool.true_and, Bool.false_and, Bool.and_true, Bool.and_false] <;> rfl
         rw [hu]; rfl)
      | (exfalso; omega)
  · skip
    have h3 := f_dec h1
    refine a_skip ?_
    show A _ _ _ _ _ _ _
    refine a_seq ?_
    refine a_rseq ?_
    refine rg_put (d := 17) (v := .d (.fl (.int .i64 x))) rfl (og rfl (op_move rfl rfl rfl)) ?_
    refine rg_put (d := 18) (v := .d (.fl (.int .i64 y))) rfl (og rfl (op_move rfl rfl rfl)) ?_
    refine rg_put (d := 19) (v := .d (.fl (.bool ((decide (y < x)))))) rfl (og rfl (op_bin rfl rfl rfl (b_gtr _ _ _ _) rfl)) ?_
    refine rg_done rfl ?_
    refine a_cond rfl (fun h4 => ?_) (fun h4 => ?_)
    · skip
      have h5 := t_dec h4
      refine a_rseq ?_
      refine rg_put (d := 4) (v := .d (.fl (.int .i64 1))) rfl (og rfl (op_assign rfl rfl rfl)) ?_
      refine rg_done rfl ?_
      refine a_ret ?_
      show ∃ ds, ResL _ _ _ ds ∧ RV.of ds = _
      refine ⟨[.fl (.int .i64 1)], (.cons (.tmp rfl (.d _)) .nil), ?_⟩
      first
        | (have hu : ic x y = 1 := by
            unfold ic; simp only [h1, h4, Bool.true_or, Bool.false_or, Bool.or_true, Bool.or_false, Bool.not_true, Bool.not_false, cond_true, cond_false, Bool.true_and, Bool.false_and, Bool.and_true, Bool.and_false] <;> rfl
           rw [hu]; rfl)
        | (exfalso; omega)
    · skip
      have h6 := f_dec h4
      refine a_skip ?_
      show A _ _ _ _ _ _ _
      refine a_rseq ?_
      refine rg_put (d := 4) (v := .d (.fl (.int .i64 0))) rfl (og rfl (op_assign rfl rfl rfl)) ?_
      refine rg_done rfl ?_
      refine a_ret ?_
      show ∃ ds, ResL _ _ _ ds ∧ RV.of ds = _
      refine ⟨[.fl (.int .i64 0)], (.cons (.tmp rfl (.d _)) .nil), ?_⟩
      first
        | (have hu : ic x y = 0 := by
            unfold ic; simp only [h1, h4, Bool.true_or, Bool.false_or, Bool.or_true, Bool.or_false, Bool.not_true, Bool.not_false, cond_true, cond_false, Bool.true_and, Bool.false_and, Bool.and_true, Bool.and_false] <;> rfl
           rw [hu]; rfl)
        | (exfalso; omega)
set_option maxHeartbeats 4000000 in
set_option maxRecDepth 100000 in
theorem scC (s u : ByteArray) : Ctr Tryz.prog 30 [.fl (.string s), .fl (.string u)] (.d (.fl (.int .i64 (sc s u)))) := by
  refine ctr (n := 20) (rs := #[.tmp 4]) (L := [(0, .d (.fl (.string s))), (1, .d (.fl (.string u)))]) Tryz.func30 rfl rfl rfl rfl rfl (fun w0 U0 => ?_)
  refine a_rseq ?_
  refine rg_put (d := 4) (v := .d (.fl (.int .i64 0))) rfl (og rfl (op_assign rfl rfl rfl)) ?_
  refine rg_done rfl ?_
  refine a_rseq ?_
  refine rg_put (d := 7) (v := .d (.fl (.string s))) rfl (og rfl (op_move rfl rfl rfl)) ?_
  refine rg_put (d := 8) (v := .d (.fl (.bool ((!(sEq s s)))))) rfl (og rfl (op_call rfl Tryz.func67 nm67 rfl (.cons rfl (.d _) .nil) (nanS s) rfl)) ?_
  refine rg_put (d := 5) (v := .d (.fl (.bool ((!(sEq s s)))))) rfl (og rfl (op_assign rfl rfl rfl)) ?_
  refine rg_done rfl ?_
  refine a_rseq ?_
  refine rg_put (d := 9) (v := .d (.fl (.string u))) rfl (og rfl (op_move rfl rfl rfl)) ?_
  refine rg_put (d := 10) (v := .d (.fl (.bool ((!(sEq u u)))))) rfl (og rfl (op_call rfl Tryz.func67 nm67 rfl (.cons rfl (.d _) .nil) (nanS u) rfl)) ?_
  refine rg_put (d := 6) (v := .d (.fl (.bool ((!(sEq u u)))))) rfl (og rfl (op_assign rfl rfl rfl)) ?_
  refine rg_done rfl ?_
  refine a_seq ?_
  refine a_rseq ?_
  refine rg_put (d := 11) (v := .d (.fl (.bool ((!(sEq s s)))))) rfl (og rfl (op_move rfl rfl rfl)) ?_
  refine rg_done rfl ?_
  refine a_condF rfl (not_f (eq_self_s _)) ?_
  refine a_skip ?_
  show A _ _ _ _ _ _ _
  refine a_seq ?_
  refine a_rseq ?_
  refine rg_put (d := 13) (v := .d (.fl (.bool ((!(sEq u u)))))) rfl (og rfl (op_move rfl rfl rfl)) ?_
  refine rg_done rfl ?_
  refine a_condF rfl (not_f (eq_self_s _)) ?_
  refine a_skip ?_
  show A _ _ _ _ _ _ _
  refine a_seq ?_
  refine a_rseq ?_
  refine rg_put (d := 14) (v := .d (.fl (.string s))) rfl (og rfl (op_move rfl rfl rfl)) ?_
  refine rg_put (d := 15) (v := .d (.fl (.string u))) rfl (og rfl (op_move rfl rfl rfl)) ?_
  refine rg_put (d := 16) (v := .d (.fl (.bool (sLt s u)))) rfl (og rfl (op_bin rfl rfl rfl (b_slt _ _ _) rfl)) ?_
  refine rg_done rfl ?_
  refine a_cond rfl (fun h1 => ?_) (fun h1 => ?_)
  · skip
    refine a_rseq ?_
    refine rg_put (d := 4) (v := .d (.fl (.int .i64 (-1)))) rfl (og rfl (op_assign rfl rfl rfl)) ?_
    refine rg_done rfl ?_
    refine a_ret ?_
    show ∃ ds, ResL _ _ _ ds ∧ RV.of ds = _
    refine ⟨[.fl (.int .i64 (-1))], (.cons (.tmp rfl (.d _)) .nil), ?_⟩
    rw [sc_lt h1]; rfl
  · skip
    refine a_skip ?_
    show A _ _ _ _ _ _ _
    refine a_seq ?_
    refine a_rseq ?_
    refine rg_put (d := 17) (v := .d (.fl (.string s))) rfl (og rfl (op_move rfl rfl rfl)) ?_
    refine rg_put (d := 18) (v := .d (.fl (.string u))) rfl (og rfl (op_move rfl rfl rfl)) ?_
    refine rg_put (d := 19) (v := .d (.fl (.bool ((!(sLt s u || sEq s u)))))) rfl (og rfl (op_bin rfl rfl rfl (b_sgt _ _ _) rfl)) ?_
    refine rg_done rfl ?_
    refine a_cond rfl (fun h2 => ?_) (fun h2 => ?_)
    · skip
      have h3 := t_not h2
      refine a_rseq ?_
      refine rg_put (d := 4) (v := .d (.fl (.int .i64 1))) rfl (og rfl (op_assign rfl rfl rfl)) ?_
      refine rg_done rfl ?_
      refine a_ret ?_
      show ∃ ds, ResL _ _ _ ds ∧ RV.of ds = _
      refine ⟨[.fl (.int .i64 1)], (.cons (.tmp rfl (.d _)) .nil), ?_⟩
      rw [sc_gt h1 h3]; rfl
    · skip
      have h4 := f_not h2
      refine a_skip ?_
      show A _ _ _ _ _ _ _
      refine a_rseq ?_
      refine rg_put (d := 4) (v := .d (.fl (.int .i64 0))) rfl (og rfl (op_assign rfl rfl rfl)) ?_
      refine rg_done rfl ?_
      refine a_ret ?_
      show ∃ ds, ResL _ _ _ ds ∧ RV.of ds = _
      refine ⟨[.fl (.int .i64 0)], (.cons (.tmp rfl (.d _)) .nil), ?_⟩
      rw [sc_eq h1 h4]; rfl
set_option maxHeartbeats 4000000 in
set_option maxRecDepth 100000 in
theorem orC (l : List Int) (hl : l.length ≤ 1000) : Ctr Tryz.prog 29 [.sl 1 (List.map (rI .i64) l)] (.d (.fl (.int .i64 (fz l)))) := by
  refine ctr (n := 18) (rs := #[.tmp 2]) (L := [(0, .d (.sl 1 (List.map (rI .i64) l)))]) Tryz.func29 rfl rfl rfl rfl rfl (fun w0 U0 => ?_)
  refine a_rseq ?_
  refine rg_put (d := 2) (v := .d (.fl (.int .i64 0))) rfl (og rfl (op_assign rfl rfl rfl)) ?_
  refine rg_done rfl ?_
  refine a_rseq ?_
  refine rg_put (d := 3) (v := .d (.fl (.int .i64 0))) rfl (og rfl (op_assign rfl rfl rfl)) ?_
  refine rg_done rfl ?_
  refine a_seq ?_
  refine a_rseq ?_
  refine rg_put (d := 6) (v := .d (.sl 1 (List.map (rI .i64) l))) rfl (og rfl (op_move rfl rfl rfl)) ?_
  refine rg_put (d := 7) (v := .d (.fl (.int .i64 (l.length : Int)))) rfl (og rfl (s_len rfl Tryz.underlying46 rfl rfl)) ?_
  refine rg_put (d := 8) (v := .d (.fl (.int .i64 0))) rfl (og rfl (op_move rfl rfl rfl)) ?_
  refine rg_done rfl ?_
  refine a_block ?_
  refine a_loop (ι := Nat) (fun k => SS [(0, .d (.sl 1 (List.map (rI .i64) l))), (3, .d (.fl (.int .i64 0))), (6, .d (.sl 1 (List.map (rI .i64) l))), (7, .d (.fl (.int .i64 (l.length : Int)))), (8, .d (.fl (.int .i64 (k : Int))))] []) (fun k => k ≤ l.length ∧ ∀ q, q < k → ix l q = 0) (fun k => l.length - k) 0 (⟨by omega, fun q h => by omega⟩) (imp_forget rfl ⟨rfl, rfl, rfl, rfl, (by first | rfl | exact ci (by omega) | exact ci (by simp) | exact cd (by simp) | simp), trivial⟩ trivial) (fun k hok => ?_)
  obtain ⟨hk, hq⟩ := hok
  refine a_rseq ?_
  refine rg_put (d := 9) (v := .d (.fl (.bool ((decide ((k : Int) < (l.length : Int))))))) rfl (og rfl (op_bin rfl rfl rfl (b_lss _ _ _ _) rfl)) ?_
  refine rg_done rfl ?_
  refine a_seq ?_
  refine a_cond rfl (fun h1 => ?_) (fun h1 => ?_)
  · skip
    have h2 := t_dec h1
    refine a_skip ?_
    show A _ _ _ _ _ _ _
    refine a_seq ?_
    refine a_block ?_
    refine a_rseq ?_
    refine rg_put (d := 10) (v := .el ((rI .i64 (ix l k)))) rfl (og rfl (s_index rfl Tryz.underlying46 ti3 rfl rfl (by omega) (row_at (by omega)) rfl)) ?_
    refine rg_put (d := 11) (v := .d (.fl (.int .i64 (ix l k)))) rfl (og rfl (op_load_el rfl Tryz.underlying3 rfl rfl rfl rfl)) ?_
    refine rg_put (d := 5) (v := .d (.fl (.int .i64 (ix l k)))) rfl (og rfl (op_assign rfl rfl rfl)) ?_
    refine rg_done rfl ?_
    refine a_rseq ?_
    refine rg_put (d := 12) (v := .d (.fl (.int .i64 (ix l k)))) rfl (og rfl (op_move rfl rfl rfl)) ?_
    refine rg_put (d := 13) (v := .d (.fl (.int .i64 0))) rfl (og rfl (op_move rfl rfl rfl)) ?_
    refine rg_put (d := 14) (v := .d (.fl (.bool (((ix l k) != 0))))) rfl (og rfl (op_bin rfl rfl rfl (b_neq _ _ _ _) rfl)) ?_
    refine rg_done rfl ?_
    refine a_cond rfl (fun h3 => ?_) (fun h3 => ?_)
    · skip
      have h4 := t_bne h3
      refine a_rseq ?_
      refine rg_put (d := 15) (v := .d (.fl (.int .i64 (ix l k)))) rfl (og rfl (op_move rfl rfl rfl)) ?_
      refine rg_put (d := 2) (v := .d (.fl (.int .i64 (ix l k)))) rfl (og rfl (op_assign rfl rfl rfl)) ?_
      refine rg_done rfl ?_
      refine a_ret ?_
      show ∃ ds, ResL _ _ _ ds ∧ RV.of ds = _
      refine ⟨[.fl (.int .i64 (ix l k))], (.cons (.tmp rfl (.d _)) .nil), ?_⟩
      rw [fz_at (by omega) hq (t_bne h3)]; rfl
    · skip
      have h5 := f_bne h3
      refine a_skip ?_
      show A _ _ _ _ _ _ _
      refine a_region ?_
      refine rg_put (d := 16) (v := .d (.fl (.int .i64 (((k : Int) + 1))))) rfl (og rfl (op_bin rfl rfl rfl (fun x y w => b_add64 _ _ _ x y w (by omega)) rfl)) ?_
      refine rg_put (d := 8) (v := .d (.fl (.int .i64 (((k : Int) + 1))))) rfl (og rfl (op_move rfl rfl rfl)) ?_
      refine rg_done rfl ?_
      have hx : ix l k = 0 := f_bne h3
      show ∃ i, _ ∧ _ ∧ Imp _ _ _ _ _
      refine ⟨k + 1, ⟨by omega, fun q h => (Nat.lt_succ_iff_lt_or_eq.1 h).elim (hq q) (fun e => by rw [e]; exact hx)⟩, by omega, imp_forget rfl ⟨rfl, rfl, rfl, rfl, (by first | rfl | exact ci (by omega) | exact ci (by simp) | exact cd (by simp) | simp), trivial⟩ trivial⟩
  · skip
    have h6 := f_dec h1
    refine a_exit ?_
    show A _ _ _ _ _ _ _
    refine a_rseq ?_
    refine rg_put (d := 17) (v := .d (.fl (.int .i64 0))) rfl (og rfl (op_move rfl rfl rfl)) ?_
    refine rg_put (d := 2) (v := .d (.fl (.int .i64 0))) rfl (og rfl (op_assign rfl rfl rfl)) ?_
    refine rg_done rfl ?_
    refine a_ret ?_
    show ∃ ds, ResL _ _ _ ds ∧ RV.of ds = _
    refine ⟨[.fl (.int .i64 0)], (.cons (.tmp rfl (.d _)) .nil), ?_⟩
    rw [fz_no (fun q h => hq q (by omega))]; rfl
set_option maxHeartbeats 4000000 in
set_option maxRecDepth 100000 in
theorem cpC (a b : Srx) : Ctr Tryz.prog 14 [.ag (eSrx a), .ag (eSrx b)] (.d (.fl (.int .i64 (cp a b)))) := by
  refine ctr (n := 17) (rs := #[.tmp 4]) (L := [(0, .d (.ag (eSrx a))), (1, .d (.ag (eSrx b)))]) Tryz.func14 rfl rfl rfl rfl rfl (fun w0 U0 => ?_)
  refine a_rseq ?_
  refine rg_nam (d := 2) (v := .pt 101 0) (m := 101) (nw := [(101, .bx 32 (eSrx a))]) rfl (og rfl (of_eff (op_box 101 rfl rfl rfl rfl) rfl)) rfl ?_
  refine rg_nam (d := 3) (v := .pt 102 0) (m := 102) (nw := [(102, .bx 32 (eSrx b))]) rfl (og rfl (of_eff (op_box 102 rfl rfl rfl rfl) rfl)) rfl ?_
  refine rg_put (d := 4) (v := .d (.fl (.int .i64 0))) rfl (og rfl (op_assign rfl rfl rfl)) ?_
  refine rg_done rfl ?_
  refine a_dseq (by kernel_rfl) ?_
  refine dr_put (d := 5) (v := .pt 101 0) rfl (og rfl (of_eff (s_field_pt rfl Tryz.underlying32 rfl ti9 rfl rfl rfl) rfl)) ?_
  refine dr_put (d := 6) (v := .d (.fl (.string a.dev))) rfl (og rfl (op_load_pt rfl Tryz.underlying9 rfl rfl rfl rfl rfl)) ?_
  refine dr_put (d := 7) (v := .pt 102 0) rfl (og rfl (of_eff (s_field_pt rfl Tryz.underlying32 rfl ti9 rfl rfl rfl) rfl)) ?_
  refine dr_put (d := 8) (v := .d (.fl (.string b.dev))) rfl (og rfl (op_load_pt rfl Tryz.underlying9 rfl rfl rfl rfl rfl)) ?_
  refine dr_put (d := 9) (v := .d (.fl (.int .i64 (sc a.dev b.dev)))) rfl (og rfl (op_call rfl Tryz.func30 nm30 rfl (.cons rfl (.d _) (.cons rfl (.d _) .nil)) (scC a.dev b.dev) rfl)) ?_
  refine dr_put (d := 10) (v := .pt 101 1) rfl (og rfl (of_eff (s_field_pt rfl Tryz.underlying32 rfl ti3 rfl rfl rfl) rfl)) ?_
  refine dr_put (d := 11) (v := .d (.fl (.int .i64 a.seq))) rfl (og rfl (op_load_pt rfl Tryz.underlying3 rfl rfl rfl rfl rfl)) ?_
  refine dr_put (d := 12) (v := .pt 102 1) rfl (og rfl (of_eff (s_field_pt rfl Tryz.underlying32 rfl ti3 rfl rfl rfl) rfl)) ?_
  refine dr_put (d := 13) (v := .d (.fl (.int .i64 b.seq))) rfl (og rfl (op_load_pt rfl Tryz.underlying3 rfl rfl rfl rfl rfl)) ?_
  refine dr_put (d := 14) (v := .d (.fl (.int .i64 (ic a.seq b.seq)))) rfl (og rfl (op_call rfl Tryz.func31 nm31 rfl (.cons rfl (.d _) (.cons rfl (.d _) .nil)) (icC a.seq b.seq) rfl)) ?_
  refine dr_put (d := 15) (v := .d (.sl 1 (List.map (rI .i64) [(sc a.dev b.dev), (ic a.seq b.seq)]))) rfl (og rfl (of_eff (op_slices rfl Tryz.underlying46 ti3 rfl rfl rfl (by kernel_rfl) (xs := [.fl (.int .i64 (sc a.dev b.dev)), .fl (.int .i64 (ic a.seq b.seq))]) rfl rfl (.cons rfl rfl (.d _) rfl rfl rfl (.cons rfl rfl (.d _) rfl rfl rfl .nil)) rfl) rfl)) ?_
  refine dr_put (d := 16) (v := .d (.fl (.int .i64 ((fz [(sc a.dev b.dev), (ic a.seq b.seq)]))))) rfl (og rfl (op_call rfl Tryz.func29 nm29 rfl (.cons rfl (.d _) .nil) (orC [(sc a.dev b.dev), (ic a.seq b.seq)] (by simp)) rfl)) ?_
  refine dr_put (d := 4) (v := .d (.fl (.int .i64 ((fz [(sc a.dev b.dev), (ic a.seq b.seq)]))))) rfl (og rfl (op_assign rfl rfl rfl)) ?_
  refine dr_done rfl (by kernel_rfl) (by kernel_rfl) ?_
  refine a_ret ?_
  show ∃ ds, ResL _ _ _ ds ∧ RV.of ds = _
  refine ⟨[.fl (.int .i64 ((fz [(sc a.dev b.dev), (ic a.seq b.seq)])))], (.cons (.tmp rfl (.d _)) .nil), ?_⟩
  rfl
theorem sortG : SortG Tryz.prog 13 2 := ⟨fun β _ enc hk h1 cf hO g cb blk off cap d w eg hc hH hb hs => AnyQ.slices_SortFunc Tryz.sortP 2 Tryz.isAgg32 Tryz.sizeOf32 enc hk h1 cf hO g cb blk off cap d w eg hc hH hb hs, fun p cap fv w => AnyF.slices_SortFunc_none Tryz.sortP p cap fv w⟩
theorem sortD : SortOkD Tryz.prog 13 14 [] 2 eSrx (fun _ => True) (ltOf cp) := sortOkD_of sortG (fun _ => rfl) (swo_of cp_neg cp_tq) (enters_of Tryz.func14 (by kernel_rfl) rfl) (fun x y _ _ => cpC x y)
set_option maxHeartbeats 4000000 in
set_option maxRecDepth 100000 in
theorem cptT (l : List Srx) (hl : l.length ≤ 1000) : CtrT Tryz.prog 15 32 2 (tD eSrx l) [] (tD eSrx (dd l l.length)) := by
  refine ctrT (n := 61) (t := 2) (L := []) Tryz.func15 rfl rfl rfl rfl rfl (fun w0 U0 H0 V0 Q0 => ?_)
  refine a_rseq ?_
  refine rg_put (d := 2) (v := .d (.fl (.slice none 0 0))) rfl (og rfl (op_assign rfl rfl rfl)) ?_
  refine rg_done rfl ?_
  refine a_seq ?_
  refine a_rseq ?_
  refine rg_put (d := 6) (v := .ow 0) rfl (og rfl (op_move rfl rfl rfl)) ?_
  refine rg_put (d := 7) (v := .d (.fl (.int .i64 (((l).length : Int))))) rfl (og rfl (op_len_tr rfl Tryz.underlying27 rfl rfl tD_len rfl)) ?_
  refine rg_put (d := 8) (v := .d (.fl (.bool ((decide (((l).length : Int) < 2)))))) rfl (og rfl (op_bin rfl rfl rfl (b_lss _ _ _ _) rfl)) ?_
  refine rg_done rfl ?_
  refine a_cond rfl (fun h1 => ?_) (fun h1 => ?_)
  · skip
    have h2 := t_dec h1
    refine a_rseq ?_
    refine rg_put (d := 9) (v := .ow 0) rfl (og rfl (op_move rfl rfl rfl)) ?_
    refine rg_put (d := 2) (v := .ow 0) rfl (og rfl (op_assign rfl rfl rfl)) ?_
    refine rg_done rfl ?_
    refine a_ret ?_
    show ∃ m, _ ∧ _ ∧ _ ∧ _
    rw [show dd l l.length = l from (dd_all l.length (Nat.le_refl _) (fun q h1 h2 => by omega)).trans (List.take_of_length_le (Nat.le_refl _))]
    exact ⟨0, by decide, rfl, rfl, rfl⟩
  · skip
    have h3 := f_dec h1
    refine a_skip ?_
    show A _ _ _ _ _ _ _
    refine a_seq ?_
    refine a_rseq ?_
    refine rg_put (d := 3) (v := .d (.fl (.int .i64 1))) rfl (og rfl (op_assign rfl rfl rfl)) ?_
    refine rg_done rfl ?_
    refine a_block ?_
    refine a_loop (ι := Nat) (fun k => SS [(0, .ow 0), (8, .d (.fl (.bool ((decide (((l).length : Int) < 2)))))), (3, .d (.fl (.int .i64 (k : Int))))] [(0, .tr 32 2 (tD eSrx l)), (1, .pin H0 V0 Q0)]) (fun k => 1 ≤ k ∧ k ≤ l.length ∧ ∀ q, 1 ≤ q → q < k → (cp (ix l q) (ix l (q - 1)) == 0) = false) (fun k => l.length - k) 1 (⟨by omega, by omega, fun q h1 h2 => by omega⟩) (imp_forget rfl ⟨rfl, rfl, rfl, trivial⟩ ⟨rfl, rfl, trivial⟩) (fun k hok => ?_)
    obtain ⟨hk1, hk, hq⟩ := hok
    refine a_seq ?_
    refine a_rseq ?_
    refine rg_put (d := 10) (v := .d (.fl (.int .i64 (k : Int)))) rfl (og rfl (op_move rfl rfl rfl)) ?_
    refine rg_put (d := 11) (v := .ow 0) rfl (og rfl (op_move rfl rfl rfl)) ?_
    refine rg_put (d := 12) (v := .d (.fl (.int .i64 (((l).length : Int))))) rfl (og rfl (op_len_tr rfl Tryz.underlying27 rfl rfl tD_len rfl)) ?_
    refine rg_put (d := 13) (v := .d (.fl (.bool ((decide ((k : Int) < ((l).length : Int))))))) rfl (og rfl (op_bin rfl rfl rfl (b_lss _ _ _ _) rfl)) ?_
    refine rg_done rfl ?_
    refine a_cond rfl (fun h4 => ?_) (fun h4 => ?_)
    · skip
      have h5 := t_dec h4
      refine a_skip ?_
      show A _ _ _ _ _ _ _
      refine a_seq ?_
      refine a_block ?_
      refine a_dseq (by kernel_rfl) ?_
      refine dr_put (d := 16) (v := .ow 0) rfl (og rfl (op_move rfl rfl rfl)) ?_
      refine dr_put (d := 17) (v := .d (.fl (.int .i64 (k : Int)))) rfl (og rfl (op_move rfl rfl rfl)) ?_
      refine dr_put (d := 18) (v := .pe 0 2 k 0) rfl (og rfl (op_index_tr rfl Tryz.underlying27 ti32 rfl rfl rfl (get_lt (tD_at (by omega))) rfl)) ?_
      refine dr_put (d := 19) (v := .d (.ag (eSrx (ix l k)))) rfl (og rfl (of_eff (op_load_pes rfl Tryz.underlying32 rfl ti32 rfl rfl (tD_at (by omega)) rfl rfl rfl) rfl)) ?_
      refine dr_put (d := 20) (v := .ow 0) rfl (og rfl (op_move rfl rfl rfl)) ?_
      refine dr_put (d := 21) (v := .d (.fl (.int .i64 (k : Int)))) rfl (og rfl (op_move rfl rfl rfl)) ?_
      refine dr_put (d := 22) (v := .d (.fl (.int .i64 (((k : Int) - 1))))) rfl (og rfl (op_bin rfl rfl rfl (fun x y w => b_sub64 _ _ _ x y w (by omega)) rfl)) ?_
      refine dr_put (d := 23) (v := .pe 0 2 ((((k : Int) - 1)).toNat) 0) rfl (og rfl (op_index_trI rfl Tryz.underlying27 ti32 rfl rfl rfl (by omega) (get_lt (tD_at (by omega))) rfl)) ?_
      refine dr_put (d := 24) (v := .d (.ag (eSrx ((Srx.mk (((ix l ((((k : Int) - 1)).toNat))).dev) (((ix l ((((k : Int) - 1)).toNat))).seq)))))) rfl (og rfl (of_eff (op_load_pes rfl Tryz.underlying32 rfl ti32 rfl rfl (tD_at (by omega)) rfl rfl rfl) rfl)) ?_
      refine dr_put (d := 25) (v := .d (.fl (.bool ((cp (ix l k) ((ix l ((((k : Int) - 1)).toNat))) == 0))))) rfl (og rfl (op_eqS [.string ((ix l k).dev), .int .i64 ((ix l k).seq)] [.string (((Srx.mk (((ix l ((((k : Int) - 1)).toNat))).dev) (((ix l ((((k : Int) - 1)).toNat))).seq))).dev), .int .i64 (((Srx.mk (((ix l ((((k : Int) - 1)).toNat))).dev) (((ix l ((((k : Int) - 1)).toNat))).seq))).seq)] rfl rfl rfl (b := (cp (ix l k) ((ix l ((((k : Int) - 1)).toNat))) == 0)) (fun ww => eqlC (ix l k) ((ix l ((((k : Int) - 1)).toNat))) _ _ ww) rfl)) ?_
      refine dr_done rfl (by kernel_rfl) (by kernel_rfl) ?_
      refine a_cond rfl (fun h6 => ?_) (fun h6 => ?_)
      · skip
        have h7 := t_beq h6
        refine a_rseq ?_
        refine rg_put (d := 26) (v := .ow 0) rfl (og rfl (op_move rfl rfl rfl)) ?_
        refine rg_put (d := 27) (v := .d (.fl (.int .i64 (k : Int)))) rfl (og rfl (op_move rfl rfl rfl)) ?_
        refine rg_put (d := 28) (v := .wn 0 k 2) rfl (og rfl (op_winD rfl Tryz.underlying27 ti32 rfl rfl rfl (k := k) (by omega) (by omega) rfl)) ?_
        refine rg_put (d := 4) (v := .wn 0 k 2) rfl (og rfl (op_assign rfl rfl rfl)) ?_
        refine rg_done rfl ?_
        refine a_seq ?_
        refine a_rseq ?_
        refine rg_put (d := 5) (v := .d (.fl (.int .i64 1))) rfl (og rfl (op_assign rfl rfl rfl)) ?_
        refine rg_done rfl ?_
        refine a_block ?_
        have hxk : (cp (ix l k) (ix l (k - 1)) == 0) = true := by have h := h6; rwa [show ((k : Int) - 1).toNat = k - 1 by omega] at h
        obtain ⟨hr1, hr2⟩ := rwD_start hk1 (by omega) hq hxk
        refine a_loop (ι := Nat) (fun j => SS [(0, .ow 0), (4, .wn 0 k 2), (8, .d (.fl (.bool ((decide (((l).length : Int) < 2)))))), (13, .d (.fl (.bool ((decide ((k : Int) < ((l).length : Int))))))), (25, .d (.fl (.bool ((cp (ix l k) ((ix l ((((k : Int) - 1)).toNat))) == 0))))), (5, .d (.fl (.int .i64 (j : Int)))), (3, .d (.fl (.int .i64 (((dd l (k + j)).length : Int)))))] [(1, .pin H0 V0 Q0), (0, .tr 32 2 (tD eSrx ((rwD l (k + j)))))]) (fun j => 1 ≤ j ∧ k + j ≤ l.length ∧ (dd l (k + j)).length + 1 ≤ k + j) (fun j => l.length - (k + j)) 1 (⟨by omega, by omega, by omega⟩) (imp_forget rfl ⟨rfl, rfl, rfl, rfl, rfl, rfl, (ci (by omega)), trivial⟩ ⟨rfl, (congrArg (fun z => Ob.tr 32 2 (tD eSrx z)) hr1.symm), trivial⟩) (fun j hok => ?_)
        obtain ⟨hj1, hjl, hdl0⟩ := hok
        have hrl := rwD_len hjl
        have hp := dd_pos l (k + j) (by omega)
        refine a_seq ?_
        refine a_rseq ?_
        refine rg_put (d := 29) (v := .d (.fl (.int .i64 (j : Int)))) rfl (og rfl (op_move rfl rfl rfl)) ?_
        refine rg_put (d := 30) (v := .wn 0 k 2) rfl (og rfl (op_move rfl rfl rfl)) ?_
        refine rg_put (d := 31) (v := .d (.fl (.int .i64 (((((rwD l (k + j))).length : Int) - (k : Int)))))) rfl (og rfl (op_len_wnD rfl Tryz.underlying27 rfl rfl (by omega) rfl)) ?_
        refine rg_put (d := 32) (v := .d (.fl (.bool ((decide ((j : Int) < ((((rwD l (k + j))).length : Int) - (k : Int)))))))) rfl (og rfl (op_bin rfl rfl rfl (b_lss _ _ _ _) rfl)) ?_
        refine rg_done rfl ?_
        refine a_cond rfl (fun h8 => ?_) (fun h8 => ?_)
        · skip
          have h9 := t_dec h8
          refine a_skip ?_
          show A _ _ _ _ _ _ _
          refine a_seq ?_
          refine a_block ?_
          refine a_dseq (by kernel_rfl) ?_
          refine dr_put (d := 35) (v := .wn 0 k 2) rfl (og rfl (op_move rfl rfl rfl)) ?_
          refine dr_put (d := 36) (v := .d (.fl (.int .i64 (j : Int)))) rfl (og rfl (op_move rfl rfl rfl)) ?_
          refine dr_put (d := 37) (v := .pe 0 2 (k + j) 0) rfl (og rfl (op_index_wnD rfl Tryz.underlying27 ti32 rfl rfl rfl (j := j) (by omega) (by omega) rfl)) ?_
          refine dr_put (d := 38) (v := .d (.ag (eSrx ((Srx.mk (((ix ((rwD l (k + j))) (k + j))).dev) (((ix ((rwD l (k + j))) (k + j))).seq)))))) rfl (og rfl (of_eff (op_load_pes rfl Tryz.underlying32 rfl ti32 rfl rfl (tD_at (by omega)) rfl rfl rfl) rfl)) ?_
          refine dr_put (d := 39) (v := .wn 0 k 2) rfl (og rfl (op_move rfl rfl rfl)) ?_
          refine dr_put (d := 40) (v := .d (.fl (.int .i64 (j : Int)))) rfl (og rfl (op_move rfl rfl rfl)) ?_
          refine dr_put (d := 41) (v := .d (.fl (.int .i64 (((j : Int) - 1))))) rfl (og rfl (op_bin rfl rfl rfl (fun x y w => b_sub64 _ _ _ x y w (by omega)) rfl)) ?_
          refine dr_put (d := 42) (v := .pe 0 2 ((k + (((j : Int) - 1)).toNat)) 0) rfl (og rfl (op_index_wnD rfl Tryz.underlying27 ti32 rfl rfl rfl (j := (((j : Int) - 1)).toNat) (by omega) (by omega) rfl)) ?_
          refine dr_put (d := 43) (v := .d (.ag (eSrx ((Srx.mk (((ix ((rwD l (k + j))) ((k + (((j : Int) - 1)).toNat)))).dev) (((ix ((rwD l (k + j))) ((k + (((j : Int) - 1)).toNat)))).seq)))))) rfl (og rfl (of_eff (op_load_pes rfl Tryz.underlying32 rfl ti32 rfl rfl (tD_at (by omega)) rfl rfl rfl) rfl)) ?_
          refine dr_put (d := 44) (v := .d (.fl (.bool ((!(cp ((ix ((rwD l (k + j))) (k + j))) ((ix ((rwD l (k + j))) ((k + (((j : Int) - 1)).toNat)))) == 0)))))) rfl (og rfl (op_eqS [.string (((Srx.mk (((ix ((rwD l (k + j))) (k + j))).dev) (((ix ((rwD l (k + j))) (k + j))).seq))).dev), .int .i64 (((Srx.mk (((ix ((rwD l (k + j))) (k + j))).dev) (((ix ((rwD l (k + j))) (k + j))).seq))).seq)] [.string (((Srx.mk (((ix ((rwD l (k + j))) ((k + (((j : Int) - 1)).toNat)))).dev) (((ix ((rwD l (k + j))) ((k + (((j : Int) - 1)).toNat)))).seq))).dev), .int .i64 (((Srx.mk (((ix ((rwD l (k + j))) ((k + (((j : Int) - 1)).toNat)))).dev) (((ix ((rwD l (k + j))) ((k + (((j : Int) - 1)).toNat)))).seq))).seq)] rfl rfl rfl (b := (!(cp ((ix ((rwD l (k + j))) (k + j))) ((ix ((rwD l (k + j))) ((k + (((j : Int) - 1)).toNat)))) == 0))) (fun ww => neqC ((ix ((rwD l (k + j))) (k + j))) ((ix ((rwD l (k + j))) ((k + (((j : Int) - 1)).toNat)))) _ _ ww) rfl)) ?_
          refine dr_done rfl (by kernel_rfl) (by kernel_rfl) ?_
          refine a_cond rfl (fun h10 => ?_) (fun h10 => ?_)
          · skip
            have h11 := t_not h10
            have h12 := f_beq h11
            refine a_rseq ?_
            refine rg_put (d := 45) (v := .ow 0) rfl (og rfl (op_move rfl rfl rfl)) ?_
            refine rg_put (d := 46) (v := .d (.fl (.int .i64 (((dd l (k + j)).length : Int))))) rfl (og rfl (op_move rfl rfl rfl)) ?_
            refine rg_put (d := 47) (v := .wn 0 k 2) rfl (og rfl (op_move rfl rfl rfl)) ?_
            refine rg_put (d := 48) (v := .d (.fl (.int .i64 (j : Int)))) rfl (og rfl (op_move rfl rfl rfl)) ?_
            refine rg_put (d := 49) (v := .pe 0 2 (k + j) 0) rfl (og rfl (op_index_wnD rfl Tryz.underlying27 ti32 rfl rfl rfl (j := j) (by omega) (by omega) rfl)) ?_
            refine rg_put (d := 50) (v := .d (.ag (eSrx ((Srx.mk (((ix ((rwD l (k + j))) (k + j))).dev) (((ix ((rwD l (k + j))) (k + j))).seq)))))) rfl (og rfl (of_eff (op_load_pes rfl Tryz.underlying32 rfl ti32 rfl rfl (tD_at (by omega)) rfl rfl rfl) rfl)) ?_
            refine rg_put (d := 51) (v := .pe 0 2 ((dd l (k + j)).length) 0) rfl (og rfl (op_index_tr rfl Tryz.underlying27 ti32 rfl rfl rfl (get_lt (tD_at (by omega))) rfl)) ?_
            refine rg_sto (nw := [(0, .tr 32 2 ((((tD eSrx ((rwD l (k + j))))).set ((dd l (k + j)).length) [.dv (.fl (.string (((Srx.mk (((ix ((rwD l (k + j))) (k + j))).dev) (((ix ((rwD l (k + j))) (k + j))).seq))).dev))), .dv (.fl (.int .i64 (((Srx.mk (((ix ((rwD l (k + j))) (k + j))).dev) (((ix ((rwD l (k + j))) (k + j))).seq))).seq)))])))]) rfl (og rfl (of_eff (op_store_pe rfl rfl ti32 rfl rfl (tD_at (by omega)) rfl (.d rfl) rfl rfl rfl) rfl)) ?_
            refine rg_done rfl ?_
            refine a_region ?_
            refine rg_put (d := 52) (v := .d (.fl (.int .i64 (((dd l (k + j)).length : Int))))) rfl (og rfl (op_move rfl rfl rfl)) ?_
            refine rg_put (d := 53) (v := .d (.fl (.int .i64 ((((dd l (k + j)).length : Int) + 1))))) rfl (og rfl (op_bin rfl rfl rfl (fun x y w => b_add64 _ _ _ x y w (by omega)) rfl)) ?_
            refine rg_put (d := 3) (v := .d (.fl (.int .i64 ((((dd l (k + j)).length : Int) + 1))))) rfl (og rfl (op_assign rfl rfl rfl)) ?_
            refine rg_done rfl ?_
            show A _ _ _ _ _ _ _
            refine a_region ?_
            refine rg_put (d := 33) (v := .d (.fl (.int .i64 (j : Int)))) rfl (og rfl (op_move rfl rfl rfl)) ?_
            refine rg_put (d := 34) (v := .d (.fl (.int .i64 (((j : Int) + 1))))) rfl (og rfl (op_bin rfl rfl rfl (fun x y w => b_add64 _ _ _ x y w (by omega)) rfl)) ?_
            refine rg_put (d := 5) (v := .d (.fl (.int .i64 (((j : Int) + 1))))) rfl (og rfl (op_assign rfl rfl rfl)) ?_
            refine rg_done rfl ?_
            have hc := h11
            rw [rwD_ix (by omega), rwD_ix (by omega), show k + ((j : Int) - 1).toNat = k + j - 1 by omega] at hc
            have hd := dd_new (.inr hc)
            have hdl : (dd l (k + (j + 1))).length = (dd l (k + j)).length + 1 := (congrArg List.length hd).trans (by rw [List.length_append]; rfl)
            have hst : (((tD eSrx ((rwD l (k + j))))).set ((dd l (k + j)).length) [.dv (.fl (.string (((Srx.mk (((ix ((rwD l (k + j))) (k + j))).dev) (((ix ((rwD l (k + j))) (k + j))).seq))).dev))), .dv (.fl (.int .i64 (((Srx.mk (((ix ((rwD l (k + j))) (k + j))).dev) (((ix ((rwD l (k + j))) (k + j))).seq))).seq)))]) = tD eSrx (rwD l (k + (j + 1))) := (tD_set (x := ix (rwD l (k + j)) (k + j)) rfl).trans (by rw [rwD_ix (q := k + j) (by omega)]; exact congrArg (tD eSrx) (rwD_set (by omega) (by omega) hc))
            show ∃ i, _ ∧ _ ∧ Imp _ _ _ _ _
            refine ⟨j + 1, ⟨by omega, by omega, by omega⟩, by omega, imp_forget rfl ⟨rfl, rfl, rfl, rfl, rfl, (ci (by omega)), (ci (by omega)), trivial⟩ ⟨rfl, (congrArg (fun z => Ob.tr 32 2 z) hst), trivial⟩⟩
          · skip
            have h13 := f_not h10
            have h14 := t_beq h13
            refine a_skip ?_
            show A _ _ _ _ _ _ _
            refine a_region ?_
            refine rg_put (d := 33) (v := .d (.fl (.int .i64 (j : Int)))) rfl (og rfl (op_move rfl rfl rfl)) ?_
            refine rg_put (d := 34) (v := .d (.fl (.int .i64 (((j : Int) + 1))))) rfl (og rfl (op_bin rfl rfl rfl (fun x y w => b_add64 _ _ _ x y w (by omega)) rfl)) ?_
            refine rg_put (d := 5) (v := .d (.fl (.int .i64 (((j : Int) + 1))))) rfl (og rfl (op_assign rfl rfl rfl)) ?_
            refine rg_done rfl ?_
            have hc := h13
            rw [rwD_ix (by omega), rwD_ix (by omega), show k + ((j : Int) - 1).toNat = k + j - 1 by omega] at hc
            have hd := dd_old (by omega) hc
            have hdl : (dd l (k + (j + 1))).length = (dd l (k + j)).length := congrArg List.length hd
            have hst : tD eSrx (rwD l (k + j)) = tD eSrx (rwD l (k + (j + 1))) := by unfold rwD; rw [show dd l (k + (j + 1)) = dd l (k + j) from hd]
            show ∃ i, _ ∧ _ ∧ Imp _ _ _ _ _
            refine ⟨j + 1, ⟨by omega, by omega, by omega⟩, by omega, imp_forget rfl ⟨rfl, rfl, rfl, rfl, rfl, (ci (by omega)), (ci (by omega)), trivial⟩ ⟨rfl, (congrArg (fun z => Ob.tr 32 2 z) hst), trivial⟩⟩
        · skip
          have h15 := f_dec h8
          refine a_exit ?_
          show A _ _ _ _ _ _ _
          refine a_rseq ?_
          have hkj : k + j = l.length := by omega
          rw [show (k + j) = l.length from hkj]
          rw [hkj] at hrl hp hdl0
          refine rg_put (d := 54) (v := .ow 0) rfl (og rfl (op_move rfl rfl rfl)) ?_
          refine rg_put (d := 55) (v := .d (.fl (.int .i64 (((dd l l.length).length : Int))))) rfl (og rfl (op_move rfl rfl rfl)) ?_
          refine rg_put (d := 56) (v := .wn 0 ((dd l l.length).length) 2) rfl (og rfl (op_winD rfl Tryz.underlying27 ti32 rfl rfl rfl (k := (dd l l.length).length) (by omega) (by omega) rfl)) ?_
          refine rg_sto (nw := [(0, .tr 32 2 (tD eSrx (((rwD l l.length).take ((dd l l.length).length))) ++ List.replicate ((rwD l l.length).length - ((dd l l.length).length)) (List.replicate 2 OC.un)))]) rfl (og rfl (of_eff (op_clear_wn rfl Tryz.underlying27 ti32 rfl (by kernel_rfl) (enc := eSrx) (fun _ => rfl) rfl rfl (by omega) rfl) rfl)) ?_
          refine rg_done rfl ?_
          refine a_rseq ?_
          have htk : ((rwD l l.length).take (dd l l.length).length).length = (dd l l.length).length := by rw [rwD_end]
          refine rg_put (d := 57) (v := .ow 0) rfl (og rfl (op_move rfl rfl rfl)) ?_
          refine rg_put (d := 58) (v := .d (.fl (.int .i64 (((dd l l.length).length : Int))))) rfl (og rfl (op_move rfl rfl rfl)) ?_
          refine rg_nam (d := 59) (v := .ow 101) (m := 101) (nw := [(101, .tr 32 2 (tD eSrx (((rwD l l.length).take ((dd l l.length).length))))), (0, .no)]) rfl (og rfl (of_eff (op_sliceOwnZ 101 rfl Tryz.underlying27 ti32 (enc := eSrx) (A := ((rwD l l.length).take ((dd l l.length).length))) (fun _ => rfl) rfl rfl rfl (by omega) (by omega) rfl) rfl)) rfl ?_
          refine rg_put (d := 2) (v := .ow 101) rfl (og rfl (op_assign rfl rfl rfl)) ?_
          refine rg_done rfl ?_
          refine a_ret ?_
          show ∃ m, _ ∧ _ ∧ _ ∧ _
          rw [rwD_end]
          exact ⟨101, by decide, rfl, rfl, rfl⟩
      · skip
        have h16 := f_beq h6
        refine a_skip ?_
        show A _ _ _ _ _ _ _
        refine a_region ?_
        refine rg_put (d := 14) (v := .d (.fl (.int .i64 (k : Int)))) rfl (og rfl (op_move rfl rfl rfl)) ?_
        refine rg_put (d := 15) (v := .d (.fl (.int .i64 (((k : Int) + 1))))) rfl (og rfl (op_bin rfl rfl rfl (fun x y w => b_add64 _ _ _ x y w (by omega)) rfl)) ?_
        refine rg_put (d := 3) (v := .d (.fl (.int .i64 (((k : Int) + 1))))) rfl (og rfl (op_assign rfl rfl rfl)) ?_
        refine rg_done rfl ?_
        have hx : (cp (ix l k) (ix l (k - 1)) == 0) = false := by have h := h6; rwa [show ((k : Int) - 1).toNat = k - 1 by omega] at h
        show ∃ i, _ ∧ _ ∧ Imp _ _ _ _ _
        refine ⟨k + 1, ⟨by omega, by omega, fun q h1 h2 => (Nat.lt_succ_iff_lt_or_eq.1 h2).elim (hq q h1) (fun e => by rw [e]; exact hx)⟩, by omega, imp_forget rfl ⟨rfl, rfl, (ci (by omega)), trivial⟩ ⟨rfl, rfl, trivial⟩⟩
    · skip
      have h17 := f_dec h4
      refine a_exit ?_
      show A _ _ _ _ _ _ _
      refine a_rseq ?_
      refine rg_put (d := 60) (v := .ow 0) rfl (og rfl (op_move rfl rfl rfl)) ?_
      refine rg_put (d := 2) (v := .ow 0) rfl (og rfl (op_assign rfl rfl rfl)) ?_
      refine rg_done rfl ?_
      refine a_ret ?_
      show ∃ m, _ ∧ _ ∧ _ ∧ _
      rw [show dd l l.length = l from (dd_all l.length (Nat.le_refl _) (fun q h1 h2 => hq q h1 (by omega))).trans (List.take_of_length_le (Nat.le_refl _))]
      exact ⟨0, by decide, rfl, rfl, rfl⟩
set_option maxHeartbeats 4000000 in
set_option maxRecDepth 100000 in
theorem hasC (l : List Srx) (s : Sen) (hl : l.length ≤ 1000) : Ctr Tryz.prog 16 [.sl 2 (List.map eSrx l), .ag (eSen s)] (.d (.fl (.bool (hasS l (⟨s.d.ddev, s.d.dseq⟩ : Srx))))) := by
  refine ctr (n := 32) (rs := #[.tmp 4]) (L := [(0, .d (.sl 2 (List.map eSrx l))), (1, .d (.ag (eSen s)))]) Tryz.func16 rfl rfl rfl rfl rfl (fun w0 U0 => ?_)
  refine a_rseq ?_
  refine rg_nam (d := 3) (v := .pt 101 0) (m := 101) (nw := [(101, .bx 63 (eSen s))]) rfl (og rfl (of_eff (op_box 101 rfl rfl rfl rfl) rfl)) rfl ?_
  refine rg_put (d := 4) (v := .d (.fl (.bool false))) rfl (og rfl (op_assign rfl rfl rfl)) ?_
  refine rg_done rfl ?_
  refine a_seq ?_
  refine a_rseq ?_
  refine rg_put (d := 5) (v := .d (.fl (.int .i64 0))) rfl (og rfl (op_assign rfl rfl rfl)) ?_
  refine rg_done rfl ?_
  refine a_block ?_
  refine a_loop (ι := Nat) (fun k => SS [(0, .d (.sl 2 (List.map eSrx l))), (1, .d (.ag (eSen s))), (3, .pt 101 0), (5, .d (.fl (.int .i64 (k : Int))))] [(101, .bx 63 (eSen s))]) (fun k => k ≤ l.length ∧ ∀ q, q < k → (eP (ix l q) (⟨s.d.ddev, s.d.dseq⟩ : Srx)) = false) (fun k => l.length - k) 0 (⟨by omega, fun q h => by omega⟩) (imp_forget rfl ⟨rfl, rfl, rfl, (by first | rfl | exact ci (by omega) | exact ci (by simp) | exact cd (by simp) | simp), trivial⟩ ⟨rfl, trivial⟩) (fun k hok => ?_)
  obtain ⟨hkk, hq⟩ := hok
  refine a_seq ?_
  refine a_rseq ?_
  refine rg_put (d := 6) (v := .d (.fl (.int .i64 (k : Int)))) rfl (og rfl (op_move rfl rfl rfl)) ?_
  refine rg_put (d := 7) (v := .d (.sl 2 (List.map eSrx l))) rfl (og rfl (op_move rfl rfl rfl)) ?_
  refine rg_put (d := 8) (v := .d (.fl (.int .i64 (l.length : Int)))) rfl (og rfl (s_len rfl Tryz.underlying27 rfl rfl)) ?_
  refine rg_put (d := 9) (v := .d (.fl (.bool ((decide ((k : Int) < (l.length : Int))))))) rfl (og rfl (op_bin rfl rfl rfl (b_lss _ _ _ _) rfl)) ?_
  refine rg_done rfl ?_
  refine a_cond rfl (fun h1 => ?_) (fun h1 => ?_)
  · skip
    have h2 := t_dec h1
    refine a_skip ?_
    show A _ _ _ _ _ _ _
    refine a_seq ?_
    refine a_block ?_
    refine a_dseq (by kernel_rfl) ?_
    refine dr_put (d := 12) (v := .d (.sl 2 (List.map eSrx l))) rfl (og rfl (op_move rfl rfl rfl)) ?_
    refine dr_put (d := 13) (v := .d (.fl (.int .i64 (k : Int)))) rfl (og rfl (op_move rfl rfl rfl)) ?_
    refine dr_put (d := 14) (v := .el ((eSrx (ix l k)))) rfl (og rfl (s_index rfl Tryz.underlying27 ti32 rfl rfl (by omega) (row_at (by omega)) rfl)) ?_
    refine dr_put (d := 15) (v := .el ((List.drop 0 ((eSrx (ix l k)))))) rfl (og rfl (of_eff (s_field_el rfl Tryz.underlying32 rfl ti9 rfl rfl rfl) rfl)) ?_
    refine dr_put (d := 16) (v := .d (.fl (.string ((ix l k).dev)))) rfl (og rfl (op_load_el rfl Tryz.underlying9 rfl rfl rfl rfl)) ?_
    refine dr_put (d := 17) (v := .pt 101 0) rfl (og rfl (of_eff (s_field_pt rfl Tryz.underlying63 rfl ti61 rfl rfl rfl) rfl)) ?_
    refine dr_put (d := 18) (v := .pt 101 0) rfl (og rfl (of_eff (s_field_pt rfl Tryz.underlying61 rfl ti9 rfl rfl rfl) rfl)) ?_
    refine dr_put (d := 19) (v := .d (.fl (.string s.d.ddev))) rfl (og rfl (op_load_pt rfl Tryz.underlying9 rfl rfl rfl rfl rfl)) ?_
    refine dr_put (d := 20) (v := .d (.fl (.bool ((sEq ((ix l k).dev) s.d.ddev))))) rfl (og rfl (op_bin rfl rfl rfl (b_seq _ _ _) rfl)) ?_
    refine dr_put (d := 21) (v := .d (.fl (.bool ((sEq ((ix l k).dev) s.d.ddev))))) rfl (og rfl (op_move rfl rfl rfl)) ?_
    rcases fot ((sEq ((ix l k).dev) s.d.ddev)) with h3 | h3
    · skip
      refine dr_put (d := 22) (v := .d (.fl undef)) rfl (on rfl rfl rfl h3) ?_
      refine dr_put (d := 23) (v := .d (.fl undef)) rfl (on rfl rfl rfl h3) ?_
      refine dr_put (d := 24) (v := .d (.fl undef)) rfl (on rfl rfl rfl h3) ?_
      refine dr_put (d := 25) (v := .d (.fl undef)) rfl (on rfl rfl rfl h3) ?_
      refine dr_put (d := 26) (v := .d (.fl undef)) rfl (on rfl rfl rfl h3) ?_
      refine dr_put (d := 27) (v := .d (.fl undef)) rfl (on rfl rfl rfl h3) ?_
      refine dr_put (d := 28) (v := .d (.fl undef)) rfl (on rfl rfl rfl h3) ?_
      refine dr_put (d := 29) (v := .d (.fl undef)) rfl (on rfl rfl rfl h3) ?_
      refine dr_put (d := 30) (v := .d (.fl undef)) rfl (on rfl rfl rfl h3) ?_
      refine dr_put (d := 31) (v := .d (.fl (.bool false))) rfl (og rfl (op_pick rfl rfl (by rw [h3]; rfl) rfl)) ?_
      refine dr_done rfl (sepB_of [0, 0, 3, 7, 15, 0, 32, 96, 255, 511, 1023, 1023, 4095, 8191, 16383, 1023, 33791, 99327, 262143, 524287] (by kernel_rfl)) (by kernel_rfl) ?_
      refine a_condF rfl rfl ?_
      refine a_skip ?_
      show A _ _ _ _ _ _ _
      refine a_region ?_
      refine rg_put (d := 10) (v := .d (.fl (.int .i64 (k : Int)))) rfl (og rfl (op_move rfl rfl rfl)) ?_
      refine rg_put (d := 11) (v := .d (.fl (.int .i64 (((k : Int) + 1))))) rfl (og rfl (op_bin rfl rfl rfl (fun x y w => b_add64 _ _ _ x y w (by omega)) rfl)) ?_
      refine rg_put (d := 5) (v := .d (.fl (.int .i64 (((k : Int) + 1))))) rfl (og rfl (op_assign rfl rfl rfl)) ?_
      refine rg_done rfl ?_
      have hx : (eP (ix l k) (⟨s.d.ddev, s.d.dseq⟩ : Srx)) = false := by unfold eP; simp only [h1, h3, Bool.true_or, Bool.false_or, Bool.or_true, Bool.or_false, Bool.not_true, Bool.not_false, cond_true, cond_false, Bool.true_and, Bool.false_and, Bool.and_true, Bool.and_false] <;> rfl
      show ∃ i, _ ∧ _ ∧ Imp _ _ _ _ _
      refine ⟨k + 1, ⟨by omega, fun q h => (Nat.lt_succ_iff_lt_or_eq.1 h).elim (hq q) (fun e => by rw [e]; exact hx)⟩, by omega, imp_forget rfl ⟨rfl, rfl, rfl, (by first | rfl | exact ci (by omega) | exact ci (by simp) | exact cd (by simp) | simp), trivial⟩ ⟨rfl, trivial⟩⟩
    · skip
      refine dr_put (d := 22) (v := .d (.sl 2 (List.map eSrx l))) rfl (oy rfl rfl rfl h3 (op_move rfl rfl rfl)) ?_
      refine dr_put (d := 23) (v := .d (.fl (.int .i64 (k : Int)))) rfl (oy rfl rfl rfl h3 (op_move rfl rfl rfl)) ?_
      refine dr_put (d := 24) (v := .el ((eSrx (ix l k)))) rfl (oy rfl rfl rfl h3 (s_index rfl Tryz.underlying27 ti32 rfl rfl (by omega) (row_at (by omega)) rfl)) ?_
      refine dr_put (d := 25) (v := .el ((List.drop 1 ((eSrx (ix l k)))))) rfl (oy rfl rfl rfl h3 (of_eff (s_field_el rfl Tryz.underlying32 rfl ti3 rfl rfl rfl) rfl)) ?_
      refine dr_put (d := 26) (v := .d (.fl (.int .i64 ((ix l k).seq)))) rfl (oy rfl rfl rfl h3 (op_load_el rfl Tryz.underlying3 rfl rfl rfl rfl)) ?_
      refine dr_put (d := 27) (v := .pt 101 0) rfl (oy rfl rfl rfl h3 (of_eff (s_field_pt rfl Tryz.underlying63 rfl ti61 rfl rfl rfl) rfl)) ?_
      refine dr_put (d := 28) (v := .pt 101 1) rfl (oy rfl rfl rfl h3 (of_eff (s_field_pt rfl Tryz.underlying61 rfl ti3 rfl rfl rfl) rfl)) ?_
      refine dr_put (d := 29) (v := .d (.fl (.int .i64 s.d.dseq))) rfl (oy rfl rfl rfl h3 (op_load_pt rfl Tryz.underlying3 rfl rfl rfl rfl rfl)) ?_
      refine dr_put (d := 30) (v := .d (.fl (.bool (((ix l k).seq == s.d.dseq))))) rfl (oy rfl rfl rfl h3 (op_bin rfl rfl rfl (b_eql _ _ _ _) rfl)) ?_
      refine dr_put (d := 31) (v := .d (.fl (.bool (((ix l k).seq == s.d.dseq))))) rfl (og rfl (op_pick rfl rfl (by rw [h3]; rfl) rfl)) ?_
      refine dr_done rfl (sepB_of [0, 0, 3, 7, 15, 0, 32, 96, 255, 511, 1023, 1023, 4095, 8191, 16383, 1023, 33791, 99327, 262143, 524287] (by kernel_rfl)) (by kernel_rfl) ?_
      refine a_cond rfl (fun h4 => ?_) (fun h4 => ?_)
      · skip
        have h5 := t_beq h4
        refine a_rseq ?_
        refine rg_put (d := 4) (v := .d (.fl (.bool true))) rfl (og rfl (op_assign rfl rfl rfl)) ?_
        refine rg_done rfl ?_
        refine a_ret ?_
        show ∃ ds, ResL _ _ _ ds ∧ RV.of ds = _
        refine ⟨[.fl (.bool true)], (.cons (.tmp rfl (.d _)) .nil), ?_⟩
        have hx : (eP (ix l k) (⟨s.d.ddev, s.d.dseq⟩ : Srx)) = true := by unfold eP; simp only [h1, h3, h4, Bool.true_or, Bool.false_or, Bool.or_true, Bool.or_false, Bool.not_true, Bool.not_false, cond_true, cond_false, Bool.true_and, Bool.false_and, Bool.and_true, Bool.and_false] <;> rfl
        rw [show hasS l (⟨s.d.ddev, s.d.dseq⟩ : Srx) = true from hasS_y (by omega) hx]; rfl
      · skip
        have h6 := f_beq h4
        refine a_skip ?_
        show A _ _ _ _ _ _ _
        refine a_region ?_
        refine rg_put (d := 10) (v := .d (.fl (.int .i64 (k : Int)))) rfl (og rfl (op_move rfl rfl rfl)) ?_
        refine rg_put (d := 11) (v := .d (.fl (.int .i64 (((k : Int) + 1))))) rfl (og rfl (op_bin rfl rfl rfl (fun x y w => b_add64 _ _ _ x y w (by omega)) rfl)) ?_
        refine rg_put (d := 5) (v := .d (.fl (.int .i64 (((k : Int) + 1))))) rfl (og rfl (op_assign rfl rfl rfl)) ?_
        refine rg_done rfl ?_
        have hx : (eP (ix l k) (⟨s.d.ddev, s.d.dseq⟩ : Srx)) = false := by unfold eP; simp only [h1, h3, h4, Bool.true_or, Bool.false_or, Bool.or_true, Bool.or_false, Bool.not_true, Bool.not_false, cond_true, cond_false, Bool.true_and, Bool.false_and, Bool.and_true, Bool.and_false] <;> rfl
        show ∃ i, _ ∧ _ ∧ Imp _ _ _ _ _
        refine ⟨k + 1, ⟨by omega, fun q h => (Nat.lt_succ_iff_lt_or_eq.1 h).elim (hq q) (fun e => by rw [e]; exact hx)⟩, by omega, imp_forget rfl ⟨rfl, rfl, rfl, (by first | rfl | exact ci (by omega) | exact ci (by simp) | exact cd (by simp) | simp), trivial⟩ ⟨rfl, trivial⟩⟩
  · skip
    have h7 := f_dec h1
    refine a_exit ?_
    show A _ _ _ _ _ _ _
    refine a_rseq ?_
    refine rg_put (d := 4) (v := .d (.fl (.bool false))) rfl (og rfl (op_assign rfl rfl rfl)) ?_
    refine rg_done rfl ?_
    refine a_ret ?_
    show ∃ ds, ResL _ _ _ ds ∧ RV.of ds = _
    refine ⟨[.fl (.bool false)], (.cons (.tmp rfl (.d _)) .nil), ?_⟩
    rw [show hasS l (⟨s.d.ddev, s.d.dseq⟩ : Srx) = false from hasS_n (fun q h => hq q (by omega))]; rfl
set_option maxHeartbeats 4000000 in
set_option maxRecDepth 100000 in
theorem souC (l : List Srx) (s : Sen) (hl : l.length ≤ 1000) (hn : hasS l (⟨s.d.ddev, s.d.dseq⟩ : Srx) = false) : Ctr Tryz.prog 17 [.sl 2 (List.map eSrx l), .ag (eSen s)] (.d (.sl 2 (List.map eSrx (insD l (⟨s.d.ddev, s.d.dseq⟩ : Srx))))) := by
  refine ctr (n := 67) (rs := #[.tmp 4]) (L := [(0, .d (.sl 2 (List.map eSrx l))), (1, .d (.ag (eSen s)))]) Tryz.func17 rfl rfl rfl rfl rfl (fun w0 U0 => ?_)
  refine a_rseq ?_
  refine rg_nam (d := 3) (v := .pt 101 0) (m := 101) (nw := [(101, .bx 63 (eSen s))]) rfl (og rfl (of_eff (op_box 101 rfl rfl rfl rfl) rfl)) rfl ?_
  refine rg_put (d := 4) (v := .d (.fl (.slice none 0 0))) rfl (og rfl (op_assign rfl rfl rfl)) ?_
  refine rg_done rfl ?_
  refine a_rseq ?_
  refine rg_put (d := 8) (v := .pt 101 0) rfl (og rfl (of_eff (s_field_pt rfl Tryz.underlying63 rfl ti61 rfl rfl rfl) rfl)) ?_
  refine rg_put (d := 9) (v := .pt 101 0) rfl (og rfl (of_eff (s_field_pt rfl Tryz.underlying61 rfl ti9 rfl rfl rfl) rfl)) ?_
  refine rg_put (d := 10) (v := .d (.fl (.string s.d.ddev))) rfl (og rfl (op_load_pt rfl Tryz.underlying9 rfl rfl rfl rfl rfl)) ?_
  refine rg_put (d := 11) (v := .pt 101 0) rfl (og rfl (of_eff (s_field_pt rfl Tryz.underlying63 rfl ti61 rfl rfl rfl) rfl)) ?_
  refine rg_put (d := 12) (v := .pt 101 1) rfl (og rfl (of_eff (s_field_pt rfl Tryz.underlying61 rfl ti3 rfl rfl rfl) rfl)) ?_
  refine rg_put (d := 13) (v := .d (.fl (.int .i64 s.d.dseq))) rfl (og rfl (op_load_pt rfl Tryz.underlying3 rfl rfl rfl rfl rfl)) ?_
  refine rg_put (d := 14) (v := .d (.ag (eSrx (Srx.mk s.d.ddev s.d.dseq)))) rfl (og rfl (of_eff (op_build rfl Tryz.underlying32 ti32 rfl (by kernel_rfl) (by kernel_rfl) (pl := #[(0, 1), (1, 1)]) (by kernel_rfl) (.cons rfl rfl (.d _) rfl rfl rfl (.cons rfl rfl (.d _) rfl rfl rfl .nil)) rfl) rfl)) ?_
  refine rg_nam (d := 5) (v := .pt 102 0) (m := 102) (nw := [(102, .bx 32 ([.fl (.string (⟨#[]⟩)), .fl (.int .i64 0)]))]) rfl (og rfl (of_eff (s_alloc 102 rfl ti32 (by kernel_rfl) rfl) rfl)) rfl ?_
  refine rg_sto (nw := [(102, .bx 32 ((eSrx (Srx.mk s.d.ddev s.d.dseq))))]) rfl (og rfl (of_eff (s_store rfl rfl ti32 rfl rfl rfl rfl rfl rfl) rfl)) ?_
  refine rg_done rfl ?_
  refine a_rseq ?_
  refine rg_put (d := 6) (v := .d (.fl (.int .i64 0))) rfl (og rfl (op_assign rfl rfl rfl)) ?_
  refine rg_done rfl ?_
  refine a_seq ?_
  refine a_block ?_
  refine a_loop (ι := Nat) (fun j => SS [(0, .d (.sl 2 (List.map eSrx l))), (1, .d (.ag (eSen s))), (3, .pt 101 0), (4, .d (.fl (.slice none 0 0))), (5, .pt 102 0), (6, .d (.fl (.int .i64 (j : Int))))] [(101, .bx 63 (eSen s)), (102, .bx 32 ((eSrx (Srx.mk s.d.ddev s.d.dseq))))]) (fun j => j ≤ l.length ∧ ∀ q, q < j → (lb (ix l q) (⟨s.d.ddev, s.d.dseq⟩ : Srx)) = true) (fun j => l.length - j) 0 (⟨by omega, fun q h => by omega⟩) (imp_forget rfl ⟨rfl, rfl, rfl, rfl, rfl, (by first | rfl | exact ci (by omega) | exact ci (by simp) | exact cd (by simp) | simp), trivial⟩ ⟨rfl, rfl, trivial⟩) (fun j hok => ?_)
  obtain ⟨hj, hq⟩ := hok
  refine a_seq ?_
  refine a_dseq (by kernel_rfl) ?_
  refine dr_put (d := 15) (v := .d (.fl (.int .i64 (j : Int)))) rfl (og rfl (op_move rfl rfl rfl)) ?_
  refine dr_put (d := 16) (v := .d (.sl 2 (List.map eSrx l))) rfl (og rfl (op_move rfl rfl rfl)) ?_
  refine dr_put (d := 17) (v := .d (.fl (.int .i64 (l.length : Int)))) rfl (og rfl (s_len rfl Tryz.underlying27 rfl rfl)) ?_
  refine dr_put (d := 18) (v := .d (.fl (.bool ((decide ((j : Int) < (l.length : Int))))))) rfl (og rfl (op_bin rfl rfl rfl (b_lss _ _ _ _) rfl)) ?_
  refine dr_put (d := 19) (v := .d (.fl (.bool ((decide ((j : Int) < (l.length : Int))))))) rfl (og rfl (op_move rfl rfl rfl)) ?_
  rcases fot ((decide ((j : Int) < (l.length : Int)))) with h1 | h1
  · skip
    have h2 := f_dec h1
    refine dr_put (d := 20) (v := .d (.fl undef)) rfl (on rfl rfl rfl h1) ?_
    refine dr_put (d := 21) (v := .d (.fl undef)) rfl (on rfl rfl rfl h1) ?_
    refine dr_put (d := 22) (v := .d (.fl undef)) rfl (on rfl rfl rfl h1) ?_
    refine dr_put (d := 23) (v := .d (.fl undef)) rfl (on rfl rfl rfl h1) ?_
    refine dr_put (d := 24) (v := .d (.fl undef)) rfl (on rfl rfl rfl h1) ?_
    refine dr_put (d := 25) (v := .d (.fl undef)) rfl (on rfl rfl rfl h1) ?_
    refine dr_put (d := 26) (v := .d (.fl undef)) rfl (on rfl rfl rfl h1) ?_
    refine dr_put (d := 27) (v := .d (.fl undef)) rfl (on rfl rfl rfl h1) ?_
    refine dr_put (d := 28) (v := .d (.fl undef)) rfl (on rfl rfl rfl h1) ?_
    refine dr_put (d := 29) (v := .d (.fl undef)) rfl (ou rfl rfl rfl) ?_
    refine dr_put (d := 30) (v := .d (.fl undef)) rfl (ou rfl rfl rfl) ?_
    refine dr_put (d := 31) (v := .d (.fl undef)) rfl (ou rfl rfl rfl) ?_
    refine dr_put (d := 32) (v := .d (.fl undef)) rfl (ou rfl rfl rfl) ?_
    refine dr_put (d := 33) (v := .d (.fl undef)) rfl (ou rfl rfl rfl) ?_
    refine dr_put (d := 34) (v := .d (.fl undef)) rfl (ou rfl rfl rfl) ?_
    refine dr_put (d := 35) (v := .d (.fl undef)) rfl (ou rfl rfl rfl) ?_
    refine dr_put (d := 36) (v := .d (.fl undef)) rfl (ou rfl rfl rfl) ?_
    refine dr_put (d := 37) (v := .d (.fl undef)) rfl (ou rfl rfl rfl) ?_
    refine dr_put (d := 38) (v := .d (.fl undef)) rfl (ou rfl rfl rfl) ?_
    refine dr_put (d := 39) (v := .d (.fl undef)) rfl (ou rfl rfl rfl) ?_
    refine dr_put (d := 40) (v := .d (.fl undef)) rfl (ou rfl rfl rfl) ?_
    refine dr_put (d := 41) (v := .d (.fl undef)) rfl (ou rfl rfl rfl) ?_
    refine dr_put (d := 42) (v := .d (.fl undef)) rfl (ou rfl rfl rfl) ?_
    refine dr_put (d := 43) (v := .d (.fl undef)) rfl (ou rfl rfl rfl) ?_
    refine dr_put (d := 44) (v := .d (.fl undef)) rfl (ou rfl rfl rfl) ?_
    refine dr_put (d := 45) (v := .d (.fl undef)) rfl (ou rfl rfl rfl) ?_
    refine dr_put (d := 46) (v := .d (.fl undef)) rfl (ou rfl rfl rfl) ?_
    refine dr_put (d := 47) (v := .d (.fl undef)) rfl (on rfl rfl rfl h1) ?_
    refine dr_put (d := 48) (v := .d (.fl (.bool false))) rfl (og rfl (op_pick rfl rfl (by rw [h1]; rfl) rfl)) ?_
    refine dr_done rfl (sepB_of [0, 0, 2, 7, 15, 31, 31, 127, 255, 511, 31, 1055, 4095, 8191, 16383, 16383, 65535, 131071, 262143, 16383, 540671, 2097151, 4194303, 8388607, 8388607, 33554431, 67108863, 134217727, 8388607, 276824063, 1073741823, 2147483647, 4294967295, 8589934591] (by kernel_rfl)) (by kernel_rfl) ?_
    refine a_condF rfl rfl ?_
    refine a_exit ?_
    show A _ _ _ _ _ _ _
    refine a_rseq ?_
    have hat := srI_at hn hj hq (fun h => absurd h (by omega))
    refine rg_nam (d := 51) (v := .ow 103) (m := 103) (nw := [(103, .tr 32 2 (tD eSrx []))]) rfl (og rfl (of_eff (op_slice0 103 rfl Tryz.underlying27 ti32 rfl) rfl)) rfl ?_
    refine rg_put (d := 7) (v := .ow 103) rfl (og rfl (op_assign rfl rfl rfl)) ?_
    refine rg_done rfl ?_
    refine a_rseq ?_
    refine rg_put (d := 52) (v := .ow 103) rfl (og rfl (op_move rfl rfl rfl)) ?_
    refine rg_put (d := 53) (v := .d (.sl 2 (List.map eSrx l))) rfl (og rfl (op_move rfl rfl rfl)) ?_
    refine rg_put (d := 54) (v := .d (.fl (.int .i64 (j : Int)))) rfl (og rfl (op_move rfl rfl rfl)) ?_
    refine rg_put (d := 55) (v := .d (.sl 2 (List.map eSrx (((l.drop 0).take (j - 0)))))) rfl (og rfl (s_slice rfl Tryz.underlying27 ti32 rfl (.no _) (.so (n := j) _ rfl (by omega)) (by omega) (by omega) rfl)) ?_
    refine rg_nam (d := 56) (v := .ow 104) (m := 104) (nw := [(104, .tr 32 2 (tD eSrx (([] ++ ((l.drop 0).take (j - 0)))))), (103, .no)]) rfl (og rfl (of_eff (s_append_td 104 rfl Tryz.underlying27 ti32 rfl rfl rfl rfl rfl (.d _) (by simp only [List.length_append, List.length_cons, List.length_nil, List.length_take, List.length_drop]; omega) rfl) rfl)) rfl ?_
    refine rg_put (d := 7) (v := .ow 104) rfl (og rfl (op_assign rfl rfl rfl)) ?_
    refine rg_done rfl ?_
    refine a_rseq ?_
    refine rg_put (d := 57) (v := .ow 104) rfl (og rfl (op_move rfl rfl rfl)) ?_
    refine rg_put (d := 58) (v := .d (.ag (eSrx (Srx.mk s.d.ddev s.d.dseq)))) rfl (og rfl (of_eff (s_load_pts rfl Tryz.underlying32 rfl ti32 rfl rfl rfl rfl) rfl)) ?_
    refine rg_put (d := 59) (v := .d (.sl 2 (List.map eSrx [(Srx.mk s.d.ddev s.d.dseq)]))) rfl (og rfl (of_eff (op_slices rfl Tryz.underlying27 ti32 rfl rfl rfl (by kernel_rfl) (xs := [.ag (eSrx (Srx.mk s.d.ddev s.d.dseq))]) rfl rfl (.cons rfl rfl (.d _) rfl rfl rfl .nil) rfl) rfl)) ?_
    refine rg_nam (d := 60) (v := .ow 105) (m := 105) (nw := [(105, .tr 32 2 (tD eSrx ((([] ++ ((l.drop 0).take (j - 0))) ++ [(Srx.mk s.d.ddev s.d.dseq)])))), (104, .no)]) rfl (og rfl (of_eff (s_append_td 105 rfl Tryz.underlying27 ti32 rfl rfl rfl rfl rfl (.d _) (by simp only [List.length_append, List.length_cons, List.length_nil, List.length_take, List.length_drop]; omega) rfl) rfl)) rfl ?_
    refine rg_put (d := 7) (v := .ow 105) rfl (og rfl (op_assign rfl rfl rfl)) ?_
    refine rg_done rfl ?_
    refine a_rseq ?_
    refine rg_put (d := 61) (v := .ow 105) rfl (og rfl (op_move rfl rfl rfl)) ?_
    refine rg_put (d := 62) (v := .d (.sl 2 (List.map eSrx l))) rfl (og rfl (op_move rfl rfl rfl)) ?_
    refine rg_put (d := 63) (v := .d (.fl (.int .i64 (j : Int)))) rfl (og rfl (op_move rfl rfl rfl)) ?_
    refine rg_put (d := 64) (v := .d (.sl 2 (List.map eSrx (l.drop j)))) rfl (og rfl (s_sliceTail rfl Tryz.underlying27 ti32 rfl (.so (n := j) _ rfl (by omega)) (by omega) rfl)) ?_
    refine rg_nam (d := 65) (v := .ow 106) (m := 106) (nw := [(106, .tr 32 2 (tD eSrx (((([] ++ ((l.drop 0).take (j - 0))) ++ [(Srx.mk s.d.ddev s.d.dseq)]) ++ (l.drop j))))), (105, .no)]) rfl (og rfl (of_eff (s_append_td 106 rfl Tryz.underlying27 ti32 rfl rfl rfl rfl rfl (.d _) (by simp only [List.length_append, List.length_cons, List.length_nil, List.length_take, List.length_drop]; omega) rfl) rfl)) rfl ?_
    refine rg_put (d := 7) (v := .ow 106) rfl (og rfl (op_assign rfl rfl rfl)) ?_
    refine rg_done rfl ?_
    refine a_rseq ?_
    refine rg_put (d := 66) (v := .ow 106) rfl (og rfl (op_move rfl rfl rfl)) ?_
    refine rg_put (d := 4) (v := .ow 106) rfl (og rfl (op_assign rfl rfl rfl)) ?_
    refine rg_done rfl ?_
    refine a_imp (imp_leakT 4 106 rfl rfl) ?_
    refine a_ret ?_
    show ∃ ds, ResL _ _ _ ds ∧ RV.of ds = _
    refine ⟨[.sl 2 (List.map eSrx (((([] ++ ((l.drop 0).take (j - 0))) ++ [(Srx.mk s.d.ddev s.d.dseq)]) ++ (l.drop j))))], (.cons (.tmp rfl (.d _)) .nil), ?_⟩
    rw [← hat]; rfl
  · skip
    have h3 := t_dec h1
    refine dr_put (d := 20) (v := .d (.sl 2 (List.map eSrx l))) rfl (oy rfl rfl rfl h1 (op_move rfl rfl rfl)) ?_
    refine dr_put (d := 21) (v := .d (.fl (.int .i64 (j : Int)))) rfl (oy rfl rfl rfl h1 (op_move rfl rfl rfl)) ?_
    refine dr_put (d := 22) (v := .el ((eSrx (ix l j)))) rfl (oy rfl rfl rfl h1 (s_index rfl Tryz.underlying27 ti32 rfl rfl (by omega) (row_at (by omega)) rfl)) ?_
    refine dr_put (d := 23) (v := .el ((List.drop 0 ((eSrx (ix l j)))))) rfl (oy rfl rfl rfl h1 (of_eff (s_field_el rfl Tryz.underlying32 rfl ti9 rfl rfl rfl) rfl)) ?_
    refine dr_put (d := 24) (v := .d (.fl (.string ((ix l j).dev)))) rfl (oy rfl rfl rfl h1 (op_load_el rfl Tryz.underlying9 rfl rfl rfl rfl)) ?_
    refine dr_put (d := 25) (v := .pt 102 0) rfl (oy rfl rfl rfl h1 (of_eff (s_field_pt rfl Tryz.underlying32 rfl ti9 rfl rfl rfl) rfl)) ?_
    refine dr_put (d := 26) (v := .d (.fl (.string ((Srx.mk s.d.ddev s.d.dseq).dev)))) rfl (oy rfl rfl rfl h1 (op_load_pt rfl Tryz.underlying9 rfl rfl rfl rfl rfl)) ?_
    refine dr_put (d := 27) (v := .d (.fl (.bool ((sLt ((ix l j).dev) ((Srx.mk s.d.ddev s.d.dseq).dev)))))) rfl (oy rfl rfl rfl h1 (op_bin rfl rfl rfl (b_slt _ _ _) rfl)) ?_
    refine dr_put (d := 28) (v := .d (.fl (.bool ((sLt ((ix l j).dev) ((Srx.mk s.d.ddev s.d.dseq).dev)))))) rfl (oy rfl rfl rfl h1 (op_move rfl rfl rfl)) ?_
    rcases fot ((sLt ((ix l j).dev) ((Srx.mk s.d.ddev s.d.dseq).dev))) with h4 | h4
    · skip
      refine dr_put (d := 29) (v := .d (.sl 2 (List.map eSrx l))) rfl (oy rfl rfl rfl h4 (op_move rfl rfl rfl)) ?_
      refine dr_put (d := 30) (v := .d (.fl (.int .i64 (j : Int)))) rfl (oy rfl rfl rfl h4 (op_move rfl rfl rfl)) ?_
      refine dr_put (d := 31) (v := .el ((eSrx (ix l j)))) rfl (oy rfl rfl rfl h4 (s_index rfl Tryz.underlying27 ti32 rfl rfl (by omega) (row_at (by omega)) rfl)) ?_
      refine dr_put (d := 32) (v := .el ((List.drop 0 ((eSrx (ix l j)))))) rfl (oy rfl rfl rfl h4 (of_eff (s_field_el rfl Tryz.underlying32 rfl ti9 rfl rfl rfl) rfl)) ?_
      refine dr_put (d := 33) (v := .d (.fl (.string ((ix l j).dev)))) rfl (oy rfl rfl rfl h4 (op_load_el rfl Tryz.underlying9 rfl rfl rfl rfl)) ?_
      refine dr_put (d := 34) (v := .pt 102 0) rfl (oy rfl rfl rfl h4 (of_eff (s_field_pt rfl Tryz.underlying32 rfl ti9 rfl rfl rfl) rfl)) ?_
      refine dr_put (d := 35) (v := .d (.fl (.string ((Srx.mk s.d.ddev s.d.dseq).dev)))) rfl (oy rfl rfl rfl h4 (op_load_pt rfl Tryz.underlying9 rfl rfl rfl rfl rfl)) ?_
      refine dr_put (d := 36) (v := .d (.fl (.bool ((sEq ((ix l j).dev) ((Srx.mk s.d.ddev s.d.dseq).dev)))))) rfl (oy rfl rfl rfl h4 (op_bin rfl rfl rfl (b_seq _ _ _) rfl)) ?_
      refine dr_put (d := 37) (v := .d (.fl (.bool ((sEq ((ix l j).dev) ((Srx.mk s.d.ddev s.d.dseq).dev)))))) rfl (oy rfl rfl rfl h4 (op_move rfl rfl rfl)) ?_
      rcases fot ((sEq ((ix l j).dev) ((Srx.mk s.d.ddev s.d.dseq).dev))) with h5 | h5
      · skip
        refine dr_put (d := 38) (v := .d (.fl undef)) rfl (on rfl rfl rfl h5) ?_
        refine dr_put (d := 39) (v := .d (.fl undef)) rfl (on rfl rfl rfl h5) ?_
        refine dr_put (d := 40) (v := .d (.fl undef)) rfl (on rfl rfl rfl h5) ?_
        refine dr_put (d := 41) (v := .d (.fl undef)) rfl (on rfl rfl rfl h5) ?_
        refine dr_put (d := 42) (v := .d (.fl undef)) rfl (on rfl rfl rfl h5) ?_
        refine dr_put (d := 43) (v := .d (.fl undef)) rfl (on rfl rfl rfl h5) ?_
        refine dr_put (d := 44) (v := .d (.fl undef)) rfl (on rfl rfl rfl h5) ?_
        refine dr_put (d := 45) (v := .d (.fl undef)) rfl (on rfl rfl rfl h5) ?_
        refine dr_put (d := 46) (v := .d (.fl (.bool false))) rfl (oy rfl rfl rfl h4 (op_pick rfl rfl (by rw [h5]; rfl) rfl)) ?_
        refine dr_put (d := 47) (v := .d (.fl (.bool false))) rfl (oy rfl rfl rfl h1 (op_pick rfl rfl (by rw [h4]; rfl) rfl)) ?_
        refine dr_put (d := 48) (v := .d (.fl (.bool false))) rfl (og rfl (op_pick rfl rfl (by rw [h1]; rfl) rfl)) ?_
        refine dr_done rfl (sepB_of [0, 0, 2, 7, 15, 31, 31, 127, 255, 511, 31, 1055, 4095, 8191, 16383, 16383, 65535, 131071, 262143, 16383, 540671, 2097151, 4194303, 8388607, 8388607, 33554431, 67108863, 134217727, 8388607, 276824063, 1073741823, 2147483647, 4294967295, 8589934591] (by kernel_rfl)) (by kernel_rfl) ?_
        refine a_condF rfl rfl ?_
        refine a_exit ?_
        show A _ _ _ _ _ _ _
        refine a_rseq ?_
        have hx : (lb (ix l j) (⟨s.d.ddev, s.d.dseq⟩ : Srx)) = false := by unfold lb; simp only [h1, h4, h5, Bool.true_or, Bool.false_or, Bool.or_true, Bool.or_false, Bool.not_true, Bool.not_false, cond_true, cond_false, Bool.true_and, Bool.false_and, Bool.and_true, Bool.and_false] <;> rfl
        have hat := srI_at hn hj hq (fun _ => hx)
        refine rg_nam (d := 51) (v := .ow 107) (m := 107) (nw := [(107, .tr 32 2 (tD eSrx []))]) rfl (og rfl (of_eff (op_slice0 107 rfl Tryz.underlying27 ti32 rfl) rfl)) rfl ?_
        refine rg_put (d := 7) (v := .ow 107) rfl (og rfl (op_assign rfl rfl rfl)) ?_
        refine rg_done rfl ?_
        refine a_rseq ?_
        refine rg_put (d := 52) (v := .ow 107) rfl (og rfl (op_move rfl rfl rfl)) ?_
        refine rg_put (d := 53) (v := .d (.sl 2 (List.map eSrx l))) rfl (og rfl (op_move rfl rfl rfl)) ?_
        refine rg_put (d := 54) (v := .d (.fl (.int .i64 (j : Int)))) rfl (og rfl (op_move rfl rfl rfl)) ?_
        refine rg_put (d := 55) (v := .d (.sl 2 (List.map eSrx (((l.drop 0).take (j - 0)))))) rfl (og rfl (s_slice rfl Tryz.underlying27 ti32 rfl (.no _) (.so (n := j) _ rfl (by omega)) (by omega) (by omega) rfl)) ?_
        refine rg_nam (d := 56) (v := .ow 108) (m := 108) (nw := [(108, .tr 32 2 (tD eSrx (([] ++ ((l.drop 0).take (j - 0)))))), (107, .no)]) rfl (og rfl (of_eff (s_append_td 108 rfl Tryz.underlying27 ti32 rfl rfl rfl rfl rfl (.d _) (by simp only [List.length_append, List.length_cons, List.length_nil, List.length_take, List.length_drop]; omega) rfl) rfl)) rfl ?_
        refine rg_put (d := 7) (v := .ow 108) rfl (og rfl (op_assign rfl rfl rfl)) ?_
        refine rg_done rfl ?_
        refine a_rseq ?_
        refine rg_put (d := 57) (v := .ow 108) rfl (og rfl (op_move rfl rfl rfl)) ?_
        refine rg_put (d := 58) (v := .d (.ag (eSrx (Srx.mk s.d.ddev s.d.dseq)))) rfl (og rfl (of_eff (s_load_pts rfl Tryz.underlying32 rfl ti32 rfl rfl rfl rfl) rfl)) ?_
        refine rg_put (d := 59) (v := .d (.sl 2 (List.map eSrx [(Srx.mk s.d.ddev s.d.dseq)]))) rfl (og rfl (of_eff (op_slices rfl Tryz.underlying27 ti32 rfl rfl rfl (by kernel_rfl) (xs := [.ag (eSrx (Srx.mk s.d.ddev s.d.dseq))]) rfl rfl (.cons rfl rfl (.d _) rfl rfl rfl .nil) rfl) rfl)) ?_
        refine rg_nam (d := 60) (v := .ow 109) (m := 109) (nw := [(109, .tr 32 2 (tD eSrx ((([] ++ ((l.drop 0).take (j - 0))) ++ [(Srx.mk s.d.ddev s.d.dseq)])))), (108, .no)]) rfl (og rfl (of_eff (s_append_td 109 rfl Tryz.underlying27 ti32 rfl rfl rfl rfl rfl (.d _) (by simp only [List.length_append, List.length_cons, List.length_nil, List.length_take, List.length_drop]; omega) rfl) rfl)) rfl ?_
        refine rg_put (d := 7) (v := .ow 109) rfl (og rfl (op_assign rfl rfl rfl)) ?_
        refine rg_done rfl ?_
        refine a_rseq ?_
        refine rg_put (d := 61) (v := .ow 109) rfl (og rfl (op_move rfl rfl rfl)) ?_
        refine rg_put (d := 62) (v := .d (.sl 2 (List.map eSrx l))) rfl (og rfl (op_move rfl rfl rfl)) ?_
        refine rg_put (d := 63) (v := .d (.fl (.int .i64 (j : Int)))) rfl (og rfl (op_move rfl rfl rfl)) ?_
        refine rg_put (d := 64) (v := .d (.sl 2 (List.map eSrx (l.drop j)))) rfl (og rfl (s_sliceTail rfl Tryz.underlying27 ti32 rfl (.so (n := j) _ rfl (by omega)) (by omega) rfl)) ?_
        refine rg_nam (d := 65) (v := .ow 110) (m := 110) (nw := [(110, .tr 32 2 (tD eSrx (((([] ++ ((l.drop 0).take (j - 0))) ++ [(Srx.mk s.d.ddev s.d.dseq)]) ++ (l.drop j))))), (109, .no)]) rfl (og rfl (of_eff (s_append_td 110 rfl Tryz.underlying27 ti32 rfl rfl rfl rfl rfl (.d _) (by simp only [List.length_append, List.length_cons, List.length_nil, List.length_take, List.length_drop]; omega) rfl) rfl)) rfl ?_
        refine rg_put (d := 7) (v := .ow 110) rfl (og rfl (op_assign rfl rfl rfl)) ?_
        refine rg_done rfl ?_
        refine a_rseq ?_
        refine rg_put (d := 66) (v := .ow 110) rfl (og rfl (op_move rfl rfl rfl)) ?_
        refine rg_put (d := 4) (v := .ow 110) rfl (og rfl (op_assign rfl rfl rfl)) ?_
        refine rg_done rfl ?_
        refine a_imp (imp_leakT 4 110 rfl rfl) ?_
        refine a_ret ?_
        show ∃ ds, ResL _ _ _ ds ∧ RV.of ds = _
        refine ⟨[.sl 2 (List.map eSrx (((([] ++ ((l.drop 0).take (j - 0))) ++ [(Srx.mk s.d.ddev s.d.dseq)]) ++ (l.drop j))))], (.cons (.tmp rfl (.d _)) .nil), ?_⟩
        rw [← hat]; rfl
      · skip
        refine dr_put (d := 38) (v := .d (.sl 2 (List.map eSrx l))) rfl (oy rfl rfl rfl h5 (op_move rfl rfl rfl)) ?_
        refine dr_put (d := 39) (v := .d (.fl (.int .i64 (j : Int)))) rfl (oy rfl rfl rfl h5 (op_move rfl rfl rfl)) ?_
        refine dr_put (d := 40) (v := .el ((eSrx (ix l j)))) rfl (oy rfl rfl rfl h5 (s_index rfl Tryz.underlying27 ti32 rfl rfl (by omega) (row_at (by omega)) rfl)) ?_
        refine dr_put (d := 41) (v := .el ((List.drop 1 ((eSrx (ix l j)))))) rfl (oy rfl rfl rfl h5 (of_eff (s_field_el rfl Tryz.underlying32 rfl ti3 rfl rfl rfl) rfl)) ?_
        refine dr_put (d := 42) (v := .d (.fl (.int .i64 ((ix l j).seq)))) rfl (oy rfl rfl rfl h5 (op_load_el rfl Tryz.underlying3 rfl rfl rfl rfl)) ?_
        refine dr_put (d := 43) (v := .pt 102 1) rfl (oy rfl rfl rfl h5 (of_eff (s_field_pt rfl Tryz.underlying32 rfl ti3 rfl rfl rfl) rfl)) ?_
        refine dr_put (d := 44) (v := .d (.fl (.int .i64 ((Srx.mk s.d.ddev s.d.dseq).seq)))) rfl (oy rfl rfl rfl h5 (op_load_pt rfl Tryz.underlying3 rfl rfl rfl rfl rfl)) ?_
        refine dr_put (d := 45) (v := .d (.fl (.bool ((decide ((ix l j).seq ≤ (Srx.mk s.d.ddev s.d.dseq).seq)))))) rfl (oy rfl rfl rfl h5 (op_bin rfl rfl rfl (b_leq _ _ _ _) rfl)) ?_
        refine dr_put (d := 46) (v := .d (.fl (.bool ((decide ((ix l j).seq ≤ (Srx.mk s.d.ddev s.d.dseq).seq)))))) rfl (oy rfl rfl rfl h4 (op_pick rfl rfl (by rw [h5]; rfl) rfl)) ?_
        refine dr_put (d := 47) (v := .d (.fl (.bool ((decide ((ix l j).seq ≤ (Srx.mk s.d.ddev s.d.dseq).seq)))))) rfl (oy rfl rfl rfl h1 (op_pick rfl rfl (by rw [h4]; rfl) rfl)) ?_
        refine dr_put (d := 48) (v := .d (.fl (.bool ((decide ((ix l j).seq ≤ (Srx.mk s.d.ddev s.d.dseq).seq)))))) rfl (og rfl (op_pick rfl rfl (by rw [h1]; rfl) rfl)) ?_
        refine dr_done rfl (sepB_of [0, 0, 2, 7, 15, 31, 31, 127, 255, 511, 31, 1055, 4095, 8191, 16383, 16383, 65535, 131071, 262143, 16383, 540671, 2097151, 4194303, 8388607, 8388607, 33554431, 67108863, 134217727, 8388607, 276824063, 1073741823, 2147483647, 4294967295, 8589934591] (by kernel_rfl)) (by kernel_rfl) ?_
        refine a_cond rfl (fun h6 => ?_) (fun h6 => ?_)
        · skip
          have h7 := t_dec h6
          refine a_skip ?_
          show A _ _ _ _ _ _ _
          refine a_block ?_
          refine a_region ?_
          refine rg_put (d := 49) (v := .d (.fl (.int .i64 (j : Int)))) rfl (og rfl (op_move rfl rfl rfl)) ?_
          refine rg_put (d := 50) (v := .d (.fl (.int .i64 (((j : Int) + 1))))) rfl (og rfl (op_bin rfl rfl rfl (fun x y w => b_add64 _ _ _ x y w (by omega)) rfl)) ?_
          refine rg_put (d := 6) (v := .d (.fl (.int .i64 (((j : Int) + 1))))) rfl (og rfl (op_assign rfl rfl rfl)) ?_
          refine rg_done rfl ?_
          have hx : (lb (ix l j) (⟨s.d.ddev, s.d.dseq⟩ : Srx)) = true := by unfold lb; simp only [h1, h4, h5, h6, Bool.true_or, Bool.false_or, Bool.or_true, Bool.or_false, Bool.not_true, Bool.not_false, cond_true, cond_false, Bool.true_and, Bool.false_and, Bool.and_true, Bool.and_false] <;> rfl
          show ∃ i, _ ∧ _ ∧ Imp _ _ _ _ _
          refine ⟨j + 1, ⟨by omega, fun q h => (Nat.lt_succ_iff_lt_or_eq.1 h).elim (hq q) (fun e => by rw [e]; exact hx)⟩, by omega, imp_forget rfl ⟨rfl, rfl, rfl, rfl, rfl, (by first | rfl | exact ci (by omega)), trivial⟩ ⟨rfl, rfl, trivial⟩⟩
        · skip
          have h8 := f_dec h6
          refine a_exit ?_
          show A _ _ _ _ _ _ _
          refine a_rseq ?_
          have hx : (lb (ix l j) (⟨s.d.ddev, s.d.dseq⟩ : Srx)) = false := by unfold lb; simp only [h1, h4, h5, h6, Bool.true_or, Bool.false_or, Bool.or_true, Bool.or_false, Bool.not_true, Bool.not_false, cond_true, cond_false, Bool.true_and, Bool.false_and, Bool.and_true, Bool.and_false] <;> rfl
          have hat := srI_at hn hj hq (fun _ => hx)
          refine rg_nam (d := 51) (v := .ow 111) (m := 111) (nw := [(111, .tr 32 2 (tD eSrx []))]) rfl (og rfl (of_eff (op_slice0 111 rfl Tryz.underlying27 ti32 rfl) rfl)) rfl ?_
          refine rg_put (d := 7) (v := .ow 111) rfl (og rfl (op_assign rfl rfl rfl)) ?_
          refine rg_done rfl ?_
          refine a_rseq ?_
          refine rg_put (d := 52) (v := .ow 111) rfl (og rfl (op_move rfl rfl rfl)) ?_
          refine rg_put (d := 53) (v := .d (.sl 2 (List.map eSrx l))) rfl (og rfl (op_move rfl rfl rfl)) ?_
          refine rg_put (d := 54) (v := .d (.fl (.int .i64 (j : Int)))) rfl (og rfl (op_move rfl rfl rfl)) ?_
          refine rg_put (d := 55) (v := .d (.sl 2 (List.map eSrx (((l.drop 0).take (j - 0)))))) rfl (og rfl (s_slice rfl Tryz.underlying27 ti32 rfl (.no _) (.so (n := j) _ rfl (by omega)) (by omega) (by omega) rfl)) ?_
          refine rg_nam (d := 56) (v := .ow 112) (m := 112) (nw := [(112, .tr 32 2 (tD eSrx (([] ++ ((l.drop 0).take (j - 0)))))), (111, .no)]) rfl (og rfl (of_eff (s_append_td 112 rfl Tryz.underlying27 ti32 rfl rfl rfl rfl rfl (.d _) (by simp only [List.length_append, List.length_cons, List.length_nil, List.length_take, List.length_drop]; omega) rfl) rfl)) rfl ?_
          refine rg_put (d := 7) (v := .ow 112) rfl (og rfl (op_assign rfl rfl rfl)) ?_
          refine rg_done rfl ?_
          refine a_rseq ?_
          refine rg_put (d := 57) (v := .ow 112) rfl (og rfl (op_move rfl rfl rfl)) ?_
          refine rg_put (d := 58) (v := .d (.ag (eSrx (Srx.mk s.d.ddev s.d.dseq)))) rfl (og rfl (of_eff (s_load_pts rfl Tryz.underlying32 rfl ti32 rfl rfl rfl rfl) rfl)) ?_
          refine rg_put (d := 59) (v := .d (.sl 2 (List.map eSrx [(Srx.mk s.d.ddev s.d.dseq)]))) rfl (og rfl (of_eff (op_slices rfl Tryz.underlying27 ti32 rfl rfl rfl (by kernel_rfl) (xs := [.ag (eSrx (Srx.mk s.d.ddev s.d.dseq))]) rfl rfl (.cons rfl rfl (.d _) rfl rfl rfl .nil) rfl) rfl)) ?_
          refine rg_nam (d := 60) (v := .ow 113) (m := 113) (nw := [(113, .tr 32 2 (tD eSrx ((([] ++ ((l.drop 0).take (j - 0))) ++ [(Srx.mk s.d.ddev s.d.dseq)])))), (112, .no)]) rfl (og rfl (of_eff (s_append_td 113 rfl Tryz.underlying27 ti32 rfl rfl rfl rfl rfl (.d _) (by simp only [List.length_append, List.length_cons, List.length_nil, List.length_take, List.length_drop]; omega) rfl) rfl)) rfl ?_
          refine rg_put (d := 7) (v := .ow 113) rfl (og rfl (op_assign rfl rfl rfl)) ?_
          refine rg_done rfl ?_
          refine a_rseq ?_
          refine rg_put (d := 61) (v := .ow 113) rfl (og rfl (op_move rfl rfl rfl)) ?_
          refine rg_put (d := 62) (v := .d (.sl 2 (List.map eSrx l))) rfl (og rfl (op_move rfl rfl rfl)) ?_
          refine rg_put (d := 63) (v := .d (.fl (.int .i64 (j : Int)))) rfl (og rfl (op_move rfl rfl rfl)) ?_
          refine rg_put (d := 64) (v := .d (.sl 2 (List.map eSrx (l.drop j)))) rfl (og rfl (s_sliceTail rfl Tryz.underlying27 ti32 rfl (.so (n := j) _ rfl (by omega)) (by omega) rfl)) ?_
          refine rg_nam (d := 65) (v := .ow 114) (m := 114) (nw := [(114, .tr 32 2 (tD eSrx (((([] ++ ((l.drop 0).take (j - 0))) ++ [(Srx.mk s.d.ddev s.d.dseq)]) ++ (l.drop j))))), (113, .no)]) rfl (og rfl (of_eff (s_append_td 114 rfl Tryz.underlying27 ti32 rfl rfl rfl rfl rfl (.d _) (by simp only [List.length_append, List.length_cons, List.length_nil, List.length_take, List.length_drop]; omega) rfl) rfl)) rfl ?_
          refine rg_put (d := 7) (v := .ow 114) rfl (og rfl (op_assign rfl rfl rfl)) ?_
          refine rg_done rfl ?_
          refine a_rseq ?_
          refine rg_put (d := 66) (v := .ow 114) rfl (og rfl (op_move rfl rfl rfl)) ?_
          refine rg_put (d := 4) (v := .ow 114) rfl (og rfl (op_assign rfl rfl rfl)) ?_
          refine rg_done rfl ?_
          refine a_imp (imp_leakT 4 114 rfl rfl) ?_
          refine a_ret ?_
          show ∃ ds, ResL _ _ _ ds ∧ RV.of ds = _
          refine ⟨[.sl 2 (List.map eSrx (((([] ++ ((l.drop 0).take (j - 0))) ++ [(Srx.mk s.d.ddev s.d.dseq)]) ++ (l.drop j))))], (.cons (.tmp rfl (.d _)) .nil), ?_⟩
          rw [← hat]; rfl
    · skip
      refine dr_put (d := 29) (v := .d (.fl undef)) rfl (on rfl rfl rfl h4) ?_
      refine dr_put (d := 30) (v := .d (.fl undef)) rfl (on rfl rfl rfl h4) ?_
      refine dr_put (d := 31) (v := .d (.fl undef)) rfl (on rfl rfl rfl h4) ?_
      refine dr_put (d := 32) (v := .d (.fl undef)) rfl (on rfl rfl rfl h4) ?_
      refine dr_put (d := 33) (v := .d (.fl undef)) rfl (on rfl rfl rfl h4) ?_
      refine dr_put (d := 34) (v := .d (.fl undef)) rfl (on rfl rfl rfl h4) ?_
      refine dr_put (d := 35) (v := .d (.fl undef)) rfl (on rfl rfl rfl h4) ?_
      refine dr_put (d := 36) (v := .d (.fl undef)) rfl (on rfl rfl rfl h4) ?_
      refine dr_put (d := 37) (v := .d (.fl undef)) rfl (on rfl rfl rfl h4) ?_
      refine dr_put (d := 38) (v := .d (.fl undef)) rfl (ou rfl rfl rfl) ?_
      refine dr_put (d := 39) (v := .d (.fl undef)) rfl (ou rfl rfl rfl) ?_
      refine dr_put (d := 40) (v := .d (.fl undef)) rfl (ou rfl rfl rfl) ?_
      refine dr_put (d := 41) (v := .d (.fl undef)) rfl (ou rfl rfl rfl) ?_
      refine dr_put (d := 42) (v := .d (.fl undef)) rfl (ou rfl rfl rfl) ?_
      refine dr_put (d := 43) (v := .d (.fl undef)) rfl (ou rfl rfl rfl) ?_
      refine dr_put (d := 44) (v := .d (.fl undef)) rfl (ou rfl rfl rfl) ?_
      refine dr_put (d := 45) (v := .d (.fl undef)) rfl (ou rfl rfl rfl) ?_
      refine dr_put (d := 46) (v := .d (.fl undef)) rfl (on rfl rfl rfl h4) ?_
      refine dr_put (d := 47) (v := .d (.fl (.bool true))) rfl (oy rfl rfl rfl h1 (op_pick rfl rfl (by rw [h4]; rfl) rfl)) ?_
      refine dr_put (d := 48) (v := .d (.fl (.bool true))) rfl (og rfl (op_pick rfl rfl (by rw [h1]; rfl) rfl)) ?_
      refine dr_done rfl (sepB_of [0, 0, 2, 7, 15, 31, 31, 127, 255, 511, 31, 1055, 4095, 8191, 16383, 16383, 65535, 131071, 262143, 16383, 540671, 2097151, 4194303, 8388607, 8388607, 33554431, 67108863, 134217727, 8388607, 276824063, 1073741823, 2147483647, 4294967295, 8589934591] (by kernel_rfl)) (by kernel_rfl) ?_
      refine a_condK rfl rfl ?_
      refine a_skip ?_
      show A _ _ _ _ _ _ _
      refine a_block ?_
      refine a_region ?_
      refine rg_put (d := 49) (v := .d (.fl (.int .i64 (j : Int)))) rfl (og rfl (op_move rfl rfl rfl)) ?_
      refine rg_put (d := 50) (v := .d (.fl (.int .i64 (((j : Int) + 1))))) rfl (og rfl (op_bin rfl rfl rfl (fun x y w => b_add64 _ _ _ x y w (by omega)) rfl)) ?_
      refine rg_put (d := 6) (v := .d (.fl (.int .i64 (((j : Int) + 1))))) rfl (og rfl (op_assign rfl rfl rfl)) ?_
      refine rg_done rfl ?_
      have hx : (lb (ix l j) (⟨s.d.ddev, s.d.dseq⟩ : Srx)) = true := by unfold lb; simp only [h1, h4, Bool.true_or, Bool.false_or, Bool.or_true, Bool.or_false, Bool.not_true, Bool.not_false, cond_true, cond_false, Bool.true_and, Bool.false_and, Bool.and_true, Bool.and_false] <;> rfl
      show ∃ i, _ ∧ _ ∧ Imp _ _ _ _ _
      refine ⟨j + 1, ⟨by omega, fun q h => (Nat.lt_succ_iff_lt_or_eq.1 h).elim (hq q) (fun e => by rw [e]; exact hx)⟩, by omega, imp_forget rfl ⟨rfl, rfl, rfl, rfl, rfl, (by first | rfl | exact ci (by omega)), trivial⟩ ⟨rfl, rfl, trivial⟩⟩
end Go.Proofs.YtmngepmckghcpaaGreatDoor.Wk
