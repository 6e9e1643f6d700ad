/- Comparisons, both sides. No condition. -/
import Derived.Test.YtakmjlpciicaiaaGreatDoorTy
import Derived.Test.YtakmjlpciicaiaaGreatDoorAvS
set_option linter.unusedSimpArgs false
set_option linter.unusedVariables false
namespace Go.Proofs.YtakmjlpciicaiaaGreatDoor.Wk
open Go Go.RowKit Go.Proofs.YtakmjlpciicaiaaGreatDoor.Av
theorem ne_self_b (a : Int) : (a != a) = false := by simp
theorem sEq_eq {a b : ByteArray} (h : sEq a b = true) : a = b := of_decide_eq_true h
theorem sEq_of {a b : ByteArray} (h : a = b) : sEq a b = true := decide_eq_true h
theorem ix_eq {α : Type} [Inhabited α] {l : List α} {i : Nat} (h : i < l.length) : l[i] = ix l i := by
  have := ix_get h
  rw [List.getElem?_eq_getElem h] at this
  injection this
theorem ix_mem {α : Type} [Inhabited α] {l : List α} {k : Nat} (h : k < l.length) : ix l k ∈ l := by rw [← ix_eq h]; exact List.getElem_mem h
theorem mem_ix {α : Type} [Inhabited α] {l : List α} {x : α} (h : x ∈ l) : ∃ k, k < l.length ∧ ix l k = x := by
  obtain ⟨j, hj, he⟩ := List.mem_iff_getElem.1 h
  exact ⟨j, hj, by rw [← ix_eq hj]; exact he⟩
theorem any_at {α : Type} [Inhabited α] {p : α → Bool} {l : List α} {k : Nat} (hk : k < l.length) (hp : p (ix l k) = true) : l.any p = true := by
  rw [List.any_eq_true]; exact ⟨_, ix_mem hk, hp⟩
theorem any_no {α : Type} [Inhabited α] {p : α → Bool} {l : List α} (h : ∀ q, q < l.length → p (ix l q) = false) : l.any p = false := by
  rw [List.any_eq_false]
  intro x hx
  obtain ⟨k, hk, he⟩ := mem_ix hx
  rw [← he, h k hk]; simp
theorem all_no {α : Type} [Inhabited α] {p : α → Bool} {l : List α} {k : Nat} (hk : k < l.length) (h : p (ix l k) = false) : l.all p = false := by
  rw [List.all_eq_false]; exact ⟨_, ix_mem hk, by rw [h]; simp⟩
theorem all_yes {α : Type} [Inhabited α] {p : α → Bool} {l : List α} (h : ∀ q, q < l.length → p (ix l q) = true) : l.all p = true := by
  rw [List.all_eq_true]
  intro x hx
  obtain ⟨k, hk, he⟩ := mem_ix hx
  rw [← he]; exact h k hk

theorem less_at : ∀ (x y : List UInt8) (k : Nat), k < x.length → k < y.length → (∀ q, q < k → x.getD q 0 = y.getD q 0) → x.getD k 0 ≠ y.getD k 0 → Op.bytesLess x y = decide (x.getD k 0 < y.getD k 0)
  | [], _, _, h, _, _, _ => by simp at h
  | _ :: _, [], _, _, h, _, _ => by simp at h
  | a :: x, b :: y, 0, _, _, _, h => by
    have h' : a ≠ b := by simpa using h
    simp [Op.bytesLess, h']
  | a :: x, b :: y, k + 1, h1, h2, h3, h4 => by
    have e : a = b := by simpa using h3 0 (by omega)
    subst e
    have ih := less_at x y k (by simpa using h1) (by simpa using h2) (fun q hq => by simpa using h3 (q + 1) (by omega)) (by simpa using h4)
    simp [Op.bytesLess, ih, UInt8.lt_irrefl]
theorem less_end : ∀ (x y : List UInt8), (∀ q, q < x.length → q < y.length → x.getD q 0 = y.getD q 0) → Op.bytesLess x y = decide (x.length < y.length)
  | [], [], _ => by simp [Op.bytesLess]
  | [], _ :: _, _ => by simp [Op.bytesLess]
  | _ :: _, [], _ => by simp [Op.bytesLess]
  | a :: x, b :: y, h => by
    have e : a = b := by simpa using h 0 (by simp) (by simp)
    subst e
    have ih := less_end x y (fun q h1 h2 => by simpa using h (q + 1) (by simpa using h1) (by simpa using h2))
    simp [Op.bytesLess, ih, UInt8.lt_irrefl]
theorem dlen (s : ByteArray) : s.data.toList.length = s.size := by simp
theorem bef_at {a b : ByteArray} {k : Nat} (h1 : k < a.size) (h2 : k < b.size) (hq : ∀ q, q < k → bt a q = bt b q) (h : bt a k ≠ bt b k) : sLt a b = decide (((bt a k).toNat : Int) < ((bt b k).toNat : Int)) := by
  unfold sLt
  rw [ByteArray.toList_eq, ByteArray.toList_eq, less_at a.data.toList b.data.toList k (by rw [dlen]; exact h1) (by rw [dlen]; exact h2) hq h]
  show decide (bt a k < bt b k) = _
  rw [decide_eq_decide, UInt8.lt_iff_toNat_lt]
  omega
theorem bef_end {a b : ByteArray} {k : Nat} (h : ¬ (k < a.size ∧ k < b.size)) (hq : ∀ q, q < k → bt a q = bt b q) : sLt a b = decide ((a.size : Int) < (b.size : Int)) := by
  unfold sLt
  rw [ByteArray.toList_eq, ByteArray.toList_eq, less_end a.data.toList b.data.toList (fun q h1 h2 => hq q (by rw [dlen] at h1 h2; omega)), dlen, dlen, decide_eq_decide]
  omega
theorem sLt_self (s : ByteArray) : sLt s s = false := by
  rw [bef_end (a := s) (b := s) (k := s.size) (by omega) (fun _ _ => rfl)]
  simp
theorem sLt_ne {s u : ByteArray} (h : sLt s u = true) : sEq s u = false := by
  cases he : sEq s u with
  | false => rfl
  | true => rw [of_decide_eq_true (show decide (s = u) = true from he), sLt_self] at h; cases h
def ic (a b : Int) : Int := bif decide (a < b) then -1 else bif decide (b < a) then 1 else 0
def sc (s u : ByteArray) : Int := bif sEq s u then 0 else bif sLt s u then -1 else 1
theorem sc_lt {s u : ByteArray} (h : sLt s u = true) : sc s u = -1 := by unfold sc; rw [sLt_ne h, h]; rfl
theorem sc_gt {s u : ByteArray} (h : sLt s u = false) (h2 : (sLt s u || sEq s u) = false) : sc s u = 1 := by
  rw [h, Bool.false_or] at h2
  unfold sc; rw [h2, h]; rfl
theorem sc_eq {s u : ByteArray} (h : sLt s u = false) (h2 : (sLt s u || sEq s u) = true) : sc s u = 0 := by
  rw [h, Bool.false_or] at h2
  unfold sc; rw [h2]; rfl
def fz : List Int → Int
  | [] => 0
  | x :: l => bif x != 0 then x else fz l
theorem fz_at : ∀ {l : List Int} {k : Nat}, k < l.length → (∀ q, q < k → ix l q = 0) → ix l k ≠ 0 → fz l = ix l k
  | [], _, h, _, _ => by simp at h
  | x :: l, 0, _, _, h => by
    have h' : x ≠ 0 := h
    show (bif x != 0 then x else fz l) = x
    rw [show (x != 0) = true by simpa using h']; rfl
  | x :: l, k + 1, h1, h2, h3 => by
    have h' : x = 0 := h2 0 (by omega)
    show (bif x != 0 then x else fz l) = ix l k
    rw [show (x != 0) = false by simpa using h', cond_false]
    exact fz_at (by simpa using h1) (fun q hq => h2 (q + 1) (by omega)) h3
theorem fz_no : ∀ {l : List Int}, (∀ q, q < l.length → ix l q = 0) → fz l = 0
  | [], _ => rfl
  | x :: l, h => by
    have h' : x = 0 := h 0 (by simp)
    show (bif x != 0 then x else fz l) = 0
    rw [show (x != 0) = false by simpa using h', cond_false]
    exact fz_no (fun q hq => h (q + 1) (by simpa using hq))

theorem less_anti : ∀ (x y : List UInt8), Op.bytesLess x y = true → Op.bytesLess y x = false
  | [], [], h => by simp [Op.bytesLess] at h
  | [], _ :: _, _ => by simp [Op.bytesLess]
  | _ :: _, [], h => by simp [Op.bytesLess] at h
  | a :: x, b :: y, h => by
    simp only [Op.bytesLess, Bool.or_eq_true, decide_eq_true_eq, Bool.and_eq_true, beq_iff_eq] at h
    simp only [Op.bytesLess, Bool.or_eq_false_iff, decide_eq_false_iff_not, Bool.and_eq_false_iff]
    rcases h with h | ⟨rfl, h⟩
    · refine ⟨fun h2 => UInt8.lt_irrefl a (UInt8.lt_trans h h2), .inl ?_⟩
      simp only [beq_eq_false_iff_ne]
      intro e; subst e; exact UInt8.lt_irrefl _ h
    · exact ⟨UInt8.lt_irrefl a, .inr (less_anti x y h)⟩
theorem less_tot : ∀ (x y : List UInt8), Op.bytesLess x y = false → x ≠ y → Op.bytesLess y x = true
  | [], [], _, h => absurd rfl h
  | [], _ :: _, h, _ => by simp [Op.bytesLess] at h
  | _ :: _, [], _, _ => by simp [Op.bytesLess]
  | a :: x, b :: y, h, hn => by
    simp only [Op.bytesLess, Bool.or_eq_false_iff, decide_eq_false_iff_not, Bool.and_eq_false_iff] at h
    simp only [Op.bytesLess, Bool.or_eq_true, decide_eq_true_eq, Bool.and_eq_true, beq_iff_eq]
    by_cases e : a = b
    · subst e
      refine .inr ⟨rfl, less_tot x y ?_ (fun e => hn (by rw [e]))⟩
      rcases h.2 with h2 | h2
      · simp at h2
      · exact h2
    · left
      rcases UInt8.lt_or_lt_of_ne e with h2 | h2
      · exact absurd h2 h.1
      · exact h2
theorem less_tr : ∀ (x y z : List UInt8), Op.bytesLess x y = true → Op.bytesLess y z = true → Op.bytesLess x z = true
  | _, [], _, h, _ => by cases ‹List UInt8› <;> simp [Op.bytesLess] at h
  | _, _ :: _, [], _, h => by simp [Op.bytesLess] at h
  | [], _ :: _, _ :: _, _, _ => by simp [Op.bytesLess]
  | a :: x, b :: y, c :: z, h1, h2 => by
    simp only [Op.bytesLess, Bool.or_eq_true, decide_eq_true_eq, Bool.and_eq_true, beq_iff_eq] at h1 h2 ⊢
    rcases h1 with h1 | ⟨rfl, h1⟩
    · rcases h2 with h2 | ⟨rfl, h2⟩
      · exact .inl (UInt8.lt_trans h1 h2)
      · exact .inl h1
    · rcases h2 with h2 | ⟨rfl, h2⟩
      · exact .inl h2
      · exact .inr ⟨rfl, less_tr x y z h1 h2⟩
theorem sEq_t {s u : ByteArray} (h : sEq s u = true) : s = u := of_decide_eq_true h
theorem sEq_f {s u : ByteArray} (h : sEq s u = false) : s.toList ≠ u.toList := fun e => by
  have := toList_sEq s u
  rw [e] at this
  rw [h] at this; simp at this
theorem sLt_anti {s u : ByteArray} (h : sLt s u = true) : sLt u s = false := less_anti _ _ h
theorem sLt_tot {s u : ByteArray} (h : sLt s u = false) (h2 : sEq s u = false) : sLt u s = true := less_tot _ _ h (sEq_f h2)
theorem sc_cases (s u : ByteArray) : (sc s u = 0 ∧ s = u) ∨ (sc s u = -1 ∧ sLt s u = true ∧ s ≠ u) ∨ (sc s u = 1 ∧ sLt u s = true ∧ s ≠ u) := by
  unfold sc
  cases h : sEq s u with
  | true => exact .inl ⟨rfl, sEq_t h⟩
  | false =>
    have hn : s ≠ u := fun e => by rw [e] at h; unfold sEq at h; simp at h
    cases h2 : sLt s u with
    | true => exact .inr (.inl ⟨rfl, rfl, hn⟩)
    | false => exact .inr (.inr ⟨rfl, sLt_tot h2 h, hn⟩)
def Neg (x y : Int) : Prop := x = -y
def Tq (x y z : Int) : Prop := x ≤ 0 → y ≤ 0 → z ≤ 0 ∧ (z < 0 ↔ x < 0 ∨ y < 0)
theorem sc_neg (s u : ByteArray) : sc s u = -(sc u s) := by
  rcases sc_cases s u with ⟨h, e⟩ | ⟨h, l, n⟩ | ⟨h, l, n⟩ <;> rcases sc_cases u s with ⟨h', e'⟩ | ⟨h', l', n'⟩ | ⟨h', l', n'⟩ <;> rw [h, h'] <;>
    first
      | rfl
      | exact absurd e'.symm n
      | exact absurd e.symm n'
      | (have := sLt_anti l; rw [l'] at this; cases this)
theorem sc_tq (s u v : ByteArray) : Tq (sc s u) (sc u v) (sc s v) := by
  intro h1 h2
  rcases sc_cases s u with ⟨h, e⟩ | ⟨h, l, n⟩ | ⟨h, l, n⟩
  · rw [e] at h ⊢
    rw [h]; omega
  · rcases sc_cases u v with ⟨h', e'⟩ | ⟨h', l', n'⟩ | ⟨h', l', n'⟩
    · subst e'
      rw [h', h]; omega
    · have hl : sLt s v = true := less_tr _ _ _ l l'
      rw [sc_lt hl, h, h']; omega
    · omega
  · omega
theorem ic_neg (a b : Int) : ic a b = -(ic b a) := by
  unfold ic
  cases h : decide (a < b) <;> cases h2 : decide (b < a) <;> simp at h h2 ⊢ <;> omega
theorem ic_val (a b : Int) : (a < b ∧ ic a b = -1) ∨ (a = b ∧ ic a b = 0) ∨ (b < a ∧ ic a b = 1) := by
  unfold ic
  cases h : decide (a < b) <;> cases h2 : decide (b < a) <;> simp at h h2 ⊢ <;> omega
theorem ic_tq (a b c : Int) : Tq (ic a b) (ic b c) (ic a c) := by
  intro h1 h2
  have := ic_val a b
  have := ic_val b c
  have := ic_val a c
  omega
theorem fz_neg : ∀ {l m : List Int}, l = m.map (fun x => -x) → fz l = -(fz m)
  | [], [], _ => rfl
  | [], _ :: _, h => by cases h
  | _ :: _, [], h => by cases h
  | x :: l, y :: m, h => by
    simp only [List.map_cons, List.cons.injEq] at h
    have ih := fz_neg h.2
    have hx := h.1
    simp only [fz]
    cases h1 : (x != 0) <;> cases h2 : (y != 0) <;> simp at h1 h2 ⊢ <;> omega
inductive T3 : List Int → List Int → List Int → Prop
  | nil : T3 [] [] []
  | cons {x y z : Int} {l m n : List Int} (h : Tq x y z) (hs : T3 l m n) : T3 (x :: l) (y :: m) (z :: n)
theorem fz_tq {l m n : List Int} (h : T3 l m n) : Tq (fz l) (fz m) (fz n) := by
  induction h with
  | nil => intro _ _; simp [fz]
  | @cons x y z l m n h hs ih =>
    unfold Tq at *
    simp only [fz]
    cases h1 : (x != 0) <;> cases h2 : (y != 0) <;> cases h3 : (z != 0) <;> simp at h1 h2 h3 ⊢ <;> omega
theorem fz_zero : ∀ {l : List Int}, fz l = 0 ↔ ∀ x ∈ l, x = 0
  | [] => by simp [fz]
  | x :: l => by
    have ih := fz_zero (l := l)
    simp only [fz, List.mem_cons, forall_eq_or_imp]
    cases h1 : (x != 0) <;> simp at h1 ⊢
    · rw [ih]; simp [h1]
    · intro h; exact absurd h h1
theorem swo_of {α : Type} {c : α → α → Int} (hn : ∀ x y, c x y = -(c y x)) (ht : ∀ x y z, Tq (c x y) (c y z) (c x z)) : Go.Sort.SWO (ltOf c) where
  irrefl x := by have := hn x x; unfold ltOf; exact decide_eq_false (by omega)
  trans x y z h1 h2 := by
    unfold ltOf at *
    simp only [decide_eq_true_eq] at *
    have := ht x y z (by omega) (by omega)
    omega
  ntrans x y z h1 h2 := by
    unfold ltOf at *
    simp only [decide_eq_false_iff_not] at *
    have h3 := hn x y
    have h4 := hn y z
    have h5 := hn x z
    have := ht z y x (by omega) (by omega)
    omega
theorem le_of_sorted {α : Type} {c : α → α → Int} (hn : ∀ x y, c x y = -(c y x)) {x y : α} (h : ltOf c y x = false) : c x y ≤ 0 := by
  unfold ltOf at h
  simp only [decide_eq_false_iff_not] at h
  have := hn x y
  omega

def so (a b : Src) : Int := fz [sc a.dev b.dev, ic a.seq b.seq]
theorem so_neg (a b : Src) : so a b = -(so b a) := fz_neg (by simp only [List.map_cons, List.map_nil]; rw [sc_neg a.dev, ic_neg a.seq])
theorem so_tq (a b c : Src) : Tq (so a b) (so b c) (so a c) := fz_tq (.cons (sc_tq _ _ _) (.cons (ic_tq _ _ _) .nil))
def cl : List Src → List Src → Int
  | [], [] => 0
  | [], _ :: _ => -1
  | _ :: _, [] => 1
  | a :: l, b :: m => bif so a b != 0 then so a b else cl l m
theorem cl_neg : ∀ l m : List Src, cl l m = -(cl m l)
  | [], [] => rfl
  | [], _ :: _ => rfl
  | _ :: _, [] => rfl
  | a :: l, b :: m => by
    have ih := cl_neg l m
    have h := so_neg a b
    simp only [cl]
    cases h1 : (so a b != 0) <;> cases h2 : (so b a != 0) <;> simp at h1 h2 ⊢ <;> omega
theorem cl_tq : ∀ l m n : List Src, Tq (cl l m) (cl m n) (cl l n)
  | [], [], [] => by intro _ _; simp [cl]
  | [], [], _ :: _ => by intro _ _; simp [cl]
  | [], _ :: _, [] => by intro h1 h2; simp [cl] at h2
  | [], _ :: _, _ :: _ => by intro h1 h2; simp [cl]
  | _ :: _, [], _ => by intro h1; simp [cl] at h1
  | _ :: _, _ :: _, [] => by intro h1 h2; simp [cl] at h2
  | a :: l, b :: m, c :: n => by
    have ih := cl_tq l m n
    have h := so_tq a b c
    unfold Tq at *
    simp only [cl]
    cases h1 : (so a b != 0) <;> cases h2 : (so b c != 0) <;> cases h3 : (so a c != 0) <;> simp at h1 h2 h3 ⊢ <;> omega
theorem cl_at : ∀ {a b : List Src} {k : Nat}, k < a.length → k < b.length → (∀ q, q < k → so (ix a q) (ix b q) = 0) → so (ix a k) (ix b k) ≠ 0 → cl a b = so (ix a k) (ix b k)
  | [], _, _, h, _, _, _ => by simp at h
  | _ :: _, [], _, _, h, _, _ => by simp at h
  | x :: a, y :: b, 0, _, _, _, h => by
    have h' : so x y ≠ 0 := h
    show (bif so x y != 0 then so x y else cl a b) = so x y
    rw [show (so x y != 0) = true by simpa using h']; rfl
  | x :: a, y :: b, k + 1, h1, h2, h3, h4 => by
    have h' : so x y = 0 := h3 0 (by omega)
    show (bif so x y != 0 then so x y else cl a b) = so (ix a k) (ix b k)
    rw [show (so x y != 0) = false by simpa using h', cond_false]
    exact cl_at (by simpa using h1) (by simpa using h2) (fun q hq => h3 (q + 1) (by omega)) h4
theorem cl_end : ∀ {a b : List Src} {k : Nat}, k ≤ a.length → k ≤ b.length → ¬ (k < a.length ∧ k < b.length) → (∀ q, q < k → so (ix a q) (ix b q) = 0) → cl a b = ic (a.length : Int) (b.length : Int)
  | [], [], _, _, _, _, _ => by simp [cl, ic]
  | [], y :: b, _, _, _, _, _ => by
    have : ((0 : Int) < ((y :: b).length : Int)) := by simp only [List.length_cons]; omega
    unfold ic; simp only [List.length_nil]; rw [show decide (((0 : Nat) : Int) < ((y :: b).length : Int)) = true from decide_eq_true this]; rfl
  | x :: a, [], _, _, _, _, _ => by
    have h1 : ((0 : Int) < ((x :: a).length : Int)) := by simp only [List.length_cons]; omega
    unfold ic; simp only [List.length_nil]; rw [show decide (((x :: a).length : Int) < ((0 : Nat) : Int)) = false from decide_eq_false (by omega), show decide (((0 : Nat) : Int) < ((x :: a).length : Int)) = true from decide_eq_true h1]; rfl
  | x :: a, y :: b, 0, _, _, h, _ => absurd ⟨by simp, by simp⟩ h
  | x :: a, y :: b, k + 1, h1, h2, h3, h4 => by
    have h' : so x y = 0 := h4 0 (by omega)
    have ih := cl_end (a := a) (b := b) (k := k) (by simpa using h1) (by simpa using h2) (fun h => h3 ⟨by simpa using h.1, by simpa using h.2⟩) (fun q hq => h4 (q + 1) (by omega))
    show (bif so x y != 0 then so x y else cl a b) = _
    rw [show (so x y != 0) = false by simpa using h', cond_false, ih]
    unfold ic
    simp only [List.length_cons]
    rw [decide_eq_decide.2 (by omega : (a.length : Int) < (b.length : Int) ↔ ((a.length + 1 : Nat) : Int) < ((b.length + 1 : Nat) : Int)), decide_eq_decide.2 (by omega : (b.length : Int) < (a.length : Int) ↔ ((b.length + 1 : Nat) : Int) < ((a.length + 1 : Nat) : Int))]
def cpl (a b : Psg) : List Int := [ic a.time b.time, sc a.point b.point, sc a.id b.id, sc a.tag b.tag, sc a.plate b.plate, ic a.cls b.cls, ic a.score b.score, cl a.src b.src]
def cp (a b : Psg) : Int := fz (cpl a b)
theorem cp_first {a b : Psg} (h : (ic a.time b.time != 0) = true) : cp a b = ic a.time b.time := by unfold cp cpl fz; rw [h]; rfl
theorem cp_rest {a b : Psg} (h : (ic a.time b.time != 0) = false) : cp a b = fz [sc a.point b.point, sc a.id b.id, sc a.tag b.tag, sc a.plate b.plate, ic a.cls b.cls, ic a.score b.score, cl a.src b.src] := by unfold cp cpl; rw [fz, h]; rfl
theorem cp_neg (a b : Psg) : cp a b = -(cp b a) := fz_neg (by
  unfold cpl; simp only [List.map_cons, List.map_nil]
  rw [ic_neg a.time, sc_neg a.point, sc_neg a.id, sc_neg a.tag, sc_neg a.plate, ic_neg a.cls, ic_neg a.score, cl_neg a.src])
theorem cp_tq (a b c : Psg) : Tq (cp a b) (cp b c) (cp a c) := fz_tq (.cons (ic_tq _ _ _) (.cons (sc_tq _ _ _) (.cons (sc_tq _ _ _) (.cons (sc_tq _ _ _) (.cons (sc_tq _ _ _) (.cons (ic_tq _ _ _) (.cons (ic_tq _ _ _) (.cons (cl_tq _ _ _) .nil))))))))
structure szP (x : Psg) : Prop where
  i : x.id.size ≤ 80
  p : x.point.size ≤ 40
  t : x.tag.size ≤ 40
  l : x.plate.size ≤ 40
  n : x.src.length ≤ 30
  d : ∀ q, q < x.src.length → (ix x.src q).dev.size ≤ 40

set_option maxHeartbeats 4000000 in
set_option maxRecDepth 100000 in
theorem nanI (x : Int) : Ctr Tryz.prog 102 [.fl (.int .i64 x)] (.d (.fl (.bool (x != x)))) := by
  refine ctr (n := 6) (rs := #[.tmp 2]) (L := [(0, .d (.fl (.int .i64 x)))]) Tryz.func102 rfl rfl rfl rfl rfl (fun w0 U0 => ?_)
  refine a_rseq ?_
  refine rg_put (d := 2) (v := .d (.fl (.bool false))) rfl (og rfl (op_assign rfl rfl rfl)) ?_
  refine rg_done rfl ?_
  refine a_rseq ?_
  refine rg_put (d := 3) (v := .d (.fl (.int .i64 x))) rfl (og rfl (op_move rfl rfl rfl)) ?_
  refine rg_put (d := 4) (v := .d (.fl (.int .i64 x))) rfl (og rfl (op_move rfl rfl rfl)) ?_
  refine rg_put (d := 5) (v := .d (.fl (.bool (x != x)))) rfl (og rfl (op_bin rfl rfl rfl (b_neq _ _ _ _) rfl)) ?_
  refine rg_put (d := 2) (v := .d (.fl (.bool (x != x)))) rfl (og rfl (op_assign rfl rfl rfl)) ?_
  refine rg_done rfl ?_
  refine a_ret ?_
  show ∃ ds, ResL _ _ _ ds ∧ RV.of ds = _
  refine ⟨[.fl (.bool (x != x))], (.cons (.tmp rfl (.d _)) .nil), ?_⟩
  rfl
set_option maxHeartbeats 4000000 in
set_option maxRecDepth 100000 in
theorem nanS (s : ByteArray) : Ctr Tryz.prog 103 [.fl (.string s)] (.d (.fl (.bool (!(sEq s s))))) := by
  refine ctr (n := 6) (rs := #[.tmp 2]) (L := [(0, .d (.fl (.string s)))]) Tryz.func103 rfl rfl rfl rfl rfl (fun w0 U0 => ?_)
  refine a_rseq ?_
  refine rg_put (d := 2) (v := .d (.fl (.bool false))) rfl (og rfl (op_assign rfl rfl rfl)) ?_
  refine rg_done rfl ?_
  refine a_rseq ?_
  refine rg_put (d := 3) (v := .d (.fl (.string s))) rfl (og rfl (op_move rfl rfl rfl)) ?_
  refine rg_put (d := 4) (v := .d (.fl (.string s))) rfl (og rfl (op_move rfl rfl rfl)) ?_
  refine rg_put (d := 5) (v := .d (.fl (.bool ((!(sEq s s)))))) rfl (og rfl (op_bin rfl rfl rfl (b_sne _ _ _) rfl)) ?_
  refine rg_put (d := 2) (v := .d (.fl (.bool ((!(sEq s s)))))) rfl (og rfl (op_assign rfl rfl rfl)) ?_
  refine rg_done rfl ?_
  refine a_ret ?_
  show ∃ ds, ResL _ _ _ ds ∧ RV.of ds = _
  refine ⟨[.fl (.bool ((!(sEq s s))))], (.cons (.tmp rfl (.d _)) .nil), ?_⟩
  rfl
set_option maxHeartbeats 4000000 in
set_option maxRecDepth 100000 in
theorem icC (x y : Int) : Ctr Tryz.prog 76 [.fl (.int .i64 x), .fl (.int .i64 y)] (.d (.fl (.int .i64 (ic x y)))) := by
  refine ctr (n := 20) (rs := #[.tmp 4]) (L := [(0, .d (.fl (.int .i64 x))), (1, .d (.fl (.int .i64 y)))]) Tryz.func76 rfl rfl rfl rfl rfl (fun w0 U0 => ?_)
  refine a_rseq ?_
  refine rg_put (d := 4) (v := .d (.fl (.int .i64 0))) rfl (og rfl (op_assign rfl rfl rfl)) ?_
  refine rg_done rfl ?_
  refine a_rseq ?_
  refine rg_put (d := 7) (v := .d (.fl (.int .i64 x))) rfl (og rfl (op_move rfl rfl rfl)) ?_
  refine rg_put (d := 8) (v := .d (.fl (.bool (x != x)))) rfl (og rfl (op_call rfl Tryz.func102 nm102 rfl (.cons rfl (.d _) .nil) (nanI x) rfl)) ?_
  refine rg_put (d := 5) (v := .d (.fl (.bool (x != x)))) rfl (og rfl (op_assign rfl rfl rfl)) ?_
  refine rg_done rfl ?_
  refine a_rseq ?_
  refine rg_put (d := 9) (v := .d (.fl (.int .i64 y))) rfl (og rfl (op_move rfl rfl rfl)) ?_
  refine rg_put (d := 10) (v := .d (.fl (.bool (y != y)))) rfl (og rfl (op_call rfl Tryz.func102 nm102 rfl (.cons rfl (.d _) .nil) (nanI y) rfl)) ?_
  refine rg_put (d := 6) (v := .d (.fl (.bool (y != y)))) rfl (og rfl (op_assign rfl rfl rfl)) ?_
  refine rg_done rfl ?_
  refine a_seq ?_
  refine a_rseq ?_
  refine rg_put (d := 11) (v := .d (.fl (.bool (x != x)))) rfl (og rfl (op_move rfl rfl rfl)) ?_
  refine rg_done rfl ?_
  refine a_condF rfl (ne_self_b _) ?_
  refine a_skip ?_
  show A _ _ _ _ _ _ _
  refine a_seq ?_
  refine a_rseq ?_
  refine rg_put (d := 13) (v := .d (.fl (.bool (y != y)))) rfl (og rfl (op_move rfl rfl rfl)) ?_
  refine rg_done rfl ?_
  refine a_condF rfl (ne_self_b _) ?_
  refine a_skip ?_
  show A _ _ _ _ _ _ _
  refine a_seq ?_
  refine a_rseq ?_
  refine rg_put (d := 14) (v := .d (.fl (.int .i64 x))) rfl (og rfl (op_move rfl rfl rfl)) ?_
  refine rg_put (d := 15) (v := .d (.fl (.int .i64 y))) rfl (og rfl (op_move rfl rfl rfl)) ?_
  refine rg_put (d := 16) (v := .d (.fl (.bool ((decide (x < y)))))) rfl (og rfl (op_bin rfl rfl rfl (b_lss _ _ _ _) rfl)) ?_
  refine rg_done rfl ?_
  refine a_cond rfl (fun h1 => ?_) (fun h1 => ?_)
  · skip
    have h2 := t_dec h1
    refine a_rseq ?_
    refine rg_put (d := 4) (v := .d (.fl (.int .i64 (-1)))) rfl (og rfl (op_assign rfl rfl rfl)) ?_
    refine rg_done rfl ?_
    refine a_ret ?_
    show ∃ ds, ResL _ _ _ ds ∧ RV.of ds = _
    refine ⟨[.fl (.int .i64 (-1))], (.cons (.tmp rfl (.d _)) .nil), ?_⟩
    first
      | (have hu : ic x y = (-1) := by
          unfold ic; simp only [h1, Bool.true_or, Bool.false_or, Bool.or_true, Bool.or_false, Bool.not_true, Bool.not_false, cond_true, cond_false, Bool.true_and, Bool.false_and, Bool.and_true, Bool.and_false] <;> rfl
         rw [hu]; rfl)
      | (exfalso; omega)
  · skip
    have h3 := f_dec h1
    refine a_skip ?_
    show A _ _ _ _ _ _ _
    refine a_seq ?_
    refine a_rseq ?_
    refine rg_put (d := 17) (v := .d (.fl (.int .i64 x))) rfl (og rfl (op_move rfl rfl rfl)) ?_
    refine rg_put (d := 18) (v := .d (.fl (.int .i64 y))) rfl (og rfl (op_move rfl rfl rfl)) ?_
    refine rg_put (d := 19) (v := .d (.fl (.bool ((decide (y < x)))))) rfl (og rfl (op_bin rfl rfl rfl (b_gtr _ _ _ _) rfl)) ?_
    refine rg_done rfl ?_
    refine a_cond rfl (fun h4 => ?_) (fun h4 => ?_)
    · skip
      have h5 := t_dec h4
      refine a_rseq ?_
      refine rg_put (d := 4) (v := .d (.fl (.int .i64 1))) rfl (og rfl (op_assign rfl rfl rfl)) ?_
      refine rg_done rfl ?_
      refine a_ret ?_
      show ∃ ds, ResL _ _ _ ds ∧ RV.of ds = _
      refine ⟨[.fl (.int .i64 1)], (.cons (.tmp rfl (.d _)) .nil), ?_⟩
      first
        | (have hu : ic x y = 1 := by
            unfold ic; simp only [h1, h4, Bool.true_or, Bool.false_or, Bool.or_true, Bool.or_false, Bool.not_true, Bool.not_false, cond_true, cond_false, Bool.true_and, Bool.false_and, Bool.and_true, Bool.and_false] <;> rfl
           rw [hu]; rfl)
        | (exfalso; omega)
    · skip
      have h6 := f_dec h4
      refine a_skip ?_
      show A _ _ _ _ _ _ _
      refine a_rseq ?_
      refine rg_put (d := 4) (v := .d (.fl (.int .i64 0))) rfl (og rfl (op_assign rfl rfl rfl)) ?_
      refine rg_done rfl ?_
      refine a_ret ?_
      show ∃ ds, ResL _ _ _ ds ∧ RV.of ds = _
      refine ⟨[.fl (.int .i64 0)], (.cons (.tmp rfl (.d _)) .nil), ?_⟩
      first
        | (have hu : ic x y = 0 := by
            unfold ic; simp only [h1, h4, Bool.true_or, Bool.false_or, Bool.or_true, Bool.or_false, Bool.not_true, Bool.not_false, cond_true, cond_false, Bool.true_and, Bool.false_and, Bool.and_true, Bool.and_false] <;> rfl
           rw [hu]; rfl)
        | (exfalso; omega)
set_option maxHeartbeats 4000000 in
set_option maxRecDepth 100000 in
theorem icR0 (x y : Int) : Ctr Tryz.prog 58 [.fl (.int .i64 x), .fl (.int .i64 y)] (.d (.fl (.int .i64 (ic x y)))) := by
  refine ctr (n := 11) (rs := #[.tmp 4]) (L := [(0, .d (.fl (.int .i64 x))), (1, .d (.fl (.int .i64 y)))]) Tryz.func58 rfl rfl rfl rfl rfl (fun w0 U0 => ?_)
  refine a_rseq ?_
  refine rg_put (d := 4) (v := .d (.fl (.int .i64 0))) rfl (og rfl (op_assign rfl rfl rfl)) ?_
  refine rg_done rfl ?_
  refine a_seq ?_
  refine a_rseq ?_
  refine rg_put (d := 5) (v := .d (.fl (.int .i64 x))) rfl (og rfl (op_move rfl rfl rfl)) ?_
  refine rg_put (d := 6) (v := .d (.fl (.int .i64 y))) rfl (og rfl (op_move rfl rfl rfl)) ?_
  refine rg_put (d := 7) (v := .d (.fl (.bool ((decide (x < y)))))) rfl (og rfl (op_bin rfl rfl rfl (b_lss _ _ _ _) rfl)) ?_
  refine rg_done rfl ?_
  refine a_cond rfl (fun h1 => ?_) (fun h1 => ?_)
  · skip
    have h2 := t_dec h1
    refine a_rseq ?_
    refine rg_put (d := 4) (v := .d (.fl (.int .i64 (-1)))) rfl (og rfl (op_assign rfl rfl rfl)) ?_
    refine rg_done rfl ?_
    refine a_ret ?_
    show ∃ ds, ResL _ _ _ ds ∧ RV.of ds = _
    refine ⟨[.fl (.int .i64 (-1))], (.cons (.tmp rfl (.d _)) .nil), ?_⟩
    first
      | (have hu : ic x y = (-1) := by
          unfold ic; simp only [h1, Bool.true_or, Bool.false_or, Bool.or_true, Bool.or_false, Bool.not_true, Bool.not_false, cond_true, cond_false, Bool.true_and, Bool.false_and, Bool.and_true, Bool.and_false] <;> rfl
         rw [hu]; rfl)
      | (exfalso; omega)
  · skip
    have h3 := f_dec h1
    refine a_skip ?_
    show A _ _ _ _ _ _ _
    refine a_seq ?_
    refine a_rseq ?_
    refine rg_put (d := 8) (v := .d (.fl (.int .i64 x))) rfl (og rfl (op_move rfl rfl rfl)) ?_
    refine rg_put (d := 9) (v := .d (.fl (.int .i64 y))) rfl (og rfl (op_move rfl rfl rfl)) ?_
    refine rg_put (d := 10) (v := .d (.fl (.bool ((decide (y < x)))))) rfl (og rfl (op_bin rfl rfl rfl (b_gtr _ _ _ _) rfl)) ?_
    refine rg_done rfl ?_
    refine a_cond rfl (fun h4 => ?_) (fun h4 => ?_)
    · skip
      have h5 := t_dec h4
      refine a_rseq ?_
      refine rg_put (d := 4) (v := .d (.fl (.int .i64 1))) rfl (og rfl (op_assign rfl rfl rfl)) ?_
      refine rg_done rfl ?_
      refine a_ret ?_
      show ∃ ds, ResL _ _ _ ds ∧ RV.of ds = _
      refine ⟨[.fl (.int .i64 1)], (.cons (.tmp rfl (.d _)) .nil), ?_⟩
      first
        | (have hu : ic x y = 1 := by
            unfold ic; simp only [h1, h4, Bool.true_or, Bool.false_or, Bool.or_true, Bool.or_false, Bool.not_true, Bool.not_false, cond_true, cond_false, Bool.true_and, Bool.false_and, Bool.and_true, Bool.and_false] <;> rfl
           rw [hu]; rfl)
        | (exfalso; omega)
    · skip
      have h6 := f_dec h4
      refine a_skip ?_
      show A _ _ _ _ _ _ _
      refine a_rseq ?_
      refine rg_put (d := 4) (v := .d (.fl (.int .i64 0))) rfl (og rfl (op_assign rfl rfl rfl)) ?_
      refine rg_done rfl ?_
      refine a_ret ?_
      show ∃ ds, ResL _ _ _ ds ∧ RV.of ds = _
      refine ⟨[.fl (.int .i64 0)], (.cons (.tmp rfl (.d _)) .nil), ?_⟩
      first
        | (have hu : ic x y = 0 := by
            unfold ic; simp only [h1, h4, Bool.true_or, Bool.false_or, Bool.or_true, Bool.or_false, Bool.not_true, Bool.not_false, cond_true, cond_false, Bool.true_and, Bool.false_and, Bool.and_true, Bool.and_false] <;> rfl
           rw [hu]; rfl)
        | (exfalso; omega)
set_option maxHeartbeats 4000000 in
set_option maxRecDepth 100000 in
theorem scC (s u : ByteArray) : Ctr Tryz.prog 78 [.fl (.string s), .fl (.string u)] (.d (.fl (.int .i64 (sc s u)))) := by
  refine ctr (n := 20) (rs := #[.tmp 4]) (L := [(0, .d (.fl (.string s))), (1, .d (.fl (.string u)))]) Tryz.func78 rfl rfl rfl rfl rfl (fun w0 U0 => ?_)
  refine a_rseq ?_
  refine rg_put (d := 4) (v := .d (.fl (.int .i64 0))) rfl (og rfl (op_assign rfl rfl rfl)) ?_
  refine rg_done rfl ?_
  refine a_rseq ?_
  refine rg_put (d := 7) (v := .d (.fl (.string s))) rfl (og rfl (op_move rfl rfl rfl)) ?_
  refine rg_put (d := 8) (v := .d (.fl (.bool ((!(sEq s s)))))) rfl (og rfl (op_call rfl Tryz.func103 nm103 rfl (.cons rfl (.d _) .nil) (nanS s) rfl)) ?_
  refine rg_put (d := 5) (v := .d (.fl (.bool ((!(sEq s s)))))) rfl (og rfl (op_assign rfl rfl rfl)) ?_
  refine rg_done rfl ?_
  refine a_rseq ?_
  refine rg_put (d := 9) (v := .d (.fl (.string u))) rfl (og rfl (op_move rfl rfl rfl)) ?_
  refine rg_put (d := 10) (v := .d (.fl (.bool ((!(sEq u u)))))) rfl (og rfl (op_call rfl Tryz.func103 nm103 rfl (.cons rfl (.d _) .nil) (nanS u) rfl)) ?_
  refine rg_put (d := 6) (v := .d (.fl (.bool ((!(sEq u u)))))) rfl (og rfl (op_assign rfl rfl rfl)) ?_
  refine rg_done rfl ?_
  refine a_seq ?_
  refine a_rseq ?_
  refine rg_put (d := 11) (v := .d (.fl (.bool ((!(sEq s s)))))) rfl (og rfl (op_move rfl rfl rfl)) ?_
  refine rg_done rfl ?_
  refine a_condF rfl (not_f (eq_self_s _)) ?_
  refine a_skip ?_
  show A _ _ _ _ _ _ _
  refine a_seq ?_
  refine a_rseq ?_
  refine rg_put (d := 13) (v := .d (.fl (.bool ((!(sEq u u)))))) rfl (og rfl (op_move rfl rfl rfl)) ?_
  refine rg_done rfl ?_
  refine a_condF rfl (not_f (eq_self_s _)) ?_
  refine a_skip ?_
  show A _ _ _ _ _ _ _
  refine a_seq ?_
  refine a_rseq ?_
  refine rg_put (d := 14) (v := .d (.fl (.string s))) rfl (og rfl (op_move rfl rfl rfl)) ?_
  refine rg_put (d := 15) (v := .d (.fl (.string u))) rfl (og rfl (op_move rfl rfl rfl)) ?_
  refine rg_put (d := 16) (v := .d (.fl (.bool (sLt s u)))) rfl (og rfl (op_bin rfl rfl rfl (b_slt _ _ _) rfl)) ?_
  refine rg_done rfl ?_
  refine a_cond rfl (fun h1 => ?_) (fun h1 => ?_)
  · skip
    refine a_rseq ?_
    refine rg_put (d := 4) (v := .d (.fl (.int .i64 (-1)))) rfl (og rfl (op_assign rfl rfl rfl)) ?_
    refine rg_done rfl ?_
    refine a_ret ?_
    show ∃ ds, ResL _ _ _ ds ∧ RV.of ds = _
    refine ⟨[.fl (.int .i64 (-1))], (.cons (.tmp rfl (.d _)) .nil), ?_⟩
    rw [sc_lt h1]; rfl
  · skip
    refine a_skip ?_
    show A _ _ _ _ _ _ _
    refine a_seq ?_
    refine a_rseq ?_
    refine rg_put (d := 17) (v := .d (.fl (.string s))) rfl (og rfl (op_move rfl rfl rfl)) ?_
    refine rg_put (d := 18) (v := .d (.fl (.string u))) rfl (og rfl (op_move rfl rfl rfl)) ?_
    refine rg_put (d := 19) (v := .d (.fl (.bool ((!(sLt s u || sEq s u)))))) rfl (og rfl (op_bin rfl rfl rfl (b_sgt _ _ _) rfl)) ?_
    refine rg_done rfl ?_
    refine a_cond rfl (fun h2 => ?_) (fun h2 => ?_)
    · skip
      have h3 := t_not h2
      refine a_rseq ?_
      refine rg_put (d := 4) (v := .d (.fl (.int .i64 1))) rfl (og rfl (op_assign rfl rfl rfl)) ?_
      refine rg_done rfl ?_
      refine a_ret ?_
      show ∃ ds, ResL _ _ _ ds ∧ RV.of ds = _
      refine ⟨[.fl (.int .i64 1)], (.cons (.tmp rfl (.d _)) .nil), ?_⟩
      rw [sc_gt h1 h3]; rfl
    · skip
      have h4 := f_not h2
      refine a_skip ?_
      show A _ _ _ _ _ _ _
      refine a_rseq ?_
      refine rg_put (d := 4) (v := .d (.fl (.int .i64 0))) rfl (og rfl (op_assign rfl rfl rfl)) ?_
      refine rg_done rfl ?_
      refine a_ret ?_
      show ∃ ds, ResL _ _ _ ds ∧ RV.of ds = _
      refine ⟨[.fl (.int .i64 0)], (.cons (.tmp rfl (.d _)) .nil), ?_⟩
      rw [sc_eq h1 h4]; rfl
set_option maxHeartbeats 4000000 in
set_option maxRecDepth 100000 in
theorem befR (s u : ByteArray) (hs : s.size ≤ 80) (hz : u.size ≤ 80) : Ctr Tryz.prog 32 [.fl (.string s), .fl (.string u)] (.d (.fl (.bool (sLt s u)))) := by
  refine ctr (n := 37) (rs := #[.tmp 4]) (L := [(0, .d (.fl (.string s))), (1, .d (.fl (.string u)))]) Tryz.func32 rfl rfl rfl rfl rfl (fun w0 U0 => ?_)
  refine a_rseq ?_
  refine rg_put (d := 4) (v := .d (.fl (.bool false))) rfl (og rfl (op_assign rfl rfl rfl)) ?_
  refine rg_done rfl ?_
  refine a_seq ?_
  refine a_rseq ?_
  refine rg_put (d := 5) (v := .d (.fl (.int .i64 0))) rfl (og rfl (op_assign rfl rfl rfl)) ?_
  refine rg_done rfl ?_
  refine a_block ?_
  refine a_loop (ι := Nat) (fun k => SS [(0, .d (.fl (.string s))), (1, .d (.fl (.string u))), (5, .d (.fl (.int .i64 (k : Int))))] []) (fun k => k ≤ s.size ∧ k ≤ u.size ∧ ∀ q, q < k → bt s q = bt u q) (fun k => s.size - k) 0 (⟨by omega, by omega, fun q h => by omega⟩) (imp_forget rfl ⟨rfl, rfl, (by first | rfl | exact ci (by omega) | exact ci (by simp) | exact cd (by simp) | simp), trivial⟩ trivial) (fun k hok => ?_)
  obtain ⟨hk, hk2, hq⟩ := hok
  refine a_seq ?_
  refine a_rseq ?_
  refine rg_put (d := 6) (v := .d (.fl (.int .i64 (k : Int)))) rfl (og rfl (op_move rfl rfl rfl)) ?_
  refine rg_put (d := 7) (v := .d (.fl (.string s))) rfl (og rfl (op_move rfl rfl rfl)) ?_
  refine rg_put (d := 8) (v := .d (.fl (.int .i64 (s.size : Int)))) rfl (og rfl (op_len_str rfl Tryz.underlying9 rfl rfl)) ?_
  refine rg_put (d := 9) (v := .d (.fl (.bool ((decide ((k : Int) < (s.size : Int))))))) rfl (og rfl (op_bin rfl rfl rfl (b_lss _ _ _ _) rfl)) ?_
  refine rg_put (d := 10) (v := .d (.fl (.bool ((decide ((k : Int) < (s.size : Int))))))) rfl (og rfl (op_move rfl rfl rfl)) ?_
  rcases fot ((decide ((k : Int) < (s.size : Int)))) with h1 | h1
  · skip
    have h2 := f_dec h1
    refine rg_put (d := 11) (v := .d (.fl undef)) rfl (on rfl rfl rfl h1) ?_
    refine rg_put (d := 12) (v := .d (.fl undef)) rfl (on rfl rfl rfl h1) ?_
    refine rg_put (d := 13) (v := .d (.fl undef)) rfl (on rfl rfl rfl h1) ?_
    refine rg_put (d := 14) (v := .d (.fl undef)) rfl (on rfl rfl rfl h1) ?_
    refine rg_put (d := 15) (v := .d (.fl (.bool false))) rfl (og rfl (op_pick rfl rfl (by rw [h1]; rfl) rfl)) ?_
    refine rg_done rfl ?_
    refine a_condF rfl rfl ?_
    refine a_exit ?_
    show A _ _ _ _ _ _ _
    refine a_rseq ?_
    refine rg_put (d := 32) (v := .d (.fl (.string s))) rfl (og rfl (op_move rfl rfl rfl)) ?_
    refine rg_put (d := 33) (v := .d (.fl (.int .i64 (s.size : Int)))) rfl (og rfl (op_len_str rfl Tryz.underlying9 rfl rfl)) ?_
    refine rg_put (d := 34) (v := .d (.fl (.string u))) rfl (og rfl (op_move rfl rfl rfl)) ?_
    refine rg_put (d := 35) (v := .d (.fl (.int .i64 (u.size : Int)))) rfl (og rfl (op_len_str rfl Tryz.underlying9 rfl rfl)) ?_
    refine rg_put (d := 36) (v := .d (.fl (.bool ((decide ((s.size : Int) < (u.size : Int))))))) rfl (og rfl (op_bin rfl rfl rfl (b_lss _ _ _ _) rfl)) ?_
    refine rg_put (d := 4) (v := .d (.fl (.bool ((decide ((s.size : Int) < (u.size : Int))))))) rfl (og rfl (op_assign rfl rfl rfl)) ?_
    refine rg_done rfl ?_
    refine a_ret ?_
    show ∃ ds, ResL _ _ _ ds ∧ RV.of ds = _
    refine ⟨[.fl (.bool ((decide ((s.size : Int) < (u.size : Int)))))], (.cons (.tmp rfl (.d _)) .nil), ?_⟩
    rw [bef_end (k := k) (by omega) hq]; rfl
  · skip
    have h3 := t_dec h1
    refine rg_put (d := 11) (v := .d (.fl (.int .i64 (k : Int)))) rfl (oy rfl rfl rfl h1 (op_move rfl rfl rfl)) ?_
    refine rg_put (d := 12) (v := .d (.fl (.string u))) rfl (oy rfl rfl rfl h1 (op_move rfl rfl rfl)) ?_
    refine rg_put (d := 13) (v := .d (.fl (.int .i64 (u.size : Int)))) rfl (oy rfl rfl rfl h1 (op_len_str rfl Tryz.underlying9 rfl rfl)) ?_
    refine rg_put (d := 14) (v := .d (.fl (.bool ((decide ((k : Int) < (u.size : Int))))))) rfl (oy rfl rfl rfl h1 (op_bin rfl rfl rfl (b_lss _ _ _ _) rfl)) ?_
    refine rg_put (d := 15) (v := .d (.fl (.bool ((decide ((k : Int) < (u.size : Int))))))) rfl (og rfl (op_pick rfl rfl (by rw [h1]; rfl) rfl)) ?_
    refine rg_done rfl ?_
    refine a_cond rfl (fun h4 => ?_) (fun h4 => ?_)
    · skip
      have h5 := t_dec h4
      refine a_skip ?_
      show A _ _ _ _ _ _ _
      refine a_seq ?_
      refine a_block ?_
      refine a_dseq (by kernel_rfl) ?_
      refine dr_put (d := 18) (v := .d (.fl (.string s))) rfl (og rfl (op_move rfl rfl rfl)) ?_
      refine dr_put (d := 19) (v := .d (.fl (.int .i64 (k : Int)))) rfl (og rfl (op_move rfl rfl rfl)) ?_
      refine dr_put (d := 20) (v := .d (.fl (.int .u8 (((bt s k).toNat : Int))))) rfl (og rfl (op_strindex rfl Tryz.underlying9 rfl rfl (by omega) (byte_ix (by omega)) rfl)) ?_
      refine dr_put (d := 21) (v := .d (.fl (.string u))) rfl (og rfl (op_move rfl rfl rfl)) ?_
      refine dr_put (d := 22) (v := .d (.fl (.int .i64 (k : Int)))) rfl (og rfl (op_move rfl rfl rfl)) ?_
      refine dr_put (d := 23) (v := .d (.fl (.int .u8 (((bt u k).toNat : Int))))) rfl (og rfl (op_strindex rfl Tryz.underlying9 rfl rfl (by omega) (byte_ix (by omega)) rfl)) ?_
      refine dr_put (d := 24) (v := .d (.fl (.bool ((((bt s k).toNat : Int) != ((bt u k).toNat : Int)))))) rfl (og rfl (op_bin rfl rfl rfl (b_neq _ _ _ _) rfl)) ?_
      refine dr_done rfl (by kernel_rfl) (by kernel_rfl) ?_
      refine a_cond rfl (fun h6 => ?_) (fun h6 => ?_)
      · skip
        have h7 := t_bne h6
        refine a_dseq (by kernel_rfl) ?_
        refine dr_put (d := 25) (v := .d (.fl (.string s))) rfl (og rfl (op_move rfl rfl rfl)) ?_
        refine dr_put (d := 26) (v := .d (.fl (.int .i64 (k : Int)))) rfl (og rfl (op_move rfl rfl rfl)) ?_
        refine dr_put (d := 27) (v := .d (.fl (.int .u8 (((bt s k).toNat : Int))))) rfl (og rfl (op_strindex rfl Tryz.underlying9 rfl rfl (by omega) (byte_ix (by omega)) rfl)) ?_
        refine dr_put (d := 28) (v := .d (.fl (.string u))) rfl (og rfl (op_move rfl rfl rfl)) ?_
        refine dr_put (d := 29) (v := .d (.fl (.int .i64 (k : Int)))) rfl (og rfl (op_move rfl rfl rfl)) ?_
        refine dr_put (d := 30) (v := .d (.fl (.int .u8 (((bt u k).toNat : Int))))) rfl (og rfl (op_strindex rfl Tryz.underlying9 rfl rfl (by omega) (byte_ix (by omega)) rfl)) ?_
        refine dr_put (d := 31) (v := .d (.fl (.bool ((decide (((bt s k).toNat : Int) < ((bt u k).toNat : Int))))))) rfl (og rfl (op_bin rfl rfl rfl (b_lss _ _ _ _) rfl)) ?_
        refine dr_put (d := 4) (v := .d (.fl (.bool ((decide (((bt s k).toNat : Int) < ((bt u k).toNat : Int))))))) rfl (og rfl (op_assign rfl rfl rfl)) ?_
        refine dr_done rfl (by kernel_rfl) (by kernel_rfl) ?_
        refine a_ret ?_
        show ∃ ds, ResL _ _ _ ds ∧ RV.of ds = _
        refine ⟨[.fl (.bool ((decide (((bt s k).toNat : Int) < ((bt u k).toNat : Int)))))], (.cons (.tmp rfl (.d _)) .nil), ?_⟩
        have hne : bt s k ≠ bt u k := fun e => by have := t_bne h6; rw [e] at this; exact this rfl
        rw [bef_at (by omega) (by omega) hq hne]; rfl
      · skip
        have h8 := f_bne h6
        refine a_skip ?_
        show A _ _ _ _ _ _ _
        refine a_region ?_
        refine rg_put (d := 16) (v := .d (.fl (.int .i64 (k : Int)))) rfl (og rfl (op_move rfl rfl rfl)) ?_
        refine rg_put (d := 17) (v := .d (.fl (.int .i64 (((k : Int) + 1))))) rfl (og rfl (op_bin rfl rfl rfl (fun x y w => b_add64 _ _ _ x y w (by omega)) rfl)) ?_
        refine rg_put (d := 5) (v := .d (.fl (.int .i64 (((k : Int) + 1))))) rfl (og rfl (op_assign rfl rfl rfl)) ?_
        refine rg_done rfl ?_
        have hx : bt s k = bt u k := UInt8.toNat_inj.1 (by have := f_bne h6; omega)
        show ∃ i, _ ∧ _ ∧ Imp _ _ _ _ _
        refine ⟨k + 1, ⟨by omega, by omega, fun q h => (Nat.lt_succ_iff_lt_or_eq.1 h).elim (hq q) (fun e => by rw [e]; exact hx)⟩, by omega, imp_forget rfl ⟨rfl, rfl, (by first | rfl | exact ci (by omega) | exact ci (by simp) | exact cd (by simp) | simp), trivial⟩ trivial⟩
    · skip
      have h9 := f_dec h4
      refine a_exit ?_
      show A _ _ _ _ _ _ _
      refine a_rseq ?_
      refine rg_put (d := 32) (v := .d (.fl (.string s))) rfl (og rfl (op_move rfl rfl rfl)) ?_
      refine rg_put (d := 33) (v := .d (.fl (.int .i64 (s.size : Int)))) rfl (og rfl (op_len_str rfl Tryz.underlying9 rfl rfl)) ?_
      refine rg_put (d := 34) (v := .d (.fl (.string u))) rfl (og rfl (op_move rfl rfl rfl)) ?_
      refine rg_put (d := 35) (v := .d (.fl (.int .i64 (u.size : Int)))) rfl (og rfl (op_len_str rfl Tryz.underlying9 rfl rfl)) ?_
      refine rg_put (d := 36) (v := .d (.fl (.bool ((decide ((s.size : Int) < (u.size : Int))))))) rfl (og rfl (op_bin rfl rfl rfl (b_lss _ _ _ _) rfl)) ?_
      refine rg_put (d := 4) (v := .d (.fl (.bool ((decide ((s.size : Int) < (u.size : Int))))))) rfl (og rfl (op_assign rfl rfl rfl)) ?_
      refine rg_done rfl ?_
      refine a_ret ?_
      show ∃ ds, ResL _ _ _ ds ∧ RV.of ds = _
      refine ⟨[.fl (.bool ((decide ((s.size : Int) < (u.size : Int)))))], (.cons (.tmp rfl (.d _)) .nil), ?_⟩
      rw [bef_end (k := k) (by omega) hq]; rfl
set_option maxHeartbeats 4000000 in
set_option maxRecDepth 100000 in
theorem scR0 (s u : ByteArray) (hs : s.size ≤ 80) (hz : u.size ≤ 80) : Ctr Tryz.prog 59 [.fl (.string s), .fl (.string u)] (.d (.fl (.int .i64 (sc s u)))) := by
  refine ctr (n := 11) (rs := #[.tmp 4]) (L := [(0, .d (.fl (.string s))), (1, .d (.fl (.string u)))]) Tryz.func59 rfl rfl rfl rfl rfl (fun w0 U0 => ?_)
  refine a_rseq ?_
  refine rg_put (d := 4) (v := .d (.fl (.int .i64 0))) rfl (og rfl (op_assign rfl rfl rfl)) ?_
  refine rg_done rfl ?_
  refine a_seq ?_
  refine a_rseq ?_
  refine rg_put (d := 5) (v := .d (.fl (.string s))) rfl (og rfl (op_move rfl rfl rfl)) ?_
  refine rg_put (d := 6) (v := .d (.fl (.string u))) rfl (og rfl (op_move rfl rfl rfl)) ?_
  refine rg_put (d := 7) (v := .d (.fl (.bool (sEq s u)))) rfl (og rfl (op_bin rfl rfl rfl (b_seq _ _ _) rfl)) ?_
  refine rg_done rfl ?_
  refine a_cond rfl (fun h1 => ?_) (fun h1 => ?_)
  · skip
    refine a_rseq ?_
    refine rg_put (d := 4) (v := .d (.fl (.int .i64 0))) rfl (og rfl (op_assign rfl rfl rfl)) ?_
    refine rg_done rfl ?_
    refine a_ret ?_
    show ∃ ds, ResL _ _ _ ds ∧ RV.of ds = _
    refine ⟨[.fl (.int .i64 0)], (.cons (.tmp rfl (.d _)) .nil), ?_⟩
    first
      | (have hu : sc s u = 0 := by
          unfold sc; simp only [h1, Bool.true_or, Bool.false_or, Bool.or_true, Bool.or_false, Bool.not_true, Bool.not_false, cond_true, cond_false, Bool.true_and, Bool.false_and, Bool.and_true, Bool.and_false] <;> rfl
         rw [hu]; rfl)
      | (exfalso; omega)
  · skip
    refine a_skip ?_
    show A _ _ _ _ _ _ _
    refine a_seq ?_
    refine a_rseq ?_
    refine rg_put (d := 8) (v := .d (.fl (.string s))) rfl (og rfl (op_move rfl rfl rfl)) ?_
    refine rg_put (d := 9) (v := .d (.fl (.string u))) rfl (og rfl (op_move rfl rfl rfl)) ?_
    refine rg_put (d := 10) (v := .d (.fl (.bool (sLt s u)))) rfl (og rfl (op_call rfl Tryz.func32 nm32 rfl (.cons rfl (.d _) (.cons rfl (.d _) .nil)) (befR s u (by omega) (by omega)) rfl)) ?_
    refine rg_done rfl ?_
    refine a_cond rfl (fun h2 => ?_) (fun h2 => ?_)
    · skip
      refine a_rseq ?_
      refine rg_put (d := 4) (v := .d (.fl (.int .i64 (-1)))) rfl (og rfl (op_assign rfl rfl rfl)) ?_
      refine rg_done rfl ?_
      refine a_ret ?_
      show ∃ ds, ResL _ _ _ ds ∧ RV.of ds = _
      refine ⟨[.fl (.int .i64 (-1))], (.cons (.tmp rfl (.d _)) .nil), ?_⟩
      first
        | (have hu : sc s u = (-1) := by
            unfold sc; simp only [h1, h2, Bool.true_or, Bool.false_or, Bool.or_true, Bool.or_false, Bool.not_true, Bool.not_false, cond_true, cond_false, Bool.true_and, Bool.false_and, Bool.and_true, Bool.and_false] <;> rfl
           rw [hu]; rfl)
        | (exfalso; omega)
    · skip
      refine a_skip ?_
      show A _ _ _ _ _ _ _
      refine a_rseq ?_
      refine rg_put (d := 4) (v := .d (.fl (.int .i64 1))) rfl (og rfl (op_assign rfl rfl rfl)) ?_
      refine rg_done rfl ?_
      refine a_ret ?_
      show ∃ ds, ResL _ _ _ ds ∧ RV.of ds = _
      refine ⟨[.fl (.int .i64 1)], (.cons (.tmp rfl (.d _)) .nil), ?_⟩
      first
        | (have hu : sc s u = 1 := by
            unfold sc; simp only [h1, h2, Bool.true_or, Bool.false_or, Bool.or_true, Bool.or_false, Bool.not_true, Bool.not_false, cond_true, cond_false, Bool.true_and, Bool.false_and, Bool.and_true, Bool.and_false] <;> rfl
           rw [hu]; rfl)
        | (exfalso; omega)
set_option maxHeartbeats 4000000 in
set_option maxRecDepth 100000 in
theorem orC (l : List Int) (hl : l.length ≤ 1000) : Ctr Tryz.prog 77 [.sl 1 (List.map (rI .i64) l)] (.d (.fl (.int .i64 (fz l)))) := by
  refine ctr (n := 18) (rs := #[.tmp 2]) (L := [(0, .d (.sl 1 (List.map (rI .i64) l)))]) Tryz.func77 rfl rfl rfl rfl rfl (fun w0 U0 => ?_)
  refine a_rseq ?_
  refine rg_put (d := 2) (v := .d (.fl (.int .i64 0))) rfl (og rfl (op_assign rfl rfl rfl)) ?_
  refine rg_done rfl ?_
  refine a_rseq ?_
  refine rg_put (d := 3) (v := .d (.fl (.int .i64 0))) rfl (og rfl (op_assign rfl rfl rfl)) ?_
  refine rg_done rfl ?_
  refine a_seq ?_
  refine a_rseq ?_
  refine rg_put (d := 6) (v := .d (.sl 1 (List.map (rI .i64) l))) rfl (og rfl (op_move rfl rfl rfl)) ?_
  refine rg_put (d := 7) (v := .d (.fl (.int .i64 (l.length : Int)))) rfl (og rfl (s_len rfl Tryz.underlying83 rfl rfl)) ?_
  refine rg_put (d := 8) (v := .d (.fl (.int .i64 0))) rfl (og rfl (op_move rfl rfl rfl)) ?_
  refine rg_done rfl ?_
  refine a_block ?_
  refine a_loop (ι := Nat) (fun k => SS [(0, .d (.sl 1 (List.map (rI .i64) l))), (3, .d (.fl (.int .i64 0))), (6, .d (.sl 1 (List.map (rI .i64) l))), (7, .d (.fl (.int .i64 (l.length : Int)))), (8, .d (.fl (.int .i64 (k : Int))))] []) (fun k => k ≤ l.length ∧ ∀ q, q < k → ix l q = 0) (fun k => l.length - k) 0 (⟨by omega, fun q h => by omega⟩) (imp_forget rfl ⟨rfl, rfl, rfl, rfl, (by first | rfl | exact ci (by omega) | exact ci (by simp) | exact cd (by simp) | simp), trivial⟩ trivial) (fun k hok => ?_)
  obtain ⟨hk, hq⟩ := hok
  refine a_rseq ?_
  refine rg_put (d := 9) (v := .d (.fl (.bool ((decide ((k : Int) < (l.length : Int))))))) rfl (og rfl (op_bin rfl rfl rfl (b_lss _ _ _ _) rfl)) ?_
  refine rg_done rfl ?_
  refine a_seq ?_
  refine a_cond rfl (fun h1 => ?_) (fun h1 => ?_)
  · skip
    have h2 := t_dec h1
    refine a_skip ?_
    show A _ _ _ _ _ _ _
    refine a_seq ?_
    refine a_block ?_
    refine a_rseq ?_
    refine rg_put (d := 10) (v := .el ((rI .i64 (ix l k)))) rfl (og rfl (s_index rfl Tryz.underlying83 ti3 rfl rfl (by omega) (row_at (by omega)) rfl)) ?_
    refine rg_put (d := 11) (v := .d (.fl (.int .i64 (ix l k)))) rfl (og rfl (op_load_el rfl Tryz.underlying3 rfl rfl rfl rfl)) ?_
    refine rg_put (d := 5) (v := .d (.fl (.int .i64 (ix l k)))) rfl (og rfl (op_assign rfl rfl rfl)) ?_
    refine rg_done rfl ?_
    refine a_rseq ?_
    refine rg_put (d := 12) (v := .d (.fl (.int .i64 (ix l k)))) rfl (og rfl (op_move rfl rfl rfl)) ?_
    refine rg_put (d := 13) (v := .d (.fl (.int .i64 0))) rfl (og rfl (op_move rfl rfl rfl)) ?_
    refine rg_put (d := 14) (v := .d (.fl (.bool (((ix l k) != 0))))) rfl (og rfl (op_bin rfl rfl rfl (b_neq _ _ _ _) rfl)) ?_
    refine rg_done rfl ?_
    refine a_cond rfl (fun h3 => ?_) (fun h3 => ?_)
    · skip
      have h4 := t_bne h3
      refine a_rseq ?_
      refine rg_put (d := 15) (v := .d (.fl (.int .i64 (ix l k)))) rfl (og rfl (op_move rfl rfl rfl)) ?_
      refine rg_put (d := 2) (v := .d (.fl (.int .i64 (ix l k)))) rfl (og rfl (op_assign rfl rfl rfl)) ?_
      refine rg_done rfl ?_
      refine a_ret ?_
      show ∃ ds, ResL _ _ _ ds ∧ RV.of ds = _
      refine ⟨[.fl (.int .i64 (ix l k))], (.cons (.tmp rfl (.d _)) .nil), ?_⟩
      rw [fz_at (by omega) hq (t_bne h3)]; rfl
    · skip
      have h5 := f_bne h3
      refine a_skip ?_
      show A _ _ _ _ _ _ _
      refine a_region ?_
      refine rg_put (d := 16) (v := .d (.fl (.int .i64 (((k : Int) + 1))))) rfl (og rfl (op_bin rfl rfl rfl (fun x y w => b_add64 _ _ _ x y w (by omega)) rfl)) ?_
      refine rg_put (d := 8) (v := .d (.fl (.int .i64 (((k : Int) + 1))))) rfl (og rfl (op_move rfl rfl rfl)) ?_
      refine rg_done rfl ?_
      have hx : ix l k = 0 := f_bne h3
      show ∃ i, _ ∧ _ ∧ Imp _ _ _ _ _
      refine ⟨k + 1, ⟨by omega, fun q h => (Nat.lt_succ_iff_lt_or_eq.1 h).elim (hq q) (fun e => by rw [e]; exact hx)⟩, by omega, imp_forget rfl ⟨rfl, rfl, rfl, rfl, (by first | rfl | exact ci (by omega) | exact ci (by simp) | exact cd (by simp) | simp), trivial⟩ trivial⟩
  · skip
    have h6 := f_dec h1
    refine a_exit ?_
    show A _ _ _ _ _ _ _
    refine a_rseq ?_
    refine rg_put (d := 17) (v := .d (.fl (.int .i64 0))) rfl (og rfl (op_move rfl rfl rfl)) ?_
    refine rg_put (d := 2) (v := .d (.fl (.int .i64 0))) rfl (og rfl (op_assign rfl rfl rfl)) ?_
    refine rg_done rfl ?_
    refine a_ret ?_
    show ∃ ds, ResL _ _ _ ds ∧ RV.of ds = _
    refine ⟨[.fl (.int .i64 0)], (.cons (.tmp rfl (.d _)) .nil), ?_⟩
    rw [fz_no (fun q h => hq q (by omega))]; rfl
set_option maxHeartbeats 4000000 in
set_option maxRecDepth 100000 in
theorem soC (a b : Src) : Ctr Tryz.prog 65 [.ag (eSrc a), .ag (eSrc b)] (.d (.fl (.int .i64 (so a b)))) := by
  refine ctr (n := 17) (rs := #[.tmp 4]) (L := [(0, .d (.ag (eSrc a))), (1, .d (.ag (eSrc b)))]) Tryz.func65 rfl rfl rfl rfl rfl (fun w0 U0 => ?_)
  refine a_rseq ?_
  refine rg_nam (d := 2) (v := .pt 101 0) (m := 101) (nw := [(101, .bx 54 (eSrc a))]) rfl (og rfl (of_eff (op_box 101 rfl rfl rfl rfl) rfl)) rfl ?_
  refine rg_nam (d := 3) (v := .pt 102 0) (m := 102) (nw := [(102, .bx 54 (eSrc b))]) rfl (og rfl (of_eff (op_box 102 rfl rfl rfl rfl) rfl)) rfl ?_
  refine rg_put (d := 4) (v := .d (.fl (.int .i64 0))) rfl (og rfl (op_assign rfl rfl rfl)) ?_
  refine rg_done rfl ?_
  refine a_dseq (by kernel_rfl) ?_
  refine dr_put (d := 5) (v := .pt 101 0) rfl (og rfl (of_eff (s_field_pt rfl Tryz.underlying54 rfl ti9 rfl rfl rfl) rfl)) ?_
  refine dr_put (d := 6) (v := .d (.fl (.string a.dev))) rfl (og rfl (op_load_pt rfl Tryz.underlying9 rfl rfl rfl rfl rfl)) ?_
  refine dr_put (d := 7) (v := .pt 102 0) rfl (og rfl (of_eff (s_field_pt rfl Tryz.underlying54 rfl ti9 rfl rfl rfl) rfl)) ?_
  refine dr_put (d := 8) (v := .d (.fl (.string b.dev))) rfl (og rfl (op_load_pt rfl Tryz.underlying9 rfl rfl rfl rfl rfl)) ?_
  refine dr_put (d := 9) (v := .d (.fl (.int .i64 (sc a.dev b.dev)))) rfl (og rfl (op_call rfl Tryz.func78 nm78 rfl (.cons rfl (.d _) (.cons rfl (.d _) .nil)) (scC a.dev b.dev) rfl)) ?_
  refine dr_put (d := 10) (v := .pt 101 1) rfl (og rfl (of_eff (s_field_pt rfl Tryz.underlying54 rfl ti3 rfl rfl rfl) rfl)) ?_
  refine dr_put (d := 11) (v := .d (.fl (.int .i64 a.seq))) rfl (og rfl (op_load_pt rfl Tryz.underlying3 rfl rfl rfl rfl rfl)) ?_
  refine dr_put (d := 12) (v := .pt 102 1) rfl (og rfl (of_eff (s_field_pt rfl Tryz.underlying54 rfl ti3 rfl rfl rfl) rfl)) ?_
  refine dr_put (d := 13) (v := .d (.fl (.int .i64 b.seq))) rfl (og rfl (op_load_pt rfl Tryz.underlying3 rfl rfl rfl rfl rfl)) ?_
  refine dr_put (d := 14) (v := .d (.fl (.int .i64 (ic a.seq b.seq)))) rfl (og rfl (op_call rfl Tryz.func76 nm76 rfl (.cons rfl (.d _) (.cons rfl (.d _) .nil)) (icC a.seq b.seq) rfl)) ?_
  refine dr_put (d := 15) (v := .d (.sl 1 (List.map (rI .i64) [(sc a.dev b.dev), (ic a.seq b.seq)]))) rfl (og rfl (of_eff (op_slices rfl Tryz.underlying83 ti3 rfl rfl rfl (by kernel_rfl) (xs := [.fl (.int .i64 (sc a.dev b.dev)), .fl (.int .i64 (ic a.seq b.seq))]) rfl rfl (.cons rfl rfl (.d _) rfl rfl rfl (.cons rfl rfl (.d _) rfl rfl rfl .nil)) rfl) rfl)) ?_
  refine dr_put (d := 16) (v := .d (.fl (.int .i64 ((fz [(sc a.dev b.dev), (ic a.seq b.seq)]))))) rfl (og rfl (op_call rfl Tryz.func77 nm77 rfl (.cons rfl (.d _) .nil) (orC [(sc a.dev b.dev), (ic a.seq b.seq)] (by simp)) rfl)) ?_
  refine dr_put (d := 4) (v := .d (.fl (.int .i64 ((fz [(sc a.dev b.dev), (ic a.seq b.seq)]))))) rfl (og rfl (op_assign rfl rfl rfl)) ?_
  refine dr_done rfl (by kernel_rfl) (by kernel_rfl) ?_
  refine a_ret ?_
  show ∃ ds, ResL _ _ _ ds ∧ RV.of ds = _
  refine ⟨[.fl (.int .i64 ((fz [(sc a.dev b.dev), (ic a.seq b.seq)])))], (.cons (.tmp rfl (.d _)) .nil), ?_⟩
  rfl
set_option maxHeartbeats 4000000 in
set_option maxRecDepth 100000 in
theorem soR (a b : Src) (ha : a.dev.size ≤ 40) (hb : b.dev.size ≤ 40) : Ctr Tryz.prog 70 [.ag (eSrc a), .ag (eSrc b)] (.d (.fl (.int .i64 (so a b)))) := by
  refine ctr (n := 20) (rs := #[.tmp 4]) (L := [(0, .d (.ag (eSrc a))), (1, .d (.ag (eSrc b)))]) Tryz.func70 rfl rfl rfl rfl rfl (fun w0 U0 => ?_)
  refine a_rseq ?_
  refine rg_nam (d := 2) (v := .pt 101 0) (m := 101) (nw := [(101, .bx 54 (eSrc a))]) rfl (og rfl (of_eff (op_box 101 rfl rfl rfl rfl) rfl)) rfl ?_
  refine rg_nam (d := 3) (v := .pt 102 0) (m := 102) (nw := [(102, .bx 54 (eSrc b))]) rfl (og rfl (of_eff (op_box 102 rfl rfl rfl rfl) rfl)) rfl ?_
  refine rg_put (d := 4) (v := .d (.fl (.int .i64 0))) rfl (og rfl (op_assign rfl rfl rfl)) ?_
  refine rg_done rfl ?_
  refine a_seq ?_
  refine a_rseq ?_
  refine rg_put (d := 5) (v := .pt 101 0) rfl (og rfl (of_eff (s_field_pt rfl Tryz.underlying54 rfl ti9 rfl rfl rfl) rfl)) ?_
  refine rg_put (d := 6) (v := .d (.fl (.string a.dev))) rfl (og rfl (op_load_pt rfl Tryz.underlying9 rfl rfl rfl rfl rfl)) ?_
  refine rg_put (d := 7) (v := .pt 102 0) rfl (og rfl (of_eff (s_field_pt rfl Tryz.underlying54 rfl ti9 rfl rfl rfl) rfl)) ?_
  refine rg_put (d := 8) (v := .d (.fl (.string b.dev))) rfl (og rfl (op_load_pt rfl Tryz.underlying9 rfl rfl rfl rfl rfl)) ?_
  refine rg_put (d := 9) (v := .d (.fl (.bool ((!(sEq a.dev b.dev)))))) rfl (og rfl (op_bin rfl rfl rfl (b_sne _ _ _) rfl)) ?_
  refine rg_done rfl ?_
  refine a_cond rfl (fun h1 => ?_) (fun h1 => ?_)
  · skip
    have h2 := t_not h1
    refine a_rseq ?_
    refine rg_put (d := 10) (v := .pt 101 0) rfl (og rfl (of_eff (s_field_pt rfl Tryz.underlying54 rfl ti9 rfl rfl rfl) rfl)) ?_
    refine rg_put (d := 11) (v := .d (.fl (.string a.dev))) rfl (og rfl (op_load_pt rfl Tryz.underlying9 rfl rfl rfl rfl rfl)) ?_
    refine rg_put (d := 12) (v := .pt 102 0) rfl (og rfl (of_eff (s_field_pt rfl Tryz.underlying54 rfl ti9 rfl rfl rfl) rfl)) ?_
    refine rg_put (d := 13) (v := .d (.fl (.string b.dev))) rfl (og rfl (op_load_pt rfl Tryz.underlying9 rfl rfl rfl rfl rfl)) ?_
    refine rg_put (d := 14) (v := .d (.fl (.int .i64 (sc a.dev b.dev)))) rfl (og rfl (op_call rfl Tryz.func59 nm59 rfl (.cons rfl (.d _) (.cons rfl (.d _) .nil)) (scR0 a.dev b.dev (by omega) (by omega)) rfl)) ?_
    refine rg_put (d := 4) (v := .d (.fl (.int .i64 (sc a.dev b.dev)))) rfl (og rfl (op_assign rfl rfl rfl)) ?_
    refine rg_done rfl ?_
    refine a_ret ?_
    show ∃ ds, ResL _ _ _ ds ∧ RV.of ds = _
    refine ⟨[.fl (.int .i64 (sc a.dev b.dev))], (.cons (.tmp rfl (.d _)) .nil), ?_⟩
    have hn : (sc a.dev b.dev != 0) = true := by rw [bne_iff_ne]; rcases sc_cases a.dev b.dev with h | h | h <;> first | omega | (have := sEq_of h.2; rw [h2] at this; cases this)
    rw [show so a b = sc a.dev b.dev from by unfold so fz; rw [hn]; rfl]; rfl
  · skip
    have h3 := f_not h1
    refine a_skip ?_
    show A _ _ _ _ _ _ _
    refine a_rseq ?_
    refine rg_put (d := 15) (v := .pt 101 1) rfl (og rfl (of_eff (s_field_pt rfl Tryz.underlying54 rfl ti3 rfl rfl rfl) rfl)) ?_
    refine rg_put (d := 16) (v := .d (.fl (.int .i64 a.seq))) rfl (og rfl (op_load_pt rfl Tryz.underlying3 rfl rfl rfl rfl rfl)) ?_
    refine rg_put (d := 17) (v := .pt 102 1) rfl (og rfl (of_eff (s_field_pt rfl Tryz.underlying54 rfl ti3 rfl rfl rfl) rfl)) ?_
    refine rg_put (d := 18) (v := .d (.fl (.int .i64 b.seq))) rfl (og rfl (op_load_pt rfl Tryz.underlying3 rfl rfl rfl rfl rfl)) ?_
    refine rg_put (d := 19) (v := .d (.fl (.int .i64 (ic a.seq b.seq)))) rfl (og rfl (op_call rfl Tryz.func58 nm58 rfl (.cons rfl (.d _) (.cons rfl (.d _) .nil)) (icR0 a.seq b.seq) rfl)) ?_
    refine rg_put (d := 4) (v := .d (.fl (.int .i64 (ic a.seq b.seq)))) rfl (og rfl (op_assign rfl rfl rfl)) ?_
    refine rg_done rfl ?_
    refine a_ret ?_
    show ∃ ds, ResL _ _ _ ds ∧ RV.of ds = _
    refine ⟨[.fl (.int .i64 (ic a.seq b.seq))], (.cons (.tmp rfl (.d _)) .nil), ?_⟩
    have hn : sc a.dev b.dev = 0 := by unfold sc; rw [h3]; rfl
    rw [show so a b = ic a.seq b.seq from by unfold so fz; rw [hn]; unfold fz; cases h : (ic a.seq b.seq != 0) <;> simp at h ⊢ <;> first | rfl | (rw [h]; rfl)]; rfl
set_option maxHeartbeats 4000000 in
set_option maxRecDepth 100000 in
theorem clC (a b : List Src) (ha : a.length ≤ 30) (hb : b.length ≤ 30) : Ctr Tryz.prog 79 [.sl 2 (List.map eSrc a), .sl 2 (List.map eSrc b), .fn 65 []] (.d (.fl (.int .i64 (cl a b)))) := by
  refine ctr (n := 39) (rs := #[.tmp 6]) (L := [(0, .d (.sl 2 (List.map eSrc a))), (1, .d (.sl 2 (List.map eSrc b))), (2, .d (.fn 65 []))]) Tryz.func79 rfl rfl rfl rfl rfl (fun w0 U0 => ?_)
  refine a_rseq ?_
  refine rg_put (d := 6) (v := .d (.fl (.int .i64 0))) rfl (og rfl (op_assign rfl rfl rfl)) ?_
  refine rg_done rfl ?_
  refine a_seq ?_
  refine a_rseq ?_
  refine rg_put (d := 11) (v := .d (.sl 2 (List.map eSrc a))) rfl (og rfl (op_move rfl rfl rfl)) ?_
  refine rg_put (d := 12) (v := .d (.fl (.int .i64 (a.length : Int)))) rfl (og rfl (s_len rfl Tryz.underlying22 rfl rfl)) ?_
  refine rg_put (d := 13) (v := .d (.fl (.int .i64 0))) rfl (og rfl (op_move rfl rfl rfl)) ?_
  refine rg_done rfl ?_
  refine a_block ?_
  refine a_loop (ι := Nat) (fun k => SS [(0, .d (.sl 2 (List.map eSrc a))), (1, .d (.sl 2 (List.map eSrc b))), (2, .d (.fn 65 [])), (11, .d (.sl 2 (List.map eSrc a))), (12, .d (.fl (.int .i64 (a.length : Int)))), (13, .d (.fl (.int .i64 (k : Int))))] []) (fun k => k ≤ a.length ∧ k ≤ b.length ∧ ∀ q, q < k → so (ix a q) (ix b q) = 0) (fun k => a.length - k) 0 (⟨by omega, by omega, fun q h => by omega⟩) (imp_forget rfl ⟨rfl, rfl, rfl, rfl, rfl, (by first | rfl | exact ci (by omega) | exact ci (by simp) | exact cd (by simp) | simp), trivial⟩ trivial) (fun k hok => ?_)
  obtain ⟨hk, hk2, hq⟩ := hok
  refine a_rseq ?_
  refine rg_put (d := 14) (v := .d (.fl (.bool ((decide ((k : Int) < (a.length : Int))))))) rfl (og rfl (op_bin rfl rfl rfl (b_lss _ _ _ _) rfl)) ?_
  refine rg_done rfl ?_
  refine a_seq ?_
  refine a_cond rfl (fun h1 => ?_) (fun h1 => ?_)
  · skip
    have h2 := t_dec h1
    refine a_skip ?_
    show A _ _ _ _ _ _ _
    refine a_seq ?_
    refine a_block ?_
    refine a_rseq ?_
    refine rg_put (d := 15) (v := .d (.fl (.int .i64 (k : Int)))) rfl (og rfl (op_move rfl rfl rfl)) ?_
    refine rg_put (d := 16) (v := .el ((eSrc (ix a k)))) rfl (og rfl (s_index rfl Tryz.underlying22 ti54 rfl rfl (by omega) (row_at (by omega)) rfl)) ?_
    refine rg_put (d := 17) (v := .d (.ag (eSrc (ix a k)))) rfl (og rfl (of_eff (s_load_els rfl Tryz.underlying54 rfl ti54 rfl rfl rfl) rfl)) ?_
    refine rg_nam (d := 8) (v := .pt 101 0) (m := 101) (nw := [(101, .bx 54 ([.fl (.string (⟨#[]⟩)), .fl (.int .i64 0)]))]) rfl (og rfl (of_eff (s_alloc 101 rfl ti54 (by kernel_rfl) rfl) rfl)) rfl ?_
    refine rg_put (d := 7) (v := .d (.fl (.int .i64 (k : Int)))) rfl (og rfl (op_assign rfl rfl rfl)) ?_
    refine rg_sto (nw := [(101, .bx 54 ((eSrc (ix a k))))]) rfl (og rfl (of_eff (s_store rfl rfl ti54 rfl rfl rfl rfl rfl rfl) rfl)) ?_
    refine rg_done rfl ?_
    refine a_seq ?_
    refine a_rseq ?_
    refine rg_put (d := 18) (v := .d (.fl (.int .i64 (k : Int)))) rfl (og rfl (op_move rfl rfl rfl)) ?_
    refine rg_put (d := 19) (v := .d (.sl 2 (List.map eSrc b))) rfl (og rfl (op_move rfl rfl rfl)) ?_
    refine rg_put (d := 20) (v := .d (.fl (.int .i64 (b.length : Int)))) rfl (og rfl (s_len rfl Tryz.underlying22 rfl rfl)) ?_
    refine rg_put (d := 21) (v := .d (.fl (.bool ((decide ((b.length : Int) ≤ (k : Int))))))) rfl (og rfl (op_bin rfl rfl rfl (b_geq _ _ _ _) rfl)) ?_
    refine rg_done rfl ?_
    refine a_cond rfl (fun h3 => ?_) (fun h3 => ?_)
    · skip
      have h4 := t_dec h3
      refine a_rseq ?_
      refine rg_put (d := 6) (v := .d (.fl (.int .i64 1))) rfl (og rfl (op_assign rfl rfl rfl)) ?_
      refine rg_done rfl ?_
      refine a_ret ?_
      show ∃ ds, ResL _ _ _ ds ∧ RV.of ds = _
      refine ⟨[.fl (.int .i64 1)], (.cons (.tmp rfl (.d _)) .nil), ?_⟩
      have he := cl_end (k := k) (by omega) (by omega) (by omega) hq
      rw [show cl a b = 1 from by rw [he]; unfold ic; first | (rw [decide_eq_true (by omega)]; rfl) | (rw [decide_eq_false (by omega), decide_eq_true (by omega)]; rfl) | (rw [decide_eq_false (by omega), decide_eq_false (by omega)]; rfl)]; rfl
    · skip
      have h5 := f_dec h3
      refine a_skip ?_
      show A _ _ _ _ _ _ _
      refine a_rseq ?_
      refine rg_put (d := 22) (v := .d (.sl 2 (List.map eSrc b))) rfl (og rfl (op_move rfl rfl rfl)) ?_
      refine rg_put (d := 23) (v := .d (.fl (.int .i64 (k : Int)))) rfl (og rfl (op_move rfl rfl rfl)) ?_
      refine rg_put (d := 24) (v := .el ((eSrc (ix b k)))) rfl (og rfl (s_index rfl Tryz.underlying22 ti54 rfl rfl (by omega) (row_at (by omega)) rfl)) ?_
      refine rg_put (d := 25) (v := .d (.ag (eSrc (ix b k)))) rfl (og rfl (of_eff (s_load_els rfl Tryz.underlying54 rfl ti54 rfl rfl rfl) rfl)) ?_
      refine rg_nam (d := 9) (v := .pt 102 0) (m := 102) (nw := [(102, .bx 54 ([.fl (.string (⟨#[]⟩)), .fl (.int .i64 0)]))]) rfl (og rfl (of_eff (s_alloc 102 rfl ti54 (by kernel_rfl) rfl) rfl)) rfl ?_
      refine rg_sto (nw := [(102, .bx 54 ((eSrc (ix b k))))]) rfl (og rfl (of_eff (s_store rfl rfl ti54 rfl rfl rfl rfl rfl rfl) rfl)) ?_
      refine rg_done rfl ?_
      refine a_rseq ?_
      refine rg_put (d := 26) (v := .d (.fn 65 [])) rfl (og rfl (op_move rfl rfl rfl)) ?_
      refine rg_put (d := 27) (v := .d (.ag (eSrc (ix a k)))) rfl (og rfl (of_eff (s_load_pts rfl Tryz.underlying54 rfl ti54 rfl rfl rfl rfl) rfl)) ?_
      refine rg_put (d := 28) (v := .d (.ag (eSrc (ix b k)))) rfl (og rfl (of_eff (s_load_pts rfl Tryz.underlying54 rfl ti54 rfl rfl rfl rfl) rfl)) ?_
      refine rg_put (d := 29) (v := .d (.fl (.int .i64 ((so (ix a k) (ix b k)))))) rfl (og rfl (op_callV rfl rfl ⟨_, Tryz.func65, nm65, rfl⟩ (.cons rfl (.d _) (.cons rfl (.d _) .nil)) (soC (ix a k) (ix b k)) rfl)) ?_
      refine rg_put (d := 10) (v := .d (.fl (.int .i64 ((so (ix a k) (ix b k)))))) rfl (og rfl (op_assign rfl rfl rfl)) ?_
      refine rg_done rfl ?_
      refine a_rseq ?_
      refine rg_put (d := 30) (v := .d (.fl (.int .i64 ((so (ix a k) (ix b k)))))) rfl (og rfl (op_move rfl rfl rfl)) ?_
      refine rg_put (d := 31) (v := .d (.fl (.bool (((so (ix a k) (ix b k)) != 0))))) rfl (og rfl (op_bin rfl rfl rfl (b_neq _ _ _ _) rfl)) ?_
      refine rg_done rfl ?_
      refine a_cond rfl (fun h6 => ?_) (fun h6 => ?_)
      · skip
        have h7 := t_bne h6
        refine a_rseq ?_
        refine rg_put (d := 32) (v := .d (.fl (.int .i64 ((so (ix a k) (ix b k)))))) rfl (og rfl (op_move rfl rfl rfl)) ?_
        refine rg_put (d := 6) (v := .d (.fl (.int .i64 ((so (ix a k) (ix b k)))))) rfl (og rfl (op_assign rfl rfl rfl)) ?_
        refine rg_done rfl ?_
        refine a_ret ?_
        show ∃ ds, ResL _ _ _ ds ∧ RV.of ds = _
        refine ⟨[.fl (.int .i64 ((so (ix a k) (ix b k))))], (.cons (.tmp rfl (.d _)) .nil), ?_⟩
        rw [cl_at (by omega) (by omega) hq (t_bne h6)]; rfl
      · skip
        have h8 := f_bne h6
        refine a_skip ?_
        show A _ _ _ _ _ _ _
        refine a_region ?_
        refine rg_put (d := 33) (v := .d (.fl (.int .i64 (((k : Int) + 1))))) rfl (og rfl (op_bin rfl rfl rfl (fun x y w => b_add64 _ _ _ x y w (by omega)) rfl)) ?_
        refine rg_put (d := 13) (v := .d (.fl (.int .i64 (((k : Int) + 1))))) rfl (og rfl (op_move rfl rfl rfl)) ?_
        refine rg_done rfl ?_
        have hx : so (ix a k) (ix b k) = 0 := f_bne h6
        show ∃ i, _ ∧ _ ∧ Imp _ _ _ _ _
        refine ⟨k + 1, ⟨by omega, by omega, fun q h => (Nat.lt_succ_iff_lt_or_eq.1 h).elim (hq q) (fun e => by rw [e]; exact hx)⟩, by omega, imp_forget rfl ⟨rfl, rfl, rfl, rfl, rfl, (by first | rfl | exact ci (by omega) | exact ci (by simp) | exact cd (by simp) | simp), trivial⟩ trivial⟩
  · skip
    have h9 := f_dec h1
    refine a_exit ?_
    show A _ _ _ _ _ _ _
    refine a_seq ?_
    refine a_rseq ?_
    refine rg_put (d := 34) (v := .d (.sl 2 (List.map eSrc a))) rfl (og rfl (op_move rfl rfl rfl)) ?_
    refine rg_put (d := 35) (v := .d (.fl (.int .i64 (a.length : Int)))) rfl (og rfl (s_len rfl Tryz.underlying22 rfl rfl)) ?_
    refine rg_put (d := 36) (v := .d (.sl 2 (List.map eSrc b))) rfl (og rfl (op_move rfl rfl rfl)) ?_
    refine rg_put (d := 37) (v := .d (.fl (.int .i64 (b.length : Int)))) rfl (og rfl (s_len rfl Tryz.underlying22 rfl rfl)) ?_
    refine rg_put (d := 38) (v := .d (.fl (.bool ((decide ((a.length : Int) < (b.length : Int))))))) rfl (og rfl (op_bin rfl rfl rfl (b_lss _ _ _ _) rfl)) ?_
    refine rg_done rfl ?_
    refine a_cond rfl (fun h10 => ?_) (fun h10 => ?_)
    · skip
      have h11 := t_dec h10
      refine a_rseq ?_
      refine rg_put (d := 6) (v := .d (.fl (.int .i64 (-1)))) rfl (og rfl (op_assign rfl rfl rfl)) ?_
      refine rg_done rfl ?_
      refine a_ret ?_
      show ∃ ds, ResL _ _ _ ds ∧ RV.of ds = _
      refine ⟨[.fl (.int .i64 (-1))], (.cons (.tmp rfl (.d _)) .nil), ?_⟩
      have he := cl_end (k := k) (by omega) (by omega) (by omega) hq
      rw [show cl a b = (-1) from by rw [he]; unfold ic; first | (rw [decide_eq_true (by omega)]; rfl) | (rw [decide_eq_false (by omega), decide_eq_true (by omega)]; rfl) | (rw [decide_eq_false (by omega), decide_eq_false (by omega)]; rfl)]; rfl
    · skip
      have h12 := f_dec h10
      refine a_skip ?_
      show A _ _ _ _ _ _ _
      refine a_rseq ?_
      refine rg_put (d := 6) (v := .d (.fl (.int .i64 0))) rfl (og rfl (op_assign rfl rfl rfl)) ?_
      refine rg_done rfl ?_
      refine a_ret ?_
      show ∃ ds, ResL _ _ _ ds ∧ RV.of ds = _
      refine ⟨[.fl (.int .i64 0)], (.cons (.tmp rfl (.d _)) .nil), ?_⟩
      have he := cl_end (k := k) (by omega) (by omega) (by omega) hq
      rw [show cl a b = 0 from by rw [he]; unfold ic; first | (rw [decide_eq_true (by omega)]; rfl) | (rw [decide_eq_false (by omega), decide_eq_true (by omega)]; rfl) | (rw [decide_eq_false (by omega), decide_eq_false (by omega)]; rfl)]; rfl
set_option maxHeartbeats 4000000 in
set_option maxRecDepth 100000 in
theorem clR (a b : List Src) (hla : a.length ≤ 30) (hlb : b.length ≤ 30) (ha : ∀ q, q < a.length → (ix a q).dev.size ≤ 40) (hb : ∀ q, q < b.length → (ix b q).dev.size ≤ 40) : Ctr Tryz.prog 60 [.sl 2 (List.map eSrc a), .sl 2 (List.map eSrc b)] (.d (.fl (.int .i64 (cl a b)))) := by
  refine ctr (n := 36) (rs := #[.tmp 4]) (L := [(0, .d (.sl 2 (List.map eSrc a))), (1, .d (.sl 2 (List.map eSrc b)))]) Tryz.func60 rfl rfl rfl rfl rfl (fun w0 U0 => ?_)
  refine a_rseq ?_
  refine rg_put (d := 4) (v := .d (.fl (.int .i64 0))) rfl (og rfl (op_assign rfl rfl rfl)) ?_
  refine rg_done rfl ?_
  refine a_seq ?_
  refine a_rseq ?_
  refine rg_put (d := 5) (v := .d (.fl (.int .i64 0))) rfl (og rfl (op_assign rfl rfl rfl)) ?_
  refine rg_done rfl ?_
  refine a_block ?_
  refine a_loop (ι := Nat) (fun k => SS [(0, .d (.sl 2 (List.map eSrc a))), (1, .d (.sl 2 (List.map eSrc b))), (5, .d (.fl (.int .i64 (k : Int))))] []) (fun k => k ≤ a.length ∧ k ≤ b.length ∧ ∀ q, q < k → so (ix a q) (ix b q) = 0) (fun k => a.length - k) 0 (⟨by omega, by omega, fun q h => by omega⟩) (imp_forget rfl ⟨rfl, rfl, (by first | rfl | exact ci (by omega) | exact ci (by simp) | exact cd (by simp) | simp), trivial⟩ trivial) (fun k hok => ?_)
  obtain ⟨hk, hk2, hq⟩ := hok
  refine a_seq ?_
  refine a_rseq ?_
  refine rg_put (d := 7) (v := .d (.fl (.int .i64 (k : Int)))) rfl (og rfl (op_move rfl rfl rfl)) ?_
  refine rg_put (d := 8) (v := .d (.sl 2 (List.map eSrc a))) rfl (og rfl (op_move rfl rfl rfl)) ?_
  refine rg_put (d := 9) (v := .d (.fl (.int .i64 (a.length : Int)))) rfl (og rfl (s_len rfl Tryz.underlying22 rfl rfl)) ?_
  refine rg_put (d := 10) (v := .d (.fl (.bool ((decide ((k : Int) < (a.length : Int))))))) rfl (og rfl (op_bin rfl rfl rfl (b_lss _ _ _ _) rfl)) ?_
  refine rg_put (d := 11) (v := .d (.fl (.bool ((decide ((k : Int) < (a.length : Int))))))) rfl (og rfl (op_move rfl rfl rfl)) ?_
  rcases fot ((decide ((k : Int) < (a.length : Int)))) with h1 | h1
  · skip
    have h2 := f_dec h1
    refine rg_put (d := 12) (v := .d (.fl undef)) rfl (on rfl rfl rfl h1) ?_
    refine rg_put (d := 13) (v := .d (.fl undef)) rfl (on rfl rfl rfl h1) ?_
    refine rg_put (d := 14) (v := .d (.fl undef)) rfl (on rfl rfl rfl h1) ?_
    refine rg_put (d := 15) (v := .d (.fl undef)) rfl (on rfl rfl rfl h1) ?_
    refine rg_put (d := 16) (v := .d (.fl (.bool false))) rfl (og rfl (op_pick rfl rfl (by rw [h1]; rfl) rfl)) ?_
    refine rg_done rfl ?_
    refine a_condF rfl rfl ?_
    refine a_exit ?_
    show A _ _ _ _ _ _ _
    refine a_rseq ?_
    refine rg_put (d := 31) (v := .d (.sl 2 (List.map eSrc a))) rfl (og rfl (op_move rfl rfl rfl)) ?_
    refine rg_put (d := 32) (v := .d (.fl (.int .i64 (a.length : Int)))) rfl (og rfl (s_len rfl Tryz.underlying22 rfl rfl)) ?_
    refine rg_put (d := 33) (v := .d (.sl 2 (List.map eSrc b))) rfl (og rfl (op_move rfl rfl rfl)) ?_
    refine rg_put (d := 34) (v := .d (.fl (.int .i64 (b.length : Int)))) rfl (og rfl (s_len rfl Tryz.underlying22 rfl rfl)) ?_
    refine rg_put (d := 35) (v := .d (.fl (.int .i64 ((ic (a.length : Int) (b.length : Int)))))) rfl (og rfl (op_call rfl Tryz.func58 nm58 rfl (.cons rfl (.d _) (.cons rfl (.d _) .nil)) (icR0 (a.length : Int) (b.length : Int)) rfl)) ?_
    refine rg_put (d := 4) (v := .d (.fl (.int .i64 ((ic (a.length : Int) (b.length : Int)))))) rfl (og rfl (op_assign rfl rfl rfl)) ?_
    refine rg_done rfl ?_
    refine a_ret ?_
    show ∃ ds, ResL _ _ _ ds ∧ RV.of ds = _
    refine ⟨[.fl (.int .i64 ((ic (a.length : Int) (b.length : Int))))], (.cons (.tmp rfl (.d _)) .nil), ?_⟩
    rw [cl_end (k := k) (by omega) (by omega) (by omega) hq]; rfl
  · skip
    have h3 := t_dec h1
    refine rg_put (d := 12) (v := .d (.fl (.int .i64 (k : Int)))) rfl (oy rfl rfl rfl h1 (op_move rfl rfl rfl)) ?_
    refine rg_put (d := 13) (v := .d (.sl 2 (List.map eSrc b))) rfl (oy rfl rfl rfl h1 (op_move rfl rfl rfl)) ?_
    refine rg_put (d := 14) (v := .d (.fl (.int .i64 (b.length : Int)))) rfl (oy rfl rfl rfl h1 (s_len rfl Tryz.underlying22 rfl rfl)) ?_
    refine rg_put (d := 15) (v := .d (.fl (.bool ((decide ((k : Int) < (b.length : Int))))))) rfl (oy rfl rfl rfl h1 (op_bin rfl rfl rfl (b_lss _ _ _ _) rfl)) ?_
    refine rg_put (d := 16) (v := .d (.fl (.bool ((decide ((k : Int) < (b.length : Int))))))) rfl (og rfl (op_pick rfl rfl (by rw [h1]; rfl) rfl)) ?_
    refine rg_done rfl ?_
    refine a_cond rfl (fun h4 => ?_) (fun h4 => ?_)
    · skip
      have h5 := t_dec h4
      refine a_skip ?_
      show A _ _ _ _ _ _ _
      refine a_seq ?_
      refine a_block ?_
      refine a_dseq (by kernel_rfl) ?_
      refine dr_put (d := 19) (v := .d (.sl 2 (List.map eSrc a))) rfl (og rfl (op_move rfl rfl rfl)) ?_
      refine dr_put (d := 20) (v := .d (.fl (.int .i64 (k : Int)))) rfl (og rfl (op_move rfl rfl rfl)) ?_
      refine dr_put (d := 21) (v := .el ((eSrc (ix a k)))) rfl (og rfl (s_index rfl Tryz.underlying22 ti54 rfl rfl (by omega) (row_at (by omega)) rfl)) ?_
      refine dr_put (d := 22) (v := .d (.ag (eSrc (ix a k)))) rfl (og rfl (of_eff (s_load_els rfl Tryz.underlying54 rfl ti54 rfl rfl rfl) rfl)) ?_
      refine dr_put (d := 23) (v := .d (.sl 2 (List.map eSrc b))) rfl (og rfl (op_move rfl rfl rfl)) ?_
      refine dr_put (d := 24) (v := .d (.fl (.int .i64 (k : Int)))) rfl (og rfl (op_move rfl rfl rfl)) ?_
      refine dr_put (d := 25) (v := .el ((eSrc (ix b k)))) rfl (og rfl (s_index rfl Tryz.underlying22 ti54 rfl rfl (by omega) (row_at (by omega)) rfl)) ?_
      refine dr_put (d := 26) (v := .d (.ag (eSrc (ix b k)))) rfl (og rfl (of_eff (s_load_els rfl Tryz.underlying54 rfl ti54 rfl rfl rfl) rfl)) ?_
      refine dr_put (d := 27) (v := .d (.fl (.int .i64 ((so (ix a k) (ix b k)))))) rfl (og rfl (op_call rfl Tryz.func70 nm70 rfl (.cons rfl (.d _) (.cons rfl (.d _) .nil)) (soR (ix a k) (ix b k) (ha k (by omega)) (hb k (by omega))) rfl)) ?_
      refine dr_put (d := 6) (v := .d (.fl (.int .i64 ((so (ix a k) (ix b k)))))) rfl (og rfl (op_assign rfl rfl rfl)) ?_
      refine dr_done rfl (by kernel_rfl) (by kernel_rfl) ?_
      refine a_rseq ?_
      refine rg_put (d := 28) (v := .d (.fl (.int .i64 ((so (ix a k) (ix b k)))))) rfl (og rfl (op_move rfl rfl rfl)) ?_
      refine rg_put (d := 29) (v := .d (.fl (.bool (((so (ix a k) (ix b k)) != 0))))) rfl (og rfl (op_bin rfl rfl rfl (b_neq _ _ _ _) rfl)) ?_
      refine rg_done rfl ?_
      refine a_cond rfl (fun h6 => ?_) (fun h6 => ?_)
      · skip
        have h7 := t_bne h6
        refine a_rseq ?_
        refine rg_put (d := 30) (v := .d (.fl (.int .i64 ((so (ix a k) (ix b k)))))) rfl (og rfl (op_move rfl rfl rfl)) ?_
        refine rg_put (d := 4) (v := .d (.fl (.int .i64 ((so (ix a k) (ix b k)))))) rfl (og rfl (op_assign rfl rfl rfl)) ?_
        refine rg_done rfl ?_
        refine a_ret ?_
        show ∃ ds, ResL _ _ _ ds ∧ RV.of ds = _
        refine ⟨[.fl (.int .i64 ((so (ix a k) (ix b k))))], (.cons (.tmp rfl (.d _)) .nil), ?_⟩
        rw [cl_at (by omega) (by omega) hq (t_bne h6)]; rfl
      · skip
        have h8 := f_bne h6
        refine a_skip ?_
        show A _ _ _ _ _ _ _
        refine a_region ?_
        refine rg_put (d := 17) (v := .d (.fl (.int .i64 (k : Int)))) rfl (og rfl (op_move rfl rfl rfl)) ?_
        refine rg_put (d := 18) (v := .d (.fl (.int .i64 (((k : Int) + 1))))) rfl (og rfl (op_bin rfl rfl rfl (fun x y w => b_add64 _ _ _ x y w (by omega)) rfl)) ?_
        refine rg_put (d := 5) (v := .d (.fl (.int .i64 (((k : Int) + 1))))) rfl (og rfl (op_assign rfl rfl rfl)) ?_
        refine rg_done rfl ?_
        have hx : so (ix a k) (ix b k) = 0 := f_bne h6
        show ∃ i, _ ∧ _ ∧ Imp _ _ _ _ _
        refine ⟨k + 1, ⟨by omega, by omega, fun q h => (Nat.lt_succ_iff_lt_or_eq.1 h).elim (hq q) (fun e => by rw [e]; exact hx)⟩, by omega, imp_forget rfl ⟨rfl, rfl, (by first | rfl | exact ci (by omega) | exact ci (by simp) | exact cd (by simp) | simp), trivial⟩ trivial⟩
    · skip
      have h9 := f_dec h4
      refine a_exit ?_
      show A _ _ _ _ _ _ _
      refine a_rseq ?_
      refine rg_put (d := 31) (v := .d (.sl 2 (List.map eSrc a))) rfl (og rfl (op_move rfl rfl rfl)) ?_
      refine rg_put (d := 32) (v := .d (.fl (.int .i64 (a.length : Int)))) rfl (og rfl (s_len rfl Tryz.underlying22 rfl rfl)) ?_
      refine rg_put (d := 33) (v := .d (.sl 2 (List.map eSrc b))) rfl (og rfl (op_move rfl rfl rfl)) ?_
      refine rg_put (d := 34) (v := .d (.fl (.int .i64 (b.length : Int)))) rfl (og rfl (s_len rfl Tryz.underlying22 rfl rfl)) ?_
      refine rg_put (d := 35) (v := .d (.fl (.int .i64 ((ic (a.length : Int) (b.length : Int)))))) rfl (og rfl (op_call rfl Tryz.func58 nm58 rfl (.cons rfl (.d _) (.cons rfl (.d _) .nil)) (icR0 (a.length : Int) (b.length : Int)) rfl)) ?_
      refine rg_put (d := 4) (v := .d (.fl (.int .i64 ((ic (a.length : Int) (b.length : Int)))))) rfl (og rfl (op_assign rfl rfl rfl)) ?_
      refine rg_done rfl ?_
      refine a_ret ?_
      show ∃ ds, ResL _ _ _ ds ∧ RV.of ds = _
      refine ⟨[.fl (.int .i64 ((ic (a.length : Int) (b.length : Int))))], (.cons (.tmp rfl (.d _)) .nil), ?_⟩
      rw [cl_end (k := k) (by omega) (by omega) (by omega) hq]; rfl
set_option maxHeartbeats 4000000 in
set_option maxRecDepth 100000 in
theorem cpC (a b : Psg) (ha : a.src.length ≤ 30) (hb : b.src.length ≤ 30) : Ctr Tryz.prog 48 [.ag (ePsg a), .ag (ePsg b)] (.d (.fl (.int .i64 (cp a b)))) := by
  refine ctr (n := 51) (rs := #[.tmp 4]) (L := [(0, .d (.ag (ePsg a))), (1, .d (.ag (ePsg b)))]) Tryz.func48 rfl rfl rfl rfl rfl (fun w0 U0 => ?_)
  refine a_rseq ?_
  refine rg_nam (d := 2) (v := .pt 101 0) (m := 101) (nw := [(101, .bx 24 (ePsg a))]) rfl (og rfl (of_eff (op_box 101 rfl rfl rfl rfl) rfl)) rfl ?_
  refine rg_nam (d := 3) (v := .pt 102 0) (m := 102) (nw := [(102, .bx 24 (ePsg b))]) rfl (og rfl (of_eff (op_box 102 rfl rfl rfl rfl) rfl)) rfl ?_
  refine rg_put (d := 4) (v := .d (.fl (.int .i64 0))) rfl (og rfl (op_assign rfl rfl rfl)) ?_
  refine rg_done rfl ?_
  refine a_seq ?_
  refine a_rseq ?_
  refine rg_put (d := 6) (v := .pt 101 2) rfl (og rfl (of_eff (s_field_pt rfl Tryz.underlying24 rfl ti3 rfl rfl rfl) rfl)) ?_
  refine rg_put (d := 7) (v := .d (.fl (.int .i64 a.time))) rfl (og rfl (op_load_pt rfl Tryz.underlying3 rfl rfl rfl rfl rfl)) ?_
  refine rg_put (d := 8) (v := .pt 102 2) rfl (og rfl (of_eff (s_field_pt rfl Tryz.underlying24 rfl ti3 rfl rfl rfl) rfl)) ?_
  refine rg_put (d := 9) (v := .d (.fl (.int .i64 b.time))) rfl (og rfl (op_load_pt rfl Tryz.underlying3 rfl rfl rfl rfl rfl)) ?_
  refine rg_put (d := 10) (v := .d (.fl (.int .i64 (ic a.time b.time)))) rfl (og rfl (op_call rfl Tryz.func76 nm76 rfl (.cons rfl (.d _) (.cons rfl (.d _) .nil)) (icC a.time b.time) rfl)) ?_
  refine rg_put (d := 5) (v := .d (.fl (.int .i64 (ic a.time b.time)))) rfl (og rfl (op_assign rfl rfl rfl)) ?_
  refine rg_done rfl ?_
  refine a_rseq ?_
  refine rg_put (d := 11) (v := .d (.fl (.int .i64 (ic a.time b.time)))) rfl (og rfl (op_move rfl rfl rfl)) ?_
  refine rg_put (d := 12) (v := .d (.fl (.bool (((ic a.time b.time) != 0))))) rfl (og rfl (op_bin rfl rfl rfl (b_neq _ _ _ _) rfl)) ?_
  refine rg_done rfl ?_
  refine a_cond rfl (fun h1 => ?_) (fun h1 => ?_)
  · skip
    have h2 := t_bne h1
    refine a_rseq ?_
    refine rg_put (d := 13) (v := .d (.fl (.int .i64 (ic a.time b.time)))) rfl (og rfl (op_move rfl rfl rfl)) ?_
    refine rg_put (d := 4) (v := .d (.fl (.int .i64 (ic a.time b.time)))) rfl (og rfl (op_assign rfl rfl rfl)) ?_
    refine rg_done rfl ?_
    refine a_ret ?_
    show ∃ ds, ResL _ _ _ ds ∧ RV.of ds = _
    refine ⟨[.fl (.int .i64 (ic a.time b.time))], (.cons (.tmp rfl (.d _)) .nil), ?_⟩
    rw [cp_first h1]; rfl
  · skip
    have h3 := f_bne h1
    refine a_skip ?_
    show A _ _ _ _ _ _ _
    refine a_dseq (by kernel_rfl) ?_
    refine dr_put (d := 14) (v := .pt 101 1) rfl (og rfl (of_eff (s_field_pt rfl Tryz.underlying24 rfl ti9 rfl rfl rfl) rfl)) ?_
    refine dr_put (d := 15) (v := .d (.fl (.string a.point))) rfl (og rfl (op_load_pt rfl Tryz.underlying9 rfl rfl rfl rfl rfl)) ?_
    refine dr_put (d := 16) (v := .pt 102 1) rfl (og rfl (of_eff (s_field_pt rfl Tryz.underlying24 rfl ti9 rfl rfl rfl) rfl)) ?_
    refine dr_put (d := 17) (v := .d (.fl (.string b.point))) rfl (og rfl (op_load_pt rfl Tryz.underlying9 rfl rfl rfl rfl rfl)) ?_
    refine dr_put (d := 18) (v := .d (.fl (.int .i64 (sc a.point b.point)))) rfl (og rfl (op_call rfl Tryz.func78 nm78 rfl (.cons rfl (.d _) (.cons rfl (.d _) .nil)) (scC a.point b.point) rfl)) ?_
    refine dr_put (d := 19) (v := .pt 101 0) rfl (og rfl (of_eff (s_field_pt rfl Tryz.underlying24 rfl ti9 rfl rfl rfl) rfl)) ?_
    refine dr_put (d := 20) (v := .d (.fl (.string a.id))) rfl (og rfl (op_load_pt rfl Tryz.underlying9 rfl rfl rfl rfl rfl)) ?_
    refine dr_put (d := 21) (v := .pt 102 0) rfl (og rfl (of_eff (s_field_pt rfl Tryz.underlying24 rfl ti9 rfl rfl rfl) rfl)) ?_
    refine dr_put (d := 22) (v := .d (.fl (.string b.id))) rfl (og rfl (op_load_pt rfl Tryz.underlying9 rfl rfl rfl rfl rfl)) ?_
    refine dr_put (d := 23) (v := .d (.fl (.int .i64 (sc a.id b.id)))) rfl (og rfl (op_call rfl Tryz.func78 nm78 rfl (.cons rfl (.d _) (.cons rfl (.d _) .nil)) (scC a.id b.id) rfl)) ?_
    refine dr_put (d := 24) (v := .pt 101 3) rfl (og rfl (of_eff (s_field_pt rfl Tryz.underlying24 rfl ti9 rfl rfl rfl) rfl)) ?_
    refine dr_put (d := 25) (v := .d (.fl (.string a.tag))) rfl (og rfl (op_load_pt rfl Tryz.underlying9 rfl rfl rfl rfl rfl)) ?_
    refine dr_put (d := 26) (v := .pt 102 3) rfl (og rfl (of_eff (s_field_pt rfl Tryz.underlying24 rfl ti9 rfl rfl rfl) rfl)) ?_
    refine dr_put (d := 27) (v := .d (.fl (.string b.tag))) rfl (og rfl (op_load_pt rfl Tryz.underlying9 rfl rfl rfl rfl rfl)) ?_
    refine dr_put (d := 28) (v := .d (.fl (.int .i64 (sc a.tag b.tag)))) rfl (og rfl (op_call rfl Tryz.func78 nm78 rfl (.cons rfl (.d _) (.cons rfl (.d _) .nil)) (scC a.tag b.tag) rfl)) ?_
    refine dr_put (d := 29) (v := .pt 101 4) rfl (og rfl (of_eff (s_field_pt rfl Tryz.underlying24 rfl ti9 rfl rfl rfl) rfl)) ?_
    refine dr_put (d := 30) (v := .d (.fl (.string a.plate))) rfl (og rfl (op_load_pt rfl Tryz.underlying9 rfl rfl rfl rfl rfl)) ?_
    refine dr_put (d := 31) (v := .pt 102 4) rfl (og rfl (of_eff (s_field_pt rfl Tryz.underlying24 rfl ti9 rfl rfl rfl) rfl)) ?_
    refine dr_put (d := 32) (v := .d (.fl (.string b.plate))) rfl (og rfl (op_load_pt rfl Tryz.underlying9 rfl rfl rfl rfl rfl)) ?_
    refine dr_put (d := 33) (v := .d (.fl (.int .i64 (sc a.plate b.plate)))) rfl (og rfl (op_call rfl Tryz.func78 nm78 rfl (.cons rfl (.d _) (.cons rfl (.d _) .nil)) (scC a.plate b.plate) rfl)) ?_
    refine dr_put (d := 34) (v := .pt 101 5) rfl (og rfl (of_eff (s_field_pt rfl Tryz.underlying24 rfl ti3 rfl rfl rfl) rfl)) ?_
    refine dr_put (d := 35) (v := .d (.fl (.int .i64 a.cls))) rfl (og rfl (op_load_pt rfl Tryz.underlying3 rfl rfl rfl rfl rfl)) ?_
    refine dr_put (d := 36) (v := .pt 102 5) rfl (og rfl (of_eff (s_field_pt rfl Tryz.underlying24 rfl ti3 rfl rfl rfl) rfl)) ?_
    refine dr_put (d := 37) (v := .d (.fl (.int .i64 b.cls))) rfl (og rfl (op_load_pt rfl Tryz.underlying3 rfl rfl rfl rfl rfl)) ?_
    refine dr_put (d := 38) (v := .d (.fl (.int .i64 (ic a.cls b.cls)))) rfl (og rfl (op_call rfl Tryz.func76 nm76 rfl (.cons rfl (.d _) (.cons rfl (.d _) .nil)) (icC a.cls b.cls) rfl)) ?_
    refine dr_put (d := 39) (v := .pt 101 6) rfl (og rfl (of_eff (s_field_pt rfl Tryz.underlying24 rfl ti3 rfl rfl rfl) rfl)) ?_
    refine dr_put (d := 40) (v := .d (.fl (.int .i64 a.score))) rfl (og rfl (op_load_pt rfl Tryz.underlying3 rfl rfl rfl rfl rfl)) ?_
    refine dr_put (d := 41) (v := .pt 102 6) rfl (og rfl (of_eff (s_field_pt rfl Tryz.underlying24 rfl ti3 rfl rfl rfl) rfl)) ?_
    refine dr_put (d := 42) (v := .d (.fl (.int .i64 b.score))) rfl (og rfl (op_load_pt rfl Tryz.underlying3 rfl rfl rfl rfl rfl)) ?_
    refine dr_put (d := 43) (v := .d (.fl (.int .i64 (ic a.score b.score)))) rfl (og rfl (op_call rfl Tryz.func76 nm76 rfl (.cons rfl (.d _) (.cons rfl (.d _) .nil)) (icC a.score b.score) rfl)) ?_
    refine dr_put (d := 44) (v := .pt 101 7) rfl (og rfl (of_eff (s_field_pt rfl Tryz.underlying24 rfl ti22 rfl rfl rfl) rfl)) ?_
    refine dr_put (d := 45) (v := .d (.sl 2 (List.map eSrc a.src))) rfl (og rfl (op_load_pt rfl Tryz.underlying22 rfl rfl rfl rfl rfl)) ?_
    refine dr_put (d := 46) (v := .pt 102 7) rfl (og rfl (of_eff (s_field_pt rfl Tryz.underlying24 rfl ti22 rfl rfl rfl) rfl)) ?_
    refine dr_put (d := 47) (v := .d (.sl 2 (List.map eSrc b.src))) rfl (og rfl (op_load_pt rfl Tryz.underlying22 rfl rfl rfl rfl rfl)) ?_
    refine dr_put (d := 48) (v := .d (.fl (.int .i64 (cl a.src b.src)))) rfl (og rfl (op_call rfl Tryz.func79 nm79 rfl (.cons rfl (.d _) (.cons rfl (.d _) (.cons rfl (.d _) .nil))) (clC a.src b.src ha hb) rfl)) ?_
    refine dr_put (d := 49) (v := .d (.sl 1 (List.map (rI .i64) [(sc a.point b.point), (sc a.id b.id), (sc a.tag b.tag), (sc a.plate b.plate), (ic a.cls b.cls), (ic a.score b.score), (cl a.src b.src)]))) rfl (og rfl (of_eff (op_slices rfl Tryz.underlying83 ti3 rfl rfl rfl (by kernel_rfl) (xs := [.fl (.int .i64 (sc a.point b.point)), .fl (.int .i64 (sc a.id b.id)), .fl (.int .i64 (sc a.tag b.tag)), .fl (.int .i64 (sc a.plate b.plate)), .fl (.int .i64 (ic a.cls b.cls)), .fl (.int .i64 (ic a.score b.score)), .fl (.int .i64 (cl a.src b.src))]) rfl rfl (.cons rfl rfl (.d _) rfl rfl rfl (.cons rfl rfl (.d _) rfl rfl rfl (.cons rfl rfl (.d _) rfl rfl rfl (.cons rfl rfl (.d _) rfl rfl rfl (.cons rfl rfl (.d _) rfl rfl rfl (.cons rfl rfl (.d _) rfl rfl rfl (.cons rfl rfl (.d _) rfl rfl rfl .nil))))))) rfl) rfl)) ?_
    refine dr_put (d := 50) (v := .d (.fl (.int .i64 ((fz [(sc a.point b.point), (sc a.id b.id), (sc a.tag b.tag), (sc a.plate b.plate), (ic a.cls b.cls), (ic a.score b.score), (cl a.src b.src)]))))) rfl (og rfl (op_call rfl Tryz.func77 nm77 rfl (.cons rfl (.d _) .nil) (orC [(sc a.point b.point), (sc a.id b.id), (sc a.tag b.tag), (sc a.plate b.plate), (ic a.cls b.cls), (ic a.score b.score), (cl a.src b.src)] (by simp)) rfl)) ?_
    refine dr_put (d := 4) (v := .d (.fl (.int .i64 ((fz [(sc a.point b.point), (sc a.id b.id), (sc a.tag b.tag), (sc a.plate b.plate), (ic a.cls b.cls), (ic a.score b.score), (cl a.src b.src)]))))) rfl (og rfl (op_assign rfl rfl rfl)) ?_
    refine dr_done rfl (sepB_of [0, 1, 0, 4, 15, 0, 32, 0, 128, 511, 0, 1024, 0, 4096, 16383, 0, 32768, 0, 131072, 524287, 0, 1048576, 0, 4194304, 16777215, 0, 33554432, 0, 134217728, 536870911, 0, 1073741824, 0, 4294967296, 17179869183, 34359738367, 68719476735, 137438953471] (by kernel_rfl)) (by kernel_rfl) ?_
    refine a_ret ?_
    show ∃ ds, ResL _ _ _ ds ∧ RV.of ds = _
    refine ⟨[.fl (.int .i64 ((fz [(sc a.point b.point), (sc a.id b.id), (sc a.tag b.tag), (sc a.plate b.plate), (ic a.cls b.cls), (ic a.score b.score), (cl a.src b.src)])))], (.cons (.tmp rfl (.d _)) .nil), ?_⟩
    rw [cp_rest h1]; rfl
set_option maxHeartbeats 4000000 in
set_option maxRecDepth 100000 in
theorem cpR (a b : Psg) (ha : szP a) (hb : szP b) : Ctr Tryz.prog 31 [.ag (ePsg a), .ag (ePsg b)] (.d (.fl (.int .i64 (cp a b)))) := by
  refine ctr (n := 63) (rs := #[.tmp 4]) (L := [(0, .d (.ag (ePsg a))), (1, .d (.ag (ePsg b)))]) Tryz.func31 rfl rfl rfl rfl rfl (fun w0 U0 => ?_)
  refine a_rseq ?_
  refine rg_nam (d := 2) (v := .pt 101 0) (m := 101) (nw := [(101, .bx 24 (ePsg a))]) rfl (og rfl (of_eff (op_box 101 rfl rfl rfl rfl) rfl)) rfl ?_
  refine rg_nam (d := 3) (v := .pt 102 0) (m := 102) (nw := [(102, .bx 24 (ePsg b))]) rfl (og rfl (of_eff (op_box 102 rfl rfl rfl rfl) rfl)) rfl ?_
  refine rg_put (d := 4) (v := .d (.fl (.int .i64 0))) rfl (og rfl (op_assign rfl rfl rfl)) ?_
  refine rg_done rfl ?_
  refine a_dseq (by kernel_rfl) ?_
  refine dr_put (d := 7) (v := .pt 101 2) rfl (og rfl (of_eff (s_field_pt rfl Tryz.underlying24 rfl ti3 rfl rfl rfl) rfl)) ?_
  refine dr_put (d := 8) (v := .d (.fl (.int .i64 a.time))) rfl (og rfl (op_load_pt rfl Tryz.underlying3 rfl rfl rfl rfl rfl)) ?_
  refine dr_put (d := 9) (v := .pt 102 2) rfl (og rfl (of_eff (s_field_pt rfl Tryz.underlying24 rfl ti3 rfl rfl rfl) rfl)) ?_
  refine dr_put (d := 10) (v := .d (.fl (.int .i64 b.time))) rfl (og rfl (op_load_pt rfl Tryz.underlying3 rfl rfl rfl rfl rfl)) ?_
  refine dr_put (d := 11) (v := .d (.fl (.int .i64 (ic a.time b.time)))) rfl (og rfl (op_call rfl Tryz.func58 nm58 rfl (.cons rfl (.d _) (.cons rfl (.d _) .nil)) (icR0 a.time b.time) rfl)) ?_
  refine dr_put (d := 12) (v := .pt 101 1) rfl (og rfl (of_eff (s_field_pt rfl Tryz.underlying24 rfl ti9 rfl rfl rfl) rfl)) ?_
  refine dr_put (d := 13) (v := .d (.fl (.string a.point))) rfl (og rfl (op_load_pt rfl Tryz.underlying9 rfl rfl rfl rfl rfl)) ?_
  refine dr_put (d := 14) (v := .pt 102 1) rfl (og rfl (of_eff (s_field_pt rfl Tryz.underlying24 rfl ti9 rfl rfl rfl) rfl)) ?_
  refine dr_put (d := 15) (v := .d (.fl (.string b.point))) rfl (og rfl (op_load_pt rfl Tryz.underlying9 rfl rfl rfl rfl rfl)) ?_
  refine dr_put (d := 16) (v := .d (.fl (.int .i64 (sc a.point b.point)))) rfl (og rfl (op_call rfl Tryz.func59 nm59 rfl (.cons rfl (.d _) (.cons rfl (.d _) .nil)) (scR0 a.point b.point (by have := ha.p; omega) (by have := hb.p; omega)) rfl)) ?_
  refine dr_put (d := 17) (v := .pt 101 0) rfl (og rfl (of_eff (s_field_pt rfl Tryz.underlying24 rfl ti9 rfl rfl rfl) rfl)) ?_
  refine dr_put (d := 18) (v := .d (.fl (.string a.id))) rfl (og rfl (op_load_pt rfl Tryz.underlying9 rfl rfl rfl rfl rfl)) ?_
  refine dr_put (d := 19) (v := .pt 102 0) rfl (og rfl (of_eff (s_field_pt rfl Tryz.underlying24 rfl ti9 rfl rfl rfl) rfl)) ?_
  refine dr_put (d := 20) (v := .d (.fl (.string b.id))) rfl (og rfl (op_load_pt rfl Tryz.underlying9 rfl rfl rfl rfl rfl)) ?_
  refine dr_put (d := 21) (v := .d (.fl (.int .i64 (sc a.id b.id)))) rfl (og rfl (op_call rfl Tryz.func59 nm59 rfl (.cons rfl (.d _) (.cons rfl (.d _) .nil)) (scR0 a.id b.id (by have := ha.i; omega) (by have := hb.i; omega)) rfl)) ?_
  refine dr_put (d := 22) (v := .pt 101 3) rfl (og rfl (of_eff (s_field_pt rfl Tryz.underlying24 rfl ti9 rfl rfl rfl) rfl)) ?_
  refine dr_put (d := 23) (v := .d (.fl (.string a.tag))) rfl (og rfl (op_load_pt rfl Tryz.underlying9 rfl rfl rfl rfl rfl)) ?_
  refine dr_put (d := 24) (v := .pt 102 3) rfl (og rfl (of_eff (s_field_pt rfl Tryz.underlying24 rfl ti9 rfl rfl rfl) rfl)) ?_
  refine dr_put (d := 25) (v := .d (.fl (.string b.tag))) rfl (og rfl (op_load_pt rfl Tryz.underlying9 rfl rfl rfl rfl rfl)) ?_
  refine dr_put (d := 26) (v := .d (.fl (.int .i64 (sc a.tag b.tag)))) rfl (og rfl (op_call rfl Tryz.func59 nm59 rfl (.cons rfl (.d _) (.cons rfl (.d _) .nil)) (scR0 a.tag b.tag (by have := ha.t; omega) (by have := hb.t; omega)) rfl)) ?_
  refine dr_put (d := 27) (v := .pt 101 4) rfl (og rfl (of_eff (s_field_pt rfl Tryz.underlying24 rfl ti9 rfl rfl rfl) rfl)) ?_
  refine dr_put (d := 28) (v := .d (.fl (.string a.plate))) rfl (og rfl (op_load_pt rfl Tryz.underlying9 rfl rfl rfl rfl rfl)) ?_
  refine dr_put (d := 29) (v := .pt 102 4) rfl (og rfl (of_eff (s_field_pt rfl Tryz.underlying24 rfl ti9 rfl rfl rfl) rfl)) ?_
  refine dr_put (d := 30) (v := .d (.fl (.string b.plate))) rfl (og rfl (op_load_pt rfl Tryz.underlying9 rfl rfl rfl rfl rfl)) ?_
  refine dr_put (d := 31) (v := .d (.fl (.int .i64 (sc a.plate b.plate)))) rfl (og rfl (op_call rfl Tryz.func59 nm59 rfl (.cons rfl (.d _) (.cons rfl (.d _) .nil)) (scR0 a.plate b.plate (by have := ha.l; omega) (by have := hb.l; omega)) rfl)) ?_
  refine dr_put (d := 32) (v := .pt 101 5) rfl (og rfl (of_eff (s_field_pt rfl Tryz.underlying24 rfl ti3 rfl rfl rfl) rfl)) ?_
  refine dr_put (d := 33) (v := .d (.fl (.int .i64 a.cls))) rfl (og rfl (op_load_pt rfl Tryz.underlying3 rfl rfl rfl rfl rfl)) ?_
  refine dr_put (d := 34) (v := .pt 102 5) rfl (og rfl (of_eff (s_field_pt rfl Tryz.underlying24 rfl ti3 rfl rfl rfl) rfl)) ?_
  refine dr_put (d := 35) (v := .d (.fl (.int .i64 b.cls))) rfl (og rfl (op_load_pt rfl Tryz.underlying3 rfl rfl rfl rfl rfl)) ?_
  refine dr_put (d := 36) (v := .d (.fl (.int .i64 (ic a.cls b.cls)))) rfl (og rfl (op_call rfl Tryz.func58 nm58 rfl (.cons rfl (.d _) (.cons rfl (.d _) .nil)) (icR0 a.cls b.cls) rfl)) ?_
  refine dr_put (d := 37) (v := .pt 101 6) rfl (og rfl (of_eff (s_field_pt rfl Tryz.underlying24 rfl ti3 rfl rfl rfl) rfl)) ?_
  refine dr_put (d := 38) (v := .d (.fl (.int .i64 a.score))) rfl (og rfl (op_load_pt rfl Tryz.underlying3 rfl rfl rfl rfl rfl)) ?_
  refine dr_put (d := 39) (v := .pt 102 6) rfl (og rfl (of_eff (s_field_pt rfl Tryz.underlying24 rfl ti3 rfl rfl rfl) rfl)) ?_
  refine dr_put (d := 40) (v := .d (.fl (.int .i64 b.score))) rfl (og rfl (op_load_pt rfl Tryz.underlying3 rfl rfl rfl rfl rfl)) ?_
  refine dr_put (d := 41) (v := .d (.fl (.int .i64 (ic a.score b.score)))) rfl (og rfl (op_call rfl Tryz.func58 nm58 rfl (.cons rfl (.d _) (.cons rfl (.d _) .nil)) (icR0 a.score b.score) rfl)) ?_
  refine dr_put (d := 42) (v := .pt 101 7) rfl (og rfl (of_eff (s_field_pt rfl Tryz.underlying24 rfl ti22 rfl rfl rfl) rfl)) ?_
  refine dr_put (d := 43) (v := .d (.sl 2 (List.map eSrc a.src))) rfl (og rfl (op_load_pt rfl Tryz.underlying22 rfl rfl rfl rfl rfl)) ?_
  refine dr_put (d := 44) (v := .pt 102 7) rfl (og rfl (of_eff (s_field_pt rfl Tryz.underlying24 rfl ti22 rfl rfl rfl) rfl)) ?_
  refine dr_put (d := 45) (v := .d (.sl 2 (List.map eSrc b.src))) rfl (og rfl (op_load_pt rfl Tryz.underlying22 rfl rfl rfl rfl rfl)) ?_
  refine dr_put (d := 46) (v := .d (.fl (.int .i64 (cl a.src b.src)))) rfl (og rfl (op_call rfl Tryz.func60 nm60 rfl (.cons rfl (.d _) (.cons rfl (.d _) .nil)) (clR a.src b.src ha.n hb.n ha.d hb.d) rfl)) ?_
  refine dr_put (d := 47) (v := .d (.sl 1 (List.map (rI .i64) [(ic a.time b.time), (sc a.point b.point), (sc a.id b.id), (sc a.tag b.tag), (sc a.plate b.plate), (ic a.cls b.cls), (ic a.score b.score), (cl a.src b.src)]))) rfl (og rfl (of_eff (op_slices rfl Tryz.underlying83 ti3 rfl rfl rfl (by kernel_rfl) (xs := [.fl (.int .i64 (ic a.time b.time)), .fl (.int .i64 (sc a.point b.point)), .fl (.int .i64 (sc a.id b.id)), .fl (.int .i64 (sc a.tag b.tag)), .fl (.int .i64 (sc a.plate b.plate)), .fl (.int .i64 (ic a.cls b.cls)), .fl (.int .i64 (ic a.score b.score)), .fl (.int .i64 (cl a.src b.src))]) rfl rfl (.cons rfl rfl (.d _) rfl rfl rfl (.cons rfl rfl (.d _) rfl rfl rfl (.cons rfl rfl (.d _) rfl rfl rfl (.cons rfl rfl (.d _) rfl rfl rfl (.cons rfl rfl (.d _) rfl rfl rfl (.cons rfl rfl (.d _) rfl rfl rfl (.cons rfl rfl (.d _) rfl rfl rfl (.cons rfl rfl (.d _) rfl rfl rfl .nil)))))))) rfl) rfl)) ?_
  refine dr_put (d := 5) (v := .d (.sl 1 (List.map (rI .i64) [(ic a.time b.time), (sc a.point b.point), (sc a.id b.id), (sc a.tag b.tag), (sc a.plate b.plate), (ic a.cls b.cls), (ic a.score b.score), (cl a.src b.src)]))) rfl (og rfl (op_assign rfl rfl rfl)) ?_
  rw [show [(ic a.time b.time), (sc a.point b.point), (sc a.id b.id), (sc a.tag b.tag), (sc a.plate b.plate), (ic a.cls b.cls), (ic a.score b.score), (cl a.src b.src)] = (cpl a b) from rfl]
  have hl8 : (cpl a b).length = 8 := rfl
  refine dr_done rfl (sepB_of [0, 1, 0, 4, 15, 0, 32, 0, 128, 511, 0, 1024, 0, 4096, 16383, 0, 32768, 0, 131072, 524287, 0, 1048576, 0, 4194304, 16777215, 0, 33554432, 0, 134217728, 536870911, 0, 1073741824, 0, 4294967296, 17179869183, 0, 34359738368, 0, 137438953472, 549755813887, 1099511627775, 2199023255551] (by kernel_rfl)) (by kernel_rfl) ?_
  refine a_seq ?_
  refine a_rseq ?_
  refine rg_put (d := 6) (v := .d (.fl (.int .i64 0))) rfl (og rfl (op_assign rfl rfl rfl)) ?_
  refine rg_done rfl ?_
  refine a_block ?_
  refine a_loop (ι := Nat) (fun k => SS [(0, .d (.ag (ePsg a))), (1, .d (.ag (ePsg b))), (2, .pt 101 0), (3, .pt 102 0), (5, .d (.sl 1 (List.map (rI .i64) (cpl a b)))), (6, .d (.fl (.int .i64 (k : Int))))] [(101, .bx 24 (ePsg a)), (102, .bx 24 (ePsg b))]) (fun k => k ≤ 8 ∧ ∀ q, q < k → ix (cpl a b) q = 0) (fun k => 8 - k) 0 (⟨by omega, fun q h => by omega⟩) (imp_forget rfl ⟨rfl, rfl, rfl, rfl, rfl, (by first | rfl | exact ci (by omega) | exact ci (by simp) | exact cd (by simp) | simp), trivial⟩ ⟨rfl, rfl, trivial⟩) (fun k hok => ?_)
  obtain ⟨hk, hq⟩ := hok
  refine a_seq ?_
  refine a_rseq ?_
  refine rg_put (d := 48) (v := .d (.fl (.int .i64 (k : Int)))) rfl (og rfl (op_move rfl rfl rfl)) ?_
  refine rg_put (d := 49) (v := .d (.sl 1 (List.map (rI .i64) (cpl a b)))) rfl (og rfl (op_move rfl rfl rfl)) ?_
  refine rg_put (d := 50) (v := .d (.fl (.int .i64 (((cpl a b).length : Int))))) rfl (og rfl (s_len rfl Tryz.underlying83 rfl rfl)) ?_
  refine rg_put (d := 51) (v := .d (.fl (.bool ((decide ((k : Int) < ((cpl a b).length : Int))))))) rfl (og rfl (op_bin rfl rfl rfl (b_lss _ _ _ _) rfl)) ?_
  refine rg_done rfl ?_
  refine a_cond rfl (fun h1 => ?_) (fun h1 => ?_)
  · skip
    have h2 := t_dec h1
    refine a_skip ?_
    show A _ _ _ _ _ _ _
    refine a_seq ?_
    refine a_block ?_
    refine a_rseq ?_
    refine rg_put (d := 54) (v := .d (.sl 1 (List.map (rI .i64) (cpl a b)))) rfl (og rfl (op_move rfl rfl rfl)) ?_
    refine rg_put (d := 55) (v := .d (.fl (.int .i64 (k : Int)))) rfl (og rfl (op_move rfl rfl rfl)) ?_
    refine rg_put (d := 56) (v := .el ((rI .i64 ((ix (cpl a b) k))))) rfl (og rfl (s_index rfl Tryz.underlying83 ti3 rfl rfl (by omega) (row_at (by omega)) rfl)) ?_
    refine rg_put (d := 57) (v := .d (.fl (.int .i64 ((ix (cpl a b) k))))) rfl (og rfl (op_load_el rfl Tryz.underlying3 rfl rfl rfl rfl)) ?_
    refine rg_put (d := 58) (v := .d (.fl (.bool (((ix (cpl a b) k) != 0))))) rfl (og rfl (op_bin rfl rfl rfl (b_neq _ _ _ _) rfl)) ?_
    refine rg_done rfl ?_
    refine a_cond rfl (fun h3 => ?_) (fun h3 => ?_)
    · skip
      have h4 := t_bne h3
      refine a_rseq ?_
      refine rg_put (d := 59) (v := .d (.sl 1 (List.map (rI .i64) (cpl a b)))) rfl (og rfl (op_move rfl rfl rfl)) ?_
      refine rg_put (d := 60) (v := .d (.fl (.int .i64 (k : Int)))) rfl (og rfl (op_move rfl rfl rfl)) ?_
      refine rg_put (d := 61) (v := .el ((rI .i64 ((ix (cpl a b) k))))) rfl (og rfl (s_index rfl Tryz.underlying83 ti3 rfl rfl (by omega) (row_at (by omega)) rfl)) ?_
      refine rg_put (d := 62) (v := .d (.fl (.int .i64 ((ix (cpl a b) k))))) rfl (og rfl (op_load_el rfl Tryz.underlying3 rfl rfl rfl rfl)) ?_
      refine rg_put (d := 4) (v := .d (.fl (.int .i64 ((ix (cpl a b) k))))) rfl (og rfl (op_assign rfl rfl rfl)) ?_
      refine rg_done rfl ?_
      refine a_ret ?_
      show ∃ ds, ResL _ _ _ ds ∧ RV.of ds = _
      refine ⟨[.fl (.int .i64 ((ix (cpl a b) k)))], (.cons (.tmp rfl (.d _)) .nil), ?_⟩
      rw [show cp a b = ix (cpl a b) k from fz_at (by omega) hq (t_bne h3)]; rfl
    · skip
      have h5 := f_bne h3
      refine a_skip ?_
      show A _ _ _ _ _ _ _
      refine a_region ?_
      refine rg_put (d := 52) (v := .d (.fl (.int .i64 (k : Int)))) rfl (og rfl (op_move rfl rfl rfl)) ?_
      refine rg_put (d := 53) (v := .d (.fl (.int .i64 (((k : Int) + 1))))) rfl (og rfl (op_bin rfl rfl rfl (fun x y w => b_add64 _ _ _ x y w (by omega)) rfl)) ?_
      refine rg_put (d := 6) (v := .d (.fl (.int .i64 (((k : Int) + 1))))) rfl (og rfl (op_assign rfl rfl rfl)) ?_
      refine rg_done rfl ?_
      have hx : ix (cpl a b) k = 0 := f_bne h3
      show ∃ i, _ ∧ _ ∧ Imp _ _ _ _ _
      refine ⟨k + 1, ⟨by omega, fun q h => (Nat.lt_succ_iff_lt_or_eq.1 h).elim (hq q) (fun e => by rw [e]; exact hx)⟩, by omega, imp_forget rfl ⟨rfl, rfl, rfl, rfl, rfl, (by first | rfl | exact ci (by omega) | exact ci (by simp) | exact cd (by simp) | simp), trivial⟩ ⟨rfl, rfl, trivial⟩⟩
  · skip
    have h6 := f_dec h1
    refine a_exit ?_
    show A _ _ _ _ _ _ _
    refine a_rseq ?_
    refine rg_put (d := 4) (v := .d (.fl (.int .i64 0))) rfl (og rfl (op_assign rfl rfl rfl)) ?_
    refine rg_done rfl ?_
    refine a_ret ?_
    show ∃ ds, ResL _ _ _ ds ∧ RV.of ds = _
    refine ⟨[.fl (.int .i64 0)], (.cons (.tmp rfl (.d _)) .nil), ?_⟩
    rw [show cp a b = 0 from fz_no (fun q h => hq q (by omega))]; rfl
set_option maxHeartbeats 4000000 in
set_option maxRecDepth 100000 in
theorem oneR (a b : Psg) (ha : szP a) (hb : szP b) : Ctr Tryz.prog 30 [.ag (ePsg a), .ag (ePsg b)] (.d (.fl (.bool (cp a b == 0)))) := by
  refine ctr (n := 9) (rs := #[.tmp 4]) (L := [(0, .d (.ag (ePsg a))), (1, .d (.ag (ePsg b)))]) Tryz.func30 rfl rfl rfl rfl rfl (fun w0 U0 => ?_)
  refine a_rseq ?_
  refine rg_nam (d := 2) (v := .pt 101 0) (m := 101) (nw := [(101, .bx 24 (ePsg a))]) rfl (og rfl (of_eff (op_box 101 rfl rfl rfl rfl) rfl)) rfl ?_
  refine rg_nam (d := 3) (v := .pt 102 0) (m := 102) (nw := [(102, .bx 24 (ePsg b))]) rfl (og rfl (of_eff (op_box 102 rfl rfl rfl rfl) rfl)) rfl ?_
  refine rg_put (d := 4) (v := .d (.fl (.bool false))) rfl (og rfl (op_assign rfl rfl rfl)) ?_
  refine rg_done rfl ?_
  refine a_rseq ?_
  refine rg_put (d := 5) (v := .d (.ag (ePsg a))) rfl (og rfl (of_eff (s_load_pts rfl Tryz.underlying24 rfl ti24 rfl rfl rfl rfl) rfl)) ?_
  refine rg_put (d := 6) (v := .d (.ag (ePsg b))) rfl (og rfl (of_eff (s_load_pts rfl Tryz.underlying24 rfl ti24 rfl rfl rfl rfl) rfl)) ?_
  refine rg_put (d := 7) (v := .d (.fl (.int .i64 (cp a b)))) rfl (og rfl (op_call rfl Tryz.func31 nm31 rfl (.cons rfl (.d _) (.cons rfl (.d _) .nil)) (cpR a b ha hb) rfl)) ?_
  refine rg_put (d := 8) (v := .d (.fl (.bool (((cp a b) == 0))))) rfl (og rfl (op_bin rfl rfl rfl (b_eql _ _ _ _) rfl)) ?_
  refine rg_put (d := 4) (v := .d (.fl (.bool (((cp a b) == 0))))) rfl (og rfl (op_assign rfl rfl rfl)) ?_
  refine rg_done rfl ?_
  refine a_ret ?_
  show ∃ ds, ResL _ _ _ ds ∧ RV.of ds = _
  refine ⟨[.fl (.bool (((cp a b) == 0)))], (.cons (.tmp rfl (.d _)) .nil), ?_⟩
  rfl
end Go.Proofs.YtakmjlpciicaiaaGreatDoor.Wk
