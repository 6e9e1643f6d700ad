/- Stays, who is there at a time, both sides. Conditions: as each theorem names them. -/
import Derived.Test.YtjkfajeipbagmaaGreatDoorLaid
import Derived.Shelf.SlSortCmp.NoneTotal
import Derived.Test.YtjkfajeipbagmaaGreatDoorAvS
import Derived.Test.YtjkfajeipbagmaaGreatDoorKk
set_option linter.unusedSimpArgs false
set_option linter.unusedVariables false
namespace Go.Proofs.YtjkfajeipbagmaaGreatDoor.Wk
open Go Go.RowKit Go.Proofs.YtjkfajeipbagmaaGreatDoor.Av
theorem ne_self_b (a : Int) : (a != a) = false := by simp
theorem sEq_eq {a b : ByteArray} (h : sEq a b = true) : a = b := of_decide_eq_true h
theorem sEq_of {a b : ByteArray} (h : a = b) : sEq a b = true := decide_eq_true h
theorem nb {b : Bool} (h : ¬ b = true) : b = false := by cases b <;> simp at h ⊢
theorem nnb {b : Bool} (h : ¬ (!b) = true) : b = true := by cases b <;> simp at h ⊢

theorem ix_eq {α : Type} [Inhabited α] {l : List α} {i : Nat} (h : i < l.length) : l[i] = ix l i := by
  have := ix_get h
  rw [List.getElem?_eq_getElem h] at this
  injection this
theorem ix_mem {α : Type} [Inhabited α] {l : List α} {k : Nat} (h : k < l.length) : ix l k ∈ l := by rw [← ix_eq h]; exact List.getElem_mem h
theorem mem_ix {α : Type} [Inhabited α] {l : List α} {x : α} (h : x ∈ l) : ∃ k, k < l.length ∧ ix l k = x := by
  obtain ⟨j, hj, he⟩ := List.mem_iff_getElem.1 h
  exact ⟨j, hj, by rw [← ix_eq hj]; exact he⟩
theorem fnd_no {α : Type} [Inhabited α] {p : α → Bool} {l : List α} (h : ∀ q, q < l.length → p (ix l q) = false) : l.find? p = none := by
  rw [List.find?_eq_none]
  intro x hx
  obtain ⟨k, hk, he⟩ := mem_ix hx
  rw [← he, h k hk]; simp
theorem fnd_at {α : Type} [Inhabited α] {p : α → Bool} {l : List α} {k : Nat} (hk : k < l.length) (h : ∀ q, q < k → p (ix l q) = false) (hp : p (ix l k) = true) : l.find? p = some (ix l k) := by
  rw [List.find?_eq_some_iff_getElem]
  refine ⟨hp, k, hk, ix_eq hk, fun j hj => ?_⟩
  rw [ix_eq (by omega), h j hj]; rfl
theorem any_at {α : Type} [Inhabited α] {p : α → Bool} {l : List α} {k : Nat} (hk : k < l.length) (hp : p (ix l k) = true) : l.any p = true := by
  rw [List.any_eq_true]; exact ⟨_, ix_mem hk, hp⟩
theorem any_no {α : Type} [Inhabited α] {p : α → Bool} {l : List α} (h : ∀ q, q < l.length → p (ix l q) = false) : l.any p = false := by
  rw [List.any_eq_false]
  intro x hx
  obtain ⟨k, hk, he⟩ := mem_ix hx
  rw [← he, h k hk]; simp
theorem all_no {α : Type} [Inhabited α] {p : α → Bool} {l : List α} {k : Nat} (hk : k < l.length) (h : p (ix l k) = false) : l.all p = false := by
  rw [List.all_eq_false]; exact ⟨_, ix_mem hk, by rw [h]; simp⟩
theorem all_yes {α : Type} [Inhabited α] {p : α → Bool} {l : List α} (h : ∀ q, q < l.length → p (ix l q) = true) : l.all p = true := by
  rw [List.all_eq_true]
  intro x hx
  obtain ⟨k, hk, he⟩ := mem_ix hx
  rw [← he]; exact h k hk


def ic (a b : Int) : Int := bif decide (a < b) then -1 else bif decide (b < a) then 1 else 0
def fz : List Int → Int
  | [] => 0
  | x :: l => bif x != 0 then x else fz l
theorem fz_at : ∀ {l : List Int} {k : Nat}, k < l.length → (∀ q, q < k → ix l q = 0) → ix l k ≠ 0 → fz l = ix l k
  | [], _, h, _, _ => by simp at h
  | x :: l, 0, _, _, h => by
    have h' : x ≠ 0 := h
    show (bif x != 0 then x else fz l) = x
    rw [show (x != 0) = true by simpa using h']; rfl
  | x :: l, k + 1, h1, h2, h3 => by
    have h' : x = 0 := h2 0 (by omega)
    show (bif x != 0 then x else fz l) = ix l k
    rw [show (x != 0) = false by simpa using h', cond_false]
    exact fz_at (by simpa using h1) (fun q hq => h2 (q + 1) (by omega)) h3
theorem fz_no : ∀ {l : List Int}, (∀ q, q < l.length → ix l q = 0) → fz l = 0
  | [], _ => rfl
  | x :: l, h => by
    have h' : x = 0 := h 0 (by simp)
    show (bif x != 0 then x else fz l) = 0
    rw [show (x != 0) = false by simpa using h', cond_false]
    exact fz_no (fun q hq => h (q + 1) (by simpa using hq))

def Neg (x y : Int) : Prop := x = -y
def Tq (x y z : Int) : Prop := x ≤ 0 → y ≤ 0 → z ≤ 0 ∧ (z < 0 ↔ x < 0 ∨ y < 0)
theorem ic_neg (a b : Int) : ic a b = -(ic b a) := by
  unfold ic
  cases h : decide (a < b) <;> cases h2 : decide (b < a) <;> simp at h h2 ⊢ <;> omega
theorem ic_val (a b : Int) : (a < b ∧ ic a b = -1) ∨ (a = b ∧ ic a b = 0) ∨ (b < a ∧ ic a b = 1) := by
  unfold ic
  cases h : decide (a < b) <;> cases h2 : decide (b < a) <;> simp at h h2 ⊢ <;> omega
theorem ic_tq (a b c : Int) : Tq (ic a b) (ic b c) (ic a c) := by
  intro h1 h2
  have := ic_val a b
  have := ic_val b c
  have := ic_val a c
  omega
theorem fz_neg : ∀ {l m : List Int}, l = m.map (fun x => -x) → fz l = -(fz m)
  | [], [], _ => rfl
  | [], _ :: _, h => by cases h
  | _ :: _, [], h => by cases h
  | x :: l, y :: m, h => by
    simp only [List.map_cons, List.cons.injEq] at h
    have ih := fz_neg h.2
    have hx := h.1
    simp only [fz]
    cases h1 : (x != 0) <;> cases h2 : (y != 0) <;> simp at h1 h2 ⊢ <;> omega
inductive T3 : List Int → List Int → List Int → Prop
  | nil : T3 [] [] []
  | cons {x y z : Int} {l m n : List Int} (h : Tq x y z) (hs : T3 l m n) : T3 (x :: l) (y :: m) (z :: n)
theorem fz_tq {l m n : List Int} (h : T3 l m n) : Tq (fz l) (fz m) (fz n) := by
  induction h with
  | nil => intro _ _; simp [fz]
  | @cons x y z l m n h hs ih =>
    unfold Tq at *
    simp only [fz]
    cases h1 : (x != 0) <;> cases h2 : (y != 0) <;> cases h3 : (z != 0) <;> simp at h1 h2 h3 ⊢ <;> omega
theorem fz_zero : ∀ {l : List Int}, fz l = 0 ↔ ∀ x ∈ l, x = 0
  | [] => by simp [fz]
  | x :: l => by
    have ih := fz_zero (l := l)
    simp only [fz, List.mem_cons, forall_eq_or_imp]
    cases h1 : (x != 0) <;> simp at h1 ⊢
    · rw [ih]; simp [h1]
    · intro h; exact absurd h h1
theorem fz_in : ∀ {l : List Int}, (∀ x ∈ l, -1 ≤ x ∧ x ≤ 1) → -1 ≤ fz l ∧ fz l ≤ 1
  | [], _ => by simp [fz]
  | x :: l, h => by
    have h0 := h x (by simp)
    have ih := fz_in (l := l) (fun y hy => h y (by simp [hy]))
    simp only [fz]
    cases (x != 0) <;> simp <;> omega

theorem swo_of {α : Type} {c : α → α → Int} (hn : ∀ x y, c x y = -(c y x)) (ht : ∀ x y z, Tq (c x y) (c y z) (c x z)) : Go.Sort.SWO (ltOf c) where
  irrefl x := by have := hn x x; unfold ltOf; exact decide_eq_false (by omega)
  trans x y z h1 h2 := by
    unfold ltOf at *
    simp only [decide_eq_true_eq] at *
    have := ht x y z (by omega) (by omega)
    omega
  ntrans x y z h1 h2 := by
    unfold ltOf at *
    simp only [decide_eq_false_iff_not] at *
    have h3 := hn x y
    have h4 := hn y z
    have h5 := hn x z
    have := ht z y x (by omega) (by omega)
    omega
theorem le_of_sorted {α : Type} {c : α → α → Int} (hn : ∀ x y, c x y = -(c y x)) {x y : α} (h : ltOf c y x = false) : c x y ≤ 0 := by
  unfold ltOf at h
  simp only [decide_eq_false_iff_not] at h
  have := hn x y
  omega

def vl (i : Itv) : Bool := decide (0 ≤ i.fr) && decide (i.fr < i.to) && decide (i.to ≤ 68719476736)
def hv (i : Itv) (t : Int) : Bool := vl i && decide (i.fr ≤ t) && decide (t < i.to)
def anyH (l : List Itv) (t : Int) : Bool := l.any fun i => hv i t
def hs (s : Sty) (z : ByteArray) (t : Int) : Bool := sEq s.zone z && hv s.time t
def ct (l : List Sty) (z : ByteArray) (t : Int) : Nat → Int
  | 0 => 0
  | k + 1 => ct l z t k + (bif hs (ix l k) z t then 1 else 0)
theorem ct_y {l : List Sty} {z : ByteArray} {t : Int} {k : Nat} (h : hs (ix l k) z t = true) : ct l z t (k + 1) = ct l z t k + 1 := by simp only [ct, h, cond_true]
theorem ct_n {l : List Sty} {z : ByteArray} {t : Int} {k : Nat} (h : hs (ix l k) z t = false) : ct l z t (k + 1) = ct l z t k := by simp only [ct, h, cond_false]; omega
theorem ct_in (l : List Sty) (z : ByteArray) (t : Int) : ∀ k, 0 ≤ ct l z t k ∧ ct l z t k ≤ (k : Int)
  | 0 => by simp [ct]
  | k + 1 => by
    have ih := ct_in l z t k
    simp only [ct]
    cases hs (ix l k) z t <;> simp only [cond_true, cond_false] <;> omega
theorem ct_mono {l : List Sty} {z : ByteArray} {t t' : Int} : ∀ k, (∀ q, q < k → hs (ix l q) z t = true → hs (ix l q) z t' = true) → ct l z t k ≤ ct l z t' k
  | 0, _ => by simp [ct]
  | k + 1, h => by
    have ih := ct_mono (t := t) (t' := t') k (fun q hq => h q (by omega))
    have h1 := h k (by omega)
    simp only [ct]
    cases e : hs (ix l k) z t with
    | false => simp only [cond_false]; cases hs (ix l k) z t' <;> simp only [cond_true, cond_false] <;> omega
    | true => rw [h1 e]; simp only [cond_true]; omega
theorem ct_pos {l : List Sty} {z : ByteArray} {t : Int} : ∀ k, 0 < ct l z t k → ∃ q, q < k ∧ hs (ix l q) z t = true
  | 0, h => by simp [ct] at h
  | k + 1, h => by
    cases e : hs (ix l k) z t with
    | true => exact ⟨k, by omega, e⟩
    | false =>
      rw [ct_n e] at h
      obtain ⟨q, h1, h2⟩ := ct_pos k h
      exact ⟨q, by omega, h2⟩
theorem hs_in {s : Sty} {z : ByteArray} {t : Int} (h : hs s z t = true) : sEq s.zone z = true ∧ vl s.time = true ∧ s.time.fr ≤ t ∧ t < s.time.to := by
  unfold hs hv at h
  simp only [Bool.and_eq_true, decide_eq_true_eq] at h
  exact ⟨h.1, h.2.1.1, h.2.1.2, h.2.2⟩
theorem hs_of {s : Sty} {z : ByteArray} {t : Int} (h1 : sEq s.zone z = true) (h2 : vl s.time = true) (h3 : s.time.fr ≤ t) (h4 : t < s.time.to) : hs s z t = true := by
  unfold hs hv
  simp only [Bool.and_eq_true, decide_eq_true_eq]
  exact ⟨h1, ⟨h2, h3⟩, h4⟩
theorem latest {l : List Sty} {z : ByteArray} {t : Int} : ∀ k, (∃ q, q < k ∧ hs (ix l q) z t = true) → ∃ q, q < k ∧ hs (ix l q) z t = true ∧ ∀ p, p < k → hs (ix l p) z t = true → (ix l p).time.fr ≤ (ix l q).time.fr
  | 0, ⟨q, h, _⟩ => by omega
  | k + 1, ⟨q, h, e⟩ => by
    by_cases hk : ∃ q, q < k ∧ hs (ix l q) z t = true
    · obtain ⟨q1, a1, a2, a3⟩ := latest k hk
      by_cases hb : hs (ix l k) z t = true ∧ (ix l q1).time.fr < (ix l k).time.fr
      · refine ⟨k, by omega, hb.1, fun p hp hh => ?_⟩
        rcases Nat.lt_succ_iff_lt_or_eq.1 hp with g | g
        · have := a3 p g hh; omega
        · rw [g]; exact Int.le_refl _
      · refine ⟨q1, by omega, a2, fun p hp hh => ?_⟩
        rcases Nat.lt_succ_iff_lt_or_eq.1 hp with g | g
        · exact a3 p g hh
        · rw [g] at hh ⊢
          exact Int.not_lt.1 (fun h => hb ⟨hh, h⟩)
    · have hq : q = k := by
        rcases Nat.lt_succ_iff_lt_or_eq.1 h with g | g
        · exact absurd ⟨q, g, e⟩ hk
        · exact g
      subst hq
      refine ⟨q, by omega, e, fun p hp hh => ?_⟩
      rcases Nat.lt_succ_iff_lt_or_eq.1 hp with g | g
      · exact absurd ⟨p, g, hh⟩ hk
      · rw [g]; exact Int.le_refl _
/-- an entry at which at least as many are there -/
theorem ct_from {l : List Sty} {z : ByteArray} {t : Int} {n : Nat} (h : 0 < ct l z t n) : ∃ q, q < n ∧ (ix l q).time.fr ≤ t ∧ ct l z t n ≤ ct l z (ix l q).time.fr n := by
  obtain ⟨q, h1, h2, h3⟩ := latest n (ct_pos n h)
  have h4 := hs_in h2
  refine ⟨q, h1, h4.2.2.1, ct_mono n (fun p hp hh => ?_)⟩
  have h5 := hs_in hh
  have h6 := h3 p hp hh
  exact hs_of h5.1 h5.2.1 h6 (by omega)
/-- the greatest number and its first time -/
structure Pk (l : List Sty) (z : ByteArray) (p : Int × Int) : Prop where
  n : 0 ≤ p.1
  a : ∀ t, ct l z t l.length ≤ p.1
  e : p.1 = 0 → p.2 = 0
  h : 0 < p.1 → ct l z p.2 l.length = p.1
  b : 0 < p.1 → ∀ t, t < p.2 → ct l z t l.length < p.1
theorem Pk.eq {l : List Sty} {z : ByteArray} {p q : Int × Int} (hp : Pk l z p) (hq : Pk l z q) : p = q := by
  have e1 : p.1 = q.1 := by
    have h1 := hp.n
    have h2 := hq.n
    have h3 := hq.a p.2
    have h4 := hp.a q.2
    have h5 := hp.h
    have h6 := hq.h
    rcases Int.lt_trichotomy p.1 q.1 with h | h | h
    · have := h6 (by omega); omega
    · exact h
    · have := h5 (by omega); omega
  have e2 : p.2 = q.2 := by
    by_cases h0 : p.1 = 0
    · rw [hp.e h0, hq.e (by omega)]
    · have h1 := hp.n
      have h5 := hp.h (by omega)
      have h6 := hq.h (by omega)
      rcases Int.lt_trichotomy p.2 q.2 with h | h | h
      · have := hq.b (by omega) _ h; omega
      · exact h
      · have := hp.b (by omega) _ h; omega
  exact Prod.ext e1 e2
/-- the other side's way -/
def rf (l : List Sty) (z : ByteArray) : Nat → Int × Int
  | 0 => (0, 0)
  | k + 1 => let n := ct l z (ix l k).time.fr l.length
    bif decide ((rf l z k).1 < n) || (n == (rf l z k).1 && decide (0 < n) && decide ((ix l k).time.fr < (rf l z k).2)) then (n, (ix l k).time.fr) else rf l z k
theorem rf_y {l : List Sty} {z : ByteArray} {k : Nat} (h : (rf l z k).1 < ct l z (ix l k).time.fr l.length ∨ (ct l z (ix l k).time.fr l.length = (rf l z k).1 ∧ 0 < ct l z (ix l k).time.fr l.length ∧ (ix l k).time.fr < (rf l z k).2)) : rf l z (k + 1) = (ct l z (ix l k).time.fr l.length, (ix l k).time.fr) := by
  have hb : (decide ((rf l z k).1 < ct l z (ix l k).time.fr l.length) || (ct l z (ix l k).time.fr l.length == (rf l z k).1 && decide (0 < ct l z (ix l k).time.fr l.length) && decide ((ix l k).time.fr < (rf l z k).2))) = true := by
    simp only [Bool.or_eq_true, Bool.and_eq_true, decide_eq_true_eq, beq_iff_eq]
    rcases h with h | ⟨h1, h2, h3⟩
    · exact .inl h
    · exact .inr ⟨⟨h1, h2⟩, h3⟩
  simp only [rf]; rw [hb, cond_true]
theorem rf_n {l : List Sty} {z : ByteArray} {k : Nat} (h : ¬ ((rf l z k).1 < ct l z (ix l k).time.fr l.length ∨ (ct l z (ix l k).time.fr l.length = (rf l z k).1 ∧ 0 < ct l z (ix l k).time.fr l.length ∧ (ix l k).time.fr < (rf l z k).2))) : rf l z (k + 1) = rf l z k := by
  have hb : (decide ((rf l z k).1 < ct l z (ix l k).time.fr l.length) || (ct l z (ix l k).time.fr l.length == (rf l z k).1 && decide (0 < ct l z (ix l k).time.fr l.length) && decide ((ix l k).time.fr < (rf l z k).2))) = false := by
    rw [← Bool.not_eq_true]
    simp only [Bool.or_eq_true, Bool.and_eq_true, decide_eq_true_eq, beq_iff_eq]
    rintro (h1 | ⟨⟨h1, h2⟩, h3⟩)
    · exact h (.inl h1)
    · exact h (.inr ⟨h1, h2, h3⟩)
  simp only [rf]; rw [hb, cond_false]
structure RfI (l : List Sty) (z : ByteArray) (k : Nat) : Prop where
  n : 0 ≤ (rf l z k).1
  e : (rf l z k).1 = 0 → (rf l z k).2 = 0
  h : 0 < (rf l z k).1 → ct l z (rf l z k).2 l.length = (rf l z k).1
  a : ∀ q, q < k → ct l z (ix l q).time.fr l.length ≤ (rf l z k).1
  b : 0 < (rf l z k).1 → ∀ q, q < k → ct l z (ix l q).time.fr l.length = (rf l z k).1 → (rf l z k).2 ≤ (ix l q).time.fr
theorem rf_i (l : List Sty) (z : ByteArray) : ∀ k, RfI l z k
  | 0 => ⟨by simp [rf], fun _ => rfl, fun h => by simp [rf] at h, fun q h => by omega, fun _ q h => by omega⟩
  | k + 1 => by
    have ih := rf_i l z k
    have hc := ct_in l z (ix l k).time.fr l.length
    have hn := ih.n
    by_cases h : (rf l z k).1 < ct l z (ix l k).time.fr l.length ∨ (ct l z (ix l k).time.fr l.length = (rf l z k).1 ∧ 0 < ct l z (ix l k).time.fr l.length ∧ (ix l k).time.fr < (rf l z k).2)
    · have e := rf_y h
      refine ⟨by rw [e]; exact hc.1, fun q => by rw [e] at q ⊢; simp only at q; omega, fun _ => by rw [e], fun q hq => ?_, fun _ q hq hh => ?_⟩
      · rw [e]
        rcases Nat.lt_succ_iff_lt_or_eq.1 hq with g | g
        · have := ih.a q g; simp only; omega
        · rw [g]; exact Int.le_refl _
      · rw [e] at hh ⊢
        simp only at hh ⊢
        rcases Nat.lt_succ_iff_lt_or_eq.1 hq with g | g
        · have h1 := ih.a q g
          rcases h with h | ⟨h2, h3, h4⟩
          · omega
          · have := ih.b (by omega) q g (by omega); omega
        · rw [g]; exact Int.le_refl _
    · have e := rf_n h
      refine ⟨by rw [e]; exact hn, fun q => by rw [e] at q ⊢; exact ih.e q, fun q => by rw [e] at q ⊢; exact ih.h q, fun q hq => ?_, fun h0 q hq hh => ?_⟩
      · rw [e]
        rcases Nat.lt_succ_iff_lt_or_eq.1 hq with g | g
        · exact ih.a q g
        · rw [g]; exact Int.not_lt.1 (fun q => h (.inl q))
      · rw [e] at hh h0 ⊢
        rcases Nat.lt_succ_iff_lt_or_eq.1 hq with g | g
        · exact ih.b h0 q g hh
        · rw [g] at hh ⊢
          exact Int.not_lt.1 (fun q => h (.inr ⟨hh, by omega, q⟩))
theorem rf_pk (l : List Sty) (z : ByteArray) : Pk l z (rf l z l.length) := by
  have i := rf_i l z l.length
  refine ⟨i.n, fun t => ?_, i.e, i.h, fun h0 t ht => ?_⟩
  · by_cases hp : 0 < ct l z t l.length
    · obtain ⟨q, h1, h2, h3⟩ := ct_from hp
      have := i.a q h1; omega
    · have := i.n; omega
  · by_cases hp : 0 < ct l z t l.length
    · obtain ⟨q, h1, h2, h3⟩ := ct_from hp
      have h4 := i.a q h1
      by_cases h5 : ct l z t l.length < (rf l z l.length).1
      · exact h5
      · have := i.b h0 q h1 (by omega); omega
    · omega
/-- the moves -/
def mv (l : List Sty) (z : ByteArray) : Nat → List Mvm
  | 0 => []
  | k + 1 => mv l z k ++ (bif sEq (ix l k).zone z && vl (ix l k).time then [⟨(ix l k).time.fr, 1⟩, ⟨(ix l k).time.to, -1⟩] else [])
theorem mv_y {l : List Sty} {z : ByteArray} {k : Nat} (h : (sEq (ix l k).zone z && vl (ix l k).time) = true) : mv l z (k + 1) = mv l z k ++ [⟨(ix l k).time.fr, 1⟩, ⟨(ix l k).time.to, -1⟩] := by simp only [mv, h, cond_true]
theorem mv_n {l : List Sty} {z : ByteArray} {k : Nat} (h : (sEq (ix l k).zone z && vl (ix l k).time) = false) : mv l z (k + 1) = mv l z k := by simp only [mv, h, cond_false, List.append_nil]
theorem mv_len (l : List Sty) (z : ByteArray) : ∀ k, (mv l z k).length ≤ 2 * k
  | 0 => by simp [mv]
  | k + 1 => by
    have ih := mv_len l z k
    cases h : (sEq (ix l k).zone z && vl (ix l k).time) with
    | true => rw [mv_y h]; simp; omega
    | false => rw [mv_n h]; omega
theorem mv_b {l : List Sty} {z : ByteArray} : ∀ k, ∀ m ∈ mv l z k, -1 ≤ m.b ∧ m.b ≤ 1
  | 0, m, h => by simp [mv] at h
  | k + 1, m, h => by
    cases e : (sEq (ix l k).zone z && vl (ix l k).time) with
    | true =>
      rw [mv_y e] at h
      rcases List.mem_append.1 h with h | h
      · exact mv_b k m h
      · simp only [List.mem_cons, List.not_mem_nil, or_false] at h
        rcases h with rfl | rfl <;> simp
    | false => rw [mv_n e] at h; exact mv_b k m h
/-- what the moves up to a time come to -/
def sb (t : Int) : List Mvm → Int
  | [] => 0
  | m :: r => (if m.t ≤ t then m.b else 0) + sb t r
theorem sb_app (t : Int) : ∀ a b : List Mvm, sb t (a ++ b) = sb t a + sb t b
  | [], b => by simp [sb]
  | m :: a, b => by simp only [List.cons_append, sb]; rw [sb_app t a b]; omega
theorem sb_perm {t : Int} {a b : List Mvm} (h : a.Perm b) : sb t a = sb t b := by
  induction h with
  | nil => rfl
  | cons x _ ih => simp only [sb, ih]
  | swap x y l => simp only [sb]; omega
  | trans _ _ h1 h2 => exact h1.trans h2
theorem ct_sb (l : List Sty) (z : ByteArray) (t : Int) : ∀ k, sb t (mv l z k) = ct l z t k
  | 0 => rfl
  | k + 1 => by
    have ih := ct_sb l z t k
    cases e : (sEq (ix l k).zone z && vl (ix l k).time) with
    | false =>
      rw [mv_n e, ih, ct_n]
      unfold hs hv
      rw [← e]
      cases h1 : sEq (ix l k).zone z <;> cases h2 : vl (ix l k).time <;> simp_all
    | true =>
      rw [mv_y e, sb_app, ih]
      rw [Bool.and_eq_true] at e
      have hv2 := e.2
      unfold vl at hv2
      simp only [Bool.and_eq_true, decide_eq_true_eq] at hv2
      have hlt := hv2.1.2
      simp only [sb]
      by_cases h1 : (ix l k).time.fr ≤ t
      · by_cases h2 : t < (ix l k).time.to
        · rw [ct_y (hs_of e.1 e.2 h1 h2), if_pos h1, if_neg (by omega)]; omega
        · rw [ct_n (by cases hh : hs (ix l k) z t with | false => rfl | true => exact absurd (hs_in hh).2.2.2 h2), if_pos h1, if_pos (by omega)]; omega
      · rw [ct_n (by cases hh : hs (ix l k) z t with | false => rfl | true => exact absurd (hs_in hh).2.2.1 h1), if_neg h1, if_neg (by omega)]; omega
def sp (u : List Mvm) : Nat → Int
  | 0 => 0
  | k + 1 => sp u k + (ix u k).b
theorem sp_cons (m : Mvm) (r : List Mvm) : ∀ k, sp (m :: r) (k + 1) = m.b + sp r k
  | 0 => by
    show sp (m :: r) 0 + (ix (m :: r) 0).b = _
    simp only [sp]
    show 0 + m.b = m.b + 0
    omega
  | k + 1 => by
    have ih := sp_cons m r k
    show sp (m :: r) (k + 1) + (ix (m :: r) (k + 1)).b = m.b + (sp r k + (ix r k).b)
    rw [ih]
    show m.b + sp r k + (ix r k).b = _
    omega
theorem sp_in {u : List Mvm} (h : ∀ m ∈ u, -1 ≤ m.b ∧ m.b ≤ 1) : ∀ k, k ≤ u.length → -(k : Int) ≤ sp u k ∧ sp u k ≤ (k : Int)
  | 0, _ => by simp [sp]
  | k + 1, hk => by
    have ih := sp_in h k (by omega)
    have := h _ (ix_mem (by omega : k < u.length))
    simp only [sp]; omega
def Srt (u : List Mvm) : Prop := u.Pairwise fun x y => x.t < y.t ∨ (x.t = y.t ∧ x.b ≤ y.b)
theorem srt_at {u : List Mvm} (h : Srt u) {i j : Nat} (hij : i < j) (hj : j < u.length) : (ix u i).t < (ix u j).t ∨ ((ix u i).t = (ix u j).t ∧ (ix u i).b ≤ (ix u j).b) := by
  have := List.pairwise_iff_getElem.1 h i j (by omega) hj hij
  rwa [ix_eq (by omega), ix_eq hj] at this
theorem sb_gt {t : Int} : ∀ {u : List Mvm}, (∀ m ∈ u, t < m.t) → sb t u = 0
  | [], _ => rfl
  | m :: r, h => by
    simp only [sb]
    rw [if_neg (by have := h m (by simp); omega), sb_gt (fun x hx => h x (by simp [hx]))]; rfl
theorem sb_sp {t : Int} : ∀ {u : List Mvm}, Srt u → ∃ k, k ≤ u.length ∧ sb t u = sp u k ∧ (∀ q, q < k → (ix u q).t ≤ t) ∧ ∀ q, k ≤ q → q < u.length → t < (ix u q).t
  | [], _ => ⟨0, Nat.le_refl _, rfl, fun q h => by omega, fun q _ h => by simp at h⟩
  | m :: r, h => by
    have h1 := List.pairwise_cons.1 h
    by_cases hm : m.t ≤ t
    · obtain ⟨k, a1, a2, a3, a4⟩ := sb_sp (t := t) (u := r) h1.2
      refine ⟨k + 1, by simpa using a1, ?_, fun q hq => ?_, fun q hq hl => ?_⟩
      · simp only [sb]; rw [if_pos hm, a2, sp_cons]
      · cases q with
        | zero => exact hm
        | succ q => exact a3 q (by omega)
      · cases q with
        | zero => omega
        | succ q => exact a4 q (by omega) (by simpa using hl)
    · have hg : ∀ x ∈ m :: r, t < x.t := by
        intro x hx
        rcases List.mem_cons.1 hx with e | hx
        · rw [e]; omega
        · have := h1.1 x hx; omega
      exact ⟨0, Nat.zero_le _, sb_gt hg, fun q h => by omega, fun q _ hl => hg _ (ix_mem hl)⟩
/-- the program's walk over the moves -/
def mf (u : List Mvm) : Nat → Int × Int
  | 0 => (0, 0)
  | k + 1 => bif decide ((mf u k).1 < sp u (k + 1)) then (sp u (k + 1), (ix u k).t) else mf u k
theorem mf_y {u : List Mvm} {k : Nat} (h : (mf u k).1 < sp u (k + 1)) : mf u (k + 1) = (sp u (k + 1), (ix u k).t) := by
  have hb : decide ((mf u k).1 < sp u (k + 1)) = true := decide_eq_true h
  show (bif decide ((mf u k).1 < sp u (k + 1)) then _ else _) = _
  rw [hb, cond_true]
theorem mf_n {u : List Mvm} {k : Nat} (h : ¬ (mf u k).1 < sp u (k + 1)) : mf u (k + 1) = mf u k := by
  have hb : decide ((mf u k).1 < sp u (k + 1)) = false := decide_eq_false h
  show (bif decide ((mf u k).1 < sp u (k + 1)) then _ else _) = _
  rw [hb, cond_false]
theorem mf_i (u : List Mvm) : ∀ k, 0 ≤ (mf u k).1 ∧ (∀ q, q ≤ k → sp u q ≤ (mf u k).1) ∧ (((mf u k).1 = 0 ∧ (mf u k).2 = 0) ∨ ∃ q, q < k ∧ sp u (q + 1) = (mf u k).1 ∧ (mf u k).2 = (ix u q).t ∧ 0 < (mf u k).1 ∧ ∀ p, p ≤ q → sp u p < (mf u k).1)
  | 0 => ⟨by simp [mf], fun q h => by have : q = 0 := by omega
                                      subst this; simp [sp, mf], .inl ⟨rfl, rfl⟩⟩
  | k + 1 => by
    obtain ⟨h1, h2, h3⟩ := mf_i u k
    by_cases h : (mf u k).1 < sp u (k + 1)
    · have e := mf_y h
      refine ⟨by rw [e]; simp only; omega, fun q hq => ?_, .inr ⟨k, by omega, by rw [e], by rw [e], by rw [e]; simp only; omega, fun p hp => by rw [e]; have := h2 p hp; simp only; omega⟩⟩
      rw [e]
      simp only
      rcases Nat.lt_or_ge q (k + 1) with g | g
      · have := h2 q (by omega); omega
      · rw [show q = k + 1 from by omega]; exact Int.le_refl _
    · have e := mf_n h
      refine ⟨by rw [e]; exact h1, fun q hq => ?_, ?_⟩
      · rw [e]
        rcases Nat.lt_or_ge q (k + 1) with g | g
        · exact h2 q (by omega)
        · rw [show q = k + 1 from by omega]; omega
      · rw [e]
        rcases h3 with h3 | ⟨q, a1, a2, a3, a4, a5⟩
        · exact .inl h3
        · exact .inr ⟨q, by omega, a2, a3, a4, a5⟩
theorem sp_up {u : List Mvm} {q : Nat} : ∀ d, (∀ p, q ≤ p → p < q + d → 0 ≤ (ix u p).b) → sp u q ≤ sp u (q + d)
  | 0, _ => Int.le_refl _
  | d + 1, h => by
    have ih := sp_up (u := u) (q := q) d (fun p h1 h2 => h p h1 (by omega))
    have := h (q + d) (by omega) (by omega)
    show _ ≤ sp u (q + d) + (ix u (q + d)).b
    omega
theorem mf_pk {l : List Sty} {z : ByteArray} {u : List Mvm} (hp : u.Perm (mv l z l.length)) (hs : Srt u) : Pk l z (mf u u.length) := by
  obtain ⟨h1, h2, h3⟩ := mf_i u u.length
  have hc : ∀ t, ct l z t l.length = sb t u := fun t => by rw [← ct_sb, sb_perm hp]
  have hA : ∀ t, ct l z t l.length ≤ (mf u u.length).1 := fun t => by
    obtain ⟨k, a1, a2, _, _⟩ := sb_sp (t := t) hs
    rw [hc, a2]; exact h2 k a1
  rcases h3 with ⟨h3, h4⟩ | ⟨q, b1, b2, b3, b4, b5⟩
  · exact ⟨h1, hA, fun _ => h4, fun h => by omega, fun h => by omega⟩
  · have hqb : 0 < (ix u q).b := by have := b5 q (Nat.le_refl _); simp only [sp] at b2; omega
    refine ⟨h1, hA, fun h => by omega, fun _ => ?_, fun _ t ht => ?_⟩
    · obtain ⟨k, a1, a2, a3, a4⟩ := sb_sp (t := (mf u u.length).2) hs
      have hk : q < k := by
        rcases Nat.lt_or_ge q k with g | g
        · exact g
        · have := a4 q g b1; omega
      have h6 := sp_up (u := u) (q := q + 1) (k - (q + 1)) (fun p h7 h8 => by
        have h9 := srt_at hs (i := q) (j := p) (by omega) (by omega)
        have := a3 p (by omega)
        omega)
      rw [show q + 1 + (k - (q + 1)) = k by omega] at h6
      have h7 := h2 k a1
      rw [hc, a2]; omega
    · obtain ⟨k, a1, a2, a3, a4⟩ := sb_sp (t := t) hs
      have hk : k ≤ q := by
        rcases Nat.lt_or_ge q k with g | g
        · have := a3 q g; omega
        · exact g
      rw [hc, a2]; exact b5 k hk
/-- the order of moves -/
def cm (a b : Mvm) : Int := fz [ic a.t b.t, ic a.b b.b]
theorem cm_neg (a b : Mvm) : cm a b = -(cm b a) := fz_neg (by
  have h1 := ic_neg a.t b.t
  have h2 := ic_neg a.b b.b
  simp only [List.map_cons, List.map_nil, ← h1, ← h2])
theorem cm_tq (a b c : Mvm) : Tq (cm a b) (cm b c) (cm a c) := fz_tq (.cons (ic_tq _ _ _) (.cons (ic_tq _ _ _) .nil))
theorem cm_le {a b : Mvm} (h : cm a b ≤ 0) : a.t < b.t ∨ (a.t = b.t ∧ a.b ≤ b.b) := by
  unfold cm at h
  rcases ic_val a.t b.t with ⟨h1, e1⟩ | ⟨h1, e1⟩ | ⟨h1, e1⟩
  · exact .inl h1
  · rw [e1] at h
    rcases ic_val a.b b.b with ⟨h2, e2⟩ | ⟨h2, e2⟩ | ⟨h2, e2⟩
    · exact .inr ⟨h1, by omega⟩
    · exact .inr ⟨h1, by omega⟩
    · rw [e2] at h; exact absurd h (by decide)
  · rw [e1] at h
    exact absurd (show (1 : Int) ≤ 0 from h) (by decide)

set_option maxHeartbeats 4000000 in
set_option maxRecDepth 100000 in
theorem nanI (x : Int) : Ctr Tryz.prog 38 [.fl (.int .i64 x)] (.d (.fl (.bool (x != x)))) := by
  refine ctr (n := 6) (rs := #[.tmp 2]) (L := [(0, .d (.fl (.int .i64 x)))]) Tryz.func38 rfl rfl rfl rfl rfl (fun w0 U0 => ?_)
  refine a_rseq ?_
  refine rg_put (d := 2) (v := .d (.fl (.bool false))) rfl (og rfl (op_assign rfl rfl rfl)) ?_
  refine rg_done rfl ?_
  refine a_rseq ?_
  refine rg_put (d := 3) (v := .d (.fl (.int .i64 x))) rfl (og rfl (op_move rfl rfl rfl)) ?_
  refine rg_put (d := 4) (v := .d (.fl (.int .i64 x))) rfl (og rfl (op_move rfl rfl rfl)) ?_
  refine rg_put (d := 5) (v := .d (.fl (.bool (x != x)))) rfl (og rfl (op_bin rfl rfl rfl (b_neq _ _ _ _) rfl)) ?_
  refine rg_put (d := 2) (v := .d (.fl (.bool (x != x)))) rfl (og rfl (op_assign rfl rfl rfl)) ?_
  refine rg_done rfl ?_
  refine a_ret ?_
  show ∃ ds, ResL _ _ _ ds ∧ RV.of ds = _
  refine ⟨[.fl (.bool (x != x))], (.cons (.tmp rfl (.d _)) .nil), ?_⟩
  rfl
set_option maxHeartbeats 4000000 in
set_option maxRecDepth 100000 in
theorem icC (x y : Int) : Ctr Tryz.prog 22 [.fl (.int .i64 x), .fl (.int .i64 y)] (.d (.fl (.int .i64 (ic x y)))) := by
  refine ctr (n := 20) (rs := #[.tmp 4]) (L := [(0, .d (.fl (.int .i64 x))), (1, .d (.fl (.int .i64 y)))]) Tryz.func22 rfl rfl rfl rfl rfl (fun w0 U0 => ?_)
  refine a_rseq ?_
  refine rg_put (d := 4) (v := .d (.fl (.int .i64 0))) rfl (og rfl (op_assign rfl rfl rfl)) ?_
  refine rg_done rfl ?_
  refine a_rseq ?_
  refine rg_put (d := 7) (v := .d (.fl (.int .i64 x))) rfl (og rfl (op_move rfl rfl rfl)) ?_
  refine rg_put (d := 8) (v := .d (.fl (.bool (x != x)))) rfl (og rfl (op_call rfl Tryz.func38 nm38 rfl (.cons rfl (.d _) .nil) (nanI x) rfl)) ?_
  refine rg_put (d := 5) (v := .d (.fl (.bool (x != x)))) rfl (og rfl (op_assign rfl rfl rfl)) ?_
  refine rg_done rfl ?_
  refine a_rseq ?_
  refine rg_put (d := 9) (v := .d (.fl (.int .i64 y))) rfl (og rfl (op_move rfl rfl rfl)) ?_
  refine rg_put (d := 10) (v := .d (.fl (.bool (y != y)))) rfl (og rfl (op_call rfl Tryz.func38 nm38 rfl (.cons rfl (.d _) .nil) (nanI y) rfl)) ?_
  refine rg_put (d := 6) (v := .d (.fl (.bool (y != y)))) rfl (og rfl (op_assign rfl rfl rfl)) ?_
  refine rg_done rfl ?_
  refine a_seq ?_
  refine a_rseq ?_
  refine rg_put (d := 11) (v := .d (.fl (.bool (x != x)))) rfl (og rfl (op_move rfl rfl rfl)) ?_
  refine rg_done rfl ?_
  refine a_condF rfl (ne_self_b _) ?_
  refine a_skip ?_
  show A _ _ _ _ _ _ _
  refine a_seq ?_
  refine a_rseq ?_
  refine rg_put (d := 13) (v := .d (.fl (.bool (y != y)))) rfl (og rfl (op_move rfl rfl rfl)) ?_
  refine rg_done rfl ?_
  refine a_condF rfl (ne_self_b _) ?_
  refine a_skip ?_
  show A _ _ _ _ _ _ _
  refine a_seq ?_
  refine a_rseq ?_
  refine rg_put (d := 14) (v := .d (.fl (.int .i64 x))) rfl (og rfl (op_move rfl rfl rfl)) ?_
  refine rg_put (d := 15) (v := .d (.fl (.int .i64 y))) rfl (og rfl (op_move rfl rfl rfl)) ?_
  refine rg_put (d := 16) (v := .d (.fl (.bool ((decide (x < y)))))) rfl (og rfl (op_bin rfl rfl rfl (b_lss _ _ _ _) rfl)) ?_
  refine rg_done rfl ?_
  refine a_cond rfl (fun h1 => ?_) (fun h1 => ?_)
  · skip
    have h2 := t_dec h1
    refine a_rseq ?_
    refine rg_put (d := 4) (v := .d (.fl (.int .i64 (-1)))) rfl (og rfl (op_assign rfl rfl rfl)) ?_
    refine rg_done rfl ?_
    refine a_ret ?_
    show ∃ ds, ResL _ _ _ ds ∧ RV.of ds = _
    refine ⟨[.fl (.int .i64 (-1))], (.cons (.tmp rfl (.d _)) .nil), ?_⟩
    first
      | (have hu : ic x y = (-1) := by
          unfold ic; simp only [h1, Bool.true_or, Bool.false_or, Bool.or_true, Bool.or_false, Bool.not_true, Bool.not_false, cond_true, cond_false, Bool.true_and, Bool.false_and, Bool.and_true, Bool.and_false] <;> rfl
         rw [hu]; rfl)
      | (exfalso; omega)
  · skip
    have h3 := f_dec h1
    refine a_skip ?_
    show A _ _ _ _ _ _ _
    refine a_seq ?_
    refine a_rseq ?_
    refine rg_put (d := 17) (v := .d (.fl (.int .i64 x))) rfl (og rfl (op_move rfl rfl rfl)) ?_
    refine rg_put (d := 18) (v := .d (.fl (.int .i64 y))) rfl (og rfl (op_move rfl rfl rfl)) ?_
    refine rg_put (d := 19) (v := .d (.fl (.bool ((decide (y < x)))))) rfl (og rfl (op_bin rfl rfl rfl (b_gtr _ _ _ _) rfl)) ?_
    refine rg_done rfl ?_
    refine a_cond rfl (fun h4 => ?_) (fun h4 => ?_)
    · skip
      have h5 := t_dec h4
      refine a_rseq ?_
      refine rg_put (d := 4) (v := .d (.fl (.int .i64 1))) rfl (og rfl (op_assign rfl rfl rfl)) ?_
      refine rg_done rfl ?_
      refine a_ret ?_
      show ∃ ds, ResL _ _ _ ds ∧ RV.of ds = _
      refine ⟨[.fl (.int .i64 1)], (.cons (.tmp rfl (.d _)) .nil), ?_⟩
      first
        | (have hu : ic x y = 1 := by
            unfold ic; simp only [h1, h4, Bool.true_or, Bool.false_or, Bool.or_true, Bool.or_false, Bool.not_true, Bool.not_false, cond_true, cond_false, Bool.true_and, Bool.false_and, Bool.and_true, Bool.and_false] <;> rfl
           rw [hu]; rfl)
        | (exfalso; omega)
    · skip
      have h6 := f_dec h4
      refine a_skip ?_
      show A _ _ _ _ _ _ _
      refine a_rseq ?_
      refine rg_put (d := 4) (v := .d (.fl (.int .i64 0))) rfl (og rfl (op_assign rfl rfl rfl)) ?_
      refine rg_done rfl ?_
      refine a_ret ?_
      show ∃ ds, ResL _ _ _ ds ∧ RV.of ds = _
      refine ⟨[.fl (.int .i64 0)], (.cons (.tmp rfl (.d _)) .nil), ?_⟩
      first
        | (have hu : ic x y = 0 := by
            unfold ic; simp only [h1, h4, Bool.true_or, Bool.false_or, Bool.or_true, Bool.or_false, Bool.not_true, Bool.not_false, cond_true, cond_false, Bool.true_and, Bool.false_and, Bool.and_true, Bool.and_false] <;> rfl
           rw [hu]; rfl)
        | (exfalso; omega)
set_option maxHeartbeats 4000000 in
set_option maxRecDepth 100000 in
theorem orC (l : List Int) (hl : l.length ≤ 1000) : Ctr Tryz.prog 21 [.sl 1 (List.map (rI .i64) l)] (.d (.fl (.int .i64 (fz l)))) := by
  refine ctr (n := 18) (rs := #[.tmp 2]) (L := [(0, .d (.sl 1 (List.map (rI .i64) l)))]) Tryz.func21 rfl rfl rfl rfl rfl (fun w0 U0 => ?_)
  refine a_rseq ?_
  refine rg_put (d := 2) (v := .d (.fl (.int .i64 0))) rfl (og rfl (op_assign rfl rfl rfl)) ?_
  refine rg_done rfl ?_
  refine a_rseq ?_
  refine rg_put (d := 3) (v := .d (.fl (.int .i64 0))) rfl (og rfl (op_assign rfl rfl rfl)) ?_
  refine rg_done rfl ?_
  refine a_seq ?_
  refine a_rseq ?_
  refine rg_put (d := 6) (v := .d (.sl 1 (List.map (rI .i64) l))) rfl (og rfl (op_move rfl rfl rfl)) ?_
  refine rg_put (d := 7) (v := .d (.fl (.int .i64 (l.length : Int)))) rfl (og rfl (s_len rfl Tryz.underlying56 rfl rfl)) ?_
  refine rg_put (d := 8) (v := .d (.fl (.int .i64 0))) rfl (og rfl (op_move rfl rfl rfl)) ?_
  refine rg_done rfl ?_
  refine a_block ?_
  refine a_loop (ι := Nat) (fun k => SS [(0, .d (.sl 1 (List.map (rI .i64) l))), (3, .d (.fl (.int .i64 0))), (6, .d (.sl 1 (List.map (rI .i64) l))), (7, .d (.fl (.int .i64 (l.length : Int)))), (8, .d (.fl (.int .i64 (k : Int))))] []) (fun k => k ≤ l.length ∧ ∀ q, q < k → ix l q = 0) (fun k => l.length - k) 0 (⟨by omega, fun q h => by omega⟩) (imp_forget rfl ⟨rfl, rfl, rfl, rfl, (by first | rfl | exact ci (by omega) | exact ci (by simp) | exact cd (by simp) | simp), trivial⟩ trivial) (fun k hok => ?_)
  obtain ⟨hk, hq⟩ := hok
  refine a_rseq ?_
  refine rg_put (d := 9) (v := .d (.fl (.bool ((decide ((k : Int) < (l.length : Int))))))) rfl (og rfl (op_bin rfl rfl rfl (b_lss _ _ _ _) rfl)) ?_
  refine rg_done rfl ?_
  refine a_seq ?_
  refine a_cond rfl (fun h1 => ?_) (fun h1 => ?_)
  · skip
    have h2 := t_dec h1
    refine a_skip ?_
    show A _ _ _ _ _ _ _
    refine a_seq ?_
    refine a_block ?_
    refine a_rseq ?_
    refine rg_put (d := 10) (v := .el ((rI .i64 (ix l k)))) rfl (og rfl (s_index rfl Tryz.underlying56 ti3 rfl rfl (by omega) (row_at (by omega)) rfl)) ?_
    refine rg_put (d := 11) (v := .d (.fl (.int .i64 (ix l k)))) rfl (og rfl (op_load_el rfl Tryz.underlying3 rfl rfl rfl rfl)) ?_
    refine rg_put (d := 5) (v := .d (.fl (.int .i64 (ix l k)))) rfl (og rfl (op_assign rfl rfl rfl)) ?_
    refine rg_done rfl ?_
    refine a_rseq ?_
    refine rg_put (d := 12) (v := .d (.fl (.int .i64 (ix l k)))) rfl (og rfl (op_move rfl rfl rfl)) ?_
    refine rg_put (d := 13) (v := .d (.fl (.int .i64 0))) rfl (og rfl (op_move rfl rfl rfl)) ?_
    refine rg_put (d := 14) (v := .d (.fl (.bool (((ix l k) != 0))))) rfl (og rfl (op_bin rfl rfl rfl (b_neq _ _ _ _) rfl)) ?_
    refine rg_done rfl ?_
    refine a_cond rfl (fun h3 => ?_) (fun h3 => ?_)
    · skip
      have h4 := t_bne h3
      refine a_rseq ?_
      refine rg_put (d := 15) (v := .d (.fl (.int .i64 (ix l k)))) rfl (og rfl (op_move rfl rfl rfl)) ?_
      refine rg_put (d := 2) (v := .d (.fl (.int .i64 (ix l k)))) rfl (og rfl (op_assign rfl rfl rfl)) ?_
      refine rg_done rfl ?_
      refine a_ret ?_
      show ∃ ds, ResL _ _ _ ds ∧ RV.of ds = _
      refine ⟨[.fl (.int .i64 (ix l k))], (.cons (.tmp rfl (.d _)) .nil), ?_⟩
      rw [fz_at (by omega) hq (t_bne h3)]; rfl
    · skip
      have h5 := f_bne h3
      refine a_skip ?_
      show A _ _ _ _ _ _ _
      refine a_region ?_
      refine rg_put (d := 16) (v := .d (.fl (.int .i64 (((k : Int) + 1))))) rfl (og rfl (op_bin rfl rfl rfl (fun x y w => b_add64 _ _ _ x y w (by omega)) rfl)) ?_
      refine rg_put (d := 8) (v := .d (.fl (.int .i64 (((k : Int) + 1))))) rfl (og rfl (op_move rfl rfl rfl)) ?_
      refine rg_done rfl ?_
      have hx : ix l k = 0 := f_bne h3
      show ∃ i, _ ∧ _ ∧ Imp _ _ _ _ _
      refine ⟨k + 1, ⟨by omega, fun q h => (Nat.lt_succ_iff_lt_or_eq.1 h).elim (hq q) (fun e => by rw [e]; exact hx)⟩, by omega, imp_forget rfl ⟨rfl, rfl, rfl, rfl, (by first | rfl | exact ci (by omega) | exact ci (by simp) | exact cd (by simp) | simp), trivial⟩ trivial⟩
  · skip
    have h6 := f_dec h1
    refine a_exit ?_
    show A _ _ _ _ _ _ _
    refine a_rseq ?_
    refine rg_put (d := 17) (v := .d (.fl (.int .i64 0))) rfl (og rfl (op_move rfl rfl rfl)) ?_
    refine rg_put (d := 2) (v := .d (.fl (.int .i64 0))) rfl (og rfl (op_assign rfl rfl rfl)) ?_
    refine rg_done rfl ?_
    refine a_ret ?_
    show ∃ ds, ResL _ _ _ ds ∧ RV.of ds = _
    refine ⟨[.fl (.int .i64 0)], (.cons (.tmp rfl (.d _)) .nil), ?_⟩
    rw [fz_no (fun q h => hq q (by omega))]; rfl
set_option maxHeartbeats 4000000 in
set_option maxRecDepth 100000 in
theorem cmC (a b : Mvm) : Ctr Tryz.prog 20 [.ag (eMvm a), .ag (eMvm b)] (.d (.fl (.int .i64 (cm a b)))) := by
  refine ctr (n := 17) (rs := #[.tmp 4]) (L := [(0, .d (.ag (eMvm a))), (1, .d (.ag (eMvm b)))]) Tryz.func20 rfl rfl rfl rfl rfl (fun w0 U0 => ?_)
  refine a_rseq ?_
  refine rg_nam (d := 2) (v := .pt 101 0) (m := 101) (nw := [(101, .bx 64 (eMvm a))]) rfl (og rfl (of_eff (op_box 101 rfl rfl rfl rfl) rfl)) rfl ?_
  refine rg_nam (d := 3) (v := .pt 102 0) (m := 102) (nw := [(102, .bx 64 (eMvm b))]) rfl (og rfl (of_eff (op_box 102 rfl rfl rfl rfl) rfl)) rfl ?_
  refine rg_put (d := 4) (v := .d (.fl (.int .i64 0))) rfl (og rfl (op_assign rfl rfl rfl)) ?_
  refine rg_done rfl ?_
  refine a_dseq (by kernel_rfl) ?_
  refine dr_put (d := 5) (v := .pt 101 0) rfl (og rfl (of_eff (s_field_pt rfl Tryz.underlying64 rfl ti3 rfl rfl rfl) rfl)) ?_
  refine dr_put (d := 6) (v := .d (.fl (.int .i64 a.t))) rfl (og rfl (op_load_pt rfl Tryz.underlying3 rfl rfl rfl rfl rfl)) ?_
  refine dr_put (d := 7) (v := .pt 102 0) rfl (og rfl (of_eff (s_field_pt rfl Tryz.underlying64 rfl ti3 rfl rfl rfl) rfl)) ?_
  refine dr_put (d := 8) (v := .d (.fl (.int .i64 b.t))) rfl (og rfl (op_load_pt rfl Tryz.underlying3 rfl rfl rfl rfl rfl)) ?_
  refine dr_put (d := 9) (v := .d (.fl (.int .i64 (ic a.t b.t)))) rfl (og rfl (op_call rfl Tryz.func22 nm22 rfl (.cons rfl (.d _) (.cons rfl (.d _) .nil)) (icC a.t b.t) rfl)) ?_
  refine dr_put (d := 10) (v := .pt 101 1) rfl (og rfl (of_eff (s_field_pt rfl Tryz.underlying64 rfl ti3 rfl rfl rfl) rfl)) ?_
  refine dr_put (d := 11) (v := .d (.fl (.int .i64 a.b))) rfl (og rfl (op_load_pt rfl Tryz.underlying3 rfl rfl rfl rfl rfl)) ?_
  refine dr_put (d := 12) (v := .pt 102 1) rfl (og rfl (of_eff (s_field_pt rfl Tryz.underlying64 rfl ti3 rfl rfl rfl) rfl)) ?_
  refine dr_put (d := 13) (v := .d (.fl (.int .i64 b.b))) rfl (og rfl (op_load_pt rfl Tryz.underlying3 rfl rfl rfl rfl rfl)) ?_
  refine dr_put (d := 14) (v := .d (.fl (.int .i64 (ic a.b b.b)))) rfl (og rfl (op_call rfl Tryz.func22 nm22 rfl (.cons rfl (.d _) (.cons rfl (.d _) .nil)) (icC a.b b.b) rfl)) ?_
  refine dr_put (d := 15) (v := .d (.sl 1 (List.map (rI .i64) [(ic a.t b.t), (ic a.b b.b)]))) rfl (og rfl (of_eff (op_slices rfl Tryz.underlying56 ti3 rfl rfl rfl (by kernel_rfl) (xs := [.fl (.int .i64 (ic a.t b.t)), .fl (.int .i64 (ic a.b b.b))]) rfl rfl (.cons rfl rfl (.d _) rfl rfl rfl (.cons rfl rfl (.d _) rfl rfl rfl .nil)) rfl) rfl)) ?_
  refine dr_put (d := 16) (v := .d (.fl (.int .i64 ((fz [(ic a.t b.t), (ic a.b b.b)]))))) rfl (og rfl (op_call rfl Tryz.func21 nm21 rfl (.cons rfl (.d _) .nil) (orC [(ic a.t b.t), (ic a.b b.b)] (by simp)) rfl)) ?_
  refine dr_put (d := 4) (v := .d (.fl (.int .i64 ((fz [(ic a.t b.t), (ic a.b b.b)]))))) rfl (og rfl (op_assign rfl rfl rfl)) ?_
  refine dr_done rfl (by kernel_rfl) (by kernel_rfl) ?_
  refine a_ret ?_
  show ∃ ds, ResL _ _ _ ds ∧ RV.of ds = _
  refine ⟨[.fl (.int .i64 ((fz [(ic a.t b.t), (ic a.b b.b)])))], (.cons (.tmp rfl (.d _)) .nil), ?_⟩
  rfl
theorem sortG : SortG Tryz.prog 19 2 := ⟨fun β _ enc hk h1 cf hO g cb blk off cap d w eg hc hH hb hs => AnyQ.slices_SortFunc Tryz.sortP 2 Tryz.isAgg64 Tryz.sizeOf64 enc hk h1 cf hO g cb blk off cap d w eg hc hH hb hs, fun p cap fv w => AnyF.slices_SortFunc_none Tryz.sortP p cap fv w⟩
theorem sortD : SortOkD Tryz.prog 19 20 [] 2 eMvm (fun _ => True) (ltOf cm) := sortOkD_of sortG (fun _ => rfl) (swo_of cm_neg cm_tq) (enters_of Tryz.func20 (by kernel_rfl) rfl) (fun x y _ _ => cmC x y)
set_option maxHeartbeats 4000000 in
set_option maxRecDepth 100000 in
theorem vlP (i : Itv) : Ctr Tryz.prog 18 [.ag (eItv i)] (.d (.fl (.bool (vl i)))) := by
  refine ctr (n := 18) (rs := #[.tmp 2]) (L := [(0, .d (.ag (eItv i)))]) Tryz.func18 rfl rfl rfl rfl rfl (fun w0 U0 => ?_)
  refine a_rseq ?_
  refine rg_nam (d := 1) (v := .pt 101 0) (m := 101) (nw := [(101, .bx 26 (eItv i))]) rfl (og rfl (of_eff (op_box 101 rfl rfl rfl rfl) rfl)) rfl ?_
  refine rg_put (d := 2) (v := .d (.fl (.bool false))) rfl (og rfl (op_assign rfl rfl rfl)) ?_
  refine rg_done rfl ?_
  refine a_rseq ?_
  refine rg_put (d := 3) (v := .pt 101 0) rfl (og rfl (of_eff (s_field_pt rfl Tryz.underlying26 rfl ti3 rfl rfl rfl) rfl)) ?_
  refine rg_put (d := 4) (v := .d (.fl (.int .i64 i.fr))) rfl (og rfl (op_load_pt rfl Tryz.underlying3 rfl rfl rfl rfl rfl)) ?_
  refine rg_put (d := 5) (v := .d (.fl (.bool ((decide (0 ≤ i.fr)))))) rfl (og rfl (op_bin rfl rfl rfl (b_leq _ _ _ _) rfl)) ?_
  refine rg_put (d := 6) (v := .d (.fl (.bool ((decide (0 ≤ i.fr)))))) rfl (og rfl (op_move rfl rfl rfl)) ?_
  rcases fot ((decide (0 ≤ i.fr))) with h1 | h1
  · skip
    have h2 := f_dec h1
    refine rg_put (d := 7) (v := .d (.fl undef)) rfl (on rfl rfl rfl h1) ?_
    refine rg_put (d := 8) (v := .d (.fl undef)) rfl (on rfl rfl rfl h1) ?_
    refine rg_put (d := 9) (v := .d (.fl undef)) rfl (on rfl rfl rfl h1) ?_
    refine rg_put (d := 10) (v := .d (.fl undef)) rfl (on rfl rfl rfl h1) ?_
    refine rg_put (d := 11) (v := .d (.fl undef)) rfl (on rfl rfl rfl h1) ?_
    refine rg_put (d := 12) (v := .d (.fl (.bool false))) rfl (og rfl (op_pick rfl rfl (by rw [h1]; rfl) rfl)) ?_
    refine rg_put (d := 13) (v := .d (.fl (.bool false))) rfl (og rfl (op_move rfl rfl rfl)) ?_
    refine rg_put (d := 14) (v := .d (.fl undef)) rfl (on rfl rfl rfl rfl) ?_
    refine rg_put (d := 15) (v := .d (.fl undef)) rfl (on rfl rfl rfl rfl) ?_
    refine rg_put (d := 16) (v := .d (.fl undef)) rfl (on rfl rfl rfl rfl) ?_
    refine rg_put (d := 17) (v := .d (.fl (.bool false))) rfl (og rfl (op_pick rfl rfl rfl rfl)) ?_
    refine rg_put (d := 2) (v := .d (.fl (.bool false))) rfl (og rfl (op_assign rfl rfl rfl)) ?_
    refine rg_done rfl ?_
    refine a_ret ?_
    show ∃ ds, ResL _ _ _ ds ∧ RV.of ds = _
    refine ⟨[.fl (.bool false)], (.cons (.tmp rfl (.d _)) .nil), ?_⟩
    first
      | (have hu : vl i = false := by
          unfold vl; simp only [h1, Bool.true_or, Bool.false_or, Bool.or_true, Bool.or_false, Bool.not_true, Bool.not_false, cond_true, cond_false, Bool.true_and, Bool.false_and, Bool.and_true, Bool.and_false] <;> rfl
         rw [hu]; rfl)
      | (exfalso; omega)
  · skip
    have h3 := t_dec h1
    refine rg_put (d := 7) (v := .pt 101 0) rfl (oy rfl rfl rfl h1 (of_eff (s_field_pt rfl Tryz.underlying26 rfl ti3 rfl rfl rfl) rfl)) ?_
    refine rg_put (d := 8) (v := .d (.fl (.int .i64 i.fr))) rfl (oy rfl rfl rfl h1 (op_load_pt rfl Tryz.underlying3 rfl rfl rfl rfl rfl)) ?_
    refine rg_put (d := 9) (v := .pt 101 1) rfl (oy rfl rfl rfl h1 (of_eff (s_field_pt rfl Tryz.underlying26 rfl ti3 rfl rfl rfl) rfl)) ?_
    refine rg_put (d := 10) (v := .d (.fl (.int .i64 i.to))) rfl (oy rfl rfl rfl h1 (op_load_pt rfl Tryz.underlying3 rfl rfl rfl rfl rfl)) ?_
    refine rg_put (d := 11) (v := .d (.fl (.bool ((decide (i.fr < i.to)))))) rfl (oy rfl rfl rfl h1 (op_bin rfl rfl rfl (b_lss _ _ _ _) rfl)) ?_
    refine rg_put (d := 12) (v := .d (.fl (.bool ((decide (i.fr < i.to)))))) rfl (og rfl (op_pick rfl rfl (by rw [h1]; rfl) rfl)) ?_
    refine rg_put (d := 13) (v := .d (.fl (.bool ((decide (i.fr < i.to)))))) rfl (og rfl (op_move rfl rfl rfl)) ?_
    rcases fot ((decide (i.fr < i.to))) with h4 | h4
    · skip
      have h5 := f_dec h4
      refine rg_put (d := 14) (v := .d (.fl undef)) rfl (on rfl rfl rfl h4) ?_
      refine rg_put (d := 15) (v := .d (.fl undef)) rfl (on rfl rfl rfl h4) ?_
      refine rg_put (d := 16) (v := .d (.fl undef)) rfl (on rfl rfl rfl h4) ?_
      refine rg_put (d := 17) (v := .d (.fl (.bool false))) rfl (og rfl (op_pick rfl rfl (by rw [h4]; rfl) rfl)) ?_
      refine rg_put (d := 2) (v := .d (.fl (.bool false))) rfl (og rfl (op_assign rfl rfl rfl)) ?_
      refine rg_done rfl ?_
      refine a_ret ?_
      show ∃ ds, ResL _ _ _ ds ∧ RV.of ds = _
      refine ⟨[.fl (.bool false)], (.cons (.tmp rfl (.d _)) .nil), ?_⟩
      first
        | (have hu : vl i = false := by
            unfold vl; simp only [h1, h4, Bool.true_or, Bool.false_or, Bool.or_true, Bool.or_false, Bool.not_true, Bool.not_false, cond_true, cond_false, Bool.true_and, Bool.false_and, Bool.and_true, Bool.and_false] <;> rfl
           rw [hu]; rfl)
        | (exfalso; omega)
    · skip
      have h6 := t_dec h4
      refine rg_put (d := 14) (v := .pt 101 1) rfl (oy rfl rfl rfl h4 (of_eff (s_field_pt rfl Tryz.underlying26 rfl ti3 rfl rfl rfl) rfl)) ?_
      refine rg_put (d := 15) (v := .d (.fl (.int .i64 i.to))) rfl (oy rfl rfl rfl h4 (op_load_pt rfl Tryz.underlying3 rfl rfl rfl rfl rfl)) ?_
      refine rg_put (d := 16) (v := .d (.fl (.bool ((decide (i.to ≤ 68719476736)))))) rfl (oy rfl rfl rfl h4 (op_bin rfl rfl rfl (b_leq _ _ _ _) rfl)) ?_
      refine rg_put (d := 17) (v := .d (.fl (.bool ((decide (i.to ≤ 68719476736)))))) rfl (og rfl (op_pick rfl rfl (by rw [h4]; rfl) rfl)) ?_
      refine rg_put (d := 2) (v := .d (.fl (.bool ((decide (i.to ≤ 68719476736)))))) rfl (og rfl (op_assign rfl rfl rfl)) ?_
      refine rg_done rfl ?_
      refine a_ret ?_
      show ∃ ds, ResL _ _ _ ds ∧ RV.of ds = _
      refine ⟨[.fl (.bool ((decide (i.to ≤ 68719476736))))], (.cons (.tmp rfl (.d _)) .nil), ?_⟩
      first
        | (have hu : vl i = (decide (i.to ≤ 68719476736)) := by
            unfold vl; simp only [h1, h4, Bool.true_or, Bool.false_or, Bool.or_true, Bool.or_false, Bool.not_true, Bool.not_false, cond_true, cond_false, Bool.true_and, Bool.false_and, Bool.and_true, Bool.and_false] <;> rfl
           rw [hu]; rfl)
        | (exfalso; omega)
set_option maxHeartbeats 4000000 in
set_option maxRecDepth 100000 in
theorem vlR (i : Itv) : Ctr Tryz.prog 24 [.ag (eItv i)] (.d (.fl (.bool (vl i)))) := by
  refine ctr (n := 18) (rs := #[.tmp 2]) (L := [(0, .d (.ag (eItv i)))]) Tryz.func24 rfl rfl rfl rfl rfl (fun w0 U0 => ?_)
  refine a_rseq ?_
  refine rg_nam (d := 1) (v := .pt 101 0) (m := 101) (nw := [(101, .bx 26 (eItv i))]) rfl (og rfl (of_eff (op_box 101 rfl rfl rfl rfl) rfl)) rfl ?_
  refine rg_put (d := 2) (v := .d (.fl (.bool false))) rfl (og rfl (op_assign rfl rfl rfl)) ?_
  refine rg_done rfl ?_
  refine a_rseq ?_
  refine rg_put (d := 3) (v := .pt 101 0) rfl (og rfl (of_eff (s_field_pt rfl Tryz.underlying26 rfl ti3 rfl rfl rfl) rfl)) ?_
  refine rg_put (d := 4) (v := .d (.fl (.int .i64 i.fr))) rfl (og rfl (op_load_pt rfl Tryz.underlying3 rfl rfl rfl rfl rfl)) ?_
  refine rg_put (d := 5) (v := .d (.fl (.bool ((decide (0 ≤ i.fr)))))) rfl (og rfl (op_bin rfl rfl rfl (b_geq _ _ _ _) rfl)) ?_
  refine rg_put (d := 6) (v := .d (.fl (.bool ((decide (0 ≤ i.fr)))))) rfl (og rfl (op_move rfl rfl rfl)) ?_
  rcases fot ((decide (0 ≤ i.fr))) with h1 | h1
  · skip
    have h2 := f_dec h1
    refine rg_put (d := 7) (v := .d (.fl undef)) rfl (on rfl rfl rfl h1) ?_
    refine rg_put (d := 8) (v := .d (.fl undef)) rfl (on rfl rfl rfl h1) ?_
    refine rg_put (d := 9) (v := .d (.fl undef)) rfl (on rfl rfl rfl h1) ?_
    refine rg_put (d := 10) (v := .d (.fl undef)) rfl (on rfl rfl rfl h1) ?_
    refine rg_put (d := 11) (v := .d (.fl undef)) rfl (on rfl rfl rfl h1) ?_
    refine rg_put (d := 12) (v := .d (.fl (.bool false))) rfl (og rfl (op_pick rfl rfl (by rw [h1]; rfl) rfl)) ?_
    refine rg_put (d := 13) (v := .d (.fl (.bool false))) rfl (og rfl (op_move rfl rfl rfl)) ?_
    refine rg_put (d := 14) (v := .d (.fl undef)) rfl (on rfl rfl rfl rfl) ?_
    refine rg_put (d := 15) (v := .d (.fl undef)) rfl (on rfl rfl rfl rfl) ?_
    refine rg_put (d := 16) (v := .d (.fl undef)) rfl (on rfl rfl rfl rfl) ?_
    refine rg_put (d := 17) (v := .d (.fl (.bool false))) rfl (og rfl (op_pick rfl rfl rfl rfl)) ?_
    refine rg_put (d := 2) (v := .d (.fl (.bool false))) rfl (og rfl (op_assign rfl rfl rfl)) ?_
    refine rg_done rfl ?_
    refine a_ret ?_
    show ∃ ds, ResL _ _ _ ds ∧ RV.of ds = _
    refine ⟨[.fl (.bool false)], (.cons (.tmp rfl (.d _)) .nil), ?_⟩
    first
      | (have hu : vl i = false := by
          unfold vl; simp only [h1, Bool.true_or, Bool.false_or, Bool.or_true, Bool.or_false, Bool.not_true, Bool.not_false, cond_true, cond_false, Bool.true_and, Bool.false_and, Bool.and_true, Bool.and_false] <;> rfl
         rw [hu]; rfl)
      | (exfalso; omega)
  · skip
    have h3 := t_dec h1
    refine rg_put (d := 7) (v := .pt 101 0) rfl (oy rfl rfl rfl h1 (of_eff (s_field_pt rfl Tryz.underlying26 rfl ti3 rfl rfl rfl) rfl)) ?_
    refine rg_put (d := 8) (v := .d (.fl (.int .i64 i.fr))) rfl (oy rfl rfl rfl h1 (op_load_pt rfl Tryz.underlying3 rfl rfl rfl rfl rfl)) ?_
    refine rg_put (d := 9) (v := .pt 101 1) rfl (oy rfl rfl rfl h1 (of_eff (s_field_pt rfl Tryz.underlying26 rfl ti3 rfl rfl rfl) rfl)) ?_
    refine rg_put (d := 10) (v := .d (.fl (.int .i64 i.to))) rfl (oy rfl rfl rfl h1 (op_load_pt rfl Tryz.underlying3 rfl rfl rfl rfl rfl)) ?_
    refine rg_put (d := 11) (v := .d (.fl (.bool ((decide (i.fr < i.to)))))) rfl (oy rfl rfl rfl h1 (op_bin rfl rfl rfl (b_lss _ _ _ _) rfl)) ?_
    refine rg_put (d := 12) (v := .d (.fl (.bool ((decide (i.fr < i.to)))))) rfl (og rfl (op_pick rfl rfl (by rw [h1]; rfl) rfl)) ?_
    refine rg_put (d := 13) (v := .d (.fl (.bool ((decide (i.fr < i.to)))))) rfl (og rfl (op_move rfl rfl rfl)) ?_
    rcases fot ((decide (i.fr < i.to))) with h4 | h4
    · skip
      have h5 := f_dec h4
      refine rg_put (d := 14) (v := .d (.fl undef)) rfl (on rfl rfl rfl h4) ?_
      refine rg_put (d := 15) (v := .d (.fl undef)) rfl (on rfl rfl rfl h4) ?_
      refine rg_put (d := 16) (v := .d (.fl undef)) rfl (on rfl rfl rfl h4) ?_
      refine rg_put (d := 17) (v := .d (.fl (.bool false))) rfl (og rfl (op_pick rfl rfl (by rw [h4]; rfl) rfl)) ?_
      refine rg_put (d := 2) (v := .d (.fl (.bool false))) rfl (og rfl (op_assign rfl rfl rfl)) ?_
      refine rg_done rfl ?_
      refine a_ret ?_
      show ∃ ds, ResL _ _ _ ds ∧ RV.of ds = _
      refine ⟨[.fl (.bool false)], (.cons (.tmp rfl (.d _)) .nil), ?_⟩
      first
        | (have hu : vl i = false := by
            unfold vl; simp only [h1, h4, Bool.true_or, Bool.false_or, Bool.or_true, Bool.or_false, Bool.not_true, Bool.not_false, cond_true, cond_false, Bool.true_and, Bool.false_and, Bool.and_true, Bool.and_false] <;> rfl
           rw [hu]; rfl)
        | (exfalso; omega)
    · skip
      have h6 := t_dec h4
      refine rg_put (d := 14) (v := .pt 101 1) rfl (oy rfl rfl rfl h4 (of_eff (s_field_pt rfl Tryz.underlying26 rfl ti3 rfl rfl rfl) rfl)) ?_
      refine rg_put (d := 15) (v := .d (.fl (.int .i64 i.to))) rfl (oy rfl rfl rfl h4 (op_load_pt rfl Tryz.underlying3 rfl rfl rfl rfl rfl)) ?_
      refine rg_put (d := 16) (v := .d (.fl (.bool ((decide (i.to ≤ 68719476736)))))) rfl (oy rfl rfl rfl h4 (op_bin rfl rfl rfl (b_leq _ _ _ _) rfl)) ?_
      refine rg_put (d := 17) (v := .d (.fl (.bool ((decide (i.to ≤ 68719476736)))))) rfl (og rfl (op_pick rfl rfl (by rw [h4]; rfl) rfl)) ?_
      refine rg_put (d := 2) (v := .d (.fl (.bool ((decide (i.to ≤ 68719476736)))))) rfl (og rfl (op_assign rfl rfl rfl)) ?_
      refine rg_done rfl ?_
      refine a_ret ?_
      show ∃ ds, ResL _ _ _ ds ∧ RV.of ds = _
      refine ⟨[.fl (.bool ((decide (i.to ≤ 68719476736))))], (.cons (.tmp rfl (.d _)) .nil), ?_⟩
      first
        | (have hu : vl i = (decide (i.to ≤ 68719476736)) := by
            unfold vl; simp only [h1, h4, Bool.true_or, Bool.false_or, Bool.or_true, Bool.or_false, Bool.not_true, Bool.not_false, cond_true, cond_false, Bool.true_and, Bool.false_and, Bool.and_true, Bool.and_false] <;> rfl
           rw [hu]; rfl)
        | (exfalso; omega)
theorem anyHt {l : List Itv} {t : Int} {k : Nat} (hk : k < l.length) (h : hv (ix l k) t = true) : anyH l t = true := List.any_eq_true.2 ⟨_, ix_mem hk, h⟩
theorem anyHf {l : List Itv} {t : Int} (h : ∀ q, q < l.length → hv (ix l q) t = false) : anyH l t = false := List.any_eq_false.2 (fun x hx => by obtain ⟨k, hk, rfl⟩ := mem_ix hx; rw [h k hk]; simp)

set_option maxHeartbeats 4000000 in
set_option maxRecDepth 100000 in
theorem hasC (l : List Itv) (t : Int) (hl : l.length ≤ 40) : Ctr Tryz.prog 23 [.sl 2 (List.map eItv l), .fl (.int .i64 t)] (.d (.fl (.bool (anyH l t)))) := by
  refine ctr (n := 28) (rs := #[.tmp 4]) (L := [(0, .d (.sl 2 (List.map eItv l))), (1, .d (.fl (.int .i64 t)))]) Tryz.func23 rfl rfl rfl rfl rfl (fun w0 U0 => ?_)
  refine a_rseq ?_
  refine rg_put (d := 4) (v := .d (.fl (.bool false))) rfl (og rfl (op_assign rfl rfl rfl)) ?_
  refine rg_done rfl ?_
  refine a_seq ?_
  refine a_rseq ?_
  refine rg_put (d := 7) (v := .d (.sl 2 (List.map eItv l))) rfl (og rfl (op_move rfl rfl rfl)) ?_
  refine rg_put (d := 8) (v := .d (.fl (.int .i64 (l.length : Int)))) rfl (og rfl (s_len rfl Tryz.underlying53 rfl rfl)) ?_
  refine rg_put (d := 9) (v := .d (.fl (.int .i64 0))) rfl (og rfl (op_move rfl rfl rfl)) ?_
  refine rg_done rfl ?_
  refine a_block ?_
  refine a_loop (ι := Nat) (fun k => SS [(0, .d (.sl 2 (List.map eItv l))), (1, .d (.fl (.int .i64 t))), (7, .d (.sl 2 (List.map eItv l))), (8, .d (.fl (.int .i64 (l.length : Int)))), (9, .d (.fl (.int .i64 (k : Int))))] []) (fun k => k ≤ l.length ∧ ∀ q, q < k → (hv (ix l q) t) = false) (fun k => l.length - k) 0 (⟨by omega, fun q h => by omega⟩) (imp_forget rfl ⟨rfl, rfl, rfl, rfl, (by first | rfl | exact ci (by omega) | exact ci (by simp) | exact cd (by simp) | simp), trivial⟩ trivial) (fun k hok => ?_)
  obtain ⟨hkk, hq⟩ := hok
  refine a_rseq ?_
  refine rg_put (d := 10) (v := .d (.fl (.bool ((decide ((k : Int) < (l.length : Int))))))) rfl (og rfl (op_bin rfl rfl rfl (b_lss _ _ _ _) rfl)) ?_
  refine rg_done rfl ?_
  refine a_seq ?_
  refine a_cond rfl (fun h1 => ?_) (fun h1 => ?_)
  · skip
    have h2 := t_dec h1
    refine a_skip ?_
    show A _ _ _ _ _ _ _
    refine a_seq ?_
    refine a_block ?_
    refine a_rseq ?_
    refine rg_put (d := 11) (v := .el ((eItv (ix l k)))) rfl (og rfl (s_index rfl Tryz.underlying53 ti26 rfl rfl (by omega) (row_at (by omega)) rfl)) ?_
    refine rg_put (d := 12) (v := .d (.ag (eItv (ix l k)))) rfl (og rfl (of_eff (s_load_els rfl Tryz.underlying26 rfl ti26 rfl rfl rfl) rfl)) ?_
    refine rg_nam (d := 6) (v := .pt 101 0) (m := 101) (nw := [(101, .bx 26 [.fl (.int .i64 0), .fl (.int .i64 0)])]) rfl (og rfl (of_eff (s_alloc 101 rfl ti26 (by kernel_rfl) rfl) rfl)) rfl ?_
    refine rg_sto (nw := [(101, .bx 26 ((eItv (ix l k))))]) rfl (og rfl (of_eff (s_store rfl rfl ti26 rfl rfl rfl rfl rfl rfl) rfl)) ?_
    refine rg_done rfl ?_
    refine a_rseq ?_
    refine rg_put (d := 13) (v := .d (.ag (eItv (ix l k)))) rfl (og rfl (of_eff (s_load_pts rfl Tryz.underlying26 rfl ti26 rfl rfl rfl rfl) rfl)) ?_
    refine rg_put (d := 14) (v := .d (.fl (.bool ((vl (ix l k)))))) rfl (og rfl (op_call rfl Tryz.func18 nm18 rfl (.cons rfl (.d _) .nil) (vlP (ix l k)) rfl)) ?_
    refine rg_put (d := 15) (v := .d (.fl (.bool ((vl (ix l k)))))) rfl (og rfl (op_move rfl rfl rfl)) ?_
    rcases fot ((vl (ix l k))) with h3 | h3
    · skip
      refine rg_put (d := 16) (v := .d (.fl undef)) rfl (on rfl rfl rfl h3) ?_
      refine rg_put (d := 17) (v := .d (.fl undef)) rfl (on rfl rfl rfl h3) ?_
      refine rg_put (d := 18) (v := .d (.fl undef)) rfl (on rfl rfl rfl h3) ?_
      refine rg_put (d := 19) (v := .d (.fl undef)) rfl (on rfl rfl rfl h3) ?_
      refine rg_put (d := 20) (v := .d (.fl (.bool false))) rfl (og rfl (op_pick rfl rfl (by rw [h3]; rfl) rfl)) ?_
      refine rg_put (d := 21) (v := .d (.fl (.bool false))) rfl (og rfl (op_move rfl rfl rfl)) ?_
      refine rg_put (d := 22) (v := .d (.fl undef)) rfl (on rfl rfl rfl rfl) ?_
      refine rg_put (d := 23) (v := .d (.fl undef)) rfl (on rfl rfl rfl rfl) ?_
      refine rg_put (d := 24) (v := .d (.fl undef)) rfl (on rfl rfl rfl rfl) ?_
      refine rg_put (d := 25) (v := .d (.fl undef)) rfl (on rfl rfl rfl rfl) ?_
      refine rg_put (d := 26) (v := .d (.fl (.bool false))) rfl (og rfl (op_pick rfl rfl rfl rfl)) ?_
      refine rg_done rfl ?_
      refine a_condF rfl rfl ?_
      refine a_skip ?_
      show A _ _ _ _ _ _ _
      refine a_region ?_
      refine rg_put (d := 27) (v := .d (.fl (.int .i64 (((k : Int) + 1))))) rfl (og rfl (op_bin rfl rfl rfl (fun x y w => b_add64 _ _ _ x y w (by omega)) rfl)) ?_
      refine rg_put (d := 9) (v := .d (.fl (.int .i64 (((k : Int) + 1))))) rfl (og rfl (op_move rfl rfl rfl)) ?_
      refine rg_done rfl ?_
      have hx : (hv (ix l k) t) = false := by unfold hv; simp only [h1, h3, Bool.true_or, Bool.false_or, Bool.or_true, Bool.or_false, Bool.not_true, Bool.not_false, cond_true, cond_false, Bool.true_and, Bool.false_and, Bool.and_true, Bool.and_false] <;> rfl
      show ∃ i, _ ∧ _ ∧ Imp _ _ _ _ _
      refine ⟨k + 1, ⟨by omega, fun q h => (Nat.lt_succ_iff_lt_or_eq.1 h).elim (hq q) (fun e => by rw [e]; exact hx)⟩, by omega, imp_forget rfl ⟨rfl, rfl, rfl, rfl, (by first | rfl | exact ci (by omega) | exact ci (by simp) | exact cd (by simp) | simp), trivial⟩ trivial⟩
    · skip
      refine rg_put (d := 16) (v := .pt 101 0) rfl (oy rfl rfl rfl h3 (of_eff (s_field_pt rfl Tryz.underlying26 rfl ti3 rfl rfl rfl) rfl)) ?_
      refine rg_put (d := 17) (v := .d (.fl (.int .i64 ((ix l k).fr)))) rfl (oy rfl rfl rfl h3 (op_load_pt rfl Tryz.underlying3 rfl rfl rfl rfl rfl)) ?_
      refine rg_put (d := 18) (v := .d (.fl (.int .i64 t))) rfl (oy rfl rfl rfl h3 (op_move rfl rfl rfl)) ?_
      refine rg_put (d := 19) (v := .d (.fl (.bool ((decide ((ix l k).fr ≤ t)))))) rfl (oy rfl rfl rfl h3 (op_bin rfl rfl rfl (b_leq _ _ _ _) rfl)) ?_
      refine rg_put (d := 20) (v := .d (.fl (.bool ((decide ((ix l k).fr ≤ t)))))) rfl (og rfl (op_pick rfl rfl (by rw [h3]; rfl) rfl)) ?_
      refine rg_put (d := 21) (v := .d (.fl (.bool ((decide ((ix l k).fr ≤ t)))))) rfl (og rfl (op_move rfl rfl rfl)) ?_
      rcases fot ((decide ((ix l k).fr ≤ t))) with h4 | h4
      · skip
        have h5 := f_dec h4
        refine rg_put (d := 22) (v := .d (.fl undef)) rfl (on rfl rfl rfl h4) ?_
        refine rg_put (d := 23) (v := .d (.fl undef)) rfl (on rfl rfl rfl h4) ?_
        refine rg_put (d := 24) (v := .d (.fl undef)) rfl (on rfl rfl rfl h4) ?_
        refine rg_put (d := 25) (v := .d (.fl undef)) rfl (on rfl rfl rfl h4) ?_
        refine rg_put (d := 26) (v := .d (.fl (.bool false))) rfl (og rfl (op_pick rfl rfl (by rw [h4]; rfl) rfl)) ?_
        refine rg_done rfl ?_
        refine a_condF rfl rfl ?_
        refine a_skip ?_
        show A _ _ _ _ _ _ _
        refine a_region ?_
        refine rg_put (d := 27) (v := .d (.fl (.int .i64 (((k : Int) + 1))))) rfl (og rfl (op_bin rfl rfl rfl (fun x y w => b_add64 _ _ _ x y w (by omega)) rfl)) ?_
        refine rg_put (d := 9) (v := .d (.fl (.int .i64 (((k : Int) + 1))))) rfl (og rfl (op_move rfl rfl rfl)) ?_
        refine rg_done rfl ?_
        have hx : (hv (ix l k) t) = false := by unfold hv; simp only [h1, h3, h4, Bool.true_or, Bool.false_or, Bool.or_true, Bool.or_false, Bool.not_true, Bool.not_false, cond_true, cond_false, Bool.true_and, Bool.false_and, Bool.and_true, Bool.and_false] <;> rfl
        show ∃ i, _ ∧ _ ∧ Imp _ _ _ _ _
        refine ⟨k + 1, ⟨by omega, fun q h => (Nat.lt_succ_iff_lt_or_eq.1 h).elim (hq q) (fun e => by rw [e]; exact hx)⟩, by omega, imp_forget rfl ⟨rfl, rfl, rfl, rfl, (by first | rfl | exact ci (by omega) | exact ci (by simp) | exact cd (by simp) | simp), trivial⟩ trivial⟩
      · skip
        have h6 := t_dec h4
        refine rg_put (d := 22) (v := .d (.fl (.int .i64 t))) rfl (oy rfl rfl rfl h4 (op_move rfl rfl rfl)) ?_
        refine rg_put (d := 23) (v := .pt 101 1) rfl (oy rfl rfl rfl h4 (of_eff (s_field_pt rfl Tryz.underlying26 rfl ti3 rfl rfl rfl) rfl)) ?_
        refine rg_put (d := 24) (v := .d (.fl (.int .i64 ((ix l k).to)))) rfl (oy rfl rfl rfl h4 (op_load_pt rfl Tryz.underlying3 rfl rfl rfl rfl rfl)) ?_
        refine rg_put (d := 25) (v := .d (.fl (.bool ((decide (t < (ix l k).to)))))) rfl (oy rfl rfl rfl h4 (op_bin rfl rfl rfl (b_lss _ _ _ _) rfl)) ?_
        refine rg_put (d := 26) (v := .d (.fl (.bool ((decide (t < (ix l k).to)))))) rfl (og rfl (op_pick rfl rfl (by rw [h4]; rfl) rfl)) ?_
        refine rg_done rfl ?_
        refine a_cond rfl (fun h7 => ?_) (fun h7 => ?_)
        · skip
          have h8 := t_dec h7
          refine a_rseq ?_
          refine rg_put (d := 4) (v := .d (.fl (.bool true))) rfl (og rfl (op_assign rfl rfl rfl)) ?_
          refine rg_done rfl ?_
          refine a_ret ?_
          show ∃ ds, ResL _ _ _ ds ∧ RV.of ds = _
          refine ⟨[.fl (.bool true)], (.cons (.tmp rfl (.d _)) .nil), ?_⟩
          have hx : (hv (ix l k) t) = true := by unfold hv; simp only [h1, h3, h4, h7, Bool.true_or, Bool.false_or, Bool.or_true, Bool.or_false, Bool.not_true, Bool.not_false, cond_true, cond_false, Bool.true_and, Bool.false_and, Bool.and_true, Bool.and_false] <;> rfl
          rw [show anyH l t = true from anyHt (by omega) hx]; rfl
        · skip
          have h9 := f_dec h7
          refine a_skip ?_
          show A _ _ _ _ _ _ _
          refine a_region ?_
          refine rg_put (d := 27) (v := .d (.fl (.int .i64 (((k : Int) + 1))))) rfl (og rfl (op_bin rfl rfl rfl (fun x y w => b_add64 _ _ _ x y w (by omega)) rfl)) ?_
          refine rg_put (d := 9) (v := .d (.fl (.int .i64 (((k : Int) + 1))))) rfl (og rfl (op_move rfl rfl rfl)) ?_
          refine rg_done rfl ?_
          have hx : (hv (ix l k) t) = false := by unfold hv; simp only [h1, h3, h4, h7, Bool.true_or, Bool.false_or, Bool.or_true, Bool.or_false, Bool.not_true, Bool.not_false, cond_true, cond_false, Bool.true_and, Bool.false_and, Bool.and_true, Bool.and_false] <;> rfl
          show ∃ i, _ ∧ _ ∧ Imp _ _ _ _ _
          refine ⟨k + 1, ⟨by omega, fun q h => (Nat.lt_succ_iff_lt_or_eq.1 h).elim (hq q) (fun e => by rw [e]; exact hx)⟩, by omega, imp_forget rfl ⟨rfl, rfl, rfl, rfl, (by first | rfl | exact ci (by omega) | exact ci (by simp) | exact cd (by simp) | simp), trivial⟩ trivial⟩
  · skip
    have h10 := f_dec h1
    refine a_exit ?_
    show A _ _ _ _ _ _ _
    refine a_rseq ?_
    refine rg_put (d := 4) (v := .d (.fl (.bool false))) rfl (og rfl (op_assign rfl rfl rfl)) ?_
    refine rg_done rfl ?_
    refine a_ret ?_
    show ∃ ds, ResL _ _ _ ds ∧ RV.of ds = _
    refine ⟨[.fl (.bool false)], (.cons (.tmp rfl (.d _)) .nil), ?_⟩
    rw [show anyH l t = false from anyHf (fun q h => hq q (by omega))]; rfl
set_option maxHeartbeats 4000000 in
set_option maxRecDepth 100000 in
theorem prP (l : List Sty) (z : ByteArray) (t : Int) (hl : l.length ≤ 40) : Ctr Tryz.prog 8 [.sl 5 (List.map eSty l), .fl (.string z), .fl (.int .i64 t)] (.d (.fl (.int .i64 (ct l z t l.length)))) := by
  refine ctr (n := 31) (rs := #[.tmp 6]) (L := [(0, .d (.sl 5 (List.map eSty l))), (1, .d (.fl (.string z))), (2, .d (.fl (.int .i64 t)))]) Tryz.func8 rfl rfl rfl rfl rfl (fun w0 U0 => ?_)
  refine a_rseq ?_
  refine rg_put (d := 6) (v := .d (.fl (.int .i64 0))) rfl (og rfl (op_assign rfl rfl rfl)) ?_
  refine rg_done rfl ?_
  refine a_rseq ?_
  refine rg_put (d := 7) (v := .d (.fl (.int .i64 0))) rfl (og rfl (op_assign rfl rfl rfl)) ?_
  refine rg_done rfl ?_
  refine a_seq ?_
  refine a_rseq ?_
  refine rg_put (d := 10) (v := .d (.sl 5 (List.map eSty l))) rfl (og rfl (op_move rfl rfl rfl)) ?_
  refine rg_put (d := 11) (v := .d (.fl (.int .i64 (l.length : Int)))) rfl (og rfl (s_len rfl Tryz.underlying22 rfl rfl)) ?_
  refine rg_put (d := 12) (v := .d (.fl (.int .i64 0))) rfl (og rfl (op_move rfl rfl rfl)) ?_
  refine rg_done rfl ?_
  refine a_block ?_
  refine a_loop (ι := Nat) (fun k => SS [(0, .d (.sl 5 (List.map eSty l))), (1, .d (.fl (.string z))), (2, .d (.fl (.int .i64 t))), (6, .d (.fl (.int .i64 0))), (10, .d (.sl 5 (List.map eSty l))), (11, .d (.fl (.int .i64 (l.length : Int)))), (12, .d (.fl (.int .i64 (k : Int)))), (7, .d (.fl (.int .i64 (ct l z t k))))] []) (fun k => k ≤ l.length) (fun k => l.length - k) 0 (by omega) (imp_forget rfl ⟨rfl, rfl, rfl, rfl, rfl, rfl, (by first | rfl | exact ci (by omega) | exact ci (by simp) | exact cd (by simp) | simp), rfl, trivial⟩ trivial) (fun k hok => ?_)
  have hk := hok
  have hct := ct_in l z t k
  refine a_rseq ?_
  refine rg_put (d := 13) (v := .d (.fl (.bool ((decide ((k : Int) < (l.length : Int))))))) rfl (og rfl (op_bin rfl rfl rfl (b_lss _ _ _ _) rfl)) ?_
  refine rg_done rfl ?_
  refine a_seq ?_
  refine a_cond rfl (fun h1 => ?_) (fun h1 => ?_)
  · skip
    have h2 := t_dec h1
    refine a_skip ?_
    show A _ _ _ _ _ _ _
    refine a_seq ?_
    refine a_block ?_
    refine a_rseq ?_
    refine rg_put (d := 14) (v := .el ((eSty (ix l k)))) rfl (og rfl (s_index rfl Tryz.underlying22 ti28 rfl rfl (by omega) (row_at (by omega)) rfl)) ?_
    refine rg_put (d := 15) (v := .d (.ag (eSty (ix l k)))) rfl (og rfl (of_eff (s_load_els rfl Tryz.underlying28 rfl ti28 rfl rfl rfl) rfl)) ?_
    refine rg_nam (d := 9) (v := .pt 101 0) (m := 101) (nw := [(101, .bx 28 ([.fl (.string (⟨#[]⟩)), .fl (.string (⟨#[]⟩)), .fl (.string (⟨#[]⟩)), .fl (.int .i64 0), .fl (.int .i64 0)]))]) rfl (og rfl (of_eff (s_alloc 101 rfl ti28 (by kernel_rfl) rfl) rfl)) rfl ?_
    refine rg_sto (nw := [(101, .bx 28 ((eSty (ix l k))))]) rfl (og rfl (of_eff (s_store rfl rfl ti28 rfl rfl rfl rfl rfl rfl) rfl)) ?_
    refine rg_done rfl ?_
    refine a_rseq ?_
    refine rg_put (d := 16) (v := .pt 101 1) rfl (og rfl (of_eff (s_field_pt rfl Tryz.underlying28 rfl ti9 rfl rfl rfl) rfl)) ?_
    refine rg_put (d := 17) (v := .d (.fl (.string ((ix l k).zone)))) rfl (og rfl (op_load_pt rfl Tryz.underlying9 rfl rfl rfl rfl rfl)) ?_
    refine rg_put (d := 18) (v := .d (.fl (.string z))) rfl (og rfl (op_move rfl rfl rfl)) ?_
    refine rg_put (d := 19) (v := .d (.fl (.bool ((sEq ((ix l k).zone) z))))) rfl (og rfl (op_bin rfl rfl rfl (b_seq _ _ _) rfl)) ?_
    refine rg_put (d := 20) (v := .d (.fl (.bool ((sEq ((ix l k).zone) z))))) rfl (og rfl (op_move rfl rfl rfl)) ?_
    rcases fot ((sEq ((ix l k).zone) z)) with h3 | h3
    · skip
      refine rg_put (d := 21) (v := .d (.fl undef)) rfl (on rfl rfl rfl h3) ?_
      refine rg_put (d := 22) (v := .d (.fl undef)) rfl (on rfl rfl rfl h3) ?_
      refine rg_put (d := 23) (v := .d (.fl undef)) rfl (on rfl rfl rfl h3) ?_
      refine rg_put (d := 24) (v := .d (.fl undef)) rfl (on rfl rfl rfl h3) ?_
      refine rg_put (d := 25) (v := .d (.fl undef)) rfl (on rfl rfl rfl h3) ?_
      refine rg_put (d := 26) (v := .d (.fl (.bool false))) rfl (og rfl (op_pick rfl rfl (by rw [h3]; rfl) rfl)) ?_
      refine rg_done rfl ?_
      refine a_condF rfl rfl ?_
      refine a_skip ?_
      show A _ _ _ _ _ _ _
      refine a_region ?_
      refine rg_put (d := 29) (v := .d (.fl (.int .i64 (((k : Int) + 1))))) rfl (og rfl (op_bin rfl rfl rfl (fun x y w => b_add64 _ _ _ x y w (by omega)) rfl)) ?_
      refine rg_put (d := 12) (v := .d (.fl (.int .i64 (((k : Int) + 1))))) rfl (og rfl (op_move rfl rfl rfl)) ?_
      refine rg_done rfl ?_
      have hx : hs (ix l k) z t = false := by unfold hs; simp only [h1, h3, Bool.true_or, Bool.false_or, Bool.or_true, Bool.or_false, Bool.not_true, Bool.not_false, cond_true, cond_false, Bool.true_and, Bool.false_and, Bool.and_true, Bool.and_false] <;> rfl
      have hst : (ct l z t k) = ct l z t (k + 1) := (ct_n hx).symm
      show ∃ i, _ ∧ _ ∧ Imp _ _ _ _ _
      refine ⟨k + 1, (by omega), by omega, imp_forget rfl ⟨rfl, rfl, rfl, rfl, rfl, rfl, (by first | rfl | exact ci (by omega)), (ci hst), trivial⟩ trivial⟩
    · skip
      refine rg_put (d := 21) (v := .pt 101 3) rfl (oy rfl rfl rfl h3 (of_eff (s_field_pt rfl Tryz.underlying28 rfl ti26 rfl rfl rfl) rfl)) ?_
      refine rg_put (d := 22) (v := .d (.ag (eItv ((ix l k).time)))) rfl (oy rfl rfl rfl h3 (of_eff (s_load_pts rfl Tryz.underlying26 rfl ti26 rfl rfl rfl rfl) rfl)) ?_
      refine rg_put (d := 23) (v := .d (.sl 2 (List.map eItv [(ix l k).time]))) rfl (oy rfl rfl rfl h3 (of_eff (op_slices rfl Tryz.underlying53 ti26 rfl rfl rfl (by kernel_rfl) (xs := [.ag (eItv ((ix l k).time))]) rfl rfl (.cons rfl rfl (.d _) rfl rfl rfl .nil) rfl) rfl)) ?_
      refine rg_put (d := 24) (v := .d (.fl (.int .i64 t))) rfl (oy rfl rfl rfl h3 (op_move rfl rfl rfl)) ?_
      refine rg_put (d := 25) (v := .d (.fl (.bool ((hv ((ix l k).time) t))))) rfl (oy rfl rfl rfl h3 (op_call rfl Tryz.func23 nm23 rfl (.cons rfl (.d _) (.cons rfl (.d _) .nil)) ((by have h := hasC [(ix l k).time] t (by simp); simpa only [anyH, List.any_cons, List.any_nil, Bool.or_false] using h)) rfl)) ?_
      refine rg_put (d := 26) (v := .d (.fl (.bool ((hv ((ix l k).time) t))))) rfl (og rfl (op_pick rfl rfl (by rw [h3]; rfl) rfl)) ?_
      refine rg_done rfl ?_
      refine a_cond rfl (fun h4 => ?_) (fun h4 => ?_)
      · skip
        refine a_region ?_
        refine rg_put (d := 27) (v := .d (.fl (.int .i64 (ct l z t k)))) rfl (og rfl (op_move rfl rfl rfl)) ?_
        refine rg_put (d := 28) (v := .d (.fl (.int .i64 (((ct l z t k) + 1))))) rfl (og rfl (op_bin rfl rfl rfl (fun x y w => b_add64 _ _ _ x y w (by omega)) rfl)) ?_
        refine rg_put (d := 7) (v := .d (.fl (.int .i64 (((ct l z t k) + 1))))) rfl (og rfl (op_assign rfl rfl rfl)) ?_
        refine rg_done rfl ?_
        show A _ _ _ _ _ _ _
        refine a_region ?_
        refine rg_put (d := 29) (v := .d (.fl (.int .i64 (((k : Int) + 1))))) rfl (og rfl (op_bin rfl rfl rfl (fun x y w => b_add64 _ _ _ x y w (by omega)) rfl)) ?_
        refine rg_put (d := 12) (v := .d (.fl (.int .i64 (((k : Int) + 1))))) rfl (og rfl (op_move rfl rfl rfl)) ?_
        refine rg_done rfl ?_
        have hx : hs (ix l k) z t = true := by unfold hs; simp only [h1, h3, h4, Bool.true_or, Bool.false_or, Bool.or_true, Bool.or_false, Bool.not_true, Bool.not_false, cond_true, cond_false, Bool.true_and, Bool.false_and, Bool.and_true, Bool.and_false] <;> rfl
        have hst : ((ct l z t k) + 1) = ct l z t (k + 1) := (ct_y hx).symm
        show ∃ i, _ ∧ _ ∧ Imp _ _ _ _ _
        refine ⟨k + 1, (by omega), by omega, imp_forget rfl ⟨rfl, rfl, rfl, rfl, rfl, rfl, (by first | rfl | exact ci (by omega)), (ci hst), trivial⟩ trivial⟩
      · skip
        refine a_skip ?_
        show A _ _ _ _ _ _ _
        refine a_region ?_
        refine rg_put (d := 29) (v := .d (.fl (.int .i64 (((k : Int) + 1))))) rfl (og rfl (op_bin rfl rfl rfl (fun x y w => b_add64 _ _ _ x y w (by omega)) rfl)) ?_
        refine rg_put (d := 12) (v := .d (.fl (.int .i64 (((k : Int) + 1))))) rfl (og rfl (op_move rfl rfl rfl)) ?_
        refine rg_done rfl ?_
        have hx : hs (ix l k) z t = false := by unfold hs; simp only [h1, h3, h4, Bool.true_or, Bool.false_or, Bool.or_true, Bool.or_false, Bool.not_true, Bool.not_false, cond_true, cond_false, Bool.true_and, Bool.false_and, Bool.and_true, Bool.and_false] <;> rfl
        have hst : (ct l z t k) = ct l z t (k + 1) := (ct_n hx).symm
        show ∃ i, _ ∧ _ ∧ Imp _ _ _ _ _
        refine ⟨k + 1, (by omega), by omega, imp_forget rfl ⟨rfl, rfl, rfl, rfl, rfl, rfl, (by first | rfl | exact ci (by omega)), (ci hst), trivial⟩ trivial⟩
  · skip
    have h5 := f_dec h1
    refine a_exit ?_
    show A _ _ _ _ _ _ _
    refine a_rseq ?_
    refine rg_put (d := 30) (v := .d (.fl (.int .i64 (ct l z t k)))) rfl (og rfl (op_move rfl rfl rfl)) ?_
    refine rg_put (d := 6) (v := .d (.fl (.int .i64 (ct l z t k)))) rfl (og rfl (op_assign rfl rfl rfl)) ?_
    refine rg_done rfl ?_
    refine a_ret ?_
    show ∃ ds, ResL _ _ _ ds ∧ RV.of ds = _
    refine ⟨[.fl (.int .i64 (ct l z t k))], (.cons (.tmp rfl (.d _)) .nil), ?_⟩
    rw [show l.length = k from by omega]; rfl
set_option maxHeartbeats 4000000 in
set_option maxRecDepth 100000 in
theorem prR (l : List Sty) (z : ByteArray) (t : Int) (hl : l.length ≤ 40) : Ctr Tryz.prog 10 [.sl 5 (List.map eSty l), .fl (.string z), .fl (.int .i64 t)] (.d (.fl (.int .i64 (ct l z t l.length)))) := by
  refine ctr (n := 53) (rs := #[.tmp 6]) (L := [(0, .d (.sl 5 (List.map eSty l))), (1, .d (.fl (.string z))), (2, .d (.fl (.int .i64 t)))]) Tryz.func10 rfl rfl rfl rfl rfl (fun w0 U0 => ?_)
  refine a_rseq ?_
  refine rg_put (d := 6) (v := .d (.fl (.int .i64 0))) rfl (og rfl (op_assign rfl rfl rfl)) ?_
  refine rg_done rfl ?_
  refine a_rseq ?_
  refine rg_put (d := 7) (v := .d (.fl (.int .i64 0))) rfl (og rfl (op_assign rfl rfl rfl)) ?_
  refine rg_done rfl ?_
  refine a_seq ?_
  refine a_rseq ?_
  refine rg_put (d := 8) (v := .d (.fl (.int .i64 0))) rfl (og rfl (op_assign rfl rfl rfl)) ?_
  refine rg_done rfl ?_
  refine a_block ?_
  refine a_loop (ι := Nat) (fun k => SS [(0, .d (.sl 5 (List.map eSty l))), (1, .d (.fl (.string z))), (2, .d (.fl (.int .i64 t))), (6, .d (.fl (.int .i64 0))), (8, .d (.fl (.int .i64 (k : Int)))), (7, .d (.fl (.int .i64 (ct l z t k))))] []) (fun k => k ≤ l.length) (fun k => l.length - k) 0 (by omega) (imp_forget rfl ⟨rfl, rfl, rfl, rfl, (by first | rfl | exact ci (by omega) | exact ci (by simp) | exact cd (by simp) | simp), rfl, trivial⟩ trivial) (fun k hok => ?_)
  have hk := hok
  have hct := ct_in l z t k
  refine a_seq ?_
  refine a_rseq ?_
  refine rg_put (d := 9) (v := .d (.fl (.int .i64 (k : Int)))) rfl (og rfl (op_move rfl rfl rfl)) ?_
  refine rg_put (d := 10) (v := .d (.sl 5 (List.map eSty l))) rfl (og rfl (op_move rfl rfl rfl)) ?_
  refine rg_put (d := 11) (v := .d (.fl (.int .i64 (l.length : Int)))) rfl (og rfl (s_len rfl Tryz.underlying22 rfl rfl)) ?_
  refine rg_put (d := 12) (v := .d (.fl (.bool ((decide ((k : Int) < (l.length : Int))))))) rfl (og rfl (op_bin rfl rfl rfl (b_lss _ _ _ _) rfl)) ?_
  refine rg_done rfl ?_
  refine a_cond rfl (fun h1 => ?_) (fun h1 => ?_)
  · skip
    have h2 := t_dec h1
    refine a_skip ?_
    show A _ _ _ _ _ _ _
    refine a_seq ?_
    refine a_block ?_
    refine a_rseq ?_
    refine rg_put (d := 15) (v := .d (.sl 5 (List.map eSty l))) rfl (og rfl (op_move rfl rfl rfl)) ?_
    refine rg_put (d := 16) (v := .d (.fl (.int .i64 (k : Int)))) rfl (og rfl (op_move rfl rfl rfl)) ?_
    refine rg_put (d := 17) (v := .el ((eSty (ix l k)))) rfl (og rfl (s_index rfl Tryz.underlying22 ti28 rfl rfl (by omega) (row_at (by omega)) rfl)) ?_
    refine rg_put (d := 18) (v := .el ((List.drop 1 ((eSty (ix l k)))))) rfl (og rfl (of_eff (s_field_el rfl Tryz.underlying28 rfl ti9 rfl rfl rfl) rfl)) ?_
    refine rg_put (d := 19) (v := .d (.fl (.string ((ix l k).zone)))) rfl (og rfl (op_load_el rfl Tryz.underlying9 rfl rfl rfl rfl)) ?_
    refine rg_put (d := 20) (v := .d (.fl (.string z))) rfl (og rfl (op_move rfl rfl rfl)) ?_
    refine rg_put (d := 21) (v := .d (.fl (.bool ((sEq ((ix l k).zone) z))))) rfl (og rfl (op_bin rfl rfl rfl (b_seq _ _ _) rfl)) ?_
    refine rg_put (d := 22) (v := .d (.fl (.bool ((sEq ((ix l k).zone) z))))) rfl (og rfl (op_move rfl rfl rfl)) ?_
    rcases fot ((sEq ((ix l k).zone) z)) with h3 | h3
    · skip
      refine rg_put (d := 23) (v := .d (.fl undef)) rfl (on rfl rfl rfl h3) ?_
      refine rg_put (d := 24) (v := .d (.fl undef)) rfl (on rfl rfl rfl h3) ?_
      refine rg_put (d := 25) (v := .d (.fl undef)) rfl (on rfl rfl rfl h3) ?_
      refine rg_put (d := 26) (v := .d (.fl undef)) rfl (on rfl rfl rfl h3) ?_
      refine rg_put (d := 27) (v := .d (.fl undef)) rfl (on rfl rfl rfl h3) ?_
      refine rg_put (d := 28) (v := .d (.fl undef)) rfl (on rfl rfl rfl h3) ?_
      refine rg_put (d := 29) (v := .d (.fl (.bool false))) rfl (og rfl (op_pick rfl rfl (by rw [h3]; rfl) rfl)) ?_
      refine rg_put (d := 30) (v := .d (.fl (.bool false))) rfl (og rfl (op_move rfl rfl rfl)) ?_
      refine rg_put (d := 31) (v := .d (.fl undef)) rfl (on rfl rfl rfl rfl) ?_
      refine rg_put (d := 32) (v := .d (.fl undef)) rfl (on rfl rfl rfl rfl) ?_
      refine rg_put (d := 33) (v := .d (.fl undef)) rfl (on rfl rfl rfl rfl) ?_
      refine rg_put (d := 34) (v := .d (.fl undef)) rfl (on rfl rfl rfl rfl) ?_
      refine rg_put (d := 35) (v := .d (.fl undef)) rfl (on rfl rfl rfl rfl) ?_
      refine rg_put (d := 36) (v := .d (.fl undef)) rfl (on rfl rfl rfl rfl) ?_
      refine rg_put (d := 37) (v := .d (.fl undef)) rfl (on rfl rfl rfl rfl) ?_
      refine rg_put (d := 38) (v := .d (.fl undef)) rfl (on rfl rfl rfl rfl) ?_
      refine rg_put (d := 39) (v := .d (.fl (.bool false))) rfl (og rfl (op_pick rfl rfl rfl rfl)) ?_
      refine rg_put (d := 40) (v := .d (.fl (.bool false))) rfl (og rfl (op_move rfl rfl rfl)) ?_
      refine rg_put (d := 41) (v := .d (.fl undef)) rfl (on rfl rfl rfl rfl) ?_
      refine rg_put (d := 42) (v := .d (.fl undef)) rfl (on rfl rfl rfl rfl) ?_
      refine rg_put (d := 43) (v := .d (.fl undef)) rfl (on rfl rfl rfl rfl) ?_
      refine rg_put (d := 44) (v := .d (.fl undef)) rfl (on rfl rfl rfl rfl) ?_
      refine rg_put (d := 45) (v := .d (.fl undef)) rfl (on rfl rfl rfl rfl) ?_
      refine rg_put (d := 46) (v := .d (.fl undef)) rfl (on rfl rfl rfl rfl) ?_
      refine rg_put (d := 47) (v := .d (.fl undef)) rfl (on rfl rfl rfl rfl) ?_
      refine rg_put (d := 48) (v := .d (.fl undef)) rfl (on rfl rfl rfl rfl) ?_
      refine rg_put (d := 49) (v := .d (.fl (.bool false))) rfl (og rfl (op_pick rfl rfl rfl rfl)) ?_
      refine rg_done rfl ?_
      refine a_condF rfl rfl ?_
      refine a_skip ?_
      show A _ _ _ _ _ _ _
      refine a_region ?_
      refine rg_put (d := 13) (v := .d (.fl (.int .i64 (k : Int)))) rfl (og rfl (op_move rfl rfl rfl)) ?_
      refine rg_put (d := 14) (v := .d (.fl (.int .i64 (((k : Int) + 1))))) rfl (og rfl (op_bin rfl rfl rfl (fun x y w => b_add64 _ _ _ x y w (by omega)) rfl)) ?_
      refine rg_put (d := 8) (v := .d (.fl (.int .i64 (((k : Int) + 1))))) rfl (og rfl (op_assign rfl rfl rfl)) ?_
      refine rg_done rfl ?_
      have hx : hs (ix l k) z t = false := by unfold hs hv; simp only [h1, h3, Bool.true_or, Bool.false_or, Bool.or_true, Bool.or_false, Bool.not_true, Bool.not_false, cond_true, cond_false, Bool.true_and, Bool.false_and, Bool.and_true, Bool.and_false] <;> rfl
      have hst : (ct l z t k) = ct l z t (k + 1) := (ct_n hx).symm
      show ∃ i, _ ∧ _ ∧ Imp _ _ _ _ _
      refine ⟨k + 1, (by omega), by omega, imp_forget rfl ⟨rfl, rfl, rfl, rfl, (by first | rfl | exact ci (by omega)), (ci hst), trivial⟩ trivial⟩
    · skip
      refine rg_put (d := 23) (v := .d (.sl 5 (List.map eSty l))) rfl (oy rfl rfl rfl h3 (op_move rfl rfl rfl)) ?_
      refine rg_put (d := 24) (v := .d (.fl (.int .i64 (k : Int)))) rfl (oy rfl rfl rfl h3 (op_move rfl rfl rfl)) ?_
      refine rg_put (d := 25) (v := .el ((eSty (ix l k)))) rfl (oy rfl rfl rfl h3 (s_index rfl Tryz.underlying22 ti28 rfl rfl (by omega) (row_at (by omega)) rfl)) ?_
      refine rg_put (d := 26) (v := .el ((List.drop 3 ((eSty (ix l k)))))) rfl (oy rfl rfl rfl h3 (of_eff (s_field_el rfl Tryz.underlying28 rfl ti26 rfl rfl rfl) rfl)) ?_
      refine rg_put (d := 27) (v := .d (.ag (eItv ((ix l k).time)))) rfl (oy rfl rfl rfl h3 (of_eff (s_load_els rfl Tryz.underlying26 rfl ti26 rfl rfl rfl) rfl)) ?_
      refine rg_put (d := 28) (v := .d (.fl (.bool ((vl ((ix l k).time)))))) rfl (oy rfl rfl rfl h3 (op_call rfl Tryz.func24 nm24 rfl (.cons rfl (.d _) .nil) (vlR ((ix l k).time)) rfl)) ?_
      refine rg_put (d := 29) (v := .d (.fl (.bool ((vl ((ix l k).time)))))) rfl (og rfl (op_pick rfl rfl (by rw [h3]; rfl) rfl)) ?_
      refine rg_put (d := 30) (v := .d (.fl (.bool ((vl ((ix l k).time)))))) rfl (og rfl (op_move rfl rfl rfl)) ?_
      rcases fot ((vl ((ix l k).time))) with h4 | h4
      · skip
        refine rg_put (d := 31) (v := .d (.fl undef)) rfl (on rfl rfl rfl h4) ?_
        refine rg_put (d := 32) (v := .d (.fl undef)) rfl (on rfl rfl rfl h4) ?_
        refine rg_put (d := 33) (v := .d (.fl undef)) rfl (on rfl rfl rfl h4) ?_
        refine rg_put (d := 34) (v := .d (.fl undef)) rfl (on rfl rfl rfl h4) ?_
        refine rg_put (d := 35) (v := .d (.fl undef)) rfl (on rfl rfl rfl h4) ?_
        refine rg_put (d := 36) (v := .d (.fl undef)) rfl (on rfl rfl rfl h4) ?_
        refine rg_put (d := 37) (v := .d (.fl undef)) rfl (on rfl rfl rfl h4) ?_
        refine rg_put (d := 38) (v := .d (.fl undef)) rfl (on rfl rfl rfl h4) ?_
        refine rg_put (d := 39) (v := .d (.fl (.bool false))) rfl (og rfl (op_pick rfl rfl (by rw [h4]; rfl) rfl)) ?_
        refine rg_put (d := 40) (v := .d (.fl (.bool false))) rfl (og rfl (op_move rfl rfl rfl)) ?_
        refine rg_put (d := 41) (v := .d (.fl undef)) rfl (on rfl rfl rfl rfl) ?_
        refine rg_put (d := 42) (v := .d (.fl undef)) rfl (on rfl rfl rfl rfl) ?_
        refine rg_put (d := 43) (v := .d (.fl undef)) rfl (on rfl rfl rfl rfl) ?_
        refine rg_put (d := 44) (v := .d (.fl undef)) rfl (on rfl rfl rfl rfl) ?_
        refine rg_put (d := 45) (v := .d (.fl undef)) rfl (on rfl rfl rfl rfl) ?_
        refine rg_put (d := 46) (v := .d (.fl undef)) rfl (on rfl rfl rfl rfl) ?_
        refine rg_put (d := 47) (v := .d (.fl undef)) rfl (on rfl rfl rfl rfl) ?_
        refine rg_put (d := 48) (v := .d (.fl undef)) rfl (on rfl rfl rfl rfl) ?_
        refine rg_put (d := 49) (v := .d (.fl (.bool false))) rfl (og rfl (op_pick rfl rfl rfl rfl)) ?_
        refine rg_done rfl ?_
        refine a_condF rfl rfl ?_
        refine a_skip ?_
        show A _ _ _ _ _ _ _
        refine a_region ?_
        refine rg_put (d := 13) (v := .d (.fl (.int .i64 (k : Int)))) rfl (og rfl (op_move rfl rfl rfl)) ?_
        refine rg_put (d := 14) (v := .d (.fl (.int .i64 (((k : Int) + 1))))) rfl (og rfl (op_bin rfl rfl rfl (fun x y w => b_add64 _ _ _ x y w (by omega)) rfl)) ?_
        refine rg_put (d := 8) (v := .d (.fl (.int .i64 (((k : Int) + 1))))) rfl (og rfl (op_assign rfl rfl rfl)) ?_
        refine rg_done rfl ?_
        have hx : hs (ix l k) z t = false := by unfold hs hv; simp only [h1, h3, h4, Bool.true_or, Bool.false_or, Bool.or_true, Bool.or_false, Bool.not_true, Bool.not_false, cond_true, cond_false, Bool.true_and, Bool.false_and, Bool.and_true, Bool.and_false] <;> rfl
        have hst : (ct l z t k) = ct l z t (k + 1) := (ct_n hx).symm
        show ∃ i, _ ∧ _ ∧ Imp _ _ _ _ _
        refine ⟨k + 1, (by omega), by omega, imp_forget rfl ⟨rfl, rfl, rfl, rfl, (by first | rfl | exact ci (by omega)), (ci hst), trivial⟩ trivial⟩
      · skip
        refine rg_put (d := 31) (v := .d (.sl 5 (List.map eSty l))) rfl (oy rfl rfl rfl h4 (op_move rfl rfl rfl)) ?_
        refine rg_put (d := 32) (v := .d (.fl (.int .i64 (k : Int)))) rfl (oy rfl rfl rfl h4 (op_move rfl rfl rfl)) ?_
        refine rg_put (d := 33) (v := .el ((eSty (ix l k)))) rfl (oy rfl rfl rfl h4 (s_index rfl Tryz.underlying22 ti28 rfl rfl (by omega) (row_at (by omega)) rfl)) ?_
        refine rg_put (d := 34) (v := .el ((List.drop 3 ((eSty (ix l k)))))) rfl (oy rfl rfl rfl h4 (of_eff (s_field_el rfl Tryz.underlying28 rfl ti26 rfl rfl rfl) rfl)) ?_
        refine rg_put (d := 35) (v := .el ((List.drop 0 ((List.drop 3 ((eSty (ix l k)))))))) rfl (oy rfl rfl rfl h4 (of_eff (s_field_el rfl Tryz.underlying26 rfl ti3 rfl rfl rfl) rfl)) ?_
        refine rg_put (d := 36) (v := .d (.fl (.int .i64 (((ix l k).time).fr)))) rfl (oy rfl rfl rfl h4 (op_load_el rfl Tryz.underlying3 rfl rfl rfl rfl)) ?_
        refine rg_put (d := 37) (v := .d (.fl (.int .i64 t))) rfl (oy rfl rfl rfl h4 (op_move rfl rfl rfl)) ?_
        refine rg_put (d := 38) (v := .d (.fl (.bool ((decide (((ix l k).time).fr ≤ t)))))) rfl (oy rfl rfl rfl h4 (op_bin rfl rfl rfl (b_leq _ _ _ _) rfl)) ?_
        refine rg_put (d := 39) (v := .d (.fl (.bool ((decide (((ix l k).time).fr ≤ t)))))) rfl (og rfl (op_pick rfl rfl (by rw [h4]; rfl) rfl)) ?_
        refine rg_put (d := 40) (v := .d (.fl (.bool ((decide (((ix l k).time).fr ≤ t)))))) rfl (og rfl (op_move rfl rfl rfl)) ?_
        rcases fot ((decide (((ix l k).time).fr ≤ t))) with h5 | h5
        · skip
          have h6 := f_dec h5
          refine rg_put (d := 41) (v := .d (.fl undef)) rfl (on rfl rfl rfl h5) ?_
          refine rg_put (d := 42) (v := .d (.fl undef)) rfl (on rfl rfl rfl h5) ?_
          refine rg_put (d := 43) (v := .d (.fl undef)) rfl (on rfl rfl rfl h5) ?_
          refine rg_put (d := 44) (v := .d (.fl undef)) rfl (on rfl rfl rfl h5) ?_
          refine rg_put (d := 45) (v := .d (.fl undef)) rfl (on rfl rfl rfl h5) ?_
          refine rg_put (d := 46) (v := .d (.fl undef)) rfl (on rfl rfl rfl h5) ?_
          refine rg_put (d := 47) (v := .d (.fl undef)) rfl (on rfl rfl rfl h5) ?_
          refine rg_put (d := 48) (v := .d (.fl undef)) rfl (on rfl rfl rfl h5) ?_
          refine rg_put (d := 49) (v := .d (.fl (.bool false))) rfl (og rfl (op_pick rfl rfl (by rw [h5]; rfl) rfl)) ?_
          refine rg_done rfl ?_
          refine a_condF rfl rfl ?_
          refine a_skip ?_
          show A _ _ _ _ _ _ _
          refine a_region ?_
          refine rg_put (d := 13) (v := .d (.fl (.int .i64 (k : Int)))) rfl (og rfl (op_move rfl rfl rfl)) ?_
          refine rg_put (d := 14) (v := .d (.fl (.int .i64 (((k : Int) + 1))))) rfl (og rfl (op_bin rfl rfl rfl (fun x y w => b_add64 _ _ _ x y w (by omega)) rfl)) ?_
          refine rg_put (d := 8) (v := .d (.fl (.int .i64 (((k : Int) + 1))))) rfl (og rfl (op_assign rfl rfl rfl)) ?_
          refine rg_done rfl ?_
          have hx : hs (ix l k) z t = false := by unfold hs hv; simp only [h1, h3, h4, h5, Bool.true_or, Bool.false_or, Bool.or_true, Bool.or_false, Bool.not_true, Bool.not_false, cond_true, cond_false, Bool.true_and, Bool.false_and, Bool.and_true, Bool.and_false] <;> rfl
          have hst : (ct l z t k) = ct l z t (k + 1) := (ct_n hx).symm
          show ∃ i, _ ∧ _ ∧ Imp _ _ _ _ _
          refine ⟨k + 1, (by omega), by omega, imp_forget rfl ⟨rfl, rfl, rfl, rfl, (by first | rfl | exact ci (by omega)), (ci hst), trivial⟩ trivial⟩
        · skip
          have h7 := t_dec h5
          refine rg_put (d := 41) (v := .d (.fl (.int .i64 t))) rfl (oy rfl rfl rfl h5 (op_move rfl rfl rfl)) ?_
          refine rg_put (d := 42) (v := .d (.sl 5 (List.map eSty l))) rfl (oy rfl rfl rfl h5 (op_move rfl rfl rfl)) ?_
          refine rg_put (d := 43) (v := .d (.fl (.int .i64 (k : Int)))) rfl (oy rfl rfl rfl h5 (op_move rfl rfl rfl)) ?_
          refine rg_put (d := 44) (v := .el ((eSty (ix l k)))) rfl (oy rfl rfl rfl h5 (s_index rfl Tryz.underlying22 ti28 rfl rfl (by omega) (row_at (by omega)) rfl)) ?_
          refine rg_put (d := 45) (v := .el ((List.drop 3 ((eSty (ix l k)))))) rfl (oy rfl rfl rfl h5 (of_eff (s_field_el rfl Tryz.underlying28 rfl ti26 rfl rfl rfl) rfl)) ?_
          refine rg_put (d := 46) (v := .el ((List.drop 1 ((List.drop 3 ((eSty (ix l k)))))))) rfl (oy rfl rfl rfl h5 (of_eff (s_field_el rfl Tryz.underlying26 rfl ti3 rfl rfl rfl) rfl)) ?_
          refine rg_put (d := 47) (v := .d (.fl (.int .i64 (((ix l k).time).to)))) rfl (oy rfl rfl rfl h5 (op_load_el rfl Tryz.underlying3 rfl rfl rfl rfl)) ?_
          refine rg_put (d := 48) (v := .d (.fl (.bool ((decide (t < ((ix l k).time).to)))))) rfl (oy rfl rfl rfl h5 (op_bin rfl rfl rfl (b_lss _ _ _ _) rfl)) ?_
          refine rg_put (d := 49) (v := .d (.fl (.bool ((decide (t < ((ix l k).time).to)))))) rfl (og rfl (op_pick rfl rfl (by rw [h5]; rfl) rfl)) ?_
          refine rg_done rfl ?_
          refine a_cond rfl (fun h8 => ?_) (fun h8 => ?_)
          · skip
            have h9 := t_dec h8
            refine a_region ?_
            refine rg_put (d := 50) (v := .d (.fl (.int .i64 (ct l z t k)))) rfl (og rfl (op_move rfl rfl rfl)) ?_
            refine rg_put (d := 51) (v := .d (.fl (.int .i64 (((ct l z t k) + 1))))) rfl (og rfl (op_bin rfl rfl rfl (fun x y w => b_add64 _ _ _ x y w (by omega)) rfl)) ?_
            refine rg_put (d := 7) (v := .d (.fl (.int .i64 (((ct l z t k) + 1))))) rfl (og rfl (op_assign rfl rfl rfl)) ?_
            refine rg_done rfl ?_
            show A _ _ _ _ _ _ _
            refine a_region ?_
            refine rg_put (d := 13) (v := .d (.fl (.int .i64 (k : Int)))) rfl (og rfl (op_move rfl rfl rfl)) ?_
            refine rg_put (d := 14) (v := .d (.fl (.int .i64 (((k : Int) + 1))))) rfl (og rfl (op_bin rfl rfl rfl (fun x y w => b_add64 _ _ _ x y w (by omega)) rfl)) ?_
            refine rg_put (d := 8) (v := .d (.fl (.int .i64 (((k : Int) + 1))))) rfl (og rfl (op_assign rfl rfl rfl)) ?_
            refine rg_done rfl ?_
            have hx : hs (ix l k) z t = true := by unfold hs hv; simp only [h1, h3, h4, h5, h8, Bool.true_or, Bool.false_or, Bool.or_true, Bool.or_false, Bool.not_true, Bool.not_false, cond_true, cond_false, Bool.true_and, Bool.false_and, Bool.and_true, Bool.and_false] <;> rfl
            have hst : ((ct l z t k) + 1) = ct l z t (k + 1) := (ct_y hx).symm
            show ∃ i, _ ∧ _ ∧ Imp _ _ _ _ _
            refine ⟨k + 1, (by omega), by omega, imp_forget rfl ⟨rfl, rfl, rfl, rfl, (by first | rfl | exact ci (by omega)), (ci hst), trivial⟩ trivial⟩
          · skip
            have h10 := f_dec h8
            refine a_skip ?_
            show A _ _ _ _ _ _ _
            refine a_region ?_
            refine rg_put (d := 13) (v := .d (.fl (.int .i64 (k : Int)))) rfl (og rfl (op_move rfl rfl rfl)) ?_
            refine rg_put (d := 14) (v := .d (.fl (.int .i64 (((k : Int) + 1))))) rfl (og rfl (op_bin rfl rfl rfl (fun x y w => b_add64 _ _ _ x y w (by omega)) rfl)) ?_
            refine rg_put (d := 8) (v := .d (.fl (.int .i64 (((k : Int) + 1))))) rfl (og rfl (op_assign rfl rfl rfl)) ?_
            refine rg_done rfl ?_
            have hx : hs (ix l k) z t = false := by unfold hs hv; simp only [h1, h3, h4, h5, h8, Bool.true_or, Bool.false_or, Bool.or_true, Bool.or_false, Bool.not_true, Bool.not_false, cond_true, cond_false, Bool.true_and, Bool.false_and, Bool.and_true, Bool.and_false] <;> rfl
            have hst : (ct l z t k) = ct l z t (k + 1) := (ct_n hx).symm
            show ∃ i, _ ∧ _ ∧ Imp _ _ _ _ _
            refine ⟨k + 1, (by omega), by omega, imp_forget rfl ⟨rfl, rfl, rfl, rfl, (by first | rfl | exact ci (by omega)), (ci hst), trivial⟩ trivial⟩
  · skip
    have h11 := f_dec h1
    refine a_exit ?_
    show A _ _ _ _ _ _ _
    refine a_rseq ?_
    refine rg_put (d := 52) (v := .d (.fl (.int .i64 (ct l z t k)))) rfl (og rfl (op_move rfl rfl rfl)) ?_
    refine rg_put (d := 6) (v := .d (.fl (.int .i64 (ct l z t k)))) rfl (og rfl (op_assign rfl rfl rfl)) ?_
    refine rg_done rfl ?_
    refine a_ret ?_
    show ∃ ds, ResL _ _ _ ds ∧ RV.of ds = _
    refine ⟨[.fl (.int .i64 (ct l z t k))], (.cons (.tmp rfl (.d _)) .nil), ?_⟩
    rw [show l.length = k from by omega]; rfl
end Go.Proofs.YtjkfajeipbagmaaGreatDoor.Wk
