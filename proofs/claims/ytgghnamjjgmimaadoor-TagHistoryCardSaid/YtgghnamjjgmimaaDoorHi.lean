/- Plain mathematics of histories: in an ordered list the state of a transponder at a time is that of the last entry. No condition. -/
import Derived.Test.YtgghnamjjgmimaaDoorAl
set_option linter.unusedSimpArgs false
set_option linter.unusedVariables false
namespace Go.Proofs.YtgghnamjjgmimaaDoor.Mt
open Go
theorem less_trans : ∀ a b c : List UInt8, Op.bytesLess a b = true → Op.bytesLess b c = true → Op.bytesLess a c = true := by
  intro a
  induction a with
  | nil =>
    intro b c h1 h2
    cases c with
    | nil => cases b <;> simp [Op.bytesLess] at h2
    | cons z c => rfl
  | cons x a ih =>
    intro b c h1 h2
    cases b with
    | nil => simp [Op.bytesLess] at h1
    | cons y b =>
      cases c with
      | nil => simp [Op.bytesLess] at h2
      | cons z c =>
        simp only [Op.bytesLess, Bool.or_eq_true, decide_eq_true_eq, Bool.and_eq_true, beq_iff_eq] at h1 h2 ⊢
        rcases h1 with h1 | ⟨e1, h1⟩
        · rcases h2 with h2 | ⟨e2, h2⟩
          · left; rw [UInt8.lt_iff_toNat_lt] at *; omega
          · left; rw [← e2]; exact h1
        · rcases h2 with h2 | ⟨e2, h2⟩
          · left; rw [e1]; exact h2
          · right; exact ⟨e1.trans e2, ih b c h1 h2⟩
theorem bf_ls {p x : Ts} (h : bf p x = true) (he : eqb p.1 x.1 = false) : ls p.1 x.1 = true := by unfold bf at h; rw [he] at h; simpa using h
theorem bf_at {p x : Ts} (h : bf p x = true) (he : eqb p.1 x.1 = true) : p.2.1 < x.2.1 := by unfold bf at h; rw [he] at h; simpa using h
theorem bf_trans {a b c : Ts} (h1 : bf a b = true) (h2 : bf b c = true) : bf a c = true := by
  cases e1 : eqb a.1 b.1
  · have l1 := bf_ls h1 e1
    cases e2 : eqb b.1 c.1
    · have l2 := bf_ls h2 e2
      have l3 : ls a.1 c.1 = true := less_trans _ _ _ l1 l2
      have e3 : eqb a.1 c.1 = false := by
        cases e : eqb a.1 c.1
        · rfl
        · have := ls_self e; rw [l3] at this; cases this
      unfold bf
      rw [e3]; simpa using l3
    · have e := eqb_iff.1 e2
      have e3 : eqb a.1 c.1 = false := by rw [← e]; exact e1
      unfold bf
      rw [e3]
      have : ls a.1 c.1 = true := by rw [← e]; exact l1
      simpa using this
  · have e := eqb_iff.1 e1
    have t1 := bf_at h1 e1
    cases e2 : eqb b.1 c.1
    · have l2 := bf_ls h2 e2
      have e3 : eqb a.1 c.1 = false := by rw [e]; exact e2
      unfold bf
      rw [e3]
      have : ls a.1 c.1 = true := by rw [e]; exact l2
      simpa using this
    · have t2 := bf_at h2 e2
      have e3 : eqb a.1 c.1 = true := by rw [e]; exact e2
      unfold bf
      rw [e3]
      simp
      omega
/-- what is known of a list without an error -/
structure Okl (l : List Ts) (n : Nat) : Prop where
  tag : ∀ i, i < n → ck (tat l i).1 = 0
  time : ∀ i, i < n → 0 ≤ (tat l i).2.1 ∧ (tat l i).2.1 < 68719476736
  next : ∀ i, i + 1 < n → bf (tat l i) (tat l (i + 1)) = true
theorem okl {l : List Ts} {n : Nat} (h : ∀ i, i < n → er l i = 0) : Okl l n := by
  have key : ∀ i, i < n → ck (tat l i).1 = 0 ∧ (0 ≤ (tat l i).2.1 ∧ (tat l i).2.1 < 68719476736) ∧ (0 < i → bf (tat l (i - 1)) (tat l i) = true) := by
    intro i hi
    have := h i hi
    unfold er at this
    split at this
    · omega
    · split at this
      · omega
      · split at this
        · omega
        · split at this
          · omega
          · next h1 h2 h3 h4 =>
            refine ⟨by simpa using h1, by omega, fun h0 => ?_⟩
            cases e : bf (tat l (i - 1)) (tat l i)
            · exact absurd ⟨h0, e⟩ h4
            · rfl
  exact ⟨fun i hi => (key i hi).1, fun i hi => (key i hi).2.1, fun i hi => by have := (key (i + 1) hi).2.2 (by omega); rwa [Nat.add_sub_cancel] at this⟩
section
variable {l : List Ts} {n : Nat}
theorem Okl.far (h : Okl l n) : ∀ d i, i + d + 1 < n → bf (tat l i) (tat l (i + d + 1)) = true := by
  intro d
  induction d with
  | zero => intro i hi; exact h.next i hi
  | succ d ih => intro i hi; exact bf_trans (ih i (by omega)) (h.next (i + d + 1) (by omega))
theorem Okl.lt (h : Okl l n) {i j : Nat} (hij : i < j) (hj : j < n) : bf (tat l i) (tat l j) = true := by
  have := h.far (j - i - 1) i (by omega)
  rwa [show i + (j - i - 1) + 1 = j by omega] at this
/-- does the entry at j speak of s at t? -/
def Mj (l : List Ts) (s : ByteArray) (t : Int) (j : Nat) : Prop := eqb (tat l j).1 s = true ∧ (tat l j).2.1 ≤ t
theorem stk_last {s : ByteArray} {t : Int} {j : Nat} (hm : Mj l s t j) : ∀ d, (∀ k, j < k → k < j + 1 + d → ¬ Mj l s t k) → stk l s t (j + 1 + d) = (tat l j).2.2 := by
  intro d
  induction d with
  | zero => intro _; exact stk_yes hm.1 hm.2
  | succ d ih =>
    intro h
    have e := stk_no (l := l) (s := s) (t := t) (k := j + 1 + d) (h (j + 1 + d) (by omega) (by omega))
    rw [← Nat.add_assoc, e]
    exact ih (fun k h1 h2 => h k h1 (by omega))
theorem stk_none {s : ByteArray} {t : Int} : ∀ k, (∀ j, j < k → ¬ Mj l s t j) → stk l s t k = 1 := by
  intro k
  induction k with
  | zero => intro _; rfl
  | succ k ih =>
    intro h
    rw [stk_no (h k (by omega))]
    exact ih (fun j hj => h j (by omega))
theorem st_last {s : ByteArray} {t : Int} {j : Nat} (hl : l.length = n) (hc : ck s = 0) (hj : j < n) (hm : Mj l s t j) (h : ∀ k, j < k → k < n → ¬ Mj l s t k) : stS l s t = (tat l j).2.2 := by
  unfold stS
  rw [if_pos hc, hl]
  have := stk_last hm (n - (j + 1)) (fun k h1 h2 => h k h1 (by omega))
  rwa [show j + 1 + (n - (j + 1)) = n by omega] at this
theorem st_none {s : ByteArray} {t : Int} (hl : l.length = n) (hc : ck s = 0) (h : ∀ k, k < n → ¬ Mj l s t k) : stS l s t = 1 := by
  unfold stS
  rw [if_pos hc, hl]
  exact stk_none n h
variable {i : Nat}
/-- an entry of the same transponder behind place i begins later -/
theorem Okl.later (h : Okl l n) {k : Nat} (hk : i < k) (hn : k < n) (he : eqb (tat l k).1 (tat l i).1 = true) : (tat l i).2.1 < (tat l k).2.1 := bf_at (h.lt hk hn) (by rw [eqb_symm]; exact he)
theorem Okl.at_from (h : Okl l n) (hl : l.length = n) (hi : i < n) : stS l (tat l i).1 (tat l i).2.1 = (tat l i).2.2 :=
  st_last hl (h.tag i hi) hi ⟨eqb_self _, Int.le_refl _⟩ (fun k h1 h2 hm => by have := h.later h1 h2 hm.1; have := hm.2; omega)
/-- the next entry is of another transponder, or there is none: none follows -/
theorem Okl.none_behind (h : Okl l n) (hx : i + 1 = n ∨ (i + 1 < n ∧ eqb (tat l (i + 1)).1 (tat l i).1 = false)) {k : Nat} (hk : i < k) (hn : k < n) : eqb (tat l k).1 (tat l i).1 = false := by
  rcases hx with hx | ⟨h1, h2⟩
  · omega
  · have l1 : ls (tat l i).1 (tat l (i + 1)).1 = true := bf_ls (h.next i h1) (by rw [eqb_symm]; exact h2)
    cases e : eqb (tat l k).1 (tat l i).1
    · rfl
    · rcases Nat.lt_or_ge (i + 1) k with h3 | h3
      · have b1 := h.lt h3 hn
        have e3 := eqb_iff.1 e
        cases e2 : eqb (tat l (i + 1)).1 (tat l k).1
        · have l2 := bf_ls b1 e2
          rw [e3] at l2
          have := less_trans _ _ _ l1 l2
          rw [less_self] at this
          cases this
        · have e4 := eqb_iff.1 e2
          rw [e4, e] at h2
          cases h2
      · obtain rfl : k = i + 1 := by omega
        rw [e] at h2; cases h2
theorem Okl.end_last (h : Okl l n) (hl : l.length = n) (hi : i < n) (hx : i + 1 = n ∨ (i + 1 < n ∧ eqb (tat l (i + 1)).1 (tat l i).1 = false)) : stS l (tat l i).1 68719476735 = (tat l i).2.2 :=
  st_last hl (h.tag i hi) hi ⟨eqb_self _, by have := (h.time i hi).2; omega⟩ (fun k h1 h2 hm => by have h3 := hm.1; rw [h.none_behind hx h1 h2] at h3; cases h3)
theorem Okl.end_next (h : Okl l n) (hl : l.length = n) (hi : i + 1 < n) (he : eqb (tat l (i + 1)).1 (tat l i).1 = true) : stS l (tat l i).1 ((tat l (i + 1)).2.1 - 1) = (tat l i).2.2 := by
  refine st_last hl (h.tag i (by omega)) (by omega) ⟨eqb_self _, by have := h.later (i := i) (k := i + 1) (by omega) hi he; omega⟩ (fun k h1 h2 hm => ?_)
  have h3 := hm.2
  rcases Nat.lt_or_ge (i + 1) k with h4 | h4
  · have := h.later (i := i + 1) h4 h2 (by rw [eqb_iff.1 he]; exact hm.1)
    omega
  · obtain rfl : k = i + 1 := by omega
    omega
theorem Okl.before_same (h : Okl l n) (hl : l.length = n) (hi : i + 1 < n) (he : eqb (tat l i).1 (tat l (i + 1)).1 = true) : stS l (tat l (i + 1)).1 ((tat l (i + 1)).2.1 - 1) = (tat l i).2.2 := by
  have ht := bf_at (h.next i hi) he
  refine st_last hl (h.tag (i + 1) hi) (by omega) ⟨he, by omega⟩ (fun k h1 h2 hm => ?_)
  have h3 := hm.2
  rcases Nat.lt_or_ge (i + 1) k with h4 | h4
  · have := h.later (i := i + 1) h4 h2 hm.1
    omega
  · obtain rfl : k = i + 1 := by omega
    omega
theorem Okl.before_none (h : Okl l n) (hl : l.length = n) (hi : i < n) (hx : i = 0 ∨ (0 < i ∧ eqb (tat l (i - 1)).1 (tat l i).1 = false)) : stS l (tat l i).1 ((tat l i).2.1 - 1) = 1 := by
  refine st_none hl (h.tag i hi) (fun k hk hm => ?_)
  have h3 := hm.2
  rcases Nat.lt_trichotomy k i with h4 | h4 | h4
  · rcases hx with hx | ⟨h5, h6⟩
    · omega
    · have l1 : ls (tat l (i - 1)).1 (tat l i).1 = true := bf_ls (by have := h.next (i - 1) (by omega); rwa [show i - 1 + 1 = i by omega] at this) h6
      have e3 := eqb_iff.1 hm.1
      rcases Nat.lt_or_ge k (i - 1) with h7 | h7
      · have b1 := h.lt h7 (by omega : i - 1 < n)
        cases e2 : eqb (tat l k).1 (tat l (i - 1)).1
        · have l2 := bf_ls b1 e2
          have := less_trans _ _ _ l1 (by have := l2; rw [e3] at this; exact this)
          rw [less_self] at this
          cases this
        · rw [← eqb_iff.1 e2, hm.1] at h6
          cases h6
      · obtain rfl : k = i - 1 := by omega
        rw [hm.1] at h6; cases h6
  · subst h4; omega
  · have := h.later h4 hk hm.1
    omega
end
end Go.Proofs.YtgghnamjjgmimaaDoor.Mt
