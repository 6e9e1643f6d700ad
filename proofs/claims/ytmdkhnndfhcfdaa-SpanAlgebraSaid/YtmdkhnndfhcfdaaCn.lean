/- Plain mathematics of how many seconds a set has. No condition. -/
import Derived.Test.YtmdkhnndfhcfdaaCv
set_option linter.unusedSimpArgs false
set_option linter.unusedVariables false
namespace Go.Proofs.Ytmdkhnndfhcfdaa.Mt
/-- how many of the first N seconds are in f -/
def cnt (f : Int → Bool) : Nat → Int
  | 0 => 0
  | N + 1 => cnt f N + (if f (N : Int) = true then 1 else 0)
theorem cnt_in (f : Int → Bool) : ∀ N, 0 ≤ cnt f N ∧ cnt f N ≤ (N : Int) := by
  intro N
  induction N with
  | zero => simp [cnt]
  | succ N ih =>
    rw [cnt]
    split <;> omega
theorem cnt_two (f g : Int → Bool) : ∀ N, cnt f N + cnt g N = cnt (fun t => f t || g t) N + cnt (fun t => f t && g t) N := by
  intro N
  induction N with
  | zero => rfl
  | succ N ih =>
    simp only [cnt]
    by_cases p : f (N : Int) = true <;> by_cases q : g (N : Int) = true <;> simp [p, q] <;> omega
theorem cnt_rest (f g : Int → Bool) : ∀ N, cnt (fun t => f t && !g t) N + cnt (fun t => f t && g t) N = cnt f N := by
  intro N
  induction N with
  | zero => rfl
  | succ N ih =>
    simp only [cnt]
    by_cases p : f (N : Int) = true <;> by_cases q : g (N : Int) = true <;> simp [p, q] <;> omega
theorem cnt_none : ∀ N, cnt (fun _ => false) N = 0 := by
  intro N
  induction N with
  | zero => rfl
  | succ N ih => simp only [cnt, ih]; rfl
/-- an interval's seconds -/
theorem cnt_iv (a b : Int) (ha : 0 ≤ a) (hb : a ≤ b) : ∀ N : Nat, cnt (fun t => decide (a ≤ t ∧ t < b)) N = min b (N : Int) - min a (N : Int) := by
  intro N
  induction N with
  | zero => simp only [cnt]; omega
  | succ N ih =>
    rw [cnt, ih]
    by_cases h : a ≤ (N : Int) ∧ (N : Int) < b
    · rw [if_pos (decide_eq_true h)]; omega
    · rw [if_neg (by simpa using h)]; omega
theorem cnt_ext {f g : Int → Bool} (h : ∀ t, f t = g t) (N : Nat) : cnt f N = cnt g N := by
  have : f = g := funext h
  rw [this]
theorem bool_iff {a b : Bool} (h : a = true ↔ b = true) : a = b := by cases a <;> cases b <;> simp_all
/-- the length of a normal form is how many seconds it has -/
theorem len_cons (v : Iv) (l : List Iv) : ∀ k, lenk (v :: l) (k + 1) = (v.2 - v.1) + lenk l k := by
  intro k
  induction k with
  | zero => simp [lenk, vat]
  | succ k ih =>
    rw [lenk, ih, lenk]
    have e : vat (v :: l) (k + 1) = vat l k := by simp [vat]
    rw [e]; omega
theorem len_cnt {l : List Iv} (h : Nf l) (N : Nat) (hN : (N : Int) = 68719476736) : lenk l l.length = cnt (hsB l) N := by
  induction l with
  | nil =>
    have e : ∀ t, hsB [] t = false := fun t => rfl
    rw [cnt_ext e, cnt_none]; rfl
  | cons v l ih =>
    have o := h.1
    unfold Ok at o
    have e : ∀ t, hsB (v :: l) t = (decide (v.1 ≤ t ∧ t < v.2) || hsB l t) := fun t => bool_iff (by
      rw [hsB_iff, Hs.cons, Bool.or_eq_true, hsB_iff, decide_eq_true_eq]
      exact ⟨fun k => k.elim (fun k => .inl k.2) .inr, fun k => k.elim (fun k => .inl ⟨h.1, k⟩) .inr⟩)
    have z : ∀ t, (decide (v.1 ≤ t ∧ t < v.2) && hsB l t) = false := fun t => by
      cases h1 : hsB l t
      · simp
      · have := h.far ((hsB_iff _ _).1 h1)
        simp; omega
    have t2 := cnt_two (fun t => decide (v.1 ≤ t ∧ t < v.2)) (hsB l) N
    rw [cnt_ext z, cnt_none] at t2
    have i := cnt_iv v.1 v.2 o.1 (by omega) N
    rw [List.length_cons, len_cons, ih h.2.2, cnt_ext e, ← Int.add_zero (cnt (fun t => decide (v.1 ≤ t ∧ t < v.2) || hsB l t) N), ← t2, i]
    omega
theorem big_is : ∃ N : Nat, (N : Int) = 68719476736 := ⟨68719476736, rfl⟩
/-- how many seconds a set has -/
noncomputable def secs (l : List Iv) : Int := cnt (hsB l) (Classical.choose big_is)
theorem secs_in (l : List Iv) : 0 ≤ secs l ∧ secs l ≤ 68719476736 := by
  have := cnt_in (hsB l) (Classical.choose big_is)
  rw [Classical.choose_spec big_is] at this
  exact this
theorem secs_of {l R : List Iv} (h : Nf R) (hs : ∀ t, Hs R t ↔ Hs l t) : lenk R R.length = secs l := by
  unfold secs
  rw [len_cnt h _ (Classical.choose_spec big_is)]
  exact cnt_ext (fun t => bool_iff (by rw [hsB_iff, hsB_iff]; exact hs t)) _
theorem secs_both {a b u m : List Iv} (hu : ∀ t, Hs u t ↔ Hs a t ∨ Hs b t) (hm : ∀ t, Hs m t ↔ Hs a t ∧ Hs b t) : secs a + secs b = secs u + secs m := by
  unfold secs
  rw [cnt_two, cnt_ext (f := hsB u) (fun t => bool_iff (b := hsB a t || hsB b t) (by rw [hsB_iff, Bool.or_eq_true, hsB_iff, hsB_iff]; exact hu t)), cnt_ext (f := hsB m) (fun t => bool_iff (b := hsB a t && hsB b t) (by rw [hsB_iff, Bool.and_eq_true, hsB_iff, hsB_iff]; exact hm t))]
theorem secs_less {a b d m : List Iv} (hd : ∀ t, Hs d t ↔ Hs a t ∧ ¬ Hs b t) (hm : ∀ t, Hs m t ↔ Hs a t ∧ Hs b t) : secs d + secs m = secs a := by
  unfold secs
  rw [← cnt_rest (hsB a) (hsB b), cnt_ext (f := hsB d) (fun t => bool_iff (b := hsB a t && !hsB b t) (by rw [hsB_iff, Bool.and_eq_true, hsB_iff, Bool.not_eq_true', ← Bool.not_eq_true, hsB_iff]; exact hd t)), cnt_ext (f := hsB m) (fun t => bool_iff (b := hsB a t && hsB b t) (by rw [hsB_iff, Bool.and_eq_true, hsB_iff, hsB_iff]; exact hm t))]
end Go.Proofs.Ytmdkhnndfhcfdaa.Mt
namespace Go.Proofs.Ytmdkhnndfhcfdaa.Wk
open Go.RowKit
open Go.Proofs.Ytmdkhnndfhcfdaa.Mt
theorem secs22 (A : Option Addr) (n c : Nat) (a : List Iv) (w : World) (h : Rp w w.heap.size A n a) (hn : n ≤ 1000) : Calls Try.prog 22 #[.slice A n c] w fun e w' => e = .returned (.int .i64 (secs a)) ∧ Below w.heap.size w w' :=
  (length22 A n c a w h hn).mono fun e w' ⟨R, h1, h2, h3, h4⟩ => ⟨by rw [h3, secs_of h1 h2], h4⟩
end Go.Proofs.Ytmdkhnndfhcfdaa.Wk
