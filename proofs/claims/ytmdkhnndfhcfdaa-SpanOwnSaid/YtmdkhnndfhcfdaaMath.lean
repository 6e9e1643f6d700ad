/- Plain mathematics of intervals: valid ones, the seconds of a list, normal forms; a normal form is known by its seconds. No condition. -/
import Derived.Lib.Hide
set_option linter.unusedSimpArgs false
set_option linter.unusedVariables false
namespace Go.Proofs.Ytmdkhnndfhcfdaa.Mt
def iat (l : List Int) (i : Nat) : Int := l.getD i 0
abbrev Iv : Type := Int × Int
def mx : Int := 68719476736
def Ok (v : Iv) : Prop := 0 ≤ v.1 ∧ v.1 < v.2 ∧ v.2 ≤ 68719476736
instance (v : Iv) : Decidable (Ok v) := by unfold Ok; infer_instance
def vat (l : List Iv) (i : Nat) : Iv := l.getD i (0, 0)
/-- second t is in the set of l -/
def Hs (l : List Iv) (t : Int) : Prop := ∃ v ∈ l, Ok v ∧ v.1 ≤ t ∧ t < v.2
theorem Hs.nil (t : Int) : ¬ Hs [] t := by rintro ⟨v, hv, _⟩; simp at hv
theorem Hs.cons (v : Iv) (l : List Iv) (t : Int) : Hs (v :: l) t ↔ (Ok v ∧ v.1 ≤ t ∧ t < v.2) ∨ Hs l t := by
  constructor
  · rintro ⟨u, hu, h⟩
    rcases List.mem_cons.1 hu with rfl | hu
    · exact .inl h
    · exact .inr ⟨u, hu, h⟩
  · rintro (h | ⟨u, hu, h⟩)
    · exact ⟨v, List.mem_cons_self, h⟩
    · exact ⟨u, List.mem_cons_of_mem _ hu, h⟩
theorem Hs.app (a b : List Iv) (t : Int) : Hs (a ++ b) t ↔ Hs a t ∨ Hs b t := by
  constructor
  · rintro ⟨u, hu, h⟩
    rcases List.mem_append.1 hu with hu | hu
    · exact .inl ⟨u, hu, h⟩
    · exact .inr ⟨u, hu, h⟩
  · rintro (⟨u, hu, h⟩ | ⟨u, hu, h⟩)
    · exact ⟨u, List.mem_append_left _ hu, h⟩
    · exact ⟨u, List.mem_append_right _ hu, h⟩
theorem Hs.perm {a b : List Iv} (h : ∀ v, v ∈ a ↔ v ∈ b) (t : Int) : Hs a t ↔ Hs b t := by
  constructor
  · rintro ⟨u, hu, k⟩; exact ⟨u, (h u).1 hu, k⟩
  · rintro ⟨u, hu, k⟩; exact ⟨u, (h u).2 hu, k⟩
/-- in normal form: valid, ascending, with gaps -/
def Nf : List Iv → Prop
  | [] => True
  | v :: l => Ok v ∧ (∀ u ∈ l, v.2 < u.1) ∧ Nf l
theorem Nf.ok {l : List Iv} (h : Nf l) : ∀ v ∈ l, Ok v := by
  induction l with
  | nil => intro v hv; simp at hv
  | cons u l ih =>
    intro v hv
    rcases List.mem_cons.1 hv with rfl | hv
    · exact h.1
    · exact ih h.2.2 v hv
/-- behind a normal form's head everything lies beyond it -/
theorem Nf.far {v : Iv} {l : List Iv} (h : Nf (v :: l)) {t : Int} (ht : Hs l t) : v.2 < t := by
  obtain ⟨u, hu, _, h1, _⟩ := ht
  have := h.2.1 u hu
  omega
theorem Nf.head {v : Iv} {l : List Iv} (h : Nf (v :: l)) (t : Int) : Hs (v :: l) t ∧ t ≤ v.2 ↔ v.1 ≤ t ∧ t < v.2 := by
  rw [Hs.cons]
  constructor
  · rintro ⟨h1 | h1, h2⟩
    · exact h1.2
    · have := h.far h1; omega
  · intro h1
    exact ⟨.inl ⟨h.1, h1⟩, by omega⟩
/-- two normal forms with the same seconds are one -/
theorem Nf.one : ∀ {a b : List Iv}, Nf a → Nf b → (∀ t, Hs a t ↔ Hs b t) → a = b := by
  intro a
  induction a with
  | nil =>
    intro b _ hb h
    rcases b with _ | ⟨u, b⟩
    · rfl
    · have := (h u.1).2 ((Hs.cons _ _ _).2 (.inl ⟨hb.1, Int.le_refl _, hb.1.2.1⟩))
      exact absurd this (Hs.nil _)
  | cons v a ih =>
    intro b ha hb h
    rcases b with _ | ⟨u, b⟩
    · have := (h v.1).1 ((Hs.cons _ _ _).2 (.inl ⟨ha.1, Int.le_refl _, ha.1.2.1⟩))
      exact absurd this (Hs.nil _)
    · have o1 := ha.1
      have o2 := hb.1
      unfold Ok at o1 o2
      have lo1 : ∀ t, Hs (v :: a) t → v.1 ≤ t := by
        intro t ht
        rcases (Hs.cons _ _ _).1 ht with h1 | h1
        · exact h1.2.1
        · have := ha.far h1; omega
      have lo2 : ∀ t, Hs (u :: b) t → u.1 ≤ t := by
        intro t ht
        rcases (Hs.cons _ _ _).1 ht with h1 | h1
        · exact h1.2.1
        · have := hb.far h1; omega
      have m1 : Hs (v :: a) v.1 := (Hs.cons _ _ _).2 (.inl ⟨ha.1, Int.le_refl _, ha.1.2.1⟩)
      have m2 : Hs (u :: b) u.1 := (Hs.cons _ _ _).2 (.inl ⟨hb.1, Int.le_refl _, hb.1.2.1⟩)
      have e1 : v.1 = u.1 := by
        have := lo2 _ ((h _).1 m1)
        have := lo1 _ ((h _).2 m2)
        omega
      have n1 : ∀ {w : Iv} {l : List Iv}, Nf (w :: l) → ¬ Hs (w :: l) w.2 := by
        intro w l hw h1
        rcases (Hs.cons _ _ _).1 h1 with h2 | h2
        · omega
        · have := hw.far h2; omega
      have e2 : v.2 = u.2 := by
        rcases Int.lt_trichotomy v.2 u.2 with h1 | h1 | h1
        · exact absurd ((h _).2 ((Hs.cons _ _ _).2 (.inl ⟨hb.1, by omega, h1⟩))) (n1 ha)
        · exact h1
        · exact absurd ((h _).1 ((Hs.cons _ _ _).2 (.inl ⟨ha.1, by omega, h1⟩))) (n1 hb)
      have e : v = u := Prod.ext e1 e2
      subst e
      congr 1
      refine ih ha.2.2 hb.2.2 fun t => ?_
      constructor
      · intro ht
        have h1 := ha.far ht
        rcases (Hs.cons _ _ _).1 ((h t).1 ((Hs.cons _ _ _).2 (.inr ht))) with h2 | h2
        · omega
        · exact h2
      · intro ht
        have h1 := hb.far ht
        rcases (Hs.cons _ _ _).1 ((h t).2 ((Hs.cons _ _ _).2 (.inr ht))) with h2 | h2
        · omega
        · exact h2
/-- one more interval behind a normal form -/
theorem Nf.snoc {l : List Iv} {v : Iv} (h : Nf l) (hv : Ok v) (hg : ∀ u ∈ l, u.2 < v.1) : Nf (l ++ [v]) := by
  induction l with
  | nil => exact ⟨hv, by simp, trivial⟩
  | cons u l ih =>
    refine ⟨h.1, fun x hx => ?_, ih h.2.2 (fun y hy => hg y (List.mem_cons_of_mem _ hy))⟩
    rcases List.mem_append.1 hx with hx | hx
    · exact h.2.1 x hx
    · have : x = v := by simpa using hx
      rw [this]; exact hg u List.mem_cons_self
theorem Nf.init {l : List Iv} {v : Iv} (h : Nf (l ++ [v])) : Nf l ∧ Ok v ∧ ∀ u ∈ l, u.2 < v.1 := by
  induction l with
  | nil => exact ⟨trivial, h.1, by simp⟩
  | cons u l ih =>
    obtain ⟨h1, h2, h3⟩ := ih h.2.2
    refine ⟨⟨h.1, fun x hx => h.2.1 x (List.mem_append_left _ hx), h1⟩, h2, fun x hx => ?_⟩
    rcases List.mem_cons.1 hx with rfl | hx
    · exact h.2.1 v (by simp)
    · exact h3 x hx
end Go.Proofs.Ytmdkhnndfhcfdaa.Mt
