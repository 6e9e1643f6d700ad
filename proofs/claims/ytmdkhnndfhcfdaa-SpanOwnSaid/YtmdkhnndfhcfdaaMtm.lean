/- Plain mathematics of the intersection of two normal forms. No condition. -/
import Derived.Test.YtmdkhnndfhcfdaaNo
set_option linter.unusedSimpArgs false
set_option linter.unusedVariables false
namespace Go.Proofs.Ytmdkhnndfhcfdaa.Mt
theorem Hs.single (v : Iv) (t : Int) : Hs [v] t ↔ Ok v ∧ v.1 ≤ t ∧ t < v.2 := by
  rw [Hs.cons]
  exact ⟨fun h => h.elim id (fun h => absurd h (Hs.nil t)), .inl⟩
theorem drop_next {l : List Iv} {i : Nat} (h : i < l.length) : l.drop i = vat l i :: l.drop (i + 1) := by
  unfold vat
  rw [List.getD_eq_getElem?_getD, List.getElem?_eq_getElem h]
  exact List.drop_eq_getElem_cons h
theorem Nf.drop {l : List Iv} (h : Nf l) : ∀ i, Nf (l.drop i) := by
  induction l with
  | nil => intro i; simp [Nf]
  | cons v l ih =>
    intro i
    rcases i with _ | i
    · exact h
    · exact ih h.2.2 i
structure Mt (A B : List Iv) (i j : Nat) (R : List Iv) : Prop where
  nf : Nf R
  hs : ∀ t, (Hs A t ∧ Hs B t) ↔ Hs R t ∨ (Hs (A.drop i) t ∧ Hs (B.drop j) t)
  far : ∀ u ∈ R, ∀ t, Hs (A.drop i) t → Hs (B.drop j) t → u.2 < t
def lenv : Go.Value → Nat
  | .slice _ n _ => n
  | _ => 0
theorem Mt.start (A B : List Iv) : Mt A B 0 0 [] := ⟨trivial, fun t => ⟨fun h => .inr h, fun h => h.elim (fun h => absurd h (Hs.nil t)) id⟩, fun u h => by simp at h⟩
theorem Mt.done {A B R : List Iv} {i j : Nat} (h : Mt A B i j R) (hd : A.length ≤ i ∨ B.length ≤ j) (t : Int) : Hs R t ↔ Hs A t ∧ Hs B t := by
  rw [h.hs t]
  constructor
  · exact .inl
  · rintro (h1 | ⟨h1, h2⟩)
    · exact h1
    · rcases hd with hd | hd
      · rw [List.drop_eq_nil_of_le hd] at h1; exact absurd h1 (Hs.nil t)
      · rw [List.drop_eq_nil_of_le hd] at h2; exact absurd h2 (Hs.nil t)
section
variable {A B R : List Iv} {i j : Nat} {x y : Int}
/-- the piece of both heads, if there is one -/
theorem Mt.piece (hA : Nf A) (hB : Nf B) (h : Mt A B i j R) (hi : i < A.length) (hj : j < B.length) (hx : x = max (vat A i).1 (vat B j).1) (hy : y = min (vat A i).2 (vat B j).2) : Nf (if x < y then R ++ [(x, y)] else R) ∧ (∀ t, Hs (if x < y then R ++ [(x, y)] else R) t ↔ Hs R t ∨ (x ≤ t ∧ t < y)) ∧ (∀ u ∈ (if x < y then R ++ [(x, y)] else R), u ∈ R ∨ u = (x, y)) := by
  have oa := hA.ok _ (vat_mem hi)
  have ob := hB.ok _ (vat_mem hj)
  unfold Ok at oa ob
  by_cases hxy : x < y
  · rw [if_pos hxy]
    have ok : Ok (x, y) := by unfold Ok; simp only; omega
    refine ⟨h.nf.snoc ok fun u hu => ?_, fun t => ?_, fun u hu => ?_⟩
    · refine h.far u hu x ?_ ?_
      · rw [drop_next hi, Hs.cons]; exact .inl ⟨oa, by omega, by omega⟩
      · rw [drop_next hj, Hs.cons]; exact .inl ⟨ob, by omega, by omega⟩
    · rw [Hs.app, Hs.single]
      exact ⟨fun h => h.elim .inl (fun h => .inr h.2), fun h => h.elim .inl (fun h => .inr ⟨ok, h⟩)⟩
    · rcases List.mem_append.1 hu with hu | hu
      · exact .inl hu
      · exact .inr (by simpa using hu)
  · rw [if_neg hxy]
    exact ⟨h.nf, fun t => ⟨.inl, fun h => h.elim id (fun h => by omega)⟩, fun u hu => .inl hu⟩
theorem Mt.left (hA : Nf A) (hB : Nf B) (h : Mt A B i j R) (hi : i < A.length) (hj : j < B.length) (hx : x = max (vat A i).1 (vat B j).1) (hy : y = min (vat A i).2 (vat B j).2) (hlt : (vat A i).2 < (vat B j).2) : Mt A B (i + 1) j (if x < y then R ++ [(x, y)] else R) := by
  obtain ⟨p1, p2, p3⟩ := h.piece hA hB hi hj hx hy
  have oa := hA.ok _ (vat_mem hi)
  have ob := hB.ok _ (vat_mem hj)
  have na := hA.drop i
  have nb := hB.drop j
  rw [drop_next hi] at na
  rw [drop_next hj] at nb
  refine ⟨p1, fun t => ?_, fun u hu t h1 h2 => ?_⟩
  · rw [h.hs t, p2 t, drop_next hi, drop_next hj]
    constructor
    · rintro (h1 | ⟨h1, h2⟩)
      · exact .inl (.inl h1)
      · rcases (Hs.cons _ _ _).1 h1 with h3 | h3
        · rcases (Hs.cons _ _ _).1 h2 with h4 | h4
          · exact .inl (.inr (by omega))
          · have := nb.far h4; omega
        · exact .inr ⟨h3, h2⟩
    · rintro ((h1 | h1) | ⟨h1, h2⟩)
      · exact .inl h1
      · exact .inr ⟨(Hs.cons _ _ _).2 (.inl ⟨oa, by omega⟩), (Hs.cons _ _ _).2 (.inl ⟨ob, by omega⟩)⟩
      · exact .inr ⟨(Hs.cons _ _ _).2 (.inr h1), h2⟩
  · have f1 := na.far h1
    rcases p3 u hu with hu | rfl
    · refine h.far u hu t ?_ h2
      rw [drop_next hi]; exact (Hs.cons _ _ _).2 (.inr h1)
    · simp only; omega
theorem Mt.right (hA : Nf A) (hB : Nf B) (h : Mt A B i j R) (hi : i < A.length) (hj : j < B.length) (hx : x = max (vat A i).1 (vat B j).1) (hy : y = min (vat A i).2 (vat B j).2) (hlt : ¬ (vat A i).2 < (vat B j).2) : Mt A B i (j + 1) (if x < y then R ++ [(x, y)] else R) := by
  obtain ⟨p1, p2, p3⟩ := h.piece hA hB hi hj hx hy
  have oa := hA.ok _ (vat_mem hi)
  have ob := hB.ok _ (vat_mem hj)
  have na := hA.drop i
  have nb := hB.drop j
  rw [drop_next hi] at na
  rw [drop_next hj] at nb
  refine ⟨p1, fun t => ?_, fun u hu t h1 h2 => ?_⟩
  · rw [h.hs t, p2 t, drop_next hi, drop_next hj]
    constructor
    · rintro (h1 | ⟨h1, h2⟩)
      · exact .inl (.inl h1)
      · rcases (Hs.cons _ _ _).1 h2 with h4 | h4
        · rcases (Hs.cons _ _ _).1 h1 with h3 | h3
          · exact .inl (.inr (by omega))
          · have := na.far h3; omega
        · exact .inr ⟨h1, h4⟩
    · rintro ((h1 | h1) | ⟨h1, h2⟩)
      · exact .inl h1
      · exact .inr ⟨(Hs.cons _ _ _).2 (.inl ⟨oa, by omega⟩), (Hs.cons _ _ _).2 (.inl ⟨ob, by omega⟩)⟩
      · exact .inr ⟨h1, (Hs.cons _ _ _).2 (.inr h2)⟩
  · have f1 := nb.far h2
    rcases p3 u hu with hu | rfl
    · refine h.far u hu t h1 ?_
      rw [drop_next hj]; exact (Hs.cons _ _ _).2 (.inr h2)
    · simp only; omega
end
end Go.Proofs.Ytmdkhnndfhcfdaa.Mt
