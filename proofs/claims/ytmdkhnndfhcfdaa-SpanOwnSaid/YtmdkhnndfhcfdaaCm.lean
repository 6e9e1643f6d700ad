/- Plain mathematics of a combination of two sets, read off at its ends. No condition. -/
import Derived.Test.YtmdkhnndfhcfdaaMe
import Derived.Test.YtmdkhnndfhcfdaaEn
set_option linter.unusedSimpArgs false
set_option linter.unusedVariables false
namespace Go.Proofs.Ytmdkhnndfhcfdaa.Mt
theorem Asc.lt {p : List Int} (h : Asc p) {i j : Nat} (hij : i < j) (hj : j < p.length) : iat p i < iat p j := by
  have := List.pairwise_iff_getElem.1 h i j (by omega) hj hij
  unfold iat
  rw [List.getD_eq_getElem?_getD, List.getD_eq_getElem?_getD, List.getElem?_eq_getElem hj, List.getElem?_eq_getElem (by omega : i < p.length)]
  exact this
theorem Asc.le {p : List Int} (h : Asc p) {i j : Nat} (hij : i ≤ j) (hj : j < p.length) : iat p i ≤ iat p j := by
  rcases Nat.lt_or_ge i j with h1 | h1
  · exact Int.le_of_lt (h.lt h1 hj)
  · obtain rfl : i = j := by omega
    exact Int.le_refl _
theorem Asc.cut {p : List Int} (h : Asc p) {i : Nat} (hi : i + 1 < p.length) {x : Int} (hx : x ∈ p) : x ≤ iat p i ∨ iat p (i + 1) ≤ x := by
  obtain ⟨j, hj, rfl⟩ := mem_iat hx
  rcases Nat.lt_or_ge i j with h1 | h1
  · exact .inr (h.le h1 hj)
  · exact .inl (h.le h1 (by omega))
theorem has_uni {p : List Int} {l : List Iv} (h : Asc p) (he : ∀ x, Ep l x → x ∈ p) {i : Nat} (hi : i + 1 < p.length) {t : Int} (h1 : iat p i ≤ t) (h2 : t < iat p (i + 1)) : hsB l t = hsB l (iat p i) := by
  have e : Hs l t ↔ Hs l (iat p i) := by
    constructor
    · rintro ⟨v, hv, ho, a, b⟩
      refine ⟨v, hv, ho, ?_, by omega⟩
      rcases h.cut hi (he _ ⟨v, hv, ho, .inl rfl⟩) with c | c <;> omega
    · rintro ⟨v, hv, ho, a, b⟩
      refine ⟨v, hv, ho, by omega, ?_⟩
      rcases h.cut hi (he _ ⟨v, hv, ho, .inr rfl⟩) with c | c <;> omega
  have := e
  rw [← hsB_iff, ← hsB_iff] at this
  cases h3 : hsB l t <;> cases h4 : hsB l (iat p i) <;> simp_all
theorem has_bnd {p : List Int} {l : List Iv} (h : Asc p) (he : ∀ x, Ep l x → x ∈ p) {t : Int} (ht : Hs l t) : 0 < p.length ∧ iat p 0 ≤ t ∧ t < iat p (p.length - 1) := by
  obtain ⟨v, hv, ho, a, b⟩ := ht
  obtain ⟨i, hi, e1⟩ := mem_iat (he _ ⟨v, hv, ho, .inl rfl⟩)
  obtain ⟨j, hj, e2⟩ := mem_iat (he _ ⟨v, hv, ho, .inr rfl⟩)
  have k1 := h.le (Nat.zero_le i) hi
  have k2 := h.le (by omega : j ≤ p.length - 1) (by omega)
  exact ⟨by omega, by omega, by omega⟩
/-- what is known of the ends p of a set Q -/
structure Ed (Q : Int → Prop) (p : List Int) : Prop where
  asc : Asc p
  rng : ∀ x ∈ p, 0 ≤ x ∧ x ≤ 68719476736
  uni : ∀ i, i + 1 < p.length → ∀ t, iat p i ≤ t → t < iat p (i + 1) → (Q t ↔ Q (iat p i))
  bnd : ∀ t, Q t → 0 < p.length ∧ iat p 0 ≤ t ∧ t < iat p (p.length - 1)
theorem inB_no (way : Int) : inB way false false = false := by unfold inB; split <;> (try split) <;> rfl
theorem Ed.of {a b : List Iv} {p : List Int} (way : Int) (h : Asc p) (hp : ∀ x, x ∈ p ↔ Ep a x ∨ Ep b x) : Ed (fun t => inB way (hsB a t) (hsB b t) = true) p := by
  refine ⟨h, fun x hx => ?_, fun i hi t h1 h2 => ?_, fun t ht => ?_⟩
  · have : ∀ l : List Iv, Ep l x → 0 ≤ x ∧ x ≤ 68719476736 := by
      rintro l ⟨v, _, ho, e⟩
      unfold Ok at ho
      omega
    exact ((hp x).1 hx).elim (this a) (this b)
  · show inB way (hsB a t) (hsB b t) = true ↔ inB way (hsB a (iat p i)) (hsB b (iat p i)) = true
    rw [has_uni h (fun x hx => (hp x).2 (.inl hx)) hi h1 h2, has_uni h (fun x hx => (hp x).2 (.inr hx)) hi h1 h2]
  · have ht' : inB way (hsB a t) (hsB b t) = true := ht
    cases h3 : hsB a t
    · cases h4 : hsB b t
      · rw [h3, h4, inB_no] at ht'; cases ht'
      · exact has_bnd h (fun x hx => (hp x).2 (.inr hx)) ((hsB_iff _ _).1 h4)
    · exact has_bnd h (fun x hx => (hp x).2 (.inl hx)) ((hsB_iff _ _).1 h3)
structure Cb (Q : Int → Prop) (p : List Int) (i : Nat) (R : List Iv) : Prop where
  nf : Nf R
  hs : i < p.length → ∀ t, Hs R t ↔ Q t ∧ t < iat p i
  far : i < p.length → ∀ u ∈ R, u.2 ≤ iat p i
  emp : p.length = 0 → R = []
  len : R.length ≤ i
section
variable {Q : Int → Prop} {p : List Int} {i : Nat} {R : List Iv}
theorem Cb.start (h : Ed Q p) : Cb Q p 0 [] := ⟨trivial, fun hi t => ⟨fun h => absurd h (Hs.nil t), fun ⟨h1, h2⟩ => by have := (h.bnd t h1).2.1; omega⟩, fun _ u hu => by simp at hu, fun _ => rfl, by simp⟩
theorem Cb.skip (h : Ed Q p) (c : Cb Q p i R) (hi : i + 1 < p.length) (hq : ¬ Q (iat p i)) : Cb Q p (i + 1) R := by
  have hl : iat p i < iat p (i + 1) := h.asc.lt (by omega) hi
  refine ⟨c.nf, fun _ t => ?_, fun _ u hu => ?_, fun e => by omega, by have := c.len; omega⟩
  · rw [c.hs (by omega) t]
    constructor
    · rintro ⟨a, b⟩; exact ⟨a, by omega⟩
    · rintro ⟨a, b⟩
      refine ⟨a, ?_⟩
      rcases Int.lt_or_le t (iat p i) with k | k
      · exact k
      · exact absurd ((h.uni i hi t k b).1 a) hq
  · have := c.far (by omega) u hu; omega
theorem Cb.fresh (h : Ed Q p) (c : Cb Q p i R) (hi : i + 1 < p.length) (hq : Q (iat p i)) (hg : ∀ x y R0, R = R0 ++ [(x, y)] → y ≠ iat p i) : Cb Q p (i + 1) (R ++ [(iat p i, iat p (i + 1))]) := by
  have hl : iat p i < iat p (i + 1) := h.asc.lt (by omega) hi
  have r1 := h.rng _ (iat_mem (by omega : i < p.length))
  have r2 := h.rng _ (iat_mem hi)
  have ok : Ok (iat p i, iat p (i + 1)) := by unfold Ok; simp only; omega
  have hfar : ∀ u ∈ R, u.2 < iat p i := by
    rcases List.eq_nil_or_concat R with e | ⟨R0, ⟨x, y⟩, e⟩
    · subst e; intro u hu; simp at hu
    · have e' : R = R0 ++ [(x, y)] := by rw [e]; simp
      have hn := c.nf
      rw [e'] at hn
      obtain ⟨_, o, hx⟩ := hn.init
      unfold Ok at o
      have k1 := hg x y R0 e'
      have k2 := c.far (by omega) (x, y) (by rw [e']; simp)
      simp only at o k2
      intro u hu
      rw [e'] at hu
      rcases List.mem_append.1 hu with hu | hu
      · have := hx u hu; simp only at this; omega
      · have : u = (x, y) := by simpa using hu
        rw [this]; simp only; omega
  refine ⟨c.nf.snoc ok hfar, fun _ t => ?_, fun _ u hu => ?_, fun e => by omega, by rw [List.length_append]; have := c.len; simp; omega⟩
  · rw [Hs.app, Hs.single, c.hs (by omega) t]
    simp only
    constructor
    · rintro (⟨a, b⟩ | ⟨_, a, b⟩)
      · exact ⟨a, by omega⟩
      · exact ⟨(h.uni i hi t a b).2 hq, b⟩
    · rintro ⟨a, b⟩
      rcases Int.lt_or_le t (iat p i) with k | k
      · exact .inl ⟨a, k⟩
      · exact .inr ⟨ok, k, b⟩
  · rcases List.mem_append.1 hu with hu | hu
    · have := hfar u hu; omega
    · have : u = (iat p i, iat p (i + 1)) := by simpa using hu
      rw [this]; simp only; omega
theorem Cb.join (h : Ed Q p) {x : Int} (c : Cb Q p i (R ++ [(x, iat p i)])) (hi : i + 1 < p.length) (hq : Q (iat p i)) : Cb Q p (i + 1) (R ++ [(x, iat p (i + 1))]) := by
  have hl : iat p i < iat p (i + 1) := h.asc.lt (by omega) hi
  have r2 := h.rng _ (iat_mem hi)
  obtain ⟨n1, o, n2⟩ := c.nf.init
  unfold Ok at o
  simp only at o n2
  have ok : Ok (x, iat p (i + 1)) := by unfold Ok; simp only; omega
  refine ⟨n1.snoc ok n2, fun _ t => ?_, fun _ u hu => ?_, fun e => by omega, by have := c.len; rw [List.length_append] at *; simp at *; omega⟩
  · have e := c.hs (by omega) t
    rw [Hs.app, Hs.single] at e ⊢
    simp only at e ⊢
    constructor
    · rintro (a | ⟨_, a, b⟩)
      · have := e.1 (.inl a); exact ⟨this.1, by omega⟩
      · rcases Int.lt_or_le t (iat p i) with k | k
        · exact ⟨(e.1 (.inr ⟨o, a, k⟩)).1, b⟩
        · exact ⟨(h.uni i hi t k b).2 hq, b⟩
    · rintro ⟨a, b⟩
      rcases Int.lt_or_le t (iat p i) with k | k
      · rcases e.2 ⟨a, k⟩ with d | ⟨_, d1, d2⟩
        · exact .inl d
        · exact .inr ⟨ok, d1, b⟩
      · exact .inr ⟨ok, by omega, b⟩
  · rcases List.mem_append.1 hu with hu | hu
    · have := c.far (by omega) u (List.mem_append_left _ hu); omega
    · have : u = (x, iat p (i + 1)) := by simpa using hu
      rw [this]; simp only; omega
theorem Cb.done (h : Ed Q p) (c : Cb Q p i R) (hi : i = 0 ∨ i < p.length) (hx : ¬ i + 1 < p.length) (t : Int) : Hs R t ↔ Q t := by
  rcases Nat.eq_zero_or_pos p.length with h0 | h0
  · rw [c.emp h0]
    exact ⟨fun h => absurd h (Hs.nil t), fun k => by have := (h.bnd t k).1; omega⟩
  · have hi2 : i < p.length := by omega
    rw [c.hs hi2 t]
    refine ⟨fun k => k.1, fun k => ⟨k, ?_⟩⟩
    have := (h.bnd t k).2.2
    rwa [show p.length - 1 = i by omega] at this
end
end Go.Proofs.Ytmdkhnndfhcfdaa.Mt
