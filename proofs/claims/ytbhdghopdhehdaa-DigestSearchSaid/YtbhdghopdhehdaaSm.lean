/- Plain mathematics: the search finds only differences, in order, and compares few nodes. No condition. -/
import Derived.Test.YtbhdghopdhehdaaDfm
import Derived.Test.YtbhdghopdhehdaaVm
set_option linter.unusedSimpArgs false
set_option linter.unusedVariables false
namespace Go.Proofs.Ytbhdghopdhehdaa.Mt
/-- what is found below node i of level k -/
theorem dv_all {a b : List Int} {n : Nat} (ha : a.length = n) (hb : b.length = n) : ∀ (k i : Nat) (f : List Int × Nat), i < abn n k → ∃ D C, dv a b k i f = (f.1 ++ D, f.2 + C) ∧
    (∀ x ∈ D, (((i * 2 ^ k : Nat) : Int) ≤ x ∧ x < (((i + 1) * 2 ^ k : Nat) : Int)) ∧ x < n ∧ ¬ iat a x.toNat = iat b x.toNat) ∧ D.Pairwise (· < ·) ∧ 1 ≤ C ∧ C ≤ 1 + 2 * D.length * k ∧ (D = [] ↔ iat (upn a k) i = iat (upn b k) i) := by
  intro k
  induction k with
  | zero =>
    intro i f hi
    have hi : i < n := hi
    by_cases h : iat a i = iat b i
    · refine ⟨[], 1, by rw [dv, if_pos h]; simp, by simp, List.Pairwise.nil, Nat.le_refl _, by simp, ?_⟩
      simp [upn, h]
    · refine ⟨[(i : Int)], 1, by rw [dv, if_neg h], ?_, by simp, Nat.le_refl _, by simp, ?_⟩
      · intro x hx
        have : x = (i : Int) := by simpa using hx
        subst this
        refine ⟨by simp; omega, by omega, by simpa using h⟩
      · simp [upn, h]
  | succ k ih =>
    intro i f hi
    rw [abn_next] at hi
    have hp : 2 ^ (k + 1) = 2 ^ k + 2 ^ k := by rw [Nat.pow_succ]; omega
    have e1 : i * 2 ^ (k + 1) = 2 * i * 2 ^ k := by rw [Nat.pow_succ, Nat.mul_comm (2 ^ k) 2, ← Nat.mul_assoc, Nat.mul_comm i 2]
    have e2 : (i + 1) * 2 ^ (k + 1) = (2 * i + 1 + 1) * 2 ^ k := by rw [Nat.pow_succ, Nat.mul_comm (2 ^ k) 2, ← Nat.mul_assoc]; congr 1; omega
    have e3 : (2 * i + 1) * 2 ^ k ≤ (2 * i + 1 + 1) * 2 ^ k := Nat.mul_le_mul_right _ (by omega)
    have e4 : 2 * i * 2 ^ k ≤ (2 * i + 1) * 2 ^ k := Nat.mul_le_mul_right _ (by omega)
    by_cases h : abn n k ≤ 2 * i + 1
    · obtain ⟨D, C, h1, h2, h3, h4, h5, h6⟩ := ih (2 * i) f (by unfold ab at hi; omega)
      refine ⟨D, C, by rw [dv_alone f (by rw [ha]; exact h), h1], fun x hx => ?_, h3, h4, ?_, ?_⟩
      · obtain ⟨⟨q1, q2⟩, q3, q4⟩ := h2 x hx
        rw [e1, e2]
        refine ⟨⟨q1, ?_⟩, q3, q4⟩
        omega
      · have : 2 * D.length * k ≤ 2 * D.length * (k + 1) := Nat.mul_le_mul_left _ (by omega)
        omega
      · rw [h6, node_alone (l := a) (by rw [ha]; exact hi) (by rw [ha]; exact h), node_alone (l := b) (by rw [hb]; exact hi) (by rw [hb]; exact h)]
    · by_cases he : iat (upn a (k + 1)) i = iat (upn b (k + 1)) i
      · refine ⟨[], 1, by rw [dv_same f (by rw [ha]; exact h) he]; simp, by simp, List.Pairwise.nil, Nat.le_refl _, by simp, by simp [he]⟩
      · obtain ⟨D, C, h1, h2, h3, h4, h5, h6⟩ := ih (2 * i) (f.1, f.2 + 1) (by omega)
        obtain ⟨D', C', h1', h2', h3', h4', h5', h6'⟩ := ih (2 * i + 1) (dv a b k (2 * i) (f.1, f.2 + 1)) (by omega)
        have hne : ¬ (D = [] ∧ D' = []) := by
          intro hd
          apply he
          have g1 := h6.1 hd.1
          have g2 := h6'.1 hd.2
          rw [upn, upn, iat_up (by rw [upn_len, ha]; omega), iat_up (by rw [upn_len, hb]; omega), g1, g2]
        have hlen : 1 ≤ D.length + D'.length := by
          rcases Nat.eq_zero_or_pos (D.length + D'.length) with h0 | h0
          · exact absurd ⟨List.eq_nil_of_length_eq_zero (by omega), List.eq_nil_of_length_eq_zero (by omega)⟩ hne
          · exact h0
        refine ⟨D ++ D', 1 + C + C', ?_, fun x hx => ?_, ?_, by omega, ?_, ?_⟩
        · rw [dv_both f (by rw [ha]; exact h) he, h1', h1]
          simp only [List.append_assoc, Prod.mk.injEq, true_and]
          omega
        · rw [e1, e2]
          rcases List.mem_append.1 hx with hx | hx
          · obtain ⟨⟨q1, q2⟩, q3, q4⟩ := h2 x hx
            exact ⟨⟨q1, by omega⟩, q3, q4⟩
          · obtain ⟨⟨q1, q2⟩, q3, q4⟩ := h2' x hx
            exact ⟨⟨by omega, q2⟩, q3, q4⟩
        · refine List.pairwise_append.2 ⟨h3, h3', fun x hx y hy => ?_⟩
          have p1 := (h2 x hx).1.2
          have p2 := (h2' y hy).1.1
          omega
        · rw [List.length_append]
          have m1 : 2 * (D.length + D'.length) * (k + 1) = 2 * D.length * k + 2 * D'.length * k + 2 * (D.length + D'.length) := by
            rw [Nat.mul_succ, Nat.mul_add, Nat.add_mul]
          omega
        · exact ⟨fun hd => absurd ⟨(List.append_eq_nil_iff.1 hd).1, (List.append_eq_nil_iff.1 hd).2⟩ hne, fun hd => absurd hd he⟩
theorem df_all {a b : List Int} {n : Nat} (ha : a.length = n) (hb : b.length = n) (h1 : 1 ≤ n) :
    (∀ j, j < (dfS a b).1.length → (0 ≤ iat (dfS a b).1 j ∧ iat (dfS a b).1 j < n ∧ ¬ iat a (iat (dfS a b).1 j).toNat = iat b (iat (dfS a b).1 j).toNat)) ∧ (∀ j, j + 1 < (dfS a b).1.length → iat (dfS a b).1 j < iat (dfS a b).1 (j + 1)) ∧ 1 ≤ (dfS a b).2 ∧ (dfS a b).2 ≤ 1 + 2 * (dfS a b).1.length * ht n ∧ ((dfS a b).1.length = 0 ↔ rootS a = rootS b) := by
  have hr : abn n (ht n) = 1 := abn_one h1 (Nat.le_refl _) (Nat.le_refl _)
  obtain ⟨D, C, g1, g2, g3, g4, g5, g6⟩ := dv_all ha hb (ht n) 0 ([], 0) (by omega)
  have e : dfS a b = (D, C) := by
    rw [dfS, if_neg (by rw [ha, hb]; simp), if_neg (by omega), ha, g1]; simp
  rw [e]
  have gx : ∀ j, j < D.length → iat D j ∈ D := by
    intro j hj
    unfold iat
    rw [List.getD_eq_getElem?_getD, List.getElem?_eq_getElem hj]
    exact List.getElem_mem hj
  refine ⟨fun j hj => ?_, fun j hj => ?_, g4, g5, ?_⟩
  · obtain ⟨⟨q1, _⟩, q3, q4⟩ := g2 _ (gx j hj)
    exact ⟨by simpa using q1, q3, q4⟩
  · have hj : j + 1 < D.length := hj
    have h := List.pairwise_iff_getElem.1 g3 j (j + 1) (by omega) hj (by omega)
    unfold iat
    rw [List.getD_eq_getElem?_getD, List.getD_eq_getElem?_getD, List.getElem?_eq_getElem hj, List.getElem?_eq_getElem (by omega)]
    exact h
  · have h0 : (D.length = 0) = (D = []) := by simp
    show D.length = 0 ↔ _
    rw [h0, g6, root_some ha h1 rfl, root_some hb h1 rfl]
end Go.Proofs.Ytbhdghopdhehdaa.Mt
