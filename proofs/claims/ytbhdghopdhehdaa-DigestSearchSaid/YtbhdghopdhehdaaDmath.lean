/- Plain mathematics of the search for differences: a node that moved up is the same one below. No condition. -/
import Derived.Test.YtbhdghopdhehdaaPf
set_option linter.unusedSimpArgs false
set_option linter.unusedVariables false
namespace Go.Proofs.Ytbhdghopdhehdaa.Mt
/-- the last node of an odd level moves up as it is -/
theorem up_alone {l : List Int} {i : Nat} (hi : i < ab l.length) (h : l.length ≤ 2 * i + 1) : iat (upS l) i = iat l (2 * i) := by
  have hodd : l.length % 2 = 1 ∧ i = l.length / 2 := by unfold ab at hi; omega
  obtain ⟨ho, rfl⟩ := hodd
  have e : 2 * (l.length / 2) = l.length - 1 := by omega
  rw [up_odd ho, e]
  have hl := pr_len l (l.length / 2)
  unfold iat
  rw [List.getD_eq_getElem?_getD, List.getElem?_append_right (by omega), hl]
  simp
/-- what is found and how many nodes are compared below node i of level k: the reference's way -/
def dv (a b : List Int) : Nat → Nat → List Int × Nat → List Int × Nat
  | 0, i, f => if iat a i = iat b i then (f.1, f.2 + 1) else (f.1 ++ [(i : Int)], f.2 + 1)
  | k + 1, i, f =>
    if abn a.length k ≤ 2 * i + 1 then dv a b k (2 * i) f
    else if iat (upn a (k + 1)) i = iat (upn b (k + 1)) i then (f.1, f.2 + 1)
    else dv a b k (2 * i + 1) (dv a b k (2 * i) (f.1, f.2 + 1))
theorem dv_alone {a b : List Int} {k i : Nat} (f : List Int × Nat) (h : abn a.length k ≤ 2 * i + 1) : dv a b (k + 1) i f = dv a b k (2 * i) f := by rw [dv, if_pos h]
theorem dv_same {a b : List Int} {k i : Nat} (f : List Int × Nat) (h : ¬ abn a.length k ≤ 2 * i + 1) (e : iat (upn a (k + 1)) i = iat (upn b (k + 1)) i) : dv a b (k + 1) i f = (f.1, f.2 + 1) := by rw [dv, if_neg h, if_pos e]
theorem dv_both {a b : List Int} {k i : Nat} (f : List Int × Nat) (h : ¬ abn a.length k ≤ 2 * i + 1) (e : ¬ iat (upn a (k + 1)) i = iat (upn b (k + 1)) i) : dv a b (k + 1) i f = dv a b k (2 * i + 1) (dv a b k (2 * i) (f.1, f.2 + 1)) := by rw [dv, if_neg h, if_neg e]
/-- a node that moved up is the same one in the level below -/
theorem node_alone {l : List Int} {k i : Nat} (hi : i < abn l.length (k + 1)) (h : abn l.length k ≤ 2 * i + 1) : iat (upn l (k + 1)) i = iat (upn l k) (2 * i) :=
  up_alone (by rw [upn_len]; exact hi) (by rw [upn_len]; exact h)
/-- the layer's way: the node is compared first; an equal one is counted and left -/
theorem dv_equal {a b : List Int} (hab : a.length = b.length) : ∀ (k i : Nat) (f : List Int × Nat), i < abn a.length k → iat (upn a k) i = iat (upn b k) i → dv a b k i f = (f.1, f.2 + 1) := by
  intro k
  induction k with
  | zero =>
    intro i f _ e
    have e : iat a i = iat b i := e
    rw [dv, if_pos e]
  | succ k ih =>
    intro i f hi e
    by_cases h : abn a.length k ≤ 2 * i + 1
    · rw [dv_alone f h]
      refine ih (2 * i) f ?_ ?_
      · rw [abn_next] at hi; unfold ab at hi; omega
      · rw [← node_alone hi h, ← node_alone (l := b) (by rw [← hab]; exact hi) (by rw [← hab]; exact h)]; exact e
    · exact dv_same f h e
end Go.Proofs.Ytbhdghopdhehdaa.Mt
