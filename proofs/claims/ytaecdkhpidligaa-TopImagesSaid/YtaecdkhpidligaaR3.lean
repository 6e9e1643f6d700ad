/- The rules of keeping held against each other. No condition. -/
import Derived.Test.YtaecdkhpidligaaR2
set_option linter.unusedSimpArgs false
set_option linter.unusedVariables false
namespace Go.Proofs.Ytaecdkhpidligaa.Wr
open Go Go.RowKit Go.Proofs.Ytaecdkhpidligaa.Av Go.Proofs.Ytaecdkhpidligaa.Wk
theorem rule_some {l : List Kp} {k j : Nat} (hj : j < k) (hk : k < l.length) (h : (ix l j).purpose = (ix l k).purpose) : (rule (l.take k) (ix l k).purpose).isSome = true := by
  unfold rule
  rw [List.find?_isSome]
  refine ⟨ix l j, ?_, by simp [h]⟩
  have := ix_get (l := l) (i := j) (by omega)
  exact List.mem_of_getElem? (by rw [List.getElem?_take, if_pos hj]; exact this)
theorem rule_none {l : List Kp} {k : Nat} (hk : k ≤ l.length) (h : ∀ q, q < k → (ix l q).purpose ≠ (ix l k).purpose) : (rule (l.take k) (ix l k).purpose).isSome = false := by
  unfold rule
  rw [Option.isSome_eq_false_iff, Option.isNone_iff_eq_none, List.find?_eq_none]
  intro x hx
  obtain ⟨j, hj, he⟩ := List.mem_iff_getElem.1 hx
  have hjk : j < k := by simp at hj; omega
  have h2 := ix_get (l := l) (i := j) (by omega)
  have h3 : x = ix l j := by
    have : (l.take k)[j]? = some x := by rw [List.getElem?_eq_getElem hj, he]
    rw [List.getElem?_take, if_pos hjk, h2] at this
    injection this with this
    exact this.symm
  rw [h3]
  simp
  exact fun e => h j hjk e.symm
theorem fe_no {f : Nat → Int} {k n : Nat} {c : Int} (h : k < n) (hc : c = fe f k (n - k)) (hb : f k = 0) : c = fe f (k + 1) (n - (k + 1)) := by rw [hc, fe_at h, if_pos hb]
theorem fe_yes {f : Nat → Int} {k n : Nat} {c e : Int} (h : k < n) (hc : c = fe f k (n - k)) (hb : f k = e) (he : e ≠ 0) : c = e := by rw [hc, fe_at h, hb, if_neg he]

end Go.Proofs.Ytaecdkhpidligaa.Wr
