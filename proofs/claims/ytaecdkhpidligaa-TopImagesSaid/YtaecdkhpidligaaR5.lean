/- How long an image is kept. No condition. -/
import Derived.Test.YtaecdkhpidligaaR4
set_option linter.unusedSimpArgs false
set_option linter.unusedVariables false
namespace Go.Proofs.Ytaecdkhpidligaa.Wr
open Go Go.RowKit Go.Proofs.Ytaecdkhpidligaa.Av Go.Proofs.Ytaecdkhpidligaa.Wk
def unt (l : List Kp) (im : Im) (c : Int) : Int × Int :=
  if (ck l != 0) = true then (0, ck l) else if (!isT im.time || (!isT c && c != -1)) = true then (0, 12) else
  match rule l im.purpose with
  | none => (0, 10)
  | some q => if (decide ((0 : Int) < (im.hold.length : Int))) = true then (0, 32) else if (c == -1) = true then (0, 11) else (max (im.time + q.seconds) (c + q.least), 0)
theorem isT_t {t : Int} (h : isT t = true) : 0 ≤ t ∧ t < 68719476736 := by simpa [isT] using h
theorem bad_zero {l : List Kp} {i : Nat} (h : bad l i = 0) : (1 ≤ (ix l i).purpose ∧ (ix l i).purpose ≤ 4) ∧ (rule (l.take i) (ix l i).purpose).isSome = false ∧ (0 ≤ (ix l i).seconds ∧ (ix l i).seconds ≤ 68719476736) ∧ 0 ≤ (ix l i).least ∧ (ix l i).least ≤ 68719476736 := by
  unfold bad at h
  split at h
  · cases h
  · rename_i h1
    split at h
    · cases h
    · rename_i h2
      split at h
      · cases h
      · rename_i h3
        simp [isD] at h1 h2 h3
        exact ⟨by omega, by simpa using h2, by omega, by omega⟩
theorem fe_zero {f : Nat → Int} : ∀ (n i : Nat), fe f i n = 0 → ∀ j, i ≤ j → j < i + n → f j = 0
  | 0, i, h, j, h1, h2 => by omega
  | n + 1, i, h, j, h1, h2 => by
    unfold fe at h
    split at h
    · rename_i hz
      by_cases e : j = i
      · rw [e]; exact hz
      · exact fe_zero n (i + 1) h j (by omega) (by omega)
    · rename_i hz; exact absurd h hz
theorem ck_zero {l : List Kp} (h : ck l = 0) : l.length ≤ 4 ∧ ∀ i, i < l.length → bad l i = 0 := by
  unfold ck at h
  split at h
  · cases h
  · rename_i h1
    simp at h1
    exact ⟨by omega, fun i hi => fe_zero _ _ h i (by omega) (by omega)⟩
theorem rule_no {l : List Kp} {p : Int} (h : ∀ q, q < l.length → (ix l q).purpose ≠ p) : rule l p = none := by
  unfold rule
  rw [List.find?_eq_none]
  intro x hx
  obtain ⟨j, hj, he⟩ := List.mem_iff_getElem.1 hx
  have h2 := ix_get hj
  rw [List.getElem?_eq_getElem hj, he] at h2
  injection h2 with h2
  rw [h2]; simp
  exact fun e => h j hj e.symm
theorem rule_at {l : List Kp} {k : Nat} {p : Int} (hk : k < l.length) (h : ∀ q, q < k → (ix l q).purpose ≠ p) (he : (ix l k).purpose = p) : rule l p = some (ix l k) := by
  have h1 : rule (l.take k) p = none := by
    refine rule_no fun q hq => ?_
    have hq' : q < k := by simp at hq; omega
    have : ix (l.take k) q = ix l q := by
      unfold ix; simp [List.getD, List.getElem?_take, hq']
    rw [this]; exact h q hq'
  have h2 : l.find? (fun q => p == q.purpose) = (l.take k ++ l.drop k).find? (fun q => p == q.purpose) := by rw [List.take_append_drop]
  unfold rule at h1 ⊢
  rw [h2, List.find?_append, h1, drop_ix hk]
  simp [he]
theorem rule_mem {l : List Kp} {p : Int} {q : Kp} (h : rule l p = some q) : ∃ i, i < l.length ∧ ix l i = q ∧ q.purpose = p := by
  unfold rule at h
  have h1 := List.mem_of_find?_eq_some h
  have h2 := List.find?_some h
  obtain ⟨i, hi, he⟩ := List.mem_iff_getElem.1 h1
  have h3 := ix_get hi
  rw [List.getElem?_eq_getElem hi, he] at h3
  injection h3 with h3
  exact ⟨i, hi, h3.symm, by simpa using (by simpa using h2 : p = q.purpose).symm⟩
theorem rule_bound {l : List Kp} (h : ck l = 0) {p : Int} {q : Kp} (hr : rule l p = some q) : (0 ≤ q.seconds ∧ q.seconds ≤ 68719476736) ∧ (0 ≤ q.least ∧ q.least ≤ 68719476736) := by
  obtain ⟨i, h1, h2, _⟩ := rule_mem hr
  have := bad_zero ((ck_zero h).2 i h1)
  rw [h2] at this
  exact this.2.2
theorem read_ok (l : List Kp) (h : ck l = 0) : Ctr Try.prog 15 [.sl 3 (List.map eKp l)] (.tu [.mp (ents l), .fl (.int .i64 (ck l))]) := by
  have := read_all l
  unfold rd at this
  rwa [if_pos h] at this

end Go.Proofs.Ytaecdkhpidligaa.Wr
