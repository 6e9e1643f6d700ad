/- Whose passage it is, by the reference. No condition. -/
import Derived.Test.YtakmjlpciicaiaaGreatDoorB7
set_option linter.unusedSimpArgs false
set_option linter.unusedVariables false
namespace Go.Proofs.YtakmjlpciicaiaaGreatDoor.Wk
open Go Go.RowKit Go.Proofs.YtakmjlpciicaiaaGreatDoor.Av
theorem fO_other {o : OwL} {p q v : ByteArray} (h : sEq q p = false) : fO (o ++ [(q, v)]) p = fO o p := by
  rw [fO_app]
  cases fO o p <;> simp [h]
theorem ow_step {l : List Psg} {k : Nat} {p : ByteArray} (hp : sEq p em = false) : fO (ow l (k + 1)) p = bif sEq (ix l k).plate p && !(sEq (ix l k).tag em) then (match fO (ow l k) p with
    | none => some (ix l k).tag
    | some t => bif sEq t (ix l k).tag then some (ix l k).tag else some em) else fO (ow l k) p := by
  cases h1 : sEq (ix l k).tag em with
  | true => rw [ow_skip (by rw [h1]; rfl)]; simp
  | false =>
    cases h2 : sEq (ix l k).plate p with
    | false =>
      simp only [Bool.false_and, cond_false]
      cases h3 : sEq (ix l k).plate em with
      | true => rw [ow_skip (by rw [h3, Bool.or_true])]
      | false =>
        cases hf : fO (ow l k) (ix l k).plate with
        | none => rw [ow_new h1 h3 hf, fO_other h2]
        | some t =>
          cases h4 : sEq t (ix l k).tag with
          | false => rw [ow_two h1 h3 hf h4, fO_put, h2]; rfl
          | true => rw [ow_one h1 h3 hf h4, fO_put, h2]; rfl
    | true =>
      have e := sEq_eq h2
      have h3 : sEq (ix l k).plate em = false := by rw [e]; exact hp
      simp only [Bool.not_false, Bool.and_self, cond_true]
      rw [← e]
      cases hf : fO (ow l k) (ix l k).plate with
      | none => rw [ow_new h1 h3 hf, fO_app, hf]; simp [sEq]
      | some t =>
        cases h4 : sEq t (ix l k).tag with
        | false => rw [ow_two h1 h3 hf h4, fO_put, show sEq (ix l k).plate (ix l k).plate = true from by simp [sEq]]; simp only [cond_true, h4, cond_false]
        | true => rw [ow_one h1 h3 hf h4, fO_put, show sEq (ix l k).plate (ix l k).plate = true from by simp [sEq]]; simp only [cond_true, h4]
theorem ow_two_stay {l : List Psg} {p : ByteArray} (hp : sEq p em = false) : ∀ {k m : Nat}, k ≤ m → fO (ow l k) p = some em → fO (ow l m) p = some em
  | k, 0, h, hk => by have e : k = 0 := by omega
                      rw [e] at hk; exact hk
  | k, m + 1, h, hk => by
    rcases Nat.lt_or_ge k (m + 1) with q | q
    · have ih : fO (ow l m) p = some em := ow_two_stay hp (by omega) hk
      rw [ow_step hp, ih]
      cases hb : (sEq (ix l m).plate p && !(sEq (ix l m).tag em)) with
      | false => rfl
      | true =>
        simp only [cond_true]
        cases h4 : sEq em (ix l m).tag with
        | false => rfl
        | true =>
          have e := sEq_eq h4
          rw [← e]; rfl
    · have e : k = m + 1 := by omega
      rw [e] at hk; exact hk
/-- what the reference's loop has found of a plate -/
def fT (t : ByteArray) : Option ByteArray := bif sEq t em then none else some t
theorem bel_t {o : OwL} {x : Psg} (h : sEq x.tag em = false) : bel o x = x.tag := bel_tag h
theorem bel_p {o : OwL} {x : Psg} (h : sEq x.tag em = true) (hp : sEq x.plate em = true) (hn : fO o x.plate = none) : bel o x = x.tag := by
  unfold bel
  rw [hn]
  have e1 := sEq_eq h
  have e2 := sEq_eq hp
  rw [e1, e2]; rfl
theorem ow_empty (l : List Psg) : ∀ k, fO (ow l k) em = none
  | 0 => rfl
  | k + 1 => by
    have ih := ow_empty l k
    cases h1 : sEq (ix l k).tag em with
    | true => rw [ow_skip (by rw [h1]; rfl)]; exact ih
    | false =>
      cases h3 : sEq (ix l k).plate em with
      | true => rw [ow_skip (by rw [h3, Bool.or_true])]; exact ih
      | false =>
        cases hf : fO (ow l k) (ix l k).plate with
        | none => rw [ow_new h1 h3 hf, fO_other h3]; exact ih
        | some t =>
          cases h4 : sEq t (ix l k).tag with
          | false => rw [ow_two h1 h3 hf h4, fO_put, h3]; exact ih
          | true => rw [ow_one h1 h3 hf h4, fO_put, h3]; exact ih
theorem bel_some {o : OwL} {x : Psg} {t : ByteArray} (h : sEq x.tag em = true) (ht : sEq t em = false) (hf : fO o x.plate = some t) : bel o x = t := by
  unfold bel
  simp only [orT, h, hf, Option.getD_some, ht, Bool.not_true, Bool.not_false, cond_true, cond_false]
theorem bel_none {o : OwL} {x : Psg} (h : sEq x.tag em = true) (hp : sEq x.plate em = false) (hf : fO o x.plate = none ∨ fO o x.plate = some em) : bel o x = x.plate := by
  unfold bel
  rcases hf with hf | hf <;> simp only [orT, h, hf, hp, Option.getD_some, Option.getD_none, show sEq em em = true from by decide, Bool.not_true, Bool.not_false, cond_true, cond_false]

end Go.Proofs.YtakmjlpciicaiaaGreatDoor.Wk
