/- Plain mathematics of a run. No condition. -/
import Derived.Test.YtodkcnhdiddbkaaMath
set_option linter.unusedSimpArgs false
set_option linter.unusedVariables false
namespace Go.Proofs.Ytodkcnhdiddbkaa.Mt
structure St where
  bal : Int
  f : Fi
  req : Nat
  out : List Int
def rstep (r : Ru) (oks : List Bool) (st : St) (t : Nat) (m : Int) : Option St :=
  if (adS st.bal m).2 ≠ 0 then none
  else if 0 < (stp r st.f (adS st.bal m).1 t).2 then
    if st.req < oks.length ∧ oks.getD st.req false = true then
      if (adS (adS st.bal m).1 (stp r st.f (adS st.bal m).1 t).2).2 ≠ 0 then none
      else some ⟨(adS (adS st.bal m).1 (stp r st.f (adS st.bal m).1 t).2).1, (suc (stp r st.f (adS st.bal m).1 t).1).1, st.req + 1, st.out ++ [(adS (adS st.bal m).1 (stp r st.f (adS st.bal m).1 t).2).1]⟩
    else some ⟨(adS st.bal m).1, (fai r (stp r st.f (adS st.bal m).1 t).1 t).1, st.req + 1, st.out ++ [(adS st.bal m).1]⟩
  else some ⟨(adS st.bal m).1, (stp r st.f (adS st.bal m).1 t).1, st.req, st.out ++ [(adS st.bal m).1]⟩
def rloop (r : Ru) (oks : List Bool) : St → Nat → List Int → Option St
  | st, _, [] => some st
  | st, t, m :: rest => match rstep r oks st t m with
    | none => none
    | some st' => rloop r oks st' (t + 1) rest
def runS (r : Ru) (bal : Int) (moves : List Int) (oks : List Bool) : List Int × Fi × Int :=
  if chk r ≠ 0 then ([], ⟨0, 0, 0⟩, chk r) else if 1024 < moves.length then ([], ⟨0, 0, 0⟩, 3) else if fit bal = false then ([], ⟨0, 0, 0⟩, 13)
  else match rloop r oks ⟨bal, ⟨1, 0, 0⟩, 0, []⟩ 0 moves with
    | none => ([], ⟨0, 0, 0⟩, 13)
    | some st => (st.out, st.f, 0)
theorem dropAt {l : List Int} {k : Nat} (h : k < l.length) : l.drop k = l.getD k 0 :: l.drop (k + 1) := by
  rw [List.drop_eq_getElem_cons h]; simp [List.getD, List.getElem?_eq_getElem h]
theorem loop_none {r : Ru} {oks : List Bool} {st : St} {l : List Int} {k : Nat} (h : k < l.length) (hs : rstep r oks st k (l.getD k 0) = none) : rloop r oks st k (l.drop k) = none := by
  rw [dropAt h, rloop, hs]
theorem loop_some {r : Ru} {oks : List Bool} {st st' : St} {l : List Int} {k : Nat} (h : k < l.length) (hs : rstep r oks st k (l.getD k 0) = some st') : rloop r oks st k (l.drop k) = rloop r oks st' (k + 1) (l.drop (k + 1)) := by
  rw [dropAt h, rloop, hs]
theorem loop_end {r : Ru} {oks : List Bool} {st : St} {l : List Int} {k : Nat} (h : l.length ≤ k) : rloop r oks st k (l.drop k) = some st := by
  rw [List.drop_eq_nil_of_le h, rloop]
theorem run_chk {r : Ru} {bal : Int} {moves : List Int} {oks : List Bool} (h : chk r ≠ 0) : runS r bal moves oks = ([], ⟨0, 0, 0⟩, chk r) := by rw [runS, if_pos h]
theorem run_long {r : Ru} {bal : Int} {moves : List Int} {oks : List Bool} (h : chk r = 0) (h2 : 1024 < moves.length) : runS r bal moves oks = ([], ⟨0, 0, 0⟩, 3) := by rw [runS, if_neg (by simp [h]), if_pos h2]
theorem run_fit {r : Ru} {bal : Int} {moves : List Int} {oks : List Bool} (h : chk r = 0) (h2 : ¬ 1024 < moves.length) (h3 : fit bal = false) : runS r bal moves oks = ([], ⟨0, 0, 0⟩, 13) := by rw [runS, if_neg (by simp [h]), if_neg h2, if_pos h3]
theorem run_none {r : Ru} {bal : Int} {moves : List Int} {oks : List Bool} (h : chk r = 0) (h2 : ¬ 1024 < moves.length) (h3 : fit bal = true) (h4 : rloop r oks ⟨bal, ⟨1, 0, 0⟩, 0, []⟩ 0 moves = none) : runS r bal moves oks = ([], ⟨0, 0, 0⟩, 13) := by rw [runS, if_neg (by simp [h]), if_neg h2, if_neg (by simp [h3]), h4]
theorem run_some {r : Ru} {bal : Int} {moves : List Int} {oks : List Bool} {st : St} (h : chk r = 0) (h2 : ¬ 1024 < moves.length) (h3 : fit bal = true) (h4 : rloop r oks ⟨bal, ⟨1, 0, 0⟩, 0, []⟩ 0 moves = some st) : runS r bal moves oks = (st.out, st.f, 0) := by rw [runS, if_neg (by simp [h]), if_neg h2, if_neg (by simp [h3]), h4]
theorem chk_wait {r : Ru} (h : chk r = 0) : 0 ≤ r.w ∧ r.w ≤ 68719476736 := by
  unfold chk at h
  split at h
  · omega
  · split at h
    · omega
    · split at h
      · omega
      · rename_i h1
        have : tim r.w = true := by
          cases ht : tim r.w
          · exact absurd (.inr (.inr (.inr (.inr ht)))) h1
          · rfl
        have := (tim_iff _).1 this
        omega
/-- what holds of a state after k rounds -/
def ok (st : St) (k : Nat) : Prop := fit st.bal = true ∧ 0 ≤ st.f.f ∧ st.f.f ≤ k ∧ st.req ≤ k ∧ st.out.length = k
theorem ad_fit {a b x : Int} (h : adS a b = (x, 0)) : fit x = true ∧ x = a + b := by
  unfold adS at h
  split at h
  · rename_i h1
    injection h with h2 _
    subst h2
    exact ⟨h1.2.2, rfl⟩
  · injection h with h1 h2
    omega
theorem stp_f {r : Ru} {f f' : Fi} {bal t y : Int} (h : stp r f bal t = (f', y)) : f'.f = f.f ∧ (0 < y → f'.s = 2 ∧ y = r.c) := by
  unfold stp at h
  split at h
  · injection h with h1 h2
    subst h1
    exact ⟨rfl, fun h => by omega⟩
  · injection h with h1 h2
    subst h1
    exact ⟨rfl, fun _ => ⟨rfl, h2.symm⟩⟩
theorem step_fail {r : Ru} {oks : List Bool} {st : St} {t : Nat} {m : Int} (h : (adS st.bal m).2 ≠ 0) : rstep r oks st t m = none := by rw [rstep, if_pos h]
theorem step_rest {r : Ru} {oks : List Bool} {st : St} {t : Nat} {m x y : Int} {f' : Fi} (h : adS st.bal m = (x, 0)) (h2 : stp r st.f x t = (f', y)) (h3 : ¬ 0 < y) : rstep r oks st t m = some ⟨x, f', st.req, st.out ++ [x]⟩ := by
  simp only [rstep, h, h2]; rw [if_neg (by simp), if_neg h3]
theorem step_lost {r : Ru} {oks : List Bool} {st : St} {t : Nat} {m x y : Int} {f' : Fi} (h : adS st.bal m = (x, 0)) (h2 : stp r st.f x t = (f', y)) (h3 : 0 < y) (h4 : ¬ (st.req < oks.length ∧ oks.getD st.req false = true)) : rstep r oks st t m = some ⟨x, (fai r f' t).1, st.req + 1, st.out ++ [x]⟩ := by
  simp only [rstep, h, h2]; rw [if_neg (by simp), if_pos h3, if_neg h4]
theorem step_full {r : Ru} {oks : List Bool} {st : St} {t : Nat} {m x y : Int} {f' : Fi} (h : adS st.bal m = (x, 0)) (h2 : stp r st.f x t = (f', y)) (h3 : 0 < y) (h4 : st.req < oks.length ∧ oks.getD st.req false = true) (h5 : (adS x y).2 ≠ 0) : rstep r oks st t m = none := by
  simp only [rstep, h, h2]; rw [if_neg (by simp), if_pos h3, if_pos h4, if_pos h5]
theorem step_won {r : Ru} {oks : List Bool} {st : St} {t : Nat} {m x y x2 : Int} {f' : Fi} (h : adS st.bal m = (x, 0)) (h2 : stp r st.f x t = (f', y)) (h3 : 0 < y) (h4 : st.req < oks.length ∧ oks.getD st.req false = true) (h5 : adS x y = (x2, 0)) : rstep r oks st t m = some ⟨x2, (suc f').1, st.req + 1, st.out ++ [x2]⟩ := by
  simp only [rstep, h, h2, h5]; rw [if_neg (by simp), if_pos h3, if_pos h4, if_neg (by simp)]
theorem suc_two {f : Fi} (h : f.s = 2) : (suc f).1 = ⟨1, 0, 0⟩ := by rw [suc, if_pos h]
theorem fai_f {r : Ru} {f f' : Fi} {t e : Int} (h : fai r f t = (f', e)) : f'.f = f.f ∨ f'.f = f.f + 1 := by
  unfold fai at h
  split at h
  · injection h with h1 _; subst h1; exact .inl rfl
  · split at h
    · injection h with h1 _; subst h1; exact .inl rfl
    · split at h
      · injection h with h1 _; subst h1; exact .inr rfl
      · injection h with h1 _; subst h1; exact .inr rfl
theorem ad_none {a b : Int} (h : (adS a b).2 ≠ 0) : adS a b = (0, 13) := by
  unfold adS at h ⊢
  split at h
  · simp at h
  · rename_i h1; rw [if_neg h1]
end Go.Proofs.Ytodkcnhdiddbkaa.Mt
