/- What deeds do to a list. No condition. -/
import Derived.Test.YtocjbombpggmeaaB17
set_option linter.unusedSimpArgs false
set_option linter.unusedVariables false
namespace Go.Proofs.Ytocjbombpggmeaa.Wk
open Go Go.RowKit Go.Proofs.Ytocjbombpggmeaa.Av
theorem idx_sat {α : Type} [Inhabited α] {p : α → Bool} {l : List α} (h : 0 ≤ idx p l) : p (ix l (idx p l).toNat) = true := by
  unfold idx at h ⊢
  cases hf : l.findIdx? p with
  | none => rw [hf] at h; simp at h
  | some i =>
    obtain ⟨h1, h2, _⟩ := List.findIdx?_eq_some_iff_getElem.1 hf
    rw [ix_eq h1] at h2
    exact h2
theorem sEq_eq {a b : ByteArray} (h : sEq a b = true) : a = b := of_decide_eq_true h
/-- what becomes of one dispute -/
inductive Ch (d : Dd) (x : Dp) : Dp → Prop
  | proof (h : x.proofs.length < 16) (h2 : isR d.id = true) (h3 : am d.id x.proofs = false) : Ch d x (addP x d.id)
  | state (s : Int) (h : 2 ≤ s) (h2 : s ≤ 4) : Ch d x (setS x s)
inductive Dc (l : List Dp) (d : Dd) : List Dp → Int → Int → Prop
  | no (e : Int) : Dc l d l 0 e
  | op (hk : d.kind = 0) (h1 : isR d.key = true) (h2 : isC d.cents = true) (h3 : isT d.t = true) (h4 : dfind l d.key < 0) (h5 : l.length < 1024) : Dc l d (l ++ [Dp.mk d.key d.t d.cents 1 []]) 0 0
  | one (i : Nat) (y : Dp) (hk : 0 ≤ d.kind ∧ d.kind ≤ 3) (hi : i < l.length) (hs : (ix l i).state = 1) (he : (ix l i).key = d.key) (hy : Ch d (ix l i) y) : Dc l d (l.set i y) (if y.state = 2 then (ix l i).cents else 0) 0
  | ex (hk : ¬ (0 ≤ d.kind ∧ d.kind ≤ 3)) : Dc l d (exl l d.t l.length) (exs l d.t l.length) 0
theorem open_of {l : List Dp} {key : ByteArray} (h : (fcode l key != 0) = false) : (dfind l key).toNat < l.length ∧ (ix l (dfind l key).toNat).state = 1 ∧ (ix l (dfind l key).toNat).key = key := by
  obtain ⟨h0, h1⟩ := fcode_ok (f_bne h)
  have h2 := dfind_lt l key
  exact ⟨by omega, h1, sEq_eq (idx_sat (p := fun x : Dp => sEq x.key key) h0)⟩
theorem nb {b : Bool} (h : ¬ b = true) : b = false := by cases b <;> simp at h ⊢
theorem nnb {b : Bool} (h : ¬ (!b) = true) : b = true := by cases b <;> simp at h ⊢
theorem doe_cases (l : List Dp) (d : Dd) : Dc l d (doe l d).1.1 (doe l d).1.2 (doe l d).2 := by
  unfold doe
  split
  · rename_i hk
    have hk : d.kind = 0 := by simpa using hk
    unfold opn
    split
    · exact .no _
    · rename_i h1
      split
      · exact .no _
      · rename_i h2
        split
        · exact .no _
        · rename_i h3
          split
          · exact .no _
          · rename_i h4
            split
            · exact .no _
            · rename_i h5
              simp at h4 h5
              exact .op hk (nnb h1) (nnb h2) (nnb h3) h4 (by omega)
  · split
    · rename_i hk
      have hk : d.kind = 1 := by simpa using hk
      unfold prove
      split
      · exact .no _
      · rename_i h1
        split
        · exact .no _
        · split
          · exact .no _
          · rename_i h3
            split
            · exact .no _
            · rename_i h4
              split
              · exact .no _
              · rename_i h5
                simp at h5
                obtain ⟨hi, hs, he⟩ := open_of (nb h1)
                have := Dc.one (d := d) _ (addP (ix l (dfind l d.key).toNat) d.id) (by omega) hi hs he (.proof (by omega) (nnb h3) (nb h4))
                rwa [if_neg (show ¬ (addP (ix l (dfind l d.key).toNat) d.id).state = 2 by show ¬ (ix l (dfind l d.key).toNat).state = 2; omega)] at this
    · split
      · rename_i hk
        have hk : d.kind = 2 := by simpa using hk
        unfold decid
        split
        · exact .no _
        · rename_i h1
          split
          · exact .no _
          · obtain ⟨hi, hs, he⟩ := open_of (nb h1)
            split
            · exact Dc.one (d := d) _ (setS (ix l (dfind l d.key).toNat) 3) (by omega) hi hs he (.state 3 (by omega) (by omega))
            · exact Dc.one (d := d) _ (setS (ix l (dfind l d.key).toNat) 2) (by omega) hi hs he (.state 2 (by omega) (by omega))
      · split
        · rename_i hk
          have hk : d.kind = 3 := by simpa using hk
          unfold withdraw
          split
          · exact .no _
          · rename_i h1
            obtain ⟨hi, hs, he⟩ := open_of (nb h1)
            exact Dc.one (d := d) _ (setS (ix l (dfind l d.key).toNat) 4) (by omega) hi hs he (.state 4 (by omega) (by omega))
        · rename_i h0 h1 h2 h3
          simp at h0 h1 h2 h3
          exact .ex (by omega)
theorem exl_all (l : List Dp) (t : Int) : exl l t l.length = l.map (exo t) := by simp [exl]
theorem ix_map {l : List Dp} {f : Dp → Dp} {i : Nat} (h : i < l.length) : ix (l.map f) i = f (ix l i) := by
  unfold ix; simp [List.getD, h]
theorem ix_left {l r : List Dp} {i : Nat} (h : i < l.length) : ix (l ++ r) i = ix l i := by
  unfold ix; simp [List.getD, List.getElem?_append_left h]
theorem ix_setne {l : List Dp} {i j : Nat} {y : Dp} (h : i ≠ j) : ix (l.set i y) j = ix l j := by
  unfold ix; simp [List.getD, List.getElem?_set_ne h]
theorem exo_or (t : Int) (x : Dp) : exo t x = x ∨ (x.state = 1 ∧ exo t x = setS x 2) := by
  unfold exo
  split
  · rename_i h
    unfold xp at h
    simp at h
    exact .inr ⟨h.1.2, rfl⟩
  · exact .inl rfl
theorem Dc.len {l m : List Dp} {d : Dd} {n e : Int} (h : Dc l d m n e) : l.length ≤ m.length ∧ m.length ≤ l.length + 1 := by
  cases h with
  | no e => omega
  | op => simp
  | one i y => simp
  | ex => rw [exl_len]; omega
theorem Dc.err {l m : List Dp} {d : Dd} {n e : Int} (h : Dc l d m n e) (he : e ≠ 0) : m = l ∧ n = 0 := by
  cases h with
  | no e => exact ⟨rfl, rfl⟩
  | op => exact absurd rfl he
  | one i y => exact absurd rfl he
  | ex => exact absurd rfl he
theorem Dc.at {l m : List Dp} {d : Dd} {n e : Int} (h : Dc l d m n e) {i : Nat} (hi : i < l.length) :
    ix m i = ix l i ∨ ((ix l i).state = 1 ∧ (ix m i).key = (ix l i).key ∧ (ix m i).time = (ix l i).time ∧ (ix m i).cents = (ix l i).cents ∧ ((0 ≤ d.kind ∧ d.kind ≤ 3) → (ix l i).key = d.key)) := by
  cases h with
  | no e => exact .inl rfl
  | op => exact .inl (ix_left hi)
  | one j y hk hj hs he hy =>
    by_cases hij : j = i
    · subst hij
      right
      rw [ix_set hi]
      cases hy <;> exact ⟨hs, rfl, rfl, rfl, fun _ => he⟩
    · exact .inl (ix_setne hij)
  | ex hk =>
    rw [exl_all, ix_map hi]
    rcases exo_or d.t (ix l i) with h | ⟨h1, h2⟩
    · exact .inl h
    · right; rw [h2]; exact ⟨h1, rfl, rfl, rfl, fun h => absurd h hk⟩
/-- what the accepted ones add up to -/
def acc (l : List Dp) : Int := (l.map fun x => if x.state = 2 then x.cents else 0).sum
theorem sum_app (a b : List Int) : (a ++ b).sum = a.sum + b.sum := by
  induction a with
  | nil => simp
  | cons x a ih => simp only [List.cons_append, List.sum_cons, ih]; omega
theorem split_at {l : List Dp} {i : Nat} (h : i < l.length) : l = l.take i ++ ix l i :: l.drop (i + 1) := by
  rw [← drop_ix h, List.take_append_drop]
theorem acc_set {l : List Dp} {i : Nat} {y : Dp} (h : i < l.length) (hs : (ix l i).state = 1) : acc (l.set i y) = acc l + if y.state = 2 then y.cents else 0 := by
  have e1 : l.set i y = l.take i ++ y :: l.drop (i + 1) := List.set_eq_take_append_cons_drop.trans (if_pos h)
  rw [e1]
  conv => rhs; rw [split_at h]
  unfold acc
  simp only [List.map_append, List.map_cons, sum_app, List.sum_cons]
  rw [if_neg (show ¬ (ix l i).state = 2 by omega)]
  omega
theorem acc_take {l : List Dp} {k : Nat} (h : k < l.length) : acc (l.take (k + 1)) = acc (l.take k) + if (ix l k).state = 2 then (ix l k).cents else 0 := by
  rw [take_ix h]; unfold acc; rw [List.map_append, sum_app]; simp
theorem acc_exl (l : List Dp) (t : Int) : ∀ k, k ≤ l.length → acc ((l.take k).map (exo t)) = acc (l.take k) + exs l t k
  | 0, _ => by simp [acc, exs]
  | k + 1, h => by
    have ih := acc_exl l t k (by omega)
    rw [acc_take (by omega), take_ix (by omega), List.map_append]
    have e1 : acc ((l.take k).map (exo t) ++ [ix l k].map (exo t)) = acc ((l.take k).map (exo t)) + if (exo t (ix l k)).state = 2 then (exo t (ix l k)).cents else 0 := by
      unfold acc; rw [List.map_append, sum_app]; simp
    rw [e1, ih]
    cases hx : xp t (ix l k) with
    | true =>
      rw [exs_yes hx]
      have hs : (ix l k).state = 1 := by unfold xp at hx; simp at hx; exact hx.1.2
      have e2 : exo t (ix l k) = setS (ix l k) 2 := by unfold exo; rw [if_pos hx]
      rw [e2, if_neg (show ¬ (ix l k).state = 2 by omega), if_pos (show (setS (ix l k) 2).state = 2 from rfl)]
      show _ + (ix l k).cents = _
      omega
    | false =>
      rw [exs_no hx]
      have e2 : exo t (ix l k) = ix l k := by unfold exo; rw [if_neg (by rw [hx]; simp)]
      rw [e2]; omega
theorem Dc.acc {l m : List Dp} {d : Dd} {n e : Int} (h : Dc l d m n e) : acc m = acc l + n := by
  cases h with
  | no e => omega
  | op => unfold Wk.acc; rw [List.map_append, sum_app]; simp
  | one j y hk hj hs he hy =>
    rw [acc_set hj hs]
    cases hy <;> rfl
  | ex hk =>
    have := acc_exl l d.t l.length (Nat.le_refl _)
    rw [List.take_of_length_le (Nat.le_refl _)] at this
    rw [exl_all]; exact this
/-- a list as the calls leave it -/
structure Inv (n : Nat) (l : List Dp) : Prop where
  len : l.length ≤ n
  el : ∀ i, i < l.length → (ix l i).proofs.length ≤ 16 ∧ (0 ≤ (ix l i).cents ∧ (ix l i).cents ≤ 1125899906842624) ∧ (0 ≤ (ix l i).time ∧ (ix l i).time < 68719476736)
theorem Inv.nil : Inv 0 [] := ⟨by simp, fun i h => by simp at h⟩
theorem isC_c {c : Int} (h : isC c = true) : 1 ≤ c ∧ c ≤ 1125899906842624 := by simpa [isC] using h
theorem Ch.len {d : Dd} {x y : Dp} (h : Ch d x y) (hx : x.proofs.length ≤ 16) : y.proofs.length ≤ 16 ∧ y.cents = x.cents ∧ y.time = x.time := by
  cases h with
  | proof h => refine ⟨?_, rfl, rfl⟩; simp [addP]; omega
  | state s => exact ⟨hx, rfl, rfl⟩
theorem Inv.step {k : Nat} {l m : List Dp} {d : Dd} {n e : Int} (hv : Inv k l) (h : Dc l d m n e) : Inv (k + 1) m := by
  have hl := h.len
  refine ⟨by have := hv.len; omega, fun i hi => ?_⟩
  cases h with
  | no e => exact hv.el i hi
  | op hk h1 h2 h3 h4 h5 =>
    rcases Nat.lt_or_ge i l.length with h | h
    · rw [ix_left h]; exact hv.el i h
    · have e1 : i = l.length := by simp at hi; omega
      subst e1
      rw [show ix (l ++ [Dp.mk d.key d.t d.cents 1 []]) l.length = Dp.mk d.key d.t d.cents 1 [] from by simp [ix]]
      have a := isC_c h2
      have b := isT_t h3
      exact ⟨by simp, ⟨by show (0 : Int) ≤ d.cents; omega, a.2⟩, b⟩
  | one j y hk hj hs he hy =>
    rw [List.length_set] at hi
    by_cases hij : j = i
    · subst hij
      rw [ix_set hi]
      have h1 := hv.el j hi
      obtain ⟨h2, h3, h4⟩ := hy.len h1.1
      rw [h3, h4]; exact ⟨h2, h1.2⟩
    · rw [ix_setne hij]; exact hv.el i hi
  | ex hk =>
    rw [exl_len] at hi
    rw [exl_all, ix_map hi]
    have h1 := hv.el i hi
    rcases exo_or d.t (ix l i) with h | ⟨_, h⟩
    · rw [h]; exact h1
    · rw [h]; exact h1
/-- the list after so many calls -/
def pl (ds : List Dd) : Nat → List Dp
  | 0 => []
  | k + 1 => (doe (pl ds k) (ix ds k)).1.1
def cr (ds : List Dd) : Nat → Int
  | 0 => 0
  | k + 1 => cr ds k + (doe (pl ds k) (ix ds k)).1.2
theorem pl_inv (ds : List Dd) : ∀ k, Inv k (pl ds k)
  | 0 => Inv.nil
  | k + 1 => (pl_inv ds k).step (doe_cases _ _)
theorem cr_acc (ds : List Dd) : ∀ k, acc (pl ds k) = cr ds k
  | 0 => rfl
  | k + 1 => by
    have h := (doe_cases (pl ds k) (ix ds k)).acc
    rw [cr_acc ds k] at h
    exact h
theorem acc_le {l : List Dp} {n : Nat} (h : Inv n l) : ∀ k, k ≤ l.length → 0 ≤ acc (l.take k) ∧ acc (l.take k) ≤ (k : Int) * 1125899906842624
  | 0, _ => by simp [acc]
  | k + 1, hk => by
    have ih := acc_le h k (by omega)
    have h1 := h.el k (by omega)
    rw [acc_take (by omega)]
    split <;> (constructor <;> (try push_cast) <;> omega)
theorem acc_all {l : List Dp} {n : Nat} (h : Inv n l) : 0 ≤ acc l ∧ acc l ≤ (n : Int) * 1125899906842624 := by
  have := acc_le h l.length (Nat.le_refl _)
  rw [List.take_of_length_le (Nat.le_refl _)] at this
  have hl := h.len
  omega
theorem doe_bound {l : List Dp} (d : Dd) (h1 : l.length ≤ 1100) (h2 : ∀ q, q < l.length → (ix l q).proofs.length ≤ 40) : (doe l d).1.1.length ≤ 1101 ∧ ∀ q, q < (doe l d).1.1.length → (ix (doe l d).1.1 q).proofs.length ≤ 41 := by
  have h := doe_cases l d
  have hl := h.len
  refine ⟨by omega, ?_⟩
  revert h
  generalize (doe l d).1.1 = m
  generalize (doe l d).1.2 = n
  generalize (doe l d).2 = e
  intro h q hq
  cases h with
  | no e => have := h2 q hq; omega
  | op =>
    rcases Nat.lt_or_ge q l.length with h | h
    · rw [ix_left h]; have := h2 q h; omega
    · have e1 : q = l.length := by simp at hq; omega
      subst e1
      simp [ix]
  | one j y hk hj hs he hy =>
    rw [List.length_set] at hq
    by_cases hij : j = q
    · subst hij
      rw [ix_set hq]
      have := h2 j hq
      cases hy with
      | proof h => simp [addP]; omega
      | state s => show (ix l j).proofs.length ≤ 41; omega
    · rw [ix_setne hij]; have := h2 q hq; omega
  | ex hk =>
    rw [exl_len] at hq
    rw [exl_all, ix_map hq]
    have := h2 q hq
    rcases exo_or d.t (ix l q) with h | ⟨_, h⟩
    · rw [h]; omega
    · rw [h]; show (ix l q).proofs.length ≤ 41; omega

end Go.Proofs.Ytocjbombpggmeaa.Wk
