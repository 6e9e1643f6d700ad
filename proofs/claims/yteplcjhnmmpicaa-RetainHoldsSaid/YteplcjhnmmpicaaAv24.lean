/- A drawn region's check, made fast: who comes before whom as bits of numbers. No condition. -/
import Derived.Test.YteplcjhnmmpicaaAv3
set_option linter.unusedSimpArgs false
set_option linter.unusedVariables false
namespace Go.Proofs.Yteplcjhnmmpicaa.Av
open Go Go.RowKit
def mskO (all : List Nat) (o : Oper) : Nat := o.after.toList.foldl (fun a e => bif Region.binds .any e then Nat.lor a (Nat.lor (all.getD e.on 0) (Nat.shiftLeft 1 e.on)) else a) 0
def mskL (all : List Nat) : List Oper → List Nat → Bool
  | o :: os, m :: ms => Nat.beq m (mskO all o) && mskL all os ms
  | [], [] => true
  | _, _ => false
def prB (ops : Array Oper) (i : Nat) (x y : Sk × Oper × Nat) : Bool :=
  disj y.1.fr x.1.nw && disj y.1.fr x.1.sy && (Nat.testBit y.2.2 i || (half ops x.1 y.1 y.2.1 && half ops y.1 x.1 x.2.1 && disj x.1.fr y.1.nw && disj x.1.fr y.1.sy))
def sepR (ops : Array Oper) : Nat → List (Sk × Oper × Nat) → Bool
  | _, [] => true
  | i, x :: r => (r.all fun y => prB ops i x y) && sepR ops (i + 1) r
def zip3 : List Sk → List Oper → List Nat → List (Sk × Oper × Nat)
  | a :: as, b :: bs, c :: cs => (a, b, c) :: zip3 as bs cs
  | _, _, _ => []
def upL : Nat → List Oper → Bool
  | _, [] => true
  | j, o :: os => (o.after.toList.all fun e => !Region.binds .any e || Nat.blt e.on j) && upL (j + 1) os
def sepM (ops : Array Oper) (sk : List Sk) (ms : List Nat) : Bool := upL 0 ops.toList && mskL ms ops.toList ms && Nat.beq sk.length ms.length && sepR ops 0 (zip3 sk ops.toList ms)
theorem zip3_get : ∀ (as : List Sk) (bs : List Oper) (cs : List Nat) (i : Nat) (a : Sk) (b : Oper) (c : Nat), as[i]? = some a → bs[i]? = some b → cs[i]? = some c → (zip3 as bs cs)[i]? = some (a, b, c)
  | a' :: as, b' :: bs, c' :: cs, 0, a, b, c, h1, h2, h3 => by simp at h1 h2 h3; subst h1 h2 h3; rfl
  | a' :: as, b' :: bs, c' :: cs, i + 1, a, b, c, h1, h2, h3 => by simp at h1 h2 h3; simpa [zip3] using zip3_get as bs cs i a b c h1 h2 h3
  | [], _, _, _, _, _, _, h1, _, _ => by simp at h1
  | _ :: _, [], _, _, _, _, _, _, h2, _ => by simp at h2
  | _ :: _, _ :: _, [], _, _, _, _, _, _, h3 => by simp at h3
theorem sepR_get {ops : Array Oper} : ∀ (l : List (Sk × Oper × Nat)) (k i j : Nat) (x y : Sk × Oper × Nat), sepR ops k l = true → i < j → l[i]? = some x → l[j]? = some y → prB ops (k + i) x y = true
  | [], _, _, _, _, _, _, _, h, _ => by simp at h
  | z :: l, k, i, j, x, y, h, hij, hx, hy => by
    simp only [sepR, Bool.and_eq_true] at h
    cases j with
    | zero => omega
    | succ j =>
      simp at hy
      cases i with
      | zero =>
        simp at hx; subst hx
        exact List.all_eq_true.1 h.1 y (List.mem_of_getElem? hy)
      | succ i =>
        simp at hx
        have := sepR_get l (k + 1) i j x y h.2 (by omega) hx hy
        rwa [show k + 1 + i = k + (i + 1) by omega] at this
theorem mskL_get {all : List Nat} : ∀ (os : List Oper) (ms : List Nat) (j : Nat) (o : Oper), mskL all os ms = true → os[j]? = some o → ms[j]? = some (mskO all o)
  | o' :: os, m :: ms, 0, o, h, ho => by
    simp only [mskL, Bool.and_eq_true] at h
    simp at ho; subst ho
    simp [Nat.eq_of_beq_eq_true h.1]
  | o' :: os, m :: ms, j + 1, o, h, ho => by
    simp only [mskL, Bool.and_eq_true] at h
    simp at ho
    simpa using mskL_get os ms j o h.2 ho
  | [], _, _, _, _, ho => by simp at ho
  | _ :: _, [], _, _, h, _ => by simp [mskL] at h
theorem upL_get : ∀ (os : List Oper) (k j : Nat) (o : Oper), upL k os = true → os[j]? = some o → ∀ e ∈ o.after.toList, Region.binds .any e = true → e.on < k + j
  | o' :: os, k, 0, o, h, ho => fun e he hb => by
    simp only [upL, Bool.and_eq_true] at h
    simp at ho; subst ho
    have := List.all_eq_true.1 h.1 e he
    simp only [hb, Bool.not_true, Bool.false_or] at this
    exact Nat.lt_of_succ_le (Nat.le_of_ble_eq_true this)
  | o' :: os, k, j + 1, o, h, ho => fun e he hb => by
    simp only [upL, Bool.and_eq_true] at h
    simp at ho
    have := upL_get os (k + 1) j o h.2 ho e he hb
    omega
  | [], _, _, _, _, ho => by simp at ho
theorem fold_bit {all : List Nat} {i : Nat} : ∀ (l : List Edge) (a : Nat), Nat.testBit (l.foldl (fun a e => bif Region.binds .any e then Nat.lor a (Nat.lor (all.getD e.on 0) (Nat.shiftLeft 1 e.on)) else a) a) i = true →
    Nat.testBit a i = true ∨ ∃ e ∈ l, Region.binds .any e = true ∧ (e.on = i ∨ Nat.testBit (all.getD e.on 0) i = true)
  | [], a, h => .inl h
  | e :: l, a, h => by
    simp only [List.foldl_cons] at h
    rcases fold_bit l _ h with h1 | ⟨e', h1, h2⟩
    · cases hb : Region.binds .any e with
      | false => rw [hb] at h1; exact .inl h1
      | true =>
        rw [hb, cond_true] at h1
        have h1' : Nat.testBit (a ||| (all.getD e.on 0 ||| 1 <<< e.on)) i = true := h1
        rw [Nat.testBit_or, Nat.testBit_or, Nat.testBit_shiftLeft, Bool.or_eq_true, Bool.or_eq_true] at h1'
        rcases h1' with h | h | h
        · exact .inl h
        · exact .inr ⟨e, by simp, hb, .inr h⟩
        · refine .inr ⟨e, by simp, hb, .inl ?_⟩
          simp only [Bool.and_eq_true, decide_eq_true_eq] at h
          obtain ⟨g1, g2⟩ := h
          have g3 : i - e.on = 0 := by
            rcases Nat.eq_zero_or_pos (i - e.on) with g | g
            · exact g
            · exfalso
              rw [Nat.testBit_one_eq_true_iff_self_eq_zero] at g2
              omega
          omega
    · exact .inr ⟨e', by simp [h1], h2⟩
theorem bf_of {ops : Array Oper} {ms : List Nat} (hu : upL 0 ops.toList = true) (hm : mskL ms ops.toList ms = true) : ∀ (n j i : Nat), j < n → j < ops.size → Nat.testBit (ms.getD j 0) i = true → bfB ops n i j = true
  | 0, j, i, h, _, _ => by omega
  | n + 1, j, i, h, hj, hb => by
    have ho : ops.toList[j]? = some (ops[j]'hj) := by simp [hj]
    have h1 := mskL_get ops.toList ms j _ hm ho
    have h2 : ms.getD j 0 = mskO ms (ops[j]'hj) := by rw [List.getD_eq_getElem?_getD, h1]; rfl
    rw [h2] at hb
    rcases fold_bit _ 0 hb with h3 | ⟨e, he, hbd, h3⟩
    · simp at h3
    · have hlt := upL_get ops.toList 0 j _ hu ho e he hbd
      simp only [bfB, Array.getElem?_eq_getElem hj]
      rw [Array.any_eq_true']
      refine ⟨e, by simpa using he, ?_⟩
      rw [hbd, Bool.true_and, Bool.or_eq_true]
      rcases h3 with h3 | h3
      · exact .inl (by simp [h3])
      · exact .inr (bf_of hu hm n e.on i (by omega) (by omega) h3)
theorem sepB_of {ops : Array Oper} {sk : List Sk} (ms : List Nat) (h : sepM ops sk ms = true) : sepB ops sk = true := by
  simp only [sepM, Bool.and_eq_true] at h
  obtain ⟨⟨⟨hu, hm⟩, hl⟩, hr⟩ := h
  simp only [sepB, Bool.and_eq_true]
  constructor
  · unfold upB'
    rw [List.all_eq_true]
    intro j hj
    have hj' : j < ops.size := by simpa using hj
    simp only [Array.getElem?_eq_getElem hj']
    rw [Array.all_eq_true']
    intro e he
    cases hb : Region.binds .any e with
    | false => rfl
    | true =>
      have := upL_get ops.toList 0 j (ops[j]'hj') hu (by simp [hj']) e (by simpa using he) hb
      simp only [Bool.not_true, Bool.false_or, decide_eq_true_eq]
      omega
  · rw [List.all_eq_true]
    intro j hj
    rw [List.all_eq_true]
    intro i hi
    have hj' : j < ops.size := by simpa using hj
    have hi' : i < j := by simpa using hi
    have key : ∀ k, (hk : k < ops.size) → ms[k]? = some (ms.getD k 0) := fun k hk => by
      have := mskL_get ops.toList ms k (ops[k]'hk) hm (by simp [hk])
      rw [List.getD_eq_getElem?_getD, this]; rfl
    cases hxi : sk[i]? with
    | none =>
      have h1 := key i (by omega)
      have h2 := Nat.eq_of_beq_eq_true hl
      have h3 := (List.getElem?_eq_some_iff.1 h1).1
      rw [List.getElem?_eq_none_iff] at hxi; omega
    | some x =>
      cases hyj : sk[j]? with
      | none =>
        have h1 := key j hj'
        have h2 := Nat.eq_of_beq_eq_true hl
        have h3 := (List.getElem?_eq_some_iff.1 h1).1
        rw [List.getElem?_eq_none_iff] at hyj; omega
      | some y =>
        simp only [Array.getElem?_eq_getElem hj', Array.getElem?_eq_getElem (show i < ops.size by omega)]
        have hx := zip3_get sk ops.toList ms i x (ops[i]'(by omega)) _ hxi (by simp [show i < ops.size by omega]) (key i (by omega))
        have hy := zip3_get sk ops.toList ms j y (ops[j]'hj') _ hyj (by simp [hj']) (key j hj')
        have hp := sepR_get _ 0 i j _ _ hr hi' hx hy
        simp only [prB, Bool.and_eq_true, Bool.or_eq_true, Nat.zero_add] at hp ⊢
        obtain ⟨h1, h2⟩ := hp
        refine ⟨h1, h2.imp (fun h => bf_of hu hm ops.size j i (by omega) hj' h) id⟩
end Go.Proofs.Yteplcjhnmmpicaa.Av
