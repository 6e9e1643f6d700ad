/- Rules for states of data. Conditions: as each theorem names them. -/
import Derived.Test.YtobgdemhadlgnaaAvB
import Derived.Laws.StructEq
import Derived.MakeChecks
import Derived.Laws.IdiomCopy
import Derived.Deep.Upon
import Derived.Lib.EndianMore
import Derived.Deep.Draws
set_option linter.unusedSimpArgs false
set_option linter.unusedVariables false
namespace Go.Proofs.Ytobgdemhadlgnaa.Av
open Go Go.RowKit
def mskO (all : List Nat) (o : Oper) : Nat := o.after.toList.foldl (fun a e => bif Region.binds .any e then Nat.lor a (Nat.lor (all.getD e.on 0) (Nat.shiftLeft 1 e.on)) else a) 0
def mskL (all : List Nat) : List Oper → List Nat → Bool
  | o :: os, m :: ms => Nat.beq m (mskO all o) && mskL all os ms
  | [], [] => true
  | _, _ => false
def prB (ops : Array Oper) (i : Nat) (x y : Sk × Oper × Nat) : Bool :=
  disj y.1.fr x.1.nw && disj y.1.fr x.1.sy && (Nat.testBit y.2.2 i || (half ops x.1 y.1 y.2.1 && half ops y.1 x.1 x.2.1 && disj x.1.fr y.1.nw && disj x.1.fr y.1.sy))
def sepR (ops : Array Oper) : Nat → List (Sk × Oper × Nat) → Bool
  | _, [] => true
  | i, x :: r => (r.all fun y => prB ops i x y) && sepR ops (i + 1) r
def zip3 : List Sk → List Oper → List Nat → List (Sk × Oper × Nat)
  | a :: as, b :: bs, c :: cs => (a, b, c) :: zip3 as bs cs
  | _, _, _ => []
def upL : Nat → List Oper → Bool
  | _, [] => true
  | j, o :: os => (o.after.toList.all fun e => !Region.binds .any e || Nat.blt e.on j) && upL (j + 1) os
def sepM (ops : Array Oper) (sk : List Sk) (ms : List Nat) : Bool := upL 0 ops.toList && mskL ms ops.toList ms && Nat.beq sk.length ms.length && sepR ops 0 (zip3 sk ops.toList ms)
theorem zip3_get : ∀ (as : List Sk) (bs : List Oper) (cs : List Nat) (i : Nat) (a : Sk) (b : Oper) (c : Nat), as[i]? = some a → bs[i]? = some b → cs[i]? = some c → (zip3 as bs cs)[i]? = some (a, b, c)
  | a' :: as, b' :: bs, c' :: cs, 0, a, b, c, h1, h2, h3 => by simp at h1 h2 h3; subst h1 h2 h3; rfl
  | a' :: as, b' :: bs, c' :: cs, i + 1, a, b, c, h1, h2, h3 => by simp at h1 h2 h3; simpa [zip3] using zip3_get as bs cs i a b c h1 h2 h3
  | [], _, _, _, _, _, _, h1, _, _ => by simp at h1
  | _ :: _, [], _, _, _, _, _, _, h2, _ => by simp at h2
  | _ :: _, _ :: _, [], _, _, _, _, _, _, h3 => by simp at h3
theorem sepR_get {ops : Array Oper} : ∀ (l : List (Sk × Oper × Nat)) (k i j : Nat) (x y : Sk × Oper × Nat), sepR ops k l = true → i < j → l[i]? = some x → l[j]? = some y → prB ops (k + i) x y = true
  | [], _, _, _, _, _, _, _, h, _ => by simp at h
  | z :: l, k, i, j, x, y, h, hij, hx, hy => by
    simp only [sepR, Bool.and_eq_true] at h
    cases j with
    | zero => omega
    | succ j =>
      simp at hy
      cases i with
      | zero =>
        simp at hx; subst hx
        exact List.all_eq_true.1 h.1 y (List.mem_of_getElem? hy)
      | succ i =>
        simp at hx
        have := sepR_get l (k + 1) i j x y h.2 (by omega) hx hy
        rwa [show k + 1 + i = k + (i + 1) by omega] at this
theorem mskL_get {all : List Nat} : ∀ (os : List Oper) (ms : List Nat) (j : Nat) (o : Oper), mskL all os ms = true → os[j]? = some o → ms[j]? = some (mskO all o)
  | o' :: os, m :: ms, 0, o, h, ho => by
    simp only [mskL, Bool.and_eq_true] at h
    simp at ho; subst ho
    simp [Nat.eq_of_beq_eq_true h.1]
  | o' :: os, m :: ms, j + 1, o, h, ho => by
    simp only [mskL, Bool.and_eq_true] at h
    simp at ho
    simpa using mskL_get os ms j o h.2 ho
  | [], _, _, _, _, ho => by simp at ho
  | _ :: _, [], _, _, h, _ => by simp [mskL] at h
theorem upL_get : ∀ (os : List Oper) (k j : Nat) (o : Oper), upL k os = true → os[j]? = some o → ∀ e ∈ o.after.toList, Region.binds .any e = true → e.on < k + j
  | o' :: os, k, 0, o, h, ho => fun e he hb => by
    simp only [upL, Bool.and_eq_true] at h
    simp at ho; subst ho
    have := List.all_eq_true.1 h.1 e he
    simp only [hb, Bool.not_true, Bool.false_or] at this
    exact Nat.lt_of_succ_le (Nat.le_of_ble_eq_true this)
  | o' :: os, k, j + 1, o, h, ho => fun e he hb => by
    simp only [upL, Bool.and_eq_true] at h
    simp at ho
    have := upL_get os (k + 1) j o h.2 ho e he hb
    omega
  | [], _, _, _, _, ho => by simp at ho
theorem fold_bit {all : List Nat} {i : Nat} : ∀ (l : List Edge) (a : Nat), Nat.testBit (l.foldl (fun a e => bif Region.binds .any e then Nat.lor a (Nat.lor (all.getD e.on 0) (Nat.shiftLeft 1 e.on)) else a) a) i = true →
    Nat.testBit a i = true ∨ ∃ e ∈ l, Region.binds .any e = true ∧ (e.on = i ∨ Nat.testBit (all.getD e.on 0) i = true)
  | [], a, h => .inl h
  | e :: l, a, h => by
    simp only [List.foldl_cons] at h
    rcases fold_bit l _ h with h1 | ⟨e', h1, h2⟩
    · cases hb : Region.binds .any e with
      | false => rw [hb] at h1; exact .inl h1
      | true =>
        rw [hb, cond_true] at h1
        have h1' : Nat.testBit (a ||| (all.getD e.on 0 ||| 1 <<< e.on)) i = true := h1
        rw [Nat.testBit_or, Nat.testBit_or, Nat.testBit_shiftLeft, Bool.or_eq_true, Bool.or_eq_true] at h1'
        rcases h1' with h | h | h
        · exact .inl h
        · exact .inr ⟨e, by simp, hb, .inr h⟩
        · refine .inr ⟨e, by simp, hb, .inl ?_⟩
          simp only [Bool.and_eq_true, decide_eq_true_eq] at h
          obtain ⟨g1, g2⟩ := h
          have g3 : i - e.on = 0 := by
            rcases Nat.eq_zero_or_pos (i - e.on) with g | g
            · exact g
            · exfalso
              rw [Nat.testBit_one_eq_true_iff_self_eq_zero] at g2
              omega
          omega
    · exact .inr ⟨e', by simp [h1], h2⟩
theorem bf_of {ops : Array Oper} {ms : List Nat} (hu : upL 0 ops.toList = true) (hm : mskL ms ops.toList ms = true) : ∀ (n j i : Nat), j < n → j < ops.size → Nat.testBit (ms.getD j 0) i = true → bfB ops n i j = true
  | 0, j, i, h, _, _ => by omega
  | n + 1, j, i, h, hj, hb => by
    have ho : ops.toList[j]? = some (ops[j]'hj) := by simp [hj]
    have h1 := mskL_get ops.toList ms j _ hm ho
    have h2 : ms.getD j 0 = mskO ms (ops[j]'hj) := by rw [List.getD_eq_getElem?_getD, h1]; rfl
    rw [h2] at hb
    rcases fold_bit _ 0 hb with h3 | ⟨e, he, hbd, h3⟩
    · simp at h3
    · have hlt := upL_get ops.toList 0 j _ hu ho e he hbd
      simp only [bfB, Array.getElem?_eq_getElem hj]
      rw [Array.any_eq_true']
      refine ⟨e, by simpa using he, ?_⟩
      rw [hbd, Bool.true_and, Bool.or_eq_true]
      rcases h3 with h3 | h3
      · exact .inl (by simp [h3])
      · exact .inr (bf_of hu hm n e.on i (by omega) (by omega) h3)
theorem sepB_of {ops : Array Oper} {sk : List Sk} (ms : List Nat) (h : sepM ops sk ms = true) : sepB ops sk = true := by
  simp only [sepM, Bool.and_eq_true] at h
  obtain ⟨⟨⟨hu, hm⟩, hl⟩, hr⟩ := h
  simp only [sepB, Bool.and_eq_true]
  constructor
  · unfold upB'
    rw [List.all_eq_true]
    intro j hj
    have hj' : j < ops.size := by simpa using hj
    simp only [Array.getElem?_eq_getElem hj']
    rw [Array.all_eq_true']
    intro e he
    cases hb : Region.binds .any e with
    | false => rfl
    | true =>
      have := upL_get ops.toList 0 j (ops[j]'hj') hu (by simp [hj']) e (by simpa using he) hb
      simp only [Bool.not_true, Bool.false_or, decide_eq_true_eq]
      omega
  · rw [List.all_eq_true]
    intro j hj
    rw [List.all_eq_true]
    intro i hi
    have hj' : j < ops.size := by simpa using hj
    have hi' : i < j := by simpa using hi
    have key : ∀ k, (hk : k < ops.size) → ms[k]? = some (ms.getD k 0) := fun k hk => by
      have := mskL_get ops.toList ms k (ops[k]'hk) hm (by simp [hk])
      rw [List.getD_eq_getElem?_getD, this]; rfl
    cases hxi : sk[i]? with
    | none =>
      have h1 := key i (by omega)
      have h2 := Nat.eq_of_beq_eq_true hl
      have h3 := (List.getElem?_eq_some_iff.1 h1).1
      rw [List.getElem?_eq_none_iff] at hxi; omega
    | some x =>
      cases hyj : sk[j]? with
      | none =>
        have h1 := key j hj'
        have h2 := Nat.eq_of_beq_eq_true hl
        have h3 := (List.getElem?_eq_some_iff.1 h1).1
        rw [List.getElem?_eq_none_iff] at hyj; omega
      | some y =>
        simp only [Array.getElem?_eq_getElem hj', Array.getElem?_eq_getElem (show i < ops.size by omega)]
        have hx := zip3_get sk ops.toList ms i x (ops[i]'(by omega)) _ hxi (by simp [show i < ops.size by omega]) (key i (by omega))
        have hy := zip3_get sk ops.toList ms j y (ops[j]'hj') _ hyj (by simp [hj']) (key j hj')
        have hp := sepR_get _ 0 i j _ _ hr hi' hx hy
        simp only [prB, Bool.and_eq_true, Bool.or_eq_true, Nat.zero_add] at hp ⊢
        obtain ⟨h1, h2⟩ := hp
        refine ⟨h1, h2.imp (fun h => bf_of hu hm ops.size j i (by omega) hj' h) id⟩
end Go.Proofs.Ytobgdemhadlgnaa.Av

namespace Go.Proofs.Ytobgdemhadlgnaa.Av
open Go Go.RowKit
/-- as the pointer to a block, or as a row -/
inductive TK where
  | p
  | r
def TK.av : TK → Value → AV
  | .p, v => .pv 0 v
  | .r, v => .pw 0 v
def TK.cav : TK → Nat → AV
  | .p, m => .pt m 0
  | .r, m => .ow m
def TK.ok : TK → Ob → Bool
  | .p, .bx _ _ => true
  | .p, .bt _ _ => true
  | .r, .tr _ _ _ => true
  | .r, .mp _ => true
  | _, _ => false
theorem Tcs.zero {w : World} {U : Nat → Nat} {B : Nat} {us : List Value} {cs : List OC} {T : Nat → Nat → Prop} (h : Tcs w U B us cs T) {k b : Nat} (hb : T k b) : U b = 0 := by
  have hk := h.b k b hb
  have hl := h.l
  have hc := h.c k _ _ (List.getElem?_eq_getElem hk) (List.getElem?_eq_getElem (by omega))
  revert hc
  cases cs[k]'(by omega) with
  | un => exact fun hc => absurd hb (hc b)
  | dv x => exact fun hc => absurd hb (hc.2 b)
  | ow e z rows =>
    rintro ⟨xs, _, _, _, h4, h5⟩
    exact h5 b ((h4 b).1 hb)
theorem ownsRow_rebase {w : World} {B : Nat} {e : TypeId} {z : Nat} {v : Value} {n : Nat} {xs : List Value} (h : w.ownsRow 0 e z v n xs) (hB : ∀ g, v.ownBlock = some g → B ≤ g) : w.ownsRow B e z v n xs := by
  refine ⟨h.1, ?_⟩
  rcases h.2 with h0 | ⟨g, cap, cur, h1, h2, h3⟩
  · exact .inl h0
  · exact .inr ⟨g, cap, cur, h1, hB g (by rw [h1]; rfl), h3⟩
theorem Tcs.rebase {w : World} {U : Nat → Nat} {B : Nat} {us : List Value} {cs : List OC} {T : Nat → Nat → Prop} (h : Tcs w U 0 us cs T) (hB : ∀ k b, T k b → B ≤ b) : Tcs w U B us cs T :=
  ⟨h.l, fun k u c h1 h2 => by
    have := h.c k u c h1 h2
    cases c with
    | un => exact this
    | dv x => exact this
    | ow e z rows => obtain ⟨xs, g1, g2, g3, g4, g5⟩ := this; exact ⟨xs, ownsRow_rebase g1 (fun g hg => hB k g ((g4 g).2 hg)), g2, g3, g4, g5⟩, h.o, h.d, h.b⟩
theorem Rob.zero {B : Nat} {w : World} {F : Fr} {m : Nat} {o : Ob} {k : TK} (hk : k.ok o = true) (h : Rob B w F m o) {b : Nat} (hb : F.S m b) : F.U b = 0 := by
  cases k <;> cases o <;> simp [TK.ok] at hk
  · obtain ⟨b', vs, _, _, h3, _, _, h6⟩ := h
    rw [(h6 b).1 hb]; exact h3
  · obtain ⟨b', vs, T, _, _, h3, _, h5, _, h7⟩ := h
    rcases (h7 b).1 hb with h8 | ⟨k, h8⟩
    · rw [h8]; exact h3
    · exact h5.zero h8
  · obtain ⟨xs, T, _, h2, _, h4, h5⟩ := h
    rcases (h5 b).1 hb with h6 | ⟨k, h6⟩
    · exact (h4 b h6).1
    · exact h2.zero h6
  · obtain ⟨b', es, c, _, _, h3, _, _, h6, _⟩ := h
    rw [(h6 b).1 hb]; exact h3
theorem Rob.move {B : Nat} {w : World} {F F' : Fr} {m m' : Nat} {o : Ob} {k : TK} (hk : k.ok o = true) (h : Rob B w F m o) (hβ : k = .p → F'.β m' = F.β m) (hγ : k = .r → F'.γ m' = F.γ m) (hS : ∀ b, F'.S m' b ↔ F.S m b) (hU : F'.U = F.U) : Rob B w F' m' o := by
  cases k <;> cases o <;> simp [TK.ok] at hk
  · obtain ⟨b, vs, h1, h2, h3, h4, h5, h6⟩ := h
    exact ⟨b, vs, (hβ rfl).trans h1, h2, by rw [hU]; exact h3, h4, by rw [hU]; exact h5, fun b' => (hS b').trans (h6 b')⟩
  · obtain ⟨b, vs, T, h1, h2, h3, h4, h5, h6, h7⟩ := h
    exact ⟨b, vs, T, (hβ rfl).trans h1, h2, by rw [hU]; exact h3, h4, by rw [hU]; exact h5, h6, fun b' => (hS b').trans (h7 b')⟩
  · obtain ⟨xs, T, h1, h2, h3, h4, h5⟩ := h
    exact ⟨xs, T, by rw [hγ rfl]; exact h1, by rw [hU]; exact h2, h3, by rw [hγ rfl, hU]; exact h4, fun b => by rw [hγ rfl]; exact (hS b).trans (h5 b)⟩
  · obtain ⟨b, es, c, h1, h2, h3, h4, h5, h6, h7⟩ := h
    exact ⟨b, es, c, (hγ rfl).trans h1, h2, by rw [hU]; exact h3, h4, by rw [hU]; exact h5, fun b' => (hS b').trans (h6 b'), h7⟩
theorem Rob.rebase {B : Nat} {w : World} {F : Fr} {m : Nat} {o : Ob} {k : TK} (hk : k.ok o = true) (h : Rob 0 w F m o) (hB : ∀ b, F.S m b → B ≤ b) : Rob B w F m o := by
  cases k <;> cases o <;> simp [TK.ok] at hk
  · obtain ⟨b, vs, h1, h2, h3, h4, h5, h6⟩ := h
    exact ⟨b, vs, h1, hB b ((h6 b).2 rfl), h3, h4, h5, h6⟩
  · obtain ⟨b, vs, T, h1, h2, h3, h4, h5, h6, h7⟩ := h
    exact ⟨b, vs, T, h1, hB b ((h7 b).2 (.inl rfl)), h3, h4, h5.rebase (fun k b' hb => hB b' ((h7 b').2 (.inr ⟨k, hb⟩))), h6, h7⟩
  · obtain ⟨xs, T, h1, h2, h3, h4, h5⟩ := h
    exact ⟨xs, T, ownsRow_rebase h1 (fun g hg => hB g ((h5 g).2 (.inl hg))), h2.rebase (fun k b' hb => hB b' ((h5 b').2 (.inr ⟨k, hb⟩))), h3, h4, h5⟩
  · obtain ⟨b, es, c, h1, h2, h3, h4, h5, h6, h7⟩ := h
    exact ⟨b, es, c, h1, hB b ((h6 b).2 rfl), h3, h4, h5, h6, h7⟩
theorem Rob.debase {B : Nat} {w : World} {F : Fr} {m : Nat} {o : Ob} {k : TK} (hk : k.ok o = true) (h : Rob B w F m o) : Rob 0 w F m o := by
  cases k <;> cases o <;> simp [TK.ok] at hk
  · obtain ⟨b, vs, h1, h2, h3, h4, h5, h6⟩ := h
    exact ⟨b, vs, h1, Nat.zero_le _, h3, h4, h5, h6⟩
  · obtain ⟨b, vs, T, h1, h2, h3, h4, h5, h6, h7⟩ := h
    exact ⟨b, vs, T, h1, Nat.zero_le _, h3, h4, h5.base (Nat.zero_le _), h6, h7⟩
  · obtain ⟨xs, T, h1, h2, h3, h4, h5⟩ := h
    exact ⟨xs, T, Rc.base h1 (Nat.zero_le _), h2.base (Nat.zero_le _), h3, h4, h5⟩
  · obtain ⟨b, es, c, h1, h2, h3, h4, h5, h6, h7⟩ := h
    exact ⟨b, es, c, h1, Nat.zero_le _, h3, h4, h5, h6, h7⟩
def thF (β : Option Nat) (γ : Value) (U : Nat → Nat) (S0 : Nat → Prop) : Fr := ⟨fun _ => β, fun _ => γ, U, fun _ => S0⟩
def bare (w : World) : World := { w with heap := #[] }
/-- a function works on a thing of its caller's in place, and hands back data -/
def CtrM (P : Program) (f : FuncId) (k : TK) (ob : Ob) (args : List DV) (ob' : Ob) (r : RV) : Prop :=
  ∀ (v : Value) (vals : List Value) (β : Option Nat) (γ : Value) (U : Nat → Nat) (S0 : Nat → Prop) (w : World),
    Rav w (thF β γ U S0) (k.av v) v → Rob 0 w (thF β γ U S0) 0 ob → Rds w U vals args →
    Calls P f (v :: vals).toArray w fun e w' => ∃ rv U' S', e = .returned rv ∧ Below 0 (bare w) w' ∧ (∀ g, g < w.heap.size → ¬ S0 g → w'.heap[g]? = w.heap[g]? ∧ U' g = U g) ∧ (∀ g, S' g → S0 g ∨ w.heap.size ≤ g) ∧ Rob 0 w' (thF β γ U' S') 0 ob' ∧ Rres w' U' rv r
section
variable {P : Program} {N : Nat} {w0 : World} {U0 : Nat → Nat}
def retM (P : Program) (rs : Array ResultVar) (k : TK) (v : Value) (H : World) (V : Nat → Nat) (Q : Nat → Prop) (ob' : Ob) (r : RV) : Exit → AS → Prop
  | .normal, σ | .ret, σ => (∃ ds, ResL P σ rs.toList ds ∧ RV.of ds = r) ∧ σ.t 0 = k.av v ∧ σ.n 0 = ob' ∧ σ.n 1 = .pin H V Q
  | _, _ => False
theorem ctrM {f : FuncId} {fn : Func} {c : Code} {k : TK} {ob ob' : Ob} {args : List DV} {r : RV} {n : Nat} {rs : Array ResultVar} {L : List (Nat × AV)} (hf : P.funcs[f]? = some fn) (hb : fn.body = some c) (hn : fn.ntmps = n) (hr : fn.results = rs) (hl : Nat.ble (args.length + 1) n = true) (hk : k.ok ob = true) (hk' : k.ok ob' = true) (hL : args0 args 1 = L)
    (h : ∀ w0 U0 v H V Q, A P n w0 U0 c (retM P rs k v H V Q ob' r) (SS ((0, k.av v) :: L) [(0, ob), (1, .pin H V Q)])) : CtrM P f k ob args ob' r := by
  subst hn
  subst hr
  subst hL
  intro v vals β γ U S0 w hv hob hR
  have hle := Nat.le_of_ble_eq_true hl
  have hsz : ((v :: vals).toArray ++ Array.replicate (fn.ntmps - (v :: vals).toArray.size) undef).size = fn.ntmps := by have := hR.1; simp; omega
  let F : Fr := ⟨fun _ => β, fun _ => γ, U, fun j g => if j = 0 then S0 g else (g < w.heap.size ∧ ¬ S0 g)⟩
  have hget : ∀ t, ((v :: vals).toArray ++ Array.replicate (fn.ntmps - (v :: vals).toArray.size) undef).getD t undef = if t = 0 then v else if h : t - 1 < vals.length then vals[t - 1] else undef := by
    intro t
    cases t with
    | zero =>
      rw [Array.getD_eq_getD_getElem?, Array.getElem?_append_left (by simp)]
      simp
    | succ t =>
      rw [Array.getD_eq_getD_getElem?]
      rcases Nat.lt_or_ge t vals.length with ht | ht
      · rw [Array.getElem?_append_left (by simp; omega)]
        simp [ht]
      · rw [Array.getElem?_append_right (by simp; omega), Array.getElem?_replicate]
        simp only [Nat.add_one_ne_zero, if_false]
        rw [dif_neg (by omega)]
        split <;> rfl
  have hfit : Fits (bare w) U (SS ((0, k.av v) :: args0 args 1) [(0, ob), (1, .pin w U (fun g => g < w.heap.size ∧ ¬ S0 g))]) ⟨(v :: vals).toArray ++ Array.replicate (fn.ntmps - (v :: vals).toArray.size) undef, []⟩ w F := by
    refine ⟨fun b hb => rfl, fun t => ?_, fun m => ?_, fun m m' b h1 h2 h3 h4 => ?_⟩
    · show Rav w F (bif Nat.beq 0 t then k.av v else lk (args0 args 1) t) _
      rw [hget]
      cases t with
      | zero => rw [Nat.beq_refl, if_pos rfl]; cases k <;> exact hv
      | succ t =>
        rw [nbeq (by omega), cond_false, args0_get, if_neg (by omega)]
        split
        · rename_i ht
          have hl := hR.1
          have ht' : t < args.length := by have := ht.2; omega
          simp only [Nat.add_sub_cancel]
          rw [dif_pos (by omega)]
          exact hR.2 t _ _ (List.getElem?_eq_getElem (by omega)) (List.getElem?_eq_getElem ht')
        · trivial
    · show Rob 0 w F m (bif Nat.beq 0 m then ob else bif Nat.beq 1 m then .pin w U _ else .no)
      by_cases h0 : m = 0
      · subst h0
        rw [Nat.beq_refl]
        exact hob.move (k := k) hk (fun _ => rfl) (fun _ => rfl) (fun b => by simp [F, thF]) rfl
      · rw [nbeq (Ne.symm h0), cond_false]
        by_cases h1 : m = 1
        · subst h1
          rw [Nat.beq_refl]
          exact ⟨fun b => by simp [F], fun b hq => ⟨Nat.zero_le _, hq.1, rfl, rfl⟩⟩
        · rw [nbeq (Ne.symm h1), cond_false]; trivial
    · have key : ∀ m, ((SS ((0, k.av v) :: args0 args 1) [(0, ob), (1, .pin w U (fun g => g < w.heap.size ∧ ¬ S0 g))]).n m).live = true → m = 0 ∨ m = 1 := by
        intro m hm
        by_cases h0 : m = 0
        · exact .inl h0
        · by_cases h1 : m = 1
          · exact .inr h1
          · have : (SS ((0, k.av v) :: args0 args 1) [(0, ob), (1, .pin w U (fun g => g < w.heap.size ∧ ¬ S0 g))]).n m = .no := by
              show (bif Nat.beq 0 m then ob else bif Nat.beq 1 m then _ else .no) = _
              rw [nbeq (Ne.symm h0), cond_false, nbeq (Ne.symm h1), cond_false]
            rw [this] at hm; cases hm
      rcases key m h1 with rfl | rfl <;> rcases key m' h2 with rfl | rfl
      · rfl
      · have g1 : S0 b := h3
        have g2 : b < w.heap.size ∧ ¬ S0 b := h4
        exact absurd g1 g2.2
      · have g1 : S0 b := h4
        have g2 : b < w.heap.size ∧ ¬ S0 b := h3
        exact absurd g1 g2.2
      · rfl
  refine calls_of_wp hf hb ((h (bare w) U v w U (fun g => g < w.heap.size ∧ ¬ S0 g)).go _ w ⟨rfl, hsz, ⟨rfl, rfl, rfl, Nat.zero_le _, fun k hk => by have : k < 0 := hk; omega⟩, F, hfit⟩ _ (fun e σ' a' w' hr hs' => ?_))
  have key : ((∃ ds, ResL P σ' fn.results.toList ds ∧ RV.of ds = r) ∧ σ'.t 0 = k.av v ∧ σ'.n 0 = ob' ∧ σ'.n 1 = .pin w U (fun g => g < w.heap.size ∧ ¬ S0 g)) → a'.defers = [] ∧ ∃ x, (results fn a'.tmps).run P w' = .ok x w' ∧ ∃ rv U' S', Ending.returned x = .returned rv ∧ Below 0 (bare w) w' ∧ (∀ g, g < w.heap.size → ¬ S0 g → w'.heap[g]? = w.heap[g]? ∧ U' g = U g) ∧ (∀ g, S' g → S0 g ∨ w.heap.size ≤ g) ∧ Rob 0 w' (thF β γ U' S') 0 ob' ∧ Rres w' U' rv r := by
    rintro ⟨⟨ds, hL, hrr⟩, ht0, hn0, hn1⟩
    obtain ⟨F', hF⟩ := hs'.f
    obtain ⟨vs, h1, h2⟩ := hL.run hF
    have hm : (fn.results.mapM (resVal a')).run P w' = .ok vs.toArray w' := by
      rw [Array.mapM_eq_mapM_toList]
      simp [h1]
    have hp := hF.n 1
    rw [hn1] at hp
    obtain ⟨hp1, hp2⟩ := hp
    have ho : Rob 0 w' F' 0 ob' := by have := hF.n 0; rwa [hn0] at this
    have hl0 : (σ'.n 0).live = true := by rw [hn0]; cases k <;> cases ob' <;> simp [TK.ok] at hk' <;> rfl
    have hl1 : (σ'.n 1).live = true := by rw [hn1]; rfl
    have hav : Rav w' F' (k.av v) (a'.tmps.getD 0 undef) := by have := hF.t 0; rwa [ht0] at this
    refine ⟨hs'.d, if hh : vs.toArray.size = 1 then vs.toArray[0] else .tuple vs.toArray, ?_, _, F'.U, F'.S 0, rfl, hs'.b, fun g hg hS => ?_, fun g hg => ?_, ?_, ?_⟩
    · have hres : results fn a'.tmps = (fn.results.mapM (resVal a') >>= fun vs => pure (if h : vs.size = 1 then vs[0] else .tuple vs)) := rfl
      rw [hres, Sem.run_bind, hm]
      rfl
    · obtain ⟨_, _, g3, g4⟩ := hp2 g ⟨hg, hS⟩
      exact ⟨g3, g4⟩
    · by_cases hS : S0 g
      · exact .inl hS
      · by_cases hlt : g < w.heap.size
        · have := hF.i 0 1 g hl0 hl1 hg ((hp1 g).2 ⟨hlt, hS⟩)
          cases this
        · exact .inr (by omega)
    · refine ho.move (k := k) hk' (fun hkp => ?_) (fun hkr => ?_) (fun b => Iff.rfl) rfl
      · subst hkp
        obtain ⟨e1, b', e2, e3⟩ := hav
        obtain ⟨e4, b, e5, e6⟩ := hv
        show β = F'.β 0
        rw [e2]
        have e5' : β = some b := e5
        rw [e5']
        rw [e3] at e6
        injection e6 with e6
        injection e6 with e6
        injection e6 with e6
        rw [e6]
      · subst hkr
        obtain ⟨e1, e2⟩ := hav
        obtain ⟨e4, e5⟩ := hv
        exact e5.symm.trans e2
    · subst hrr
      have hl := h2.1
      match vs, ds, hl, h2 with
      | [], [], _, h2 => exact ⟨_, rfl, h2⟩
      | [v], [d], _, h2 => exact h2.2 0 v d rfl rfl
      | v :: v2 :: vs, d :: d2 :: ds, _, h2 =>
        have : ¬ ((v :: v2 :: vs).toArray.size = 1) := by simp
        rw [dif_neg this]
        exact ⟨_, rfl, h2⟩
  cases e with
  | normal => exact key hr
  | ret => exact key hr
  | _ => exact hr.elim
/-- what the call leaves to the caller -/
theorem callM_fit {o : Oper} {σ : AS} {a : Act} {w w' : World} {F : Fr} (m : Nat) {k : TK} {ob ob' : Ob} (hs : St N w0 U0 σ a w) (hF : Fits w0 U0 σ a w F) (hm : σ.n m = ob) (hk : k.ok ob = true) (hk' : k.ok ob' = true) (hd : dOk o N = true) {rv : Value} {U' : Nat → Nat} {S' : Nat → Prop} {r : RV}
    (h1 : Below 0 (bare w) w') (h2 : ∀ g, g < w.heap.size → ¬ F.S m g → w'.heap[g]? = w.heap[g]? ∧ U' g = F.U g) (h3 : ∀ g, S' g → F.S m g ∨ w.heap.size ≤ g) (h4 : Rob 0 w' (thF (F.β m) (F.γ m) U' S') 0 ob') (h5 : Rres w' U' rv r) (rns : List Nat) :
    St N w0 U0 ((⟨o.dst.map fun d => (d, r.av), [(m, ob')], rns, []⟩ : Eff).ap σ) (a.put o.dst rv) w' := by
  have hB := hs.b.size
  have hob : Rob w0.heap.size w F m ob := by have := hF.n m; rwa [hm] at this
  have hlm : (σ.n m).live = true := by rw [hm]; cases k <;> cases ob <;> simp [TK.ok] at hk <;> rfl
  have hSB : ∀ b, F.S m b → w0.heap.size ≤ b ∧ b < w.heap.size := fun b hb => hob.lt (by rw [← hm]; exact hlm) hb
  have hE : Ext w F.U w' U' := by
    refine ⟨fun b o u hc ho => ?_, fun q es c hq hu => ?_⟩
    · have hlt := World.block_lt_of_cell? w _ hc
      have hnS : ¬ F.S m b := fun hb => by have := hob.zero hk hb; omega
      obtain ⟨g1, g2⟩ := h2 b hlt hnS
      exact ⟨(World.cell?_of_block g1).trans hc, by rw [g2]; exact ho⟩
    · have hlt : q < w.heap.size := (Array.getElem?_eq_some_iff.1 hq).1
      have hnS : ¬ F.S m q := fun hb => by have := hob.zero hk hb; omega
      exact h2 q hlt hnS
  have hold : ∀ b, b < w0.heap.size → w'.heap[b]? = w.heap[b]? ∧ U' b = F.U b := fun b hb => h2 b (by omega) (fun hS => by have := (hSB b hS).1; omega)
  have hsz : w0.heap.size ≤ w'.heap.size := by
    rcases Nat.eq_zero_or_pos w0.heap.size with hz | hz
    · omega
    · have h6 := (hold (w0.heap.size - 1) (by omega)).1
      rw [Array.getElem?_eq_getElem (show w0.heap.size - 1 < w.heap.size by omega)] at h6
      have := (Array.getElem?_eq_some_iff.1 h6).1
      omega
  let F' : Fr := ⟨F.β, F.γ, U', fun j g => if j = m then S' g else F.S j g⟩
  have hnw : ∀ j, nwGet [(m, ob')] j = if j = m then some ob' else none := fun j => by
    show (bif Nat.beq m j then some ob' else none) = _
    by_cases hj : j = m
    · subst hj; rw [Nat.beq_refl, if_pos rfl]; rfl
    · rw [nbeq (Ne.symm hj), if_neg hj]; rfl
  have hfit : Fits w0 U0 ((⟨o.dst.map fun d => (d, r.av), [(m, ob')], rns, []⟩ : Eff).ap σ) (a.put o.dst rv) w' F' := by
    refine hF.big (F' := F') hE (fun b hb => (hold b hb).2) (fun j hj => ?_) (fun j hj => .inl ⟨rfl, rfl⟩) (fun j hl hj b hb hlt => ?_) (fun j o' hj => ?_) (fun j o' j' b hj hl hjj hl' hb hb' => ?_) (fun j o' j' o'' b hj hl hjj hl' hb hb' => ?_) (hta_put hd hs.s r.av rv).1 (fun d v' h => ?_) rns []
    · rw [hnw] at hj
      have a1 : j ≠ m := fun e => by rw [if_pos e] at hj; cases hj
      exact ⟨rfl, rfl, fun b => by show (if j = m then _ else _) ↔ _; rw [if_neg a1]⟩
    · rw [hnw] at hj
      have a1 : j ≠ m := fun e => by rw [if_pos e] at hj; cases hj
      exact h2 b hlt (fun hS => a1 (hF.i j m b hl hlm hb hS))
    · rw [hnw] at hj
      by_cases a1 : j = m
      · rw [if_pos a1] at hj
        injection hj with hj
        subst hj a1
        refine Rob.rebase (k := k) hk' (h4.move (k := k) hk' (fun _ => rfl) (fun _ => rfl) (fun b => by show (if j = j then S' b else _) ↔ S' b; rw [if_pos rfl]) rfl) (fun b hb => ?_)
        have hb' : (if j = j then S' b else F.S j b) := hb
        rw [if_pos rfl] at hb'
        rcases h3 b hb' with h6 | h6
        · exact (hSB b h6).1
        · omega
      · rw [if_neg a1] at hj; cases hj
    · rw [hnw] at hj hjj
      have a1 : j = m := by
        by_cases a1 : j = m
        · exact a1
        · rw [if_neg a1] at hj; cases hj
      have a2 : j' ≠ m := fun e => by rw [if_pos e] at hjj; cases hjj
      have hb1 : (if j = m then S' b else F.S j b) := hb
      rw [if_pos a1] at hb1
      rcases h3 b hb1 with h6 | h6
      · exact a2 (hF.i j' m b hl' hlm hb' h6)
      · have := ((hF.n j').lt hl' hb').2; omega
    · rw [hnw] at hj hjj
      have key : ∀ j (o : Ob), (if j = m then some ob' else none) = some o → j = m := fun j o hj => by
        by_cases a1 : j = m
        · exact a1
        · rw [if_neg a1] at hj; cases hj
      rw [key j o' hj, key j' o'' hjj]
    · obtain ⟨rfl, h3⟩ := (hta_put hd hs.s r.av rv).2 d v' h
      rw [h3]
      exact Rres.av (F := F') h5
  exact ⟨by rw [put_defers]; exact hs.d, by rw [put_size]; exact hs.s, ⟨h1.os.trans hs.b.os, h1.tape.trans hs.b.tape, h1.output.trans hs.b.output, hsz, fun b hb => (hold b hb).1.trans (hs.b.block b hb)⟩, _, hfit⟩
theorem op_callM {o : Oper} {σ : AS} {f : FuncId} {args : Array Operand} {ats : Array TypeId} (k : TK) {m : Nat} {ob ob' : Ob} (ho : o.op = .call { callee := .value (.func f), args := args, argTypes := ats }) {fn : Func} (hf : P.funcs[f]? = some fn) (hn : (fn.name == "runtime.NumGoroutine") = false) (hb : fn.body.isNone = false)
    {x : Operand} {xs : List Operand} (hxs : args.toList = x :: xs) (hx : σ.ev x = k.cav m) (hm : σ.n m = ob) (hk : k.ok ob = true) (hk' : k.ok ob' = true) {ds : List DV} {rns : List Nat} {r : RV} (ha : ArgsS σ xs ds rns) (hc : CtrM P f k ob ds ob' r) (hd : dOk o N = true) : OpS P N w0 U0 o σ ⟨o.dst.map fun d => (d, r.av), [(m, ob')], m :: rns, []⟩ := by
  intro σ' hok a w hs K Q hK
  obtain ⟨F, hF⟩ := hs.f
  have hmem : ∀ y ∈ args.toList, σ'.ev y = σ.ev y := fun y hy => ev_ok hok (by simp [ho, Op.operands, Call.operands]; exact .inr (by simpa using hy))
  have hR := ha.get hF (fun j hj => hok.n j (by simp [hj])) (fun y hy => hmem y (by rw [hxs]; simp [hy]))
  have hm' : σ'.n m = ob := (hok.n m (by simp)).trans hm
  have hv : Rav w (thF (F.β m) (F.γ m) F.U (F.S m)) (k.av (a.eval x)) (a.eval x) := by
    have := hF.ev x
    rw [hmem x (by rw [hxs]; simp), hx] at this
    cases k with
    | p =>
      obtain ⟨b, h1, h2⟩ := this
      exact ⟨rfl, b, h1, h2⟩
    | r => exact ⟨rfl, this⟩
  have hob : Rob 0 w (thF (F.β m) (F.γ m) F.U (F.S m)) 0 ob := by
    have := hF.n m
    rw [hm'] at this
    exact (Rob.debase hk this).move (k := k) hk (fun _ => rfl) (fun _ => rfl) (fun b => Iff.rfl) rfl
  have hcall := hc (a.eval x) _ (F.β m) (F.γ m) F.U (F.S m) w hv hob hR
  unfold Oper.wp
  have hex : (execOp a.eval o).run P w = .ok (.enter f (a.eval x :: xs.map a.eval).toArray) w := by
    unfold execOp
    simp only [ho, resolve, Act.eval, Deferred.ofValue, invoke, Sem.run_bind, Sem.run_pure, Result.andThen_ok]
    have e1 : (#[] ++ Array.map a.eval args ++ #[] : Array Value) = (a.eval x :: xs.map a.eval).toArray := by
      apply Array.ext'
      simp [hxs]
    rw [e1]
    exact run_call hf hn hb _ w
  rw [hex, Oper.upon_enter]
  refine Calls.mono hcall ?_
  rintro e w' ⟨rv, U', S', rfl, h1, h2, h3, h4, h5⟩
  exact hK _ _ (callM_fit (o := o) m hs hF hm' hk hk' hd h1 h2 h3 h4 h5 (m :: rns))
/-- the thing's slot says less -/
theorem imp_pv {L : List (Nat × AV)} {M : List (Nat × Ob)} (t m : Nat) {v : Value} (ht : lk L t = .pv m v) : Imp N w0 U0 (SS L M) (SS ((t, .pt m 0) :: L) M) := by
  intro a w hs
  obtain ⟨F, hF⟩ := hs.f
  refine ⟨hs.d, hs.s, hs.b, F, hF.u, fun j => ?_, hF.n, hF.i⟩
  show Rav w F (bif Nat.beq t j then AV.pt m 0 else lk L j) _
  by_cases hj : t = j
  · subst hj
    rw [Nat.beq_refl]
    have h1 : Rav w F (lk L t) _ := hF.t t
    rw [ht] at h1
    obtain ⟨e, b, h2, h3⟩ := h1
    exact ⟨b, h2, e.trans h3⟩
  · rw [nbeq hj]
    exact hF.t j
theorem imp_pw {L : List (Nat × AV)} {M : List (Nat × Ob)} (t m : Nat) {v : Value} (ht : lk L t = .pw m v) : Imp N w0 U0 (SS L M) (SS ((t, .ow m) :: L) M) := by
  intro a w hs
  obtain ⟨F, hF⟩ := hs.f
  refine ⟨hs.d, hs.s, hs.b, F, hF.u, fun j => ?_, hF.n, hF.i⟩
  show Rav w F (bif Nat.beq t j then AV.ow m else lk L j) _
  by_cases hj : t = j
  · subst hj
    rw [Nat.beq_refl]
    have h1 : Rav w F (lk L t) _ := hF.t t
    rw [ht] at h1
    exact h1.1.trans h1.2
  · rw [nbeq hj]
    exact hF.t j
theorem op_move_pv {o : Oper} {σ : AS} {x : Operand} (ho : o.op = .move x) {m : Nat} {v : Value} (hx : σ.ev x = .pv m v) (hd : dOk o N = true) : OpS P N w0 U0 o σ ⟨o.dst.map fun d => (d, .pt m 0), [], [], []⟩ :=
  opS_still hd fun σ' hok a w F hF => by
    obtain ⟨e, b, h2, h3⟩ := ev_get hok hF (by simp [ho, Op.operands]) hx
    exact ⟨a.eval x, by simp [execOp, ho], b, h2, e.trans h3⟩
theorem op_move_pw {o : Oper} {σ : AS} {x : Operand} (ho : o.op = .move x) {m : Nat} {v : Value} (hx : σ.ev x = .pw m v) (hd : dOk o N = true) : OpS P N w0 U0 o σ ⟨o.dst.map fun d => (d, .ow m), [], [], []⟩ :=
  opS_still hd fun σ' hok a w F hF => by
    obtain ⟨e, h2⟩ := ev_get hok hF (by simp [ho, Op.operands]) hx
    exact ⟨a.eval x, by simp [execOp, ho], e.trans h2⟩
theorem s_field_pv {o : Oper} {σ : AS} {s : TypeId} {x : Operand} {f : Nat} (ho : o.op = .fieldAddr s x f) {fs : Array Field} (hu : P.underlying s = some (.struct fs)) {fd : Field} (hf : fs[f]? = some fd) {z : Value} {sz b : Nat} (hi : TI P fd.type z sz b) (hz : Nat.blt 0 sz = true)
    {m : Nat} {v : Value} (hx : σ.ev x = .pv m v) (hd : dOk o N = true) : OpS P N w0 U0 o σ ⟨o.dst.map fun d => (d, .pt m fd.offset), [], [], []⟩ :=
  opS_still hd fun σ' hok a w F hF => by
    obtain ⟨i, g1, _, g3, _⟩ := hi
    have hzz := Nat.le_of_ble_eq_true hz
    obtain ⟨e, b, h1, h3⟩ := ev_get hok hF (x := x) (by simp [ho, Op.operands]) hx
    have h2 := e.trans h3
    refine ⟨.pointer (some ⟨b, fd.offset, none⟩), ?_, b, h1, rfl⟩
    simp [execOp, ho, h2, Instr.fieldAt, run_underlying hu, hf, Instr.sureAddr, fieldPlace, sizeOf, typeInfo, g1, show i.size ≠ 0 by omega, add_plain']
theorem dr_upd {ops : Array Oper} {k : Nat} {o : Oper} {L : List (Nat × AV)} {M : List (Nat × Ob)} {R : AS → Prop} {σ0 : AS} {sk : List Sk} {d : Nat} {v : AV} {nw : List (Nat × Ob)} {rn : List Nat} (ho : ops[k]? = some o) (h : OpG P N w0 U0 ops o (SS L M) ⟨some (d, v), nw, rn, []⟩) (hr : DR P N w0 U0 ops σ0 (k + 1) (sk ++ [⟨some d, nw.map (·.1), rn, [], v.names⟩]) (SS ((d, v) :: L) (nw ++ M)) R) : DR P N w0 U0 ops σ0 k sk (SS L M) R :=
  dr_step ho h (by rw [ap_ss]; exact hr)
end
end Go.Proofs.Ytobgdemhadlgnaa.Av

namespace Go.Proofs.Ytobgdemhadlgnaa.Av
open Go Go.RowKit Go.ChangeMaps
section
variable {P : Program} {N : Nat} {w0 : World} {U0 : Nat → Nat}
theorem op_nilCheck {o : Oper} {σ : AS} {x : Operand} (ho : o.op = .nilCheck x) {m j : Nat} (hx : (σ.ev x).ptOf = some (m, j)) (hd : dOk o N = true) : OpS P N w0 U0 o σ ⟨o.dst.map fun d => (d, .pt m j), [], [], []⟩ :=
  opS_still hd fun σ' hok a w F hF => by
    obtain ⟨b, h2, h3⟩ := pt_get hok hF (x := x) (by simp [ho, Op.operands]) hx
    exact ⟨_, by simp [execOp, ho, h3], b, h2, rfl⟩
theorem b_rem (t : TypeId) (a c : Int) (x y : Operand) (w : World) (h0 : 0 ≤ a) (hc : 0 < c) : (do eqGuard .rem t x y (.int .i64 a) (.int .i64 c); binOp .rem t (.int .i64 a) (.int .i64 c) : Sem Value).run P w = .ok (.int .i64 (a % c)) w := by
  have : c ≠ 0 := by omega
  simp [eqGuard, binOp, Op.intDiv, this, Int.tmod_eq_emod_of_nonneg h0]
theorem op_cap_nil {o : Oper} {σ : AS} {t e : TypeId} {x : Operand} (ho : o.op = .call { callee := .builtin .cap, args := #[x], argTypes := #[t] }) (hu : P.underlying t = some (.slice e)) {n c : Nat} {A : Option Addr} (hx : σ.ev x = .d (.fl (.slice A n c))) (hd : dOk o N = true) : OpS P N w0 U0 o σ ⟨o.dst.map fun d => (d, .d (.fl (.int .i64 c))), [], [], []⟩ :=
  opS_still hd fun σ' hok a w F hF => by
    have h1 := flat_val (ev_get hok hF (x := x) (by simp [ho, Op.operands, Call.operands]) hx)
    exact ⟨_, by simp [execOp, ho, resolve, invoke, builtin, Builtin.cap_, h1, run_underlying hu, goInt], .fl _⟩
theorem find_at {td : TypeDesc} {k : Value} : ∀ (es : List MapEntry) (i : Nat) {j : Nat} {v : Value}, Instr.findNow td k es i = some (some (j, v)) → ∃ e, i ≤ j ∧ es[j - i]? = some e ∧ e.val = v ∧ Instr.sameNow td k e.key = some true
  | [], i, j, v, h => by simp [Instr.findNow] at h
  | e :: es, i, j, v, h => by
    unfold Instr.findNow at h
    cases hs : Instr.sameNow td k e.key with
    | none => rw [hs] at h; cases h
    | some b =>
      rw [hs] at h
      cases b with
      | true =>
        simp at h
        obtain ⟨rfl, rfl⟩ := h
        exact ⟨e, Nat.le_refl _, by simp, rfl, hs⟩
      | false =>
        simp only at h
        obtain ⟨e', h1, h2, h3, h4⟩ := find_at es (i + 1) h
        exact ⟨e', by omega, by rw [show j - i = (j - (i + 1)) + 1 by omega]; simpa using h2, h3, h4⟩
/-- 'm[k] = v' at a key that has this very value -/
theorem op_mapSame {o : Oper} {σ : AS} {t : TypeId} {x y z : Operand} (ho : o.op = .mapUpdate t x y z) (hdn : o.dst = none) {kt et : TypeId} (ht : P.underlying t = some (.map kt et)) {td : TypeDesc} (hk : P.underlying kt = some td) (htd : keyTd td = true)
    {m : Nat} {xs : List (Value × DV)} (hx : σ.ev x = .ow m) (hm : σ.n m = .mp xs) {q : IntKind} {p : Int} (hy : σ.ev y = .d (.fl (.int q p))) {v : Value} (hr : mfind td (.int q p) xs = some (some (.fl v))) (hz : σ.ev z = .d (.fl v)) :
    OpS P N w0 U0 o σ ⟨none, [(m, .mp xs)], [m], []⟩ := by
  intro σ' hok a w hs K Q hK
  obtain ⟨F, hF⟩ := hs.f
  have hv : a.eval x = F.γ m := ev_get hok hF (x := x) (by simp [ho, Op.operands]) hx
  have hkv : a.eval y = .int q p := flat_val (ev_get hok hF (x := y) (by simp [ho, Op.operands]) hy)
  have hvz : a.eval z = v := flat_val (ev_get hok hF (x := z) (by simp [ho, Op.operands]) hz)
  have hm' : σ'.n m = .mp xs := by rw [hok.n m (by simp)]; exact hm
  have hn := hF.n m
  rw [hm'] at hn
  obtain ⟨b, es, c, h1, h2, h3, h4, h5, h6, hst⟩ := hn
  have hlt : b < w.heap.size := (Array.getElem?_eq_some_iff.1 h4).1
  obtain ⟨_, g2⟩ := find_ents es.toList xs 0 h5 _ hr
  obtain ⟨j, u, g3, g4⟩ := g2 _ rfl
  have hu : u = v := by cases g4; rfl
  subst hu
  obtain ⟨e, _, g5, g6, g7⟩ := find_at es.toList 0 g3
  have g5 : es[j]? = some e := by simpa using g5
  have g8 : (Value.int q p) = e.key := sameNow_eq g7
  have hmod : (es.modify j fun e => { e with key := .int q p, val := u }) = es := by
    apply Array.ext
    · simp
    · intro i h1 h2
      rw [Array.getElem_modify]
      split
      · rename_i hji
        subst hji
        have g9 : es[j] = e := by have := Array.getElem?_eq_getElem (show j < es.size by simpa using h1); rw [this] at g5; injection g5
        rw [g9]
        cases e
        simp at g6 g8
        subst g6 g8
        rfl
      · rfl
  have hrun : (execOp a.eval o).run P w = .ok .skip (setBlock w b (.map es c)) := by
    simp [execOp, ho, hv, h1, hkv, hvz, Instr.mapUpdate, run_underlying ht, MapKept.run_getObj_map h4, run_checkKey' hk htd, run_findKey' hk g3, g5, ← g8, Instr.keyThatStays, Instr.sameBits, hmod, MapKept.run_setObj_map _ h4, Result.andThen, setBlock]
  have hE := ext_setBlock (w := w) (Obj.map es c) h3
  have hfit := hF.setobj (a' := a) (m := m) (b := b) (by rw [hm']; rfl) h6 h3 (obj := .map es c) (ob := .mp xs) ⟨b, _, _, h1, h2, h3, setBlock_same _ hlt, h5.ext hE, h6, hst⟩
    (tw := none) (fun _ => rfl) (fun _ _ h => by cases h) [m]
  unfold Oper.wp
  rw [hrun]
  have : a.put o.dst undef = a := by rw [hdn]; rfl
  unfold Oper.upon
  simp only [this]
  exact hK _ _ ⟨hs.d, hs.s, below_setBlock hs.b h2 _, _, hfit⟩
theorem Res1.cellT {σ : AS} {a : Tmp} {ty : TypeId} {m : Nat} {ty' : TypeId} {cs : List DV} {desc : TypeDesc} {z : Value} {sz b : Nat} {d : DV} (ha : (σ.t a).ptOf = some (m, 0)) (hm : σ.n m = .bx ty' cs) (hu : P.underlying ty = some desc) (hg : aggD desc = true) (hi : TI P ty z sz b) (hl : Nat.beq cs.length sz = true) (hc : Cv (.ag cs) d) : Res1 P σ (.cell a ty) d := by
  obtain ⟨i, g1, _, g3, _⟩ := hi
  exact .cell ha hm hu hg g1 (by rw [g3]; exact hl) hc
end
end Go.Proofs.Ytobgdemhadlgnaa.Av

namespace Go.Proofs.Ytobgdemhadlgnaa.Av
open Go Go.RowKit
/-- the table reads so -/
def Glo (g : Nat) (gs : List DV) (w : World) (U : Nat → Nat) : Prop := Rd w U (.pointer (some ⟨g, 0, none⟩)) (.el gs)
/-- a function takes such data to such a result where the table reads so -/
def CtrG (P : Program) (g : Nat) (gs : List DV) (f : FuncId) (args : List DV) (r : RV) : Prop :=
  ∀ (vals : List Value) (U : Nat → Nat) (w : World), Glo g gs w U → Rds w U vals args → Calls P f vals.toArray w fun e w' => ∃ v U', e = .returned v ∧ Below w.heap.size w w' ∧ (∀ b, b < w.heap.size → U' b = U b) ∧ Rres w' U' v r
theorem ctrG_of {P : Program} {g : Nat} {gs : List DV} {f : FuncId} {args : List DV} {r : RV} (h : Ctr P f args r) : CtrG P g gs f args r := fun vals U w _ hR => h vals U w hR
section
variable {P : Program} {N : Nat} {w0 : World} {U0 : Nat → Nat}
theorem Fits.glo {σ : AS} {a : Act} {w : World} {F : Fr} (hs : St N w0 U0 σ a w) (hF : Fits w0 U0 σ a w F) {g : Nat} {gs : List DV} (hG : Glo g gs w0 U0) : Glo g gs w F.U :=
  Rd.ext (Up.ext (⟨fun b hb => hs.b.block b hb, hF.u⟩ : Up w0 U0 w F.U)) hG
theorem op_callG {o : Oper} {σ : AS} {f : FuncId} {args : Array Operand} {ats : Array TypeId} {g : Nat} {gs : List DV} (hG : Glo g gs w0 U0) (ho : o.op = .call { callee := .value (.func f), args := args, argTypes := ats }) {fn : Func} (hf : P.funcs[f]? = some fn) (hn : (fn.name == "runtime.NumGoroutine") = false) (hb : fn.body.isNone = false)
    {ds : List DV} {rns : List Nat} {r : RV} (ha : ArgsS σ args.toList ds rns) (hc : CtrG P g gs f ds r) (hd : dOk o N = true) : OpS P N w0 U0 o σ ⟨o.dst.map fun d => (d, r.av), [], rns, []⟩ := by
  intro σ' hok a w hs K Q hK
  obtain ⟨F, hF⟩ := hs.f
  have hR := ha.get hF hok.n (fun x hx => ev_ok hok (by simp [ho, Op.operands, Call.operands]; exact .inr (by simpa using hx)))
  have hcall := hc _ F.U w (hF.glo hs hG) hR
  unfold Oper.wp
  have hex : (execOp a.eval o).run P w = .ok (.enter f (args.toList.map a.eval).toArray) w := by
    unfold execOp
    simp only [ho, resolve, Act.eval, Deferred.ofValue, invoke, Sem.run_bind, Sem.run_pure, Result.andThen_ok]
    have e1 : (#[] ++ Array.map a.eval args ++ #[] : Array Value) = (args.toList.map a.eval).toArray := by
      apply Array.ext'
      simp
    rw [e1]
    exact run_call hf hn hb _ w
  rw [hex, Oper.upon_enter]
  refine Calls.mono hcall ?_
  rintro e w' ⟨v, U', rfl, h1, h2, h3⟩
  have hfit := hF.put (U' := U') hs.b.size ⟨h1.block, h2⟩ hd hs.s (av := r.av) (v := v) (Rres.av (F := { F with U := U' }) h3) rns []
  exact hK _ _ ⟨by rw [put_defers]; exact hs.d, by rw [put_size]; exact hs.s, hs.b.trans (h1.mono hs.b.size), _, hfit⟩
/-- an element of the table -/
theorem op_indexG {o : Oper} {σ : AS} {t e : TypeId} {n g : Nat} {gs : List DV} {y : Operand} (hG : Glo g gs w0 U0) (ho : o.op = .indexAddr t (.global g) y) (hu : P.underlying t = some (.array n e)) {zv : Value} {bb : Nat} (hi : TI P e zv 1 bb) {k : IntKind} {i : Int} (hy : σ.ev y = .d (.fl (.int k i))) (h0 : 0 ≤ i) (h1 : i < n) (hd : dOk o N = true) :
    OpS P N w0 U0 o σ ⟨o.dst.map fun d => (d, .el (gs.drop i.toNat)), [], [], []⟩ := by
  intro σ' hok a w hs K Q hK
  obtain ⟨F, hF⟩ := hs.f
  obtain ⟨info, g1, _, g3, _⟩ := hi
  have hyv : a.eval y = .int k i := flat_val (ev_get hok hF (x := y) (by simp [ho, Op.operands]) hy)
  obtain ⟨b, off, he, hc⟩ := elD (hF.glo hs hG)
  injection he with he; injection he with he; injection he with hb ho' _
  subst hb ho'
  have hrun : (execOp a.eval o).run P w = .ok (.value (.pointer (some ⟨g, i.toNat, none⟩))) w := by
    have hx : a.eval (.global g) = .pointer (some ⟨g, 0, none⟩) := rfl
    simp [execOp, ho, hx, hyv, Instr.indexAt, asIntOf, run_underlying hu, Instr.sureAddr, h0, h1, sizeOf, typeInfo, g1, g3, add_plain']
  have hv : Rav w F (.el (gs.drop i.toNat)) (.pointer (some ⟨g, i.toNat, none⟩)) := by
    refine elM fun j x hx => ?_
    rw [List.getElem?_drop] at hx
    obtain ⟨u, k1, k2, k3, k4⟩ := hc (i.toNat + j) x hx
    exact ⟨u, by simpa using k1, by simpa using k2, k3, k4⟩
  have hfit := hF.put (U' := F.U) hs.b.size ⟨fun _ _ => rfl, fun _ _ => rfl⟩ hd hs.s (av := .el (gs.drop i.toNat)) (v := .pointer (some ⟨g, i.toNat, none⟩)) hv [] []
  unfold Oper.wp
  rw [hrun]
  exact hK _ _ ⟨by rw [put_defers]; exact hs.d, by rw [put_size]; exact hs.s, hs.b, _, hfit⟩
/-- structures of flat values -/
theorem rd_fl {w : World} {U : Nat → Nat} {v x : Value} (h : Rd w U v (.fl x)) : v = x := by cases h; rfl
theorem rd_flat {w : World} {U : Nat → Nat} {v : Value} {xs : List Value} (h : Rd w U v (.ag (xs.map DV.fl))) : v = .agg xs.toArray := by
  generalize hd : DV.ag (xs.map DV.fl) = d at h
  cases h with
  | ag vs cs hl ho hc =>
    injection hd with hd
    subst hd
    congr 1
    apply Array.ext'
    simp only [List.size_toArray, List.length_map] at hl
    apply List.ext_getElem?
    intro i
    have hl' : vs.toList.length = xs.length := by simpa using hl
    rcases Nat.lt_or_ge i xs.length with hi | hi
    · have h1 : vs.toList[i]? = some (vs.toList[i]'(by omega)) := List.getElem?_eq_getElem _
      have h2 := hc i _ (.fl (xs[i])) h1 (by simp [hi])
      rw [h1, List.getElem?_eq_getElem hi]
      exact congrArg some (rd_fl h2)
    · rw [List.getElem?_eq_none (by omega), List.getElem?_eq_none (by omega)]
  | _ => cases hd
theorem op_eqS {o : Oper} {σ : AS} {op : BinOp} {t t' : TypeId} {x y : Operand} (xs ys : List Value) (ho : o.op = .binOp op t x y t') (hx : σ.ev x = .d (.ag (xs.map DV.fl))) (hy : σ.ev y = .d (.ag (ys.map DV.fl))) {b : Bool}
    (hv : ∀ w, (do eqGuard op t x y (.agg xs.toArray) (.agg ys.toArray); binOp op t (.agg xs.toArray) (.agg ys.toArray) : Sem Value).run P w = .ok (.bool b) w) (hd : dOk o N = true) : OpS P N w0 U0 o σ ⟨o.dst.map fun d => (d, .d (.fl (.bool b))), [], [], []⟩ :=
  opS_still hd fun σ' hok a w F hF => by
    have h1 := rd_flat (ev_get hok hF (x := x) (by simp [ho, Op.operands]) hx)
    have h2 := rd_flat (ev_get hok hF (x := y) (by simp [ho, Op.operands]) hy)
    refine ⟨.bool b, ?_, .fl _⟩
    have := hv w
    simp only [execOp, ho, h1, h2]
    rw [Sem.run_bind, this]
    rfl
/-- entering a function that reads the table -/
theorem ctrG {g : Nat} {gs : List DV} {f : FuncId} {fn : Func} {c : Code} {args : List DV} {r : RV} {n : Nat} {rs : Array ResultVar} {L : List (Nat × AV)} (hf : P.funcs[f]? = some fn) (hb : fn.body = some c) (hn : fn.ntmps = n) (hr : fn.results = rs) (hl : Nat.ble args.length n = true) (hL : args0 args 0 = L)
    (h : ∀ w0 U0, Glo g gs w0 U0 → A P n w0 U0 c (retR P rs r) (SS L [])) : CtrG P g gs f args r := by
  subst hn
  subst hr
  subst hL
  intro vals U w hg hR
  have hle := Nat.le_of_ble_eq_true hl
  have hsz : (vals.toArray ++ Array.replicate (fn.ntmps - vals.toArray.size) undef).size = fn.ntmps := by simp [hR.1]; omega
  refine calls_of_wp hf hb ((h w U hg).go _ _ ⟨rfl, hsz, Below.refl _ _, ⟨fun _ => none, fun _ => undef, U, fun _ _ => False⟩, fun _ _ => rfl, fun t => ?_, fun m => trivial, fun m m' b h => by cases h⟩ _ (fun e σ' a' w' hr hs' => ?_))
  · show Rav w _ (lk (args0 args 0) t) _
    rw [args0_get]
    split
    · rename_i ht
      have hl := hR.1
      have ht' : t < args.length := by simpa using ht.2
      have hv : (vals.toArray ++ Array.replicate (fn.ntmps - vals.toArray.size) undef).getD t undef = vals[t]'(by omega) := by
        rw [Array.getD_eq_getD_getElem?, Array.getElem?_append_left (by simp; omega)]
        simp [List.getElem?_eq_getElem (show t < vals.length by omega)]
      rw [hv]
      exact hR.2 t _ _ (List.getElem?_eq_getElem (by omega)) (by simp [List.getElem?_eq_getElem ht'])
    · trivial
  · have key : (∃ ds, ResL P σ' fn.results.toList ds ∧ RV.of ds = r) → a'.defers = [] ∧ ∃ v, (results fn a'.tmps).run P w' = .ok v w' ∧ ∃ v' U', Ending.returned v = .returned v' ∧ Below w.heap.size w w' ∧ (∀ b, b < w.heap.size → U' b = U b) ∧ Rres w' U' v' r := by
      rintro ⟨ds, hL, hr⟩
      obtain ⟨F, hF⟩ := hs'.f
      obtain ⟨vs, h1, h2⟩ := hL.run hF
      have hm : (fn.results.mapM (resVal a')).run P w' = .ok vs.toArray w' := by
        rw [Array.mapM_eq_mapM_toList]
        simp [h1]
      refine ⟨hs'.d, if hh : vs.toArray.size = 1 then vs.toArray[0] else .tuple vs.toArray, ?_, _, F.U, rfl, hs'.b, hF.u, ?_⟩
      · have hres : results fn a'.tmps = (fn.results.mapM (resVal a') >>= fun vs => pure (if h : vs.size = 1 then vs[0] else .tuple vs)) := rfl
        rw [hres, Sem.run_bind, hm]
        rfl
      · subst hr
        have hl := h2.1
        match vs, ds, hl, h2 with
        | [], [], _, h2 => exact ⟨_, rfl, h2⟩
        | [v], [d], _, h2 => exact h2.2 0 v d rfl rfl
        | v :: v2 :: vs, d :: d2 :: ds, _, h2 =>
          have : ¬ ((v :: v2 :: vs).toArray.size = 1) := by simp
          rw [dif_neg this]
          exact ⟨_, rfl, h2⟩
    cases e with
    | normal => exact key hr
    | ret => exact key hr
    | _ => exact hr.elim
theorem law_trueG {g : Nat} {gs : List DV} {f : FuncId} {args : List DV} (hc : CtrG P g gs f args (.d (.fl (.bool true)))) {vals : List Value} {w : World} (hg : Glo g gs w (UA w)) (h : Rds w (UA w) vals args) : Calls P f vals.toArray w fun e w' => e = .returned (.bool true) ∧ Below w.heap.size w w' := by
  refine Calls.mono (hc vals (UA w) w hg h) ?_
  rintro e w' ⟨v, U', rfl, h1, _, h3⟩
  have h3' : Rd w' U' v (.fl (.bool true)) := h3
  cases h3'
  exact ⟨rfl, h1⟩
end
end Go.Proofs.Ytobgdemhadlgnaa.Av

namespace Go.Proofs.Ytobgdemhadlgnaa.Av
open Go Go.RowKit
section
variable {P : Program} {N : Nat} {w0 : World} {U0 : Nat → Nat}
theorem op_conv {o : Oper} {σ : AS} {src dst : TypeId} {x : Operand} (ho : o.op = .convert src dst x) {k0 k k' : IntKind} {n : Int} (hs : P.underlying src = some (.int k0)) (ht : P.underlying dst = some (.int k)) (hx : σ.ev x = .d (.fl (.int k' n))) (hw : k.wrap n = n) (hd : dOk o N = true) : OpS P N w0 U0 o σ ⟨o.dst.map fun d => (d, .d (.fl (.int k n))), [], [], []⟩ :=
  opS_still hd fun σ' hok a w F hF => by
    have h1 := flat_val (ev_get hok hF (x := x) (by simp [ho, Op.operands]) hx)
    exact ⟨.int k n, by simp [execOp, ho, h1, convert, run_underlying hs, run_underlying ht, Conv.intToInt, hw], .fl _⟩
end
end Go.Proofs.Ytobgdemhadlgnaa.Av

namespace Go.Proofs.Ytobgdemhadlgnaa.Av
open Go Go.RowKit
/-- f(s, i, j) takes the elements from i on and ahead of j out of a row of strings, in place -/
def DelOk (P : Program) (f : FuncId) : Prop :=
  ∀ (b c i j : Nat) (L : List ByteArray) (w : World), L.length ≤ c → c ≤ 9223372036854775807 → i ≤ j → j ≤ L.length →
    (∀ (k : Nat) (s : ByteArray), L[k]? = some s → w.cell? ⟨b, k, none⟩ = some (.string s)) → (∀ k, k < L.length → w.frozen? ⟨b, k, none⟩ = false) →
    Calls P f #[.slice (some ⟨b, 0, none⟩) L.length c, .int .i64 i, .int .i64 j] w fun e w' => e = .returned (.slice (some ⟨b, 0, none⟩) (L.length - (j - i)) c) ∧
      ∃ q, w' = (w.drewN q).setCells b 0 ((L.take i ++ L.drop j).map Value.string ++ List.replicate (j - i) (.string ⟨#[]⟩))
theorem heap_setCells_at {g : Nat} {e : TypeId} : ∀ (vs : List Value) (o : Nat) (w : World) (cur : Array Value), w.heap[g]? = some (.cells cur e (0, 0)) → ∃ cur' : Array Value, (w.setCells g o vs).heap[g]? = some (.cells cur' e (0, 0)) ∧ cur'.size = cur.size
  | [], _, _, cur, h => ⟨cur, h, rfl⟩
  | v :: r, o, w, cur, h => by
    obtain ⟨cur', h1, h2⟩ := heap_setCells_at r (o + 1) (w.setCell ⟨g, o, none⟩ v) _ (heap_setCell_same w g o cur e v h)
    exact ⟨cur', h1, by rw [h2]; simp⟩
theorem rS_flat : ∀ L : List ByteArray, (L.map rS).flatten = L.map fun s => DV.fl (.string s)
  | [] => rfl
  | a :: L => by
    show [DV.fl (.string a)] ++ (L.map rS).flatten = _
    rw [rS_flat L]; rfl
theorem sRow_flat (L : List ByteArray) : (tD rS L).flatten = (L.map fun s => DV.fl (.string s)).map OC.dv := by
  unfold tD
  rw [flat_map_dv, rS_flat]
theorem sRow_len (L : List ByteArray) : (tD rS L).length = L.length := by simp [tD]
section
variable {P : Program} {N : Nat} {w0 : World} {U0 : Nat → Nat}
theorem op_callDel {o : Oper} {σ : AS} {f : FuncId} {s x y : Operand} {ats : Array TypeId} (m : Nat) (ho : o.op = .call { callee := .value (.func f), args := #[s, x, y], argTypes := ats }) {fn : Func} (hf : P.funcs[f]? = some fn) (hn : (fn.name == "runtime.NumGoroutine") = false) (hb : fn.body.isNone = false)
    (hc : DelOk P f) {m0 : Nat} {e : TypeId} {L : List ByteArray} {i j : Nat} {xi yj : Int} (hs : σ.ev s = .ow m0) (hm : σ.n m0 = .tr e 1 (tD rS L)) (hx : σ.ev x = .d (.fl (.int .i64 xi))) (hy : σ.ev y = .d (.fl (.int .i64 yj))) (hxi : xi = (i : Int)) (hyj : yj = (j : Int)) (hij : i ≤ j) (hj : j ≤ L.length) (hL : 0 < L.length) (hd : dOk o N = true) :
    OpS P N w0 U0 o σ ⟨o.dst.map fun d => (d, .ow m), (m, .tr e 1 (tD rS (L.take i ++ L.drop j))) :: [m0].map (fun q => (q, Ob.no)), [m0], [m]⟩ := by
  subst hxi hyj
  intro σ' hok a w hst K Q hK
  obtain ⟨F, hF⟩ := hst.f
  have h1 : a.eval s = F.γ m0 := ev_get hok hF (x := s) (by simp [ho, Op.operands, Call.operands]) hs
  have h2 := flat_val (ev_get hok hF (x := x) (by simp [ho, Op.operands, Call.operands]) hx)
  have h3 := flat_val (ev_get hok hF (x := y) (by simp [ho, Op.operands, Call.operands]) hy)
  have hm' : σ'.n m0 = .tr e 1 (tD rS L) := by rw [hok.n m0 (by simp)]; exact hm
  have hlive : (σ'.n m0).live = true := by rw [hm']; rfl
  have hob := hF.n m0
  rw [hm'] at hob
  obtain ⟨xs, T, g1, g2, g3, g4, g5⟩ := hob
  have hlen : (tD rS L).length = L.length := sRow_len L
  rw [hlen] at g1
  obtain ⟨g1a, g1b⟩ := g1
  rcases g1b with ⟨_, h0⟩ | ⟨g, cap, cur, e1, e2, e3, e4, e5, e6, e7⟩
  · omega
  have hown : (F.γ m0).ownBlock = some g := by rw [e1]; rfl
  obtain ⟨gU, gT⟩ := g4 g hown
  rw [sRow_flat] at g2
  obtain ⟨hrc, hno⟩ := Tcs.noDv g2
  have hxs : ∀ (k : Nat) (q : ByteArray), L[k]? = some q → xs[k]? = some (.string q) := by
    intro k q hq
    have hk := (List.getElem?_eq_some_iff.1 hq).1
    have hxk : k < xs.length := by rw [g1a]; omega
    have := hrc.1.2 k _ (.fl (.string q)) (List.getElem?_eq_getElem hxk) (by simp [hq])
    rw [List.getElem?_eq_getElem hxk]
    exact congrArg some (rd_fl this)
  have hcur : ∀ (k : Nat) (q : ByteArray), L[k]? = some q → w.cell? ⟨g, k, none⟩ = some (.string q) := by
    intro k q hq
    have hk := (List.getElem?_eq_some_iff.1 hq).1
    rw [cell_of_row w g k cur e (0, 0) e3]
    have := take_get e7 (k := k) (by omega)
    rw [hxs k q hq] at this
    simpa using this
  have hcall := hc g cap i j L w e4 (Nat.le_trans e5 (by decide)) hij hj hcur (fun k _ => frozen_of_row w g k cur e e3)
  have hex : (execOp a.eval o).run P w = .ok (.enter f #[.slice (some ⟨g, 0, none⟩) L.length cap, .int .i64 (i : Int), .int .i64 (j : Int)]) w := by
    unfold execOp
    simp only [ho, resolve, Act.eval, Deferred.ofValue, invoke, Sem.run_bind, Sem.run_pure, Result.andThen_ok]
    have e1' : (#[] ++ Array.map a.eval #[s, x, y] ++ #[] : Array Value) = #[.slice (some ⟨g, 0, none⟩) L.length cap, .int .i64 (i : Int), .int .i64 (j : Int)] := by
      apply Array.ext'
      simp [h1, h2, h3, e1]
    rw [e1']
    exact run_call hf hn hb _ w
  unfold Oper.wp
  rw [hex, Oper.upon_enter]
  refine Calls.mono hcall ?_
  rintro ex w' ⟨rfl, q, rfl⟩
  have hvl : ((L.take i ++ L.drop j).map Value.string ++ List.replicate (j - i) (Value.string ⟨#[]⟩)).length = L.length := by
    simp
    omega
  obtain ⟨vs, hvs⟩ : ∃ vs, vs = (L.take i ++ L.drop j).map Value.string ++ List.replicate (j - i) (Value.string ⟨#[]⟩) := ⟨_, rfl⟩
  rw [← hvs] at hvl ⊢
  have hglt : g < w.heap.size := (Array.getElem?_eq_some_iff.1 e3).1
  have e3' : (w.drewN q).heap[g]? = some (.cells cur e (0, 0)) := e3
  obtain ⟨cur', c1, c2⟩ := heap_setCells_at vs 0 (w.drewN q) cur e3'
  have hcells : ∀ k (hk : k < vs.length), cur'[k]? = some vs[k] := by
    intro k hk
    have := World.cell?_setCells_in g vs 0 (w.drewN q) (fun k hk => by
      have hk' : k < L.length := by omega
      show ((w.drewN q).cell? ⟨g, 0 + k, none⟩).isSome = true
      rw [Nat.zero_add]
      show (w.cell? ⟨g, k, none⟩).isSome = true
      rw [hcur k _ (List.getElem?_eq_getElem hk')]; rfl) k hk
    rw [Nat.zero_add, cell_of_row _ g k cur' e (0, 0) c1] at this
    exact this
  have hbel0 : Below w0.heap.size w0 (w.drewN q) := ⟨hst.b.os, hst.b.tape, hst.b.output, hst.b.size, hst.b.block⟩
  have hbel : Below w0.heap.size w0 ((w.drewN q).setCells g 0 vs) := hbel0.trans (Lib.below_setCells_w e2 vs 0 _)
  have hoth : ∀ k, k < w.heap.size → k ≠ g → ((w.drewN q).setCells g 0 vs).heap[k]? = w.heap[k]? := fun k hk hne => World.heap_setCells_other (w.drewN q) g 0 vs hk hne
  have hE : Ext w F.U ((w.drewN q).setCells g 0 vs) F.U := by
    refine ⟨fun b off u hcl ho' => ?_, fun r es c hr hu => ?_⟩
    · have hb : b ≠ g := fun h => by rw [h, gU] at ho'; omega
      have hlt := World.block_lt_of_cell? w _ hcl
      exact ⟨(World.cell?_of_block (hoth b hlt hb)).trans hcl, ho'⟩
    · have hb : r ≠ g := fun h => by rw [h, gU] at hu; omega
      exact ⟨hoth r (Array.getElem?_eq_some_iff.1 hr).1 hb, rfl⟩
  obtain ⟨L', hL'⟩ : ∃ L', L' = L.take i ++ L.drop j := ⟨_, rfl⟩
  have hL'l : L'.length = L.length - (j - i) := by rw [hL']; simp; omega
  have hLe : L'.length ≤ L.length := by omega
  rw [← hL'] at hvs hK
  have htake : cur'.toList.take (L'.length * 1) = L'.map Value.string := by
    apply List.ext_getElem?
    intro k
    rw [Nat.mul_one]
    rcases Nat.lt_or_ge k L'.length with hk | hk
    · rw [List.getElem?_take_of_lt hk]
      have hkv : k < vs.length := by omega
      have h5 := hcells k hkv
      have h6 : vs[k]? = (L'.map Value.string)[k]? := by rw [hvs, List.getElem?_append_left (by simp; exact hk)]
      rw [List.getElem?_eq_getElem hkv] at h6
      rw [← h6, ← h5]; simp
    · rw [List.getElem?_eq_none (by simp; omega), List.getElem?_eq_none (by simp; exact hk)]
  have hrow : ((w.drewN q).setCells g 0 vs).ownsRow w0.heap.size e 1 (.slice (some ⟨g, 0, none⟩) (L.length - (j - i)) cap) (tD rS L').length (L'.map Value.string) := by
    refine ⟨by rw [sRow_len]; simp, .inr ⟨g, cap, cur', by rw [sRow_len, hL'l], e2, c1, by rw [sRow_len]; omega, e5, by rw [c2, e6], by rw [sRow_len]; exact htake⟩⟩
  have hrc' : Rc ((w.drewN q).setCells g 0 vs) F.U (L'.map Value.string) (L'.map fun s => DV.fl (.string s)) := by
    refine ⟨⟨by simp, fun k u d hu hdv => ?_⟩, fun u hu => ?_⟩
    · simp only [List.getElem?_map, Option.map_eq_some_iff] at hu hdv
      obtain ⟨z, hz, rfl⟩ := hu
      obtain ⟨z', hz', rfl⟩ := hdv
      rw [hz] at hz'; cases hz'
      exact .fl _
    · obtain ⟨z, _, rfl⟩ := List.mem_map.1 hu; rfl
  have hfit := hF.make (m := m) (ob := .tr e 1 (tD rS L')) (ks := [m0]) (γv := .slice (some ⟨g, 0, none⟩) (L.length - (j - i)) cap) (βv := none) (Sm := fun b => b = g) (U' := F.U) (w' := (w.drewN q).setCells g 0 vs) (a' := a.put o.dst (.slice (some ⟨g, 0, none⟩) (L.length - (j - i)) cap)) (tw := o.dst.map fun d => (d, .ow m)) (hok.f m (by simp)) hE (fun _ _ => rfl)
    (fun k b hl hk hb hlt => by
      have hne : b ≠ g := fun h => by
        subst h
        exact hk (by rw [hF.i k m0 b hl hlive hb ((g5 b).2 (.inl hown))]; simp)
      exact ⟨hoth b hlt hne, rfl⟩)
    (fun b hb => .inr ⟨m0, by simp, hlive, by rw [hb]; exact (g5 g).2 (.inl hown)⟩)
    (by
      refine ⟨L'.map Value.string, fun _ _ => False, by simp only [↓reduceIte]; exact hrow, by rw [sRow_flat]; exact Tcs.ofRc hrc', fun r hr => ?_, fun b hb => ?_, fun b => ?_⟩
      · obtain ⟨y, hy, rfl⟩ := List.mem_map.1 hr
        obtain ⟨z, _, rfl⟩ := List.mem_map.1 hy; rfl
      · simp only [↓reduceIte] at hb
        have : g = b := by simpa [Value.ownBlock] using hb
        subst this
        exact ⟨gU, fun _ h => h⟩
      · simp only [↓reduceIte]
        constructor
        · intro h; left; rw [h]; rfl
        · rintro (h | ⟨_, h⟩)
          · have : g = b := by simpa [Value.ownBlock] using h
            exact this.symm
          · exact h.elim)
    (hta_put hd hst.s (.ow m) _).1 (fun d v' h => by
      obtain ⟨rfl, h3⟩ := (hta_put hd hst.s (.ow m) (.slice (some ⟨g, 0, none⟩) (L.length - (j - i)) cap)).2 d v' h
      rw [h3]; exact (if_pos rfl).symm) [m0] [m]
  exact hK _ _ ⟨by rw [put_defers]; exact hst.d, by rw [put_size]; exact hst.s, hbel, _, hfit⟩
end
end Go.Proofs.Ytobgdemhadlgnaa.Av

namespace Go.Proofs.Ytobgdemhadlgnaa.Av
open Go Go.RowKit
theorem tD_take {α : Type} (f : α → List DV) (l : List α) (k : Nat) : (tD f l).take k = tD f (l.take k) := by simp [tD, List.map_take]
section
variable {P : Program} {N : Nat} {w0 : World} {U0 : Nat → Nat}
theorem op_sliceOwn {o : Oper} {σ : AS} {t : TypeId} {x hi : Operand} (m : Nat) (ho : o.op = .slice t x none (some hi) none) {e : TypeId} (hu : P.underlying t = some (.slice e)) {zv : Value} {bb : Nat} (ht : TI P e zv 1 bb) {m0 : Nat} {e' : TypeId} {L : List ByteArray} (hs : σ.ev x = .ow m0) (hm : σ.n m0 = .tr e' 1 (tD rS L))
    {k : Nat} {ki : Int} (hk : σ.ev hi = .d (.fl (.int .i64 ki))) (hki : ki = (k : Int)) (hle : k ≤ L.length) (hL : 0 < L.length) (hd : dOk o N = true) :
    OpS P N w0 U0 o σ ⟨o.dst.map fun d => (d, .ow m), (m, .tr e' 1 (tD rS (L.take k))) :: [m0].map (fun q => (q, Ob.no)), [m0], [m]⟩ := by
  subst hki
  intro σ' hok a w hst K Q hK
  obtain ⟨F, hF⟩ := hst.f
  obtain ⟨i, t1, _, t3, _⟩ := ht
  have h1 : a.eval x = F.γ m0 := ev_get hok hF (x := x) (by simp [ho, Op.operands]) hs
  have h2 := flat_val (ev_get hok hF (x := hi) (by simp [ho, Op.operands]) hk)
  have hm' : σ'.n m0 = .tr e' 1 (tD rS L) := by rw [hok.n m0 (by simp)]; exact hm
  have hlive : (σ'.n m0).live = true := by rw [hm']; rfl
  have hob := hF.n m0
  rw [hm'] at hob
  obtain ⟨xs, T, g1, g2, g3, g4, g5⟩ := hob
  rw [sRow_len] at g1
  obtain ⟨g1a, g1b⟩ := g1
  rcases g1b with ⟨_, h0⟩ | ⟨g, cap, cur, e1, e2, e3, e4, e5, e6, e7⟩
  · omega
  have hown : (F.γ m0).ownBlock = some g := by rw [e1]; rfl
  obtain ⟨gU, gT⟩ := g4 g hown
  rw [sRow_flat] at g2
  obtain ⟨hrc, hno⟩ := Tcs.noDv g2
  have hu' : P.underlying t = some (.slice (P.elem t)) := by simp [Program.elem, hu]
  have hel : P.elem t = e := by simp [Program.elem, hu]
  have hrun : (execOp a.eval o).run P w = .ok (.value (.slice (some ⟨g, 0, none⟩) k cap)) w := by
    have hb := run_bounds (P := P) w L.length cap 0 k none (some (a.eval hi)) (.inl ⟨rfl, rfl⟩) (.inr ⟨.i64, by rw [h2]⟩) (Nat.zero_le _) hle e4
    unfold execOp
    simp only [ho, h1, e1, Option.map_none, Option.map_some, Sem.run_bind, run_sliceAt_slice w t _ _ _ _ hu', run_slice_any w t _ _ _ hu', hb, Result.andThen_ok, hel, run_sizeOf' t1, Sem.run_pure]
    have hne : ¬ cap = 0 := by omega
    unfold sliced
    rw [if_neg hne]
    have ha : (⟨g, 0, none⟩ : Addr).add (0 * i.size) = ⟨g, 0, none⟩ := by simp [Addr.add]
    simp only [Option.map_some, ha, Nat.sub_zero]
  unfold Oper.wp
  rw [hrun]
  have hlk : (L.take k).length = k := by simp; omega
  have hrow : w.ownsRow w0.heap.size e' 1 (.slice (some ⟨g, 0, none⟩) k cap) (tD rS (L.take k)).length (xs.take k) := by
    refine ⟨by rw [sRow_len, hlk]; simp; omega, .inr ⟨g, cap, cur, by rw [sRow_len, hlk], e2, e3, by rw [sRow_len, hlk]; omega, e5, e6, ?_⟩⟩
    rw [sRow_len, hlk, Nat.mul_one, ← e7, List.take_take, Nat.mul_one, Nat.min_eq_left hle]
  have hrc' : Rc w F.U (xs.take k) ((L.take k).map fun s => DV.fl (.string s)) := by
    refine ⟨⟨by have := hrc.1.1; simp at this ⊢; omega, fun j u d hu hdv => ?_⟩, fun u hu => hrc.2 u (List.mem_of_mem_take hu)⟩
    rw [List.getElem?_take] at hu
    split at hu
    · rename_i hj
      refine hrc.1.2 j u d hu ?_
      rw [List.map_take, List.getElem?_take_of_lt hj] at hdv
      exact hdv
    · cases hu
  have hfit := hF.make (m := m) (ob := .tr e' 1 (tD rS (L.take k))) (ks := [m0]) (γv := .slice (some ⟨g, 0, none⟩) k cap) (βv := none) (Sm := fun b => b = g) (U' := F.U) (w' := w) (a' := a.put o.dst (.slice (some ⟨g, 0, none⟩) k cap)) (tw := o.dst.map fun d => (d, .ow m)) (hok.f m (by simp)) Ext.rfl (fun _ _ => rfl)
    (fun k b hl hk hb hlt => ⟨rfl, rfl⟩)
    (fun b hb => .inr ⟨m0, by simp, hlive, by rw [hb]; exact (g5 g).2 (.inl hown)⟩)
    (by
      refine ⟨xs.take k, fun _ _ => False, by simp only [↓reduceIte]; exact hrow, by rw [sRow_flat]; exact Tcs.ofRc hrc', fun r hr => ?_, fun b hb => ?_, fun b => ?_⟩
      · obtain ⟨y, hy, rfl⟩ := List.mem_map.1 hr
        obtain ⟨z, _, rfl⟩ := List.mem_map.1 hy; rfl
      · simp only [↓reduceIte] at hb
        have : g = b := by simpa [Value.ownBlock] using hb
        subst this
        exact ⟨gU, fun _ h => h⟩
      · simp only [↓reduceIte]
        constructor
        · intro h; left; rw [h]; rfl
        · rintro (h | ⟨_, h⟩)
          · have : g = b := by simpa [Value.ownBlock] using h
            exact this.symm
          · exact h.elim)
    (hta_put hd hst.s (.ow m) _).1 (fun d v' h => by
      obtain ⟨rfl, h3⟩ := (hta_put hd hst.s (.ow m) (.slice (some ⟨g, 0, none⟩) k cap)).2 d v' h
      rw [h3]; exact (if_pos rfl).symm) [m0] [m]
  exact hK _ _ ⟨by rw [put_defers]; exact hst.d, by rw [put_size]; exact hst.s, hst.b, _, hfit⟩
theorem s_sliceTail {o : Oper} {σ : AS} {t : TypeId} {x : Operand} {lo : Option Operand} (ho : o.op = .slice t x lo none none) {e : TypeId} (hu : P.underlying t = some (.slice e)) {zv : Value} {sz b : Nat} (ht : TI P e zv sz b) {α : Type} {f : α → List DV} {L : List α} (hx : σ.ev x = .d (.sl sz (L.map f)))
    {l : Nat} (hl : BndS σ lo 0 l) (h1 : l ≤ L.length) (hd : dOk o N = true) : OpS P N w0 U0 o σ ⟨o.dst.map fun d => (d, .d (.sl sz ((L.drop l).map f))), [], [], []⟩ := by
  have := s_slice (P := P) (N := N) (w0 := w0) (U0 := U0) ho hu ht hx hl (.no _) h1 (Nat.le_refl _) hd
  rwa [List.take_of_length_le (by simp)] at this
end
end Go.Proofs.Ytobgdemhadlgnaa.Av
