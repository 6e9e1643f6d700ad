/- Rules for states of data. Conditions: as each theorem names them. -/
import Derived.Test.YtipkielpicfobaaAvB
import Derived.Laws.StructEq
import Derived.MakeChecks
import Derived.Laws.IdiomCopy
import Derived.Deep.Upon
import Derived.Lib.EndianMore
import Derived.Deep.Draws
set_option linter.unusedSimpArgs false
set_option linter.unusedVariables false
namespace Go.Proofs.Ytipkielpicfobaa.Av
open Go Go.RowKit
def mskO (all : List Nat) (o : Oper) : Nat := o.after.toList.foldl (fun a e => bif Region.binds .any e then Nat.lor a (Nat.lor (all.getD e.on 0) (Nat.shiftLeft 1 e.on)) else a) 0
def mskL (all : List Nat) : List Oper → List Nat → Bool
  | o :: os, m :: ms => Nat.beq m (mskO all o) && mskL all os ms
  | [], [] => true
  | _, _ => false
def prB (ops : Array Oper) (i : Nat) (x y : Sk × Oper × Nat) : Bool :=
  disj y.1.fr x.1.nw && disj y.1.fr x.1.sy && (Nat.testBit y.2.2 i || (half ops x.1 y.1 y.2.1 && half ops y.1 x.1 x.2.1 && disj x.1.fr y.1.nw && disj x.1.fr y.1.sy))
def sepR (ops : Array Oper) : Nat → List (Sk × Oper × Nat) → Bool
  | _, [] => true
  | i, x :: r => (r.all fun y => prB ops i x y) && sepR ops (i + 1) r
def zip3 : List Sk → List Oper → List Nat → List (Sk × Oper × Nat)
  | a :: as, b :: bs, c :: cs => (a, b, c) :: zip3 as bs cs
  | _, _, _ => []
def upL : Nat → List Oper → Bool
  | _, [] => true
  | j, o :: os => (o.after.toList.all fun e => !Region.binds .any e || Nat.blt e.on j) && upL (j + 1) os
def sepM (ops : Array Oper) (sk : List Sk) (ms : List Nat) : Bool := upL 0 ops.toList && mskL ms ops.toList ms && Nat.beq sk.length ms.length && sepR ops 0 (zip3 sk ops.toList ms)
theorem zip3_get : ∀ (as : List Sk) (bs : List Oper) (cs : List Nat) (i : Nat) (a : Sk) (b : Oper) (c : Nat), as[i]? = some a → bs[i]? = some b → cs[i]? = some c → (zip3 as bs cs)[i]? = some (a, b, c)
  | a' :: as, b' :: bs, c' :: cs, 0, a, b, c, h1, h2, h3 => by simp at h1 h2 h3; subst h1 h2 h3; rfl
  | a' :: as, b' :: bs, c' :: cs, i + 1, a, b, c, h1, h2, h3 => by simp at h1 h2 h3; simpa [zip3] using zip3_get as bs cs i a b c h1 h2 h3
  | [], _, _, _, _, _, _, h1, _, _ => by simp at h1
  | _ :: _, [], _, _, _, _, _, _, h2, _ => by simp at h2
  | _ :: _, _ :: _, [], _, _, _, _, _, _, h3 => by simp at h3
theorem sepR_get {ops : Array Oper} : ∀ (l : List (Sk × Oper × Nat)) (k i j : Nat) (x y : Sk × Oper × Nat), sepR ops k l = true → i < j → l[i]? = some x → l[j]? = some y → prB ops (k + i) x y = true
  | [], _, _, _, _, _, _, _, h, _ => by simp at h
  | z :: l, k, i, j, x, y, h, hij, hx, hy => by
    simp only [sepR, Bool.and_eq_true] at h
    cases j with
    | zero => omega
    | succ j =>
      simp at hy
      cases i with
      | zero =>
        simp at hx; subst hx
        exact List.all_eq_true.1 h.1 y (List.mem_of_getElem? hy)
      | succ i =>
        simp at hx
        have := sepR_get l (k + 1) i j x y h.2 (by omega) hx hy
        rwa [show k + 1 + i = k + (i + 1) by omega] at this
theorem mskL_get {all : List Nat} : ∀ (os : List Oper) (ms : List Nat) (j : Nat) (o : Oper), mskL all os ms = true → os[j]? = some o → ms[j]? = some (mskO all o)
  | o' :: os, m :: ms, 0, o, h, ho => by
    simp only [mskL, Bool.and_eq_true] at h
    simp at ho; subst ho
    simp [Nat.eq_of_beq_eq_true h.1]
  | o' :: os, m :: ms, j + 1, o, h, ho => by
    simp only [mskL, Bool.and_eq_true] at h
    simp at ho
    simpa using mskL_get os ms j o h.2 ho
  | [], _, _, _, _, ho => by simp at ho
  | _ :: _, [], _, _, h, _ => by simp [mskL] at h
theorem upL_get : ∀ (os : List Oper) (k j : Nat) (o : Oper), upL k os = true → os[j]? = some o → ∀ e ∈ o.after.toList, Region.binds .any e = true → e.on < k + j
  | o' :: os, k, 0, o, h, ho => fun e he hb => by
    simp only [upL, Bool.and_eq_true] at h
    simp at ho; subst ho
    have := List.all_eq_true.1 h.1 e he
    simp only [hb, Bool.not_true, Bool.false_or] at this
    exact Nat.lt_of_succ_le (Nat.le_of_ble_eq_true this)
  | o' :: os, k, j + 1, o, h, ho => fun e he hb => by
    simp only [upL, Bool.and_eq_true] at h
    simp at ho
    have := upL_get os (k + 1) j o h.2 ho e he hb
    omega
  | [], _, _, _, _, ho => by simp at ho
theorem fold_bit {all : List Nat} {i : Nat} : ∀ (l : List Edge) (a : Nat), Nat.testBit (l.foldl (fun a e => bif Region.binds .any e then Nat.lor a (Nat.lor (all.getD e.on 0) (Nat.shiftLeft 1 e.on)) else a) a) i = true →
    Nat.testBit a i = true ∨ ∃ e ∈ l, Region.binds .any e = true ∧ (e.on = i ∨ Nat.testBit (all.getD e.on 0) i = true)
  | [], a, h => .inl h
  | e :: l, a, h => by
    simp only [List.foldl_cons] at h
    rcases fold_bit l _ h with h1 | ⟨e', h1, h2⟩
    · cases hb : Region.binds .any e with
      | false => rw [hb] at h1; exact .inl h1
      | true =>
        rw [hb, cond_true] at h1
        have h1' : Nat.testBit (a ||| (all.getD e.on 0 ||| 1 <<< e.on)) i = true := h1
        rw [Nat.testBit_or, Nat.testBit_or, Nat.testBit_shiftLeft, Bool.or_eq_true, Bool.or_eq_true] at h1'
        rcases h1' with h | h | h
        · exact .inl h
        · exact .inr ⟨e, by simp, hb, .inr h⟩
        · refine .inr ⟨e, by simp, hb, .inl ?_⟩
          simp only [Bool.and_eq_true, decide_eq_true_eq] at h
          obtain ⟨g1, g2⟩ := h
          have g3 : i - e.on = 0 := by
            rcases Nat.eq_zero_or_pos (i - e.on) with g | g
            · exact g
            · exfalso
              rw [Nat.testBit_one_eq_true_iff_self_eq_zero] at g2
              omega
          omega
    · exact .inr ⟨e', by simp [h1], h2⟩
theorem bf_of {ops : Array Oper} {ms : List Nat} (hu : upL 0 ops.toList = true) (hm : mskL ms ops.toList ms = true) : ∀ (n j i : Nat), j < n → j < ops.size → Nat.testBit (ms.getD j 0) i = true → bfB ops n i j = true
  | 0, j, i, h, _, _ => by omega
  | n + 1, j, i, h, hj, hb => by
    have ho : ops.toList[j]? = some (ops[j]'hj) := by simp [hj]
    have h1 := mskL_get ops.toList ms j _ hm ho
    have h2 : ms.getD j 0 = mskO ms (ops[j]'hj) := by rw [List.getD_eq_getElem?_getD, h1]; rfl
    rw [h2] at hb
    rcases fold_bit _ 0 hb with h3 | ⟨e, he, hbd, h3⟩
    · simp at h3
    · have hlt := upL_get ops.toList 0 j _ hu ho e he hbd
      simp only [bfB, Array.getElem?_eq_getElem hj]
      rw [Array.any_eq_true']
      refine ⟨e, by simpa using he, ?_⟩
      rw [hbd, Bool.true_and, Bool.or_eq_true]
      rcases h3 with h3 | h3
      · exact .inl (by simp [h3])
      · exact .inr (bf_of hu hm n e.on i (by omega) (by omega) h3)
theorem sepB_of {ops : Array Oper} {sk : List Sk} (ms : List Nat) (h : sepM ops sk ms = true) : sepB ops sk = true := by
  simp only [sepM, Bool.and_eq_true] at h
  obtain ⟨⟨⟨hu, hm⟩, hl⟩, hr⟩ := h
  simp only [sepB, Bool.and_eq_true]
  constructor
  · unfold upB'
    rw [List.all_eq_true]
    intro j hj
    have hj' : j < ops.size := by simpa using hj
    simp only [Array.getElem?_eq_getElem hj']
    rw [Array.all_eq_true']
    intro e he
    cases hb : Region.binds .any e with
    | false => rfl
    | true =>
      have := upL_get ops.toList 0 j (ops[j]'hj') hu (by simp [hj']) e (by simpa using he) hb
      simp only [Bool.not_true, Bool.false_or, decide_eq_true_eq]
      omega
  · rw [List.all_eq_true]
    intro j hj
    rw [List.all_eq_true]
    intro i hi
    have hj' : j < ops.size := by simpa using hj
    have hi' : i < j := by simpa using hi
    have key : ∀ k, (hk : k < ops.size) → ms[k]? = some (ms.getD k 0) := fun k hk => by
      have := mskL_get ops.toList ms k (ops[k]'hk) hm (by simp [hk])
      rw [List.getD_eq_getElem?_getD, this]; rfl
    cases hxi : sk[i]? with
    | none =>
      have h1 := key i (by omega)
      have h2 := Nat.eq_of_beq_eq_true hl
      have h3 := (List.getElem?_eq_some_iff.1 h1).1
      rw [List.getElem?_eq_none_iff] at hxi; omega
    | some x =>
      cases hyj : sk[j]? with
      | none =>
        have h1 := key j hj'
        have h2 := Nat.eq_of_beq_eq_true hl
        have h3 := (List.getElem?_eq_some_iff.1 h1).1
        rw [List.getElem?_eq_none_iff] at hyj; omega
      | some y =>
        simp only [Array.getElem?_eq_getElem hj', Array.getElem?_eq_getElem (show i < ops.size by omega)]
        have hx := zip3_get sk ops.toList ms i x (ops[i]'(by omega)) _ hxi (by simp [show i < ops.size by omega]) (key i (by omega))
        have hy := zip3_get sk ops.toList ms j y (ops[j]'hj') _ hyj (by simp [hj']) (key j hj')
        have hp := sepR_get _ 0 i j _ _ hr hi' hx hy
        simp only [prB, Bool.and_eq_true, Bool.or_eq_true, Nat.zero_add] at hp ⊢
        obtain ⟨h1, h2⟩ := hp
        refine ⟨h1, h2.imp (fun h => bf_of hu hm ops.size j i (by omega) hj' h) id⟩
end Go.Proofs.Ytipkielpicfobaa.Av

namespace Go.Proofs.Ytipkielpicfobaa.Av
open Go Go.RowKit
inductive TK where
  | p
  | r
def TK.av : TK → Value → AV
  | .p, v => .pv 0 v
  | .r, v => .pw 0 v
def TK.cav : TK → Nat → AV
  | .p, m => .pt m 0
  | .r, m => .ow m
def TK.ok : TK → Ob → Bool
  | .p, .bx _ _ => true
  | .p, .bt _ _ => true
  | .r, .tr _ _ _ => true
  | .r, .mp _ => true
  | _, _ => false
theorem Tcs.zero {w : World} {U : Nat → Nat} {B : Nat} {us : List Value} {cs : List OC} {T : Nat → Nat → Prop} (h : Tcs w U B us cs T) {k b : Nat} (hb : T k b) : U b = 0 := by
  have hk := h.b k b hb
  have hl := h.l
  have hc := h.c k _ _ (List.getElem?_eq_getElem hk) (List.getElem?_eq_getElem (by omega))
  revert hc
  cases cs[k]'(by omega) with
  | un => exact fun hc => absurd hb (hc b)
  | dv x => exact fun hc => absurd hb (hc.2 b)
  | ow e z rows =>
    rintro ⟨xs, _, _, _, h4, h5⟩
    exact h5 b ((h4 b).1 hb)
theorem ownsRow_rebase {w : World} {B : Nat} {e : TypeId} {z : Nat} {v : Value} {n : Nat} {xs : List Value} (h : w.ownsRow 0 e z v n xs) (hB : ∀ g, v.ownBlock = some g → B ≤ g) : w.ownsRow B e z v n xs := by
  refine ⟨h.1, ?_⟩
  rcases h.2 with h0 | ⟨g, cap, cur, h1, h2, h3⟩
  · exact .inl h0
  · exact .inr ⟨g, cap, cur, h1, hB g (by rw [h1]; rfl), h3⟩
theorem Tcs.rebase {w : World} {U : Nat → Nat} {B : Nat} {us : List Value} {cs : List OC} {T : Nat → Nat → Prop} (h : Tcs w U 0 us cs T) (hB : ∀ k b, T k b → B ≤ b) : Tcs w U B us cs T :=
  ⟨h.l, fun k u c h1 h2 => by
    have := h.c k u c h1 h2
    cases c with
    | un => exact this
    | dv x => exact this
    | ow e z rows => obtain ⟨xs, g1, g2, g3, g4, g5⟩ := this; exact ⟨xs, ownsRow_rebase g1 (fun g hg => hB k g ((g4 g).2 hg)), g2, g3, g4, g5⟩, h.o, h.d, h.b⟩
theorem Rob.zero {B : Nat} {w : World} {F : Fr} {m : Nat} {o : Ob} {k : TK} (hk : k.ok o = true) (h : Rob B w F m o) {b : Nat} (hb : F.S m b) : F.U b = 0 := by
  cases k <;> cases o <;> simp [TK.ok] at hk
  · obtain ⟨b', vs, _, _, h3, _, _, h6⟩ := h
    rw [(h6 b).1 hb]; exact h3
  · obtain ⟨b', vs, T, _, _, h3, _, h5, _, h7⟩ := h
    rcases (h7 b).1 hb with h8 | ⟨k, h8⟩
    · rw [h8]; exact h3
    · exact h5.zero h8
  · obtain ⟨xs, T, _, h2, _, h4, h5⟩ := h
    rcases (h5 b).1 hb with h6 | ⟨k, h6⟩
    · exact (h4 b h6).1
    · exact h2.zero h6
  · obtain ⟨b', es, c, _, _, h3, _, _, h6, _⟩ := h
    rw [(h6 b).1 hb]; exact h3
theorem Rob.move {B : Nat} {w : World} {F F' : Fr} {m m' : Nat} {o : Ob} {k : TK} (hk : k.ok o = true) (h : Rob B w F m o) (hβ : k = .p → F'.β m' = F.β m) (hγ : k = .r → F'.γ m' = F.γ m) (hS : ∀ b, F'.S m' b ↔ F.S m b) (hU : F'.U = F.U) : Rob B w F' m' o := by
  cases k <;> cases o <;> simp [TK.ok] at hk
  · obtain ⟨b, vs, h1, h2, h3, h4, h5, h6⟩ := h
    exact ⟨b, vs, (hβ rfl).trans h1, h2, by rw [hU]; exact h3, h4, by rw [hU]; exact h5, fun b' => (hS b').trans (h6 b')⟩
  · obtain ⟨b, vs, T, h1, h2, h3, h4, h5, h6, h7⟩ := h
    exact ⟨b, vs, T, (hβ rfl).trans h1, h2, by rw [hU]; exact h3, h4, by rw [hU]; exact h5, h6, fun b' => (hS b').trans (h7 b')⟩
  · obtain ⟨xs, T, h1, h2, h3, h4, h5⟩ := h
    exact ⟨xs, T, by rw [hγ rfl]; exact h1, by rw [hU]; exact h2, h3, by rw [hγ rfl, hU]; exact h4, fun b => by rw [hγ rfl]; exact (hS b).trans (h5 b)⟩
  · obtain ⟨b, es, c, h1, h2, h3, h4, h5, h6, h7⟩ := h
    exact ⟨b, es, c, (hγ rfl).trans h1, h2, by rw [hU]; exact h3, h4, by rw [hU]; exact h5, fun b' => (hS b').trans (h6 b'), h7⟩
theorem Rob.rebase {B : Nat} {w : World} {F : Fr} {m : Nat} {o : Ob} {k : TK} (hk : k.ok o = true) (h : Rob 0 w F m o) (hB : ∀ b, F.S m b → B ≤ b) : Rob B w F m o := by
  cases k <;> cases o <;> simp [TK.ok] at hk
  · obtain ⟨b, vs, h1, h2, h3, h4, h5, h6⟩ := h
    exact ⟨b, vs, h1, hB b ((h6 b).2 rfl), h3, h4, h5, h6⟩
  · obtain ⟨b, vs, T, h1, h2, h3, h4, h5, h6, h7⟩ := h
    exact ⟨b, vs, T, h1, hB b ((h7 b).2 (.inl rfl)), h3, h4, h5.rebase (fun k b' hb => hB b' ((h7 b').2 (.inr ⟨k, hb⟩))), h6, h7⟩
  · obtain ⟨xs, T, h1, h2, h3, h4, h5⟩ := h
    exact ⟨xs, T, ownsRow_rebase h1 (fun g hg => hB g ((h5 g).2 (.inl hg))), h2.rebase (fun k b' hb => hB b' ((h5 b').2 (.inr ⟨k, hb⟩))), h3, h4, h5⟩
  · obtain ⟨b, es, c, h1, h2, h3, h4, h5, h6, h7⟩ := h
    exact ⟨b, es, c, h1, hB b ((h6 b).2 rfl), h3, h4, h5, h6, h7⟩
theorem Rob.debase {B : Nat} {w : World} {F : Fr} {m : Nat} {o : Ob} {k : TK} (hk : k.ok o = true) (h : Rob B w F m o) : Rob 0 w F m o := by
  cases k <;> cases o <;> simp [TK.ok] at hk
  · obtain ⟨b, vs, h1, h2, h3, h4, h5, h6⟩ := h
    exact ⟨b, vs, h1, Nat.zero_le _, h3, h4, h5, h6⟩
  · obtain ⟨b, vs, T, h1, h2, h3, h4, h5, h6, h7⟩ := h
    exact ⟨b, vs, T, h1, Nat.zero_le _, h3, h4, h5.base (Nat.zero_le _), h6, h7⟩
  · obtain ⟨xs, T, h1, h2, h3, h4, h5⟩ := h
    exact ⟨xs, T, Rc.base h1 (Nat.zero_le _), h2.base (Nat.zero_le _), h3, h4, h5⟩
  · obtain ⟨b, es, c, h1, h2, h3, h4, h5, h6, h7⟩ := h
    exact ⟨b, es, c, h1, Nat.zero_le _, h3, h4, h5, h6, h7⟩
def thF (β : Option Nat) (γ : Value) (U : Nat → Nat) (S0 : Nat → Prop) : Fr := ⟨fun _ => β, fun _ => γ, U, fun _ => S0⟩
def bare (w : World) : World := { w with heap := #[] }
def CtrM (P : Program) (f : FuncId) (k : TK) (ob : Ob) (args : List DV) (ob' : Ob) (r : RV) : Prop :=
  ∀ (v : Value) (vals : List Value) (β : Option Nat) (γ : Value) (U : Nat → Nat) (S0 : Nat → Prop) (w : World),
    Rav w (thF β γ U S0) (k.av v) v → Rob 0 w (thF β γ U S0) 0 ob → Rds w U vals args →
    Calls P f (v :: vals).toArray w fun e w' => ∃ rv U' S', e = .returned rv ∧ Below 0 (bare w) w' ∧ (∀ g, g < w.heap.size → ¬ S0 g → w'.heap[g]? = w.heap[g]? ∧ U' g = U g) ∧ (∀ g, S' g → S0 g ∨ w.heap.size ≤ g) ∧ Rob 0 w' (thF β γ U' S') 0 ob' ∧ Rres w' U' rv r
section
variable {P : Program} {N : Nat} {w0 : World} {U0 : Nat → Nat}
def retM (P : Program) (rs : Array ResultVar) (k : TK) (v : Value) (H : World) (V : Nat → Nat) (Q : Nat → Prop) (ob' : Ob) (r : RV) : Exit → AS → Prop
  | .normal, σ | .ret, σ => (∃ ds, ResL P σ rs.toList ds ∧ RV.of ds = r) ∧ σ.t 0 = k.av v ∧ σ.n 0 = ob' ∧ σ.n 1 = .pin H V Q
  | _, _ => False
end
end Go.Proofs.Ytipkielpicfobaa.Av

namespace Go.Proofs.Ytipkielpicfobaa.Av
open Go Go.RowKit Go.ChangeMaps
section
variable {P : Program} {N : Nat} {w0 : World} {U0 : Nat → Nat}
theorem b_rem (t : TypeId) (a c : Int) (x y : Operand) (w : World) (h0 : 0 ≤ a) (hc : 0 < c) : (do eqGuard .rem t x y (.int .i64 a) (.int .i64 c); binOp .rem t (.int .i64 a) (.int .i64 c) : Sem Value).run P w = .ok (.int .i64 (a % c)) w := by
  have : c ≠ 0 := by omega
  simp [eqGuard, binOp, Op.intDiv, this, Int.tmod_eq_emod_of_nonneg h0]
theorem op_cap_nil {o : Oper} {σ : AS} {t e : TypeId} {x : Operand} (ho : o.op = .call { callee := .builtin .cap, args := #[x], argTypes := #[t] }) (hu : P.underlying t = some (.slice e)) {n c : Nat} {A : Option Addr} (hx : σ.ev x = .d (.fl (.slice A n c))) (hd : dOk o N = true) : OpS P N w0 U0 o σ ⟨o.dst.map fun d => (d, .d (.fl (.int .i64 c))), [], [], []⟩ :=
  opS_still hd fun σ' hok a w F hF => by
    have h1 := flat_val (ev_get hok hF (x := x) (by simp [ho, Op.operands, Call.operands]) hx)
    exact ⟨_, by simp [execOp, ho, resolve, invoke, builtin, Builtin.cap_, h1, run_underlying hu, goInt], .fl _⟩
end
end Go.Proofs.Ytipkielpicfobaa.Av

namespace Go.Proofs.Ytipkielpicfobaa.Av
open Go Go.RowKit
def Glo (g : Nat) (gs : List DV) (w : World) (U : Nat → Nat) : Prop := Rd w U (.pointer (some ⟨g, 0, none⟩)) (.el gs)
def CtrG (P : Program) (g : Nat) (gs : List DV) (f : FuncId) (args : List DV) (r : RV) : Prop :=
  ∀ (vals : List Value) (U : Nat → Nat) (w : World), Glo g gs w U → Rds w U vals args → Calls P f vals.toArray w fun e w' => ∃ v U', e = .returned v ∧ Below w.heap.size w w' ∧ (∀ b, b < w.heap.size → U' b = U b) ∧ Rres w' U' v r
section
variable {P : Program} {N : Nat} {w0 : World} {U0 : Nat → Nat}
theorem rd_fl {w : World} {U : Nat → Nat} {v x : Value} (h : Rd w U v (.fl x)) : v = x := by cases h; rfl
theorem rd_flat {w : World} {U : Nat → Nat} {v : Value} {xs : List Value} (h : Rd w U v (.ag (xs.map DV.fl))) : v = .agg xs.toArray := by
  generalize hd : DV.ag (xs.map DV.fl) = d at h
  cases h with
  | ag vs cs hl ho hc =>
    injection hd with hd
    subst hd
    congr 1
    apply Array.ext'
    simp only [List.size_toArray, List.length_map] at hl
    apply List.ext_getElem?
    intro i
    have hl' : vs.toList.length = xs.length := by simpa using hl
    rcases Nat.lt_or_ge i xs.length with hi | hi
    · have h1 : vs.toList[i]? = some (vs.toList[i]'(by omega)) := List.getElem?_eq_getElem _
      have h2 := hc i _ (.fl (xs[i])) h1 (by simp [hi])
      rw [h1, List.getElem?_eq_getElem hi]
      exact congrArg some (rd_fl h2)
    · rw [List.getElem?_eq_none (by omega), List.getElem?_eq_none (by omega)]
  | _ => cases hd
theorem op_eqS {o : Oper} {σ : AS} {op : BinOp} {t t' : TypeId} {x y : Operand} (xs ys : List Value) (ho : o.op = .binOp op t x y t') (hx : σ.ev x = .d (.ag (xs.map DV.fl))) (hy : σ.ev y = .d (.ag (ys.map DV.fl))) {b : Bool}
    (hv : ∀ w, (do eqGuard op t x y (.agg xs.toArray) (.agg ys.toArray); binOp op t (.agg xs.toArray) (.agg ys.toArray) : Sem Value).run P w = .ok (.bool b) w) (hd : dOk o N = true) : OpS P N w0 U0 o σ ⟨o.dst.map fun d => (d, .d (.fl (.bool b))), [], [], []⟩ :=
  opS_still hd fun σ' hok a w F hF => by
    have h1 := rd_flat (ev_get hok hF (x := x) (by simp [ho, Op.operands]) hx)
    have h2 := rd_flat (ev_get hok hF (x := y) (by simp [ho, Op.operands]) hy)
    refine ⟨.bool b, ?_, .fl _⟩
    have := hv w
    simp only [execOp, ho, h1, h2]
    rw [Sem.run_bind, this]
    rfl
end
end Go.Proofs.Ytipkielpicfobaa.Av

namespace Go.Proofs.Ytipkielpicfobaa.Av
open Go Go.RowKit
section
variable {P : Program} {N : Nat} {w0 : World} {U0 : Nat → Nat}
theorem op_conv {o : Oper} {σ : AS} {src dst : TypeId} {x : Operand} (ho : o.op = .convert src dst x) {k0 k k' : IntKind} {n : Int} (hs : P.underlying src = some (.int k0)) (ht : P.underlying dst = some (.int k)) (hx : σ.ev x = .d (.fl (.int k' n))) (hw : k.wrap n = n) (hd : dOk o N = true) : OpS P N w0 U0 o σ ⟨o.dst.map fun d => (d, .d (.fl (.int k n))), [], [], []⟩ :=
  opS_still hd fun σ' hok a w F hF => by
    have h1 := flat_val (ev_get hok hF (x := x) (by simp [ho, Op.operands]) hx)
    exact ⟨.int k n, by simp [execOp, ho, h1, convert, run_underlying hs, run_underlying ht, Conv.intToInt, hw], .fl _⟩
end
end Go.Proofs.Ytipkielpicfobaa.Av

namespace Go.Proofs.Ytipkielpicfobaa.Av
open Go Go.RowKit
def DelOk (P : Program) (f : FuncId) : Prop :=
  ∀ (b c i j : Nat) (L : List ByteArray) (w : World), L.length ≤ c → c ≤ 9223372036854775807 → i ≤ j → j ≤ L.length →
    (∀ (k : Nat) (s : ByteArray), L[k]? = some s → w.cell? ⟨b, k, none⟩ = some (.string s)) → (∀ k, k < L.length → w.frozen? ⟨b, k, none⟩ = false) →
    Calls P f #[.slice (some ⟨b, 0, none⟩) L.length c, .int .i64 i, .int .i64 j] w fun e w' => e = .returned (.slice (some ⟨b, 0, none⟩) (L.length - (j - i)) c) ∧
      ∃ q, w' = (w.drewN q).setCells b 0 ((L.take i ++ L.drop j).map Value.string ++ List.replicate (j - i) (.string ⟨#[]⟩))
section
variable {P : Program} {N : Nat} {w0 : World} {U0 : Nat → Nat}
end
end Go.Proofs.Ytipkielpicfobaa.Av

namespace Go.Proofs.Ytipkielpicfobaa.Av
open Go Go.RowKit
section
variable {P : Program} {N : Nat} {w0 : World} {U0 : Nat → Nat}
end
end Go.Proofs.Ytipkielpicfobaa.Av
