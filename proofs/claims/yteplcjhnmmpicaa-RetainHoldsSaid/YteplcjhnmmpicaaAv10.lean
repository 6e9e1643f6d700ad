/- Rows of the call's own whose elements are written, and own rows in their turn; function values; a slice held against nil. Conditions: as each theorem names them. -/
import Derived.Test.YteplcjhnmmpicaaAv9
set_option linter.unusedSimpArgs false
set_option linter.unusedVariables false
namespace Go.Proofs.Yteplcjhnmmpicaa.Av
open Go Go.RowKit
section
variable {P : Program} {N : Nat} {w0 : World} {U0 : Nat → Nat}
theorem rg_imp {ops : Array Oper} {k : Nat} {σ τ : AS} {R : AS → Prop} (hi : Imp N w0 U0 σ τ) (h : RG P N w0 U0 ops k τ R) : RG P N w0 U0 ops k σ R := ⟨fun a w hs Q hQ => h.go a w (hi a w hs) Q hQ⟩
/-- the master rule of the names -/
theorem Fits.big {σ : AS} {a : Act} {w w' : World} {F F' : Fr} (h : Fits w0 U0 σ a w F) {tw : Option (Nat × AV)} {nw : List (Nat × Ob)} (hE : Ext w F.U w' F'.U) (hu : ∀ b, b < w0.heap.size → F'.U b = F.U b)
    (hold : ∀ k, nwGet nw k = none → F'.β k = F.β k ∧ F'.γ k = F.γ k ∧ ∀ b, F'.S k b ↔ F.S k b)
    (hmen : ∀ k, nwGet nw k ≠ none → (F'.β k = F.β k ∧ F'.γ k = F.γ k) ∨ fresh σ k)
    (hkept : ∀ k, (σ.n k).live = true → nwGet nw k = none → Kept w F w' F'.U k)
    (hob : ∀ k o, nwGet nw k = some o → Rob w0.heap.size w' F' k o)
    (hd1 : ∀ k o k' b, nwGet nw k = some o → o.live = true → nwGet nw k' = none → (σ.n k').live = true → F'.S k b → ¬ F.S k' b)
    (hd2 : ∀ k o k' o' b, nwGet nw k = some o → o.live = true → nwGet nw k' = some o' → o'.live = true → F'.S k b → F'.S k' b → k = k')
    {a' : Act} (hta : ∀ t, a'.tmps.getD t undef = (match tw with | some (d, _) => if d = t then a'.tmps.getD t undef else a.tmps.getD t undef | none => a.tmps.getD t undef)) (htv : ∀ d v, tw = some (d, v) → Rav w' F' v (a'.tmps.getD d undef)) (rn fr : List Nat) :
    Fits w0 U0 ((⟨tw, nw, rn, fr⟩ : Eff).ap σ) a' w' F' := by
  have hβγ : ∀ k, (F'.β k = F.β k ∧ F'.γ k = F.γ k) ∨ fresh σ k := fun k => by
    cases hk : nwGet nw k with
    | none => exact .inl ⟨(hold k hk).1, (hold k hk).2.1⟩
    | some o => exact hmen k (by rw [hk]; simp)
  have hrav : ∀ t (v : Value), Rav w F (σ.t t) v → Rav w' F' (σ.t t) v := by
    intro t v hv
    have hv' := hv.ext hE
    have hs : ∀ k, (σ.t t).says k = true → F'.β k = F.β k ∧ F'.γ k = F.γ k := fun k hk => (hβγ k).resolve_right (fun hf => by have := hf.2 t; rw [hk] at this; cases this)
    revert hv' hs
    cases σ.t t with
    | pt m o => intro hv' hs; obtain ⟨b, h1, h2⟩ := hv'; exact ⟨b, by rw [(hs m (by simp [AV.says])).1]; exact h1, h2⟩
    | pe m z i j => intro hv' hs; obtain ⟨b, h1, h2⟩ := hv'; exact ⟨b, by rw [(hs m (by simp [AV.says])).2]; exact h1, h2⟩
    | ow m => intro hv' hs; exact hv'.trans (hs m (by simp [AV.says])).2.symm
    | pv m x => intro hv' hs; obtain ⟨h5, b, h1, h2⟩ := hv'; exact ⟨h5, b, by rw [(hs m (by simp [AV.says])).1]; exact h1, h2⟩
    | pw m x => intro hv' hs; exact ⟨hv'.1, hv'.2.trans (hs m (by simp [AV.says])).2.symm⟩
    | _ => intro hv' hs; exact hv'
  refine ⟨fun b hb => (hu b hb).trans (h.u b hb), fun t => ?_, fun k => ?_, fun k k' b h1 h2 h3 h4 => ?_⟩
  · rw [hta t]
    cases tw with
    | none => exact hrav t _ (h.t t)
    | some x =>
      obtain ⟨d, v⟩ := x
      simp only
      show Rav w' F' (bif Nat.beq d t then v else σ.t t) _
      by_cases hdt : d = t
      · subst hdt
        rw [Nat.beq_refl, if_pos rfl]
        exact htv d v rfl
      · rw [nbeq hdt, if_neg hdt]
        exact hrav t _ (h.t t)
  · show Rob _ w' F' k ((nwGet nw k).getD (σ.n k))
    cases hk : nwGet nw k with
    | some o => exact hob k o hk
    | none =>
      show Rob _ w' F' k (σ.n k)
      obtain ⟨g1, g2, g3⟩ := hold k hk
      cases hl : (σ.n k).live with
      | false =>
        cases hq : σ.n k with
        | no => trivial
        | _ => rw [hq] at hl; cases hl
      | true => exact Rob.same ((h.n k).ext hE (hkept k hl hk)) g1 g2 g3
  · have hn : ∀ j, (((⟨tw, nw, rn, fr⟩ : Eff).ap σ).n j) = (nwGet nw j).getD (σ.n j) := fun _ => rfl
    rw [hn] at h1 h2
    cases hk : nwGet nw k with
    | some o =>
      rw [hk] at h1
      cases hk' : nwGet nw k' with
      | some o' => rw [hk'] at h2; exact hd2 k o k' o' b hk h1 hk' h2 h3 h4
      | none => rw [hk'] at h2; exact absurd (((hold k' hk').2.2 b).1 h4) (hd1 k o k' b hk h1 hk' h2 h3)
    | none =>
      rw [hk] at h1
      cases hk' : nwGet nw k' with
      | some o' => rw [hk'] at h2; exact absurd (((hold k hk).2.2 b).1 h3) (hd1 k' o' k b hk' h2 hk h1 h4)
      | none => rw [hk'] at h2; exact h.i k k' b h1 h2 (((hold k hk).2.2 b).1 h3) (((hold k' hk').2.2 b).1 h4)
theorem hta_put {a : Act} {o : Oper} (hd : dOk o N = true) (hN : a.tmps.size = N) (av : AV) (v : Value) : (∀ t, (a.put o.dst v).tmps.getD t undef = (match o.dst.map (fun d => (d, av)) with | some (d, _) => if d = t then (a.put o.dst v).tmps.getD t undef else a.tmps.getD t undef | none => a.tmps.getD t undef)) ∧ ∀ d v', o.dst.map (fun d => (d, av)) = some (d, v') → v' = av ∧ (a.put o.dst v).tmps.getD d undef = v := by
  cases hdd : o.dst with
  | none => exact ⟨fun t => rfl, fun d v' h => by cases h⟩
  | some d =>
    have hlt : d < a.tmps.size := by
      unfold dOk at hd
      rw [hdd] at hd
      rw [hN]
      exact Nat.le_of_ble_eq_true hd
    refine ⟨fun t => ?_, fun d' v' h => ?_⟩
    · simp only [Option.map_some]
      by_cases hdt : d = t
      · rw [if_pos hdt]
      · rw [if_neg hdt, put_get hlt, if_neg hdt]
    · simp only [Option.map_some, Option.some.injEq, Prod.mk.injEq] at h
      obtain ⟨rfl, rfl⟩ := h
      exact ⟨rfl, by rw [put_get hlt, if_pos rfl]⟩
/-! ### function values -/
def FnOk (P : Program) (g : FuncId) : Prop := ∃ fn, P.funcs[g]? = some fn ∧ (fn.name == "runtime.NumGoroutine") = false ∧ fn.body.isNone = false
theorem op_callV {o : Oper} {σ : AS} {fo : Operand} {args : Array Operand} {ats : Array TypeId} (ho : o.op = .call { callee := .value fo, args := args, argTypes := ats }) {g : FuncId} {caps : List DV} (hfo : σ.ev fo = .d (.fn g caps)) (hg : FnOk P g)
    {ds : List DV} {rns : List Nat} {r : RV} (ha : ArgsS σ args.toList ds rns) (hc : Ctr P g (ds ++ caps) r) (hd : dOk o N = true) : OpS P N w0 U0 o σ ⟨o.dst.map fun d => (d, r.av), [], rns, []⟩ := by
  obtain ⟨fn, hf, hn, hb⟩ := hg
  intro σ' hok a w hs K Q hK
  obtain ⟨F, hF⟩ := hs.f
  have hfv : Rd w F.U (a.eval fo) (.fn g caps) := ev_get hok hF (x := fo) (by simp [ho, Op.operands, Call.operands]) hfo
  obtain ⟨vs, hv, hvs⟩ : ∃ vs : Array Value, a.eval fo = .func (.func g) #[] vs ∧ Rds w F.U vs.toList caps := by
    generalize a.eval fo = v at hfv
    cases hfv with
    | fn _ vs _ h hc => exact ⟨vs, rfl, by simpa using h, hc⟩
  have hR := (ha.get hF hok.n (fun x hx => ev_ok hok (by simp [ho, Op.operands, Call.operands]; exact .inr (by simpa using hx)))).append hvs
  have hcall := hc _ F.U w hR
  unfold Oper.wp
  have hex : (execOp a.eval o).run P w = .ok (.enter g (args.toList.map a.eval ++ vs.toList).toArray) w := by
    unfold execOp
    simp only [ho, resolve, hv, Deferred.ofValue, invoke, Sem.run_bind, Sem.run_pure, Result.andThen_ok]
    have e1 : (#[] ++ Array.map a.eval args ++ vs : Array Value) = (args.toList.map a.eval ++ vs.toList).toArray := by
      apply Array.ext'
      simp
    rw [e1]
    exact run_call hf hn hb _ w
  rw [hex, Oper.upon_enter]
  refine Calls.mono hcall ?_
  rintro e w' ⟨v, U', rfl, h1, h2, h3⟩
  have hfit := hF.put (U' := U') hs.b.size ⟨h1.block, h2⟩ hd hs.s (av := r.av) (v := v) (Rres.av (F := { F with U := U' }) h3) rns []
  exact hK _ _ ⟨by rw [put_defers]; exact hs.d, by rw [put_size]; exact hs.s, hs.b.trans (h1.mono hs.b.size), _, hfit⟩
inductive CapS (σ : AS) : List Operand → List DV → Prop
  | nil : CapS σ [] []
  | cons {x : Operand} {xs : List Operand} {d : DV} {ds : List DV} (hv : σ.ev x = .d d) (hs : CapS σ xs ds) : CapS σ (x :: xs) (d :: ds)
theorem op_mkfn {o : Oper} {σ : AS} {g : FuncId} {caps : Array Operand} (ho : o.op = .makeFunc (.func g) #[] caps) {ds : List DV} (hc : CapS σ caps.toList ds) (hd : dOk o N = true) : OpS P N w0 U0 o σ ⟨o.dst.map fun d => (d, .d (.fn g ds)), [], [], []⟩ :=
  opS_still (P := P) (av := .d (.fn g ds)) hd fun σ' hok a w F hF => by
    have key : ∀ xs ds, CapS σ xs ds → (∀ x ∈ xs, σ'.ev x = σ.ev x) → Rds w F.U (xs.map a.eval) ds := by
      intro xs ds h
      induction h with
      | nil => intro _; exact Rds.nil
      | @cons x xs d ds hv hs ih =>
        intro hev
        refine Rds.cons ?_ (ih (fun x hx => hev x (by simp [hx])))
        have := hF.ev x
        rw [hev x (by simp), hv] at this
        exact this
    have h1 := key _ _ hc (fun x hx => ev_ok hok (by simp [ho, Op.operands]; simpa using hx))
    refine ⟨.func (.func g) #[] (caps.map a.eval), by simp [execOp, ho, Instr.makeFunc], .fn g _ ds (by have := h1.1; simpa using this) (by have := h1.2; simpa using this)⟩
/-- a box that nobody writes any more -/
theorem imp_freeze {L : List (Nat × AV)} {M : List (Nat × Ob)} (t m : Nat) {ty : TypeId} {cs : List DV} (ht : lk L t = .pt m 0) (hm : ln M m = .bx ty cs) : Imp N w0 U0 (SS L M) (SS ((t, .d (.el cs)) :: L) ((m, .no) :: M)) := by
  intro a w hs
  obtain ⟨F, hF⟩ := hs.f
  obtain ⟨b, hb, hv⟩ : Rav w F (.pt m 0) (a.tmps.getD t undef) := by have := hF.t t; rw [show (SS L M).t t = _ from ht] at this; exact this
  have hob := hF.n m
  rw [show (SS L M).n m = _ from hm] at hob
  obtain ⟨b', vs, k1, k2, k3, k4, k5, k6⟩ := hob
  rw [hb] at k1
  injection k1 with k1
  subst k1
  have hlt : b < w.heap.size := (Array.getElem?_eq_some_iff.1 k4).1
  have hlive : ((SS L M).n m).live = true := by rw [show (SS L M).n m = _ from hm]; rfl
  have hE : Ext w F.U w (fun x => if x = b then cs.length else F.U x) := ⟨fun b' o' u hc ho' => ⟨hc, by
    by_cases hbb : b' = b
    · subst hbb; omega
    · show o' < if b' = b then _ else _
      rw [if_neg hbb]; exact ho'⟩, fun r es c hr hu => ⟨rfl, by
    show (if r = b then _ else _) = _
    rw [if_neg (fun e' => by subst e'; omega)]⟩⟩
  have := hF.big (F' := ⟨F.β, F.γ, fun x => if x = b then cs.length else F.U x, fun k x => k ≠ m ∧ F.S k x⟩) (tw := some (t, .d (.el cs))) (nw := [(m, .no)]) hE
    (fun x hx => by simp only; rw [if_neg (by omega)])
    (fun k hk => ⟨rfl, rfl, fun x => ⟨fun h => h.2, fun h => ⟨fun e => by subst e; simp [nwGet] at hk, h⟩⟩⟩)
    (fun k hk => .inl ⟨rfl, rfl⟩)
    (fun k hl hk x hx hxl => ⟨rfl, by
      simp only
      rw [if_neg (fun e => by
        subst e
        have := hF.i k m x hl hlive hx ((k6 x).2 rfl)
        subst this
        simp [nwGet] at hk)]⟩)
    (fun k o hk => by
      unfold nwGet at hk
      cases hb : Nat.beq m k with
      | true => rw [hb] at hk; simp at hk; subst hk; trivial
      | false => rw [hb] at hk; simp [nwGet] at hk)
    (fun k o k' x hk hl => by
      unfold nwGet at hk
      cases hb : Nat.beq m k with
      | true => rw [hb] at hk; simp at hk; subst hk; cases hl
      | false => rw [hb] at hk; simp [nwGet] at hk)
    (fun k o k' o' x hk hl => by
      unfold nwGet at hk
      cases hb : Nat.beq m k with
      | true => rw [hb] at hk; simp at hk; subst hk; cases hl
      | false => rw [hb] at hk; simp [nwGet] at hk)
    (a' := a) (fun t' => by simp only; split <;> rfl) (fun d v h => by
      simp only [Option.some.injEq, Prod.mk.injEq] at h
      obtain ⟨rfl, rfl⟩ := h
      rw [hv]
      refine elM (U := fun x => if x = b then cs.length else F.U x) (fun j x hx => ?_)
      have hjl : j < cs.length := (List.getElem?_eq_some_iff.1 hx).1
      have hl := k5.1.1
      obtain ⟨u, hu⟩ : ∃ u, vs.toList[j]? = some u := ⟨_, List.getElem?_eq_getElem (by omega)⟩
      refine ⟨u, ?_, ?_, k5.2 u (List.mem_of_getElem? hu), (k5.1.2 j u x hu hx).ext hE⟩
      · rw [Nat.zero_add, cell_of_row w b j vs ty (0, 0) k4]; simpa using hu
      · simp only [if_true, Nat.zero_add]; exact hjl) [] []
  rw [ap_ss] at this
  exact ⟨hs.d, hs.s, hs.b, _, this⟩
/-! ### a slice held against nil -/
theorem rg_isnil {ops : Array Oper} {k : Nat} {o : Oper} {L : List (Nat × AV)} {M : List (Nat × Ob)} {R : AS → Prop} (ho : ops[k]? = some o) (hg : o.guard = none) {t t' : TypeId} {x : Operand} (hop : o.op = .binOp .eql t x (.const (.slice none 0 0)) t') {e : TypeId} (hu : P.underlying t = some (.slice e)) {d : Nat} (hd : o.dst = some d) (hdN : dOk o N = true)
    {z : Nat} {rows : List (List DV)} (hx : (SS L M).ev x = .d (.sl z rows)) (h : ∀ b : Bool, (b = true → rows = []) → RG P N w0 U0 ops (k + 1) (SS ((d, .d (.fl (.bool b))) :: L) M) R) : RG P N w0 U0 ops k (SS L M) R := by
  refine ⟨fun a w hs Q hQ => ?_⟩
  obtain ⟨F, hF⟩ := hs.f
  have hv : Rd w F.U (a.eval x) (.sl z rows) := by have := hF.ev x; rw [hx] at this; exact this
  obtain ⟨A, n, c, hav, hnil⟩ : ∃ A n c, a.eval x = .slice A n c ∧ (A.isNone = true → rows = []) := by
    generalize a.eval x = v at hv
    cases hv with
    | sn A c z => exact ⟨A, 0, c, rfl, fun _ => rfl⟩
    | sl b off n c z rows u => exact ⟨_, n, c, rfl, fun h => by cases h⟩
  have hop2 : OpS P N w0 U0 o (SS L M) ⟨o.dst.map fun d => (d, .d (.fl (.bool A.isNone))), [], [], []⟩ → RG P N w0 U0 ops k (SS L M) R := fun hS => by
    rw [hd] at hS
    exact rg_put ho (og hg hS) (h A.isNone hnil)
  -- the run itself, at this world
  have hlt : k < ops.size := (Array.getElem?_eq_some_iff.1 ho).1
  have e1 : ((List.range (ops.size - k)).map (· + k)) = k :: ((List.range (ops.size - (k + 1))).map (· + (k + 1))) := by
    rw [show ops.size - k = (ops.size - (k + 1)) + 1 by omega, List.range_succ_eq_map]
    simp only [List.map_cons, Nat.zero_add, List.map_map, List.cons.injEq, true_and]
    apply List.map_congr_left
    intro y _
    show y + 1 + k = y + (k + 1)
    omega
  rw [e1, wpOps_cons]
  unfold wpOp
  rw [ho]
  simp only
  rw [if_pos (by simp [Region.wanted, hg])]
  left
  have hrun : (execOp a.eval o).run P w = .ok (.value (.bool A.isNone)) w := by
    have hq : (Op.equal t (.slice A n c) (.slice none 0 0)).run P w = .ok A.isNone w := by
      show (Op.equalIn (9999 + 1) t (.slice A n c) (.slice none 0 0)).run P w = _
      unfold Op.equalIn
      rw [Sem.run_bind, run_underlying hu]
      cases A <;> rfl
    have hc : a.eval (.const (.slice none 0 0)) = .slice none 0 0 := rfl
    unfold execOp
    simp only [hop, hav, hc, eqGuard, binOp, Sem.run_bind]
    simp [hq]
  unfold Oper.wp
  rw [hrun]
  have hfit := hF.put hs.b.size (Up.mk (fun _ _ => rfl) (fun _ _ => rfl) : Up w F.U w F.U) hdN hs.s (av := .d (.fl (.bool A.isNone))) (v := .bool A.isNone) (Rd.fl _) [] []
  have hst : St N w0 U0 ((⟨o.dst.map fun d => (d, .d (.fl (.bool A.isNone))), [], [], []⟩ : Eff).ap (SS L M)) (a.put o.dst (.bool A.isNone)) w := ⟨by rw [put_defers]; exact hs.d, by rw [put_size]; exact hs.s, hs.b, _, hfit⟩
  rw [ap_ss, hd] at hst
  exact (h A.isNone hnil).go _ _ (by rw [hd]; exact hst) Q hQ
end
end Go.Proofs.Yteplcjhnmmpicaa.Av
