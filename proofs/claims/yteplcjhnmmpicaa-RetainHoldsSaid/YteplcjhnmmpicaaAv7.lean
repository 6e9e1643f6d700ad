/- Contracts over data: a call, a body. Conditions: as each theorem names them. -/
import Derived.Test.YteplcjhnmmpicaaAv6
set_option linter.unusedSimpArgs false
set_option linter.unusedVariables false
namespace Go.Proofs.Yteplcjhnmmpicaa.Av
open Go Go.RowKit
inductive RV where
  | d (x : DV)
  | tu (l : List DV)
def RV.av : RV → AV
  | .d x => .d x
  | .tu l => .tu l
def Rres (w : World) (U : Nat → Nat) (v : Value) : RV → Prop
  | .d x => Rd w U v x
  | .tu l => ∃ vs : Array Value, v = .tuple vs ∧ Rds w U vs.toList l
theorem Rres.av {w : World} {F : Fr} {v : Value} {r : RV} (h : Rres w F.U v r) : Rav w F r.av v := by cases r <;> exact h
/-- a function takes such data to such a result -/
def Ctr (P : Program) (f : FuncId) (args : List DV) (r : RV) : Prop :=
  ∀ (vals : List Value) (U : Nat → Nat) (w : World), Rds w U vals args → Calls P f vals.toArray w fun e w' => ∃ v U', e = .returned v ∧ Below w.heap.size w w' ∧ (∀ b, b < w.heap.size → U' b = U b) ∧ Rres w' U' v r
section
variable {P : Program} {N : Nat} {w0 : World} {U0 : Nat → Nat}
inductive ArgsS (σ : AS) : List Operand → List DV → List Nat → Prop
  | nil : ArgsS σ [] [] []
  | cons {x : Operand} {xs : List Operand} {d : DV} {ds : List DV} {rn rns : List Nat} {v : AV} (hv : σ.ev x = v) (h : AvD σ v d rn) (hs : ArgsS σ xs ds rns) : ArgsS σ (x :: xs) (d :: ds) (rn ++ rns)
theorem ArgsS.get {σ σ' : AS} {a : Act} {w : World} {F : Fr} (hF : Fits w0 U0 σ' a w F) {xs : List Operand} {ds : List DV} {rns : List Nat} (h : ArgsS σ xs ds rns) (hrn : ∀ m ∈ rns, σ'.n m = σ.n m) (hev : ∀ x ∈ xs, σ'.ev x = σ.ev x) : Rds w F.U (xs.map a.eval) ds := by
  induction h with
  | nil => exact Rds.nil
  | @cons x xs d ds rn rns v hv h hs ih =>
    refine Rds.cons ?_ (ih (fun m hm => hrn m (List.mem_append.2 (.inr hm))) (fun y hy => hev y (by simp [hy])))
    have := hF.ev x
    rw [hev x (by simp), hv] at this
    exact h.get hF (fun m hm => hrn m (List.mem_append.2 (.inl hm))) this
theorem run_call {f : FuncId} {fn : Func} (hf : P.funcs[f]? = some fn) (hn : (fn.name == "runtime.NumGoroutine") = false) (hb : fn.body.isNone = false) (args : Array Value) (w : World) : (callFunc f args).run P w = .ok (.enter f args) w := by
  unfold callFunc
  have hp : (program).run P w = .ok P w := rfl
  rw [Sem.run_bind, hp]
  simp only [Result.andThen_ok, hf]
  rw [hn, hb]
  rfl
theorem op_call {o : Oper} {σ : AS} {f : FuncId} {args : Array Operand} {ats : Array TypeId} (ho : o.op = .call { callee := .value (.func f), args := args, argTypes := ats }) {fn : Func} (hf : P.funcs[f]? = some fn) (hn : (fn.name == "runtime.NumGoroutine") = false) (hb : fn.body.isNone = false)
    {ds : List DV} {rns : List Nat} {r : RV} (ha : ArgsS σ args.toList ds rns) (hc : Ctr P f ds r) (hd : dOk o N = true) : OpS P N w0 U0 o σ ⟨o.dst.map fun d => (d, r.av), [], rns, []⟩ := by
  intro σ' hok a w hs K Q hK
  obtain ⟨F, hF⟩ := hs.f
  have hR := ha.get hF hok.n (fun x hx => ev_ok hok (by simp [ho, Op.operands, Call.operands]; exact .inr (by simpa using hx)))
  have hcall := hc _ F.U w hR
  unfold Oper.wp
  have hex : (execOp a.eval o).run P w = .ok (.enter f (args.toList.map a.eval).toArray) w := by
    unfold execOp
    simp only [ho, resolve, Act.eval, Deferred.ofValue, invoke, Sem.run_bind, Sem.run_pure, Result.andThen_ok]
    have e1 : (#[] ++ Array.map a.eval args ++ #[] : Array Value) = (args.toList.map a.eval).toArray := by
      apply Array.ext'
      simp
    rw [e1]
    exact run_call hf hn hb _ w
  rw [hex, Oper.upon_enter]
  refine Calls.mono hcall ?_
  rintro e w' ⟨v, U', rfl, h1, h2, h3⟩
  have hfit := hF.put (U' := U') hs.b.size ⟨h1.block, h2⟩ hd hs.s (av := r.av) (v := v) (Rres.av (F := { F with U := U' }) h3) rns []
  exact hK _ _ ⟨by rw [put_defers]; exact hs.d, by rw [put_size]; exact hs.s, hs.b.trans (h1.mono hs.b.size), _, hfit⟩
/-! ### a body's results -/
inductive Res1 (P : Program) (σ : AS) : ResultVar → DV → Prop
  | tmp {t : Tmp} {v : AV} {d : DV} {rn : List Nat} (hv : σ.t t = v) (h : AvD σ v d rn) : Res1 P σ (.tmp t) d
  | cell {a : Tmp} {ty : TypeId} {m : Nat} {ty' : TypeId} {cs : List DV} {desc : TypeDesc} {i : TypeInfo} {d : DV} (ha : σ.t a = .pt m 0) (hm : σ.n m = .bx ty' cs) (hu : P.underlying ty = some desc) (hg : aggD desc = true) (hi : P.info? ty = some i) (hl : Nat.beq cs.length i.size = true) (hc : Cv (.ag cs) d) : Res1 P σ (.cell a ty) d
  | cell1 {a : Tmp} {ty : TypeId} {m : Nat} {ty' : TypeId} {x : DV} {desc : TypeDesc} {d : DV} (ha : σ.t a = .pt m 0) (hm : σ.n m = .bx ty' [x]) (hu : P.underlying ty = some desc) (hg : aggD desc = false) (hc : Cv x d) : Res1 P σ (.cell a ty) d
inductive ResL (P : Program) (σ : AS) : List ResultVar → List DV → Prop
  | nil : ResL P σ [] []
  | cons {r : ResultVar} {rs : List ResultVar} {d : DV} {ds : List DV} (h : Res1 P σ r d) (hs : ResL P σ rs ds) : ResL P σ (r :: rs) (d :: ds)
def RV.of : List DV → RV
  | [x] => .d x
  | l => .tu l
def resVal (a : Act) (rv : ResultVar) : Sem Value := match rv with
  | .tmp t => pure (a.tmps.getD t undef)
  | .cell c t => do loadVar t (← asAddr (a.tmps.getD c undef))
theorem Res1.run {σ : AS} {a : Act} {w : World} {F : Fr} (hF : Fits w0 U0 σ a w F) {rv : ResultVar} {d : DV} (h : Res1 P σ rv d) : ∃ v, (resVal a rv).run P w = .ok v w ∧ Rd w F.U v d := by
  cases h with
  | @tmp t v d rn hv h =>
    have := hF.t t
    rw [hv] at this
    exact ⟨_, rfl, h.get hF (fun _ _ => rfl) this⟩
  | @cell ad ty m ty' cs desc i d ha hm hu hg hi hl hc =>
    have h1 := hF.t ad
    rw [ha] at h1
    obtain ⟨b, hb, hv⟩ := h1
    obtain ⟨_, _, vs, h3, h4⟩ := box_get hF hm hb
    have hlv : vs.toList.length = i.size := by rw [h4.1.1]; exact Nat.eq_of_beq_eq_true hl
    refine ⟨.agg vs.toList.toArray, ?_, hc w F.U _ (.ag _ _ (by simpa using h4.1.1) (by simpa using h4.2) (by simpa using h4.1.2))⟩
    have := run_load_many (P := P) hu hg hi (w := w) (b := b) (o := 0) hlv (fun j u hu => by rw [Nat.zero_add, cell_of_row w b j vs ty' (0, 0) h3]; simpa using hu)
    simp only [resVal, hv, asAddr, Sem.run_bind, Sem.run_pure, Result.andThen_ok, this]
  | @cell1 ad ty m ty' x desc d ha hm hu hg hc =>
    have h1 := hF.t ad
    rw [ha] at h1
    obtain ⟨b, hb, hv⟩ := h1
    obtain ⟨_, _, vs, h3, h4⟩ := box_get hF hm hb
    have hl := h4.1.1
    obtain ⟨u, hu'⟩ : ∃ u, vs.toList = [u] := by
      match h : vs.toList, hl with
      | [u], _ => exact ⟨u, rfl⟩
    refine ⟨u, ?_, hc w F.U _ (h4.1.2 0 u x (by rw [hu']; rfl) rfl)⟩
    have hv0 : vs.toList[0]? = some u := by rw [hu']; rfl
    have := run_load_one (P := P) hu hg (w := w) (b := b) (o := 0) (u := u) (by rw [cell_of_row w b 0 vs ty' (0, 0) h3]; simpa using hv0)
    simp only [resVal, hv, asAddr, Sem.run_bind, Sem.run_pure, Result.andThen_ok, this]
theorem ResL.run {σ : AS} {a : Act} {w : World} {F : Fr} (hF : Fits w0 U0 σ a w F) {rs : List ResultVar} {ds : List DV} (h : ResL P σ rs ds) : ∃ vs : List Value, (rs.mapM (resVal a)).run P w = .ok vs w ∧ Rds w F.U vs ds := by
  induction h with
  | nil => exact ⟨[], rfl, Rds.nil⟩
  | cons h hs ih =>
    obtain ⟨v, h1, h2⟩ := h.run hF
    obtain ⟨vs, h3, h4⟩ := ih
    refine ⟨v :: vs, ?_, Rds.cons h2 h4⟩
    simp [List.mapM_cons, h1, h3]
def retR (P : Program) (rs : Array ResultVar) (r : RV) : Exit → AS → Prop
  | .normal, σ | .ret, σ => ∃ ds, ResL P σ rs.toList ds ∧ RV.of ds = r
  | _, _ => False
def args0 : List DV → Nat → List (Nat × AV)
  | [], _ => []
  | x :: xs, i => (i, .d x) :: args0 xs (i + 1)
theorem args0_get : ∀ (xs : List DV) (i t : Nat), lk (args0 xs i) t = if h : i ≤ t ∧ t - i < xs.length then .d xs[t - i] else .un := by
  intro xs
  induction xs with
  | nil => intro i t; simp [args0, lk]
  | cons x xs ih =>
    intro i t
    show (bif Nat.beq i t then AV.d x else lk (args0 xs (i + 1)) t) = _
    by_cases h : i = t
    · subst h; rw [Nat.beq_refl]; simp
    · rw [nbeq h, cond_false, ih]
      by_cases h1 : i + 1 ≤ t ∧ t - (i + 1) < xs.length
      · rw [dif_pos h1, dif_pos ⟨by omega, by simp; omega⟩]
        have e : t - i = (t - (i + 1)) + 1 := by omega
        simp only [e, List.getElem_cons_succ]
      · rw [dif_neg h1, dif_neg (by simp; omega)]
theorem ctr_intro {f : FuncId} {fn : Func} {c : Code} {args : List DV} {r : RV} (hf : P.funcs[f]? = some fn) (hb : fn.body = some c) (hn : Nat.ble args.length fn.ntmps = true)
    (h : ∀ w0 U0, A P fn.ntmps w0 U0 c (retR P fn.results r) (SS (args0 args 0) [])) : Ctr P f args r := by
  intro vals U w hR
  have hle := Nat.le_of_ble_eq_true hn
  have hsz : (vals.toArray ++ Array.replicate (fn.ntmps - vals.toArray.size) undef).size = fn.ntmps := by simp [hR.1]; omega
  refine calls_of_wp hf hb ((h w U).go _ _ ⟨rfl, hsz, Below.refl _ _, ⟨fun _ => none, fun _ => undef, U, fun _ _ => False⟩, fun _ _ => rfl, fun t => ?_, fun m => trivial, fun m m' b h => by cases h⟩ _ (fun e σ' a' w' hr hs' => ?_))
  · show Rav w _ (lk (args0 args 0) t) _
    rw [args0_get]
    split
    · rename_i ht
      have hl := hR.1
      have ht' : t < args.length := by simpa using ht.2
      have hv : (vals.toArray ++ Array.replicate (fn.ntmps - vals.toArray.size) undef).getD t undef = vals[t]'(by omega) := by
        rw [Array.getD_eq_getD_getElem?, Array.getElem?_append_left (by simp; omega)]
        simp [List.getElem?_eq_getElem (show t < vals.length by omega)]
      rw [hv]
      exact hR.2 t _ _ (List.getElem?_eq_getElem (by omega)) (by simp [List.getElem?_eq_getElem ht'])
    · trivial
  · have key : (∃ ds, ResL P σ' fn.results.toList ds ∧ RV.of ds = r) → a'.defers = [] ∧ ∃ v, (results fn a'.tmps).run P w' = .ok v w' ∧ ∃ v' U', Ending.returned v = .returned v' ∧ Below w.heap.size w w' ∧ (∀ b, b < w.heap.size → U' b = U b) ∧ Rres w' U' v' r := by
      rintro ⟨ds, hL, hr⟩
      obtain ⟨F, hF⟩ := hs'.f
      obtain ⟨vs, h1, h2⟩ := hL.run hF
      have hm : (fn.results.mapM (resVal a')).run P w' = .ok vs.toArray w' := by
        rw [Array.mapM_eq_mapM_toList]
        simp [h1]
      refine ⟨hs'.d, if hh : vs.toArray.size = 1 then vs.toArray[0] else .tuple vs.toArray, ?_, _, F.U, rfl, hs'.b, hF.u, ?_⟩
      · have hres : results fn a'.tmps = (fn.results.mapM (resVal a') >>= fun vs => pure (if h : vs.size = 1 then vs[0] else .tuple vs)) := rfl
        rw [hres, Sem.run_bind, hm]
        rfl
      · subst hr
        have hl := h2.1
        match vs, ds, hl, h2 with
        | [], [], _, h2 => exact ⟨_, rfl, h2⟩
        | [v], [d], _, h2 => exact h2.2 0 v d rfl rfl
        | v :: v2 :: vs, d :: d2 :: ds, _, h2 =>
          have : ¬ ((v :: v2 :: vs).toArray.size = 1) := by simp
          rw [dif_neg this]
          exact ⟨_, rfl, h2⟩
    cases e with
    | normal => exact key hr
    | ret => exact key hr
    | _ => exact hr.elim
/-! ### slices of parts -/
theorem run_sizeOf' {t : TypeId} {i : TypeInfo} (hi : P.info? t = some i) (w : World) : (sizeOf t).run P w = .ok i.size w := by simp [sizeOf, typeInfo, hi]
end
end Go.Proofs.Yteplcjhnmmpicaa.Av
