/- A package-level table that is only read; structures held against each other. Conditions: as each theorem names them. -/
import Derived.Test.YteplcjhnmmpicaaAv25
import Derived.Test.YteplcjhnmmpicaaAv19
import Derived.Laws.StructEq
import Derived.MakeChecks
set_option linter.unusedSimpArgs false
set_option linter.unusedVariables false
namespace Go.Proofs.Yteplcjhnmmpicaa.Av
open Go Go.RowKit
/-- the table reads so -/
def Glo (g : Nat) (gs : List DV) (w : World) (U : Nat → Nat) : Prop := Rd w U (.pointer (some ⟨g, 0, none⟩)) (.el gs)
/-- a function takes such data to such a result where the table reads so -/
def CtrG (P : Program) (g : Nat) (gs : List DV) (f : FuncId) (args : List DV) (r : RV) : Prop :=
  ∀ (vals : List Value) (U : Nat → Nat) (w : World), Glo g gs w U → Rds w U vals args → Calls P f vals.toArray w fun e w' => ∃ v U', e = .returned v ∧ Below w.heap.size w w' ∧ (∀ b, b < w.heap.size → U' b = U b) ∧ Rres w' U' v r
theorem ctrG_of {P : Program} {g : Nat} {gs : List DV} {f : FuncId} {args : List DV} {r : RV} (h : Ctr P f args r) : CtrG P g gs f args r := fun vals U w _ hR => h vals U w hR
section
variable {P : Program} {N : Nat} {w0 : World} {U0 : Nat → Nat}
theorem Fits.glo {σ : AS} {a : Act} {w : World} {F : Fr} (hs : St N w0 U0 σ a w) (hF : Fits w0 U0 σ a w F) {g : Nat} {gs : List DV} (hG : Glo g gs w0 U0) : Glo g gs w F.U :=
  Rd.ext (Up.ext (⟨fun b hb => hs.b.block b hb, hF.u⟩ : Up w0 U0 w F.U)) hG
theorem op_callG {o : Oper} {σ : AS} {f : FuncId} {args : Array Operand} {ats : Array TypeId} {g : Nat} {gs : List DV} (hG : Glo g gs w0 U0) (ho : o.op = .call { callee := .value (.func f), args := args, argTypes := ats }) {fn : Func} (hf : P.funcs[f]? = some fn) (hn : (fn.name == "runtime.NumGoroutine") = false) (hb : fn.body.isNone = false)
    {ds : List DV} {rns : List Nat} {r : RV} (ha : ArgsS σ args.toList ds rns) (hc : CtrG P g gs f ds r) (hd : dOk o N = true) : OpS P N w0 U0 o σ ⟨o.dst.map fun d => (d, r.av), [], rns, []⟩ := by
  intro σ' hok a w hs K Q hK
  obtain ⟨F, hF⟩ := hs.f
  have hR := ha.get hF hok.n (fun x hx => ev_ok hok (by simp [ho, Op.operands, Call.operands]; exact .inr (by simpa using hx)))
  have hcall := hc _ F.U w (hF.glo hs hG) hR
  unfold Oper.wp
  have hex : (execOp a.eval o).run P w = .ok (.enter f (args.toList.map a.eval).toArray) w := by
    unfold execOp
    simp only [ho, resolve, Act.eval, Deferred.ofValue, invoke, Sem.run_bind, Sem.run_pure, Result.andThen_ok]
    have e1 : (#[] ++ Array.map a.eval args ++ #[] : Array Value) = (args.toList.map a.eval).toArray := by
      apply Array.ext'
      simp
    rw [e1]
    exact run_call hf hn hb _ w
  rw [hex, Oper.upon_enter]
  refine Calls.mono hcall ?_
  rintro e w' ⟨v, U', rfl, h1, h2, h3⟩
  have hfit := hF.put (U' := U') hs.b.size ⟨h1.block, h2⟩ hd hs.s (av := r.av) (v := v) (Rres.av (F := { F with U := U' }) h3) rns []
  exact hK _ _ ⟨by rw [put_defers]; exact hs.d, by rw [put_size]; exact hs.s, hs.b.trans (h1.mono hs.b.size), _, hfit⟩
/-- an element of the table -/
theorem op_indexG {o : Oper} {σ : AS} {t e : TypeId} {n g : Nat} {gs : List DV} {y : Operand} (hG : Glo g gs w0 U0) (ho : o.op = .indexAddr t (.global g) y) (hu : P.underlying t = some (.array n e)) {zv : Value} {bb : Nat} (hi : TI P e zv 1 bb) {k : IntKind} {i : Int} (hy : σ.ev y = .d (.fl (.int k i))) (h0 : 0 ≤ i) (h1 : i < n) (hd : dOk o N = true) :
    OpS P N w0 U0 o σ ⟨o.dst.map fun d => (d, .el (gs.drop i.toNat)), [], [], []⟩ := by
  intro σ' hok a w hs K Q hK
  obtain ⟨F, hF⟩ := hs.f
  obtain ⟨info, g1, _, g3, _⟩ := hi
  have hyv : a.eval y = .int k i := flat_val (ev_get hok hF (x := y) (by simp [ho, Op.operands]) hy)
  obtain ⟨b, off, he, hc⟩ := elD (hF.glo hs hG)
  injection he with he; injection he with he; injection he with hb ho' _
  subst hb ho'
  have hrun : (execOp a.eval o).run P w = .ok (.value (.pointer (some ⟨g, i.toNat, none⟩))) w := by
    have hx : a.eval (.global g) = .pointer (some ⟨g, 0, none⟩) := rfl
    simp [execOp, ho, hx, hyv, Instr.indexAt, asIntOf, run_underlying hu, Instr.sureAddr, h0, h1, sizeOf, typeInfo, g1, g3, add_plain']
  have hv : Rav w F (.el (gs.drop i.toNat)) (.pointer (some ⟨g, i.toNat, none⟩)) := by
    refine elM fun j x hx => ?_
    rw [List.getElem?_drop] at hx
    obtain ⟨u, k1, k2, k3, k4⟩ := hc (i.toNat + j) x hx
    exact ⟨u, by simpa using k1, by simpa using k2, k3, k4⟩
  have hfit := hF.put (U' := F.U) hs.b.size ⟨fun _ _ => rfl, fun _ _ => rfl⟩ hd hs.s (av := .el (gs.drop i.toNat)) (v := .pointer (some ⟨g, i.toNat, none⟩)) hv [] []
  unfold Oper.wp
  rw [hrun]
  exact hK _ _ ⟨by rw [put_defers]; exact hs.d, by rw [put_size]; exact hs.s, hs.b, _, hfit⟩
/-- structures of flat values -/
theorem rd_fl {w : World} {U : Nat → Nat} {v x : Value} (h : Rd w U v (.fl x)) : v = x := by cases h; rfl
theorem rd_flat {w : World} {U : Nat → Nat} {v : Value} {xs : List Value} (h : Rd w U v (.ag (xs.map DV.fl))) : v = .agg xs.toArray := by
  generalize hd : DV.ag (xs.map DV.fl) = d at h
  cases h with
  | ag vs cs hl ho hc =>
    injection hd with hd
    subst hd
    congr 1
    apply Array.ext'
    simp only [List.size_toArray, List.length_map] at hl
    apply List.ext_getElem?
    intro i
    have hl' : vs.toList.length = xs.length := by simpa using hl
    rcases Nat.lt_or_ge i xs.length with hi | hi
    · have h1 : vs.toList[i]? = some (vs.toList[i]'(by omega)) := List.getElem?_eq_getElem _
      have h2 := hc i _ (.fl (xs[i])) h1 (by simp [hi])
      rw [h1, List.getElem?_eq_getElem hi]
      exact congrArg some (rd_fl h2)
    · rw [List.getElem?_eq_none (by omega), List.getElem?_eq_none (by omega)]
  | _ => cases hd
theorem op_eqS {o : Oper} {σ : AS} {op : BinOp} {t t' : TypeId} {x y : Operand} (xs ys : List Value) (ho : o.op = .binOp op t x y t') (hx : σ.ev x = .d (.ag (xs.map DV.fl))) (hy : σ.ev y = .d (.ag (ys.map DV.fl))) {b : Bool}
    (hv : ∀ w, (do eqGuard op t x y (.agg xs.toArray) (.agg ys.toArray); binOp op t (.agg xs.toArray) (.agg ys.toArray) : Sem Value).run P w = .ok (.bool b) w) (hd : dOk o N = true) : OpS P N w0 U0 o σ ⟨o.dst.map fun d => (d, .d (.fl (.bool b))), [], [], []⟩ :=
  opS_still hd fun σ' hok a w F hF => by
    have h1 := rd_flat (ev_get hok hF (x := x) (by simp [ho, Op.operands]) hx)
    have h2 := rd_flat (ev_get hok hF (x := y) (by simp [ho, Op.operands]) hy)
    refine ⟨.bool b, ?_, .fl _⟩
    have := hv w
    simp only [execOp, ho, h1, h2]
    rw [Sem.run_bind, this]
    rfl
/-- entering a function that reads the table -/
theorem ctrG {g : Nat} {gs : List DV} {f : FuncId} {fn : Func} {c : Code} {args : List DV} {r : RV} {n : Nat} {rs : Array ResultVar} {L : List (Nat × AV)} (hf : P.funcs[f]? = some fn) (hb : fn.body = some c) (hn : fn.ntmps = n) (hr : fn.results = rs) (hl : Nat.ble args.length n = true) (hL : args0 args 0 = L)
    (h : ∀ w0 U0, Glo g gs w0 U0 → A P n w0 U0 c (retR P rs r) (SS L [])) : CtrG P g gs f args r := by
  subst hn
  subst hr
  subst hL
  intro vals U w hg hR
  have hle := Nat.le_of_ble_eq_true hl
  have hsz : (vals.toArray ++ Array.replicate (fn.ntmps - vals.toArray.size) undef).size = fn.ntmps := by simp [hR.1]; omega
  refine calls_of_wp hf hb ((h w U hg).go _ _ ⟨rfl, hsz, Below.refl _ _, ⟨fun _ => none, fun _ => undef, U, fun _ _ => False⟩, fun _ _ => rfl, fun t => ?_, fun m => trivial, fun m m' b h => by cases h⟩ _ (fun e σ' a' w' hr hs' => ?_))
  · show Rav w _ (lk (args0 args 0) t) _
    rw [args0_get]
    split
    · rename_i ht
      have hl := hR.1
      have ht' : t < args.length := by simpa using ht.2
      have hv : (vals.toArray ++ Array.replicate (fn.ntmps - vals.toArray.size) undef).getD t undef = vals[t]'(by omega) := by
        rw [Array.getD_eq_getD_getElem?, Array.getElem?_append_left (by simp; omega)]
        simp [List.getElem?_eq_getElem (show t < vals.length by omega)]
      rw [hv]
      exact hR.2 t _ _ (List.getElem?_eq_getElem (by omega)) (by simp [List.getElem?_eq_getElem ht'])
    · trivial
  · have key : (∃ ds, ResL P σ' fn.results.toList ds ∧ RV.of ds = r) → a'.defers = [] ∧ ∃ v, (results fn a'.tmps).run P w' = .ok v w' ∧ ∃ v' U', Ending.returned v = .returned v' ∧ Below w.heap.size w w' ∧ (∀ b, b < w.heap.size → U' b = U b) ∧ Rres w' U' v' r := by
      rintro ⟨ds, hL, hr⟩
      obtain ⟨F, hF⟩ := hs'.f
      obtain ⟨vs, h1, h2⟩ := hL.run hF
      have hm : (fn.results.mapM (resVal a')).run P w' = .ok vs.toArray w' := by
        rw [Array.mapM_eq_mapM_toList]
        simp [h1]
      refine ⟨hs'.d, if hh : vs.toArray.size = 1 then vs.toArray[0] else .tuple vs.toArray, ?_, _, F.U, rfl, hs'.b, hF.u, ?_⟩
      · have hres : results fn a'.tmps = (fn.results.mapM (resVal a') >>= fun vs => pure (if h : vs.size = 1 then vs[0] else .tuple vs)) := rfl
        rw [hres, Sem.run_bind, hm]
        rfl
      · subst hr
        have hl := h2.1
        match vs, ds, hl, h2 with
        | [], [], _, h2 => exact ⟨_, rfl, h2⟩
        | [v], [d], _, h2 => exact h2.2 0 v d rfl rfl
        | v :: v2 :: vs, d :: d2 :: ds, _, h2 =>
          have : ¬ ((v :: v2 :: vs).toArray.size = 1) := by simp
          rw [dif_neg this]
          exact ⟨_, rfl, h2⟩
    cases e with
    | normal => exact key hr
    | ret => exact key hr
    | _ => exact hr.elim
theorem law_trueG {g : Nat} {gs : List DV} {f : FuncId} {args : List DV} (hc : CtrG P g gs f args (.d (.fl (.bool true)))) {vals : List Value} {w : World} (hg : Glo g gs w (UA w)) (h : Rds w (UA w) vals args) : Calls P f vals.toArray w fun e w' => e = .returned (.bool true) ∧ Below w.heap.size w w' := by
  refine Calls.mono (hc vals (UA w) w hg h) ?_
  rintro e w' ⟨v, U', rfl, h1, _, h3⟩
  have h3' : Rd w' U' v (.fl (.bool true)) := h3
  cases h3'
  exact ⟨rfl, h1⟩
end
end Go.Proofs.Yteplcjhnmmpicaa.Av
