/- A row of the call's own is lent to a function whose result is held against something and then forgotten: three operations (call, move, call). Conditions: as the theorem names them. -/
import Derived.Test.YtipkielpicfobaaAvF
set_option linter.unusedSimpArgs false
set_option linter.unusedVariables false
namespace Go.Proofs.Ytipkielpicfobaa.Av
open Go Go.RowKit
section
variable {P : Program} {N : Nat} {w0 : World} {U0 : Nat → Nat}
theorem rg_lend3 {d1 d2 d3 t2 : Nat} {ops : Array Oper} {o1 o2 o3 : Oper} {k : Nat} {L : List (Nat × AV)} {M : List (Nat × Ob)} {R : AS → Prop} {fF fG : FuncId} {s g1 : Operand} {ats1 ats3 : Array TypeId} {m : Nat} {e : TypeId} {z : Nat} {α : Type} {f : α → List DV} {l : List α} {dg dx r1 : DV} {v3 : Value}
    (ho1 : ops[k]? = some o1) (hg1 : o1.guard = none) (hop1 : o1.op = .call { callee := .value (.func fF), args := #[s, g1], argTypes := ats1 }) (hdst1 : o1.dst = some d1) (hd1 : dOk o1 N = true) {fn1 : Func} (hf1 : P.funcs[fF]? = some fn1) (hn1 : (fn1.name == "runtime.NumGoroutine") = false) (hb1 : fn1.body.isNone = false)
    (ho2 : ops[k + 1]? = some o2) (hg2 : o2.guard = none) (hop2 : o2.op = .move (.tmp t2)) (hdst2 : o2.dst = some d2) (hd2 : dOk o2 N = true)
    (ho3 : ops[k + 1 + 1]? = some o3) (hg3 : o3.guard = none) (hop3 : o3.op = .call { callee := .value (.func fG), args := #[.tmp d1, .tmp d2], argTypes := ats3 }) (hdst3 : o3.dst = some d3) (hd3 : dOk o3 N = true) {fn3 : Func} (hf3 : P.funcs[fG]? = some fn3) (hn3 : (fn3.name == "runtime.NumGoroutine") = false) (hb3 : fn3.body.isNone = false)
    (hne : Nat.beq d1 d2 = false) (hne2 : Nat.beq d1 t2 = false) (hs : (SS L M).ev s = .ow m) (hm : ln M m = .tr e z (tD f l)) (hz : ∀ x, (f x).length = z) (hg : (SS L M).ev g1 = .d dg) (hx : lk L t2 = .d dx)
    (hF : Ctr P fF [.sl z (l.map f), dg] (.d r1)) (hG : Ctr P fG [r1, dx] (.d (.fl v3)))
    (h : RG P N w0 U0 ops (k + 1 + 1 + 1) (SS ((d3, .d (.fl v3)) :: (d2, .un) :: (d1, .un) :: L) M) R) : RG P N w0 U0 ops k (SS L M) R := by
  refine ⟨fun a w hst Q hQ => ?_⟩
  have hstep : ∀ k, k < ops.size → ((List.range (ops.size - k)).map (· + k)) = k :: ((List.range (ops.size - (k + 1))).map (· + (k + 1))) := by
    intro k hlt
    rw [show ops.size - k = (ops.size - (k + 1)) + 1 by omega, List.range_succ_eq_map]
    simp only [List.map_cons, Nat.zero_add, List.map_map, List.cons.injEq, true_and]
    apply List.map_congr_left
    intro x _
    show x + 1 + k = x + (k + 1)
    omega
  rw [hstep k (Array.getElem?_eq_some_iff.1 ho1).1, wpOps_cons]
  unfold wpOp
  rw [ho1]
  simp only
  have hw : Region.wanted o1 (yielded ops a.tmps) = true := by simp [Region.wanted, hg1]
  rw [if_pos hw]
  refine .inl ?_
  obtain ⟨F, hFi⟩ := hst.f
  -- the row as data
  have hob := hFi.n m
  rw [show (SS L M).n m = _ from hm] at hob
  obtain ⟨xs, T, q1, q2, q3, q4, q5⟩ := hob
  have hfl : (tD f l).flatten = ((l.map f).flatten).map OC.dv := by unfold tD; rw [flat_map_dv]
  rw [hfl] at q2
  obtain ⟨hrc, hno⟩ := Tcs.noDv q2
  have hlen : (tD f l).length = (l.map f).length := by simp [tD]
  rw [hlen] at q1
  obtain ⟨U1, hU1⟩ : ∃ U1 : Nat → Nat, U1 = fun b => if (F.γ m).ownBlock = some b then (l.map f).length * z else F.U b := ⟨_, rfl⟩
  have hE1 : Ext w F.U w U1 := ⟨fun b o u hc ho' => ⟨hc, by
    rw [hU1]
    by_cases hb : (F.γ m).ownBlock = some b
    · rw [(q4 b hb).1] at ho'; omega
    · show o < (if (F.γ m).ownBlock = some b then _ else F.U b)
      rw [if_neg hb]; exact ho'⟩, fun r es c hr hu => ⟨rfl, by
    rw [hU1]
    by_cases hb : (F.γ m).ownBlock = some r
    · rw [(q4 r hb).1] at hu; omega
    · show (if (F.γ m).ownBlock = some r then _ else F.U r) = _
      rw [if_neg hb]⟩⟩
  have hvm : a.eval s = F.γ m := by have := hFi.ev s; rw [hs] at this; exact this
  have hrow : Rd w U1 (a.eval s) (.sl z (l.map f)) := by
    rw [hvm]
    refine own_rd q1 (hrc.ext hE1) (fun r hr => by obtain ⟨x, _, rfl⟩ := List.mem_map.1 hr; exact hz x) (fun b hb => ?_)
    rw [hU1]; exact if_pos hb
  have hdg : Rd w U1 (a.eval g1) dg := by have := hFi.ev g1; rw [hg] at this; exact Rd.ext hE1 this
  have hdx : Rd w U1 (a.tmps.getD t2 undef) dx := by have := hFi.t t2; rw [show (SS L M).t t2 = _ from hx] at this; exact Rd.ext hE1 this
  have hex : (execOp a.eval o1).run P w = .ok (.enter fF #[a.eval s, a.eval g1]) w := by
    unfold execOp
    have hfn : a.eval (Operand.func fF) = .func (.func fF) #[] #[] := rfl
    simp only [hop1, resolve, hfn, Deferred.ofValue, invoke, Sem.run_bind, Sem.run_pure, Result.andThen_ok]
    have e1 : (#[] ++ Array.map a.eval #[s, g1] ++ #[] : Array Value) = #[a.eval s, a.eval g1] := by apply Array.ext'; simp
    rw [e1]
    exact run_call hf1 hn1 hb1 _ w
  unfold Oper.wp
  rw [hex, Oper.upon_enter]
  refine Calls.mono (hF [a.eval s, a.eval g1] U1 w (.cons hrow (.cons hdg .nil))) ?_
  rintro ex w1 ⟨v1, U2, rfl, b1, u1, r1'⟩
  have r1' : Rd w1 U2 v1 r1 := r1'
  have hE2 : Ext w U1 w1 U2 := (Up.mk b1.block u1 : Up w U1 w1 U2).ext
  have hdx1 := hdx.ext hE2
  have hfit1 := hFi.put (U' := F.U) hst.b.size ⟨b1.block, fun b _ => rfl⟩ hd1 hst.s (av := .un) (v := v1) trivial [] []
  have hst1 : St N w0 U0 (SS ((d1, .un) :: L) M) (a.put o1.dst v1) w1 := by
    have : St N w0 U0 ((⟨o1.dst.map fun q => (q, .un), [], [], []⟩ : Eff).ap (SS L M)) (a.put o1.dst v1) w1 := ⟨by rw [put_defers]; exact hst.d, by rw [put_size]; exact hst.s, hst.b.trans (b1.mono hst.b.size), _, hfit1⟩
    rw [ap_ss, hdst1] at this
    rw [hdst1]
    exact this
  have hsz : ∀ {o : Oper} {d : Nat}, o.dst = some d → dOk o N = true → d < N := fun {o d} h1 h2 => by
    unfold dOk at h2
    rw [h1] at h2
    simpa using h2
  have hev1 : (a.put o1.dst v1).tmps.getD d1 undef = v1 := by
    rw [hdst1, put_get (by rw [hst.s]; exact hsz hdst1 hd1), if_pos rfl]
  have hevx : (a.put o1.dst v1).tmps.getD t2 undef = a.tmps.getD t2 undef := by
    rw [hdst1, put_get (by rw [hst.s]; exact hsz hdst1 hd1), if_neg (fun h => by subst h; rw [Nat.beq_refl] at hne2; cases hne2)]
  show wpOps P ops Q _ (a.put o1.dst v1) w1
  rw [← hevx] at hdx1
  generalize a.put o1.dst v1 = a1 at hst1 hev1 hdx1 ⊢
  -- the move
  rw [hstep (k + 1) (Array.getElem?_eq_some_iff.1 ho2).1, wpOps_cons]
  unfold wpOp
  rw [ho2]
  simp only
  have hw2 : Region.wanted o2 (yielded ops a1.tmps) = true := by simp [Region.wanted, hg2]
  rw [if_pos hw2]
  refine .inl ?_
  have hex2 : (execOp a1.eval o2).run P w1 = .ok (.value (a1.tmps.getD t2 undef)) w1 := by
    unfold execOp
    simp only [hop2]
    rfl
  unfold Oper.wp
  rw [hex2]
  obtain ⟨F1, hF1⟩ := hst1.f
  have hfit2 := hF1.put (U' := F1.U) hst1.b.size ⟨fun b _ => rfl, fun b _ => rfl⟩ hd2 hst1.s (av := .un) (v := a1.tmps.getD t2 undef) trivial [] []
  have hst2 : St N w0 U0 (SS ((d2, .un) :: (d1, .un) :: L) M) (a1.put o2.dst (a1.tmps.getD t2 undef)) w1 := by
    have : St N w0 U0 ((⟨o2.dst.map fun q => (q, .un), [], [], []⟩ : Eff).ap (SS ((d1, .un) :: L) M)) (a1.put o2.dst (a1.tmps.getD t2 undef)) w1 := ⟨by rw [put_defers]; exact hst1.d, by rw [put_size]; exact hst1.s, hst1.b, _, hfit2⟩
    rw [ap_ss, hdst2] at this
    rw [hdst2]
    exact this
  have hev2 : (a1.put o2.dst (a1.tmps.getD t2 undef)).tmps.getD d1 undef = v1 := by
    rw [hdst2, put_get (by rw [hst1.s]; exact hsz hdst2 hd2), if_neg (fun h => by subst h; rw [Nat.beq_refl] at hne; cases hne)]; exact hev1
  have hev2x : (a1.put o2.dst (a1.tmps.getD t2 undef)).tmps.getD d2 undef = a1.tmps.getD t2 undef := by
    rw [hdst2, put_get (by rw [hst1.s]; exact hsz hdst2 hd2), if_pos rfl]
  show wpOps P ops Q _ (a1.put o2.dst (a1.tmps.getD t2 undef)) w1
  generalize a1.tmps.getD t2 undef = vx at hst2 hev2 hev2x hdx1 ⊢
  generalize a1.put o2.dst vx = a2 at hst2 hev2 hev2x ⊢
  -- the second call
  rw [hstep (k + 1 + 1) (Array.getElem?_eq_some_iff.1 ho3).1, wpOps_cons]
  unfold wpOp
  rw [ho3]
  simp only
  have hw3 : Region.wanted o3 (yielded ops a2.tmps) = true := by simp [Region.wanted, hg3]
  rw [if_pos hw3]
  refine .inl ?_
  have hex3 : (execOp a2.eval o3).run P w1 = .ok (.enter fG #[v1, vx]) w1 := by
    unfold execOp
    have hfn : a2.eval (Operand.func fG) = .func (.func fG) #[] #[] := rfl
    have h1 : a2.eval (Operand.tmp d1) = v1 := hev2
    have h2 : a2.eval (Operand.tmp d2) = vx := hev2x
    simp only [hop3, resolve, hfn, Deferred.ofValue, invoke, Sem.run_bind, Sem.run_pure, Result.andThen_ok]
    have e1 : (#[] ++ Array.map a2.eval #[Operand.tmp d1, Operand.tmp d2] ++ #[] : Array Value) = #[v1, vx] := by apply Array.ext'; simp [h1, h2]
    rw [e1]
    exact run_call hf3 hn3 hb3 _ w1
  unfold Oper.wp
  rw [hex3, Oper.upon_enter]
  refine Calls.mono (hG [v1, vx] U2 w1 (.cons r1' (.cons hdx1 .nil))) ?_
  rintro ex w3 ⟨v, U3, rfl, b3, u3, r3⟩
  have r3 : Rd w3 U3 v (.fl v3) := r3
  have hv3 : v = v3 := by cases r3; rfl
  subst hv3
  obtain ⟨F2, hF2⟩ := hst2.f
  have hfit3 := hF2.put (U' := F2.U) hst2.b.size ⟨b3.block, fun b _ => rfl⟩ hd3 hst2.s (av := .d (.fl v)) (v := v) (Rd.fl v) [] []
  have hst3 : St N w0 U0 (SS ((d3, .d (.fl v)) :: (d2, .un) :: (d1, .un) :: L) M) (a2.put o3.dst v) w3 := by
    have : St N w0 U0 ((⟨o3.dst.map fun q => (q, .d (.fl v)), [], [], []⟩ : Eff).ap (SS ((d2, .un) :: (d1, .un) :: L) M)) (a2.put o3.dst v) w3 := ⟨by rw [put_defers]; exact hst2.d, by rw [put_size]; exact hst2.s, hst2.b.trans (b3.mono hst2.b.size), _, hfit3⟩
    rw [ap_ss, hdst3] at this
    rw [hdst3]
    exact this
  show wpOps P ops Q _ (a2.put o3.dst v) w3
  exact h.go _ _ hst3 Q hQ
end
end Go.Proofs.Ytipkielpicfobaa.Av
