/- The check of a tariff. No condition. -/
import Derived.Test.YtlmihhecpaomjaaWw
import Derived.Test.YtlmihhecpaomjaaB3
set_option linter.unusedSimpArgs false
set_option linter.unusedVariables false
namespace Go.Proofs.Ytlmihhecpaomjaa.Wk
open Go Go.RowKit Go.Proofs.Ytlmihhecpaomjaa.Av
section
open Go.ChangeMaps (setBlock)
variable {P : Program} {N : Nat} {w0 : World} {U0 : Nat → Nat}
theorem op_mapIns {o : Oper} {σ : AS} {t : TypeId} {x y z : Operand} (ho : o.op = .insert t x y z) (hdn : o.dst = none) {kt et : TypeId} (ht : P.underlying t = some (.map kt et)) {td : TypeDesc} (hk : P.underlying kt = some td) (htd : keyTd td = true)
    {m : Nat} {xs : List (Value × DV)} (hx : σ.ev x = .ow m) (hm : σ.n m = .mp xs) {k : Value} (hy : σ.ev y = .d (.fl k)) (hr : mfind td k xs = some none) {d : DV} (hz : σ.ev z = .d d) :
    OpS P N w0 U0 o σ ⟨none, [(m, .mp (xs ++ [(k, d)]))], [m], []⟩ := by
  intro σ' hok a w hs K Q hK
  obtain ⟨F, hF⟩ := hs.f
  have hv : a.eval x = F.γ m := ev_get hok hF (x := x) (by simp [ho, Op.operands]) hx
  have hvy := ev_get hok hF (x := y) (by simp [ho, Op.operands]) hy
  have hkv : a.eval y = k := by generalize a.eval y = v at hvy; cases hvy; rfl
  have hvz : Rd w F.U (a.eval z) d := ev_get hok hF (x := z) (by simp [ho, Op.operands]) hz
  have hm' : σ'.n m = .mp xs := by rw [hok.n m (by simp)]; exact hm
  have hn := hF.n m
  rw [hm'] at hn
  obtain ⟨b, es, c, h1, h2, h3, h4, h5, h6⟩ := hn
  have hlt : b < w.heap.size := (Array.getElem?_eq_some_iff.1 h4).1
  obtain ⟨g1, _⟩ := find_ents es.toList xs 0 h5 none hr
  have hrun : (execOp a.eval o).run P w = .ok .skip (setBlock w b (.map (es.push ⟨k, a.eval z, c⟩) (c + 1))) := by
    simp [execOp, ho, hv, h1, hkv, Instr.mapUpdate, run_underlying ht, MapKept.run_getObj_map h4, run_checkKey' hk htd, run_findKey' hk (g1 rfl), MapKept.run_setObj_map _ h4, Result.andThen, setBlock]
  have hE := ext_setBlock (w := w) (Obj.map (es.push ⟨k, a.eval z, c⟩) (c + 1)) h3
  have hents : Ents (setBlock w b (.map (es.push ⟨k, a.eval z, c⟩) (c + 1))) F.U (es.push ⟨k, a.eval z, c⟩).toList (xs ++ [(k, d)]) := by
    have hl := h5.1
    refine ⟨by simp [← hl], fun i e u he hu => ?_⟩
    rw [Array.toList_push] at he
    rcases Nat.lt_or_ge i xs.length with hi | hi
    · rw [List.getElem?_append_left (by omega)] at he
      rw [List.getElem?_append_left hi] at hu
      exact ⟨(h5.2 i e u he hu).1, (h5.2 i e u he hu).2.ext hE⟩
    · rw [List.getElem?_append_right (by omega)] at he
      rw [List.getElem?_append_right hi] at hu
      have hi0 : i - xs.length = 0 := by
        have := (List.getElem?_eq_some_iff.1 hu).1
        simp at this; omega
      rw [hi0] at hu
      rw [show i - es.toList.length = 0 by omega] at he
      simp at he hu
      subst he hu
      exact ⟨rfl, hvz.ext hE⟩
  have hfit := hF.setobj (a' := a) (m := m) (b := b) (by rw [hm']; rfl) h6 h3 (obj := .map (es.push ⟨k, a.eval z, c⟩) (c + 1)) (ob := .mp (xs ++ [(k, d)])) ⟨b, _, _, h1, h2, h3, setBlock_same _ hlt, hents, h6⟩
    (tw := none) (fun _ => rfl) (fun _ _ h => by cases h) [m]
  unfold Oper.wp
  rw [hrun]
  have : a.put o.dst undef = a := by rw [hdn]; rfl
  unfold Oper.upon
  simp only [this]
  exact hK _ _ ⟨hs.d, hs.s, below_setBlock hs.b h2 _, _, hfit⟩
theorem op_mapInsE {o : Oper} {σ : AS} {t : TypeId} {x y z : Operand} (ho : o.op = .insert t x y z) (hdn : o.dst = none) {kt et : TypeId} (ht : P.underlying t = some (.map kt et)) {td : TypeDesc} (hk : P.underlying kt = some td) (htd : keyTd td = true)
    {m : Nat} {xs ys : List (Value × DV)} (hx : σ.ev x = .ow m) (hm : σ.n m = .mp xs) {k : Value} (hy : σ.ev y = .d (.fl k)) (hr : mfind td k xs = some none) {d : DV} (hz : σ.ev z = .d d) (he : xs ++ [(k, d)] = ys) :
    OpS P N w0 U0 o σ ⟨none, [(m, .mp ys)], [m], []⟩ := he ▸ op_mapIns ho hdn ht hk htd hx hm hy hr hz
end

def setQ (l : List Pnt) : List (Value × DV) := l.map fun x => (Value.string x.name, DV.ag (ePnt x))
theorem setQ_take {l : List Pnt} {k : Nat} (h : k < l.length) : setQ (l.take k) ++ [(Value.string (ix l k).name, DV.ag (ePnt (ix l k)))] = setQ (l.take (k + 1)) := by unfold setQ; rw [take_ix h, List.map_append]; rfl
theorem pF_take {l : List Pnt} {k : Nat} (h : pt1 l k = 0) : pF (l.take k) (ix l k).name = none := by
  have hd := (pt_parts h).2
  unfold dupP at hd
  unfold pF
  rw [List.find?_eq_none]
  intro x hx
  rw [List.any_eq_false] at hd
  exact hd x hx
theorem kn_ok {t : Tpg} (h : tck t = 0) : kn t = t.net.pts := by unfold kn; rw [vT_tck t h]
theorem kn_no {t : Tpg} (h : tck t ≠ 0) : kn t = [] := by unfold kn vT; rw [if_neg h]
def vI (i : Iv) : Bool := (decide (0 ≤ i.fr) && decide (i.fr < i.to)) && decide (i.to ≤ 68719476736)
def chg (l : List Pnt) (r : Rt) : Bool := bif sEq r.to ⟨#[]⟩ then kd l r.fr == 1 else ((kd l r.fr == 2) && (kd l r.to == 3)) && sEq (sy l r.fr) (sy l r.to)
def plcR (r : Rt) : Rt := Rt.mk r.fr r.to r.cls r.band 0
noncomputable def bn1 (l : List Bd) (k : Nat) : Int := bif !(Nm.nmB (ix l k).name) then 6 else bif !(vW (ix l k).win) then 1 else 0
def nmd (l : List Bd) (s : ByteArray) : Bool := l.any fun b => sEq b.name s
def hasB (l : List Bd) (s : ByteArray) : Bool := sEq s ⟨#[]⟩ || nmd l s
def dupR (l : List Rt) (r : Rt) : Bool := l.any fun x => ((sEq x.fr r.fr && sEq x.to r.to) && (x.cls == r.cls)) && sEq x.band r.band
def rt1 (p : List Pnt) (b : List Bd) (l : List Rt) (k : Nat) : Int := bif !(chg p (ix l k)) then 16 else bif (decide ((ix l k).cls < 1) || decide (9 < (ix l k).cls)) then 20 else bif !(hasB b (ix l k).band) then 10 else bif (decide ((ix l k).cents < 0) || decide (1125899906842624 < (ix l k).cents)) then 13 else bif dupR (l.take k) (ix l k) then 9 else 0
noncomputable def bnE (l : List Bd) : Int := fe (bn1 l) 0 l.length
def rtE (p : List Pnt) (b : List Bd) (l : List Rt) : Int := fe (rt1 p b l) 0 l.length
def tlim (x : Ta) : Bool := decide (1024 < (x.bands.length : Int)) || decide (1024 < (x.rates.length : Int))
noncomputable def tk (p : List Pnt) (x : Ta) : Int := bif !(vI x.val) then 12 else bif tlim x then 3 else bif bnE x.bands != 0 then bnE x.bands else rtE p x.bands x.rates
theorem tk_v {p : List Pnt} {x : Ta} (h : vI x.val = false) : tk p x = 12 := by unfold tk; rw [h]; rfl
theorem tk_l {p : List Pnt} {x : Ta} (h : vI x.val = true) (h2 : tlim x = true) : tk p x = 3 := by unfold tk; rw [h, h2]; rfl
theorem tk_b {p : List Pnt} {x : Ta} {c : Int} (h : vI x.val = true) (h2 : tlim x = false) (h3 : bnE x.bands = c) (hc : c ≠ 0) : tk p x = c := by
  unfold tk; rw [h, h2, h3]; show (bif c != 0 then c else _) = c; rw [bne_iff_ne.2 hc]; rfl
theorem tk_r {p : List Pnt} {x : Ta} (h : vI x.val = true) (h2 : tlim x = false) (h3 : bnE x.bands = 0) : tk p x = rtE p x.bands x.rates := by unfold tk; rw [h, h2, h3]; rfl
theorem tk_0 {p : List Pnt} {x : Ta} (h : tk p x = 0) : vI x.val = true := by
  cases h1 : vI x.val with
  | true => rfl
  | false => rw [tk_v h1] at h; cases h
def bM : Nat → List (Value × DV)
  | 0 => []
  | _ => [(.string ⟨#[]⟩, .fl (.bool true))]
def bst (l : List Bd) : Nat → List ByteArray
  | 0 => [⟨#[]⟩]
  | k + 1 => bif (bst l k).any (fun n => sEq n (ix l k).name) then bst l k else bst l k ++ [(ix l k).name]
def setN (l : List ByteArray) : List (Value × DV) := l.map fun x => (Value.string x, DV.fl (.bool true))
theorem bst_any {l : List Bd} {s : ByteArray} : ∀ {k : Nat}, k ≤ l.length → (bst l k).any (fun n => sEq n s) = (sEq s ⟨#[]⟩ || nmd (l.take k) s)
  | 0, _ => by simp [bst, nmd, sEq_comm' s]
  | k + 1, h => by
    have ih := bst_any (l := l) (s := s) (k := k) (by omega)
    have e : nmd (l.take (k + 1)) s = (nmd (l.take k) s || sEq (ix l k).name s) := by unfold nmd; rw [take_ix (by omega : k < l.length), List.any_append]; simp
    rw [e]
    unfold bst
    cases hc : (bst l k).any (fun n => sEq n (ix l k).name) with
    | true =>
      rw [cond_true, ih]
      cases hs : sEq (ix l k).name s with
      | false => simp
      | true =>
        rw [sEq_eq hs] at hc
        rw [ih] at hc
        rw [hc]; simp
    | false => rw [cond_false, List.any_append, ih]; simp [Bool.or_assoc]
theorem bst_yes {l : List Bd} {k : Nat} (h : (bst l k).any (fun n => sEq n (ix l k).name) = true) : bst l (k + 1) = bst l k := by show (bif _ then _ else _) = _; rw [h]; rfl
theorem bst_no {l : List Bd} {k : Nat} (h : (bst l k).any (fun n => sEq n (ix l k).name) = false) : setN (bst l k) ++ [(Value.string (ix l k).name, DV.fl (.bool true))] = setN (bst l (k + 1)) := by
  have : bst l (k + 1) = bst l k ++ [(ix l k).name] := by show (bif _ then _ else _) = _; rw [h]; rfl
  rw [this]; unfold setN; rw [List.map_append]; rfl
def setR (l : List Rt) : List (Value × DV) := l.map fun x => (Value.agg ([.string x.fr, .string x.to, .int .i64 x.cls, .string x.band, .int .i64 0] : List Value).toArray, DV.fl (.bool true))
theorem setR_take {l : List Rt} {k : Nat} (h : k < l.length) : setR (l.take k) ++ [(Value.agg ([.string (plcR (ix l k)).fr, .string (plcR (ix l k)).to, .int .i64 (plcR (ix l k)).cls, .string (plcR (ix l k)).band, .int .i64 (plcR (ix l k)).cents] : List Value).toArray, DV.fl (.bool true))] = setR (l.take (k + 1)) := by unfold setR; rw [take_ix h, List.map_append]; rfl
theorem okR (l : List Rt) : ∀ x ∈ setR l, okK68 x.1 := by
  intro x hx
  obtain ⟨y, _, rfl⟩ := List.mem_map.1 hx
  exact ⟨_, _, _, _, _, rfl⟩
theorem beq_comm' (a b : Int) : (a == b) = (b == a) := by
  cases h : (b == a) with
  | true => rw [beq_iff_eq] at h ⊢; exact h.symm
  | false => rw [beq_eq_false_iff_ne] at h ⊢; exact fun e => h e.symm
theorem mfindR (r : Rt) : ∀ l : List Rt, mfindK sameK68 (.agg ([.string (plcR r).fr, .string (plcR r).to, .int .i64 (plcR r).cls, .string (plcR r).band, .int .i64 (plcR r).cents] : List Value).toArray) (setR l) = if dupR l r = true then some (.fl (.bool true)) else none
  | [] => rfl
  | x :: l => by
    have ih := mfindR r l
    show (bif ((((sEq r.fr x.fr && sEq r.to x.to) && (r.cls == x.cls)) && sEq r.band x.band) && ((0 : Int) == 0)) then _ else mfindK sameK68 _ (setR l)) = if ((((sEq x.fr r.fr && sEq x.to r.to) && (x.cls == r.cls)) && sEq x.band r.band) || dupR l r) = true then _ else _
    rw [ih, sEq_comm' r.fr, sEq_comm' r.to, sEq_comm' r.band, beq_comm' r.cls]
    cases (((sEq x.fr r.fr && sEq x.to r.to) && (x.cls == r.cls)) && sEq x.band r.band) <;> simp
theorem kd_some {l : List Pnt} {s : ByteArray} {p : Pnt} (h : pF l s = some p) : kd l s = p.kind ∧ sy l s = p.sys := by unfold kd sy fN; rw [h]; exact ⟨rfl, rfl⟩
theorem kd_none {l : List Pnt} {s : ByteArray} (h : pF l s = none) : kd l s = 0 ∧ sy l s = ⟨#[]⟩ := by unfold kd sy fN; rw [h]; exact ⟨rfl, rfl⟩
set_option maxHeartbeats 4000000 in
set_option maxRecDepth 100000 in
theorem vI_c (i : Iv) : Ctr Try.prog 29 [.ag (eIv i)] (.d (.fl (.bool (vI i)))) := by
  refine ctr (n := 18) (rs := #[.tmp 2]) (L := [(0, .d (.ag (eIv i)))]) Try.func29 rfl rfl rfl rfl rfl (fun w0 U0 => ?_)
  refine a_rseq ?_
  refine rg_nam (d := 1) (v := .pt 101 0) (m := 101) (nw := [(101, .bx 23 (eIv i))]) rfl (og rfl (of_eff (op_box 101 rfl rfl rfl rfl) rfl)) rfl ?_
  refine rg_put (d := 2) (v := .d (.fl (.bool false))) rfl (og rfl (op_assign rfl rfl rfl)) ?_
  refine rg_done rfl ?_
  refine a_rseq ?_
  refine rg_put (d := 3) (v := .pt 101 0) rfl (og rfl (of_eff (s_field_pt rfl Try.underlying23 rfl ti3 rfl rfl rfl) rfl)) ?_
  refine rg_put (d := 4) (v := .d (.fl (.int .i64 i.fr))) rfl (og rfl (op_load_pt rfl Try.underlying3 rfl rfl rfl rfl rfl)) ?_
  refine rg_put (d := 5) (v := .d (.fl (.bool ((decide (0 ≤ i.fr)))))) rfl (og rfl (op_bin rfl rfl rfl (b_leq _ _ _ _) rfl)) ?_
  refine rg_put (d := 6) (v := .d (.fl (.bool ((decide (0 ≤ i.fr)))))) rfl (og rfl (op_move rfl rfl rfl)) ?_
  rcases fot ((decide (0 ≤ i.fr))) with h1 | h1
  · skip
    have h2 := f_dec h1
    refine rg_put (d := 7) (v := .d (.fl undef)) rfl (on rfl rfl rfl h1) ?_
    refine rg_put (d := 8) (v := .d (.fl undef)) rfl (on rfl rfl rfl h1) ?_
    refine rg_put (d := 9) (v := .d (.fl undef)) rfl (on rfl rfl rfl h1) ?_
    refine rg_put (d := 10) (v := .d (.fl undef)) rfl (on rfl rfl rfl h1) ?_
    refine rg_put (d := 11) (v := .d (.fl undef)) rfl (on rfl rfl rfl h1) ?_
    refine rg_put (d := 12) (v := .d (.fl (.bool false))) rfl (og rfl (op_pick rfl rfl (by rw [h1]; rfl) rfl)) ?_
    refine rg_put (d := 13) (v := .d (.fl (.bool false))) rfl (og rfl (op_move rfl rfl rfl)) ?_
    refine rg_put (d := 14) (v := .d (.fl undef)) rfl (on rfl rfl rfl rfl) ?_
    refine rg_put (d := 15) (v := .d (.fl undef)) rfl (on rfl rfl rfl rfl) ?_
    refine rg_put (d := 16) (v := .d (.fl undef)) rfl (on rfl rfl rfl rfl) ?_
    refine rg_put (d := 17) (v := .d (.fl (.bool false))) rfl (og rfl (op_pick rfl rfl rfl rfl)) ?_
    refine rg_put (d := 2) (v := .d (.fl (.bool false))) rfl (og rfl (op_assign rfl rfl rfl)) ?_
    refine rg_done rfl ?_
    refine a_ret ?_
    show ∃ ds, ResL _ _ _ ds ∧ RV.of ds = _
    refine ⟨[.fl (.bool false)], (.cons (.tmp rfl (.d _)) .nil), ?_⟩
    first
      | (have hu : vI i = false := by
          unfold vI; simp only [h1, Bool.true_or, Bool.false_or, Bool.or_true, Bool.or_false, Bool.not_true, Bool.not_false, cond_true, cond_false, Bool.true_and, Bool.false_and, Bool.and_true, Bool.and_false] <;> rfl
         rw [hu]; rfl)
      | (exfalso; omega)
  · skip
    have h3 := t_dec h1
    refine rg_put (d := 7) (v := .pt 101 0) rfl (oy rfl rfl rfl h1 (of_eff (s_field_pt rfl Try.underlying23 rfl ti3 rfl rfl rfl) rfl)) ?_
    refine rg_put (d := 8) (v := .d (.fl (.int .i64 i.fr))) rfl (oy rfl rfl rfl h1 (op_load_pt rfl Try.underlying3 rfl rfl rfl rfl rfl)) ?_
    refine rg_put (d := 9) (v := .pt 101 1) rfl (oy rfl rfl rfl h1 (of_eff (s_field_pt rfl Try.underlying23 rfl ti3 rfl rfl rfl) rfl)) ?_
    refine rg_put (d := 10) (v := .d (.fl (.int .i64 i.to))) rfl (oy rfl rfl rfl h1 (op_load_pt rfl Try.underlying3 rfl rfl rfl rfl rfl)) ?_
    refine rg_put (d := 11) (v := .d (.fl (.bool ((decide (i.fr < i.to)))))) rfl (oy rfl rfl rfl h1 (op_bin rfl rfl rfl (b_lss _ _ _ _) rfl)) ?_
    refine rg_put (d := 12) (v := .d (.fl (.bool ((decide (i.fr < i.to)))))) rfl (og rfl (op_pick rfl rfl (by rw [h1]; rfl) rfl)) ?_
    refine rg_put (d := 13) (v := .d (.fl (.bool ((decide (i.fr < i.to)))))) rfl (og rfl (op_move rfl rfl rfl)) ?_
    rcases fot ((decide (i.fr < i.to))) with h4 | h4
    · skip
      have h5 := f_dec h4
      refine rg_put (d := 14) (v := .d (.fl undef)) rfl (on rfl rfl rfl h4) ?_
      refine rg_put (d := 15) (v := .d (.fl undef)) rfl (on rfl rfl rfl h4) ?_
      refine rg_put (d := 16) (v := .d (.fl undef)) rfl (on rfl rfl rfl h4) ?_
      refine rg_put (d := 17) (v := .d (.fl (.bool false))) rfl (og rfl (op_pick rfl rfl (by rw [h4]; rfl) rfl)) ?_
      refine rg_put (d := 2) (v := .d (.fl (.bool false))) rfl (og rfl (op_assign rfl rfl rfl)) ?_
      refine rg_done rfl ?_
      refine a_ret ?_
      show ∃ ds, ResL _ _ _ ds ∧ RV.of ds = _
      refine ⟨[.fl (.bool false)], (.cons (.tmp rfl (.d _)) .nil), ?_⟩
      first
        | (have hu : vI i = false := by
            unfold vI; simp only [h1, h4, Bool.true_or, Bool.false_or, Bool.or_true, Bool.or_false, Bool.not_true, Bool.not_false, cond_true, cond_false, Bool.true_and, Bool.false_and, Bool.and_true, Bool.and_false] <;> rfl
           rw [hu]; rfl)
        | (exfalso; omega)
    · skip
      have h6 := t_dec h4
      refine rg_put (d := 14) (v := .pt 101 1) rfl (oy rfl rfl rfl h4 (of_eff (s_field_pt rfl Try.underlying23 rfl ti3 rfl rfl rfl) rfl)) ?_
      refine rg_put (d := 15) (v := .d (.fl (.int .i64 i.to))) rfl (oy rfl rfl rfl h4 (op_load_pt rfl Try.underlying3 rfl rfl rfl rfl rfl)) ?_
      refine rg_put (d := 16) (v := .d (.fl (.bool ((decide (i.to ≤ 68719476736)))))) rfl (oy rfl rfl rfl h4 (op_bin rfl rfl rfl (b_leq _ _ _ _) rfl)) ?_
      refine rg_put (d := 17) (v := .d (.fl (.bool ((decide (i.to ≤ 68719476736)))))) rfl (og rfl (op_pick rfl rfl (by rw [h4]; rfl) rfl)) ?_
      refine rg_put (d := 2) (v := .d (.fl (.bool ((decide (i.to ≤ 68719476736)))))) rfl (og rfl (op_assign rfl rfl rfl)) ?_
      refine rg_done rfl ?_
      refine a_ret ?_
      show ∃ ds, ResL _ _ _ ds ∧ RV.of ds = _
      refine ⟨[.fl (.bool ((decide (i.to ≤ 68719476736))))], (.cons (.tmp rfl (.d _)) .nil), ?_⟩
      first
        | (have hu : vI i = (decide (i.to ≤ 68719476736)) := by
            unfold vI; simp only [h1, h4, Bool.true_or, Bool.false_or, Bool.or_true, Bool.or_false, Bool.not_true, Bool.not_false, cond_true, cond_false, Bool.true_and, Bool.false_and, Bool.and_true, Bool.and_false] <;> rfl
           rw [hu]; rfl)
        | (exfalso; omega)
set_option maxHeartbeats 4000000 in
set_option maxRecDepth 100000 in
theorem fits_c (n : Int) (hn : 0 ≤ n) : Ctr Try.prog 33 [.fl (.int .i64 n)] (.d (.fl (.bool (!(decide (1125899906842624 < n)))))) := by
  refine ctr (n := 9) (rs := #[.tmp 2]) (L := [(0, .d (.fl (.int .i64 n)))]) Try.func33 rfl rfl rfl rfl rfl (fun w0 U0 => ?_)
  refine a_rseq ?_
  refine rg_put (d := 2) (v := .d (.fl (.bool false))) rfl (og rfl (op_assign rfl rfl rfl)) ?_
  refine rg_done rfl ?_
  refine a_rseq ?_
  refine rg_put (d := 3) (v := .d (.fl (.int .i64 n))) rfl (og rfl (op_move rfl rfl rfl)) ?_
  refine rg_put (d := 4) (v := .d (.fl (.bool ((decide ((-1125899906842624) ≤ n)))))) rfl (og rfl (op_bin rfl rfl rfl (b_leq _ _ _ _) rfl)) ?_
  refine rg_put (d := 5) (v := .d (.fl (.bool ((decide ((-1125899906842624) ≤ n)))))) rfl (og rfl (op_move rfl rfl rfl)) ?_
  rcases fot ((decide ((-1125899906842624) ≤ n))) with h1 | h1
  · skip
    have h2 := f_dec h1
    refine rg_put (d := 6) (v := .d (.fl undef)) rfl (on rfl rfl rfl h1) ?_
    refine rg_put (d := 7) (v := .d (.fl undef)) rfl (on rfl rfl rfl h1) ?_
    refine rg_put (d := 8) (v := .d (.fl (.bool false))) rfl (og rfl (op_pick rfl rfl (by rw [h1]; rfl) rfl)) ?_
    refine rg_put (d := 2) (v := .d (.fl (.bool false))) rfl (og rfl (op_assign rfl rfl rfl)) ?_
    refine rg_done rfl ?_
    refine a_ret ?_
    show ∃ ds, ResL _ _ _ ds ∧ RV.of ds = _
    refine ⟨[.fl (.bool false)], (.cons (.tmp rfl (.d _)) .nil), ?_⟩
    first
      | (have hu : (!(decide (1125899906842624 < n))) = false := by
          by_cases hz : 1125899906842624 < n
          · rw [decide_eq_true hz]; first | rfl | (simp; omega)
          · rw [decide_eq_false hz]; first | rfl | (simp; omega)
         rw [hu]; rfl)
      | (exfalso; omega)
  · skip
    have h3 := t_dec h1
    refine rg_put (d := 6) (v := .d (.fl (.int .i64 n))) rfl (oy rfl rfl rfl h1 (op_move rfl rfl rfl)) ?_
    refine rg_put (d := 7) (v := .d (.fl (.bool ((decide (n ≤ 1125899906842624)))))) rfl (oy rfl rfl rfl h1 (op_bin rfl rfl rfl (b_leq _ _ _ _) rfl)) ?_
    refine rg_put (d := 8) (v := .d (.fl (.bool ((decide (n ≤ 1125899906842624)))))) rfl (og rfl (op_pick rfl rfl (by rw [h1]; rfl) rfl)) ?_
    refine rg_put (d := 2) (v := .d (.fl (.bool ((decide (n ≤ 1125899906842624)))))) rfl (og rfl (op_assign rfl rfl rfl)) ?_
    refine rg_done rfl ?_
    refine a_ret ?_
    show ∃ ds, ResL _ _ _ ds ∧ RV.of ds = _
    refine ⟨[.fl (.bool ((decide (n ≤ 1125899906842624))))], (.cons (.tmp rfl (.d _)) .nil), ?_⟩
    first
      | (have hu : (!(decide (1125899906842624 < n))) = (decide (n ≤ 1125899906842624)) := by
          by_cases hz : 1125899906842624 < n
          · rw [decide_eq_true hz]; first | rfl | (simp; omega)
          · rw [decide_eq_false hz]; first | rfl | (simp; omega)
         rw [hu]; rfl)
      | (exfalso; omega)
set_option maxHeartbeats 4000000 in
set_option maxRecDepth 100000 in
theorem plc_c (r : Rt) : Ctr Try.prog 34 [.ag (eRt r)] (.d (.ag (eRt (plcR r)))) := by
  refine ctr (n := 5) (rs := #[.cell 2 68]) (L := [(0, .d (.ag (eRt r)))]) Try.func34 rfl rfl rfl rfl rfl (fun w0 U0 => ?_)
  refine a_rseq ?_
  refine rg_nam (d := 1) (v := .pt 101 0) (m := 101) (nw := [(101, .bx 68 (eRt r))]) rfl (og rfl (of_eff (op_box 101 rfl rfl rfl rfl) rfl)) rfl ?_
  refine rg_nam (d := 2) (v := .pt 102 0) (m := 102) (nw := [(102, .bx 68 ([.fl (.string (⟨#[]⟩)), .fl (.string (⟨#[]⟩)), .fl (.int .i64 0), .fl (.string (⟨#[]⟩)), .fl (.int .i64 0)]))]) rfl (og rfl (of_eff (s_alloc 102 rfl ti68 (by kernel_rfl) rfl) rfl)) rfl ?_
  refine rg_done rfl ?_
  refine a_rseq ?_
  refine rg_put (d := 3) (v := .pt 101 4) rfl (og rfl (of_eff (s_field_pt rfl Try.underlying68 rfl ti3 rfl rfl rfl) rfl)) ?_
  refine rg_sto (nw := [(101, .bx 68 [.fl (.string r.fr), .fl (.string r.to), .fl (.int .i64 r.cls), .fl (.string r.band), .fl (.int .i64 0)])]) rfl (og rfl (of_eff (s_store rfl rfl ti3 rfl rfl rfl rfl rfl rfl) rfl)) ?_
  refine rg_done rfl ?_
  refine a_rseq ?_
  refine rg_put (d := 4) (v := .d (.ag (eRt (Rt.mk r.fr r.to r.cls r.band 0)))) rfl (og rfl (of_eff (s_load_pts rfl Try.underlying68 rfl ti68 rfl rfl rfl rfl) rfl)) ?_
  refine rg_sto (nw := [(102, .bx 68 ((eRt (Rt.mk r.fr r.to r.cls r.band 0))))]) rfl (og rfl (of_eff (s_store rfl rfl ti68 rfl rfl rfl rfl rfl rfl) rfl)) ?_
  refine rg_done rfl ?_
  refine a_ret ?_
  show ∃ ds, ResL _ _ _ ds ∧ RV.of ds = _
  refine ⟨[.ag [.fl (.string ((Rt.mk r.fr r.to r.cls r.band 0).fr)), .fl (.string ((Rt.mk r.fr r.to r.cls r.band 0).to)), .fl (.int .i64 ((Rt.mk r.fr r.to r.cls r.band 0).cls)), .fl (.string ((Rt.mk r.fr r.to r.cls r.band 0).band)), .fl (.int .i64 ((Rt.mk r.fr r.to r.cls r.band 0).cents))]], (.cons (.cellT rfl rfl Try.underlying68 rfl ti68 rfl (Cv.ag (xs := [.fl (.string ((Rt.mk r.fr r.to r.cls r.band 0).fr)), .fl (.string ((Rt.mk r.fr r.to r.cls r.band 0).to)), .fl (.int .i64 ((Rt.mk r.fr r.to r.cls r.band 0).cls)), .fl (.string ((Rt.mk r.fr r.to r.cls r.band 0).band)), .fl (.int .i64 ((Rt.mk r.fr r.to r.cls r.band 0).cents))]) (ys := [.fl (.string ((Rt.mk r.fr r.to r.cls r.band 0).fr)), .fl (.string ((Rt.mk r.fr r.to r.cls r.band 0).to)), .fl (.int .i64 ((Rt.mk r.fr r.to r.cls r.band 0).cls)), .fl (.string ((Rt.mk r.fr r.to r.cls r.band 0).band)), .fl (.int .i64 ((Rt.mk r.fr r.to r.cls r.band 0).cents))]) ⟨Cv.refl _, Cv.refl _, Cv.refl _, Cv.refl _, Cv.refl _, trivial⟩)) .nil), ?_⟩
  rfl
set_option maxHeartbeats 4000000 in
set_option maxRecDepth 100000 in
theorem points_c (t : Tpg) : Ctr Try.prog 17 [.ag (eTpg t)] (.d (.mp (setQ (kn t)))) := by
  refine ctr (n := 24) (rs := #[.tmp 2]) (L := [(0, .d (.ag (eTpg t)))]) Try.func17 rfl rfl rfl rfl rfl (fun w0 U0 => ?_)
  refine a_rseq ?_
  refine rg_nam (d := 1) (v := .pt 101 0) (m := 101) (nw := [(101, .bx 34 (eTpg t))]) rfl (og rfl (of_eff (op_box 101 rfl rfl rfl rfl) rfl)) rfl ?_
  refine rg_put (d := 2) (v := .d (.fl (.map none))) rfl (og rfl (op_assign rfl rfl rfl)) ?_
  refine rg_done rfl ?_
  refine a_rseq ?_
  refine rg_nam (d := 6) (v := .ow 102) (m := 102) (nw := [(102, .mp [])]) rfl (og rfl (op_makeMap 102 rfl rfl)) rfl ?_
  refine rg_put (d := 3) (v := .ow 102) rfl (og rfl (op_assign rfl rfl rfl)) ?_
  refine rg_done rfl ?_
  refine a_seq ?_
  refine a_rseq ?_
  refine rg_put (d := 7) (v := .d (.ag (eTpg t))) rfl (og rfl (of_eff (s_load_pts rfl Try.underlying34 rfl ti34 rfl rfl rfl rfl) rfl)) ?_
  refine rg_put (d := 8) (v := .d (.fl (.int .i64 (tck t)))) rfl (og rfl (op_call rfl Try.func35 nm35 rfl (.cons rfl (.d _) .nil) (tck_c t) rfl)) ?_
  refine rg_put (d := 9) (v := .d (.fl (.bool (((tck t) == 0))))) rfl (og rfl (op_bin rfl rfl rfl (b_eql _ _ _ _) rfl)) ?_
  refine rg_done rfl ?_
  refine a_cond rfl (fun h1 => ?_) (fun h1 => ?_)
  · skip
    have h2 := t_beq h1
    refine a_rseq ?_
    have hp1 : ∀ k, k < t.net.pts.length → pt1 t.net.pts k = 0 := (gck_0 (tck_gck (t_beq h1))).2.2.1
    have hp64 : t.net.pts.length ≤ 64 := (gck_0 (tck_gck (t_beq h1))).1
    refine rg_put (d := 10) (v := .pt 101 0) rfl (og rfl (of_eff (s_field_pt rfl Try.underlying34 rfl ti31 rfl rfl rfl) rfl)) ?_
    refine rg_put (d := 11) (v := .pt 101 0) rfl (og rfl (of_eff (s_field_pt rfl Try.underlying31 rfl ti28 rfl rfl rfl) rfl)) ?_
    refine rg_put (d := 12) (v := .d (.sl 3 (List.map ePnt t.net.pts))) rfl (og rfl (op_load_pt rfl Try.underlying28 rfl rfl rfl rfl rfl)) ?_
    refine rg_put (d := 13) (v := .d (.fl (.int .i64 (t.net.pts.length : Int)))) rfl (og rfl (s_len rfl Try.underlying28 rfl rfl)) ?_
    refine rg_put (d := 14) (v := .d (.fl (.int .i64 0))) rfl (og rfl (op_move rfl rfl rfl)) ?_
    refine rg_done rfl ?_
    refine a_block ?_
    refine a_loop (ι := Nat) (fun k => SS [(0, .d (.ag (eTpg t))), (1, .pt 101 0), (2, .d (.fl (.map none))), (3, .ow 102), (9, .d (.fl (.bool (((tck t) == 0))))), (12, .d (.sl 3 (List.map ePnt t.net.pts))), (13, .d (.fl (.int .i64 (t.net.pts.length : Int)))), (14, .d (.fl (.int .i64 (k : Int))))] [(101, .bx 34 (eTpg t)), (102, .mp ((setQ (t.net.pts.take k))))]) (fun k => k ≤ t.net.pts.length) (fun k => t.net.pts.length - k) 0 (by omega) (imp_forget rfl ⟨rfl, rfl, rfl, rfl, rfl, rfl, rfl, (by first | rfl | exact ci (by omega) | exact ci (by simp) | exact cd (by simp) | simp), trivial⟩ ⟨rfl, rfl, trivial⟩) (fun k hok => ?_)
    have hk := hok
    refine a_rseq ?_
    refine rg_put (d := 15) (v := .d (.fl (.bool ((decide ((k : Int) < (t.net.pts.length : Int))))))) rfl (og rfl (op_bin rfl rfl rfl (b_lss _ _ _ _) rfl)) ?_
    refine rg_done rfl ?_
    refine a_seq ?_
    refine a_cond rfl (fun h3 => ?_) (fun h3 => ?_)
    · skip
      have h4 := t_dec h3
      refine a_skip ?_
      show A _ _ _ _ _ _ _
      refine a_seq ?_
      refine a_block ?_
      refine a_rseq ?_
      refine rg_put (d := 16) (v := .el ((ePnt (ix t.net.pts k)))) rfl (og rfl (s_index rfl Try.underlying28 ti80 rfl rfl (by omega) (row_at (by omega)) rfl)) ?_
      refine rg_put (d := 17) (v := .d (.ag (ePnt (ix t.net.pts k)))) rfl (og rfl (of_eff (s_load_els rfl Try.underlying80 rfl ti80 rfl rfl rfl) rfl)) ?_
      refine rg_nam (d := 5) (v := .pt 103 0) (m := 103) (nw := [(103, .bx 80 ([.fl (.string (⟨#[]⟩)), .fl (.int .i64 0), .fl (.string (⟨#[]⟩))]))]) rfl (og rfl (of_eff (s_alloc 103 rfl ti80 (by kernel_rfl) rfl) rfl)) rfl ?_
      refine rg_sto (nw := [(103, .bx 80 ((ePnt (ix t.net.pts k))))]) rfl (og rfl (of_eff (s_store rfl rfl ti80 rfl rfl rfl rfl rfl rfl) rfl)) ?_
      refine rg_done rfl ?_
      refine a_region ?_
      refine rg_put (d := 18) (v := .ow 102) rfl (og rfl (op_move rfl rfl rfl)) ?_
      refine rg_put (d := 19) (v := .pt 103 0) rfl (og rfl (of_eff (s_field_pt rfl Try.underlying80 rfl ti9 rfl rfl rfl) rfl)) ?_
      refine rg_put (d := 20) (v := .d (.fl (.string ((ix t.net.pts k).name)))) rfl (og rfl (op_load_pt rfl Try.underlying9 rfl rfl rfl rfl rfl)) ?_
      refine rg_put (d := 21) (v := .d (.ag (ePnt (ix t.net.pts k)))) rfl (og rfl (of_eff (s_load_pts rfl Try.underlying80 rfl ti80 rfl rfl rfl rfl) rfl)) ?_
      refine rg_sto (nw := [(102, .mp ((setQ (t.net.pts.take k)) ++ [((.string ((ix t.net.pts k).name)), .ag (ePnt (ix t.net.pts k)))]))]) rfl (og rfl (op_mapPush rfl rfl Try.underlying52 Try.underlying9 rfl rfl rfl rfl ((mfind_mapS Pnt.name (fun x => .ag (ePnt x)) _ _).trans (congrArg (fun o => some (Option.map (fun x => DV.ag (ePnt x)) o)) (pF_take (hp1 k (by omega))))) rfl)) ?_
      refine rg_done rfl ?_
      show A _ _ _ _ _ _ _
      refine a_region ?_
      refine rg_put (d := 22) (v := .d (.fl (.int .i64 (((k : Int) + 1))))) rfl (og rfl (op_bin rfl rfl rfl (fun x y w => b_add64 _ _ _ x y w (by omega)) rfl)) ?_
      refine rg_put (d := 14) (v := .d (.fl (.int .i64 (((k : Int) + 1))))) rfl (og rfl (op_move rfl rfl rfl)) ?_
      refine rg_done rfl ?_
      show ∃ i, _ ∧ _ ∧ Imp _ _ _ _ _
      refine ⟨k + 1, (by omega), by omega, imp_forget rfl ⟨rfl, rfl, rfl, rfl, rfl, rfl, rfl, (by first | rfl | exact ci (by omega) | exact ci (by simp) | exact cd (by simp) | simp), trivial⟩ ⟨rfl, (congrArg (fun z => Ob.mp z) (setQ_take (by omega))), trivial⟩⟩
    · skip
      have h5 := f_dec h3
      refine a_exit ?_
      show A _ _ _ _ _ _ _
      refine a_rseq ?_
      refine rg_put (d := 23) (v := .ow 102) rfl (og rfl (op_move rfl rfl rfl)) ?_
      refine rg_put (d := 2) (v := .ow 102) rfl (og rfl (op_assign rfl rfl rfl)) ?_
      refine rg_done rfl ?_
      rw [show (setQ (t.net.pts.take k)) = (setQ (kn t)) from (by rw [List.take_of_length_le (by omega), kn_ok (t_beq h1)])]
      refine a_imp (imp_mp 2 102 rfl rfl) ?_
      refine a_ret ?_
      show ∃ ds, ResL _ _ _ ds ∧ RV.of ds = _
      refine ⟨[.mp (setQ (kn t))], (.cons (.tmp rfl (.d _)) .nil), ?_⟩
      rfl
  · skip
    have h6 := f_beq h1
    refine a_skip ?_
    show A _ _ _ _ _ _ _
    refine a_rseq ?_
    refine rg_put (d := 23) (v := .ow 102) rfl (og rfl (op_move rfl rfl rfl)) ?_
    refine rg_put (d := 2) (v := .ow 102) rfl (og rfl (op_assign rfl rfl rfl)) ?_
    refine rg_done rfl ?_
    refine a_imp (imp_mp 2 102 rfl rfl) ?_
    refine a_ret ?_
    show ∃ ds, ResL _ _ _ ds ∧ RV.of ds = _
    refine ⟨[.mp []], (.cons (.tmp rfl (.d _)) .nil), ?_⟩
    rw [kn_no (f_beq h1)]; rfl
set_option maxHeartbeats 4000000 in
set_option maxRecDepth 100000 in
theorem chg_c (r : Rt) (p : List Pnt) : Ctr Try.prog 32 [.ag (eRt r), .mp (setQ p)] (.d (.fl (.bool (chg p r)))) := by
  refine ctr (n := 36) (rs := #[.tmp 4]) (L := [(0, .d (.ag (eRt r))), (1, .d (.mp (setQ p)))]) Try.func32 rfl rfl rfl rfl rfl (fun w0 U0 => ?_)
  refine a_rseq ?_
  refine rg_nam (d := 2) (v := .pt 101 0) (m := 101) (nw := [(101, .bx 68 (eRt r))]) rfl (og rfl (of_eff (op_box 101 rfl rfl rfl rfl) rfl)) rfl ?_
  refine rg_put (d := 4) (v := .d (.fl (.bool false))) rfl (og rfl (op_assign rfl rfl rfl)) ?_
  refine rg_done rfl ?_
  refine a_rseq ?_
  refine rg_put (d := 7) (v := .d (.mp (setQ p))) rfl (og rfl (op_move rfl rfl rfl)) ?_
  refine rg_put (d := 8) (v := .pt 101 0) rfl (og rfl (of_eff (s_field_pt rfl Try.underlying68 rfl ti9 rfl rfl rfl) rfl)) ?_
  refine rg_put (d := 9) (v := .d (.fl (.string r.fr))) rfl (og rfl (op_load_pt rfl Try.underlying9 rfl rfl rfl rfl rfl)) ?_
  rcases h1 : pF p r.fr with _ | qh1
  · skip
    refine rg_put (d := 10) (v := .d (.ag (ePnt ((Pnt.mk (⟨#[]⟩) 0 (⟨#[]⟩)))))) rfl (og rfl (op_lookup1 rfl Try.underlying52 Try.underlying9 rfl ti80 rfl rfl (.d _) rfl (r := none) ((mfind_mapS Pnt.name (fun x => .ag (ePnt x)) _ _).trans (congrArg (fun o => some (Option.map (fun x => DV.ag (ePnt x)) o)) h1)) rfl rfl)) ?_
    refine rg_nam (d := 5) (v := .pt 102 0) (m := 102) (nw := [(102, .bx 80 ([.fl (.string (⟨#[]⟩)), .fl (.int .i64 0), .fl (.string (⟨#[]⟩))]))]) rfl (og rfl (of_eff (s_alloc 102 rfl ti80 (by kernel_rfl) rfl) rfl)) rfl ?_
    refine rg_sto (nw := [(102, .bx 80 ((ePnt ((Pnt.mk (⟨#[]⟩) 0 (⟨#[]⟩))))))]) rfl (og rfl (of_eff (s_store rfl rfl ti80 rfl rfl rfl rfl rfl rfl) rfl)) ?_
    refine rg_done rfl ?_
    refine a_seq ?_
    refine a_rseq ?_
    refine rg_put (d := 11) (v := .pt 101 1) rfl (og rfl (of_eff (s_field_pt rfl Try.underlying68 rfl ti9 rfl rfl rfl) rfl)) ?_
    refine rg_put (d := 12) (v := .d (.fl (.string r.to))) rfl (og rfl (op_load_pt rfl Try.underlying9 rfl rfl rfl rfl rfl)) ?_
    refine rg_put (d := 13) (v := .d (.fl (.bool ((sEq r.to (⟨#[]⟩)))))) rfl (og rfl (op_bin rfl rfl rfl (b_seq _ _ _) rfl)) ?_
    refine rg_done rfl ?_
    refine a_cond rfl (fun h2 => ?_) (fun h2 => ?_)
    · skip
      refine a_rseq ?_
      refine rg_put (d := 14) (v := .pt 102 1) rfl (og rfl (of_eff (s_field_pt rfl Try.underlying80 rfl ti3 rfl rfl rfl) rfl)) ?_
      refine rg_put (d := 15) (v := .d (.fl (.int .i64 (((Pnt.mk (⟨#[]⟩) 0 (⟨#[]⟩))).kind)))) rfl (og rfl (op_load_pt rfl Try.underlying3 rfl rfl rfl rfl rfl)) ?_
      refine rg_put (d := 16) (v := .d (.fl (.bool ((((Pnt.mk (⟨#[]⟩) 0 (⟨#[]⟩))).kind == 1))))) rfl (og rfl (op_bin rfl rfl rfl (b_eql _ _ _ _) rfl)) ?_
      refine rg_put (d := 4) (v := .d (.fl (.bool ((((Pnt.mk (⟨#[]⟩) 0 (⟨#[]⟩))).kind == 1))))) rfl (og rfl (op_assign rfl rfl rfl)) ?_
      refine rg_done rfl ?_
      refine a_ret ?_
      show ∃ ds, ResL _ _ _ ds ∧ RV.of ds = _
      refine ⟨[.fl (.bool ((((Pnt.mk (⟨#[]⟩) 0 (⟨#[]⟩))).kind == 1)))], (.cons (.tmp rfl (.d _)) .nil), ?_⟩
      have kh1 := kd_none h1
      first
        | (have hu : chg p r = (((Pnt.mk (⟨#[]⟩) 0 (⟨#[]⟩))).kind == 1) := by
            unfold chg; simp only [kh1.1, kh1.2, h2, Bool.true_or, Bool.false_or, Bool.or_true, Bool.or_false, Bool.not_true, Bool.not_false, cond_true, cond_false, Bool.true_and, Bool.false_and, Bool.and_true, Bool.and_false] <;> rfl
           rw [hu]; rfl)
        | (have hu : chg p r = (((Pnt.mk (⟨#[]⟩) 0 (⟨#[]⟩))).kind == 1) := by
            unfold chg; simp only [kh1.1, kh1.2, h2, Bool.true_or, Bool.false_or, Bool.or_true, Bool.or_false, Bool.not_true, Bool.not_false, cond_true, cond_false, Bool.true_and, Bool.false_and, Bool.and_true, Bool.and_false]; simp
           rw [hu]; rfl)
    · skip
      refine a_skip ?_
      show A _ _ _ _ _ _ _
      refine a_rseq ?_
      refine rg_put (d := 17) (v := .d (.mp (setQ p))) rfl (og rfl (op_move rfl rfl rfl)) ?_
      refine rg_put (d := 18) (v := .pt 101 1) rfl (og rfl (of_eff (s_field_pt rfl Try.underlying68 rfl ti9 rfl rfl rfl) rfl)) ?_
      refine rg_put (d := 19) (v := .d (.fl (.string r.to))) rfl (og rfl (op_load_pt rfl Try.underlying9 rfl rfl rfl rfl rfl)) ?_
      rcases h3 : pF p r.to with _ | qh3
      · skip
        refine rg_put (d := 20) (v := .d (.ag (ePnt ((Pnt.mk (⟨#[]⟩) 0 (⟨#[]⟩)))))) rfl (og rfl (op_lookup1 rfl Try.underlying52 Try.underlying9 rfl ti80 rfl rfl (.d _) rfl (r := none) ((mfind_mapS Pnt.name (fun x => .ag (ePnt x)) _ _).trans (congrArg (fun o => some (Option.map (fun x => DV.ag (ePnt x)) o)) h3)) rfl rfl)) ?_
        refine rg_nam (d := 6) (v := .pt 103 0) (m := 103) (nw := [(103, .bx 80 ([.fl (.string (⟨#[]⟩)), .fl (.int .i64 0), .fl (.string (⟨#[]⟩))]))]) rfl (og rfl (of_eff (s_alloc 103 rfl ti80 (by kernel_rfl) rfl) rfl)) rfl ?_
        refine rg_sto (nw := [(103, .bx 80 ((ePnt ((Pnt.mk (⟨#[]⟩) 0 (⟨#[]⟩))))))]) rfl (og rfl (of_eff (s_store rfl rfl ti80 rfl rfl rfl rfl rfl rfl) rfl)) ?_
        refine rg_done rfl ?_
        refine a_rseq ?_
        refine rg_put (d := 21) (v := .pt 102 1) rfl (og rfl (of_eff (s_field_pt rfl Try.underlying80 rfl ti3 rfl rfl rfl) rfl)) ?_
        refine rg_put (d := 22) (v := .d (.fl (.int .i64 (((Pnt.mk (⟨#[]⟩) 0 (⟨#[]⟩))).kind)))) rfl (og rfl (op_load_pt rfl Try.underlying3 rfl rfl rfl rfl rfl)) ?_
        refine rg_put (d := 23) (v := .d (.fl (.bool ((((Pnt.mk (⟨#[]⟩) 0 (⟨#[]⟩))).kind == 2))))) rfl (og rfl (op_bin rfl rfl rfl (b_eql _ _ _ _) rfl)) ?_
        refine rg_put (d := 24) (v := .d (.fl (.bool ((((Pnt.mk (⟨#[]⟩) 0 (⟨#[]⟩))).kind == 2))))) rfl (og rfl (op_move rfl rfl rfl)) ?_
        rcases fot ((((Pnt.mk (⟨#[]⟩) 0 (⟨#[]⟩))).kind == 2)) with h4 | h4
        · skip
          have h5 := f_beq h4
          refine rg_put (d := 25) (v := .d (.fl undef)) rfl (on rfl rfl rfl h4) ?_
          refine rg_put (d := 26) (v := .d (.fl undef)) rfl (on rfl rfl rfl h4) ?_
          refine rg_put (d := 27) (v := .d (.fl undef)) rfl (on rfl rfl rfl h4) ?_
          refine rg_put (d := 28) (v := .d (.fl (.bool false))) rfl (og rfl (op_pick rfl rfl (by rw [h4]; rfl) rfl)) ?_
          refine rg_put (d := 29) (v := .d (.fl (.bool false))) rfl (og rfl (op_move rfl rfl rfl)) ?_
          refine rg_put (d := 30) (v := .d (.fl undef)) rfl (on rfl rfl rfl rfl) ?_
          refine rg_put (d := 31) (v := .d (.fl undef)) rfl (on rfl rfl rfl rfl) ?_
          refine rg_put (d := 32) (v := .d (.fl undef)) rfl (on rfl rfl rfl rfl) ?_
          refine rg_put (d := 33) (v := .d (.fl undef)) rfl (on rfl rfl rfl rfl) ?_
          refine rg_put (d := 34) (v := .d (.fl undef)) rfl (on rfl rfl rfl rfl) ?_
          refine rg_put (d := 35) (v := .d (.fl (.bool false))) rfl (og rfl (op_pick rfl rfl rfl rfl)) ?_
          refine rg_put (d := 4) (v := .d (.fl (.bool false))) rfl (og rfl (op_assign rfl rfl rfl)) ?_
          refine rg_done rfl ?_
          refine a_ret ?_
          show ∃ ds, ResL _ _ _ ds ∧ RV.of ds = _
          refine ⟨[.fl (.bool false)], (.cons (.tmp rfl (.d _)) .nil), ?_⟩
          have kh1 := kd_none h1
          have kh3 := kd_none h3
          first
            | (have hu : chg p r = false := by
                unfold chg; simp only [kh1.1, kh1.2, kh3.1, kh3.2, h2, h4, Bool.true_or, Bool.false_or, Bool.or_true, Bool.or_false, Bool.not_true, Bool.not_false, cond_true, cond_false, Bool.true_and, Bool.false_and, Bool.and_true, Bool.and_false] <;> rfl
               rw [hu]; rfl)
            | (have hu : chg p r = false := by
                unfold chg; simp only [kh1.1, kh1.2, kh3.1, kh3.2, h2, h4, Bool.true_or, Bool.false_or, Bool.or_true, Bool.or_false, Bool.not_true, Bool.not_false, cond_true, cond_false, Bool.true_and, Bool.false_and, Bool.and_true, Bool.and_false]; simp
               rw [hu]; rfl)
        · skip
          have h6 := t_beq h4
          refine rg_put (d := 25) (v := .pt 103 1) rfl (oy rfl rfl rfl h4 (of_eff (s_field_pt rfl Try.underlying80 rfl ti3 rfl rfl rfl) rfl)) ?_
          refine rg_put (d := 26) (v := .d (.fl (.int .i64 (((Pnt.mk (⟨#[]⟩) 0 (⟨#[]⟩))).kind)))) rfl (oy rfl rfl rfl h4 (op_load_pt rfl Try.underlying3 rfl rfl rfl rfl rfl)) ?_
          refine rg_put (d := 27) (v := .d (.fl (.bool ((((Pnt.mk (⟨#[]⟩) 0 (⟨#[]⟩))).kind == 3))))) rfl (oy rfl rfl rfl h4 (op_bin rfl rfl rfl (b_eql _ _ _ _) rfl)) ?_
          refine rg_put (d := 28) (v := .d (.fl (.bool ((((Pnt.mk (⟨#[]⟩) 0 (⟨#[]⟩))).kind == 3))))) rfl (og rfl (op_pick rfl rfl (by rw [h4]; rfl) rfl)) ?_
          refine rg_put (d := 29) (v := .d (.fl (.bool ((((Pnt.mk (⟨#[]⟩) 0 (⟨#[]⟩))).kind == 3))))) rfl (og rfl (op_move rfl rfl rfl)) ?_
          rcases fot ((((Pnt.mk (⟨#[]⟩) 0 (⟨#[]⟩))).kind == 3)) with h7 | h7
          · skip
            have h8 := f_beq h7
            refine rg_put (d := 30) (v := .d (.fl undef)) rfl (on rfl rfl rfl h7) ?_
            refine rg_put (d := 31) (v := .d (.fl undef)) rfl (on rfl rfl rfl h7) ?_
            refine rg_put (d := 32) (v := .d (.fl undef)) rfl (on rfl rfl rfl h7) ?_
            refine rg_put (d := 33) (v := .d (.fl undef)) rfl (on rfl rfl rfl h7) ?_
            refine rg_put (d := 34) (v := .d (.fl undef)) rfl (on rfl rfl rfl h7) ?_
            refine rg_put (d := 35) (v := .d (.fl (.bool false))) rfl (og rfl (op_pick rfl rfl (by rw [h7]; rfl) rfl)) ?_
            refine rg_put (d := 4) (v := .d (.fl (.bool false))) rfl (og rfl (op_assign rfl rfl rfl)) ?_
            refine rg_done rfl ?_
            refine a_ret ?_
            show ∃ ds, ResL _ _ _ ds ∧ RV.of ds = _
            refine ⟨[.fl (.bool false)], (.cons (.tmp rfl (.d _)) .nil), ?_⟩
            have kh1 := kd_none h1
            have kh3 := kd_none h3
            first
              | (have hu : chg p r = false := by
                  unfold chg; simp only [kh1.1, kh1.2, kh3.1, kh3.2, h2, h4, h7, Bool.true_or, Bool.false_or, Bool.or_true, Bool.or_false, Bool.not_true, Bool.not_false, cond_true, cond_false, Bool.true_and, Bool.false_and, Bool.and_true, Bool.and_false] <;> rfl
                 rw [hu]; rfl)
              | (have hu : chg p r = false := by
                  unfold chg; simp only [kh1.1, kh1.2, kh3.1, kh3.2, h2, h4, h7, Bool.true_or, Bool.false_or, Bool.or_true, Bool.or_false, Bool.not_true, Bool.not_false, cond_true, cond_false, Bool.true_and, Bool.false_and, Bool.and_true, Bool.and_false]; simp
                 rw [hu]; rfl)
          · skip
            have h9 := t_beq h7
            refine rg_put (d := 30) (v := .pt 102 2) rfl (oy rfl rfl rfl h7 (of_eff (s_field_pt rfl Try.underlying80 rfl ti9 rfl rfl rfl) rfl)) ?_
            refine rg_put (d := 31) (v := .d (.fl (.string (((Pnt.mk (⟨#[]⟩) 0 (⟨#[]⟩))).sys)))) rfl (oy rfl rfl rfl h7 (op_load_pt rfl Try.underlying9 rfl rfl rfl rfl rfl)) ?_
            refine rg_put (d := 32) (v := .pt 103 2) rfl (oy rfl rfl rfl h7 (of_eff (s_field_pt rfl Try.underlying80 rfl ti9 rfl rfl rfl) rfl)) ?_
            refine rg_put (d := 33) (v := .d (.fl (.string (((Pnt.mk (⟨#[]⟩) 0 (⟨#[]⟩))).sys)))) rfl (oy rfl rfl rfl h7 (op_load_pt rfl Try.underlying9 rfl rfl rfl rfl rfl)) ?_
            refine rg_put (d := 34) (v := .d (.fl (.bool ((sEq (((Pnt.mk (⟨#[]⟩) 0 (⟨#[]⟩))).sys) (((Pnt.mk (⟨#[]⟩) 0 (⟨#[]⟩))).sys)))))) rfl (oy rfl rfl rfl h7 (op_bin rfl rfl rfl (b_seq _ _ _) rfl)) ?_
            refine rg_put (d := 35) (v := .d (.fl (.bool ((sEq (((Pnt.mk (⟨#[]⟩) 0 (⟨#[]⟩))).sys) (((Pnt.mk (⟨#[]⟩) 0 (⟨#[]⟩))).sys)))))) rfl (og rfl (op_pick rfl rfl (by rw [h7]; rfl) rfl)) ?_
            refine rg_put (d := 4) (v := .d (.fl (.bool ((sEq (((Pnt.mk (⟨#[]⟩) 0 (⟨#[]⟩))).sys) (((Pnt.mk (⟨#[]⟩) 0 (⟨#[]⟩))).sys)))))) rfl (og rfl (op_assign rfl rfl rfl)) ?_
            refine rg_done rfl ?_
            refine a_ret ?_
            show ∃ ds, ResL _ _ _ ds ∧ RV.of ds = _
            refine ⟨[.fl (.bool ((sEq (((Pnt.mk (⟨#[]⟩) 0 (⟨#[]⟩))).sys) (((Pnt.mk (⟨#[]⟩) 0 (⟨#[]⟩))).sys))))], (.cons (.tmp rfl (.d _)) .nil), ?_⟩
            have kh1 := kd_none h1
            have kh3 := kd_none h3
            first
              | (have hu : chg p r = (sEq (((Pnt.mk (⟨#[]⟩) 0 (⟨#[]⟩))).sys) (((Pnt.mk (⟨#[]⟩) 0 (⟨#[]⟩))).sys)) := by
                  unfold chg; simp only [kh1.1, kh1.2, kh3.1, kh3.2, h2, h4, h7, Bool.true_or, Bool.false_or, Bool.or_true, Bool.or_false, Bool.not_true, Bool.not_false, cond_true, cond_false, Bool.true_and, Bool.false_and, Bool.and_true, Bool.and_false] <;> rfl
                 rw [hu]; rfl)
              | (have hu : chg p r = (sEq (((Pnt.mk (⟨#[]⟩) 0 (⟨#[]⟩))).sys) (((Pnt.mk (⟨#[]⟩) 0 (⟨#[]⟩))).sys)) := by
                  unfold chg; simp only [kh1.1, kh1.2, kh3.1, kh3.2, h2, h4, h7, Bool.true_or, Bool.false_or, Bool.or_true, Bool.or_false, Bool.not_true, Bool.not_false, cond_true, cond_false, Bool.true_and, Bool.false_and, Bool.and_true, Bool.and_false]; simp
                 rw [hu]; rfl)
      · skip
        refine rg_put (d := 20) (v := .d (.ag (ePnt qh3))) rfl (og rfl (op_lookup1 rfl Try.underlying52 Try.underlying9 rfl ti80 rfl rfl (.d _) rfl (r := (some (.ag (ePnt qh3)))) ((mfind_mapS Pnt.name (fun x => .ag (ePnt x)) _ _).trans (congrArg (fun o => some (Option.map (fun x => DV.ag (ePnt x)) o)) h3)) rfl rfl)) ?_
        refine rg_nam (d := 6) (v := .pt 104 0) (m := 104) (nw := [(104, .bx 80 ([.fl (.string (⟨#[]⟩)), .fl (.int .i64 0), .fl (.string (⟨#[]⟩))]))]) rfl (og rfl (of_eff (s_alloc 104 rfl ti80 (by kernel_rfl) rfl) rfl)) rfl ?_
        refine rg_sto (nw := [(104, .bx 80 (ePnt qh3))]) rfl (og rfl (of_eff (s_store rfl rfl ti80 rfl rfl rfl rfl rfl rfl) rfl)) ?_
        refine rg_done rfl ?_
        refine a_rseq ?_
        refine rg_put (d := 21) (v := .pt 102 1) rfl (og rfl (of_eff (s_field_pt rfl Try.underlying80 rfl ti3 rfl rfl rfl) rfl)) ?_
        refine rg_put (d := 22) (v := .d (.fl (.int .i64 (((Pnt.mk (⟨#[]⟩) 0 (⟨#[]⟩))).kind)))) rfl (og rfl (op_load_pt rfl Try.underlying3 rfl rfl rfl rfl rfl)) ?_
        refine rg_put (d := 23) (v := .d (.fl (.bool ((((Pnt.mk (⟨#[]⟩) 0 (⟨#[]⟩))).kind == 2))))) rfl (og rfl (op_bin rfl rfl rfl (b_eql _ _ _ _) rfl)) ?_
        refine rg_put (d := 24) (v := .d (.fl (.bool ((((Pnt.mk (⟨#[]⟩) 0 (⟨#[]⟩))).kind == 2))))) rfl (og rfl (op_move rfl rfl rfl)) ?_
        rcases fot ((((Pnt.mk (⟨#[]⟩) 0 (⟨#[]⟩))).kind == 2)) with h10 | h10
        · skip
          have h11 := f_beq h10
          refine rg_put (d := 25) (v := .d (.fl undef)) rfl (on rfl rfl rfl h10) ?_
          refine rg_put (d := 26) (v := .d (.fl undef)) rfl (on rfl rfl rfl h10) ?_
          refine rg_put (d := 27) (v := .d (.fl undef)) rfl (on rfl rfl rfl h10) ?_
          refine rg_put (d := 28) (v := .d (.fl (.bool false))) rfl (og rfl (op_pick rfl rfl (by rw [h10]; rfl) rfl)) ?_
          refine rg_put (d := 29) (v := .d (.fl (.bool false))) rfl (og rfl (op_move rfl rfl rfl)) ?_
          refine rg_put (d := 30) (v := .d (.fl undef)) rfl (on rfl rfl rfl rfl) ?_
          refine rg_put (d := 31) (v := .d (.fl undef)) rfl (on rfl rfl rfl rfl) ?_
          refine rg_put (d := 32) (v := .d (.fl undef)) rfl (on rfl rfl rfl rfl) ?_
          refine rg_put (d := 33) (v := .d (.fl undef)) rfl (on rfl rfl rfl rfl) ?_
          refine rg_put (d := 34) (v := .d (.fl undef)) rfl (on rfl rfl rfl rfl) ?_
          refine rg_put (d := 35) (v := .d (.fl (.bool false))) rfl (og rfl (op_pick rfl rfl rfl rfl)) ?_
          refine rg_put (d := 4) (v := .d (.fl (.bool false))) rfl (og rfl (op_assign rfl rfl rfl)) ?_
          refine rg_done rfl ?_
          refine a_ret ?_
          show ∃ ds, ResL _ _ _ ds ∧ RV.of ds = _
          refine ⟨[.fl (.bool false)], (.cons (.tmp rfl (.d _)) .nil), ?_⟩
          have kh1 := kd_none h1
          have kh3 := kd_some h3
          first
            | (have hu : chg p r = false := by
                unfold chg; simp only [kh1.1, kh1.2, kh3.1, kh3.2, h2, h10, Bool.true_or, Bool.false_or, Bool.or_true, Bool.or_false, Bool.not_true, Bool.not_false, cond_true, cond_false, Bool.true_and, Bool.false_and, Bool.and_true, Bool.and_false] <;> rfl
               rw [hu]; rfl)
            | (have hu : chg p r = false := by
                unfold chg; simp only [kh1.1, kh1.2, kh3.1, kh3.2, h2, h10, Bool.true_or, Bool.false_or, Bool.or_true, Bool.or_false, Bool.not_true, Bool.not_false, cond_true, cond_false, Bool.true_and, Bool.false_and, Bool.and_true, Bool.and_false]; simp
               rw [hu]; rfl)
        · skip
          have h12 := t_beq h10
          refine rg_put (d := 25) (v := .pt 104 1) rfl (oy rfl rfl rfl h10 (of_eff (s_field_pt rfl Try.underlying80 rfl ti3 rfl rfl rfl) rfl)) ?_
          refine rg_put (d := 26) (v := .d (.fl (.int .i64 qh3.kind))) rfl (oy rfl rfl rfl h10 (op_load_pt rfl Try.underlying3 rfl rfl rfl rfl rfl)) ?_
          refine rg_put (d := 27) (v := .d (.fl (.bool (qh3.kind == 3)))) rfl (oy rfl rfl rfl h10 (op_bin rfl rfl rfl (b_eql _ _ _ _) rfl)) ?_
          refine rg_put (d := 28) (v := .d (.fl (.bool (qh3.kind == 3)))) rfl (og rfl (op_pick rfl rfl (by rw [h10]; rfl) rfl)) ?_
          refine rg_put (d := 29) (v := .d (.fl (.bool (qh3.kind == 3)))) rfl (og rfl (op_move rfl rfl rfl)) ?_
          rcases fot (qh3.kind == 3) with h13 | h13
          · skip
            have h14 := f_beq h13
            refine rg_put (d := 30) (v := .d (.fl undef)) rfl (on rfl rfl rfl h13) ?_
            refine rg_put (d := 31) (v := .d (.fl undef)) rfl (on rfl rfl rfl h13) ?_
            refine rg_put (d := 32) (v := .d (.fl undef)) rfl (on rfl rfl rfl h13) ?_
            refine rg_put (d := 33) (v := .d (.fl undef)) rfl (on rfl rfl rfl h13) ?_
            refine rg_put (d := 34) (v := .d (.fl undef)) rfl (on rfl rfl rfl h13) ?_
            refine rg_put (d := 35) (v := .d (.fl (.bool false))) rfl (og rfl (op_pick rfl rfl (by rw [h13]; rfl) rfl)) ?_
            refine rg_put (d := 4) (v := .d (.fl (.bool false))) rfl (og rfl (op_assign rfl rfl rfl)) ?_
            refine rg_done rfl ?_
            refine a_ret ?_
            show ∃ ds, ResL _ _ _ ds ∧ RV.of ds = _
            refine ⟨[.fl (.bool false)], (.cons (.tmp rfl (.d _)) .nil), ?_⟩
            have kh1 := kd_none h1
            have kh3 := kd_some h3
            first
              | (have hu : chg p r = false := by
                  unfold chg; simp only [kh1.1, kh1.2, kh3.1, kh3.2, h2, h10, h13, Bool.true_or, Bool.false_or, Bool.or_true, Bool.or_false, Bool.not_true, Bool.not_false, cond_true, cond_false, Bool.true_and, Bool.false_and, Bool.and_true, Bool.and_false] <;> rfl
                 rw [hu]; rfl)
              | (have hu : chg p r = false := by
                  unfold chg; simp only [kh1.1, kh1.2, kh3.1, kh3.2, h2, h10, h13, Bool.true_or, Bool.false_or, Bool.or_true, Bool.or_false, Bool.not_true, Bool.not_false, cond_true, cond_false, Bool.true_and, Bool.false_and, Bool.and_true, Bool.and_false]; simp
                 rw [hu]; rfl)
          · skip
            have h15 := t_beq h13
            refine rg_put (d := 30) (v := .pt 102 2) rfl (oy rfl rfl rfl h13 (of_eff (s_field_pt rfl Try.underlying80 rfl ti9 rfl rfl rfl) rfl)) ?_
            refine rg_put (d := 31) (v := .d (.fl (.string (((Pnt.mk (⟨#[]⟩) 0 (⟨#[]⟩))).sys)))) rfl (oy rfl rfl rfl h13 (op_load_pt rfl Try.underlying9 rfl rfl rfl rfl rfl)) ?_
            refine rg_put (d := 32) (v := .pt 104 2) rfl (oy rfl rfl rfl h13 (of_eff (s_field_pt rfl Try.underlying80 rfl ti9 rfl rfl rfl) rfl)) ?_
            refine rg_put (d := 33) (v := .d (.fl (.string qh3.sys))) rfl (oy rfl rfl rfl h13 (op_load_pt rfl Try.underlying9 rfl rfl rfl rfl rfl)) ?_
            refine rg_put (d := 34) (v := .d (.fl (.bool ((sEq (((Pnt.mk (⟨#[]⟩) 0 (⟨#[]⟩))).sys) qh3.sys))))) rfl (oy rfl rfl rfl h13 (op_bin rfl rfl rfl (b_seq _ _ _) rfl)) ?_
            refine rg_put (d := 35) (v := .d (.fl (.bool ((sEq (((Pnt.mk (⟨#[]⟩) 0 (⟨#[]⟩))).sys) qh3.sys))))) rfl (og rfl (op_pick rfl rfl (by rw [h13]; rfl) rfl)) ?_
            refine rg_put (d := 4) (v := .d (.fl (.bool ((sEq (((Pnt.mk (⟨#[]⟩) 0 (⟨#[]⟩))).sys) qh3.sys))))) rfl (og rfl (op_assign rfl rfl rfl)) ?_
            refine rg_done rfl ?_
            refine a_ret ?_
            show ∃ ds, ResL _ _ _ ds ∧ RV.of ds = _
            refine ⟨[.fl (.bool ((sEq (((Pnt.mk (⟨#[]⟩) 0 (⟨#[]⟩))).sys) qh3.sys)))], (.cons (.tmp rfl (.d _)) .nil), ?_⟩
            have kh1 := kd_none h1
            have kh3 := kd_some h3
            first
              | (have hu : chg p r = (sEq (((Pnt.mk (⟨#[]⟩) 0 (⟨#[]⟩))).sys) qh3.sys) := by
                  unfold chg; simp only [kh1.1, kh1.2, kh3.1, kh3.2, h2, h10, h13, Bool.true_or, Bool.false_or, Bool.or_true, Bool.or_false, Bool.not_true, Bool.not_false, cond_true, cond_false, Bool.true_and, Bool.false_and, Bool.and_true, Bool.and_false] <;> rfl
                 rw [hu]; rfl)
              | (have hu : chg p r = (sEq (((Pnt.mk (⟨#[]⟩) 0 (⟨#[]⟩))).sys) qh3.sys) := by
                  unfold chg; simp only [kh1.1, kh1.2, kh3.1, kh3.2, h2, h10, h13, Bool.true_or, Bool.false_or, Bool.or_true, Bool.or_false, Bool.not_true, Bool.not_false, cond_true, cond_false, Bool.true_and, Bool.false_and, Bool.and_true, Bool.and_false]; simp
                 rw [hu]; rfl)
  · skip
    refine rg_put (d := 10) (v := .d (.ag (ePnt qh1))) rfl (og rfl (op_lookup1 rfl Try.underlying52 Try.underlying9 rfl ti80 rfl rfl (.d _) rfl (r := (some (.ag (ePnt qh1)))) ((mfind_mapS Pnt.name (fun x => .ag (ePnt x)) _ _).trans (congrArg (fun o => some (Option.map (fun x => DV.ag (ePnt x)) o)) h1)) rfl rfl)) ?_
    refine rg_nam (d := 5) (v := .pt 105 0) (m := 105) (nw := [(105, .bx 80 ([.fl (.string (⟨#[]⟩)), .fl (.int .i64 0), .fl (.string (⟨#[]⟩))]))]) rfl (og rfl (of_eff (s_alloc 105 rfl ti80 (by kernel_rfl) rfl) rfl)) rfl ?_
    refine rg_sto (nw := [(105, .bx 80 (ePnt qh1))]) rfl (og rfl (of_eff (s_store rfl rfl ti80 rfl rfl rfl rfl rfl rfl) rfl)) ?_
    refine rg_done rfl ?_
    refine a_seq ?_
    refine a_rseq ?_
    refine rg_put (d := 11) (v := .pt 101 1) rfl (og rfl (of_eff (s_field_pt rfl Try.underlying68 rfl ti9 rfl rfl rfl) rfl)) ?_
    refine rg_put (d := 12) (v := .d (.fl (.string r.to))) rfl (og rfl (op_load_pt rfl Try.underlying9 rfl rfl rfl rfl rfl)) ?_
    refine rg_put (d := 13) (v := .d (.fl (.bool ((sEq r.to (⟨#[]⟩)))))) rfl (og rfl (op_bin rfl rfl rfl (b_seq _ _ _) rfl)) ?_
    refine rg_done rfl ?_
    refine a_cond rfl (fun h16 => ?_) (fun h16 => ?_)
    · skip
      refine a_rseq ?_
      refine rg_put (d := 14) (v := .pt 105 1) rfl (og rfl (of_eff (s_field_pt rfl Try.underlying80 rfl ti3 rfl rfl rfl) rfl)) ?_
      refine rg_put (d := 15) (v := .d (.fl (.int .i64 qh1.kind))) rfl (og rfl (op_load_pt rfl Try.underlying3 rfl rfl rfl rfl rfl)) ?_
      refine rg_put (d := 16) (v := .d (.fl (.bool (qh1.kind == 1)))) rfl (og rfl (op_bin rfl rfl rfl (b_eql _ _ _ _) rfl)) ?_
      refine rg_put (d := 4) (v := .d (.fl (.bool (qh1.kind == 1)))) rfl (og rfl (op_assign rfl rfl rfl)) ?_
      refine rg_done rfl ?_
      refine a_ret ?_
      show ∃ ds, ResL _ _ _ ds ∧ RV.of ds = _
      refine ⟨[.fl (.bool (qh1.kind == 1))], (.cons (.tmp rfl (.d _)) .nil), ?_⟩
      have kh1 := kd_some h1
      first
        | (have hu : chg p r = (qh1.kind == 1) := by
            unfold chg; simp only [kh1.1, kh1.2, h16, Bool.true_or, Bool.false_or, Bool.or_true, Bool.or_false, Bool.not_true, Bool.not_false, cond_true, cond_false, Bool.true_and, Bool.false_and, Bool.and_true, Bool.and_false] <;> rfl
           rw [hu]; rfl)
        | (have hu : chg p r = (qh1.kind == 1) := by
            unfold chg; simp only [kh1.1, kh1.2, h16, Bool.true_or, Bool.false_or, Bool.or_true, Bool.or_false, Bool.not_true, Bool.not_false, cond_true, cond_false, Bool.true_and, Bool.false_and, Bool.and_true, Bool.and_false]; simp
           rw [hu]; rfl)
    · skip
      refine a_skip ?_
      show A _ _ _ _ _ _ _
      refine a_rseq ?_
      refine rg_put (d := 17) (v := .d (.mp (setQ p))) rfl (og rfl (op_move rfl rfl rfl)) ?_
      refine rg_put (d := 18) (v := .pt 101 1) rfl (og rfl (of_eff (s_field_pt rfl Try.underlying68 rfl ti9 rfl rfl rfl) rfl)) ?_
      refine rg_put (d := 19) (v := .d (.fl (.string r.to))) rfl (og rfl (op_load_pt rfl Try.underlying9 rfl rfl rfl rfl rfl)) ?_
      rcases h17 : pF p r.to with _ | qh17
      · skip
        refine rg_put (d := 20) (v := .d (.ag (ePnt ((Pnt.mk (⟨#[]⟩) 0 (⟨#[]⟩)))))) rfl (og rfl (op_lookup1 rfl Try.underlying52 Try.underlying9 rfl ti80 rfl rfl (.d _) rfl (r := none) ((mfind_mapS Pnt.name (fun x => .ag (ePnt x)) _ _).trans (congrArg (fun o => some (Option.map (fun x => DV.ag (ePnt x)) o)) h17)) rfl rfl)) ?_
        refine rg_nam (d := 6) (v := .pt 106 0) (m := 106) (nw := [(106, .bx 80 ([.fl (.string (⟨#[]⟩)), .fl (.int .i64 0), .fl (.string (⟨#[]⟩))]))]) rfl (og rfl (of_eff (s_alloc 106 rfl ti80 (by kernel_rfl) rfl) rfl)) rfl ?_
        refine rg_sto (nw := [(106, .bx 80 ((ePnt ((Pnt.mk (⟨#[]⟩) 0 (⟨#[]⟩))))))]) rfl (og rfl (of_eff (s_store rfl rfl ti80 rfl rfl rfl rfl rfl rfl) rfl)) ?_
        refine rg_done rfl ?_
        refine a_rseq ?_
        refine rg_put (d := 21) (v := .pt 105 1) rfl (og rfl (of_eff (s_field_pt rfl Try.underlying80 rfl ti3 rfl rfl rfl) rfl)) ?_
        refine rg_put (d := 22) (v := .d (.fl (.int .i64 qh1.kind))) rfl (og rfl (op_load_pt rfl Try.underlying3 rfl rfl rfl rfl rfl)) ?_
        refine rg_put (d := 23) (v := .d (.fl (.bool (qh1.kind == 2)))) rfl (og rfl (op_bin rfl rfl rfl (b_eql _ _ _ _) rfl)) ?_
        refine rg_put (d := 24) (v := .d (.fl (.bool (qh1.kind == 2)))) rfl (og rfl (op_move rfl rfl rfl)) ?_
        rcases fot (qh1.kind == 2) with h18 | h18
        · skip
          have h19 := f_beq h18
          refine rg_put (d := 25) (v := .d (.fl undef)) rfl (on rfl rfl rfl h18) ?_
          refine rg_put (d := 26) (v := .d (.fl undef)) rfl (on rfl rfl rfl h18) ?_
          refine rg_put (d := 27) (v := .d (.fl undef)) rfl (on rfl rfl rfl h18) ?_
          refine rg_put (d := 28) (v := .d (.fl (.bool false))) rfl (og rfl (op_pick rfl rfl (by rw [h18]; rfl) rfl)) ?_
          refine rg_put (d := 29) (v := .d (.fl (.bool false))) rfl (og rfl (op_move rfl rfl rfl)) ?_
          refine rg_put (d := 30) (v := .d (.fl undef)) rfl (on rfl rfl rfl rfl) ?_
          refine rg_put (d := 31) (v := .d (.fl undef)) rfl (on rfl rfl rfl rfl) ?_
          refine rg_put (d := 32) (v := .d (.fl undef)) rfl (on rfl rfl rfl rfl) ?_
          refine rg_put (d := 33) (v := .d (.fl undef)) rfl (on rfl rfl rfl rfl) ?_
          refine rg_put (d := 34) (v := .d (.fl undef)) rfl (on rfl rfl rfl rfl) ?_
          refine rg_put (d := 35) (v := .d (.fl (.bool false))) rfl (og rfl (op_pick rfl rfl rfl rfl)) ?_
          refine rg_put (d := 4) (v := .d (.fl (.bool false))) rfl (og rfl (op_assign rfl rfl rfl)) ?_
          refine rg_done rfl ?_
          refine a_ret ?_
          show ∃ ds, ResL _ _ _ ds ∧ RV.of ds = _
          refine ⟨[.fl (.bool false)], (.cons (.tmp rfl (.d _)) .nil), ?_⟩
          have kh1 := kd_some h1
          have kh17 := kd_none h17
          first
            | (have hu : chg p r = false := by
                unfold chg; simp only [kh1.1, kh1.2, kh17.1, kh17.2, h16, h18, Bool.true_or, Bool.false_or, Bool.or_true, Bool.or_false, Bool.not_true, Bool.not_false, cond_true, cond_false, Bool.true_and, Bool.false_and, Bool.and_true, Bool.and_false] <;> rfl
               rw [hu]; rfl)
            | (have hu : chg p r = false := by
                unfold chg; simp only [kh1.1, kh1.2, kh17.1, kh17.2, h16, h18, Bool.true_or, Bool.false_or, Bool.or_true, Bool.or_false, Bool.not_true, Bool.not_false, cond_true, cond_false, Bool.true_and, Bool.false_and, Bool.and_true, Bool.and_false]; simp
               rw [hu]; rfl)
        · skip
          have h20 := t_beq h18
          refine rg_put (d := 25) (v := .pt 106 1) rfl (oy rfl rfl rfl h18 (of_eff (s_field_pt rfl Try.underlying80 rfl ti3 rfl rfl rfl) rfl)) ?_
          refine rg_put (d := 26) (v := .d (.fl (.int .i64 (((Pnt.mk (⟨#[]⟩) 0 (⟨#[]⟩))).kind)))) rfl (oy rfl rfl rfl h18 (op_load_pt rfl Try.underlying3 rfl rfl rfl rfl rfl)) ?_
          refine rg_put (d := 27) (v := .d (.fl (.bool ((((Pnt.mk (⟨#[]⟩) 0 (⟨#[]⟩))).kind == 3))))) rfl (oy rfl rfl rfl h18 (op_bin rfl rfl rfl (b_eql _ _ _ _) rfl)) ?_
          refine rg_put (d := 28) (v := .d (.fl (.bool ((((Pnt.mk (⟨#[]⟩) 0 (⟨#[]⟩))).kind == 3))))) rfl (og rfl (op_pick rfl rfl (by rw [h18]; rfl) rfl)) ?_
          refine rg_put (d := 29) (v := .d (.fl (.bool ((((Pnt.mk (⟨#[]⟩) 0 (⟨#[]⟩))).kind == 3))))) rfl (og rfl (op_move rfl rfl rfl)) ?_
          rcases fot ((((Pnt.mk (⟨#[]⟩) 0 (⟨#[]⟩))).kind == 3)) with h21 | h21
          · skip
            have h22 := f_beq h21
            refine rg_put (d := 30) (v := .d (.fl undef)) rfl (on rfl rfl rfl h21) ?_
            refine rg_put (d := 31) (v := .d (.fl undef)) rfl (on rfl rfl rfl h21) ?_
            refine rg_put (d := 32) (v := .d (.fl undef)) rfl (on rfl rfl rfl h21) ?_
            refine rg_put (d := 33) (v := .d (.fl undef)) rfl (on rfl rfl rfl h21) ?_
            refine rg_put (d := 34) (v := .d (.fl undef)) rfl (on rfl rfl rfl h21) ?_
            refine rg_put (d := 35) (v := .d (.fl (.bool false))) rfl (og rfl (op_pick rfl rfl (by rw [h21]; rfl) rfl)) ?_
            refine rg_put (d := 4) (v := .d (.fl (.bool false))) rfl (og rfl (op_assign rfl rfl rfl)) ?_
            refine rg_done rfl ?_
            refine a_ret ?_
            show ∃ ds, ResL _ _ _ ds ∧ RV.of ds = _
            refine ⟨[.fl (.bool false)], (.cons (.tmp rfl (.d _)) .nil), ?_⟩
            have kh1 := kd_some h1
            have kh17 := kd_none h17
            first
              | (have hu : chg p r = false := by
                  unfold chg; simp only [kh1.1, kh1.2, kh17.1, kh17.2, h16, h18, h21, Bool.true_or, Bool.false_or, Bool.or_true, Bool.or_false, Bool.not_true, Bool.not_false, cond_true, cond_false, Bool.true_and, Bool.false_and, Bool.and_true, Bool.and_false] <;> rfl
                 rw [hu]; rfl)
              | (have hu : chg p r = false := by
                  unfold chg; simp only [kh1.1, kh1.2, kh17.1, kh17.2, h16, h18, h21, Bool.true_or, Bool.false_or, Bool.or_true, Bool.or_false, Bool.not_true, Bool.not_false, cond_true, cond_false, Bool.true_and, Bool.false_and, Bool.and_true, Bool.and_false]; simp
                 rw [hu]; rfl)
          · skip
            have h23 := t_beq h21
            refine rg_put (d := 30) (v := .pt 105 2) rfl (oy rfl rfl rfl h21 (of_eff (s_field_pt rfl Try.underlying80 rfl ti9 rfl rfl rfl) rfl)) ?_
            refine rg_put (d := 31) (v := .d (.fl (.string qh1.sys))) rfl (oy rfl rfl rfl h21 (op_load_pt rfl Try.underlying9 rfl rfl rfl rfl rfl)) ?_
            refine rg_put (d := 32) (v := .pt 106 2) rfl (oy rfl rfl rfl h21 (of_eff (s_field_pt rfl Try.underlying80 rfl ti9 rfl rfl rfl) rfl)) ?_
            refine rg_put (d := 33) (v := .d (.fl (.string (((Pnt.mk (⟨#[]⟩) 0 (⟨#[]⟩))).sys)))) rfl (oy rfl rfl rfl h21 (op_load_pt rfl Try.underlying9 rfl rfl rfl rfl rfl)) ?_
            refine rg_put (d := 34) (v := .d (.fl (.bool ((sEq qh1.sys (((Pnt.mk (⟨#[]⟩) 0 (⟨#[]⟩))).sys)))))) rfl (oy rfl rfl rfl h21 (op_bin rfl rfl rfl (b_seq _ _ _) rfl)) ?_
            refine rg_put (d := 35) (v := .d (.fl (.bool ((sEq qh1.sys (((Pnt.mk (⟨#[]⟩) 0 (⟨#[]⟩))).sys)))))) rfl (og rfl (op_pick rfl rfl (by rw [h21]; rfl) rfl)) ?_
            refine rg_put (d := 4) (v := .d (.fl (.bool ((sEq qh1.sys (((Pnt.mk (⟨#[]⟩) 0 (⟨#[]⟩))).sys)))))) rfl (og rfl (op_assign rfl rfl rfl)) ?_
            refine rg_done rfl ?_
            refine a_ret ?_
            show ∃ ds, ResL _ _ _ ds ∧ RV.of ds = _
            refine ⟨[.fl (.bool ((sEq qh1.sys (((Pnt.mk (⟨#[]⟩) 0 (⟨#[]⟩))).sys))))], (.cons (.tmp rfl (.d _)) .nil), ?_⟩
            have kh1 := kd_some h1
            have kh17 := kd_none h17
            first
              | (have hu : chg p r = (sEq qh1.sys (((Pnt.mk (⟨#[]⟩) 0 (⟨#[]⟩))).sys)) := by
                  unfold chg; simp only [kh1.1, kh1.2, kh17.1, kh17.2, h16, h18, h21, Bool.true_or, Bool.false_or, Bool.or_true, Bool.or_false, Bool.not_true, Bool.not_false, cond_true, cond_false, Bool.true_and, Bool.false_and, Bool.and_true, Bool.and_false] <;> rfl
                 rw [hu]; rfl)
              | (have hu : chg p r = (sEq qh1.sys (((Pnt.mk (⟨#[]⟩) 0 (⟨#[]⟩))).sys)) := by
                  unfold chg; simp only [kh1.1, kh1.2, kh17.1, kh17.2, h16, h18, h21, Bool.true_or, Bool.false_or, Bool.or_true, Bool.or_false, Bool.not_true, Bool.not_false, cond_true, cond_false, Bool.true_and, Bool.false_and, Bool.and_true, Bool.and_false]; simp
                 rw [hu]; rfl)
      · skip
        refine rg_put (d := 20) (v := .d (.ag (ePnt qh17))) rfl (og rfl (op_lookup1 rfl Try.underlying52 Try.underlying9 rfl ti80 rfl rfl (.d _) rfl (r := (some (.ag (ePnt qh17)))) ((mfind_mapS Pnt.name (fun x => .ag (ePnt x)) _ _).trans (congrArg (fun o => some (Option.map (fun x => DV.ag (ePnt x)) o)) h17)) rfl rfl)) ?_
        refine rg_nam (d := 6) (v := .pt 107 0) (m := 107) (nw := [(107, .bx 80 ([.fl (.string (⟨#[]⟩)), .fl (.int .i64 0), .fl (.string (⟨#[]⟩))]))]) rfl (og rfl (of_eff (s_alloc 107 rfl ti80 (by kernel_rfl) rfl) rfl)) rfl ?_
        refine rg_sto (nw := [(107, .bx 80 (ePnt qh17))]) rfl (og rfl (of_eff (s_store rfl rfl ti80 rfl rfl rfl rfl rfl rfl) rfl)) ?_
        refine rg_done rfl ?_
        refine a_rseq ?_
        refine rg_put (d := 21) (v := .pt 105 1) rfl (og rfl (of_eff (s_field_pt rfl Try.underlying80 rfl ti3 rfl rfl rfl) rfl)) ?_
        refine rg_put (d := 22) (v := .d (.fl (.int .i64 qh1.kind))) rfl (og rfl (op_load_pt rfl Try.underlying3 rfl rfl rfl rfl rfl)) ?_
        refine rg_put (d := 23) (v := .d (.fl (.bool (qh1.kind == 2)))) rfl (og rfl (op_bin rfl rfl rfl (b_eql _ _ _ _) rfl)) ?_
        refine rg_put (d := 24) (v := .d (.fl (.bool (qh1.kind == 2)))) rfl (og rfl (op_move rfl rfl rfl)) ?_
        rcases fot (qh1.kind == 2) with h24 | h24
        · skip
          have h25 := f_beq h24
          refine rg_put (d := 25) (v := .d (.fl undef)) rfl (on rfl rfl rfl h24) ?_
          refine rg_put (d := 26) (v := .d (.fl undef)) rfl (on rfl rfl rfl h24) ?_
          refine rg_put (d := 27) (v := .d (.fl undef)) rfl (on rfl rfl rfl h24) ?_
          refine rg_put (d := 28) (v := .d (.fl (.bool false))) rfl (og rfl (op_pick rfl rfl (by rw [h24]; rfl) rfl)) ?_
          refine rg_put (d := 29) (v := .d (.fl (.bool false))) rfl (og rfl (op_move rfl rfl rfl)) ?_
          refine rg_put (d := 30) (v := .d (.fl undef)) rfl (on rfl rfl rfl rfl) ?_
          refine rg_put (d := 31) (v := .d (.fl undef)) rfl (on rfl rfl rfl rfl) ?_
          refine rg_put (d := 32) (v := .d (.fl undef)) rfl (on rfl rfl rfl rfl) ?_
          refine rg_put (d := 33) (v := .d (.fl undef)) rfl (on rfl rfl rfl rfl) ?_
          refine rg_put (d := 34) (v := .d (.fl undef)) rfl (on rfl rfl rfl rfl) ?_
          refine rg_put (d := 35) (v := .d (.fl (.bool false))) rfl (og rfl (op_pick rfl rfl rfl rfl)) ?_
          refine rg_put (d := 4) (v := .d (.fl (.bool false))) rfl (og rfl (op_assign rfl rfl rfl)) ?_
          refine rg_done rfl ?_
          refine a_ret ?_
          show ∃ ds, ResL _ _ _ ds ∧ RV.of ds = _
          refine ⟨[.fl (.bool false)], (.cons (.tmp rfl (.d _)) .nil), ?_⟩
          have kh1 := kd_some h1
          have kh17 := kd_some h17
          first
            | (have hu : chg p r = false := by
                unfold chg; simp only [kh1.1, kh1.2, kh17.1, kh17.2, h16, h24, Bool.true_or, Bool.false_or, Bool.or_true, Bool.or_false, Bool.not_true, Bool.not_false, cond_true, cond_false, Bool.true_and, Bool.false_and, Bool.and_true, Bool.and_false] <;> rfl
               rw [hu]; rfl)
            | (have hu : chg p r = false := by
                unfold chg; simp only [kh1.1, kh1.2, kh17.1, kh17.2, h16, h24, Bool.true_or, Bool.false_or, Bool.or_true, Bool.or_false, Bool.not_true, Bool.not_false, cond_true, cond_false, Bool.true_and, Bool.false_and, Bool.and_true, Bool.and_false]; simp
               rw [hu]; rfl)
        · skip
          have h26 := t_beq h24
          refine rg_put (d := 25) (v := .pt 107 1) rfl (oy rfl rfl rfl h24 (of_eff (s_field_pt rfl Try.underlying80 rfl ti3 rfl rfl rfl) rfl)) ?_
          refine rg_put (d := 26) (v := .d (.fl (.int .i64 qh17.kind))) rfl (oy rfl rfl rfl h24 (op_load_pt rfl Try.underlying3 rfl rfl rfl rfl rfl)) ?_
          refine rg_put (d := 27) (v := .d (.fl (.bool (qh17.kind == 3)))) rfl (oy rfl rfl rfl h24 (op_bin rfl rfl rfl (b_eql _ _ _ _) rfl)) ?_
          refine rg_put (d := 28) (v := .d (.fl (.bool (qh17.kind == 3)))) rfl (og rfl (op_pick rfl rfl (by rw [h24]; rfl) rfl)) ?_
          refine rg_put (d := 29) (v := .d (.fl (.bool (qh17.kind == 3)))) rfl (og rfl (op_move rfl rfl rfl)) ?_
          rcases fot (qh17.kind == 3) with h27 | h27
          · skip
            have h28 := f_beq h27
            refine rg_put (d := 30) (v := .d (.fl undef)) rfl (on rfl rfl rfl h27) ?_
            refine rg_put (d := 31) (v := .d (.fl undef)) rfl (on rfl rfl rfl h27) ?_
            refine rg_put (d := 32) (v := .d (.fl undef)) rfl (on rfl rfl rfl h27) ?_
            refine rg_put (d := 33) (v := .d (.fl undef)) rfl (on rfl rfl rfl h27) ?_
            refine rg_put (d := 34) (v := .d (.fl undef)) rfl (on rfl rfl rfl h27) ?_
            refine rg_put (d := 35) (v := .d (.fl (.bool false))) rfl (og rfl (op_pick rfl rfl (by rw [h27]; rfl) rfl)) ?_
            refine rg_put (d := 4) (v := .d (.fl (.bool false))) rfl (og rfl (op_assign rfl rfl rfl)) ?_
            refine rg_done rfl ?_
            refine a_ret ?_
            show ∃ ds, ResL _ _ _ ds ∧ RV.of ds = _
            refine ⟨[.fl (.bool false)], (.cons (.tmp rfl (.d _)) .nil), ?_⟩
            have kh1 := kd_some h1
            have kh17 := kd_some h17
            first
              | (have hu : chg p r = false := by
                  unfold chg; simp only [kh1.1, kh1.2, kh17.1, kh17.2, h16, h24, h27, Bool.true_or, Bool.false_or, Bool.or_true, Bool.or_false, Bool.not_true, Bool.not_false, cond_true, cond_false, Bool.true_and, Bool.false_and, Bool.and_true, Bool.and_false] <;> rfl
                 rw [hu]; rfl)
              | (have hu : chg p r = false := by
                  unfold chg; simp only [kh1.1, kh1.2, kh17.1, kh17.2, h16, h24, h27, Bool.true_or, Bool.false_or, Bool.or_true, Bool.or_false, Bool.not_true, Bool.not_false, cond_true, cond_false, Bool.true_and, Bool.false_and, Bool.and_true, Bool.and_false]; simp
                 rw [hu]; rfl)
          · skip
            have h29 := t_beq h27
            refine rg_put (d := 30) (v := .pt 105 2) rfl (oy rfl rfl rfl h27 (of_eff (s_field_pt rfl Try.underlying80 rfl ti9 rfl rfl rfl) rfl)) ?_
            refine rg_put (d := 31) (v := .d (.fl (.string qh1.sys))) rfl (oy rfl rfl rfl h27 (op_load_pt rfl Try.underlying9 rfl rfl rfl rfl rfl)) ?_
            refine rg_put (d := 32) (v := .pt 107 2) rfl (oy rfl rfl rfl h27 (of_eff (s_field_pt rfl Try.underlying80 rfl ti9 rfl rfl rfl) rfl)) ?_
            refine rg_put (d := 33) (v := .d (.fl (.string qh17.sys))) rfl (oy rfl rfl rfl h27 (op_load_pt rfl Try.underlying9 rfl rfl rfl rfl rfl)) ?_
            refine rg_put (d := 34) (v := .d (.fl (.bool (sEq qh1.sys qh17.sys)))) rfl (oy rfl rfl rfl h27 (op_bin rfl rfl rfl (b_seq _ _ _) rfl)) ?_
            refine rg_put (d := 35) (v := .d (.fl (.bool (sEq qh1.sys qh17.sys)))) rfl (og rfl (op_pick rfl rfl (by rw [h27]; rfl) rfl)) ?_
            refine rg_put (d := 4) (v := .d (.fl (.bool (sEq qh1.sys qh17.sys)))) rfl (og rfl (op_assign rfl rfl rfl)) ?_
            refine rg_done rfl ?_
            refine a_ret ?_
            show ∃ ds, ResL _ _ _ ds ∧ RV.of ds = _
            refine ⟨[.fl (.bool (sEq qh1.sys qh17.sys))], (.cons (.tmp rfl (.d _)) .nil), ?_⟩
            have kh1 := kd_some h1
            have kh17 := kd_some h17
            first
              | (have hu : chg p r = (sEq qh1.sys qh17.sys) := by
                  unfold chg; simp only [kh1.1, kh1.2, kh17.1, kh17.2, h16, h24, h27, Bool.true_or, Bool.false_or, Bool.or_true, Bool.or_false, Bool.not_true, Bool.not_false, cond_true, cond_false, Bool.true_and, Bool.false_and, Bool.and_true, Bool.and_false] <;> rfl
                 rw [hu]; rfl)
              | (have hu : chg p r = (sEq qh1.sys qh17.sys) := by
                  unfold chg; simp only [kh1.1, kh1.2, kh17.1, kh17.2, h16, h24, h27, Bool.true_or, Bool.false_or, Bool.or_true, Bool.or_false, Bool.not_true, Bool.not_false, cond_true, cond_false, Bool.true_and, Bool.false_and, Bool.and_true, Bool.and_false]; simp
                 rw [hu]; rfl)
set_option maxHeartbeats 4000000 in
set_option maxRecDepth 100000 in
theorem tk_c (x : Ta) (p : List Pnt) : Ctr Try.prog 16 [.ag (eTa x), .mp (setQ p)] (.d (.fl (.int .i64 (tk p x)))) := by
  refine ctr (n := 93) (rs := #[.tmp 4]) (L := [(0, .d (.ag (eTa x))), (1, .d (.mp (setQ p)))]) Try.func16 rfl rfl rfl rfl rfl (fun w0 U0 => ?_)
  refine a_rseq ?_
  refine rg_nam (d := 2) (v := .pt 101 0) (m := 101) (nw := [(101, .bx 27 (eTa x))]) rfl (og rfl (of_eff (op_box 101 rfl rfl rfl rfl) rfl)) rfl ?_
  refine rg_put (d := 4) (v := .d (.fl (.int .i64 0))) rfl (og rfl (op_assign rfl rfl rfl)) ?_
  refine rg_done rfl ?_
  refine a_seq ?_
  refine a_rseq ?_
  refine rg_put (d := 11) (v := .pt 101 0) rfl (og rfl (of_eff (s_field_pt rfl Try.underlying27 rfl ti23 rfl rfl rfl) rfl)) ?_
  refine rg_put (d := 12) (v := .d (.ag (eIv x.val))) rfl (og rfl (of_eff (s_load_pts rfl Try.underlying23 rfl ti23 rfl rfl rfl rfl) rfl)) ?_
  refine rg_put (d := 13) (v := .d (.fl (.bool (vI x.val)))) rfl (og rfl (op_call rfl Try.func29 nm29 rfl (.cons rfl (.d _) .nil) (vI_c x.val) rfl)) ?_
  refine rg_put (d := 14) (v := .d (.fl (.bool ((!(vI x.val)))))) rfl (og rfl (op_un rfl rfl (u_not _) rfl)) ?_
  refine rg_done rfl ?_
  refine a_cond rfl (fun h1 => ?_) (fun h1 => ?_)
  · skip
    have h2 := t_not h1
    refine a_rseq ?_
    refine rg_put (d := 4) (v := .d (.fl (.int .i64 12))) rfl (og rfl (op_assign rfl rfl rfl)) ?_
    refine rg_done rfl ?_
    refine a_ret ?_
    show ∃ ds, ResL _ _ _ ds ∧ RV.of ds = _
    refine ⟨[.fl (.int .i64 12)], (.cons (.tmp rfl (.d _)) .nil), ?_⟩
    rw [tk_v h2]; rfl
  · skip
    have h3 := f_not h1
    refine a_skip ?_
    show A _ _ _ _ _ _ _
    refine a_seq ?_
    refine a_rseq ?_
    refine rg_put (d := 15) (v := .pt 101 2) rfl (og rfl (of_eff (s_field_pt rfl Try.underlying27 rfl ti24 rfl rfl rfl) rfl)) ?_
    refine rg_put (d := 16) (v := .d (.sl 4 (List.map eBd x.bands))) rfl (og rfl (op_load_pt rfl Try.underlying24 rfl rfl rfl rfl rfl)) ?_
    refine rg_put (d := 17) (v := .d (.fl (.int .i64 (x.bands.length : Int)))) rfl (og rfl (s_len rfl Try.underlying24 rfl rfl)) ?_
    refine rg_put (d := 18) (v := .d (.fl (.bool ((decide (1024 < (x.bands.length : Int))))))) rfl (og rfl (op_bin rfl rfl rfl (b_gtr _ _ _ _) rfl)) ?_
    refine rg_put (d := 19) (v := .d (.fl (.bool ((decide (1024 < (x.bands.length : Int))))))) rfl (og rfl (op_move rfl rfl rfl)) ?_
    rcases fot ((decide (1024 < (x.bands.length : Int)))) with h4 | h4
    · skip
      have h5 := f_dec h4
      refine rg_put (d := 20) (v := .pt 101 3) rfl (oy rfl rfl rfl h4 (of_eff (s_field_pt rfl Try.underlying27 rfl ti25 rfl rfl rfl) rfl)) ?_
      refine rg_put (d := 21) (v := .d (.sl 5 (List.map eRt x.rates))) rfl (oy rfl rfl rfl h4 (op_load_pt rfl Try.underlying25 rfl rfl rfl rfl rfl)) ?_
      refine rg_put (d := 22) (v := .d (.fl (.int .i64 (x.rates.length : Int)))) rfl (oy rfl rfl rfl h4 (s_len rfl Try.underlying25 rfl rfl)) ?_
      refine rg_put (d := 23) (v := .d (.fl (.bool ((decide (1024 < (x.rates.length : Int))))))) rfl (oy rfl rfl rfl h4 (op_bin rfl rfl rfl (b_gtr _ _ _ _) rfl)) ?_
      refine rg_put (d := 24) (v := .d (.fl (.bool ((decide (1024 < (x.rates.length : Int))))))) rfl (og rfl (op_pick rfl rfl (by rw [h4]; rfl) rfl)) ?_
      refine rg_done rfl ?_
      refine a_cond rfl (fun h6 => ?_) (fun h6 => ?_)
      · skip
        have h7 := t_dec h6
        refine a_rseq ?_
        refine rg_put (d := 4) (v := .d (.fl (.int .i64 3))) rfl (og rfl (op_assign rfl rfl rfl)) ?_
        refine rg_done rfl ?_
        refine a_ret ?_
        show ∃ ds, ResL _ _ _ ds ∧ RV.of ds = _
        refine ⟨[.fl (.int .i64 3)], (.cons (.tmp rfl (.d _)) .nil), ?_⟩
        rw [tk_l h3 (by unfold tlim; simp only [h1, h3, h4, h6, Bool.true_or, Bool.false_or, Bool.or_true, Bool.or_false, Bool.not_true, Bool.not_false, cond_true, cond_false, Bool.true_and, Bool.false_and, Bool.and_true, Bool.and_false] <;> rfl)]; rfl
      · skip
        have h8 := f_dec h6
        refine a_skip ?_
        show A _ _ _ _ _ _ _
        refine a_rseq ?_
        refine rg_nam (d := 25) (v := .ow 102) (m := 102) (nw := [(102, .mp [])]) rfl (og rfl (op_makeMap 102 rfl rfl)) rfl ?_
        refine rg_sto (nw := [(102, .mp (bM 1))]) rfl (og rfl (op_mapInsE rfl rfl Try.underlying73 Try.underlying9 rfl rfl rfl rfl (by kernel_rfl) rfl (by kernel_rfl))) ?_
        refine rg_put (d := 26) (v := .ow 102) rfl (og rfl (op_move rfl rfl rfl)) ?_
        refine rg_put (d := 5) (v := .ow 102) rfl (og rfl (op_assign rfl rfl rfl)) ?_
        refine rg_done rfl ?_
        refine a_seq ?_
        refine a_rseq ?_
        refine rg_put (d := 27) (v := .pt 101 2) rfl (og rfl (of_eff (s_field_pt rfl Try.underlying27 rfl ti24 rfl rfl rfl) rfl)) ?_
        refine rg_put (d := 28) (v := .d (.sl 4 (List.map eBd x.bands))) rfl (og rfl (op_load_pt rfl Try.underlying24 rfl rfl rfl rfl rfl)) ?_
        refine rg_put (d := 29) (v := .d (.fl (.int .i64 (x.bands.length : Int)))) rfl (og rfl (s_len rfl Try.underlying24 rfl rfl)) ?_
        refine rg_put (d := 30) (v := .d (.fl (.int .i64 0))) rfl (og rfl (op_move rfl rfl rfl)) ?_
        refine rg_done rfl ?_
        refine a_block ?_
        refine a_loop (ι := Nat) (fun k => SS [(0, .d (.ag (eTa x))), (1, .d (.mp (setQ p))), (2, .pt 101 0), (5, .ow 102), (14, .d (.fl (.bool ((!(vI x.val)))))), (24, .d (.fl (.bool ((decide (1024 < (x.rates.length : Int))))))), (28, .d (.sl 4 (List.map eBd x.bands))), (29, .d (.fl (.int .i64 (x.bands.length : Int)))), (30, .d (.fl (.int .i64 (k : Int))))] [(101, .bx 27 (eTa x)), (102, .mp ((setN (bst x.bands k))))]) (fun k => k ≤ x.bands.length ∧ bnE x.bands = fe (bn1 x.bands) k (x.bands.length - k)) (fun k => x.bands.length - k) 0 (⟨by omega, rfl⟩) (imp_forget rfl ⟨rfl, rfl, rfl, rfl, rfl, rfl, rfl, rfl, (by first | rfl | exact ci (by omega) | exact ci (by simp) | exact cd (by simp) | simp), trivial⟩ ⟨rfl, rfl, trivial⟩) (fun k hok => ?_)
        obtain ⟨hk, hc⟩ := hok
        refine a_rseq ?_
        refine rg_put (d := 31) (v := .d (.fl (.bool ((decide ((k : Int) < (x.bands.length : Int))))))) rfl (og rfl (op_bin rfl rfl rfl (b_lss _ _ _ _) rfl)) ?_
        refine rg_done rfl ?_
        refine a_seq ?_
        refine a_cond rfl (fun h9 => ?_) (fun h9 => ?_)
        · skip
          have h10 := t_dec h9
          refine a_skip ?_
          show A _ _ _ _ _ _ _
          refine a_seq ?_
          refine a_block ?_
          refine a_rseq ?_
          refine rg_put (d := 32) (v := .el ((eBd (ix x.bands k)))) rfl (og rfl (s_index rfl Try.underlying24 ti59 rfl rfl (by omega) (row_at (by omega)) rfl)) ?_
          refine rg_put (d := 33) (v := .d (.ag (eBd (ix x.bands k)))) rfl (og rfl (of_eff (s_load_els rfl Try.underlying59 rfl ti59 rfl rfl rfl) rfl)) ?_
          refine rg_nam (d := 7) (v := .pt 103 0) (m := 103) (nw := [(103, .bx 59 ([.fl (.string (⟨#[]⟩)), .fl (.int .i64 0), .fl (.int .i64 0), .fl (.int .i64 0)]))]) rfl (og rfl (of_eff (s_alloc 103 rfl ti59 (by kernel_rfl) rfl) rfl)) rfl ?_
          refine rg_sto (nw := [(103, .bx 59 ((eBd (ix x.bands k))))]) rfl (og rfl (of_eff (s_store rfl rfl ti59 rfl rfl rfl rfl rfl rfl) rfl)) ?_
          refine rg_done rfl ?_
          refine a_seq ?_
          refine a_rseq ?_
          refine rg_put (d := 34) (v := .pt 103 0) rfl (og rfl (of_eff (s_field_pt rfl Try.underlying59 rfl ti9 rfl rfl rfl) rfl)) ?_
          refine rg_put (d := 35) (v := .d (.fl (.string ((ix x.bands k).name)))) rfl (og rfl (op_load_pt rfl Try.underlying9 rfl rfl rfl rfl rfl)) ?_
          refine rg_put (d := 36) (v := .d (.fl (.bool ((Nm.nmB ((ix x.bands k).name)))))) rfl (og rfl (op_call rfl Try.func30 nm30 rfl (.cons rfl (.d _) .nil) (nmC ((ix x.bands k).name)) rfl)) ?_
          refine rg_put (d := 37) (v := .d (.fl (.bool ((!((Nm.nmB ((ix x.bands k).name)))))))) rfl (og rfl (op_un rfl rfl (u_not _) rfl)) ?_
          refine rg_done rfl ?_
          refine a_cond rfl (fun h11 => ?_) (fun h11 => ?_)
          · skip
            have h12 := t_not h11
            refine a_rseq ?_
            refine rg_put (d := 4) (v := .d (.fl (.int .i64 6))) rfl (og rfl (op_assign rfl rfl rfl)) ?_
            refine rg_done rfl ?_
            refine a_ret ?_
            show ∃ ds, ResL _ _ _ ds ∧ RV.of ds = _
            refine ⟨[.fl (.int .i64 6)], (.cons (.tmp rfl (.d _)) .nil), ?_⟩
            have hb : bn1 x.bands k = 6 := by unfold bn1; simp only [h1, h3, h4, h6, h9, h11, h12, Bool.true_or, Bool.false_or, Bool.or_true, Bool.or_false, Bool.not_true, Bool.not_false, cond_true, cond_false, Bool.true_and, Bool.false_and, Bool.and_true, Bool.and_false] <;> rfl
            rw [tk_b h3 (by unfold tlim; simp only [h1, h3, h4, h6, h9, h11, h12, Bool.true_or, Bool.false_or, Bool.or_true, Bool.or_false, Bool.not_true, Bool.not_false, cond_true, cond_false, Bool.true_and, Bool.false_and, Bool.and_true, Bool.and_false] <;> rfl) (show bnE x.bands = 6 from fe_yes (by omega) hc hb (by decide)) (by decide)]; rfl
          · skip
            have h13 := f_not h11
            refine a_skip ?_
            show A _ _ _ _ _ _ _
            refine a_seq ?_
            refine a_rseq ?_
            refine rg_put (d := 38) (v := .pt 103 1) rfl (og rfl (of_eff (s_field_pt rfl Try.underlying59 rfl ti57 rfl rfl rfl) rfl)) ?_
            refine rg_put (d := 39) (v := .d (.ag (eWd ((ix x.bands k).win)))) rfl (og rfl (of_eff (s_load_pts rfl Try.underlying57 rfl ti57 rfl rfl rfl rfl) rfl)) ?_
            refine rg_put (d := 40) (v := .d (.fl (.bool ((vW ((ix x.bands k).win)))))) rfl (og rfl (op_call rfl Try.func31 nm31 rfl (.cons rfl (.d _) .nil) (vW28 ((ix x.bands k).win)) rfl)) ?_
            refine rg_put (d := 41) (v := .d (.fl (.bool ((!((vW ((ix x.bands k).win)))))))) rfl (og rfl (op_un rfl rfl (u_not _) rfl)) ?_
            refine rg_done rfl ?_
            refine a_cond rfl (fun h14 => ?_) (fun h14 => ?_)
            · skip
              have h15 := t_not h14
              refine a_rseq ?_
              refine rg_put (d := 4) (v := .d (.fl (.int .i64 1))) rfl (og rfl (op_assign rfl rfl rfl)) ?_
              refine rg_done rfl ?_
              refine a_ret ?_
              show ∃ ds, ResL _ _ _ ds ∧ RV.of ds = _
              refine ⟨[.fl (.int .i64 1)], (.cons (.tmp rfl (.d _)) .nil), ?_⟩
              have hb : bn1 x.bands k = 1 := by unfold bn1; simp only [h1, h3, h4, h6, h9, h11, h13, h14, h15, Bool.true_or, Bool.false_or, Bool.or_true, Bool.or_false, Bool.not_true, Bool.not_false, cond_true, cond_false, Bool.true_and, Bool.false_and, Bool.and_true, Bool.and_false] <;> rfl
              rw [tk_b h3 (by unfold tlim; simp only [h1, h3, h4, h6, h9, h11, h13, h14, h15, Bool.true_or, Bool.false_or, Bool.or_true, Bool.or_false, Bool.not_true, Bool.not_false, cond_true, cond_false, Bool.true_and, Bool.false_and, Bool.and_true, Bool.and_false] <;> rfl) (show bnE x.bands = 1 from fe_yes (by omega) hc hb (by decide)) (by decide)]; rfl
            · skip
              have h16 := f_not h14
              refine a_skip ?_
              show A _ _ _ _ _ _ _
              refine a_region ?_
              refine rg_put (d := 42) (v := .ow 102) rfl (og rfl (op_move rfl rfl rfl)) ?_
              refine rg_put (d := 43) (v := .pt 103 0) rfl (og rfl (of_eff (s_field_pt rfl Try.underlying59 rfl ti9 rfl rfl rfl) rfl)) ?_
              refine rg_put (d := 44) (v := .d (.fl (.string ((ix x.bands k).name)))) rfl (og rfl (op_load_pt rfl Try.underlying9 rfl rfl rfl rfl rfl)) ?_
              rcases fot (((bst x.bands k).any fun n => sEq n (ix x.bands k).name)) with h17 | h17
              · skip
                refine rg_sto (nw := [(102, .mp ((setN (bst x.bands k)) ++ [((.string ((ix x.bands k).name)), .fl (.bool true))]))]) rfl (og rfl (op_mapPush rfl rfl Try.underlying73 Try.underlying9 rfl rfl rfl rfl ((mfind_set (fun z : ByteArray => z) _ _).trans (by rw [show (List.any _ _) = _ from h17]; rfl)) rfl)) ?_
                refine rg_done rfl ?_
                show A _ _ _ _ _ _ _
                refine a_region ?_
                refine rg_put (d := 45) (v := .d (.fl (.int .i64 (((k : Int) + 1))))) rfl (og rfl (op_bin rfl rfl rfl (fun x y w => b_add64 _ _ _ x y w (by omega)) rfl)) ?_
                refine rg_put (d := 30) (v := .d (.fl (.int .i64 (((k : Int) + 1))))) rfl (og rfl (op_move rfl rfl rfl)) ?_
                refine rg_done rfl ?_
                have hb : bn1 x.bands k = 0 := by unfold bn1; simp only [h1, h3, h4, h6, h9, h11, h13, h14, h16, h17, Bool.true_or, Bool.false_or, Bool.or_true, Bool.or_false, Bool.not_true, Bool.not_false, cond_true, cond_false, Bool.true_and, Bool.false_and, Bool.and_true, Bool.and_false] <;> rfl
                show ∃ i, _ ∧ _ ∧ Imp _ _ _ _ _
                refine ⟨k + 1, ⟨by omega, fe_no (by omega) hc hb⟩, by omega, imp_forget rfl ⟨rfl, rfl, rfl, rfl, rfl, rfl, rfl, rfl, (by first | rfl | exact ci (by omega) | exact ci (by simp) | exact cd (by simp) | simp), trivial⟩ ⟨rfl, (congrArg (fun z => Ob.mp z) (bst_no h17)), trivial⟩⟩
              · skip
                refine rg_sto (nw := [(102, .mp ((setN (bst x.bands k))))]) rfl (og rfl (op_mapSameS rfl rfl Try.underlying73 Try.underlying9 rfl rfl rfl rfl ((mfind_set (fun z : ByteArray => z) _ _).trans (by rw [show (List.any _ _) = _ from h17]; rfl)) rfl)) ?_
                refine rg_done rfl ?_
                show A _ _ _ _ _ _ _
                refine a_region ?_
                refine rg_put (d := 45) (v := .d (.fl (.int .i64 (((k : Int) + 1))))) rfl (og rfl (op_bin rfl rfl rfl (fun x y w => b_add64 _ _ _ x y w (by omega)) rfl)) ?_
                refine rg_put (d := 30) (v := .d (.fl (.int .i64 (((k : Int) + 1))))) rfl (og rfl (op_move rfl rfl rfl)) ?_
                refine rg_done rfl ?_
                have hb : bn1 x.bands k = 0 := by unfold bn1; simp only [h1, h3, h4, h6, h9, h11, h13, h14, h16, h17, Bool.true_or, Bool.false_or, Bool.or_true, Bool.or_false, Bool.not_true, Bool.not_false, cond_true, cond_false, Bool.true_and, Bool.false_and, Bool.and_true, Bool.and_false] <;> rfl
                show ∃ i, _ ∧ _ ∧ Imp _ _ _ _ _
                refine ⟨k + 1, ⟨by omega, fe_no (by omega) hc hb⟩, by omega, imp_forget rfl ⟨rfl, rfl, rfl, rfl, rfl, rfl, rfl, rfl, (by first | rfl | exact ci (by omega) | exact ci (by simp) | exact cd (by simp) | simp), trivial⟩ ⟨rfl, (congrArg (fun z => Ob.mp (setN z)) (bst_yes h17).symm), trivial⟩⟩
        · skip
          have h18 := f_dec h9
          refine a_exit ?_
          show A _ _ _ _ _ _ _
          refine a_rseq ?_
          have hb0 : bnE x.bands = 0 := by rw [fe_end (by omega)] at hc; exact hc
          have hlim : tlim x = false := (by unfold tlim; simp only [h1, h3, h4, h6, h9, Bool.true_or, Bool.false_or, Bool.or_true, Bool.or_false, Bool.not_true, Bool.not_false, cond_true, cond_false, Bool.true_and, Bool.false_and, Bool.and_true, Bool.and_false] <;> rfl)
          have hkl : x.bands.length = k := by omega
          rw [show (setN (bst x.bands k)) = (setN (bst x.bands x.bands.length)) from (by rw [hkl])]
          refine rg_nam (d := 46) (v := .ow 104) (m := 104) (nw := [(104, .mp [])]) rfl (og rfl (op_makeMap 104 rfl rfl)) rfl ?_
          refine rg_put (d := 8) (v := .ow 104) rfl (og rfl (op_assign rfl rfl rfl)) ?_
          refine rg_done rfl ?_
          refine a_seq ?_
          refine a_rseq ?_
          refine rg_put (d := 47) (v := .pt 101 3) rfl (og rfl (of_eff (s_field_pt rfl Try.underlying27 rfl ti25 rfl rfl rfl) rfl)) ?_
          refine rg_put (d := 48) (v := .d (.sl 5 (List.map eRt x.rates))) rfl (og rfl (op_load_pt rfl Try.underlying25 rfl rfl rfl rfl rfl)) ?_
          refine rg_put (d := 49) (v := .d (.fl (.int .i64 (x.rates.length : Int)))) rfl (og rfl (s_len rfl Try.underlying25 rfl rfl)) ?_
          refine rg_put (d := 50) (v := .d (.fl (.int .i64 0))) rfl (og rfl (op_move rfl rfl rfl)) ?_
          refine rg_done rfl ?_
          refine a_block ?_
          refine a_loop (ι := Nat) (fun j => SS [(0, .d (.ag (eTa x))), (1, .d (.mp (setQ p))), (2, .pt 101 0), (5, .ow 102), (8, .ow 104), (14, .d (.fl (.bool ((!(vI x.val)))))), (24, .d (.fl (.bool ((decide (1024 < (x.rates.length : Int))))))), (28, .d (.sl 4 (List.map eBd x.bands))), (29, .d (.fl (.int .i64 (x.bands.length : Int)))), (30, .d (.fl (.int .i64 (k : Int)))), (31, .d (.fl (.bool ((decide ((k : Int) < (x.bands.length : Int))))))), (48, .d (.sl 5 (List.map eRt x.rates))), (49, .d (.fl (.int .i64 (x.rates.length : Int)))), (50, .d (.fl (.int .i64 (j : Int))))] [(101, .bx 27 (eTa x)), (102, .mp ((setN (bst x.bands x.bands.length)))), (104, .mp ((setR (x.rates.take j))))]) (fun j => j ≤ x.rates.length ∧ rtE p x.bands x.rates = fe (rt1 p x.bands x.rates) j (x.rates.length - j)) (fun j => x.rates.length - j) 0 (⟨by omega, rfl⟩) (imp_forget rfl ⟨rfl, rfl, rfl, rfl, rfl, rfl, rfl, rfl, rfl, rfl, rfl, rfl, rfl, (by first | rfl | exact ci (by omega) | exact ci (by simp) | exact cd (by simp) | simp), trivial⟩ ⟨rfl, rfl, rfl, trivial⟩) (fun j hok => ?_)
          obtain ⟨hk, hc⟩ := hok
          refine a_rseq ?_
          refine rg_put (d := 51) (v := .d (.fl (.bool ((decide ((j : Int) < (x.rates.length : Int))))))) rfl (og rfl (op_bin rfl rfl rfl (b_lss _ _ _ _) rfl)) ?_
          refine rg_done rfl ?_
          refine a_seq ?_
          refine a_cond rfl (fun h19 => ?_) (fun h19 => ?_)
          · skip
            have h20 := t_dec h19
            refine a_skip ?_
            show A _ _ _ _ _ _ _
            refine a_seq ?_
            refine a_block ?_
            refine a_rseq ?_
            refine rg_put (d := 52) (v := .el ((eRt (ix x.rates j)))) rfl (og rfl (s_index rfl Try.underlying25 ti68 rfl rfl (by omega) (row_at (by omega)) rfl)) ?_
            refine rg_put (d := 53) (v := .d (.ag (eRt (ix x.rates j)))) rfl (og rfl (of_eff (s_load_els rfl Try.underlying68 rfl ti68 rfl rfl rfl) rfl)) ?_
            refine rg_nam (d := 10) (v := .pt 105 0) (m := 105) (nw := [(105, .bx 68 ([.fl (.string (⟨#[]⟩)), .fl (.string (⟨#[]⟩)), .fl (.int .i64 0), .fl (.string (⟨#[]⟩)), .fl (.int .i64 0)]))]) rfl (og rfl (of_eff (s_alloc 105 rfl ti68 (by kernel_rfl) rfl) rfl)) rfl ?_
            refine rg_sto (nw := [(105, .bx 68 ((eRt (ix x.rates j))))]) rfl (og rfl (of_eff (s_store rfl rfl ti68 rfl rfl rfl rfl rfl rfl) rfl)) ?_
            refine rg_done rfl ?_
            refine a_seq ?_
            refine a_block ?_
            refine a_rseq ?_
            refine rg_put (d := 55) (v := .d (.ag (eRt (ix x.rates j)))) rfl (og rfl (of_eff (s_load_pts rfl Try.underlying68 rfl ti68 rfl rfl rfl rfl) rfl)) ?_
            refine rg_put (d := 56) (v := .d (.mp (setQ p))) rfl (og rfl (op_move rfl rfl rfl)) ?_
            refine rg_put (d := 57) (v := .d (.fl (.bool ((chg p (ix x.rates j)))))) rfl (og rfl (op_call rfl Try.func32 nm32 rfl (.cons rfl (.d _) (.cons rfl (.d _) .nil)) (chg_c (ix x.rates j) p) rfl)) ?_
            refine rg_put (d := 58) (v := .d (.fl (.bool ((!((chg p (ix x.rates j)))))))) rfl (og rfl (op_un rfl rfl (u_not _) rfl)) ?_
            refine rg_put (d := 54) (v := .d (.fl (.bool ((!((chg p (ix x.rates j)))))))) rfl (og rfl (op_assign rfl rfl rfl)) ?_
            refine rg_done rfl ?_
            refine a_cond rfl (fun h21 => ?_) (fun h21 => ?_)
            · skip
              have h22 := t_not h21
              refine a_rseq ?_
              refine rg_put (d := 4) (v := .d (.fl (.int .i64 16))) rfl (og rfl (op_assign rfl rfl rfl)) ?_
              refine rg_done rfl ?_
              refine a_ret ?_
              show ∃ ds, ResL _ _ _ ds ∧ RV.of ds = _
              refine ⟨[.fl (.int .i64 16)], (.cons (.tmp rfl (.d _)) .nil), ?_⟩
              have hb : rt1 p x.bands x.rates j = 16 := by unfold rt1; simp only [h1, h3, h4, h6, h9, h19, h21, h22, Bool.true_or, Bool.false_or, Bool.or_true, Bool.or_false, Bool.not_true, Bool.not_false, cond_true, cond_false, Bool.true_and, Bool.false_and, Bool.and_true, Bool.and_false] <;> rfl
              rw [tk_r h3 hlim hb0, show rtE p x.bands x.rates = 16 from fe_yes (by omega) hc hb (by decide)]; rfl
            · skip
              have h23 := f_not h21
              refine a_rseq ?_
              refine rg_put (d := 60) (v := .pt 105 2) rfl (og rfl (of_eff (s_field_pt rfl Try.underlying68 rfl ti3 rfl rfl rfl) rfl)) ?_
              refine rg_put (d := 61) (v := .d (.fl (.int .i64 ((ix x.rates j).cls)))) rfl (og rfl (op_load_pt rfl Try.underlying3 rfl rfl rfl rfl rfl)) ?_
              refine rg_put (d := 62) (v := .d (.fl (.bool ((decide ((ix x.rates j).cls < 1)))))) rfl (og rfl (op_bin rfl rfl rfl (b_lss _ _ _ _) rfl)) ?_
              refine rg_put (d := 63) (v := .d (.fl (.bool ((decide ((ix x.rates j).cls < 1)))))) rfl (og rfl (op_move rfl rfl rfl)) ?_
              rcases fot ((decide ((ix x.rates j).cls < 1))) with h24 | h24
              · skip
                have h25 := f_dec h24
                refine rg_put (d := 64) (v := .pt 105 2) rfl (oy rfl rfl rfl h24 (of_eff (s_field_pt rfl Try.underlying68 rfl ti3 rfl rfl rfl) rfl)) ?_
                refine rg_put (d := 65) (v := .d (.fl (.int .i64 ((ix x.rates j).cls)))) rfl (oy rfl rfl rfl h24 (op_load_pt rfl Try.underlying3 rfl rfl rfl rfl rfl)) ?_
                refine rg_put (d := 66) (v := .d (.fl (.bool ((decide (9 < (ix x.rates j).cls)))))) rfl (oy rfl rfl rfl h24 (op_bin rfl rfl rfl (b_gtr _ _ _ _) rfl)) ?_
                refine rg_put (d := 67) (v := .d (.fl (.bool ((decide (9 < (ix x.rates j).cls)))))) rfl (og rfl (op_pick rfl rfl (by rw [h24]; rfl) rfl)) ?_
                refine rg_put (d := 59) (v := .d (.fl (.bool ((decide (9 < (ix x.rates j).cls)))))) rfl (og rfl (op_assign rfl rfl rfl)) ?_
                refine rg_done rfl ?_
                refine a_cond rfl (fun h26 => ?_) (fun h26 => ?_)
                · skip
                  have h27 := t_dec h26
                  refine a_rseq ?_
                  refine rg_put (d := 4) (v := .d (.fl (.int .i64 20))) rfl (og rfl (op_assign rfl rfl rfl)) ?_
                  refine rg_done rfl ?_
                  refine a_ret ?_
                  show ∃ ds, ResL _ _ _ ds ∧ RV.of ds = _
                  refine ⟨[.fl (.int .i64 20)], (.cons (.tmp rfl (.d _)) .nil), ?_⟩
                  have hb : rt1 p x.bands x.rates j = 20 := by unfold rt1; simp only [h1, h3, h4, h6, h9, h19, h21, h23, h24, h26, Bool.true_or, Bool.false_or, Bool.or_true, Bool.or_false, Bool.not_true, Bool.not_false, cond_true, cond_false, Bool.true_and, Bool.false_and, Bool.and_true, Bool.and_false] <;> rfl
                  rw [tk_r h3 hlim hb0, show rtE p x.bands x.rates = 20 from fe_yes (by omega) hc hb (by decide)]; rfl
                · skip
                  have h28 := f_dec h26
                  refine a_rseq ?_
                  refine rg_put (d := 69) (v := .ow 102) rfl (og rfl (op_move rfl rfl rfl)) ?_
                  refine rg_put (d := 70) (v := .pt 105 3) rfl (og rfl (of_eff (s_field_pt rfl Try.underlying68 rfl ti9 rfl rfl rfl) rfl)) ?_
                  refine rg_put (d := 71) (v := .d (.fl (.string ((ix x.rates j).band)))) rfl (og rfl (op_load_pt rfl Try.underlying9 rfl rfl rfl rfl rfl)) ?_
                  rcases fot (((bst x.bands x.bands.length).any fun n => sEq n (ix x.rates j).band)) with h29 | h29
                  · skip
                    refine rg_put (d := 72) (v := .d (.fl (.bool false))) rfl (og rfl (op_lookup1 rfl Try.underlying73 Try.underlying9 rfl ti4 rfl rfl (.ow rfl) rfl (r := none) ((mfind_set (fun z : ByteArray => z) _ _).trans (by rw [show (List.any _ _) = _ from h29]; rfl)) rfl rfl)) ?_
                    refine rg_put (d := 73) (v := .d (.fl (.bool (!false)))) rfl (og rfl (op_un rfl rfl (u_not _) rfl)) ?_
                    refine rg_put (d := 68) (v := .d (.fl (.bool (!false)))) rfl (og rfl (op_assign rfl rfl rfl)) ?_
                    refine rg_done rfl ?_
                    refine a_condK rfl rfl ?_
                    refine a_rseq ?_
                    refine rg_put (d := 4) (v := .d (.fl (.int .i64 10))) rfl (og rfl (op_assign rfl rfl rfl)) ?_
                    refine rg_done rfl ?_
                    refine a_ret ?_
                    show ∃ ds, ResL _ _ _ ds ∧ RV.of ds = _
                    refine ⟨[.fl (.int .i64 10)], (.cons (.tmp rfl (.d _)) .nil), ?_⟩
                    have hbd : hasB x.bands (ix x.rates j).band = false := by have := h29; rw [bst_any (Nat.le_refl _), List.take_of_length_le (Nat.le_refl _)] at this; exact this
                    have hb : rt1 p x.bands x.rates j = 10 := by unfold rt1; simp only [h1, h3, h4, h6, h9, h19, h21, h23, h24, h26, h29, hbd, Bool.true_or, Bool.false_or, Bool.or_true, Bool.or_false, Bool.not_true, Bool.not_false, cond_true, cond_false, Bool.true_and, Bool.false_and, Bool.and_true, Bool.and_false] <;> rfl
                    rw [tk_r h3 hlim hb0, show rtE p x.bands x.rates = 10 from fe_yes (by omega) hc hb (by decide)]; rfl
                  · skip
                    refine rg_put (d := 72) (v := .d (.fl (.bool true))) rfl (og rfl (op_lookup1 rfl Try.underlying73 Try.underlying9 rfl ti4 rfl rfl (.ow rfl) rfl (r := (some (.fl (.bool true)))) ((mfind_set (fun z : ByteArray => z) _ _).trans (by rw [show (List.any _ _) = _ from h29]; rfl)) rfl rfl)) ?_
                    refine rg_put (d := 73) (v := .d (.fl (.bool (!true)))) rfl (og rfl (op_un rfl rfl (u_not _) rfl)) ?_
                    refine rg_put (d := 68) (v := .d (.fl (.bool (!true)))) rfl (og rfl (op_assign rfl rfl rfl)) ?_
                    refine rg_done rfl ?_
                    refine a_condF rfl rfl ?_
                    refine a_rseq ?_
                    refine rg_put (d := 75) (v := .pt 105 4) rfl (og rfl (of_eff (s_field_pt rfl Try.underlying68 rfl ti3 rfl rfl rfl) rfl)) ?_
                    refine rg_put (d := 76) (v := .d (.fl (.int .i64 ((ix x.rates j).cents)))) rfl (og rfl (op_load_pt rfl Try.underlying3 rfl rfl rfl rfl rfl)) ?_
                    refine rg_put (d := 77) (v := .d (.fl (.bool ((decide ((ix x.rates j).cents < 0)))))) rfl (og rfl (op_bin rfl rfl rfl (b_lss _ _ _ _) rfl)) ?_
                    refine rg_put (d := 78) (v := .d (.fl (.bool ((decide ((ix x.rates j).cents < 0)))))) rfl (og rfl (op_move rfl rfl rfl)) ?_
                    rcases fot ((decide ((ix x.rates j).cents < 0))) with h30 | h30
                    · skip
                      have h31 := f_dec h30
                      refine rg_put (d := 79) (v := .pt 105 4) rfl (oy rfl rfl rfl h30 (of_eff (s_field_pt rfl Try.underlying68 rfl ti3 rfl rfl rfl) rfl)) ?_
                      refine rg_put (d := 80) (v := .d (.fl (.int .i64 ((ix x.rates j).cents)))) rfl (oy rfl rfl rfl h30 (op_load_pt rfl Try.underlying3 rfl rfl rfl rfl rfl)) ?_
                      refine rg_put (d := 81) (v := .d (.fl (.bool ((!(decide (1125899906842624 < (ix x.rates j).cents))))))) rfl (oy rfl rfl rfl h30 (op_call rfl Try.func33 nm33 rfl (.cons rfl (.d _) .nil) (fits_c ((ix x.rates j).cents) (by omega)) rfl)) ?_
                      refine rg_put (d := 82) (v := .d (.fl (.bool ((!((!(decide (1125899906842624 < (ix x.rates j).cents))))))))) rfl (oy rfl rfl rfl h30 (op_un rfl rfl (u_not _) rfl)) ?_
                      refine rg_put (d := 83) (v := .d (.fl (.bool ((!((!(decide (1125899906842624 < (ix x.rates j).cents))))))))) rfl (og rfl (op_pick rfl rfl (by rw [h30]; rfl) rfl)) ?_
                      refine rg_put (d := 74) (v := .d (.fl (.bool ((!((!(decide (1125899906842624 < (ix x.rates j).cents))))))))) rfl (og rfl (op_assign rfl rfl rfl)) ?_
                      refine rg_done rfl ?_
                      refine a_cond rfl (fun h32 => ?_) (fun h32 => ?_)
                      · skip
                        have h33 := t_not h32
                        have h34 := f_not h33
                        have h35 := t_dec h34
                        refine a_rseq ?_
                        refine rg_put (d := 4) (v := .d (.fl (.int .i64 13))) rfl (og rfl (op_assign rfl rfl rfl)) ?_
                        refine rg_done rfl ?_
                        refine a_ret ?_
                        show ∃ ds, ResL _ _ _ ds ∧ RV.of ds = _
                        refine ⟨[.fl (.int .i64 13)], (.cons (.tmp rfl (.d _)) .nil), ?_⟩
                        have hbd : hasB x.bands (ix x.rates j).band = true := by have := h29; rw [bst_any (Nat.le_refl _), List.take_of_length_le (Nat.le_refl _)] at this; exact this
                        have hb : rt1 p x.bands x.rates j = 13 := by unfold rt1; simp only [h1, h3, h4, h6, h9, h19, h21, h23, h24, h26, h29, h30, h32, h33, h34, hbd, Bool.true_or, Bool.false_or, Bool.or_true, Bool.or_false, Bool.not_true, Bool.not_false, cond_true, cond_false, Bool.true_and, Bool.false_and, Bool.and_true, Bool.and_false] <;> rfl
                        rw [tk_r h3 hlim hb0, show rtE p x.bands x.rates = 13 from fe_yes (by omega) hc hb (by decide)]; rfl
                      · skip
                        have h36 := f_not h32
                        have h37 := t_not h36
                        have h38 := f_dec h37
                        refine a_rseq ?_
                        refine rg_put (d := 85) (v := .ow 104) rfl (og rfl (op_move rfl rfl rfl)) ?_
                        refine rg_put (d := 86) (v := .d (.ag (eRt (ix x.rates j)))) rfl (og rfl (of_eff (s_load_pts rfl Try.underlying68 rfl ti68 rfl rfl rfl rfl) rfl)) ?_
                        refine rg_put (d := 87) (v := .d (.ag (eRt ((plcR (ix x.rates j)))))) rfl (og rfl (op_call rfl Try.func34 nm34 rfl (.cons rfl (.d _) .nil) (plc_c (ix x.rates j)) rfl)) ?_
                        rcases fot ((dupR (x.rates.take j) (ix x.rates j))) with h39 | h39
                        · skip
                          refine rg_put (d := 88) (v := .d (.fl (.bool false))) rfl (og rfl (op_lookup1K rfl Try.underlying74 keyK68 ti4 rfl rfl (.ow rfl) (ks := [(.string (((plcR (ix x.rates j))).fr)), (.string (((plcR (ix x.rates j))).to)), (.int .i64 (((plcR (ix x.rates j))).cls)), (.string (((plcR (ix x.rates j))).band)), (.int .i64 (((plcR (ix x.rates j))).cents))]) rfl ⟨_, _, _, _, _, rfl⟩ (okR _) (r := none) ((mfindR _ _).trans (by rw [h39]; rfl)) rfl rfl)) ?_
                          refine rg_put (d := 84) (v := .d (.fl (.bool false))) rfl (og rfl (op_assign rfl rfl rfl)) ?_
                          refine rg_done rfl ?_
                          refine a_condF rfl rfl ?_
                          refine a_skip ?_
                          show A _ _ _ _ _ _ _
                          refine a_region ?_
                          refine rg_put (d := 89) (v := .ow 104) rfl (og rfl (op_move rfl rfl rfl)) ?_
                          refine rg_put (d := 90) (v := .d (.ag (eRt (ix x.rates j)))) rfl (og rfl (of_eff (s_load_pts rfl Try.underlying68 rfl ti68 rfl rfl rfl rfl) rfl)) ?_
                          refine rg_put (d := 91) (v := .d (.ag (eRt ((plcR (ix x.rates j)))))) rfl (og rfl (op_call rfl Try.func34 nm34 rfl (.cons rfl (.d _) .nil) (plc_c (ix x.rates j)) rfl)) ?_
                          refine rg_sto (nw := [(104, .mp ((setR (x.rates.take j)) ++ [(.agg ([(.string (((plcR (ix x.rates j))).fr)), (.string (((plcR (ix x.rates j))).to)), (.int .i64 (((plcR (ix x.rates j))).cls)), (.string (((plcR (ix x.rates j))).band)), (.int .i64 (((plcR (ix x.rates j))).cents))] : List Value).toArray, .fl (.bool true))]))]) rfl (og rfl (op_mapPushK rfl rfl Try.underlying74 keyK68 rfl rfl (ks := [(.string (((plcR (ix x.rates j))).fr)), (.string (((plcR (ix x.rates j))).to)), (.int .i64 (((plcR (ix x.rates j))).cls)), (.string (((plcR (ix x.rates j))).band)), (.int .i64 (((plcR (ix x.rates j))).cents))]) rfl ⟨_, _, _, _, _, rfl⟩ (okR _) ((mfindR _ _).trans (by rw [h39]; rfl)) rfl)) ?_
                          refine rg_done rfl ?_
                          show A _ _ _ _ _ _ _
                          refine a_region ?_
                          refine rg_put (d := 92) (v := .d (.fl (.int .i64 (((j : Int) + 1))))) rfl (og rfl (op_bin rfl rfl rfl (fun x y w => b_add64 _ _ _ x y w (by omega)) rfl)) ?_
                          refine rg_put (d := 50) (v := .d (.fl (.int .i64 (((j : Int) + 1))))) rfl (og rfl (op_move rfl rfl rfl)) ?_
                          refine rg_done rfl ?_
                          have hbd : hasB x.bands (ix x.rates j).band = true := by have := h29; rw [bst_any (Nat.le_refl _), List.take_of_length_le (Nat.le_refl _)] at this; exact this
                          have hb : rt1 p x.bands x.rates j = 0 := by unfold rt1; simp only [h1, h3, h4, h6, h9, h19, h21, h23, h24, h26, h29, h30, h32, h36, h37, h39, hbd, Bool.true_or, Bool.false_or, Bool.or_true, Bool.or_false, Bool.not_true, Bool.not_false, cond_true, cond_false, Bool.true_and, Bool.false_and, Bool.and_true, Bool.and_false] <;> rfl
                          show ∃ i, _ ∧ _ ∧ Imp _ _ _ _ _
                          refine ⟨j + 1, ⟨by omega, fe_no (by omega) hc hb⟩, by omega, imp_forget rfl ⟨rfl, rfl, rfl, rfl, rfl, rfl, rfl, rfl, rfl, rfl, rfl, rfl, rfl, (by first | rfl | exact ci (by omega) | exact ci (by simp) | exact cd (by simp) | simp), trivial⟩ ⟨rfl, rfl, (congrArg (fun z => Ob.mp z) (setR_take (by omega))), trivial⟩⟩
                        · skip
                          refine rg_put (d := 88) (v := .d (.fl (.bool true))) rfl (og rfl (op_lookup1K rfl Try.underlying74 keyK68 ti4 rfl rfl (.ow rfl) (ks := [(.string (((plcR (ix x.rates j))).fr)), (.string (((plcR (ix x.rates j))).to)), (.int .i64 (((plcR (ix x.rates j))).cls)), (.string (((plcR (ix x.rates j))).band)), (.int .i64 (((plcR (ix x.rates j))).cents))]) rfl ⟨_, _, _, _, _, rfl⟩ (okR _) (r := (some (.fl (.bool true)))) ((mfindR _ _).trans (by rw [h39]; rfl)) rfl rfl)) ?_
                          refine rg_put (d := 84) (v := .d (.fl (.bool true))) rfl (og rfl (op_assign rfl rfl rfl)) ?_
                          refine rg_done rfl ?_
                          refine a_condK rfl rfl ?_
                          refine a_rseq ?_
                          refine rg_put (d := 4) (v := .d (.fl (.int .i64 9))) rfl (og rfl (op_assign rfl rfl rfl)) ?_
                          refine rg_done rfl ?_
                          refine a_ret ?_
                          show ∃ ds, ResL _ _ _ ds ∧ RV.of ds = _
                          refine ⟨[.fl (.int .i64 9)], (.cons (.tmp rfl (.d _)) .nil), ?_⟩
                          have hbd : hasB x.bands (ix x.rates j).band = true := by have := h29; rw [bst_any (Nat.le_refl _), List.take_of_length_le (Nat.le_refl _)] at this; exact this
                          have hb : rt1 p x.bands x.rates j = 9 := by unfold rt1; simp only [h1, h3, h4, h6, h9, h19, h21, h23, h24, h26, h29, h30, h32, h36, h37, h39, hbd, Bool.true_or, Bool.false_or, Bool.or_true, Bool.or_false, Bool.not_true, Bool.not_false, cond_true, cond_false, Bool.true_and, Bool.false_and, Bool.and_true, Bool.and_false] <;> rfl
                          rw [tk_r h3 hlim hb0, show rtE p x.bands x.rates = 9 from fe_yes (by omega) hc hb (by decide)]; rfl
                    · skip
                      have h40 := t_dec h30
                      refine rg_put (d := 79) (v := .d (.fl undef)) rfl (on rfl rfl rfl h30) ?_
                      refine rg_put (d := 80) (v := .d (.fl undef)) rfl (on rfl rfl rfl h30) ?_
                      refine rg_put (d := 81) (v := .d (.fl undef)) rfl (on rfl rfl rfl h30) ?_
                      refine rg_put (d := 82) (v := .d (.fl undef)) rfl (on rfl rfl rfl h30) ?_
                      refine rg_put (d := 83) (v := .d (.fl (.bool true))) rfl (og rfl (op_pick rfl rfl (by rw [h30]; rfl) rfl)) ?_
                      refine rg_put (d := 74) (v := .d (.fl (.bool true))) rfl (og rfl (op_assign rfl rfl rfl)) ?_
                      refine rg_done rfl ?_
                      refine a_condK rfl rfl ?_
                      refine a_rseq ?_
                      refine rg_put (d := 4) (v := .d (.fl (.int .i64 13))) rfl (og rfl (op_assign rfl rfl rfl)) ?_
                      refine rg_done rfl ?_
                      refine a_ret ?_
                      show ∃ ds, ResL _ _ _ ds ∧ RV.of ds = _
                      refine ⟨[.fl (.int .i64 13)], (.cons (.tmp rfl (.d _)) .nil), ?_⟩
                      have hbd : hasB x.bands (ix x.rates j).band = true := by have := h29; rw [bst_any (Nat.le_refl _), List.take_of_length_le (Nat.le_refl _)] at this; exact this
                      have hb : rt1 p x.bands x.rates j = 13 := by unfold rt1; simp only [h1, h3, h4, h6, h9, h19, h21, h23, h24, h26, h29, h30, hbd, Bool.true_or, Bool.false_or, Bool.or_true, Bool.or_false, Bool.not_true, Bool.not_false, cond_true, cond_false, Bool.true_and, Bool.false_and, Bool.and_true, Bool.and_false] <;> rfl
                      rw [tk_r h3 hlim hb0, show rtE p x.bands x.rates = 13 from fe_yes (by omega) hc hb (by decide)]; rfl
              · skip
                have h41 := t_dec h24
                refine rg_put (d := 64) (v := .d (.fl undef)) rfl (on rfl rfl rfl h24) ?_
                refine rg_put (d := 65) (v := .d (.fl undef)) rfl (on rfl rfl rfl h24) ?_
                refine rg_put (d := 66) (v := .d (.fl undef)) rfl (on rfl rfl rfl h24) ?_
                refine rg_put (d := 67) (v := .d (.fl (.bool true))) rfl (og rfl (op_pick rfl rfl (by rw [h24]; rfl) rfl)) ?_
                refine rg_put (d := 59) (v := .d (.fl (.bool true))) rfl (og rfl (op_assign rfl rfl rfl)) ?_
                refine rg_done rfl ?_
                refine a_condK rfl rfl ?_
                refine a_rseq ?_
                refine rg_put (d := 4) (v := .d (.fl (.int .i64 20))) rfl (og rfl (op_assign rfl rfl rfl)) ?_
                refine rg_done rfl ?_
                refine a_ret ?_
                show ∃ ds, ResL _ _ _ ds ∧ RV.of ds = _
                refine ⟨[.fl (.int .i64 20)], (.cons (.tmp rfl (.d _)) .nil), ?_⟩
                have hb : rt1 p x.bands x.rates j = 20 := by unfold rt1; simp only [h1, h3, h4, h6, h9, h19, h21, h23, h24, Bool.true_or, Bool.false_or, Bool.or_true, Bool.or_false, Bool.not_true, Bool.not_false, cond_true, cond_false, Bool.true_and, Bool.false_and, Bool.and_true, Bool.and_false] <;> rfl
                rw [tk_r h3 hlim hb0, show rtE p x.bands x.rates = 20 from fe_yes (by omega) hc hb (by decide)]; rfl
          · skip
            have h42 := f_dec h19
            refine a_exit ?_
            show A _ _ _ _ _ _ _
            refine a_rseq ?_
            refine rg_put (d := 4) (v := .d (.fl (.int .i64 0))) rfl (og rfl (op_assign rfl rfl rfl)) ?_
            refine rg_done rfl ?_
            refine a_ret ?_
            show ∃ ds, ResL _ _ _ ds ∧ RV.of ds = _
            refine ⟨[.fl (.int .i64 0)], (.cons (.tmp rfl (.d _)) .nil), ?_⟩
            rw [tk_r h3 hlim hb0, show rtE p x.bands x.rates = 0 from by rw [fe_end (by omega)] at hc; exact hc]; rfl
    · skip
      have h43 := t_dec h4
      refine rg_put (d := 20) (v := .d (.fl undef)) rfl (on rfl rfl rfl h4) ?_
      refine rg_put (d := 21) (v := .d (.fl undef)) rfl (on rfl rfl rfl h4) ?_
      refine rg_put (d := 22) (v := .d (.fl undef)) rfl (on rfl rfl rfl h4) ?_
      refine rg_put (d := 23) (v := .d (.fl undef)) rfl (on rfl rfl rfl h4) ?_
      refine rg_put (d := 24) (v := .d (.fl (.bool true))) rfl (og rfl (op_pick rfl rfl (by rw [h4]; rfl) rfl)) ?_
      refine rg_done rfl ?_
      refine a_condK rfl rfl ?_
      refine a_rseq ?_
      refine rg_put (d := 4) (v := .d (.fl (.int .i64 3))) rfl (og rfl (op_assign rfl rfl rfl)) ?_
      refine rg_done rfl ?_
      refine a_ret ?_
      show ∃ ds, ResL _ _ _ ds ∧ RV.of ds = _
      refine ⟨[.fl (.int .i64 3)], (.cons (.tmp rfl (.d _)) .nil), ?_⟩
      rw [tk_l h3 (by unfold tlim; simp only [h1, h3, h4, Bool.true_or, Bool.false_or, Bool.or_true, Bool.or_false, Bool.not_true, Bool.not_false, cond_true, cond_false, Bool.true_and, Bool.false_and, Bool.and_true, Bool.and_false] <;> rfl)]; rfl
end Go.Proofs.Ytlmihhecpaomjaa.Wk
