/- Own rows of structures: make and copy. Conditions: as each theorem names them. -/
import Derived.Test.YtaapmifdglaehaaDoorAvD
set_option linter.unusedSimpArgs false
set_option linter.unusedVariables false
namespace Go.Proofs.YtaapmifdglaehaaDoor.Av
open Go Go.RowKit
theorem rc_ofF {w : World} {U : Nat → Nat} {ys : List Value} (h : ∀ v ∈ ys, v.oneCell' = true) : Rc w U ys (ys.map DV.fl) := by
  refine ⟨⟨by simp, fun j u d hu hdv => ?_⟩, h⟩
  simp only [List.getElem?_map, Option.map_eq_some_iff] at hdv
  obtain ⟨z', hz', rfl⟩ := hdv
  rw [hu] at hz'; cases hz'
  exact .fl _
section
variable {P : Program} {N : Nat} {w0 : World} {U0 : Nat → Nat}
theorem run_copy_cellsZ (w : World) (dT sT ty elem : TypeId) (b o dLen dCap : Nat) (a : Addr) (sLen sCap : Nat) (cs : List Value) {z : Nat}
    (hu : P.underlying dT = some (.slice elem)) (hs : (P.info? elem).map (·.size) = some z) (hn : cs.length = Nat.min sLen dLen * z)
    (hsrc : ∀ j v, cs[j]? = some v → w.cell? (a.add j) = some v) (hc : ∀ j, j < cs.length → (w.cell? ⟨b, o + j, none⟩).isSome = true) (hf : ∀ j, j < cs.length → w.frozen? ⟨b, o + j, none⟩ = false) (h1 : ∀ v ∈ cs, v.oneCell' = true) :
    (Builtin.copy_ #[dT, sT] ty #[.slice (some ⟨b, o, none⟩) dLen dCap, .slice (some a) sLen sCap]).run P w = .ok (goInt (Nat.min sLen dLen)) (w.setCells b o cs) := by
  have hl := run_loadCells_list (P := P) w a cs hsrc
  have hst := run_storeCells_cells (P := P) b o cs 0 w (by simpa using hc) (by simpa using hf) h1
  cases hq : P.info? elem with
  | none => simp [hq] at hs
  | some i =>
    have hi : i.size = z := by simpa [hq] using hs
    rw [hn] at hl
    simp [Builtin.copy_, run_underlying hu, Builtin.lenOf, Builtin.firstCells, sizeOf, typeInfo, hq, hi, hl, hst]
theorem run_copy_noneZ (w : World) (dT sT ty elem : TypeId) (d a : Option Addr) (dLen dCap sLen sCap : Nat) {z : Nat} (hu : P.underlying dT = some (.slice elem)) (hs : (P.info? elem).map (·.size) = some z) (hn : Nat.min sLen dLen = 0) :
    (Builtin.copy_ #[dT, sT] ty #[.slice d dLen dCap, .slice a sLen sCap]).run P w = .ok (goInt 0) w := by
  cases hq : P.info? elem with
  | none => simp [hq] at hs
  | some i =>
    have hl : ∀ (x : Addr), (loadCells x 0).run P w = .ok #[] w := fun x => by simpa using run_loadCells_list (P := P) w x [] (by simp)
    cases d <;> cases a <;> simp [Builtin.copy_, run_underlying hu, Builtin.lenOf, Builtin.firstCells, sizeOf, typeInfo, hq, hn, storeCells, hl]
theorem repF_get (z : List Value) : ∀ (n i : Nat), i < n * z.length → (List.replicate n z).flatten[i]? = z[i % z.length]?
  | 0, i, h => by simp at h
  | n + 1, i, h => by
    rw [List.replicate_succ, List.flatten_cons]
    by_cases hi : i < z.length
    · rw [List.getElem?_append_left hi, Nat.mod_eq_of_lt hi]
    · rw [List.getElem?_append_right (by omega), repF_get z n (i - z.length) (by rw [Nat.succ_mul] at h; omega), ← Nat.mod_eq_sub_mod (by omega)]
theorem madeL (z : Array Value) (c n : Nat) (h : n ≤ c) : (madeCells z (c * z.size)).toList.take (n * z.size) = (List.replicate n z.toList).flatten := by
  apply List.ext_getElem?
  intro j
  have hlen : (List.replicate n z.toList).flatten.length = n * z.size := by simp
  have hm := Nat.mul_le_mul_right z.size h
  rcases Nat.lt_or_ge j (n * z.size) with hj | hj
  · have hz : 0 < z.size := Nat.pos_of_ne_zero (fun e => by rw [e] at hj; simp at hj)
    have hmod : j % z.size < z.size := Nat.mod_lt _ hz
    rw [List.getElem?_take_of_lt hj, repF_get z.toList n j (by simpa using hj)]
    have hj' : j < c * z.size := by omega
    simp [madeCells, hj', hmod]
  · rw [List.getElem?_eq_none (by simp only [List.length_take, Array.length_toList, size_madeCells']; omega), List.getElem?_eq_none (by omega)]
/-- a row of structures, all zero -/
theorem op_makeS {o : Oper} {σ : AS} {t : TypeId} {x y : Operand} (m : Nat) (ho : o.op = .makeSlice t x y) {e : TypeId} {zv : Value} {sz b : Nat} (ht : P.underlying t = some (.slice e)) (hi : TI P e zv sz b) {k1 k2 : IntKind} {l c : Int} {n : Nat} (hx : σ.ev x = .d (.fl (.int k1 l))) (hy : σ.ev y = .d (.fl (.int k2 c))) (hn : l = (n : Int)) (h0 : l ≤ c) (hc : c ≤ 8796093022208) (hcb : (b : Int) * c ≤ 281474976710656)
    {α : Type} {enc : α → List DV} {z0 : α} (hz : enc z0 = zv.cells.toList.map DV.fl) (hs : zv.cells.size = sz) (h1 : ∀ v ∈ zv.cells.toList, v.oneCell' = true) (hd : dOk o N = true) :
    OpS P N w0 U0 o σ ⟨o.dst.map fun d => (d, .ow m), (m, .tr e sz (tD enc (List.replicate n z0))) :: ([] : List Nat).map (fun q => (q, Ob.no)), [], [m]⟩ := by
  obtain ⟨i, i1, i2, i3, i4⟩ := hi
  subst i4
  subst hn
  have hlen : ((List.replicate n z0).map enc).length = n := by simp
  refine op_rowNew (rows := (List.replicate n z0).map enc) m hd (fun r hr => by
    obtain ⟨x, hx', rfl⟩ := List.mem_map.1 hr
    rw [List.eq_of_mem_replicate hx', hz]; simpa using hs) fun σ' hok a w F hF hst => ?_
  have h1' := flat_val (ev_get hok hF (x := x) (by simp [ho, Op.operands]) hx)
  have h2 := flat_val (ev_get hok hF (x := y) (by simp [ho, Op.operands]) hy)
  have hr := run_make (P := P) w t e i zv ht i1 i2 k1 k2 (n : Int) c (by omega) h0 hcb (by omega)
  rw [hlen]
  refine ⟨c.toNat, madeCells zv.cells (c.toNat * i.size), ?_, by omega, by unfold maxLen; omega, by rw [size_madeCells', i3], ?_⟩
  · unfold execOp
    simp only [ho, h1', h2, Sem.run_bind, hr, Result.andThen_ok, Sem.run_pure]
    rfl
  · rw [i3, ← hs, madeL zv.cells c.toNat n (by omega)]
    have e1 : ((List.replicate n z0).map enc).flatten = ((List.replicate n zv.cells.toList).flatten).map DV.fl := by
      rw [List.map_replicate, hz, List.map_flatten, List.map_replicate]
    rw [e1]
    exact rc_ofF (fun v hv => by
      obtain ⟨q, hq, hv⟩ := List.mem_flatten.1 hv
      rw [List.eq_of_mem_replicate hq] at hv
      exact h1 v hv)
theorem enc_sum {α : Type} {enc : α → List DV} {z : Nat} (henc : ∀ a, (enc a).length = z) : ∀ l : List α, (l.map enc).flatten.length = l.length * z
  | [] => by simp
  | a :: l => by
    rw [List.map_cons, List.flatten_cons, List.length_append, henc, enc_sum henc l, List.length_cons, Nat.succ_mul]; omega
/-- what copy does to a row of structures -/
theorem op_copyS {o : Oper} {σ : AS} {t t' e : TypeId} {s x : Operand} (ho : o.op = .call { callee := .builtin .copy, args := #[s, x], argTypes := #[t, t'] })
    (ht : P.underlying t = some (.slice e)) {z : Nat} {zv : Value} {bb : Nat} (hi : TI P e zv z bb) (hz0 : 0 < z) {m : Nat} {α : Type} {enc : α → List DV} (henc : ∀ a, (enc a).length = z) {A B : List α} {rn : List Nat} {av : AV} (hs : σ.ev s = .ow m) (hm : σ.n m = .tr e z (tD enc A)) (hx : σ.ev x = av) (hxv : AvD σ av (.sl z (B.map enc)) rn) (hl : B.length ≤ A.length) (hd : dOk o N = true) :
    OpS P N w0 U0 o σ ⟨o.dst.map fun d => (d, .d (.fl (.int .i64 B.length))), [(m, .tr e z (tD enc (B ++ A.drop B.length)))], m :: rn, []⟩ := by
  obtain ⟨i, i1, i2, i3, i4⟩ := hi
  intro σ' hok a w hst K Q hK
  obtain ⟨F, hF⟩ := hst.f
  have hv0 : a.eval s = F.γ m := ev_get hok hF (x := s) (by simp [ho, Op.operands, Call.operands]) hs
  have hvx : Rd w F.U (a.eval x) (.sl z (B.map enc)) := hxv.get hF (fun q hq => hok.n q (by simp [hq])) (ev_get hok hF (x := x) (by simp [ho, Op.operands, Call.operands]) hx)
  have hm' : σ'.n m = .tr e z (tD enc A) := by rw [hok.n m (by simp)]; exact hm
  have hob := hF.n m
  rw [hm'] at hob
  obtain ⟨xs, T, g1, g2, g3, g4, g5⟩ := hob
  have htf : ∀ l : List α, (tD enc l).flatten = (l.map enc).flatten.map OC.dv := fun l => by unfold tD; rw [flat_map_dv]
  rw [htf] at g2
  obtain ⟨hrc, hno⟩ := Tcs.noDv g2
  rw [tD_len] at g1
  have hinfo : (P.info? e).map (·.size) = some z := by rw [i1]; simp [i3]
  have hrun : ∀ n w', (Builtin.copy_ #[t, t'] o.type #[a.eval s, a.eval x]).run P w = .ok (goInt n) w' → (execOp a.eval o).run P w = .ok (.value (goInt n)) w' := by
    intro n w' hr
    unfold execOp
    simp only [ho, resolve, invoke, builtin, Sem.run_bind, Sem.run_pure, Result.andThen_ok, List.map_toArray, List.map_cons, List.map_nil, hr]
  rw [hv0] at hrun
  have hfin : ∀ (w' : World) (ys : List Value), Below w0.heap.size w w' → (∀ b, b < w.heap.size → (F.γ m).ownBlock ≠ some b → w'.heap[b]? = w.heap[b]?) → w'.heap.size = w.heap.size → w'.os = w.os → w'.tape = w.tape → w'.output = w.output → w'.ownsRow w0.heap.size e z (F.γ m) A.length ys → Rc w' F.U ys ((B ++ A.drop B.length).map enc).flatten → K (a.put o.dst (goInt B.length)) w' := by
    intro w' ys hB h2 h3 ho1 ho2 ho3 h6 h7
    have hll : (B ++ A.drop B.length).length = A.length := by simp; omega
    refine hK _ _ (callM_fit (o := o) (k := .r) (r := .d (.fl (.int .i64 B.length))) (U' := F.U) (S' := F.S m) m hst hF hm' rfl rfl hd ⟨ho1, ho2, ho3, Nat.zero_le _, fun b hb => by omega⟩ (fun b hb hS => ⟨h2 b hb (fun h => hS ((g5 b).2 (.inl h))), rfl⟩) (fun b hb => .inl hb) ?_ (.fl _) (m :: rn))
    refine ⟨ys, fun _ _ => False, ?_, ?_, fun r hr => ?_, fun b hb => ⟨(g4 b hb).1, fun _ h => h⟩, fun b => ?_⟩
    · show w'.ownsRow 0 e z (F.γ m) (tD enc _).length ys
      rw [tD_len, hll]
      exact Rc.base h6 (Nat.zero_le _)
    · rw [htf]
      exact Tcs.ofRc h7
    · obtain ⟨y, hy, rfl⟩ := List.mem_map.1 hr
      obtain ⟨q, _, rfl⟩ := List.mem_map.1 hy
      simpa using henc q
    · show F.S m b ↔ _
      rw [g5 b]
      exact ⟨fun h => h.elim .inl (fun ⟨q, hq⟩ => absurd hq (hno q b)), fun h => h.elim .inl (fun ⟨_, h⟩ => h.elim)⟩
  unfold Oper.wp
  by_cases hl0 : B = []
  · subst hl0
    obtain ⟨As, cs, hvs⟩ : ∃ A c, a.eval x = .slice A 0 c := by
      generalize a.eval x = v at hvx
      cases hvx with
      | sn A c z => exact ⟨A, c, rfl⟩
      | sl b off n c z rows u hn => exact ⟨_, c, by rw [← hn]; rfl⟩
    obtain ⟨Ad, cd, hvd⟩ : ∃ A' c, F.γ m = .slice A' A.length c := by
      rcases g1.2 with ⟨e0, e00⟩ | ⟨g0, cap, cur, e1, _⟩
      · exact ⟨none, 0, by rw [e0, e00]⟩
      · exact ⟨_, cap, e1⟩
    have hr := run_copy_noneZ (P := P) w t t' o.type e Ad As A.length cd 0 cs ht hinfo (by simp)
    rw [← hvs, ← hvd] at hr
    rw [hrun _ _ hr]
    exact hfin w xs (Below.refl _ _) (fun _ _ _ => rfl) rfl rfl rfl rfl g1 (by simpa using hrc)
  · have hpos : 0 < B.length := List.length_pos_iff.2 hl0
    obtain ⟨ba, off, cs, hvs, news, n1, n2, n3⟩ : ∃ b off c, a.eval x = .slice (some ⟨b, off, none⟩) B.length c ∧ ∃ news : List Value, news.length = B.length * z ∧ (∀ j u, news[j]? = some u → w.cell? ((⟨b, off, none⟩ : Addr).add j) = some u) ∧ Rc w F.U news ((B.map enc).flatten) := by
      obtain ⟨R, hR⟩ : ∃ R, R = B.map enc := ⟨_, rfl⟩
      rw [← hR] at hvx
      generalize a.eval x = v at hvx
      cases hvx with
      | sn A c z => exact absurd (List.map_eq_nil_iff.1 hR.symm) hl0
      | sl b off n c z rows u hn hzz hmm hcell hrr =>
        subst hR
        have hr' : Rd w F.U (.slice (some ⟨b, off, none⟩) n c) (.sl z (B.map enc)) := .sl b off n c z _ u hn hzz hmm hcell hrr
        obtain ⟨news, q1, q2, q3, q4, q5⟩ := rows_cells hr' (fun e => hl0 (by simpa using e)) hz0
        rw [List.length_map] at hn
        exact ⟨b, off, c, by rw [hn], news, by rw [q1, hn], q4, q5⟩
    rcases g1.2 with ⟨_, e00⟩ | ⟨g, cap, cur, e1, e2, e3, e4, e5, e6, e7⟩
    · omega
    have hmin : Nat.min B.length A.length = B.length := Nat.min_eq_left hl
    have hxl : xs.length = A.length * z := g1.1
    have hBA : B.length * z ≤ A.length * z := Nat.mul_le_mul_right z hl
    have hcl : ∀ j, j < A.length * z → w.cell? ⟨g, 0 + j, none⟩ = xs[j]? := fun j hj => by
      rw [Nat.zero_add, cell_of_row w g j cur e (0, 0) e3]
      have := take_get e7 (k := j) (by omega)
      simpa using this
    have hr := run_copy_cellsZ (P := P) w t t' o.type e g 0 A.length cap ⟨ba, off, none⟩ B.length cs news ht hinfo (by rw [hmin]; exact n1) n2
      (fun j hj => by
        rw [hcl j (by omega), List.getElem?_eq_getElem (by omega)]; rfl)
      (fun j hj => by rw [Nat.zero_add]; exact frozen_of_row w g j cur e e3) n3.2
    rw [hmin, ← e1, ← hvs] at hr
    rw [hrun _ _ hr]
    obtain ⟨cur', c1, c2⟩ := heap_setCells_at news 0 w cur e3
    have hcells : ∀ k (hk : k < news.length), cur'[k]? = some news[k] := by
      intro j hj
      have := World.cell?_setCells_in g news 0 w (fun q hq => by
        rw [hcl q (by omega), List.getElem?_eq_getElem (by omega)]; rfl) j hj
      rw [Nat.zero_add, cell_of_row _ g j cur' e (0, 0) c1] at this
      exact this
    have hrest : ∀ q, news.length ≤ q → cur'[q]? = cur[q]? := by
      intro q hq
      have := World.cell?_setCells_out g news 0 w ⟨g, q, none⟩ (fun _ _ => Or.inr (by show 0 + news.length ≤ q; omega))
      rw [cell_of_row _ g q cur' e (0, 0) c1, cell_of_row w g q cur e (0, 0) e3] at this
      exact this
    have hB := Lib.below_setCells_w (B := w0.heap.size) e2 news 0 w
    have hE : Ext w F.U (w.setCells g 0 news) F.U := by
      refine ⟨fun b off u hcl' ho' => ?_, fun r es c hr hu => ?_⟩
      · have hb : b ≠ g := fun h => by
          have := (g4 b (by rw [e1, h]; rfl)).1; omega
        exact ⟨(World.cell?_of_block (World.heap_setCells_other w g 0 news (World.block_lt_of_cell? w _ hcl') hb)).trans hcl', ho'⟩
      · have hb : r ≠ g := fun h => by
          have := (g4 r (by rw [e1, h]; rfl)).1; omega
        exact ⟨World.heap_setCells_other w g 0 news ((Array.getElem?_eq_some_iff.1 hr).1) hb, rfl⟩
    have hlast : (news ++ xs.drop news.length).length = A.length * z := by simp; omega
    refine hfin _ (news ++ xs.drop news.length) hB (fun b hb hne => World.heap_setCells_other w g 0 news hb (fun h => hne (by rw [e1, h]; rfl))) (setCells_sz g news 0 w) hB.os hB.tape hB.output ?_ ?_
    · refine ⟨hlast, .inr ⟨g, cap, cur', e1, e2, c1, e4, e5, by rw [c2, e6], ?_⟩⟩
      apply List.ext_getElem?
      intro j
      have hcs : cur'.size = cap * z := by rw [c2, e6]
      rcases Nat.lt_or_ge j (A.length * z) with hj | hj
      · rw [List.getElem?_take_of_lt hj]
        rcases Nat.lt_or_ge j news.length with hj' | hj'
        · rw [Array.getElem?_toList, hcells j hj', List.getElem?_append_left hj', List.getElem?_eq_getElem hj']
        · rw [Array.getElem?_toList, hrest j hj', List.getElem?_append_right hj', List.getElem?_drop, show news.length + (j - news.length) = j by omega]
          have := take_get e7 (k := j) (by omega)
          rw [Array.getElem?_toList] at this
          exact this
      · rw [List.getElem?_eq_none (by simp; omega), List.getElem?_eq_none (by omega)]
    · have hsp := (hrc.ext hE).splice (n3.ext hE) 0
      have hnl : ((B.map enc).flatten).length = news.length := by rw [enc_sum henc, n1]
      have e8 : ((B ++ A.drop B.length).map enc).flatten = (B.map enc).flatten ++ ((A.map enc).flatten).drop ((B.map enc).flatten).length := by
        rw [List.map_append, List.flatten_append]
        congr 1
        have e9 : (A.map enc).flatten = ((A.take B.length).map enc).flatten ++ ((A.drop B.length).map enc).flatten := by
          rw [← List.flatten_append, ← List.map_append, List.take_append_drop]
        rw [e9]
        exact (List.drop_left' (by rw [enc_sum henc, enc_sum henc, List.length_take, Nat.min_eq_left hl])).symm
      rw [e8]
      simpa using hsp
end
end Go.Proofs.YtaapmifdglaehaaDoor.Av
