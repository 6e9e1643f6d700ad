/- Loads, stores, appends at own rows; contracts whose result is the caller's own. Conditions: as each theorem names them. -/
import Derived.Test.YteplcjhnmmpicaaAv11
set_option linter.unusedSimpArgs false
set_option linter.unusedVariables false
namespace Go.Proofs.Yteplcjhnmmpicaa.Av
open Go Go.RowKit
section
variable {P : Program} {N : Nat} {w0 : World} {U0 : Nat → Nat}
theorem take_get {α : Type} {cur xs : List α} {n : Nat} (h : cur.take n = xs) {k : Nat} (hk : k < n) : cur[k]? = xs[k]? := by rw [← h, List.getElem?_take_of_lt hk]
theorem op_load_pe {o : Oper} {σ : AS} {t : TypeId} {x : Operand} (ho : o.op = .load t x) {d : TypeDesc} (hu : P.underlying t = some d) (ha : aggD d = false) {m z i j : Nat} (hx : σ.ev x = .pe m z i j) {e : TypeId} {rows : List (List OC)} (hm : σ.n m = .tr e z rows) {r : List OC} (hr : rows[i]? = some r) {v : DV} (hv : r[j]? = some (.dv v)) (hd : dOk o N = true) : OpS P N w0 U0 o σ ⟨o.dst.map fun d => (d, .d v), [], [m], []⟩ :=
  opS_still (P := P) (av := .d v) hd fun σ' hok a w F hF => by
    obtain ⟨g, h1, h2⟩ := ev_get hok hF (x := x) (by simp [ho, Op.operands]) hx
    have hm' : σ'.n m = .tr e z rows := by rw [hok.n m (by simp)]; exact hm
    have hlt := (List.getElem?_eq_some_iff.1 hr).1
    obtain ⟨g', cap, cur, xs, T, k1, _, k3, _, _, k6, k7, k8, k9, _, _, _⟩ := tr_block hF hm' (by omega)
    rw [k1] at h1
    have hg : g' = g := by simpa [Value.ownBlock] using h1
    subst hg
    obtain ⟨f1, f2⟩ := flat_get k9 hr hv
    have hk : i * z + j < xs.length := by rw [k8.l]; exact (List.getElem?_eq_some_iff.1 f1).1
    obtain ⟨u, hu'⟩ : ∃ u, xs[i * z + j]? = some u := ⟨_, List.getElem?_eq_getElem hk⟩
    have hc : w.cell? ⟨g', i * z + j, none⟩ = some u := by
      rw [cell_of_row w g' _ cur e (0, 0) k3]
      have := take_get k6 (k := i * z + j) f2
      rw [hu'] at this
      simpa using this
    refine ⟨u, ?_, (k8.c _ u _ hu' f1).1⟩
    simp [execOp, ho, h2, Instr.loadAt, Instr.sureAddr, run_load_one hu ha hc]
theorem op_load_pes {o : Oper} {σ : AS} {t : TypeId} {x : Operand} (ho : o.op = .load t x) {d : TypeDesc} (hu : P.underlying t = some d) (ha : aggD d = true) {zv : Value} {sz b : Nat} (hi : TI P t zv sz b) {m z i j : Nat} (hx : σ.ev x = .pe m z i j) {e : TypeId} {rows : List (List OC)} (hm : σ.n m = .tr e z rows) {r : List OC} (hr : rows[i]? = some r) {ds : List DV} (hv : (r.drop j).take sz = ds.map .dv) (hl : Nat.beq ds.length sz = true) (hd : dOk o N = true) : OpS P N w0 U0 o σ ⟨o.dst.map fun d => (d, .d (.ag ds)), [], [m], []⟩ :=
  opS_still (P := P) (av := .d (.ag ds)) hd fun σ' hok a w F hF => by
    obtain ⟨ti, t1, _, t3, _⟩ := hi
    subst t3
    have hl' := Nat.eq_of_beq_eq_true hl
    obtain ⟨g, h1, h2⟩ := ev_get hok hF (x := x) (by simp [ho, Op.operands]) hx
    have hm' : σ'.n m = .tr e z rows := by rw [hok.n m (by simp)]; exact hm
    have hlt := (List.getElem?_eq_some_iff.1 hr).1
    obtain ⟨g', cap, cur, xs, T, k1, _, k3, _, _, k6, k7, k8, k9, _, _, _⟩ := tr_block hF hm' (by omega)
    rw [k1] at h1
    have hg : g' = g := by simpa [Value.ownBlock] using h1
    subst hg
    obtain ⟨us, q1, q2⟩ := choose_list (p := fun q u => w.cell? ⟨g', i * z + j + q, none⟩ = some u ∧ u.oneCell' = true ∧ ∀ y, ds[q]? = some y → Rd w F.U u y) ti.size (fun q hq => by
      obtain ⟨y, hy⟩ : ∃ y, ds[q]? = some y := ⟨_, List.getElem?_eq_getElem (by omega)⟩
      have hry : r[j + q]? = some (.dv y) := by
        have : ((r.drop j).take ti.size)[q]? = some (.dv y) := by rw [hv, List.getElem?_map, hy]; rfl
        rw [List.getElem?_take_of_lt hq, List.getElem?_drop] at this
        exact this
      obtain ⟨f1, f2⟩ := flat_get k9 hr hry
      rw [← Nat.add_assoc] at f1 f2
      have hk : i * z + j + q < xs.length := by rw [k8.l]; exact (List.getElem?_eq_some_iff.1 f1).1
      obtain ⟨u, hu'⟩ : ∃ u, xs[i * z + j + q]? = some u := ⟨_, List.getElem?_eq_getElem hk⟩
      refine ⟨u, ?_, k8.o u (List.mem_of_getElem? hu'), fun y' hy' => ?_⟩
      · rw [cell_of_row w g' _ cur e (0, 0) k3]
        have := take_get k6 (k := i * z + j + q) f2
        rw [hu'] at this
        simpa using this
      · rw [hy] at hy'
        injection hy' with hy'
        subst hy'
        exact (k8.c _ u _ hu' f1).1)
    refine ⟨.agg us.toArray, ?_, .ag _ _ (by simp; omega) (fun u hu => ?_) (fun q u y hu hy => (q2 q u (by simpa using hu)).2.2 y hy)⟩
    · simp [execOp, ho, h2, Instr.loadAt, Instr.sureAddr, run_load_many hu ha t1 q1 (fun q u hu => (q2 q u hu).1)]
    · obtain ⟨q, hq⟩ := List.mem_iff_getElem?.1 hu
      exact (q2 q u (by simpa using hq)).2.1
theorem op_len_tr {o : Oper} {σ : AS} {t e : TypeId} {x : Operand} (ho : o.op = .call { callee := .builtin .len, args := #[x], argTypes := #[t] }) (hu : P.underlying t = some (.slice e)) {m : Nat} {e' : TypeId} {z : Nat} {rows : List (List OC)} (hx : σ.ev x = .ow m) (hm : σ.n m = .tr e' z rows) {n : Nat} (hn : rows.length = n) (hd : dOk o N = true) : OpS P N w0 U0 o σ ⟨o.dst.map fun d => (d, .d (.fl (.int .i64 n))), [], [m], []⟩ :=
  opS_still (P := P) (av := .d (.fl (.int .i64 n))) hd fun σ' hok a w F hF => by
    have hm' : σ'.n m = .tr e' z rows := by rw [hok.n m (by simp)]; exact hm
    have hv : a.eval x = F.γ m := ev_get hok hF (x := x) (by simp [ho, Op.operands, Call.operands]) hx
    obtain ⟨A, c, hav⟩ : ∃ A c, F.γ m = .slice A rows.length c := by
      have := hF.n m
      rw [hm'] at this
      obtain ⟨xs, T, g1, _⟩ := this
      rcases g1.2 with ⟨h0, h00⟩ | ⟨g, cap, cur, h1, _⟩
      · exact ⟨none, 0, by rw [h0, h00]⟩
      · exact ⟨_, cap, h1⟩
    subst hn
    exact ⟨_, by simp [execOp, ho, resolve, invoke, builtin, Builtin.len_, hv, hav, run_underlying hu, goInt], .fl _⟩
/-- an own row out of an own row -/
theorem op_take {o : Oper} {σ : AS} {t : TypeId} {x : Operand} (m3 : Nat) (ho : o.op = .load t x) {d : TypeDesc} (hu : P.underlying t = some d) (ha : aggD d = false) {m z i j : Nat} (hx : σ.ev x = .pe m z i j) {e : TypeId} {rows : List (List OC)} (hm : σ.n m = .tr e z rows) {r : List OC} (hr : rows[i]? = some r) {e2 z2 : Nat} {rows2 : List (List DV)} (hv : r[j]? = some (.ow e2 z2 rows2)) (hne : Nat.beq m3 m = false) (hd : dOk o N = true) :
    OpS P N w0 U0 o σ ⟨o.dst.map fun d => (d, .ow m3), [(m3, .tr e2 z2 (rows2.map (·.map .dv))), (m, .tr e z (rows.set i (r.take j ++ [.un] ++ r.drop (j + 1))))], [m], [m3]⟩ := by
  intro σ' hok a w hs K Q hK
  obtain ⟨F, hF⟩ := hs.f
  obtain ⟨g, h1, h2⟩ := ev_get hok hF (x := x) (by simp [ho, Op.operands]) hx
  have hm' : σ'.n m = .tr e z rows := by rw [hok.n m (by simp)]; exact hm
  have hlt := (List.getElem?_eq_some_iff.1 hr).1
  have hjl := (List.getElem?_eq_some_iff.1 hv).1
  obtain ⟨g', cap, cur, xs, T, k1, kB, k3, k4, k5, k6, k7, k8, k9, kU, kT, kS⟩ := tr_block hF hm' (by omega)
  have hγ : (F.γ m).ownBlock = some g' := by rw [k1]; rfl
  rw [hγ] at h1
  have hg : g' = g := by simpa using h1
  subst hg
  have hrz := k9 r (List.mem_of_getElem? hr)
  obtain ⟨f1, f2⟩ := flat_get k9 hr hv
  have hk : i * z + j < xs.length := by rw [k8.l]; exact (List.getElem?_eq_some_iff.1 f1).1
  obtain ⟨u, hu'⟩ : ∃ u, xs[i * z + j]? = some u := ⟨_, List.getElem?_eq_getElem hk⟩
  have hc : w.cell? ⟨g', i * z + j, none⟩ = some u := by
    rw [cell_of_row w g' _ cur e (0, 0) k3]
    have := take_get k6 (k := i * z + j) f2
    rw [hu'] at this
    simpa using this
  obtain ⟨ys, y1, y2, y3, y4, y5⟩ := k8.c _ u _ hu' f1
  have hfr : fresh σ' m3 := hok.f m3 (by simp)
  have hmm : m ≠ m3 := fun h => by rw [h, Nat.beq_refl] at hne; cases hne
  have hlive : (σ'.n m).live = true := by rw [hm']; rfl
  have hrun : (execOp a.eval o).run P w = .ok (.value u) w := by simp [execOp, ho, h2, Instr.loadAt, Instr.sureAddr, run_load_one hu ha hc]
  have hfl := flat_splice k9 (j := j) (ds := [OC.un]) hr (by simp; omega)
  simp only [List.length_singleton] at hfl
  obtain ⟨F', hF'⟩ : ∃ F' : Fr, F' = ⟨fun k => if k = m3 then none else F.β k, fun k => if k = m3 then u else F.γ k, F.U, fun k b => if k = m3 then T (i * z + j) b else if k = m then (b = g' ∨ ∃ q, q ≠ i * z + j ∧ T q b) else F.S k b⟩ := ⟨_, rfl⟩
  have hβ3 : F'.γ m3 = u := by rw [hF']; exact if_pos rfl
  have hγm : F'.γ m = F.γ m := by rw [hF']; exact if_neg hmm
  have hU : F'.U = F.U := by rw [hF']
  have hS3 : ∀ b, F'.S m3 b ↔ T (i * z + j) b := fun b => by rw [hF']; show (if m3 = m3 then _ else _) ↔ _; rw [if_pos rfl]
  have hSm : ∀ b, F'.S m b ↔ (b = g' ∨ ∃ q, q ≠ i * z + j ∧ T q b) := fun b => by rw [hF']; show (if m = m3 then _ else if m = m then _ else _) ↔ _; rw [if_neg hmm, if_pos rfl]
  have hSk : ∀ k, k ≠ m3 → k ≠ m → ∀ b, F'.S k b ↔ F.S k b := fun k a1 a2 b => by rw [hF']; show (if k = m3 then _ else if k = m then _ else _) ↔ _; rw [if_neg a1, if_neg a2]
  have hnw : ∀ k, nwGet [(m3, Ob.tr e2 z2 (rows2.map (·.map OC.dv))), (m, Ob.tr e z (rows.set i (r.take j ++ [OC.un] ++ r.drop (j + 1))))] k = if k = m3 then some (.tr e2 z2 (rows2.map (·.map OC.dv))) else if k = m then some (.tr e z (rows.set i (r.take j ++ [OC.un] ++ r.drop (j + 1)))) else none := by
    intro k
    unfold nwGet
    by_cases a1 : k = m3
    · subst a1; rw [Nat.beq_refl, if_pos rfl]; rfl
    · rw [nbeq (Ne.symm a1), if_neg a1]
      unfold nwGet
      by_cases a2 : k = m
      · subst a2; rw [Nat.beq_refl, if_pos rfl]; rfl
      · rw [nbeq (Ne.symm a2), if_neg a2]; rfl
  have hsub : ∀ b, T (i * z + j) b → F.S m b := fun b hb => (kS b).2 (.inr ⟨_, hb⟩)
  have hb := hF.big (F' := F') (w' := w) (tw := o.dst.map fun d => (d, .ow m3)) (nw := [(m3, .tr e2 z2 (rows2.map (·.map .dv))), (m, .tr e z (rows.set i (r.take j ++ [.un] ++ r.drop (j + 1))))]) (by rw [hU]; exact Ext.rfl) (fun b _ => by rw [hU])
    (fun k hk => by
      rw [hnw] at hk
      have a1 : k ≠ m3 := fun h => by rw [if_pos h] at hk; cases hk
      rw [if_neg a1] at hk
      have a2 : k ≠ m := fun h => by rw [if_pos h] at hk; cases hk
      exact ⟨by rw [hF']; exact if_neg a1, by rw [hF']; exact if_neg a1, hSk k a1 a2⟩)
    (fun k hk => by
      rw [hnw] at hk
      by_cases a1 : k = m3
      · right; rw [a1]; exact hfr
      · left; exact ⟨by rw [hF']; exact if_neg a1, by rw [hF']; exact if_neg a1⟩)
    (fun k hl hk b hb hlt => ⟨rfl, by rw [hU]⟩)
    (fun k ob hk => by
      rw [hnw] at hk
      by_cases a1 : k = m3
      · rw [if_pos a1] at hk
        injection hk with hk
        subst hk a1
        refine ⟨ys, fun _ _ => False, by rw [hβ3, List.length_map]; exact y1, by rw [flat_map_dv, hU]; exact Tcs.ofRc y2, fun r' hr' => ?_, fun b hb => ⟨?_, fun _ => id⟩, fun b => ?_⟩
        · obtain ⟨r'', h3, rfl⟩ := List.mem_map.1 hr'
          simpa using y3 r'' h3
        · rw [hU]; rw [hβ3] at hb; exact y5 b hb
        · rw [hS3, hβ3, y4 b]
          exact ⟨.inl, fun h => h.elim id (fun ⟨_, h⟩ => h.elim)⟩
      · rw [if_neg a1] at hk
        by_cases a2 : k = m
        · rw [if_pos a2] at hk
          injection hk with hk
          subst hk a2
          refine ⟨xs, fun q b => q ≠ i * z + j ∧ T q b, by rw [hγm, List.length_set]; exact k7, ?_, fun r' hr' => ?_, fun b hb => ?_, fun b => ?_⟩
          · rw [hfl, hU]
            have hcl := k8.l
            have hcs : ∀ q, (rows.flatten.take (i * z + j) ++ [OC.un] ++ rows.flatten.drop (i * z + j + 1))[q]? = if q = i * z + j then some .un else rows.flatten[q]? := by
              intro q
              rcases Nat.lt_trichotomy q (i * z + j) with hq | hq | hq
              · rw [if_neg (by omega), List.append_assoc, List.getElem?_append_left (by simp [-List.length_flatten]; omega), List.getElem?_take_of_lt hq]
              · subst hq
                rw [if_pos rfl, List.append_assoc, List.getElem?_append_right (by simp [-List.length_flatten]; omega)]
                simp [-List.length_flatten]
                rw [Nat.min_eq_left (by omega)]
                simp
              · rw [if_neg (by omega), List.getElem?_append_right (by simp [-List.length_flatten]; omega), List.getElem?_drop]
                congr 1
                simp [-List.length_flatten]
                omega
            refine ⟨by simp [-List.length_flatten]; omega, fun q v c hv' hc' => ?_, k8.o, fun q q' b h1 h2 => k8.d q q' b h1.2 h2.2, fun q b h1 => k8.b q b h1.2⟩
            rw [hcs] at hc'
            by_cases hq : q = i * z + j
            · rw [if_pos hq] at hc'
              injection hc' with hc'
              subst hc'
              exact fun b hb => hb.1 hq
            · rw [if_neg hq] at hc'
              have := k8.c q v c hv' hc'
              have e1 : (fun b => q ≠ i * z + j ∧ T q b) = T q := by funext b; exact propext ⟨fun h => h.2, fun h => ⟨hq, h⟩⟩
              rw [e1]
              exact this
          · rcases List.mem_or_eq_of_mem_set hr' with h3 | h3
            · exact k9 r' h3
            · rw [h3]; simp; omega
          · rw [hγm] at hb
            rw [hγ] at hb
            injection hb with hb
            subst hb
            exact ⟨by rw [hU]; exact kU, fun q h => kT q h.2⟩
          · rw [hSm, hγm, hγ]
            constructor
            · rintro (h | ⟨q, h3, h4⟩)
              · exact .inl (by rw [h])
              · exact .inr ⟨q, h3, h4⟩
            · rintro (h | ⟨q, h3, h4⟩)
              · injection h with h; exact .inl h.symm
              · exact .inr ⟨q, h3, h4⟩
        · rw [if_neg a2] at hk; cases hk)
    (fun k ob k' b hk hl hk' hl' hb hb' => by
      have hS : F.S m b := by
        rw [hnw] at hk
        by_cases a1 : k = m3
        · subst a1; exact hsub b ((hS3 b).1 hb)
        · rw [if_neg a1] at hk
          by_cases a2 : k = m
          · subst a2
            rcases (hSm b).1 hb with h | ⟨q, _, h⟩
            · exact (kS b).2 (.inl h)
            · exact (kS b).2 (.inr ⟨q, h⟩)
          · rw [if_neg a2] at hk; cases hk
      have := hF.i m k' b hlive hl' hS hb'
      rw [hnw] at hk'
      subst this
      rw [if_neg hmm, if_pos rfl] at hk'
      cases hk')
    (fun k ob k' ob' b hk hl hk' hl' hb hb' => by
      rw [hnw] at hk hk'
      have no : ∀ b, T (i * z + j) b → (b = g' ∨ ∃ q, q ≠ i * z + j ∧ T q b) → False := fun b h3 h4 => by
        rcases h4 with h4 | ⟨q, h4, h5⟩
        · subst h4; exact kT _ h3
        · exact h4 (k8.d q _ b h5 h3)
      by_cases a1 : k = m3
      · by_cases a1' : k' = m3
        · rw [a1, a1']
        · rw [if_neg a1'] at hk'
          by_cases a2' : k' = m
          · subst a1 a2'; exact (no b ((hS3 b).1 hb) ((hSm b).1 hb')).elim
          · rw [if_neg a2'] at hk'; cases hk'
      · rw [if_neg a1] at hk
        by_cases a2 : k = m
        · by_cases a1' : k' = m3
          · subst a2 a1'; exact (no b ((hS3 b).1 hb') ((hSm b).1 hb)).elim
          · rw [if_neg a1'] at hk'
            by_cases a2' : k' = m
            · rw [a2, a2']
            · rw [if_neg a2'] at hk'; cases hk'
        · rw [if_neg a2] at hk; cases hk)
    (a' := a.put o.dst u) (hta_put hd hs.s (.ow m3) u).1 (fun d v h => by
      obtain ⟨rfl, h3⟩ := (hta_put hd hs.s (.ow m3) u).2 d v h
      rw [h3]
      exact hβ3.symm) [m] [m3]
  unfold Oper.wp
  rw [hrun]
  exact hK _ _ ⟨by rw [put_defers]; exact hs.d, by rw [put_size]; exact hs.s, hs.b, _, hb⟩
/-- a store into an own row -/
theorem op_store_pe {o : Oper} {σ : AS} {t : TypeId} {x y : Operand} (ho : o.op = .store t x y) (hdn : o.dst = none) {zv : Value} {sz bb : Nat} (hi : TI P t zv sz bb) {m z i j : Nat} (hx : σ.ev x = .pe m z i j) {e : TypeId} {rows : List (List OC)} (hm : σ.n m = .tr e z rows) {r : List OC} (hr : rows[i]? = some r) {av : AV} (hy : σ.ev y = av) {ds : List OC} {kill : Option Nat} (hsrc : SrcS σ av ds kill)
    (hkm : (match kill with | some q => Nat.beq q m | none => false) = false) (hl : Nat.beq ds.length sz = true) (hj : Nat.ble (j + sz) z = true) :
    OpS P N w0 U0 o σ ⟨none, (m, .tr e z (rows.set i (r.take j ++ ds ++ r.drop (j + ds.length)))) :: kill.toList.map (fun q => (q, Ob.no)), m :: kill.toList, []⟩ := by
  intro σ' hok a w hs K Q hK
  obtain ⟨F, hF⟩ := hs.f
  obtain ⟨ti, t1, _, t3, _⟩ := hi
  subst t3
  have hl' := Nat.eq_of_beq_eq_true hl
  have hj' := Nat.le_of_ble_eq_true hj
  obtain ⟨g, h1, h2⟩ := ev_get hok hF (x := x) (by simp [ho, Op.operands]) hx
  have hvy := ev_get hok hF (x := y) (by simp [ho, Op.operands]) hy
  obtain ⟨T2, s1, s2⟩ := hsrc.get hF (fun q hq => hok.n q (by simp [hq])) hvy
  have hm' : σ'.n m = .tr e z rows := by rw [hok.n m (by simp)]; exact hm
  have hlt := (List.getElem?_eq_some_iff.1 hr).1
  obtain ⟨g', cap, cur, xs, T, k1, kB, k3, k4, k5, k6, k7, k8, k9, kU, kT, kS⟩ := tr_block hF hm' (by omega)
  have hγ : (F.γ m).ownBlock = some g' := by rw [k1]; rfl
  rw [hγ] at h1
  have hg : g' = g := by simpa using h1
  subst hg
  have hrz := k9 r (List.mem_of_getElem? hr)
  have hlive : (σ'.n m).live = true := by rw [hm']; rfl
  have hkm' : ∀ q, kill = some q → q ≠ m := fun q hq h => by subst hq; subst h; simp at hkm
  have hcl : (a.eval y).cells.toList.length = ti.size := by rw [s1.l, hl']
  have hcl2 : (a.eval y).cells.size = ti.size := by simpa using hcl
  have hfit : i * z + j + ti.size ≤ rows.length * z := by
    have : (i + 1) * z ≤ rows.length * z := Nat.mul_le_mul_right z hlt
    rw [Nat.succ_mul] at this
    omega
  have hcapz : rows.length * z ≤ cap * z := Nat.mul_le_mul_right z k4
  have hxl : xs.length = rows.length * z := by rw [← k6]; simp; omega
  obtain ⟨cur', hcur'⟩ : ∃ cur' : Array Value, cur' = (cur.toList.take (i * z + j + 0) ++ (a.eval y).cells.toList ++ cur.toList.drop (i * z + j + 0 + (a.eval y).cells.toList.length)).toArray := ⟨_, rfl⟩
  have hst := run_storeCells_at (P := P) g' (i * z + j) e (a.eval y).cells.toList 0 cur w k3 (by omega) s1.o
  rw [← hcur'] at hst
  have hrun : (storeVar t ⟨g', i * z + j, none⟩ (a.eval y)).run P w = .ok () (w.setRow g' cur') := by
    unfold storeVar
    rw [Sem.run_bind, run_sizeOf' t1]
    have hne : ¬ ((a.eval y).cells.size ≠ ti.size) := by simp at hcl; simp [hcl]
    simp only [Result.andThen_ok]
    rw [if_neg hne]
    simpa using hst
  have hex : (execOp a.eval o).run P w = .ok .skip (w.setRow g' cur') := by
    simp only [execOp, ho, Instr.storeAt, Instr.sureAddr, h2, Sem.run_bind, Sem.run_pure, Result.andThen_ok, hrun]
  have hheap : (w.setRow g' cur').heap[g']? = some (.cells cur' e (0, 0)) := setRow_heap w g' cur _ e (0, 0) k3
  have hoth : ∀ b, b ≠ g' → (w.setRow g' cur').heap[b]? = w.heap[b]? := fun b hb => setRow_other w g' b _ hb
  have hE : Ext w F.U (w.setRow g' cur') F.U := ⟨fun b' o' u hcu ho' => by
    by_cases hbb : b' = g'
    · subst hbb; omega
    · exact ⟨(cell_setRow_other w g' _ ⟨b', o', none⟩ hbb).trans hcu, ho'⟩, fun r es c hr hu => ⟨hoth r (fun e => by subst e; omega), rfl⟩⟩
  have hdis : ∀ q k b, T q b → T2 k b → False := fun q k b h3 h4 => by
    obtain ⟨q', e1, e2, e3⟩ := s2 k b h4
    have := hF.i m q' b hlive e2 ((kS b).2 (.inr ⟨q, h3⟩)) e3
    exact hkm' q' e1 this.symm
  have hdis2 : ∀ k, ¬ T2 k g' := fun k h4 => by
    obtain ⟨q', e1, e2, e3⟩ := s2 k g' h4
    exact hkm' q' e1 (hF.i m q' g' hlive e2 ((kS g').2 (.inl rfl)) e3).symm
  have hspl := k8.splice s1 (i * z + j) (by rw [hcl, hxl]; omega) hdis
  have hfl := flat_splice k9 (j := j) ds hr (by omega)
  have hxs' : xs.take (i * z + j) ++ (a.eval y).cells.toList ++ xs.drop (i * z + j + (a.eval y).cells.toList.length) = cur'.toList.take (rows.length * z) := by
    rw [hcur', ← k6]
    simp only [Nat.add_zero]
    have hcs : cur.toList.length = cap * z := by simp; omega
    have hA : (cur.toList.take (i * z + j) ++ (a.eval y).cells.toList).length = i * z + j + (a.eval y).cells.toList.length := by
      rw [List.length_append, List.length_take, hcs, Nat.min_eq_left (by omega)]
    rw [List.take_append, hA, List.take_of_length_le (l := cur.toList.take (i * z + j) ++ (a.eval y).cells.toList) (by omega), List.take_take, Nat.min_eq_left (by omega), List.drop_take]
  obtain ⟨T', hT'⟩ : ∃ T' : Nat → Nat → Prop, T' = fun q b => if q < i * z + j then T q b else if q < i * z + j + (a.eval y).cells.toList.length then T2 (q - (i * z + j)) b else T q b := ⟨_, rfl⟩
  rw [← hT'] at hspl
  have hTsub : ∀ q b, T' q b → (∃ k, T k b) ∨ ∃ k, T2 k b := fun q b h => by
    rw [hT'] at h
    split at h
    · exact .inl ⟨_, h⟩
    · split at h
      · exact .inr ⟨_, h⟩
      · exact .inl ⟨_, h⟩
  have hTlt : ∀ q b, T' q b → b ≠ g' := fun q b h e' => by
    subst e'
    rcases hTsub q b h with ⟨k, h⟩ | ⟨k, h⟩
    · exact kT k h
    · exact hdis2 k h
  have hnw : ∀ k, nwGet ((m, Ob.tr e z (rows.set i (r.take j ++ ds ++ r.drop (j + ds.length)))) :: kill.toList.map (fun q => (q, Ob.no))) k = if k = m then some (.tr e z (rows.set i (r.take j ++ ds ++ r.drop (j + ds.length)))) else if some k = kill then some .no else none := by
    intro k
    unfold nwGet
    by_cases a1 : k = m
    · subst a1; rw [Nat.beq_refl, if_pos rfl]; rfl
    · rw [nbeq (Ne.symm a1), if_neg a1]
      cases kill with
      | none => rfl
      | some q =>
        show nwGet [(q, Ob.no)] k = _
        unfold nwGet
        by_cases a2 : k = q
        · subst a2; rw [Nat.beq_refl, if_pos rfl]; rfl
        · rw [nbeq (Ne.symm a2), if_neg (by simpa using a2)]; rfl
  obtain ⟨F', hF'⟩ : ∃ F' : Fr, F' = ⟨F.β, F.γ, F.U, fun k b => if k = m then (b = g' ∨ ∃ q, T' q b) else F.S k b⟩ := ⟨_, rfl⟩
  have hU : F'.U = F.U := by rw [hF']
  have hγ' : F'.γ = F.γ := by rw [hF']
  have hSm : ∀ b, F'.S m b ↔ (b = g' ∨ ∃ q, T' q b) := fun b => by rw [hF']; show (if m = m then _ else _) ↔ _; rw [if_pos rfl]
  have hSk : ∀ k, k ≠ m → ∀ b, F'.S k b ↔ F.S k b := fun k a2 b => by rw [hF']; show (if k = m then _ else _) ↔ _; rw [if_neg a2]
  have hown : ∀ b, (b = g' ∨ ∃ q, T' q b) → F.S m b ∨ ∃ q', kill = some q' ∧ (σ'.n q').live = true ∧ F.S q' b := fun b h => by
    rcases h with h | ⟨q, h⟩
    · exact .inl ((kS b).2 (.inl h))
    · rcases hTsub q b h with h | ⟨k, h⟩
      · exact .inl ((kS b).2 (.inr h))
      · exact .inr (s2 k b h)
  have hb := hF.big (F' := F') (w' := w.setRow g' cur') (tw := none) (nw := (m, .tr e z (rows.set i (r.take j ++ ds ++ r.drop (j + ds.length)))) :: kill.toList.map (fun q => (q, Ob.no))) (by rw [hU]; exact hE) (fun b _ => by rw [hU])
    (fun k hk => by
      rw [hnw] at hk
      have a1 : k ≠ m := fun h => by rw [if_pos h] at hk; cases hk
      exact ⟨by rw [hF'], by rw [hF'], hSk k a1⟩)
    (fun k hk => .inl ⟨by rw [hF'], by rw [hF']⟩)
    (fun k hl hk b hb hlt => ⟨hoth b (fun e' => by
      subst e'
      have := hF.i k m b hl hlive hb ((kS b).2 (.inl rfl))
      subst this
      rw [hnw, if_pos rfl] at hk; cases hk), by rw [hU]⟩)
    (fun k ob hk => by
      rw [hnw] at hk
      by_cases a1 : k = m
      · rw [if_pos a1] at hk
        injection hk with hk
        subst hk a1
        refine ⟨xs.take (i * z + j) ++ (a.eval y).cells.toList ++ xs.drop (i * z + j + (a.eval y).cells.toList.length), T', ?_, ?_, fun r' hr' => ?_, fun b hb => ?_, fun b => ?_⟩
        · rw [hγ', List.length_set, k1]
          refine ⟨?_, .inr ⟨g', cap, cur', rfl, kB, hheap, k4, ?_, ?_, hxs'.symm⟩⟩
          · simp; omega
          · rcases k7.2 with ⟨h0, _⟩ | ⟨_, _, _, h0, _, _, _, hcm, _⟩
            · rw [k1] at h0; cases h0
            · rw [k1] at h0
              injection h0 with _ _ h0
              rw [h0]; exact hcm
          · rw [hcur']; simp; omega
        · rw [hfl, hU]
          exact hspl.ext hE (fun q b hq hlt => ⟨hoth b (hTlt q b hq), rfl⟩)
        · rcases List.mem_or_eq_of_mem_set hr' with h3 | h3
          · exact k9 r' h3
          · rw [h3]; simp; omega
        · rw [hγ', hγ] at hb
          injection hb with hb
          subst hb
          exact ⟨by rw [hU]; exact kU, fun q h => hTlt q _ h rfl⟩
        · rw [hSm, hγ', hγ]
          constructor
          · rintro (h | h)
            · exact .inl (by rw [h])
            · exact .inr h
          · rintro (h | h)
            · injection h with h; exact .inl h.symm
            · exact .inr h
      · rw [if_neg a1] at hk
        by_cases a2 : some k = kill
        · rw [if_pos a2] at hk; injection hk with hk; subst hk; trivial
        · rw [if_neg a2] at hk; cases hk)
    (fun k ob k' b hk hl hk' hl' hb hb' => by
      rw [hnw] at hk hk'
      by_cases a1 : k = m
      · subst a1
        have a1' : k' ≠ k := fun h => by rw [if_pos h] at hk'; cases hk'
        rw [if_neg a1'] at hk'
        have a2' : some k' ≠ kill := fun h => by rw [if_pos h] at hk'; cases hk'
        rcases hown b ((hSm b).1 hb) with h | ⟨q', e1, e2, e3⟩
        · exact a1' (hF.i k k' b hlive hl' h hb').symm
        · exact a2' (by rw [e1]; exact congrArg some (hF.i k' q' b hl' e2 hb' e3))
      · rw [if_neg a1] at hk
        by_cases a2 : some k = kill
        · rw [if_pos a2] at hk; injection hk with hk; subst hk; cases hl
        · rw [if_neg a2] at hk; cases hk)
    (fun k ob k' ob' b hk hl hk' hl' hb hb' => by
      rw [hnw] at hk hk'
      have key : ∀ k (ob : Ob), (if k = m then some (.tr e z (rows.set i (r.take j ++ ds ++ r.drop (j + ds.length)))) else if some k = kill then some .no else none) = some ob → ob.live = true → k = m := fun k ob hk hl => by
        by_cases a1 : k = m
        · exact a1
        · rw [if_neg a1] at hk
          by_cases a2 : some k = kill
          · rw [if_pos a2] at hk; injection hk with hk; subst hk; cases hl
          · rw [if_neg a2] at hk; cases hk
      rw [key k ob hk hl, key k' ob' hk' hl'])
    (a' := a) (fun t => rfl) (fun d v h => by cases h) (m :: kill.toList) []
  unfold Oper.wp
  rw [hex, Oper.upon_skip, hdn]
  refine hK _ _ ⟨hs.d, hs.s, hs.b.trans ⟨rfl, rfl, rfl, by simp, fun k hk => hoth k (by omega)⟩, _, hb⟩
end
end Go.Proofs.Yteplcjhnmmpicaa.Av
