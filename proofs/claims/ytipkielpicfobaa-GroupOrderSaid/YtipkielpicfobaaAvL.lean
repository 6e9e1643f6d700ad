/- Rows that own rows lend them to a reader and have them back. Conditions: as each theorem names them. -/
import Derived.Test.YtipkielpicfobaaAvF
set_option linter.unusedSimpArgs false
set_option linter.unusedVariables false
namespace Go.Proofs.Ytipkielpicfobaa.Av
open Go Go.RowKit
section
variable {P : Program} {N : Nat} {w0 : World} {U0 : Nat → Nat}
theorem lendBt_st {o : Oper} {σ : AS} {t : TypeId} {x : Operand} (m3 : Nat) (ho : o.op = .load t x) {d : TypeDesc} (hu : P.underlying t = some d) (ha : aggD d = false) {m p : Nat} (hx : (σ.ev x).ptOf = some (m, p)) {ty : TypeId} {cs : List OC} (hm : σ.n m = .bt ty cs) {e2 z2 : Nat} {rows2 : List (List DV)} (hv : cs[p]? = some (.ow e2 z2 rows2)) (hne : Nat.beq m3 m = false) (hd : dOk o N = true) (hfr0 : fresh σ m3) {a : Act} {w : World} (hs : St N w0 U0 σ a w) :
    ∃ u, (execOp a.eval o).run P w = .ok (.value u) w ∧ St N w0 U0 ((⟨o.dst.map fun d => (d, AV.pw m3 u), [(m3, .tr e2 z2 (rows2.map (·.map .dv))), (m, .bt ty (cs.take p ++ [.dv (.fl u)] ++ cs.drop (p + 1)))], [m], [m3]⟩ : Eff).ap σ) (a.put o.dst u) w := by
  have hok : (⟨o.dst.map fun d => (d, AV.un), [], [m], [m3]⟩ : Eff).ok o σ σ := ⟨fun _ _ => rfl, fun _ _ => rfl, fun q hq => (show q = m3 by simpa using hq) ▸ hfr0⟩
  obtain ⟨F, hF⟩ := hs.f
  obtain ⟨g', h1, h2⟩ := pt_get hok hF (x := x) (by simp [ho, Op.operands]) hx
  have hm' : σ.n m = .bt ty cs := by rw [hok.n m (by simp)]; exact hm
  have hjl := (List.getElem?_eq_some_iff.1 hv).1
  obtain ⟨vs, T, kB, kU, k3, k8, kT, kS⟩ := bt_get hF hm' h1
  have hk : p < vs.toList.length := by rw [k8.l]; exact hjl
  obtain ⟨u, hu'⟩ : ∃ u, vs.toList[p]? = some u := ⟨_, List.getElem?_eq_getElem hk⟩
  have hc : w.cell? ⟨g', p, none⟩ = some u := by rw [cell_of_row w g' p vs ty (0, 0) k3]; simpa using hu'
  obtain ⟨ys, y1, y2, y3, y4, y5⟩ := k8.c _ u _ hu' hv
  have hfr : fresh σ m3 := hfr0
  have hmm : m ≠ m3 := fun h => by rw [h, Nat.beq_refl] at hne; cases hne
  have hlive : (σ.n m).live = true := by rw [hm']; rfl
  have hrun : (execOp a.eval o).run P w = .ok (.value u) w := by simp [execOp, ho, h2, Instr.loadAt, Instr.sureAddr, run_load_one hu ha hc]
  obtain ⟨F', hF'⟩ : ∃ F' : Fr, F' = ⟨fun k => if k = m3 then none else F.β k, fun k => if k = m3 then u else F.γ k, F.U, fun k b => if k = m3 then T p b else if k = m then (b = g' ∨ ∃ q, q ≠ p ∧ T q b) else F.S k b⟩ := ⟨_, rfl⟩
  have hβ3 : F'.γ m3 = u := by rw [hF']; exact if_pos rfl
  have hβm : F'.β m = some g' := by rw [hF']; exact (if_neg hmm).trans h1
  have hU : F'.U = F.U := by rw [hF']
  have hS3 : ∀ b, F'.S m3 b ↔ T p b := fun b => by rw [hF']; show (if m3 = m3 then _ else _) ↔ _; rw [if_pos rfl]
  have hSm : ∀ b, F'.S m b ↔ (b = g' ∨ ∃ q, q ≠ p ∧ T q b) := fun b => by rw [hF']; show (if m = m3 then _ else if m = m then _ else _) ↔ _; rw [if_neg hmm, if_pos rfl]
  have hSk : ∀ k, k ≠ m3 → k ≠ m → ∀ b, F'.S k b ↔ F.S k b := fun k a1 a2 b => by rw [hF']; show (if k = m3 then _ else if k = m then _ else _) ↔ _; rw [if_neg a1, if_neg a2]
  have hnw : ∀ k, nwGet [(m3, Ob.tr e2 z2 (rows2.map (·.map OC.dv))), (m, Ob.bt ty (cs.take p ++ [OC.dv (.fl u)] ++ cs.drop (p + 1)))] k = if k = m3 then some (.tr e2 z2 (rows2.map (·.map OC.dv))) else if k = m then some (.bt ty (cs.take p ++ [OC.dv (.fl u)] ++ cs.drop (p + 1))) else none := by
    intro k
    unfold nwGet
    by_cases a1 : k = m3
    · subst a1; rw [Nat.beq_refl, if_pos rfl]; rfl
    · rw [nbeq (Ne.symm a1), if_neg a1]
      unfold nwGet
      by_cases a2 : k = m
      · subst a2; rw [Nat.beq_refl, if_pos rfl]; rfl
      · rw [nbeq (Ne.symm a2), if_neg a2]; rfl
  have hsub : ∀ b, T p b → F.S m b := fun b hb => (kS b).2 (.inr ⟨_, hb⟩)
  have hb := hF.big (F' := F') (w' := w) (tw := o.dst.map fun d => (d, AV.pw m3 u)) (nw := [(m3, .tr e2 z2 (rows2.map (·.map .dv))), (m, .bt ty (cs.take p ++ [.dv (.fl u)] ++ cs.drop (p + 1)))]) (by rw [hU]; exact Ext.rfl) (fun b _ => by rw [hU])
    (fun k hk => by
      rw [hnw] at hk
      have a1 : k ≠ m3 := fun h => by rw [if_pos h] at hk; cases hk
      rw [if_neg a1] at hk
      have a2 : k ≠ m := fun h => by rw [if_pos h] at hk; cases hk
      exact ⟨by rw [hF']; exact if_neg a1, by rw [hF']; exact if_neg a1, hSk k a1 a2⟩)
    (fun k hk => by
      rw [hnw] at hk
      by_cases a1 : k = m3
      · right; rw [a1]; exact hfr
      · left; exact ⟨by rw [hF']; exact if_neg a1, by rw [hF']; exact if_neg a1⟩)
    (fun k hl hk b hb hlt => ⟨rfl, by rw [hU]⟩)
    (fun k ob hk => by
      rw [hnw] at hk
      by_cases a1 : k = m3
      · rw [if_pos a1] at hk
        injection hk with hk
        subst hk a1
        refine ⟨ys, fun _ _ => False, by rw [hβ3, List.length_map]; exact y1, by rw [flat_map_dv, hU]; exact Tcs.ofRc y2, fun r' hr' => ?_, fun b hb => ⟨?_, fun _ => id⟩, fun b => ?_⟩
        · obtain ⟨r'', h3, rfl⟩ := List.mem_map.1 hr'
          simpa using y3 r'' h3
        · rw [hU]; rw [hβ3] at hb; exact y5 b hb
        · rw [hS3, hβ3, y4 b]
          exact ⟨.inl, fun h => h.elim id (fun ⟨_, h⟩ => h.elim)⟩
      · rw [if_neg a1] at hk
        by_cases a2 : k = m
        · rw [if_pos a2] at hk
          injection hk with hk
          subst hk a2
          refine ⟨g', vs, fun q b => q ≠ p ∧ T q b, hβm, kB, by rw [hU]; exact kU, k3, ?_, fun q h => kT q h.2, fun b => by rw [hSm]⟩
          rw [hU]
          have hcl := k8.l
          have hcs : ∀ q, (cs.take p ++ [OC.dv (.fl u)] ++ cs.drop (p + 1))[q]? = if q = p then some (.dv (.fl u)) else cs[q]? := by
            intro q
            rcases Nat.lt_trichotomy q p with hq | hq | hq
            · rw [if_neg (by omega), List.append_assoc, List.getElem?_append_left (by simp; omega), List.getElem?_take_of_lt hq]
            · subst hq
              rw [if_pos rfl, List.append_assoc, List.getElem?_append_right (by simp; omega)]
              simp
              rw [Nat.min_eq_left (by omega)]
              simp
            · rw [if_neg (by omega), List.getElem?_append_right (by simp; omega), List.getElem?_drop]
              congr 1
              simp
              omega
          refine ⟨by have := hcl; simp only [List.length_append, List.length_take, List.length_drop, List.length_singleton]; omega, fun q v c hv' hc' => ?_, k8.o, fun q q' b h1 h2 => k8.d q q' b h1.2 h2.2, fun q b h1 => k8.b q b h1.2⟩
          rw [hcs] at hc'
          by_cases hq : q = p
          · rw [if_pos hq] at hc'
            injection hc' with hc'
            subst hc'
            subst hq
            rw [hu'] at hv'
            injection hv' with hv'
            subst hv'
            exact ⟨Rd.fl _, fun b hb => hb.1 rfl⟩
          · rw [if_neg hq] at hc'
            have := k8.c q v c hv' hc'
            have e1 : (fun b => q ≠ p ∧ T q b) = T q := by funext b; exact propext ⟨fun h => h.2, fun h => ⟨hq, h⟩⟩
            rw [e1]
            exact this
        · rw [if_neg a2] at hk; cases hk)
    (fun k ob k' b hk hl hk' hl' hb hb' => by
      have hS : F.S m b := by
        rw [hnw] at hk
        by_cases a1 : k = m3
        · subst a1; exact hsub b ((hS3 b).1 hb)
        · rw [if_neg a1] at hk
          by_cases a2 : k = m
          · subst a2
            rcases (hSm b).1 hb with h | ⟨q, _, h⟩
            · exact (kS b).2 (.inl h)
            · exact (kS b).2 (.inr ⟨q, h⟩)
          · rw [if_neg a2] at hk; cases hk
      have := hF.i m k' b hlive hl' hS hb'
      rw [hnw] at hk'
      subst this
      rw [if_neg hmm, if_pos rfl] at hk'
      cases hk')
    (fun k ob k' ob' b hk hl hk' hl' hb hb' => by
      rw [hnw] at hk hk'
      have no : ∀ b, T p b → (b = g' ∨ ∃ q, q ≠ p ∧ T q b) → False := fun b h3 h4 => by
        rcases h4 with h4 | ⟨q, h4, h5⟩
        · subst h4; exact kT _ h3
        · exact h4 (k8.d q _ b h5 h3)
      by_cases a1 : k = m3
      · by_cases a1' : k' = m3
        · rw [a1, a1']
        · rw [if_neg a1'] at hk'
          by_cases a2' : k' = m
          · subst a1 a2'; exact (no b ((hS3 b).1 hb) ((hSm b).1 hb')).elim
          · rw [if_neg a2'] at hk'; cases hk'
      · rw [if_neg a1] at hk
        by_cases a2 : k = m
        · by_cases a1' : k' = m3
          · subst a2 a1'; exact (no b ((hS3 b).1 hb') ((hSm b).1 hb)).elim
          · rw [if_neg a1'] at hk'
            by_cases a2' : k' = m
            · rw [a2, a2']
            · rw [if_neg a2'] at hk'; cases hk'
        · rw [if_neg a2] at hk; cases hk)
    (a' := a.put o.dst u) (hta_put hd hs.s (AV.pw m3 u) u).1 (fun d v h => by
      obtain ⟨rfl, h3⟩ := (hta_put hd hs.s (AV.pw m3 u) u).2 d v h
      rw [h3]
      exact ⟨rfl, hβ3.symm⟩) [m] [m3]
  exact ⟨u, hrun, by rw [put_defers]; exact hs.d, by rw [put_size]; exact hs.s, hs.b, _, hb⟩

theorem rg_lendBt {ops : Array Oper} {k : Nat} {o : Oper} {L : List (Nat × AV)} {M : List (Nat × Ob)} {R : AS → Prop} {t : TypeId} {x : Operand} {c : Nat} (m3 : Nat) (hk : ops[k]? = some o) (hg : o.guard = none) (hdc : o.dst = some c) (ho : o.op = .load t x) {d : TypeDesc} (hu : P.underlying t = some d) (ha : aggD d = false) {m p : Nat} (hx : ((SS L M).ev x).ptOf = some (m, p)) {ty : TypeId} {cs : List OC} (hm : ln M m = .bt ty cs) {e2 z2 : Nat} {rows2 : List (List DV)} (hv : cs[p]? = some (.ow e2 z2 rows2)) (hne : Nat.beq m3 m = false) (hd : dOk o N = true) (hf : freshB L M m3 = true)
    (h : ∀ u, RG P N w0 U0 ops (k + 1) (SS ((c, .pw m3 u) :: L) ((m3, .tr e2 z2 (rows2.map (·.map .dv))) :: (m, .bt ty (cs.take p ++ [.dv (.fl u)] ++ cs.drop (p + 1))) :: M)) R) : RG P N w0 U0 ops k (SS L M) R := by
  refine ⟨fun a w hs Q hQ => ?_⟩
  obtain ⟨u, hrun, hs'⟩ := lendBt_st m3 ho hu ha hx hm hv hne hd (fresh_ss hf) hs
  have hlt : k < ops.size := (Array.getElem?_eq_some_iff.1 hk).1
  have e1 : ((List.range (ops.size - k)).map (· + k)) = k :: ((List.range (ops.size - (k + 1))).map (· + (k + 1))) := by
    rw [show ops.size - k = (ops.size - (k + 1)) + 1 by omega, List.range_succ_eq_map]
    simp only [List.map_cons, Nat.zero_add, List.map_map, List.cons.injEq, true_and]
    apply List.map_congr_left
    intro y _
    show y + 1 + k = y + (k + 1)
    omega
  rw [e1, wpOps_cons]
  unfold wpOp
  rw [hk]
  simp only
  rw [if_pos (by simp [Region.wanted, hg])]
  left
  unfold Oper.wp
  rw [hrun, Oper.upon_value]
  rw [hdc, ap_ss] at hs'
  rw [hdc]
  exact (h u).go _ _ hs' Q hQ
theorem ap_ss0 {nw : List (Nat × Ob)} {rn fr : List Nat} {L : List (Nat × AV)} {M : List (Nat × Ob)} : ((⟨none, nw, rn, fr⟩ : Eff).ap (SS L M)) = SS L (nw ++ M) := ap_ss _ _ _
theorem own_cells {w : World} {B : Nat} {e : TypeId} {z : Nat} {v : Value} {n : Nat} {xs : List Value} (h : w.ownsRow B e z v n xs) : v.cells.toList = [v] := by
  rcases h.2 with ⟨h, _⟩ | ⟨_, _, _, h, _⟩ <;> (rw [h]; rfl)
theorem imp_back {L : List (Nat × AV)} {M : List (Nat × Ob)} (t m m3 p : Nat) {v : Value} {ty : TypeId} {cs : List OC} {e z : Nat} {rows : List (List DV)} (ht : lk L t = .pw m3 v) (hm : ln M m = .bt ty cs) (hp : cs[p]? = some (.dv (.fl v))) (h3 : ln M m3 = .tr e z (rows.map (·.map .dv))) (hkm : Nat.beq m3 m = false) :
    Imp N w0 U0 (SS L M) (SS L ((m, .bt ty (cs.take p ++ [.ow e z rows] ++ cs.drop (p + 1))) :: (m3, .no) :: M)) := by
  intro a w hs
  obtain ⟨F, hF⟩ := hs.f
  have hv3 : Rav w F (.pw m3 v) (a.tmps.getD t undef) := by have := hF.t t; rwa [show (SS L M).t t = _ from ht] at this
  obtain ⟨_, hv3⟩ := hv3
  have hmne : m3 ≠ m := fun h => by rw [h, Nat.beq_refl] at hkm; cases hkm
  have hob := hF.n m
  rw [show (SS L M).n m = _ from hm] at hob
  obtain ⟨g, vs, T, hβ, kB, kU, k3, k8, kT, kS⟩ := hob
  have hob3 := hF.n m3
  rw [show (SS L M).n m3 = _ from h3] at hob3
  obtain ⟨xs3, T3, o1, _⟩ := hob3
  have hcell := own_cells o1
  obtain ⟨T2, s1, s2⟩ := (SrcS.tr (σ := SS L M) (q := m3) h3).get hF (fun q hq => rfl) (v := F.γ m3) (show Rav w F (.ow m3) (F.γ m3) from rfl)
  rw [hcell] at s1
  have hlive : ((SS L M).n m).live = true := by rw [show (SS L M).n m = _ from hm]; rfl
  have hplt := (List.getElem?_eq_some_iff.1 hp).1
  have hpv : p < vs.toList.length := by rw [k8.l]; exact hplt
  have hvp : vs.toList[p]? = some (F.γ m3) := by
    obtain ⟨u, hu⟩ : ∃ u, vs.toList[p]? = some u := ⟨_, List.getElem?_eq_getElem hpv⟩
    have := (k8.c p u _ hu hp).1
    cases this
    rw [hu, hv3]
  have hdis : ∀ q k b, T q b → T2 k b → False := fun q k b h3 h4 => by
    obtain ⟨q', e1, e2, e3⟩ := s2 k b h4
    have := hF.i m q' b hlive e2 ((kS b).2 (.inr ⟨q, h3⟩)) e3
    injection e1 with e1
    exact hmne (e1.trans this.symm)
  have hdis2 : ∀ k, ¬ T2 k g := fun k h4 => by
    obtain ⟨q', e1, e2, e3⟩ := s2 k g h4
    injection e1 with e1
    exact hmne (e1.trans (hF.i m q' g hlive e2 ((kS g).2 (.inl rfl)) e3).symm)
  have hspl := k8.splice s1 p (by simp; simp at hpv; omega) hdis
  have hcurl : vs.toList.take p ++ [F.γ m3] ++ vs.toList.drop (p + [F.γ m3].length) = vs.toList := by
    obtain ⟨h1, h2⟩ := List.getElem?_eq_some_iff.1 hvp
    have hdr := List.drop_eq_getElem_cons h1
    rw [h2] at hdr
    rw [List.append_assoc, List.singleton_append, List.length_singleton, ← hdr, List.take_append_drop]
  rw [hcurl] at hspl
  obtain ⟨T', hT'⟩ : ∃ T' : Nat → Nat → Prop, T' = fun q b => if q < p then T q b else if q < p + [F.γ m3].length then T2 (q - p) b else T q b := ⟨_, rfl⟩
  rw [← hT'] at hspl
  have hTsub : ∀ q b, T' q b → (∃ k, T k b) ∨ ∃ k, T2 k b := fun q b h => by
    rw [hT'] at h
    split at h
    · exact .inl ⟨_, h⟩
    · split at h
      · exact .inr ⟨_, h⟩
      · exact .inl ⟨_, h⟩
  have hTlt : ∀ q b, T' q b → b ≠ g := fun q b h e' => by
    subst e'
    rcases hTsub q b h with ⟨k, h⟩ | ⟨k, h⟩
    · exact kT k h
    · exact hdis2 k h
  have hnw : ∀ k, nwGet [(m, Ob.bt ty (cs.take p ++ [.ow e z rows] ++ cs.drop (p + 1))), (m3, .no)] k = if k = m then some (.bt ty (cs.take p ++ [.ow e z rows] ++ cs.drop (p + 1))) else if k = m3 then some .no else none := by
    intro k
    unfold nwGet
    by_cases a1 : k = m
    · subst a1; rw [Nat.beq_refl, if_pos rfl]; rfl
    · rw [nbeq (Ne.symm a1), if_neg a1]
      unfold nwGet
      by_cases a2 : k = m3
      · subst a2; rw [Nat.beq_refl, if_pos rfl]; rfl
      · rw [nbeq (Ne.symm a2), if_neg a2]; rfl
  obtain ⟨F', hF'⟩ : ∃ F' : Fr, F' = ⟨F.β, F.γ, F.U, fun k b => if k = m then (b = g ∨ ∃ q, T' q b) else F.S k b⟩ := ⟨_, rfl⟩
  have hU : F'.U = F.U := by rw [hF']
  have hSm : ∀ b, F'.S m b ↔ (b = g ∨ ∃ q, T' q b) := fun b => by rw [hF']; show (if m = m then _ else _) ↔ _; rw [if_pos rfl]
  have hSk : ∀ k, k ≠ m → ∀ b, F'.S k b ↔ F.S k b := fun k a2 b => by rw [hF']; show (if k = m then _ else _) ↔ _; rw [if_neg a2]
  have hown : ∀ b, (b = g ∨ ∃ q, T' q b) → F.S m b ∨ (((SS L M).n m3).live = true ∧ F.S m3 b) := fun b h => by
    rcases h with h | ⟨q, h⟩
    · exact .inl ((kS b).2 (.inl h))
    · rcases hTsub q b h with h | ⟨k, h⟩
      · exact .inl ((kS b).2 (.inr h))
      · obtain ⟨q', e1, e2, e3⟩ := s2 k b h
        injection e1 with e1
        subst e1
        exact .inr ⟨e2, e3⟩
  have hb := hF.big (F' := F') (w' := w) (tw := none) (nw := [(m, .bt ty (cs.take p ++ [.ow e z rows] ++ cs.drop (p + 1))), (m3, .no)]) (by rw [hU]; exact Ext.rfl) (fun b _ => by rw [hU])
    (fun k hk => by
      rw [hnw] at hk
      have a1 : k ≠ m := fun h => by rw [if_pos h] at hk; cases hk
      exact ⟨by rw [hF'], by rw [hF'], hSk k a1⟩)
    (fun k hk => .inl ⟨by rw [hF'], by rw [hF']⟩)
    (fun k hl hk b hb hlt => ⟨rfl, by rw [hU]⟩)
    (fun k ob hk => by
      rw [hnw] at hk
      by_cases a1 : k = m
      · rw [if_pos a1] at hk
        injection hk with hk
        subst hk a1
        exact ⟨g, vs, T', by rw [hF']; exact hβ, kB, by rw [hU]; exact kU, k3, by rw [hU]; exact hspl, fun q h => hTlt q g h rfl, hSm⟩
      · rw [if_neg a1] at hk
        by_cases a2 : k = m3
        · rw [if_pos a2] at hk; injection hk with hk; subst hk; trivial
        · rw [if_neg a2] at hk; cases hk)
    (fun k ob k' b hk hl hk' hl' hb hb' => by
      rw [hnw] at hk hk'
      by_cases a1 : k = m
      · subst a1
        have a1' : k' ≠ k := fun h => by rw [if_pos h] at hk'; cases hk'
        rw [if_neg a1'] at hk'
        have a2' : k' ≠ m3 := fun h => by rw [if_pos h] at hk'; cases hk'
        rcases hown b ((hSm b).1 hb) with h | ⟨e2, e3⟩
        · exact a1' (hF.i k k' b hlive hl' h hb').symm
        · exact a2' (hF.i k' m3 b hl' e2 hb' e3)
      · rw [if_neg a1] at hk
        by_cases a2 : k = m3
        · rw [if_pos a2] at hk; injection hk with hk; subst hk; cases hl
        · rw [if_neg a2] at hk; cases hk)
    (fun k ob k' ob' b hk hl hk' hl' hb hb' => by
      rw [hnw] at hk hk'
      have key : ∀ k (ob : Ob), (if k = m then some (Ob.bt ty (cs.take p ++ [.ow e z rows] ++ cs.drop (p + 1))) else if k = m3 then some .no else none) = some ob → ob.live = true → k = m := fun k ob hk hl => by
        by_cases a1 : k = m
        · exact a1
        · rw [if_neg a1] at hk
          by_cases a2 : k = m3
          · rw [if_pos a2] at hk; injection hk with hk; subst hk; cases hl
          · rw [if_neg a2] at hk; cases hk
      rw [key k ob hk hl, key k' ob' hk' hl'])
    (a' := a) (fun t => rfl) (fun d v h => by cases h) [] []
  rw [ap_ss0] at hb
  exact ⟨hs.d, hs.s, hs.b, _, hb⟩
end
end Go.Proofs.Ytipkielpicfobaa.Av
