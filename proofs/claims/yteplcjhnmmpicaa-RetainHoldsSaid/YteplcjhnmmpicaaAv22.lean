/- An append to nil gives a row of the call's own. Conditions: as each theorem names them. -/
import Derived.Test.YteplcjhnmmpicaaAv21
set_option linter.unusedSimpArgs false
set_option linter.unusedVariables false
namespace Go.Proofs.Yteplcjhnmmpicaa.Av
open Go Go.RowKit
section
variable {P : Program} {N : Nat} {w0 : World} {U0 : Nat → Nat}
theorem s_append_nilT {o : Oper} {σ : AS} {t e : TypeId} {s x : Operand} (m : Nat) (ho : o.op = .call { callee := .builtin .append, args := #[s, x], argTypes := #[t, t] })
    {zv : Value} {sz b : Nat} (ht : P.underlying t = some (.slice e)) (hi : TI P e zv sz b) (hzs : Nat.beq zv.cells.size sz = true) (hz0 : Nat.blt 0 sz = true) {α : Type} {f : α → List DV} {l' : List α} {rn : List Nat} {av : AV}
    (hs : σ.ev s = .d (.fl (.slice none 0 0))) (hx : σ.ev x = av) (hxv : AvD σ av (.sl sz (l'.map f)) rn) (hbytes : l'.length * (b + 1) ≤ 140737488355328) (hd : dOk o N = true) :
    OpS P N w0 U0 o σ ⟨o.dst.map fun d => (d, .ow m), [(m, .tr e sz (tD f l'))], rn, [m]⟩ := by
  obtain ⟨i, i1, i2, i3, i4⟩ := hi
  subst i3
  subst i4
  intro σ' hok a w hst K Q hK
  obtain ⟨F, hF⟩ := hst.f
  have hz0' := Nat.le_of_ble_eq_true hz0
  have hzs' := Nat.eq_of_beq_eq_true hzs
  have hv0 : a.eval s = .slice none 0 0 := flat_val (ev_get hok hF (x := s) (by simp [ho, Op.operands, Call.operands]) hs)
  have hvx := ev_get hok hF (x := x) (by simp [ho, Op.operands, Call.operands]) hx
  obtain ⟨A, c, hvs, hrz', hsrc⟩ := (RowsS.d hxv).get hF hz0' (fun q hq => hok.n q hq) hvx
  have hfr : fresh σ' m := hok.f m (by simp)
  have hrun : ∀ v' w', (Builtin.append_ #[t, t] o.type #[a.eval s, a.eval x]).run P w = .ok v' w' → (execOp a.eval o).run P w = .ok (.value v') w' := by
    intro v' w' hr
    unfold execOp
    simp only [ho, resolve, invoke, builtin, Sem.run_bind, Sem.run_pure, Result.andThen_ok, List.map_toArray, List.map_cons, List.map_nil, hr]
  rw [hv0, hvs] at hrun
  have g1 : w.ownsRow w0.heap.size e i.size (.slice none 0 0) 0 [] := World.ownsRow_nil _ _ _ _
  unfold Oper.wp
  have hγγ : ∀ v : Value, (fun k => if k = m then v else F.γ k) m = v := fun v => if_pos rfl
  have hlen : ((l'.map f).map (·.map OC.dv)).length = l'.length := by simp
  by_cases hr0 : (l'.map f).map (·.map OC.dv) = []
  · have hl0 : l' = [] := by simpa using hr0
    subst hl0
    rw [hrun _ _ (run_app0 (P := P) w w0.heap.size t o.type e i i.size ht i1 rfl _ _ _ g1 A c)]
    have hfit := hF.make (m := m) (ob := .tr e i.size []) (ks := []) (γv := .slice none 0 0) (βv := none) (Sm := fun _ => False) (U' := F.U) (w' := w) (a' := a.put o.dst (.slice none 0 0)) (tw := o.dst.map fun d => (d, .ow m)) hfr Ext.rfl (fun _ _ => rfl) (fun _ _ _ _ _ _ => ⟨rfl, rfl⟩) (fun b hb => hb.elim)
      ⟨[], fun _ _ => False, by simp only [↓reduceIte]; exact g1, ⟨rfl, fun k u c h => by simp at h, fun u hu => (by cases hu), fun _ _ _ h => h.elim, fun _ _ h => h.elim⟩, (fun r hr => by cases hr), (fun b hb => by simp only [↓reduceIte] at hb; cases hb), fun b => by
        simp only [↓reduceIte]
        constructor
        · intro h; exact h.elim
        · rintro (h | ⟨_, h⟩)
          · cases h
          · exact h.elim⟩
      (hta_put hd hst.s (.ow m) (.slice none 0 0)).1 (fun d v h => by
        obtain ⟨rfl, h3⟩ := (hta_put hd hst.s (.ow m) (.slice none 0 0)).2 d v h
        rw [h3]; exact (hγγ _).symm) rn [m]
    exact hK _ _ ⟨by rw [put_defers]; exact hst.d, by rw [put_size]; exact hst.s, hst.b, _, hfit⟩
  · obtain ⟨sb, off, news, T2, rfl, n1, n2, n3, n4⟩ := hsrc hr0
    have hpos : 0 < ((l'.map f).map (·.map OC.dv)).length := List.length_pos_iff.2 hr0
    have q1 : l'.length * 1 ≤ l'.length * (i.bytes + 1) := Nat.mul_le_mul_left _ (by omega)
    have q2 : l'.length * i.bytes ≤ l'.length * (i.bytes + 1) := Nat.mul_le_mul_left _ (by omega)
    obtain ⟨g, cap, w', hr, hown', hB, hcase⟩ := run_app (P := P) w w0.heap.size t o.type e i zv i.size i.bytes ht i1 i2 rfl rfl hzs' hz0' (.slice none 0 0) 0 [] g1 ⟨sb, off, none⟩ ((l'.map f).map (·.map OC.dv)).length c news n1 n2 n3.o hpos (by unfold maxLen; rw [hlen]; omega) (by rw [hlen]; simpa using Nat.le_trans q2 hbytes) hst.b.size
    rw [hrun _ _ hr]
    have hnew : g = w.heap.size ∧ ∀ b, b < w.heap.size → w'.heap[b]? = w.heap[b]? := by
      rcases hcase with ⟨h1, h2⟩ | ⟨h1, _⟩
      · exact ⟨h1, h2⟩
      · cases h1
    obtain ⟨hg, hkept⟩ := hnew
    have hgB : w0.heap.size ≤ g := by rw [hg]; exact hst.b.size
    have hT2 : ∀ k b, ¬ T2 k b := fun k b h => by
      obtain ⟨q, e1, _, _⟩ := n4 k b h
      cases e1
    obtain ⟨U', hU'⟩ : ∃ U' : Nat → Nat, U' = fun b => if b = g then 0 else F.U b := ⟨_, rfl⟩
    have hU1 : U' g = 0 := by rw [hU']; simp
    have hU2 : ∀ b, b ≠ g → U' b = F.U b := fun b hb => by rw [hU']; simp [hb]
    have hE : Ext w F.U w' U' := Up.ext ⟨fun b hlt => hkept b hlt, fun b hlt => hU2 b (by omega)⟩
    rw [Nat.zero_add, List.nil_append] at hown'
    have hfit := hF.make (m := m) (ob := .tr e i.size (tD f l')) (ks := []) (γv := .slice (some ⟨g, 0, none⟩) (0 + ((l'.map f).map (·.map OC.dv)).length) cap) (βv := none) (Sm := fun b => b = g) (U' := U') (w' := w') (a' := a.put o.dst (.slice (some ⟨g, 0, none⟩) (0 + ((l'.map f).map (·.map OC.dv)).length) cap)) (tw := o.dst.map fun d => (d, .ow m)) hfr hE (fun b hb => hU2 b (by omega)) (fun k b _ _ _ hlt => ⟨hkept b hlt, hU2 b (by omega)⟩) (fun b hb => .inl (by omega))
      ⟨news, T2, by simp only [↓reduceIte]; rw [Nat.zero_add]; exact hown', n3.ext hE (fun k b hk _ => absurd hk (hT2 k b)), hrz', fun b hb => by
        simp only [↓reduceIte] at hb
        injection hb with hb
        subst hb
        exact ⟨hU1, fun k hk => hT2 k _ hk⟩, fun b => by
        simp only [↓reduceIte]
        constructor
        · intro h; exact .inl (by rw [h]; rfl)
        · rintro (h | ⟨k, h⟩)
          · injection h with h; exact h.symm
          · exact absurd h (hT2 k b)⟩
      (hta_put hd hst.s (.ow m) _).1 (fun d v h => by
        obtain ⟨rfl, h3⟩ := (hta_put hd hst.s (.ow m) (.slice (some ⟨g, 0, none⟩) (0 + ((l'.map f).map (·.map OC.dv)).length) cap)).2 d v h
        rw [h3]; exact (hγγ _).symm) rn [m]
    exact hK _ _ ⟨by rw [put_defers]; exact hst.d, by rw [put_size]; exact hst.s, hst.b.trans hB, _, hfit⟩
/-- a slice of one struct that owns -/
theorem op_slice1 {o : Oper} {σ : AS} {t : TypeId} {x : Operand} (m : Nat) (ho : o.op = .buildSlice t 1 #[(0, x)]) {e : TypeId} {zv : Value} {sz b : Nat} (ht : P.underlying t = some (.slice e)) (hi : TI P e zv sz b) (hzs : Nat.beq zv.cells.size sz = true) (hz0 : Nat.blt 0 sz = true) (hz1 : Nat.ble sz 16777216 = true) {q : Nat} {cs : List OC} (hx : σ.ev x = .ow q) (hq : σ.n q = .sv cs) (hl : Nat.beq cs.length sz = true) (hd : dOk o N = true) :
    OpS P N w0 U0 o σ ⟨o.dst.map fun d => (d, .ow m), [(m, .tr e sz [cs]), (q, .no)], [q], [m]⟩ := by
  obtain ⟨i, i1, i2, i3, i4⟩ := hi
  subst i3
  have hz0' := Nat.le_of_ble_eq_true hz0
  have hz1' := Nat.le_of_ble_eq_true hz1
  have hl' := Nat.eq_of_beq_eq_true hl
  intro σ' hok a w hst K Q hK
  obtain ⟨F, hF⟩ := hst.f
  have hv : a.eval x = F.γ q := ev_get hok hF (x := x) (by simp [ho, Op.operands]) hx
  have hq' : σ'.n q = .sv cs := by rw [hok.n q (by simp)]; exact hq
  have hlive : (σ'.n q).live = true := by rw [hq']; rfl
  have hob := hF.n q
  rw [hq'] at hob
  obtain ⟨vs, T, g1, g2, g3⟩ := hob
  have hvsz : vs.size = i.size := by have := g2.l; simpa [hl'] using this
  have hzv : ∀ w : World, (zeroValue e).run P w = .ok zv w := fun w => by simp [zeroValue, typeInfo, i1, i2]
  obtain ⟨zs, hzz⟩ : ∃ zs : Array Value, zs = ((Array.range (1 * i.size)).map fun k => zv.cells[k % zv.cells.size]!) := ⟨_, rfl⟩
  have hzsz : zs.size = i.size := by rw [hzz]; simp
  obtain ⟨cs', hcs'⟩ : ∃ cs' : Array Value, cs' = vs.zipIdx.foldl (fun cs (p : Value × Nat) => cs.setIfInBounds (0 * i.size + p.2) p.1) zs := ⟨_, rfl⟩
  have hcv : cs'.toList = vs.toList := by
    rw [hcs', ← Array.foldl_toList, Array.toList_zipIdx]
    have := fold_splice (0 * i.size) vs.toList 0 zs (by simp [hzsz, hvsz])
    rw [this]
    simp [hzsz, hvsz]
  have hfill : Instr.fill (fun j => some (j * i.size, i.size)) zs [(0, F.γ q)] = some cs' := by
    rw [hcs', g1]
    have hne : ¬ ((decide (vs.size ≠ i.size) || decide (0 * i.size + vs.size > zs.size)) = true) := by simp [hvsz, hzsz]
    exact (if_neg hne).trans rfl
  have hnr : (newRow e cs').run P w = .ok ⟨w.heap.size, 0, none⟩ (w.alloc (.cells cs' e)) := by simp [newRow, newObj, Sem.run]
  have hrun : (execOp a.eval o).run P w = .ok (.value (.slice (some ⟨w.heap.size, 0, none⟩) 1 1)) (w.alloc (.cells cs' e)) := by
    have hbig : ¬ (1 * i.size > 2 ^ 24) := by omega
    have hn0 : ¬ (1 * i.size = 0) := by omega
    have e1 : (((#[(0, x)] : Array (Nat × Operand)).map fun p => match p with | (i, x) => (i, a.eval x)).toList) = [(0, F.γ q)] := by simp [hv]
    unfold execOp
    simp only [ho, Instr.buildSlice, Sem.run_bind, run_underlying ht, Result.andThen_ok, run_sizeOf' i1, if_neg hbig, if_neg hn0, Sem.run_pure, hzv, ← hzz, e1, hfill, hnr]
  unfold Oper.wp
  rw [hrun]
  have hγγ : ∀ v : Value, (fun k => if k = m then v else F.γ k) m = v := fun v => if_pos rfl
  obtain ⟨U', hU'⟩ : ∃ U' : Nat → Nat, U' = fun b => if b = w.heap.size then 0 else F.U b := ⟨_, rfl⟩
  have hU1 : U' w.heap.size = 0 := by rw [hU']; simp
  have hU2 : ∀ b, b ≠ w.heap.size → U' b = F.U b := fun b hb => by rw [hU']; simp [hb]
  have hE : Ext w F.U (w.alloc (.cells cs' e)) U' := Up.ext ⟨fun b hlt => Below.heap_alloc w _ b hlt, fun b hlt => hU2 b (by omega)⟩
  have hTlt : ∀ k b, T k b → b < w.heap.size := fun k b h => (g2.lt h).2
  have hfit := hF.make (m := m) (ob := .tr e i.size [cs]) (ks := [q]) (γv := .slice (some ⟨w.heap.size, 0, none⟩) 1 1) (βv := none) (Sm := fun b => b = w.heap.size ∨ ∃ k, T k b) (U' := U') (w' := w.alloc (.cells cs' e)) (a' := a.put o.dst (.slice (some ⟨w.heap.size, 0, none⟩) 1 1)) (tw := o.dst.map fun d => (d, .ow m)) (hok.f m (by simp)) hE (fun b hb => hU2 b (by have := hst.b.size; omega)) (fun k b _ _ _ hlt => ⟨Below.heap_alloc w _ b hlt, hU2 b (by omega)⟩)
    (fun b hb => by
      rcases hb with hb | ⟨k, hb⟩
      · exact .inl (by omega)
      · exact .inr ⟨q, by simp, hlive, (g3 b).2 ⟨k, hb⟩⟩)
    ⟨cs'.toList, T, by
      simp only [↓reduceIte]
      refine ⟨by rw [hcv]; simp [hvsz], .inr ⟨w.heap.size, 1, cs', rfl, hst.b.size, Go.heap_alloc_new w _, Nat.le_refl _, by unfold maxLen; omega, ?_, ?_⟩⟩
      · have : cs'.size = vs.size := by have := congrArg List.length hcv; simpa using this
        rw [this, hvsz]; simp
      · rw [hcv]; rw [List.take_of_length_le (by simp [hvsz])], by
      rw [hcv]
      simp only [List.flatten_cons, List.flatten_nil, List.append_nil]
      exact g2.ext hE (fun k b hk hlt => ⟨Below.heap_alloc w _ b hlt, hU2 b (by omega)⟩), fun r hr => by simp at hr; rw [hr]; exact hl', fun b hb => by
      simp only [↓reduceIte] at hb
      have hb' : b = w.heap.size := by
        injection hb with hb
        exact hb.symm
      subst hb'
      exact ⟨hU1, fun k hk => by have := hTlt k _ hk; omega⟩, fun b => by
      simp only [↓reduceIte]
      constructor
      · rintro (h | h)
        · exact .inl (by rw [h]; rfl)
        · exact .inr h
      · rintro (h | h)
        · injection h with h; exact .inl h.symm
        · exact .inr h⟩
    (hta_put hd hst.s (.ow m) _).1 (fun d v h => by
      obtain ⟨rfl, h3⟩ := (hta_put hd hst.s (.ow m) (.slice (some ⟨w.heap.size, 0, none⟩) 1 1)).2 d v h
      rw [h3]; exact (hγγ _).symm) [q] [m]
  exact hK _ _ ⟨by rw [put_defers]; exact hst.d, by rw [put_size]; exact hst.s, hst.b.alloc hst.b.size _, _, hfit⟩
end
end Go.Proofs.Yteplcjhnmmpicaa.Av
