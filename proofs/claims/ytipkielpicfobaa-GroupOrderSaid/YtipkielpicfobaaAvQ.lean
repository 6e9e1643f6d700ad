/- So many zeros behind nothing (slices.Grow of nil), a slice of nothing, an empty row of the call's own that is handed on. Conditions: as each theorem names them. -/
import Derived.Test.YtipkielpicfobaaAvW
import Derived.Test.YtipkielpicfobaaAvH
import Derived.Laws.AppendOwn
set_option linter.unusedSimpArgs false
set_option linter.unusedVariables false
namespace Go.Proofs.Ytipkielpicfobaa.Av
open Go Go.RowKit
section
variable {P : Program} {N : Nat} {w0 : World} {U0 : Nat → Nat}
theorem run_zeros {t t2 ty e : TypeId} {k2 : IntKind} {kk : IntKind} {i : TypeInfo} {z : Value} (ht : P.underlying t = some (.slice e)) (h2 : P.underlying t2 = some (.int k2)) (hi : P.info? e = some i) (hz : i.zero = some z)
    {w : World} {q : Int} (hq : 0 < q) (hw : IntKind.i64.wrap q = q) (h63 : q.toNat ≤ maxLen) (hb : q.toNat * i.bytes ≤ 140737488355328) (hsz : 0 < i.size) :
    (Builtin.append_ #[t, t2] ty #[.slice none 0 0, .int kk q]).run P w = .ok (.slice (some ⟨w.heap.size, 0, none⟩) q.toNat (grownCap w q.toNat 0 e))
      (w.drew.alloc (.cells (Builtin.zeroCells z.cells q.toNat ++ Builtin.zeroCells z.cells (grownCap w q.toNat 0 e - q.toNat)) e)) := by
  have h63' : ¬ (9223372036854775807 < (q.toNat : Int)) := by unfold maxLen at h63; omega
  have hqn : 0 < q.toNat := by omega
  have hfit := growslice_fits (show 0 < q.toNat from hqn) hb
  have h48' : ¬ (281474976710656 < Builtin.nextslicecap q.toNat 0 * i.bytes) := by omega
  have hl : ¬ q < 0 := by omega
  have hbi : ¬ (281474976710656 : Int) < q * (i.bytes : Int) := by
    have e : q = (q.toNat : Int) := by omega
    rw [e, ← Int.natCast_mul]; omega
  have hn0 : ¬ q.toNat = 0 := by omega
  have hn1 : ¬ q ≤ 0 := by omega
  have hm : ¬ q.toNat * i.size = 0 := Nat.pos_iff_ne_zero.1 (Nat.mul_pos hqn hsz)
  have hs0 : ¬ i.size = 0 := by omega
  have hmx : ¬ (9223372036854775807 < max q 0) := by omega
  simp [Builtin.append_, run_underlying ht, run_underlying h2, sizeOf, typeInfo, zeroValue, hi, hz, asInt, asIntOf, hw, hl, hbi, hn0, hn1, hs0, hm, hmx, h63', h48', Question.forced, newRow, grownCap, Builtin.firstCells]
theorem op_rowNewD {o : Oper} {σ : AS} {e : TypeId} (m : Nat) {rows : List (List DV)} {z : Nat} {rn : List Nat} (hd : dOk o N = true) (hz : ∀ r ∈ rows, r.length = z)
    (h : ∀ σ', (⟨o.dst.map fun d => (d, .ow m), (m, .tr e z (rows.map (·.map .dv))) :: ([] : List Nat).map (fun q => (q, Ob.no)), rn, [m]⟩ : Eff).ok o σ σ' → ∀ a w F, Fits w0 U0 σ' a w F → w0.heap.size ≤ w.heap.size →
      ∃ c cur, (execOp a.eval o).run P w = .ok (.value (.slice (some ⟨w.heap.size, 0, none⟩) rows.length c)) (w.drew.alloc (.cells cur e)) ∧ rows.length ≤ c ∧ c ≤ maxLen ∧ cur.size = c * z ∧ ∀ w' U', Rc w' U' (cur.toList.take (rows.length * z)) rows.flatten) :
    OpS P N w0 U0 o σ ⟨o.dst.map fun d => (d, .ow m), (m, .tr e z (rows.map (·.map .dv))) :: ([] : List Nat).map (fun q => (q, Ob.no)), rn, [m]⟩ := by
  intro σ' hok a w1 hst1 K Q hK
  obtain ⟨F1, hF1⟩ := hst1.f
  obtain ⟨c, cur, hex, h1, h2, h3, h4⟩ := h σ' hok a w1 F1 hF1 hst1.b.size
  unfold Oper.wp
  rw [hex]
  have hst : St N w0 U0 σ' a w1.drew := fits_drew hst1
  have hheap : w1.heap.size = w1.drew.heap.size := rfl
  rw [hheap]
  generalize w1.drew = w at hst
  obtain ⟨F, hF⟩ := hst.f
  have hU2 : ∀ b, b < w.heap.size → (fun b => if b = w.heap.size then 0 else F.U b) b = F.U b := fun b hb => by simp; intro h; omega
  have hE : Ext w F.U (w.alloc (.cells cur e)) (fun b => if b = w.heap.size then 0 else F.U b) := Up.ext ⟨fun b hlt => Below.heap_alloc w _ b hlt, hU2⟩
  have hlen : (rows.map (·.map OC.dv)).length = rows.length := by simp
  have hxl : (cur.toList.take (rows.length * z)).length = rows.length * z := by
    have := Nat.mul_le_mul_right z h1
    simp; omega
  have hfit := hF.make (m := m) (ob := .tr e z (rows.map (·.map .dv))) (ks := []) (γv := .slice (some ⟨w.heap.size, 0, none⟩) rows.length c) (βv := none) (Sm := fun b => b = w.heap.size) (U' := fun b => if b = w.heap.size then 0 else F.U b) (w' := w.alloc (.cells cur e)) (a' := a.put o.dst (.slice (some ⟨w.heap.size, 0, none⟩) rows.length c)) (tw := o.dst.map fun d => (d, .ow m)) (hok.f m (by simp)) hE (fun b hb => hU2 b (by have := hst.b.size; omega)) (fun k b _ _ _ hlt => ⟨Below.heap_alloc w _ b hlt, hU2 b hlt⟩) (fun b h => .inl (by omega))
    ⟨cur.toList.take (rows.length * z), fun _ _ => False, by
      simp only [↓reduceIte, hlen]
      exact ⟨hxl, .inr ⟨w.heap.size, c, cur, rfl, hst.b.size, Go.heap_alloc_new w _, h1, h2, h3, rfl⟩⟩, by rw [flat_map_dv]; exact Tcs.ofRc (h4 _ _), (fun r hr => by
      obtain ⟨r', h5, rfl⟩ := List.mem_map.1 hr
      simpa using hz r' h5), fun b hb => by
      simp only [↓reduceIte] at hb
      injection hb with hb
      subst hb
      exact ⟨by simp, fun _ h => h⟩, fun b => by
      simp only [↓reduceIte]
      constructor
      · intro h; exact .inl (by rw [h]; rfl)
      · rintro (h | ⟨_, h⟩)
        · injection h with h; exact h.symm
        · exact h.elim⟩
    (hta_put hd hst.s (.ow m) _).1 (fun d v h => by
      obtain ⟨rfl, h3⟩ := (hta_put hd hst.s (.ow m) (.slice (some ⟨w.heap.size, 0, none⟩) rows.length c)).2 d v h
      rw [h3]; exact (if_pos rfl).symm) rn [m]
  exact hK _ _ ⟨by rw [put_defers]; exact hst.d, by rw [put_size]; exact hst.s, hst.b.alloc hst.b.size _, _, hfit⟩
theorem zcW_flat {α : Type} {enc : α → List DV} {z0 : α} {z : List Value} (hz : enc z0 = z.map DV.fl) : ∀ n, ((List.replicate n z0).map enc).flatten = (zcW z n).map DV.fl
  | 0 => rfl
  | n + 1 => by rw [List.replicate_succ, List.map_cons, List.flatten_cons, zcW_flat hz n, hz, ← List.map_append]; rfl
theorem op_appendZ {o : Oper} {σ : AS} {t t2 e : TypeId} {s x : Operand} (m : Nat) (ho : o.op = .call { callee := .builtin .append, args := #[s, x], argTypes := #[t, t2] }) (ht : P.underlying t = some (.slice e)) {k2 : IntKind} (ht2 : P.underlying t2 = some (.int k2)) {zv : Value} {sz b : Nat} (hi : TI P e zv sz b) (hz0 : Nat.blt 0 sz = true)
    {n : Nat} {q : Int} (hs : σ.ev s = .d (.fl (.slice none 0 0))) (hx : σ.ev x = .d (.fl (.int .i64 q))) (hq : q = (n : Int)) (hn : 0 < n) (hb : n * (b + 1) ≤ 140737488355328) {α : Type} {enc : α → List DV} {z0 : α} (hz : enc z0 = zv.cells.toList.map DV.fl) (hzs : zv.cells.size = sz) (h1 : ∀ v ∈ zv.cells.toList, v.oneCell' = true) (hd : dOk o N = true) :
    OpS P N w0 U0 o σ ⟨o.dst.map fun d => (d, .ow m), (m, .tr e sz (tD enc (List.replicate n z0))) :: ([] : List Nat).map (fun q => (q, Ob.no)), [], [m]⟩ := by
  obtain ⟨i, i1, i2, i3, i4⟩ := hi
  subst i4
  subst hq
  have hlen : ((List.replicate n z0).map enc).length = n := by simp
  have hz0' := Nat.le_of_ble_eq_true hz0
  have q1 : n * 1 ≤ n * (i.bytes + 1) := Nat.mul_le_mul_left _ (by omega)
  have q2 : n * i.bytes ≤ n * (i.bytes + 1) := Nat.mul_le_mul_left _ (by omega)
  refine op_rowNewD (rows := (List.replicate n z0).map enc) m hd (fun r hr => by
    obtain ⟨x, hx', rfl⟩ := List.mem_map.1 hr
    rw [List.eq_of_mem_replicate hx', hz]; simpa using hzs) fun σ' hok a w F hF hst => ?_
  have h1' := flat_val (ev_get hok hF (x := s) (by simp [ho, Op.operands, Call.operands]) hs)
  have h2 := flat_val (ev_get hok hF (x := x) (by simp [ho, Op.operands, Call.operands]) hx)
  have hr := run_zeros (P := P) (ty := o.type) (kk := .i64) (w := w) (q := (n : Int)) ht ht2 i1 i2 (by omega) (by rw [IntKind.wrap_i64]; omega) (by unfold maxLen; simp; omega) (by simpa using Nat.le_trans q2 hb) (by omega)
  rw [hlen]
  have hn2 : ((n : Int)).toNat = n := by simp
  rw [hn2] at hr
  have hge := grownCap_ge w n 0 e
  refine ⟨grownCap w n 0 e, Builtin.zeroCells zv.cells n ++ Builtin.zeroCells zv.cells (grownCap w n 0 e - n), ?_, hge, ?_, ?_, fun w' U' => ?_⟩
  · unfold execOp
    simp only [ho, resolve, invoke, builtin, Sem.run_bind, Sem.run_pure, Result.andThen_ok, List.map_toArray, List.map_cons, List.map_nil, h1', h2, hr]
  · exact grownCap_le_maxLen _ _ _ _ (by unfold maxLen; omega)
  · rw [Array.size_append, size_zeroCells, size_zeroCells, hzs, ← Nat.add_mul, Nat.add_sub_cancel' hge]
  · have hsz2 : (Builtin.zeroCells zv.cells n).toList.length = n * sz := by simp [size_zeroCells, hzs]
    rw [Array.toList_append, List.take_append_of_le_length (by omega), List.take_of_length_le (by omega), zeroCells_zcW, zcW_flat hz]
    exact rc_ofF (zcW_one h1 n)
theorem op_slice_nil {o : Oper} {σ : AS} {t : TypeId} {x hi : Operand} (ho : o.op = .slice t x none (some hi) none) {e : TypeId} (hu : P.underlying t = some (.slice e)) {zv : Value} {sz b : Nat} (ht : TI P e zv sz b) (hx : σ.ev x = .d (.fl (.slice none 0 0))) (hk : σ.ev hi = .d (.fl (.int .i64 0))) (hd : dOk o N = true) :
    OpS P N w0 U0 o σ ⟨o.dst.map fun d => (d, .d (.fl (.slice none 0 0))), [], [], []⟩ :=
  opS_still hd fun σ' hok a w F hF => by
    have h1 := flat_val (ev_get hok hF (x := x) (by simp [ho, Op.operands]) hx)
    have h2 := flat_val (ev_get hok hF (x := hi) (by simp [ho, Op.operands]) hk)
    obtain ⟨i, t1, _, t3, _⟩ := ht
    have hu' : P.underlying t = some (.slice (P.elem t)) := by simp [Program.elem, hu]
    have hel : P.elem t = e := by simp [Program.elem, hu]
    have hb := run_bounds (P := P) w 0 0 0 0 none (some (a.eval hi)) (.inl ⟨rfl, rfl⟩) (.inr ⟨.i64, by rw [h2]; rfl⟩) (Nat.le_refl _) (Nat.le_refl _) (Nat.le_refl _)
    refine ⟨.slice none 0 0, ?_, .fl _⟩
    unfold execOp
    simp only [ho, h1, Option.map_none, Option.map_some, Sem.run_bind, run_sliceAt_slice w t _ _ _ _ hu', run_slice_any w t _ _ _ hu', hb, Result.andThen_ok, hel, run_sizeOf' t1, Sem.run_pure]
    rfl
end
end Go.Proofs.Ytipkielpicfobaa.Av
