/- Windows: the slice of an own row from an element on, while the row stays in use. Conditions: as each theorem names them. -/
import Derived.Test.YtijjnbabdlllkaaAvE
set_option linter.unusedSimpArgs false
set_option linter.unusedVariables false
namespace Go.Proofs.Ytijjnbabdlllkaa.Av
open Go Go.RowKit
section
variable {P : Program} {N : Nat} {w0 : World} {U0 : Nat → Nat}
theorem win_at (g n c k z : Nat) : winV (.slice (some ⟨g, 0, none⟩) n c) k z = .slice (some ⟨g, k * z, none⟩) (n - k) (c - k) := by simp [winV, add_plain']
theorem op_win {o : Oper} {σ : AS} {t : TypeId} {x lo : Operand} (ho : o.op = .slice t x (some lo) none none) {e : TypeId} (hu : P.underlying t = some (.slice e)) {zv : Value} {z b : Nat} (hi : TI P e zv z b) {m : Nat} {e' : TypeId} {rows : List (List OC)} (hx : σ.ev x = .ow m) (hm : σ.n m = .tr e' z rows)
    {k : Nat} (hy : σ.ev lo = .d (.fl (.int .i64 (k : Int)))) (hk : k < rows.length) (hd : dOk o N = true) : OpS P N w0 U0 o σ ⟨o.dst.map fun d => (d, .wn m k z), [], [m], []⟩ :=
  opS_still (P := P) (av := .wn m k z) hd fun σ' hok a w F hF => by
    obtain ⟨i, t1, _, t3, _⟩ := hi
    have hm' : σ'.n m = .tr e' z rows := by rw [hok.n m (by simp)]; exact hm
    obtain ⟨g, cap, cur, xs, T, h1, _, _, h4, _⟩ := tr_block hF hm' (by omega)
    have hv : a.eval x = F.γ m := ev_get hok hF (x := x) (by simp [ho, Op.operands]) hx
    have h2 := Av.flat_val (ev_get hok hF (x := lo) (by simp [ho, Op.operands]) hy)
    refine ⟨winV (F.γ m) k z, ?_, rfl⟩
    rw [h1, win_at]
    rw [h1] at hv
    have hu' : P.underlying t = some (.slice (P.elem t)) := by simp [Program.elem, hu]
    have hel : P.elem t = e := by simp [Program.elem, hu]
    have hb := run_bounds (P := P) w rows.length cap k rows.length (some (a.eval lo)) none (.inr ⟨.i64, by rw [h2]⟩) (.inl ⟨rfl, rfl⟩) (Nat.le_of_lt hk) (Nat.le_refl _) h4
    unfold execOp
    simp only [ho, hv, Option.map_none, Option.map_some, Sem.run_bind, run_sliceAt_slice w t _ _ _ _ hu', run_slice_any w t _ _ _ hu', hb, Result.andThen_ok, hel, run_sizeOf' t1, Sem.run_pure]
    have hne : ¬ cap = k := by omega
    unfold sliced
    rw [if_neg hne]
    simp [add_plain', t3]
def zcW (z : List Value) : Nat → List Value
  | 0 => []
  | n + 1 => z ++ zcW z n
theorem zcW_len (z : List Value) : ∀ n, (zcW z n).length = n * z.length
  | 0 => by simp [zcW]
  | n + 1 => by simp only [zcW, List.length_append, zcW_len z n]; rw [Nat.succ_mul]; omega
theorem zcW_one {z : List Value} (h : ∀ u ∈ z, u.oneCell' = true) : ∀ n, ∀ u ∈ zcW z n, u.oneCell' = true
  | 0, u, hu => by simp [zcW] at hu
  | n + 1, u, hu => (List.mem_append.1 hu).elim (h u) (zcW_one h n u)
theorem zcW_get (z : List Value) : ∀ (n i : Nat), i < n * z.length → (zcW z n)[i]? = z[i % z.length]?
  | 0, i, h => by simp at h
  | n + 1, i, h => by
    simp only [zcW]
    by_cases hi : i < z.length
    · rw [List.getElem?_append_left hi, Nat.mod_eq_of_lt hi]
    · rw [List.getElem?_append_right (by omega), zcW_get z n (i - z.length) (by rw [Nat.succ_mul] at h; omega), ← Nat.mod_eq_sub_mod (by omega)]
theorem zeroCells_zcW (z : Array Value) (n : Nat) : (Builtin.zeroCells z n).toList = zcW z.toList n := by
  apply List.ext_getElem?
  intro i
  by_cases hi : i < n * z.size
  · have hz : 0 < z.size := Nat.pos_of_ne_zero (fun e => by rw [e] at hi; simp at hi)
    rw [zcW_get _ _ _ (by simpa using hi)]
    have hm : i % z.size < z.size := Nat.mod_lt _ hz
    simp [Builtin.zeroCells, hi, hm]
  · rw [List.getElem?_eq_none (by simp [Builtin.zeroCells]; omega), List.getElem?_eq_none (by rw [zcW_len]; simpa using hi)]
theorem tcs_un {w : World} {U : Nat → Nat} {B : Nat} {us vs : List Value} {ds : List DV} (h : Rc w U us ds) (hv : ∀ u ∈ vs, u.oneCell' = true) : Tcs w U B (us ++ vs) (ds.map OC.dv ++ List.replicate vs.length OC.un) (fun _ _ => False) := by
  have hl := h.1.1
  refine ⟨by simp [hl], fun k u c h1 h2 => ?_, fun u hu => (List.mem_append.1 hu).elim (h.2 u) (hv u), fun _ _ _ h => h.elim, fun _ _ h => h.elim⟩
  rcases Nat.lt_or_ge k us.length with q | q
  · rw [List.getElem?_append_left q] at h1
    rw [List.getElem?_append_left (by simp; omega), List.getElem?_map] at h2
    obtain ⟨d, hd, rfl⟩ := Option.map_eq_some_iff.1 h2
    exact ⟨h.1.2 k u d h1 hd, fun _ h => h⟩
  · rw [List.getElem?_append_right (by simp; omega), List.getElem?_replicate] at h2
    split at h2
    · cases h2; exact fun _ h => h
    · cases h2
theorem un_flat (z : Nat) : ∀ n, (List.replicate n (List.replicate z OC.un)).flatten = List.replicate (n * z) OC.un
  | 0 => by simp
  | n + 1 => by rw [List.replicate_succ, List.flatten_cons, un_flat z n, List.replicate_append_replicate]; congr 1; rw [Nat.succ_mul]; omega
theorem rc_take {w : World} {U : Nat → Nat} {us : List Value} {ds : List DV} (h : Rc w U us ds) (n : Nat) : Rc w U (us.take n) (ds.take n) := by
  refine ⟨⟨by have := h.1.1; simp [this], fun j u d h1 h2 => ?_⟩, fun u hu => h.2 u (List.mem_of_mem_take hu)⟩
  rw [List.getElem?_take] at h1 h2
  split at h1
  · rename_i hj; rw [if_pos hj] at h2; exact h.1.2 j u d h1 h2
  · cases h1
theorem flat_take {α : Type} {z : Nat} {f : α → List DV} (hf : ∀ a, (f a).length = z) : ∀ (l : List α) (k : Nat), ((l.map f).flatten).take (k * z) = ((l.take k).map f).flatten
  | [], k => by simp
  | a :: l, 0 => by simp
  | a :: l, k + 1 => by
    simp only [List.map_cons, List.flatten_cons, List.take_succ_cons]
    rw [← flat_take hf l k, List.take_append, hf, List.take_of_length_le (by rw [hf, Nat.succ_mul]; omega)]
    congr 2
    rw [Nat.succ_mul]; omega
theorem tDf {α : Type} {enc : α → List DV} (l : List α) : (tD enc l).flatten = ((l.map enc).flatten).map OC.dv := by unfold tD; rw [flat_map_dv]
theorem op_clear_wn {o : Oper} {σ : AS} {t e : TypeId} {x : Operand} (ho : o.op = .call { callee := .builtin .clear, args := #[x], argTypes := #[t] }) (ht : P.underlying t = some (.slice e)) {z : Nat} {zv : Value} {bb : Nat} (hi : TI P e zv z bb) (hzl : zv.cells.toList.length = z) (hone : (zv.cells.toList.all fun u => u.oneCell') = true)
    {m k : Nat} {α : Type} {enc : α → List DV} (henc : ∀ a, (enc a).length = z) {A : List α} (hx : σ.ev x = .wn m k z) (hm : σ.n m = .tr e z (tD enc A)) (hk : k < A.length) (hd : dOk o N = true) :
    OpS P N w0 U0 o σ ⟨o.dst.map fun d => (d, .d (.fl undef)), [(m, .tr e z (tD enc (A.take k) ++ List.replicate (A.length - k) (List.replicate z OC.un)))], [m], []⟩ := by
  obtain ⟨i, i1, i2, i3, i4⟩ := hi
  intro σ' hok a w hst K Q hK
  obtain ⟨F, hF⟩ := hst.f
  have hv : a.eval x = winV (F.γ m) k z := ev_get hok hF (x := x) (by simp [ho, Op.operands, Call.operands]) hx
  have hm' : σ'.n m = .tr e z (tD enc A) := by rw [hok.n m (by simp)]; exact hm
  obtain ⟨g, cap, cur, xs, T, k1, kB, k3, k4, k5, k6, k7, k8, k9, kU, kT, kS⟩ := tr_block hF hm' (by rw [tD_len]; omega)
  rw [tD_len] at k1 k4 k6 k7
  rw [tDf] at k8
  obtain ⟨hrc, hno⟩ := Tcs.noDv k8
  rw [k1, win_at] at hv
  have hAz : k * z + (A.length - k) * z = A.length * z := by rw [← Nat.add_mul]; congr 1; omega
  have hcapz : A.length * z ≤ cap * z := Nat.mul_le_mul_right z k4
  obtain ⟨news, hnews⟩ : ∃ news, news = zcW zv.cells.toList (A.length - k) := ⟨_, rfl⟩
  have hnl : news.length = (A.length - k) * z := by rw [hnews, zcW_len, hzl]
  have hn1 : ∀ u ∈ news, u.oneCell' = true := by rw [hnews]; exact zcW_one (fun u hu => List.all_eq_true.1 hone u hu) _
  have hst1 := run_storeCells_at (P := P) g (k * z) e news 0 cur w k3 (by omega) hn1
  obtain ⟨cur', hcur'⟩ : ∃ cur' : Array Value, cur' = (cur.toList.take (k * z + 0) ++ news ++ cur.toList.drop (k * z + 0 + news.length)).toArray := ⟨_, rfl⟩
  rw [← hcur'] at hst1
  have hc : (Builtin.clear_ #[t] o.type #[a.eval x]).run P w = .ok undef (w.setRow g cur') := by
    rw [hv]
    unfold Builtin.clear_
    have hzv : (zeroValue e).run P w = .ok zv w := by simp [zeroValue, typeInfo, i1, i2]
    obtain ⟨q, hq⟩ : ∃ q, A.length - k = q + 1 := ⟨A.length - k - 1, by omega⟩
    rw [hq] at hnews ⊢
    simp only [List.getElem?_toArray, List.getElem?_cons_zero, Sem.run_bind, run_underlying ht, Result.andThen_ok]
    simp only [Sem.run_bind, hzv, Result.andThen_ok, zeroCells_zcW, ← hnews, hst1, Sem.run_pure]
    rfl
  have hex : (execOp a.eval o).run P w = .ok (.value undef) (w.setRow g cur') := by simp [execOp, ho, resolve, invoke, builtin, hc]
  unfold Oper.wp
  rw [hex]
  have hheap : (w.setRow g cur').heap[g]? = some (.cells cur' e (0, 0)) := setRow_heap w g cur _ e (0, 0) k3
  have hoth : ∀ b, b ≠ g → (w.setRow g cur').heap[b]? = w.heap[b]? := fun b hb => setRow_other w g b _ hb
  have hE : Ext w F.U (w.setRow g cur') F.U := ⟨fun b' o' u hcu ho' => by
    by_cases hbb : b' = g
    · subst hbb; omega
    · exact ⟨(cell_setRow_other w g _ ⟨b', o', none⟩ hbb).trans hcu, ho'⟩, fun r es c hr hu => ⟨hoth r (fun e => by subst e; omega), rfl⟩⟩
  have hcl : cur'.size = cap * z := by rw [hcur']; simp; omega
  have hrow : cur'.toList.take (A.length * z) = xs.take (k * z) ++ news := by
    rw [hcur', ← k6]
    simp only [Nat.add_zero]
    have hcs : cur.toList.length = cap * z := by simp; omega
    rw [List.take_take, Nat.min_eq_left (by omega), List.append_assoc, List.take_append, List.length_take, hcs, Nat.min_eq_left (by omega), List.take_of_length_le (l := cur.toList.take (k * z)) (by simp; omega)]
    congr 1
    rw [List.take_append, List.take_of_length_le (l := news) (by omega), show A.length * z - k * z - news.length = 0 by omega, List.take_zero, List.append_nil]
  have hrc' : Rc (w.setRow g cur') F.U (xs.take (k * z)) (((A.take k).map enc).flatten) := by
    have := (rc_take hrc (k * z)).ext hE
    rwa [flat_take henc] at this
  have hll : (tD enc (A.take k) ++ List.replicate (A.length - k) (List.replicate z OC.un)).length = A.length := by simp [tD_len]; omega
  refine hK _ _ (callM_fit (o := o) (w' := w.setRow g cur') (k := .r) (ob' := .tr e z (tD enc (A.take k) ++ List.replicate (A.length - k) (List.replicate z OC.un))) (r := .d (.fl undef)) (U' := F.U) (S' := F.S m) m hst hF hm' rfl rfl hd ⟨rfl, rfl, rfl, Nat.zero_le _, fun b hb => by omega⟩ (fun b hb hS => ⟨hoth b (fun h => hS ((kS b).2 (.inl h))), rfl⟩) (fun b hb => .inl hb) ?_ (.fl _) [m])
  refine ⟨xs.take (k * z) ++ news, fun _ _ => False, ?_, ?_, fun r hr => ?_, fun b hb => ⟨?_, fun _ h => h⟩, fun b => ?_⟩
  · show (w.setRow g cur').ownsRow 0 e z (F.γ m) (tD enc (A.take k) ++ List.replicate (A.length - k) (List.replicate z OC.un)).length _
    rw [hll]
    have hxl : xs.length = A.length * z := k7.1
    refine ⟨by simp [hnl]; omega, .inr ⟨g, cap, cur', k1, Nat.zero_le _, hheap, k4, ?_, hcl, hrow⟩⟩
    rcases k7.2 with ⟨e0, _⟩ | ⟨g2, cap2, cur2, e1, e2, e3, e4, e5, e6, e7⟩
    · rw [k1] at e0; cases e0
    · rw [k1] at e1; cases e1; exact e5
  · rw [List.flatten_append, tDf, un_flat, ← hnl]
    exact tcs_un hrc' hn1
  · rcases List.mem_append.1 hr with h | h
    · unfold tD at h
      obtain ⟨y, hy, rfl⟩ := List.mem_map.1 h
      first | (obtain ⟨q, _, rfl⟩ := List.mem_map.1 hy; simpa using henc q) | simpa using henc y
    · rw [(List.mem_replicate.1 h).2]; simp
  · have : g = b := by
      have hb' : (F.γ m).ownBlock = some b := hb
      rw [k1] at hb'; simpa [Value.ownBlock] using hb'
    rw [← this]; exact kU
  · show F.S m b ↔ (_ ∨ _)
    rw [kS b]
    constructor
    · rintro (h | ⟨q, hq⟩)
      · left; show (F.γ m).ownBlock = some b; rw [k1, h]; rfl
      · exact absurd hq (hno q b)
    · rintro (h | ⟨_, h⟩)
      · have h' : (F.γ m).ownBlock = some b := h
        rw [k1] at h'; left; simpa [Value.ownBlock] using h'.symm
      · exact h.elim
theorem flatW_len {α : Type} {z : Nat} {f : α → List DV} (hf : ∀ a, (f a).length = z) : ∀ l : List α, ((l.map f).flatten).length = l.length * z
  | [] => by simp
  | a :: l => by simp only [List.map_cons, List.flatten_cons, List.length_append, List.length_cons, hf, flatW_len hf l, Nat.succ_mul]; omega
theorem op_sliceOwnZ {o : Oper} {σ : AS} {t : TypeId} {x hi : Operand} (m : Nat) (ho : o.op = .slice t x none (some hi) none) {e : TypeId} (hu : P.underlying t = some (.slice e)) {zv : Value} {z bb : Nat} (ht : TI P e zv z bb) {m0 : Nat} {e' : TypeId} {α : Type} {enc : α → List DV} (henc : ∀ a, (enc a).length = z) {A : List α} {rest : List (List OC)} (hs : σ.ev x = .ow m0) (hm : σ.n m0 = .tr e' z (tD enc A ++ rest))
    {ki : Int} (hk : σ.ev hi = .d (.fl (.int .i64 ki))) (hki : ki = (A.length : Int)) (hL : 0 < A.length + rest.length) (hd : dOk o N = true) :
    OpS P N w0 U0 o σ ⟨o.dst.map fun d => (d, .ow m), (m, .tr e' z (tD enc A)) :: [m0].map (fun q => (q, Ob.no)), [m0], [m]⟩ := by
  subst hki
  intro σ' hok a w hst K Q hK
  obtain ⟨F, hF⟩ := hst.f
  obtain ⟨i, t1, _, t3, _⟩ := ht
  have h1 : a.eval x = F.γ m0 := ev_get hok hF (x := x) (by simp [ho, Op.operands]) hs
  have h2 := flat_val (ev_get hok hF (x := hi) (by simp [ho, Op.operands]) hk)
  have hm' : σ'.n m0 = .tr e' z (tD enc A ++ rest) := by rw [hok.n m0 (by simp)]; exact hm
  have hlive : (σ'.n m0).live = true := by rw [hm']; rfl
  obtain ⟨n, hn⟩ : ∃ n, n = (tD enc A ++ rest).length := ⟨_, rfl⟩
  have hnA : A.length ≤ n := by rw [hn]; simp [tD_len]
  have hn0 : 0 < n := by rw [hn, List.length_append, tD_len]; exact hL
  obtain ⟨g, cap, cur, xs, T, e1, e2, e3, e4, e6, e7, g1, g2, g3, gU, gT, g5⟩ := tr_block hF hm' (by rw [← hn]; exact hn0)
  rw [← hn] at e1 e4 e7 g1
  have hown : (F.γ m0).ownBlock = some g := by rw [e1]; rfl
  have hu' : P.underlying t = some (.slice (P.elem t)) := by simp [Program.elem, hu]
  have hel : P.elem t = e := by simp [Program.elem, hu]
  have hrun : (execOp a.eval o).run P w = .ok (.value (.slice (some ⟨g, 0, none⟩) A.length cap)) w := by
    have hb := run_bounds (P := P) w n cap 0 A.length none (some (a.eval hi)) (.inl ⟨rfl, rfl⟩) (.inr ⟨.i64, by rw [h2]⟩) (Nat.zero_le _) hnA e4
    unfold execOp
    simp only [ho, h1, e1, Option.map_none, Option.map_some, Sem.run_bind, run_sliceAt_slice w t _ _ _ _ hu', run_slice_any w t _ _ _ hu', hb, Result.andThen_ok, hel, run_sizeOf' t1, Sem.run_pure]
    have hne : ¬ cap = 0 := by omega
    unfold sliced
    rw [if_neg hne]
    have ha : (⟨g, 0, none⟩ : Addr).add (0 * i.size) = ⟨g, 0, none⟩ := by simp [Addr.add]
    simp only [Option.map_some, ha, Nat.sub_zero]
  unfold Oper.wp
  rw [hrun]
  have hnz : A.length * z ≤ n * z := Nat.mul_le_mul_right z hnA
  have h5 : ∃ p, w.heap[g]? = some (.cells cur e' (0, 0)) ∧ p = cap * z := ⟨_, e3, rfl⟩
  have hxl : xs.length = n * z := g1.1
  have hrc' : Rc w F.U (xs.take (A.length * z)) ((A.map enc).flatten) := by
    have hfl : (tD enc A ++ rest).flatten = ((A.map enc).flatten).map OC.dv ++ rest.flatten := by rw [List.flatten_append, tDf]
    rw [hfl] at g2
    have hlA : ((A.map enc).flatten).length = A.length * z := flatW_len henc A
    refine ⟨⟨by rw [List.length_take, hlA]; omega, fun j u d h3 h4 => ?_⟩, fun u hu => g2.o u (List.mem_of_mem_take hu)⟩
    have hj : j < ((A.map enc).flatten).length := (List.getElem?_eq_some_iff.1 h4).1
    rw [List.getElem?_take_of_lt (by omega)] at h3
    have := g2.c j u (.dv d) h3 (by rw [List.getElem?_append_left (by rw [List.length_map]; exact hj), List.getElem?_map, h4]; rfl)
    exact this.1
  have hrow : w.ownsRow w0.heap.size e' z (.slice (some ⟨g, 0, none⟩) A.length cap) (tD enc A).length (xs.take (A.length * z)) := by
    rw [tD_len]
    refine ⟨by rw [List.length_take]; omega, .inr ⟨g, cap, cur, rfl, e2, e3, by omega, ?_, e6, ?_⟩⟩
    · rcases g1.2 with ⟨e0, _⟩ | ⟨q2, cap2, cur2, q1, _, _, _, q5, _, _⟩
      · rw [e1] at e0; cases e0
      · rw [e1] at q1; cases q1; exact q5
    · rw [← e7, List.take_take, Nat.min_eq_left hnz]
  have hfit := hF.make (m := m) (ob := .tr e' z (tD enc A)) (ks := [m0]) (γv := .slice (some ⟨g, 0, none⟩) A.length cap) (βv := none) (Sm := fun b => b = g) (U' := F.U) (w' := w) (a' := a.put o.dst (.slice (some ⟨g, 0, none⟩) A.length cap)) (tw := o.dst.map fun d => (d, .ow m)) (hok.f m (by simp)) Ext.rfl (fun _ _ => rfl)
    (fun k b hl hk hb hlt => ⟨rfl, rfl⟩)
    (fun b hb => .inr ⟨m0, by simp, hlive, by rw [hb]; exact (g5 g).2 (.inl rfl)⟩)
    (by
      refine ⟨xs.take (A.length * z), fun _ _ => False, by simp only [↓reduceIte]; exact hrow, by rw [tDf]; exact Tcs.ofRc hrc', fun r hr => ?_, fun b hb => ?_, fun b => ?_⟩
      · unfold tD at hr
        obtain ⟨y, hy, rfl⟩ := List.mem_map.1 hr
        first | (obtain ⟨q, _, rfl⟩ := List.mem_map.1 hy; simpa using henc q) | simpa using henc y
      · simp only [↓reduceIte] at hb
        have : g = b := by simpa [Value.ownBlock] using hb
        subst this
        exact ⟨gU, fun _ h => h⟩
      · simp only [↓reduceIte]
        constructor
        · intro h; left; rw [h]; rfl
        · rintro (h | ⟨_, h⟩)
          · have : g = b := by simpa [Value.ownBlock] using h
            exact this.symm
          · exact h.elim)
    (hta_put hd hst.s (.ow m) _).1 (fun d v' h => by
      obtain ⟨rfl, h3⟩ := (hta_put hd hst.s (.ow m) (.slice (some ⟨g, 0, none⟩) A.length cap)).2 d v' h
      rw [h3]; exact (if_pos rfl).symm) [m0] [m]
  exact hK _ _ ⟨by rw [put_defers]; exact hst.d, by rw [put_size]; exact hst.s, hst.b, _, hfit⟩
theorem op_winD {o : Oper} {σ : AS} {t : TypeId} {x lo : Operand} (ho : o.op = .slice t x (some lo) none none) {e : TypeId} (hu : P.underlying t = some (.slice e)) {zv : Value} {z b : Nat} (hi : TI P e zv z b) {m : Nat} {e' : TypeId} {α : Type} {enc : α → List DV} {A : List α} (hx : σ.ev x = .ow m) (hm : σ.n m = .tr e' z (tD enc A))
    {k : Nat} {ki : Int} (hy : σ.ev lo = .d (.fl (.int .i64 ki))) (hki : ki = (k : Int)) (hk : k < A.length) (hd : dOk o N = true) : OpS P N w0 U0 o σ ⟨o.dst.map fun d => (d, .wn m k z), [], [m], []⟩ := by
  subst hki
  exact op_win ho hu hi hx hm hy (by rw [tD_len]; exact hk) hd
end
end Go.Proofs.Ytijjnbabdlllkaa.Av
