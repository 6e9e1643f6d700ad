/- Windows: the slice of an own row from an element on, while the row stays in use. Conditions: as each theorem names them. -/
import Derived.Test.YtipkielpicfobaaAvE
set_option linter.unusedSimpArgs false
set_option linter.unusedVariables false
namespace Go.Proofs.Ytipkielpicfobaa.Av
open Go Go.RowKit
section
variable {P : Program} {N : Nat} {w0 : World} {U0 : Nat → Nat}
def zcW (z : List Value) : Nat → List Value
  | 0 => []
  | n + 1 => z ++ zcW z n
theorem zcW_len (z : List Value) : ∀ n, (zcW z n).length = n * z.length
  | 0 => by simp [zcW]
  | n + 1 => by simp only [zcW, List.length_append, zcW_len z n]; rw [Nat.succ_mul]; omega
theorem zcW_one {z : List Value} (h : ∀ u ∈ z, u.oneCell' = true) : ∀ n, ∀ u ∈ zcW z n, u.oneCell' = true
  | 0, u, hu => by simp [zcW] at hu
  | n + 1, u, hu => (List.mem_append.1 hu).elim (h u) (zcW_one h n u)
theorem zcW_get (z : List Value) : ∀ (n i : Nat), i < n * z.length → (zcW z n)[i]? = z[i % z.length]?
  | 0, i, h => by simp at h
  | n + 1, i, h => by
    simp only [zcW]
    by_cases hi : i < z.length
    · rw [List.getElem?_append_left hi, Nat.mod_eq_of_lt hi]
    · rw [List.getElem?_append_right (by omega), zcW_get z n (i - z.length) (by rw [Nat.succ_mul] at h; omega), ← Nat.mod_eq_sub_mod (by omega)]
theorem zeroCells_zcW (z : Array Value) (n : Nat) : (Builtin.zeroCells z n).toList = zcW z.toList n := by
  apply List.ext_getElem?
  intro i
  by_cases hi : i < n * z.size
  · have hz : 0 < z.size := Nat.pos_of_ne_zero (fun e => by rw [e] at hi; simp at hi)
    rw [zcW_get _ _ _ (by simpa using hi)]
    have hm : i % z.size < z.size := Nat.mod_lt _ hz
    simp [Builtin.zeroCells, hi, hm]
  · rw [List.getElem?_eq_none (by simp [Builtin.zeroCells]; omega), List.getElem?_eq_none (by rw [zcW_len]; simpa using hi)]
theorem tDf {α : Type} {enc : α → List DV} (l : List α) : (tD enc l).flatten = ((l.map enc).flatten).map OC.dv := by unfold tD; rw [flat_map_dv]
theorem flatW_len {α : Type} {z : Nat} {f : α → List DV} (hf : ∀ a, (f a).length = z) : ∀ l : List α, ((l.map f).flatten).length = l.length * z
  | [] => by simp
  | a :: l => by simp only [List.map_cons, List.flatten_cons, List.length_append, List.length_cons, hf, flatW_len hf l, Nat.succ_mul]; omega
theorem op_sliceOwnZ {o : Oper} {σ : AS} {t : TypeId} {x hi : Operand} (m : Nat) (ho : o.op = .slice t x none (some hi) none) {e : TypeId} (hu : P.underlying t = some (.slice e)) {zv : Value} {z bb : Nat} (ht : TI P e zv z bb) {m0 : Nat} {e' : TypeId} {α : Type} {enc : α → List DV} (henc : ∀ a, (enc a).length = z) {A : List α} {rest : List (List OC)} (hs : σ.ev x = .ow m0) (hm : σ.n m0 = .tr e' z (tD enc A ++ rest))
    {ki : Int} (hk : σ.ev hi = .d (.fl (.int .i64 ki))) (hki : ki = (A.length : Int)) (hL : 0 < A.length + rest.length) (hd : dOk o N = true) :
    OpS P N w0 U0 o σ ⟨o.dst.map fun d => (d, .ow m), (m, .tr e' z (tD enc A)) :: [m0].map (fun q => (q, Ob.no)), [m0], [m]⟩ := by
  subst hki
  intro σ' hok a w hst K Q hK
  obtain ⟨F, hF⟩ := hst.f
  obtain ⟨i, t1, _, t3, _⟩ := ht
  have h1 : a.eval x = F.γ m0 := ev_get hok hF (x := x) (by simp [ho, Op.operands]) hs
  have h2 := flat_val (ev_get hok hF (x := hi) (by simp [ho, Op.operands]) hk)
  have hm' : σ'.n m0 = .tr e' z (tD enc A ++ rest) := by rw [hok.n m0 (by simp)]; exact hm
  have hlive : (σ'.n m0).live = true := by rw [hm']; rfl
  obtain ⟨n, hn⟩ : ∃ n, n = (tD enc A ++ rest).length := ⟨_, rfl⟩
  have hnA : A.length ≤ n := by rw [hn]; simp [tD_len]
  have hn0 : 0 < n := by rw [hn, List.length_append, tD_len]; exact hL
  obtain ⟨g, cap, cur, xs, T, e1, e2, e3, e4, e6, e7, g1, g2, g3, gU, gT, g5⟩ := tr_block hF hm' (by rw [← hn]; exact hn0)
  rw [← hn] at e1 e4 e7 g1
  have hown : (F.γ m0).ownBlock = some g := by rw [e1]; rfl
  have hu' : P.underlying t = some (.slice (P.elem t)) := by simp [Program.elem, hu]
  have hel : P.elem t = e := by simp [Program.elem, hu]
  have hrun : (execOp a.eval o).run P w = .ok (.value (.slice (some ⟨g, 0, none⟩) A.length cap)) w := by
    have hb := run_bounds (P := P) w n cap 0 A.length none (some (a.eval hi)) (.inl ⟨rfl, rfl⟩) (.inr ⟨.i64, by rw [h2]⟩) (Nat.zero_le _) hnA e4
    unfold execOp
    simp only [ho, h1, e1, Option.map_none, Option.map_some, Sem.run_bind, run_sliceAt_slice w t _ _ _ _ hu', run_slice_any w t _ _ _ hu', hb, Result.andThen_ok, hel, run_sizeOf' t1, Sem.run_pure]
    have hne : ¬ cap = 0 := by omega
    unfold sliced
    rw [if_neg hne]
    have ha : (⟨g, 0, none⟩ : Addr).add (0 * i.size) = ⟨g, 0, none⟩ := by simp [Addr.add]
    simp only [Option.map_some, ha, Nat.sub_zero]
  unfold Oper.wp
  rw [hrun]
  have hnz : A.length * z ≤ n * z := Nat.mul_le_mul_right z hnA
  have h5 : ∃ p, w.heap[g]? = some (.cells cur e' (0, 0)) ∧ p = cap * z := ⟨_, e3, rfl⟩
  have hxl : xs.length = n * z := g1.1
  have hrc' : Rc w F.U (xs.take (A.length * z)) ((A.map enc).flatten) := by
    have hfl : (tD enc A ++ rest).flatten = ((A.map enc).flatten).map OC.dv ++ rest.flatten := by rw [List.flatten_append, tDf]
    rw [hfl] at g2
    have hlA : ((A.map enc).flatten).length = A.length * z := flatW_len henc A
    refine ⟨⟨by rw [List.length_take, hlA]; omega, fun j u d h3 h4 => ?_⟩, fun u hu => g2.o u (List.mem_of_mem_take hu)⟩
    have hj : j < ((A.map enc).flatten).length := (List.getElem?_eq_some_iff.1 h4).1
    rw [List.getElem?_take_of_lt (by omega)] at h3
    have := g2.c j u (.dv d) h3 (by rw [List.getElem?_append_left (by rw [List.length_map]; exact hj), List.getElem?_map, h4]; rfl)
    exact this.1
  have hrow : w.ownsRow w0.heap.size e' z (.slice (some ⟨g, 0, none⟩) A.length cap) (tD enc A).length (xs.take (A.length * z)) := by
    rw [tD_len]
    refine ⟨by rw [List.length_take]; omega, .inr ⟨g, cap, cur, rfl, e2, e3, by omega, ?_, e6, ?_⟩⟩
    · rcases g1.2 with ⟨e0, _⟩ | ⟨q2, cap2, cur2, q1, _, _, _, q5, _, _⟩
      · rw [e1] at e0; cases e0
      · rw [e1] at q1; cases q1; exact q5
    · rw [← e7, List.take_take, Nat.min_eq_left hnz]
  have hfit := hF.make (m := m) (ob := .tr e' z (tD enc A)) (ks := [m0]) (γv := .slice (some ⟨g, 0, none⟩) A.length cap) (βv := none) (Sm := fun b => b = g) (U' := F.U) (w' := w) (a' := a.put o.dst (.slice (some ⟨g, 0, none⟩) A.length cap)) (tw := o.dst.map fun d => (d, .ow m)) (hok.f m (by simp)) Ext.rfl (fun _ _ => rfl)
    (fun k b hl hk hb hlt => ⟨rfl, rfl⟩)
    (fun b hb => .inr ⟨m0, by simp, hlive, by rw [hb]; exact (g5 g).2 (.inl rfl)⟩)
    (by
      refine ⟨xs.take (A.length * z), fun _ _ => False, by simp only [↓reduceIte]; exact hrow, by rw [tDf]; exact Tcs.ofRc hrc', fun r hr => ?_, fun b hb => ?_, fun b => ?_⟩
      · unfold tD at hr
        obtain ⟨y, hy, rfl⟩ := List.mem_map.1 hr
        first | (obtain ⟨q, _, rfl⟩ := List.mem_map.1 hy; simpa using henc q) | simpa using henc y
      · simp only [↓reduceIte] at hb
        have : g = b := by simpa [Value.ownBlock] using hb
        subst this
        exact ⟨gU, fun _ h => h⟩
      · simp only [↓reduceIte]
        constructor
        · intro h; left; rw [h]; rfl
        · rintro (h | ⟨_, h⟩)
          · have : g = b := by simpa [Value.ownBlock] using h
            exact this.symm
          · exact h.elim)
    (hta_put hd hst.s (.ow m) _).1 (fun d v' h => by
      obtain ⟨rfl, h3⟩ := (hta_put hd hst.s (.ow m) (.slice (some ⟨g, 0, none⟩) A.length cap)).2 d v' h
      rw [h3]; exact (if_pos rfl).symm) [m0] [m]
  exact hK _ _ ⟨by rw [put_defers]; exact hst.d, by rw [put_size]; exact hst.s, hst.b, _, hfit⟩
end
end Go.Proofs.Ytipkielpicfobaa.Av
