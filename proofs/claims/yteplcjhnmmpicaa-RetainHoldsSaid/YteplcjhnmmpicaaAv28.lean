/- A row of strings of the call's own, out of which a function takes elements in place. Conditions: as each theorem names them. -/
import Derived.Test.YteplcjhnmmpicaaAv27
import Derived.Laws.IdiomCopy
import Derived.Deep.Upon
import Derived.Lib.EndianMore
import Derived.Deep.Draws
set_option linter.unusedSimpArgs false
set_option linter.unusedVariables false
namespace Go.Proofs.Yteplcjhnmmpicaa.Av
open Go Go.RowKit
/-- f(s, i, j) takes the elements from i on and ahead of j out of a row of strings, in place -/
def DelOk (P : Program) (f : FuncId) : Prop :=
  ∀ (b c i j : Nat) (L : List ByteArray) (w : World), L.length ≤ c → c ≤ 9223372036854775807 → i ≤ j → j ≤ L.length →
    (∀ (k : Nat) (s : ByteArray), L[k]? = some s → w.cell? ⟨b, k, none⟩ = some (.string s)) → (∀ k, k < L.length → w.frozen? ⟨b, k, none⟩ = false) →
    Calls P f #[.slice (some ⟨b, 0, none⟩) L.length c, .int .i64 i, .int .i64 j] w fun e w' => e = .returned (.slice (some ⟨b, 0, none⟩) (L.length - (j - i)) c) ∧
      ∃ q, w' = (w.drewN q).setCells b 0 ((L.take i ++ L.drop j).map Value.string ++ List.replicate (j - i) (.string ⟨#[]⟩))
theorem heap_setCells_at {g : Nat} {e : TypeId} : ∀ (vs : List Value) (o : Nat) (w : World) (cur : Array Value), w.heap[g]? = some (.cells cur e (0, 0)) → ∃ cur' : Array Value, (w.setCells g o vs).heap[g]? = some (.cells cur' e (0, 0)) ∧ cur'.size = cur.size
  | [], _, _, cur, h => ⟨cur, h, rfl⟩
  | v :: r, o, w, cur, h => by
    obtain ⟨cur', h1, h2⟩ := heap_setCells_at r (o + 1) (w.setCell ⟨g, o, none⟩ v) _ (heap_setCell_same w g o cur e v h)
    exact ⟨cur', h1, by rw [h2]; simp⟩
theorem rS_flat : ∀ L : List ByteArray, (L.map rS).flatten = L.map fun s => DV.fl (.string s)
  | [] => rfl
  | a :: L => by
    show [DV.fl (.string a)] ++ (L.map rS).flatten = _
    rw [rS_flat L]; rfl
theorem sRow_flat (L : List ByteArray) : (tD rS L).flatten = (L.map fun s => DV.fl (.string s)).map OC.dv := by
  unfold tD
  rw [flat_map_dv, rS_flat]
theorem sRow_len (L : List ByteArray) : (tD rS L).length = L.length := by simp [tD]
section
variable {P : Program} {N : Nat} {w0 : World} {U0 : Nat → Nat}
theorem op_callDel {o : Oper} {σ : AS} {f : FuncId} {s x y : Operand} {ats : Array TypeId} (m : Nat) (ho : o.op = .call { callee := .value (.func f), args := #[s, x, y], argTypes := ats }) {fn : Func} (hf : P.funcs[f]? = some fn) (hn : (fn.name == "runtime.NumGoroutine") = false) (hb : fn.body.isNone = false)
    (hc : DelOk P f) {m0 : Nat} {e : TypeId} {L : List ByteArray} {i j : Nat} {xi yj : Int} (hs : σ.ev s = .ow m0) (hm : σ.n m0 = .tr e 1 (tD rS L)) (hx : σ.ev x = .d (.fl (.int .i64 xi))) (hy : σ.ev y = .d (.fl (.int .i64 yj))) (hxi : xi = (i : Int)) (hyj : yj = (j : Int)) (hij : i ≤ j) (hj : j ≤ L.length) (hL : 0 < L.length) (hd : dOk o N = true) :
    OpS P N w0 U0 o σ ⟨o.dst.map fun d => (d, .ow m), (m, .tr e 1 (tD rS (L.take i ++ L.drop j))) :: [m0].map (fun q => (q, Ob.no)), [m0], [m]⟩ := by
  subst hxi hyj
  intro σ' hok a w hst K Q hK
  obtain ⟨F, hF⟩ := hst.f
  have h1 : a.eval s = F.γ m0 := ev_get hok hF (x := s) (by simp [ho, Op.operands, Call.operands]) hs
  have h2 := flat_val (ev_get hok hF (x := x) (by simp [ho, Op.operands, Call.operands]) hx)
  have h3 := flat_val (ev_get hok hF (x := y) (by simp [ho, Op.operands, Call.operands]) hy)
  have hm' : σ'.n m0 = .tr e 1 (tD rS L) := by rw [hok.n m0 (by simp)]; exact hm
  have hlive : (σ'.n m0).live = true := by rw [hm']; rfl
  have hob := hF.n m0
  rw [hm'] at hob
  obtain ⟨xs, T, g1, g2, g3, g4, g5⟩ := hob
  have hlen : (tD rS L).length = L.length := sRow_len L
  rw [hlen] at g1
  obtain ⟨g1a, g1b⟩ := g1
  rcases g1b with ⟨_, h0⟩ | ⟨g, cap, cur, e1, e2, e3, e4, e5, e6, e7⟩
  · omega
  have hown : (F.γ m0).ownBlock = some g := by rw [e1]; rfl
  obtain ⟨gU, gT⟩ := g4 g hown
  rw [sRow_flat] at g2
  obtain ⟨hrc, hno⟩ := Tcs.noDv g2
  have hxs : ∀ (k : Nat) (q : ByteArray), L[k]? = some q → xs[k]? = some (.string q) := by
    intro k q hq
    have hk := (List.getElem?_eq_some_iff.1 hq).1
    have hxk : k < xs.length := by rw [g1a]; omega
    have := hrc.1.2 k _ (.fl (.string q)) (List.getElem?_eq_getElem hxk) (by simp [hq])
    rw [List.getElem?_eq_getElem hxk]
    exact congrArg some (rd_fl this)
  have hcur : ∀ (k : Nat) (q : ByteArray), L[k]? = some q → w.cell? ⟨g, k, none⟩ = some (.string q) := by
    intro k q hq
    have hk := (List.getElem?_eq_some_iff.1 hq).1
    rw [cell_of_row w g k cur e (0, 0) e3]
    have := take_get e7 (k := k) (by omega)
    rw [hxs k q hq] at this
    simpa using this
  have hcall := hc g cap i j L w e4 (Nat.le_trans e5 (by decide)) hij hj hcur (fun k _ => frozen_of_row w g k cur e e3)
  have hex : (execOp a.eval o).run P w = .ok (.enter f #[.slice (some ⟨g, 0, none⟩) L.length cap, .int .i64 (i : Int), .int .i64 (j : Int)]) w := by
    unfold execOp
    simp only [ho, resolve, Act.eval, Deferred.ofValue, invoke, Sem.run_bind, Sem.run_pure, Result.andThen_ok]
    have e1' : (#[] ++ Array.map a.eval #[s, x, y] ++ #[] : Array Value) = #[.slice (some ⟨g, 0, none⟩) L.length cap, .int .i64 (i : Int), .int .i64 (j : Int)] := by
      apply Array.ext'
      simp [h1, h2, h3, e1]
    rw [e1']
    exact run_call hf hn hb _ w
  unfold Oper.wp
  rw [hex, Oper.upon_enter]
  refine Calls.mono hcall ?_
  rintro ex w' ⟨rfl, q, rfl⟩
  have hvl : ((L.take i ++ L.drop j).map Value.string ++ List.replicate (j - i) (Value.string ⟨#[]⟩)).length = L.length := by
    simp
    omega
  obtain ⟨vs, hvs⟩ : ∃ vs, vs = (L.take i ++ L.drop j).map Value.string ++ List.replicate (j - i) (Value.string ⟨#[]⟩) := ⟨_, rfl⟩
  rw [← hvs] at hvl ⊢
  have hglt : g < w.heap.size := (Array.getElem?_eq_some_iff.1 e3).1
  have e3' : (w.drewN q).heap[g]? = some (.cells cur e (0, 0)) := e3
  obtain ⟨cur', c1, c2⟩ := heap_setCells_at vs 0 (w.drewN q) cur e3'
  have hcells : ∀ k (hk : k < vs.length), cur'[k]? = some vs[k] := by
    intro k hk
    have := World.cell?_setCells_in g vs 0 (w.drewN q) (fun k hk => by
      have hk' : k < L.length := by omega
      show ((w.drewN q).cell? ⟨g, 0 + k, none⟩).isSome = true
      rw [Nat.zero_add]
      show (w.cell? ⟨g, k, none⟩).isSome = true
      rw [hcur k _ (List.getElem?_eq_getElem hk')]; rfl) k hk
    rw [Nat.zero_add, cell_of_row _ g k cur' e (0, 0) c1] at this
    exact this
  have hbel0 : Below w0.heap.size w0 (w.drewN q) := ⟨hst.b.os, hst.b.tape, hst.b.output, hst.b.size, hst.b.block⟩
  have hbel : Below w0.heap.size w0 ((w.drewN q).setCells g 0 vs) := hbel0.trans (Lib.below_setCells_w e2 vs 0 _)
  have hoth : ∀ k, k < w.heap.size → k ≠ g → ((w.drewN q).setCells g 0 vs).heap[k]? = w.heap[k]? := fun k hk hne => World.heap_setCells_other (w.drewN q) g 0 vs hk hne
  have hE : Ext w F.U ((w.drewN q).setCells g 0 vs) F.U := by
    refine ⟨fun b off u hcl ho' => ?_, fun r es c hr hu => ?_⟩
    · have hb : b ≠ g := fun h => by rw [h, gU] at ho'; omega
      have hlt := World.block_lt_of_cell? w _ hcl
      exact ⟨(World.cell?_of_block (hoth b hlt hb)).trans hcl, ho'⟩
    · have hb : r ≠ g := fun h => by rw [h, gU] at hu; omega
      exact ⟨hoth r (Array.getElem?_eq_some_iff.1 hr).1 hb, rfl⟩
  obtain ⟨L', hL'⟩ : ∃ L', L' = L.take i ++ L.drop j := ⟨_, rfl⟩
  have hL'l : L'.length = L.length - (j - i) := by rw [hL']; simp; omega
  have hLe : L'.length ≤ L.length := by omega
  rw [← hL'] at hvs hK
  have htake : cur'.toList.take (L'.length * 1) = L'.map Value.string := by
    apply List.ext_getElem?
    intro k
    rw [Nat.mul_one]
    rcases Nat.lt_or_ge k L'.length with hk | hk
    · rw [List.getElem?_take_of_lt hk]
      have hkv : k < vs.length := by omega
      have h5 := hcells k hkv
      have h6 : vs[k]? = (L'.map Value.string)[k]? := by rw [hvs, List.getElem?_append_left (by simp; exact hk)]
      rw [List.getElem?_eq_getElem hkv] at h6
      rw [← h6, ← h5]; simp
    · rw [List.getElem?_eq_none (by simp; omega), List.getElem?_eq_none (by simp; exact hk)]
  have hrow : ((w.drewN q).setCells g 0 vs).ownsRow w0.heap.size e 1 (.slice (some ⟨g, 0, none⟩) (L.length - (j - i)) cap) (tD rS L').length (L'.map Value.string) := by
    refine ⟨by rw [sRow_len]; simp, .inr ⟨g, cap, cur', by rw [sRow_len, hL'l], e2, c1, by rw [sRow_len]; omega, e5, by rw [c2, e6], by rw [sRow_len]; exact htake⟩⟩
  have hrc' : Rc ((w.drewN q).setCells g 0 vs) F.U (L'.map Value.string) (L'.map fun s => DV.fl (.string s)) := by
    refine ⟨⟨by simp, fun k u d hu hdv => ?_⟩, fun u hu => ?_⟩
    · simp only [List.getElem?_map, Option.map_eq_some_iff] at hu hdv
      obtain ⟨z, hz, rfl⟩ := hu
      obtain ⟨z', hz', rfl⟩ := hdv
      rw [hz] at hz'; cases hz'
      exact .fl _
    · obtain ⟨z, _, rfl⟩ := List.mem_map.1 hu; rfl
  have hfit := hF.make (m := m) (ob := .tr e 1 (tD rS L')) (ks := [m0]) (γv := .slice (some ⟨g, 0, none⟩) (L.length - (j - i)) cap) (βv := none) (Sm := fun b => b = g) (U' := F.U) (w' := (w.drewN q).setCells g 0 vs) (a' := a.put o.dst (.slice (some ⟨g, 0, none⟩) (L.length - (j - i)) cap)) (tw := o.dst.map fun d => (d, .ow m)) (hok.f m (by simp)) hE (fun _ _ => rfl)
    (fun k b hl hk hb hlt => by
      have hne : b ≠ g := fun h => by
        subst h
        exact hk (by rw [hF.i k m0 b hl hlive hb ((g5 b).2 (.inl hown))]; simp)
      exact ⟨hoth b hlt hne, rfl⟩)
    (fun b hb => .inr ⟨m0, by simp, hlive, by rw [hb]; exact (g5 g).2 (.inl hown)⟩)
    (by
      refine ⟨L'.map Value.string, fun _ _ => False, by simp only [↓reduceIte]; exact hrow, by rw [sRow_flat]; exact Tcs.ofRc hrc', fun r hr => ?_, fun b hb => ?_, fun b => ?_⟩
      · obtain ⟨y, hy, rfl⟩ := List.mem_map.1 hr
        obtain ⟨z, _, rfl⟩ := List.mem_map.1 hy; rfl
      · simp only [↓reduceIte] at hb
        have : g = b := by simpa [Value.ownBlock] using hb
        subst this
        exact ⟨gU, fun _ h => h⟩
      · simp only [↓reduceIte]
        constructor
        · intro h; left; rw [h]; rfl
        · rintro (h | ⟨_, h⟩)
          · have : g = b := by simpa [Value.ownBlock] using h
            exact this.symm
          · exact h.elim)
    (hta_put hd hst.s (.ow m) _).1 (fun d v' h => by
      obtain ⟨rfl, h3⟩ := (hta_put hd hst.s (.ow m) (.slice (some ⟨g, 0, none⟩) (L.length - (j - i)) cap)).2 d v' h
      rw [h3]; exact (if_pos rfl).symm) [m0] [m]
  exact hK _ _ ⟨by rw [put_defers]; exact hst.d, by rw [put_size]; exact hst.s, hbel, _, hfit⟩
end
end Go.Proofs.Yteplcjhnmmpicaa.Av
