/- The front of a row of the call's own. Conditions: as each theorem names them. -/
import Derived.Test.YteplcjhnmmpicaaAv28
set_option linter.unusedSimpArgs false
set_option linter.unusedVariables false
namespace Go.Proofs.Yteplcjhnmmpicaa.Av
open Go Go.RowKit
theorem tD_take {α : Type} (f : α → List DV) (l : List α) (k : Nat) : (tD f l).take k = tD f (l.take k) := by simp [tD, List.map_take]
section
variable {P : Program} {N : Nat} {w0 : World} {U0 : Nat → Nat}
theorem op_sliceOwn {o : Oper} {σ : AS} {t : TypeId} {x hi : Operand} (m : Nat) (ho : o.op = .slice t x none (some hi) none) {e : TypeId} (hu : P.underlying t = some (.slice e)) {zv : Value} {bb : Nat} (ht : TI P e zv 1 bb) {m0 : Nat} {e' : TypeId} {L : List ByteArray} (hs : σ.ev x = .ow m0) (hm : σ.n m0 = .tr e' 1 (tD rS L))
    {k : Nat} {ki : Int} (hk : σ.ev hi = .d (.fl (.int .i64 ki))) (hki : ki = (k : Int)) (hle : k ≤ L.length) (hL : 0 < L.length) (hd : dOk o N = true) :
    OpS P N w0 U0 o σ ⟨o.dst.map fun d => (d, .ow m), (m, .tr e' 1 (tD rS (L.take k))) :: [m0].map (fun q => (q, Ob.no)), [m0], [m]⟩ := by
  subst hki
  intro σ' hok a w hst K Q hK
  obtain ⟨F, hF⟩ := hst.f
  obtain ⟨i, t1, _, t3, _⟩ := ht
  have h1 : a.eval x = F.γ m0 := ev_get hok hF (x := x) (by simp [ho, Op.operands]) hs
  have h2 := flat_val (ev_get hok hF (x := hi) (by simp [ho, Op.operands]) hk)
  have hm' : σ'.n m0 = .tr e' 1 (tD rS L) := by rw [hok.n m0 (by simp)]; exact hm
  have hlive : (σ'.n m0).live = true := by rw [hm']; rfl
  have hob := hF.n m0
  rw [hm'] at hob
  obtain ⟨xs, T, g1, g2, g3, g4, g5⟩ := hob
  rw [sRow_len] at g1
  obtain ⟨g1a, g1b⟩ := g1
  rcases g1b with ⟨_, h0⟩ | ⟨g, cap, cur, e1, e2, e3, e4, e5, e6, e7⟩
  · omega
  have hown : (F.γ m0).ownBlock = some g := by rw [e1]; rfl
  obtain ⟨gU, gT⟩ := g4 g hown
  rw [sRow_flat] at g2
  obtain ⟨hrc, hno⟩ := Tcs.noDv g2
  have hu' : P.underlying t = some (.slice (P.elem t)) := by simp [Program.elem, hu]
  have hel : P.elem t = e := by simp [Program.elem, hu]
  have hrun : (execOp a.eval o).run P w = .ok (.value (.slice (some ⟨g, 0, none⟩) k cap)) w := by
    have hb := run_bounds (P := P) w L.length cap 0 k none (some (a.eval hi)) (.inl ⟨rfl, rfl⟩) (.inr ⟨.i64, by rw [h2]⟩) (Nat.zero_le _) hle e4
    unfold execOp
    simp only [ho, h1, e1, Option.map_none, Option.map_some, Sem.run_bind, run_sliceAt_slice w t _ _ _ _ hu', run_slice_any w t _ _ _ hu', hb, Result.andThen_ok, hel, run_sizeOf' t1, Sem.run_pure]
    have hne : ¬ cap = 0 := by omega
    unfold sliced
    rw [if_neg hne]
    have ha : (⟨g, 0, none⟩ : Addr).add (0 * i.size) = ⟨g, 0, none⟩ := by simp [Addr.add]
    simp only [Option.map_some, ha, Nat.sub_zero]
  unfold Oper.wp
  rw [hrun]
  have hlk : (L.take k).length = k := by simp; omega
  have hrow : w.ownsRow w0.heap.size e' 1 (.slice (some ⟨g, 0, none⟩) k cap) (tD rS (L.take k)).length (xs.take k) := by
    refine ⟨by rw [sRow_len, hlk]; simp; omega, .inr ⟨g, cap, cur, by rw [sRow_len, hlk], e2, e3, by rw [sRow_len, hlk]; omega, e5, e6, ?_⟩⟩
    rw [sRow_len, hlk, Nat.mul_one, ← e7, List.take_take, Nat.mul_one, Nat.min_eq_left hle]
  have hrc' : Rc w F.U (xs.take k) ((L.take k).map fun s => DV.fl (.string s)) := by
    refine ⟨⟨by have := hrc.1.1; simp at this ⊢; omega, fun j u d hu hdv => ?_⟩, fun u hu => hrc.2 u (List.mem_of_mem_take hu)⟩
    rw [List.getElem?_take] at hu
    split at hu
    · rename_i hj
      refine hrc.1.2 j u d hu ?_
      rw [List.map_take, List.getElem?_take_of_lt hj] at hdv
      exact hdv
    · cases hu
  have hfit := hF.make (m := m) (ob := .tr e' 1 (tD rS (L.take k))) (ks := [m0]) (γv := .slice (some ⟨g, 0, none⟩) k cap) (βv := none) (Sm := fun b => b = g) (U' := F.U) (w' := w) (a' := a.put o.dst (.slice (some ⟨g, 0, none⟩) k cap)) (tw := o.dst.map fun d => (d, .ow m)) (hok.f m (by simp)) Ext.rfl (fun _ _ => rfl)
    (fun k b hl hk hb hlt => ⟨rfl, rfl⟩)
    (fun b hb => .inr ⟨m0, by simp, hlive, by rw [hb]; exact (g5 g).2 (.inl hown)⟩)
    (by
      refine ⟨xs.take k, fun _ _ => False, by simp only [↓reduceIte]; exact hrow, by rw [sRow_flat]; exact Tcs.ofRc hrc', fun r hr => ?_, fun b hb => ?_, fun b => ?_⟩
      · obtain ⟨y, hy, rfl⟩ := List.mem_map.1 hr
        obtain ⟨z, _, rfl⟩ := List.mem_map.1 hy; rfl
      · simp only [↓reduceIte] at hb
        have : g = b := by simpa [Value.ownBlock] using hb
        subst this
        exact ⟨gU, fun _ h => h⟩
      · simp only [↓reduceIte]
        constructor
        · intro h; left; rw [h]; rfl
        · rintro (h | ⟨_, h⟩)
          · have : g = b := by simpa [Value.ownBlock] using h
            exact this.symm
          · exact h.elim)
    (hta_put hd hst.s (.ow m) _).1 (fun d v' h => by
      obtain ⟨rfl, h3⟩ := (hta_put hd hst.s (.ow m) (.slice (some ⟨g, 0, none⟩) k cap)).2 d v' h
      rw [h3]; exact (if_pos rfl).symm) [m0] [m]
  exact hK _ _ ⟨by rw [put_defers]; exact hst.d, by rw [put_size]; exact hst.s, hst.b, _, hfit⟩
theorem s_sliceTail {o : Oper} {σ : AS} {t : TypeId} {x : Operand} {lo : Option Operand} (ho : o.op = .slice t x lo none none) {e : TypeId} (hu : P.underlying t = some (.slice e)) {zv : Value} {sz b : Nat} (ht : TI P e zv sz b) {α : Type} {f : α → List DV} {L : List α} (hx : σ.ev x = .d (.sl sz (L.map f)))
    {l : Nat} (hl : BndS σ lo 0 l) (h1 : l ≤ L.length) (hd : dOk o N = true) : OpS P N w0 U0 o σ ⟨o.dst.map fun d => (d, .d (.sl sz ((L.drop l).map f))), [], [], []⟩ := by
  have := s_slice (P := P) (N := N) (w0 := w0) (U0 := U0) ho hu ht hx hl (.no _) h1 (Nat.le_refl _) hd
  rwa [List.take_of_length_le (by simp)] at this
end
end Go.Proofs.Yteplcjhnmmpicaa.Av
