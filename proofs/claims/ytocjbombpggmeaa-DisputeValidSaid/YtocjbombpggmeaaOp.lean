/- What the arguments read as. Condition: they read as data. -/
import Derived.Test.YtocjbombpggmeaaAv19
import Derived.Test.YtocjbombpggmeaaB16
set_option linter.unusedSimpArgs false
set_option linter.unusedVariables false
namespace Go.Proofs.Ytocjbombpggmeaa.Wk
open Go Go.RowKit Go.Proofs.Ytocjbombpggmeaa.Av
theorem cz3 : Try.prog.cellsOf 3 = 1 := by kernel_rfl
theorem cz4 : Try.prog.cellsOf 4 = 1 := by kernel_rfl
theorem cz9 : Try.prog.cellsOf 9 = 1 := by kernel_rfl
theorem cz38 : Try.prog.cellsOf 38 = 1 := by kernel_rfl
theorem cz22 : Try.prog.cellsOf 22 = 1 := by kernel_rfl
theorem cz40 : Try.prog.cellsOf 40 = 5 := by kernel_rfl
theorem cz29 : Try.prog.cellsOf 29 = 6 := by kernel_rfl
theorem cz36 : Try.prog.cellsOf 36 = 1 := by kernel_rfl
theorem opens_3 : Opens Try.prog 3 (rI .i64) (fun n => (Lit.int .i64 n).wf = true) := opens_int Try.underlying3
theorem opens_4 : Opens Try.prog 4 rB (fun _ => True) := opens_bool Try.underlying4
theorem opens_9 : Opens Try.prog 9 rS (fun s => s.size ≤ maxLen) := opens_str Try.underlying9
theorem opens_38 : Opens Try.prog 38 (rL 1 rS) (fun l => ∀ a ∈ l, a.size ≤ maxLen) := opens_slice Try.underlying38 cz9 (by omega) opens_9 (fun _ => rfl)
def okDp (x : Dp) : Prop := x.key.size ≤ maxLen ∧ (Lit.int .i64 x.time).wf = true ∧ (Lit.int .i64 x.cents).wf = true ∧ (Lit.int .i64 x.state).wf = true ∧ (∀ a ∈ x.proofs, a.size ≤ maxLen)
theorem opens_40 : Opens Try.prog 40 eDp okDp := by
  intro H enc w base spare held fuel cs x h
  obtain ⟨ys, n, _, _, hl, hy, hf⟩ := DataW.trod_struct Try.underlying40 h
  rw [cz40] at hl
  have hy : ys.length = 5 := hy
  obtain ⟨y0, e0⟩ := field_of (hf 0 _ rfl) (by omega)
  obtain ⟨a0, r0, k0⟩ := opens_9 _ _ _ _ _ _ _ _ _ e0
  have r0 : Rc w (UA w) ((cs.drop 0).take (Try.prog.cellsOf 9)) _ := r0
  rw [cz9] at r0
  obtain ⟨y1, e1⟩ := field_of (hf 1 _ rfl) (by omega)
  obtain ⟨a1, r1, k1⟩ := opens_3 _ _ _ _ _ _ _ _ _ e1
  have r1 : Rc w (UA w) ((cs.drop 1).take (Try.prog.cellsOf 3)) _ := r1
  rw [cz3] at r1
  obtain ⟨y2, e2⟩ := field_of (hf 2 _ rfl) (by omega)
  obtain ⟨a2, r2, k2⟩ := opens_3 _ _ _ _ _ _ _ _ _ e2
  have r2 : Rc w (UA w) ((cs.drop 2).take (Try.prog.cellsOf 3)) _ := r2
  rw [cz3] at r2
  obtain ⟨y3, e3⟩ := field_of (hf 3 _ rfl) (by omega)
  obtain ⟨a3, r3, k3⟩ := opens_3 _ _ _ _ _ _ _ _ _ e3
  have r3 : Rc w (UA w) ((cs.drop 3).take (Try.prog.cellsOf 3)) _ := r3
  rw [cz3] at r3
  obtain ⟨y4, e4⟩ := field_of (hf 4 _ rfl) (by omega)
  obtain ⟨a4, r4, k4⟩ := opens_38 _ _ _ _ _ _ _ _ _ e4
  have r4 : Rc w (UA w) ((cs.drop 4).take (Try.prog.cellsOf 38)) _ := r4
  rw [cz38] at r4
  refine ⟨⟨a0, a1, a2, a3, a4⟩, ?_, k0, k1, k2, k3, k4⟩
  exact rc_step r0 (rc_step r1 (rc_step r2 (rc_step r3 (rc_step r4 (rc_end hl)))))
theorem opens_22 : Opens Try.prog 22 (rL 5 eDp) (fun l => ∀ a ∈ l, okDp a) := opens_slice Try.underlying22 cz40 (by omega) opens_40 (fun _ => rfl)
def okDd (x : Dd) : Prop := (Lit.int .i64 x.kind).wf = true ∧ x.key.size ≤ maxLen ∧ x.id.size ≤ maxLen ∧ (Lit.int .i64 x.cents).wf = true ∧ (Lit.int .i64 x.t).wf = true ∧ True
theorem opens_29 : Opens Try.prog 29 eDd okDd := by
  intro H enc w base spare held fuel cs x h
  obtain ⟨ys, n, _, _, hl, hy, hf⟩ := DataW.trod_struct Try.underlying29 h
  rw [cz29] at hl
  have hy : ys.length = 6 := hy
  obtain ⟨y0, e0⟩ := field_of (hf 0 _ rfl) (by omega)
  obtain ⟨a0, r0, k0⟩ := opens_3 _ _ _ _ _ _ _ _ _ e0
  have r0 : Rc w (UA w) ((cs.drop 0).take (Try.prog.cellsOf 3)) _ := r0
  rw [cz3] at r0
  obtain ⟨y1, e1⟩ := field_of (hf 1 _ rfl) (by omega)
  obtain ⟨a1, r1, k1⟩ := opens_9 _ _ _ _ _ _ _ _ _ e1
  have r1 : Rc w (UA w) ((cs.drop 1).take (Try.prog.cellsOf 9)) _ := r1
  rw [cz9] at r1
  obtain ⟨y2, e2⟩ := field_of (hf 2 _ rfl) (by omega)
  obtain ⟨a2, r2, k2⟩ := opens_9 _ _ _ _ _ _ _ _ _ e2
  have r2 : Rc w (UA w) ((cs.drop 2).take (Try.prog.cellsOf 9)) _ := r2
  rw [cz9] at r2
  obtain ⟨y3, e3⟩ := field_of (hf 3 _ rfl) (by omega)
  obtain ⟨a3, r3, k3⟩ := opens_3 _ _ _ _ _ _ _ _ _ e3
  have r3 : Rc w (UA w) ((cs.drop 3).take (Try.prog.cellsOf 3)) _ := r3
  rw [cz3] at r3
  obtain ⟨y4, e4⟩ := field_of (hf 4 _ rfl) (by omega)
  obtain ⟨a4, r4, k4⟩ := opens_3 _ _ _ _ _ _ _ _ _ e4
  have r4 : Rc w (UA w) ((cs.drop 4).take (Try.prog.cellsOf 3)) _ := r4
  rw [cz3] at r4
  obtain ⟨y5, e5⟩ := field_of (hf 5 _ rfl) (by omega)
  obtain ⟨a5, r5, k5⟩ := opens_4 _ _ _ _ _ _ _ _ _ e5
  have r5 : Rc w (UA w) ((cs.drop 5).take (Try.prog.cellsOf 4)) _ := r5
  rw [cz4] at r5
  refine ⟨⟨a0, a1, a2, a3, a4, a5⟩, ?_, k0, k1, k2, k3, k4, k5⟩
  exact rc_step r0 (rc_step r1 (rc_step r2 (rc_step r3 (rc_step r4 (rc_step r5 (rc_end hl))))))
theorem opens_36 : Opens Try.prog 36 (rL 6 eDd) (fun l => ∀ a ∈ l, okDd a) := opens_slice Try.underlying36 cz29 (by omega) opens_29 (fun _ => rfl)
theorem sz_of {l : List Dp} (h : ∀ a ∈ l, okDp a) : SZ l := fun q hq => by
  obtain ⟨h1, _, _, _, h5⟩ := h _ (ix_mem hq)
  refine ⟨by unfold maxLen at h1; exact h1, fun j hj => ?_⟩
  have := h5 _ (ix_mem hj)
  unfold maxLen at this; exact this
end Go.Proofs.Ytocjbombpggmeaa.Wk
