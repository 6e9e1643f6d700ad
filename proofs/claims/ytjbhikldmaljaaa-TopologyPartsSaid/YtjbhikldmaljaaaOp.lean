/- What the arguments read as. Condition: they read as data. -/
import Derived.Test.YtjbhikldmaljaaaTy
import Derived.Test.YtjbhikldmaljaaaAvF
set_option linter.unusedSimpArgs false
set_option linter.unusedVariables false
namespace Go.Proofs.Ytjbhikldmaljaaa.Wk
open Go Go.RowKit Go.Proofs.Ytjbhikldmaljaaa.Av
theorem cz3 : Try.prog.cellsOf 3 = 1 := by kernel_rfl
theorem cz4 : Try.prog.cellsOf 4 = 1 := by kernel_rfl
theorem cz9 : Try.prog.cellsOf 9 = 1 := by kernel_rfl
theorem cz35 : Try.prog.cellsOf 35 = 3 := by kernel_rfl
theorem cz22 : Try.prog.cellsOf 22 = 1 := by kernel_rfl
theorem cz68 : Try.prog.cellsOf 68 = 4 := by kernel_rfl
theorem cz23 : Try.prog.cellsOf 23 = 1 := by kernel_rfl
theorem cz25 : Try.prog.cellsOf 25 = 2 := by kernel_rfl
theorem cz40 : Try.prog.cellsOf 40 = 3 := by kernel_rfl
theorem cz26 : Try.prog.cellsOf 26 = 1 := by kernel_rfl
theorem cz28 : Try.prog.cellsOf 28 = 3 := by kernel_rfl
theorem opens_3 : Opens Try.prog 3 (rI .i64) (fun n => (Lit.int .i64 n).wf = true) := opens_int Try.underlying3
theorem opens_4 : Opens Try.prog 4 rB (fun _ => True) := opens_bool Try.underlying4
theorem opens_9 : Opens Try.prog 9 rS (fun s => s.size ≤ maxLen) := opens_str Try.underlying9
def okPnt (x : Pnt) : Prop := x.name.size ≤ maxLen ∧ (Lit.int .i64 x.kind).wf = true ∧ x.sys.size ≤ maxLen
theorem opens_35 : Opens Try.prog 35 ePnt okPnt := by
  intro H enc w base spare held fuel cs x h
  obtain ⟨ys, n, _, _, hl, hy, hf⟩ := DataW.trod_struct Try.underlying35 h
  rw [cz35] at hl
  have hy : ys.length = 3 := hy
  obtain ⟨y0, e0⟩ := field_of (hf 0 _ rfl) (by omega)
  obtain ⟨a0, r0, k0⟩ := opens_9 _ _ _ _ _ _ _ _ _ e0
  have r0 : Rc w (UA w) ((cs.drop 0).take (Try.prog.cellsOf 9)) _ := r0
  rw [cz9] at r0
  obtain ⟨y1, e1⟩ := field_of (hf 1 _ rfl) (by omega)
  obtain ⟨a1, r1, k1⟩ := opens_3 _ _ _ _ _ _ _ _ _ e1
  have r1 : Rc w (UA w) ((cs.drop 1).take (Try.prog.cellsOf 3)) _ := r1
  rw [cz3] at r1
  obtain ⟨y2, e2⟩ := field_of (hf 2 _ rfl) (by omega)
  obtain ⟨a2, r2, k2⟩ := opens_9 _ _ _ _ _ _ _ _ _ e2
  have r2 : Rc w (UA w) ((cs.drop 2).take (Try.prog.cellsOf 9)) _ := r2
  rw [cz9] at r2
  refine ⟨⟨a0, a1, a2⟩, ?_, ⟨k0, k1, k2⟩⟩
  exact rc_step r0 (rc_step r1 (rc_step r2 (rc_end hl)))
theorem opens_22 : Opens Try.prog 22 (rL 3 ePnt) (fun l => l.length ≤ 9223372036854775807 ∧ ∀ a ∈ l, okPnt a) := opens_len (opens_slice Try.underlying22 cz35 (by omega) opens_35 (fun _ => rfl))
def okLnk (x : Lnk) : Prop := x.fr.size ≤ maxLen ∧ x.to.size ≤ maxLen ∧ (Lit.int .i64 x.lo).wf = true ∧ (Lit.int .i64 x.hi).wf = true
theorem opens_68 : Opens Try.prog 68 eLnk okLnk := by
  intro H enc w base spare held fuel cs x h
  obtain ⟨ys, n, _, _, hl, hy, hf⟩ := DataW.trod_struct Try.underlying68 h
  rw [cz68] at hl
  have hy : ys.length = 4 := hy
  obtain ⟨y0, e0⟩ := field_of (hf 0 _ rfl) (by omega)
  obtain ⟨a0, r0, k0⟩ := opens_9 _ _ _ _ _ _ _ _ _ e0
  have r0 : Rc w (UA w) ((cs.drop 0).take (Try.prog.cellsOf 9)) _ := r0
  rw [cz9] at r0
  obtain ⟨y1, e1⟩ := field_of (hf 1 _ rfl) (by omega)
  obtain ⟨a1, r1, k1⟩ := opens_9 _ _ _ _ _ _ _ _ _ e1
  have r1 : Rc w (UA w) ((cs.drop 1).take (Try.prog.cellsOf 9)) _ := r1
  rw [cz9] at r1
  obtain ⟨y2, e2⟩ := field_of (hf 2 _ rfl) (by omega)
  obtain ⟨a2, r2, k2⟩ := opens_3 _ _ _ _ _ _ _ _ _ e2
  have r2 : Rc w (UA w) ((cs.drop 2).take (Try.prog.cellsOf 3)) _ := r2
  rw [cz3] at r2
  obtain ⟨y3, e3⟩ := field_of (hf 3 _ rfl) (by omega)
  obtain ⟨a3, r3, k3⟩ := opens_3 _ _ _ _ _ _ _ _ _ e3
  have r3 : Rc w (UA w) ((cs.drop 3).take (Try.prog.cellsOf 3)) _ := r3
  rw [cz3] at r3
  refine ⟨⟨a0, a1, a2, a3⟩, ?_, ⟨k0, k1, k2, k3⟩⟩
  exact rc_step r0 (rc_step r1 (rc_step r2 (rc_step r3 (rc_end hl))))
theorem opens_23 : Opens Try.prog 23 (rL 4 eLnk) (fun l => l.length ≤ 9223372036854775807 ∧ ∀ a ∈ l, okLnk a) := opens_len (opens_slice Try.underlying23 cz68 (by omega) opens_68 (fun _ => rfl))
def okNwk (x : Nwk) : Prop := (x.pts.length ≤ 9223372036854775807 ∧ ∀ a ∈ x.pts, okPnt a) ∧ (x.lks.length ≤ 9223372036854775807 ∧ ∀ a ∈ x.lks, okLnk a)
theorem opens_25 : Opens Try.prog 25 eNwk okNwk := by
  intro H enc w base spare held fuel cs x h
  obtain ⟨ys, n, _, _, hl, hy, hf⟩ := DataW.trod_struct Try.underlying25 h
  rw [cz25] at hl
  have hy : ys.length = 2 := hy
  obtain ⟨y0, e0⟩ := field_of (hf 0 _ rfl) (by omega)
  obtain ⟨a0, r0, k0⟩ := opens_22 _ _ _ _ _ _ _ _ _ e0
  have r0 : Rc w (UA w) ((cs.drop 0).take (Try.prog.cellsOf 22)) _ := r0
  rw [cz22] at r0
  obtain ⟨y1, e1⟩ := field_of (hf 1 _ rfl) (by omega)
  obtain ⟨a1, r1, k1⟩ := opens_23 _ _ _ _ _ _ _ _ _ e1
  have r1 : Rc w (UA w) ((cs.drop 1).take (Try.prog.cellsOf 23)) _ := r1
  rw [cz23] at r1
  refine ⟨⟨a0, a1⟩, ?_, ⟨k0, k1⟩⟩
  exact rc_step r0 (rc_step r1 (rc_end hl))
def okSys (x : Sys) : Prop := x.name.size ≤ maxLen ∧ True ∧ (Lit.int .i64 x.most).wf = true
theorem opens_40 : Opens Try.prog 40 eSys okSys := by
  intro H enc w base spare held fuel cs x h
  obtain ⟨ys, n, _, _, hl, hy, hf⟩ := DataW.trod_struct Try.underlying40 h
  rw [cz40] at hl
  have hy : ys.length = 3 := hy
  obtain ⟨y0, e0⟩ := field_of (hf 0 _ rfl) (by omega)
  obtain ⟨a0, r0, k0⟩ := opens_9 _ _ _ _ _ _ _ _ _ e0
  have r0 : Rc w (UA w) ((cs.drop 0).take (Try.prog.cellsOf 9)) _ := r0
  rw [cz9] at r0
  obtain ⟨y1, e1⟩ := field_of (hf 1 _ rfl) (by omega)
  obtain ⟨a1, r1, k1⟩ := opens_4 _ _ _ _ _ _ _ _ _ e1
  have r1 : Rc w (UA w) ((cs.drop 1).take (Try.prog.cellsOf 4)) _ := r1
  rw [cz4] at r1
  obtain ⟨y2, e2⟩ := field_of (hf 2 _ rfl) (by omega)
  obtain ⟨a2, r2, k2⟩ := opens_3 _ _ _ _ _ _ _ _ _ e2
  have r2 : Rc w (UA w) ((cs.drop 2).take (Try.prog.cellsOf 3)) _ := r2
  rw [cz3] at r2
  refine ⟨⟨a0, a1, a2⟩, ?_, ⟨k0, k1, k2⟩⟩
  exact rc_step r0 (rc_step r1 (rc_step r2 (rc_end hl)))
theorem opens_26 : Opens Try.prog 26 (rL 3 eSys) (fun l => l.length ≤ 9223372036854775807 ∧ ∀ a ∈ l, okSys a) := opens_len (opens_slice Try.underlying26 cz40 (by omega) opens_40 (fun _ => rfl))
def okTpg (x : Tpg) : Prop := okNwk x.net ∧ (x.syss.length ≤ 9223372036854775807 ∧ ∀ a ∈ x.syss, okSys a)
theorem opens_28 : Opens Try.prog 28 eTpg okTpg := by
  intro H enc w base spare held fuel cs x h
  obtain ⟨ys, n, _, _, hl, hy, hf⟩ := DataW.trod_struct Try.underlying28 h
  rw [cz28] at hl
  have hy : ys.length = 2 := hy
  obtain ⟨y0, e0⟩ := field_of (hf 0 _ rfl) (by omega)
  obtain ⟨a0, r0, k0⟩ := opens_25 _ _ _ _ _ _ _ _ _ e0
  have r0 : Rc w (UA w) ((cs.drop 0).take (Try.prog.cellsOf 25)) _ := r0
  rw [cz25] at r0
  obtain ⟨y1, e1⟩ := field_of (hf 1 _ rfl) (by omega)
  obtain ⟨a1, r1, k1⟩ := opens_26 _ _ _ _ _ _ _ _ _ e1
  have r1 : Rc w (UA w) ((cs.drop 2).take (Try.prog.cellsOf 26)) _ := r1
  rw [cz26] at r1
  refine ⟨⟨a0, a1⟩, ?_, ⟨k0, k1⟩⟩
  exact rc_step r0 (rc_step r1 (rc_end hl))
end Go.Proofs.Ytjbhikldmaljaaa.Wk
