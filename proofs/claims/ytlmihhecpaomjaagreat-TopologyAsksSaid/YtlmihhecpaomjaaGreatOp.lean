/- What the arguments read as. Condition: they read as data. -/
import Derived.Test.YtlmihhecpaomjaaGreatTy
import Derived.Test.YtlmihhecpaomjaaGreatAvF
set_option linter.unusedSimpArgs false
set_option linter.unusedVariables false
namespace Go.Proofs.YtlmihhecpaomjaaGreat.Wk
open Go Go.RowKit Go.Proofs.YtlmihhecpaomjaaGreat.Av
theorem cz3 : Tryz.prog.cellsOf 3 = 1 := by kernel_rfl
theorem cz4 : Tryz.prog.cellsOf 4 = 1 := by kernel_rfl
theorem cz9 : Tryz.prog.cellsOf 9 = 1 := by kernel_rfl
theorem cz42 : Tryz.prog.cellsOf 42 = 3 := by kernel_rfl
theorem cz22 : Tryz.prog.cellsOf 22 = 1 := by kernel_rfl
theorem cz73 : Tryz.prog.cellsOf 73 = 4 := by kernel_rfl
theorem cz23 : Tryz.prog.cellsOf 23 = 1 := by kernel_rfl
theorem cz25 : Tryz.prog.cellsOf 25 = 2 := by kernel_rfl
theorem cz31 : Tryz.prog.cellsOf 31 = 3 := by kernel_rfl
theorem cz26 : Tryz.prog.cellsOf 26 = 1 := by kernel_rfl
theorem cz28 : Tryz.prog.cellsOf 28 = 3 := by kernel_rfl
theorem opens_3 : Opens Tryz.prog 3 (rI .i64) (fun n => (Lit.int .i64 n).wf = true) := opens_int Tryz.underlying3
theorem opens_4 : Opens Tryz.prog 4 rB (fun _ => True) := opens_bool Tryz.underlying4
theorem opens_9 : Opens Tryz.prog 9 rS (fun s => s.size ≤ maxLen) := opens_str Tryz.underlying9
def okPnt (x : Pnt) : Prop := x.name.size ≤ maxLen ∧ (Lit.int .i64 x.kind).wf = true ∧ x.sys.size ≤ maxLen
theorem opens_42 : Opens Tryz.prog 42 ePnt okPnt := by
  intro H enc w base spare held fuel cs x h
  obtain ⟨ys, n, _, _, hl, hy, hf⟩ := DataW.trod_struct Tryz.underlying42 h
  rw [cz42] at hl
  have hy : ys.length = 3 := hy
  obtain ⟨y0, e0⟩ := field_of (hf 0 _ rfl) (by omega)
  obtain ⟨a0, r0, k0⟩ := opens_9 _ _ _ _ _ _ _ _ _ e0
  have r0 : Rc w (UA w) ((cs.drop 0).take (Tryz.prog.cellsOf 9)) _ := r0
  rw [cz9] at r0
  obtain ⟨y1, e1⟩ := field_of (hf 1 _ rfl) (by omega)
  obtain ⟨a1, r1, k1⟩ := opens_3 _ _ _ _ _ _ _ _ _ e1
  have r1 : Rc w (UA w) ((cs.drop 1).take (Tryz.prog.cellsOf 3)) _ := r1
  rw [cz3] at r1
  obtain ⟨y2, e2⟩ := field_of (hf 2 _ rfl) (by omega)
  obtain ⟨a2, r2, k2⟩ := opens_9 _ _ _ _ _ _ _ _ _ e2
  have r2 : Rc w (UA w) ((cs.drop 2).take (Tryz.prog.cellsOf 9)) _ := r2
  rw [cz9] at r2
  refine ⟨⟨a0, a1, a2⟩, ?_, ⟨k0, k1, k2⟩⟩
  exact rc_step r0 (rc_step r1 (rc_step r2 (rc_end hl)))
theorem opens_22 : Opens Tryz.prog 22 (rL 3 ePnt) (fun l => l.length ≤ 9223372036854775807 ∧ ∀ a ∈ l, okPnt a) := opens_len (opens_slice Tryz.underlying22 cz42 (by omega) opens_42 (fun _ => rfl))
def okLnk (x : Lnk) : Prop := x.fr.size ≤ maxLen ∧ x.to.size ≤ maxLen ∧ (Lit.int .i64 x.lo).wf = true ∧ (Lit.int .i64 x.hi).wf = true
theorem opens_73 : Opens Tryz.prog 73 eLnk okLnk := by
  intro H enc w base spare held fuel cs x h
  obtain ⟨ys, n, _, _, hl, hy, hf⟩ := DataW.trod_struct Tryz.underlying73 h
  rw [cz73] at hl
  have hy : ys.length = 4 := hy
  obtain ⟨y0, e0⟩ := field_of (hf 0 _ rfl) (by omega)
  obtain ⟨a0, r0, k0⟩ := opens_9 _ _ _ _ _ _ _ _ _ e0
  have r0 : Rc w (UA w) ((cs.drop 0).take (Tryz.prog.cellsOf 9)) _ := r0
  rw [cz9] at r0
  obtain ⟨y1, e1⟩ := field_of (hf 1 _ rfl) (by omega)
  obtain ⟨a1, r1, k1⟩ := opens_9 _ _ _ _ _ _ _ _ _ e1
  have r1 : Rc w (UA w) ((cs.drop 1).take (Tryz.prog.cellsOf 9)) _ := r1
  rw [cz9] at r1
  obtain ⟨y2, e2⟩ := field_of (hf 2 _ rfl) (by omega)
  obtain ⟨a2, r2, k2⟩ := opens_3 _ _ _ _ _ _ _ _ _ e2
  have r2 : Rc w (UA w) ((cs.drop 2).take (Tryz.prog.cellsOf 3)) _ := r2
  rw [cz3] at r2
  obtain ⟨y3, e3⟩ := field_of (hf 3 _ rfl) (by omega)
  obtain ⟨a3, r3, k3⟩ := opens_3 _ _ _ _ _ _ _ _ _ e3
  have r3 : Rc w (UA w) ((cs.drop 3).take (Tryz.prog.cellsOf 3)) _ := r3
  rw [cz3] at r3
  refine ⟨⟨a0, a1, a2, a3⟩, ?_, ⟨k0, k1, k2, k3⟩⟩
  exact rc_step r0 (rc_step r1 (rc_step r2 (rc_step r3 (rc_end hl))))
theorem opens_23 : Opens Tryz.prog 23 (rL 4 eLnk) (fun l => l.length ≤ 9223372036854775807 ∧ ∀ a ∈ l, okLnk a) := opens_len (opens_slice Tryz.underlying23 cz73 (by omega) opens_73 (fun _ => rfl))
def okNwk (x : Nwk) : Prop := (x.pts.length ≤ 9223372036854775807 ∧ ∀ a ∈ x.pts, okPnt a) ∧ (x.lks.length ≤ 9223372036854775807 ∧ ∀ a ∈ x.lks, okLnk a)
theorem opens_25 : Opens Tryz.prog 25 eNwk okNwk := by
  intro H enc w base spare held fuel cs x h
  obtain ⟨ys, n, _, _, hl, hy, hf⟩ := DataW.trod_struct Tryz.underlying25 h
  rw [cz25] at hl
  have hy : ys.length = 2 := hy
  obtain ⟨y0, e0⟩ := field_of (hf 0 _ rfl) (by omega)
  obtain ⟨a0, r0, k0⟩ := opens_22 _ _ _ _ _ _ _ _ _ e0
  have r0 : Rc w (UA w) ((cs.drop 0).take (Tryz.prog.cellsOf 22)) _ := r0
  rw [cz22] at r0
  obtain ⟨y1, e1⟩ := field_of (hf 1 _ rfl) (by omega)
  obtain ⟨a1, r1, k1⟩ := opens_23 _ _ _ _ _ _ _ _ _ e1
  have r1 : Rc w (UA w) ((cs.drop 1).take (Tryz.prog.cellsOf 23)) _ := r1
  rw [cz23] at r1
  refine ⟨⟨a0, a1⟩, ?_, ⟨k0, k1⟩⟩
  exact rc_step r0 (rc_step r1 (rc_end hl))
def okSys (x : Sys) : Prop := x.name.size ≤ maxLen ∧ True ∧ (Lit.int .i64 x.most).wf = true
theorem opens_31 : Opens Tryz.prog 31 eSys okSys := by
  intro H enc w base spare held fuel cs x h
  obtain ⟨ys, n, _, _, hl, hy, hf⟩ := DataW.trod_struct Tryz.underlying31 h
  rw [cz31] at hl
  have hy : ys.length = 3 := hy
  obtain ⟨y0, e0⟩ := field_of (hf 0 _ rfl) (by omega)
  obtain ⟨a0, r0, k0⟩ := opens_9 _ _ _ _ _ _ _ _ _ e0
  have r0 : Rc w (UA w) ((cs.drop 0).take (Tryz.prog.cellsOf 9)) _ := r0
  rw [cz9] at r0
  obtain ⟨y1, e1⟩ := field_of (hf 1 _ rfl) (by omega)
  obtain ⟨a1, r1, k1⟩ := opens_4 _ _ _ _ _ _ _ _ _ e1
  have r1 : Rc w (UA w) ((cs.drop 1).take (Tryz.prog.cellsOf 4)) _ := r1
  rw [cz4] at r1
  obtain ⟨y2, e2⟩ := field_of (hf 2 _ rfl) (by omega)
  obtain ⟨a2, r2, k2⟩ := opens_3 _ _ _ _ _ _ _ _ _ e2
  have r2 : Rc w (UA w) ((cs.drop 2).take (Tryz.prog.cellsOf 3)) _ := r2
  rw [cz3] at r2
  refine ⟨⟨a0, a1, a2⟩, ?_, ⟨k0, k1, k2⟩⟩
  exact rc_step r0 (rc_step r1 (rc_step r2 (rc_end hl)))
theorem opens_26 : Opens Tryz.prog 26 (rL 3 eSys) (fun l => l.length ≤ 9223372036854775807 ∧ ∀ a ∈ l, okSys a) := opens_len (opens_slice Tryz.underlying26 cz31 (by omega) opens_31 (fun _ => rfl))
def okTpg (x : Tpg) : Prop := okNwk x.net ∧ (x.syss.length ≤ 9223372036854775807 ∧ ∀ a ∈ x.syss, okSys a)
theorem opens_28 : Opens Tryz.prog 28 eTpg okTpg := by
  intro H enc w base spare held fuel cs x h
  obtain ⟨ys, n, _, _, hl, hy, hf⟩ := DataW.trod_struct Tryz.underlying28 h
  rw [cz28] at hl
  have hy : ys.length = 2 := hy
  obtain ⟨y0, e0⟩ := field_of (hf 0 _ rfl) (by omega)
  obtain ⟨a0, r0, k0⟩ := opens_25 _ _ _ _ _ _ _ _ _ e0
  have r0 : Rc w (UA w) ((cs.drop 0).take (Tryz.prog.cellsOf 25)) _ := r0
  rw [cz25] at r0
  obtain ⟨y1, e1⟩ := field_of (hf 1 _ rfl) (by omega)
  obtain ⟨a1, r1, k1⟩ := opens_26 _ _ _ _ _ _ _ _ _ e1
  have r1 : Rc w (UA w) ((cs.drop 2).take (Tryz.prog.cellsOf 26)) _ := r1
  rw [cz26] at r1
  refine ⟨⟨a0, a1⟩, ?_, ⟨k0, k1⟩⟩
  exact rc_step r0 (rc_step r1 (rc_end hl))
end Go.Proofs.YtlmihhecpaomjaaGreat.Wk
