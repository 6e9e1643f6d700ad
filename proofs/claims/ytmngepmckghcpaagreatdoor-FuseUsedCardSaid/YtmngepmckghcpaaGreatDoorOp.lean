/- What the arguments read as. Condition: they read as data. -/
import Derived.Test.YtmngepmckghcpaaGreatDoorTy
import Derived.Test.YtmngepmckghcpaaGreatDoorAvF
set_option linter.unusedSimpArgs false
set_option linter.unusedVariables false
namespace Go.Proofs.YtmngepmckghcpaaGreatDoor.Wk
open Go Go.RowKit Go.Proofs.YtmngepmckghcpaaGreatDoor.Av
theorem cz3 : Tryz.prog.cellsOf 3 = 1 := by kernel_rfl
theorem cz9 : Tryz.prog.cellsOf 9 = 1 := by kernel_rfl
theorem cz32 : Tryz.prog.cellsOf 32 = 2 := by kernel_rfl
theorem cz27 : Tryz.prog.cellsOf 27 = 1 := by kernel_rfl
theorem cz29 : Tryz.prog.cellsOf 29 = 8 := by kernel_rfl
theorem cz22 : Tryz.prog.cellsOf 22 = 1 := by kernel_rfl
theorem cz23 : Tryz.prog.cellsOf 23 = 1 := by kernel_rfl
theorem cz25 : Tryz.prog.cellsOf 25 = 4 := by kernel_rfl
theorem opens_3 : Opens Tryz.prog 3 (rI .i64) (fun n => (Lit.int .i64 n).wf = true) := opens_int Tryz.underlying3
theorem opens_9 : Opens Tryz.prog 9 rS (fun s => s.size ≤ maxLen) := opens_str Tryz.underlying9
def okSrx (x : Srx) : Prop := x.dev.size ≤ maxLen ∧ (Lit.int .i64 x.seq).wf = true
theorem opens_32 : Opens Tryz.prog 32 eSrx okSrx := by
  intro H enc w base spare held fuel cs x h
  obtain ⟨ys, n, _, _, hl, hy, hf⟩ := DataW.trod_struct Tryz.underlying32 h
  rw [cz32] at hl
  have hy : ys.length = 2 := hy
  obtain ⟨y0, e0⟩ := field_of (hf 0 _ rfl) (by omega)
  obtain ⟨a0, r0, k0⟩ := opens_9 _ _ _ _ _ _ _ _ _ e0
  have r0 : Rc w (UA w) ((cs.drop 0).take (Tryz.prog.cellsOf 9)) _ := r0
  rw [cz9] at r0
  obtain ⟨y1, e1⟩ := field_of (hf 1 _ rfl) (by omega)
  obtain ⟨a1, r1, k1⟩ := opens_3 _ _ _ _ _ _ _ _ _ e1
  have r1 : Rc w (UA w) ((cs.drop 1).take (Tryz.prog.cellsOf 3)) _ := r1
  rw [cz3] at r1
  refine ⟨⟨a0, a1⟩, ?_, ⟨k0, k1⟩⟩
  exact rc_step r0 (rc_step r1 (rc_end hl))
theorem opens_27 : Opens Tryz.prog 27 (rL 2 eSrx) (fun l => l.length ≤ 9223372036854775807 ∧ ∀ a ∈ l, okSrx a) := opens_len (opens_slice Tryz.underlying27 cz32 (by omega) opens_32 (fun _ => rfl))
def okPsg (x : Psg) : Prop := x.id.size ≤ maxLen ∧ x.point.size ≤ maxLen ∧ (Lit.int .i64 x.time).wf = true ∧ x.tag.size ≤ maxLen ∧ x.plate.size ≤ maxLen ∧ (Lit.int .i64 x.cls).wf = true ∧ (Lit.int .i64 x.score).wf = true ∧ (x.src.length ≤ 9223372036854775807 ∧ ∀ a ∈ x.src, okSrx a)
theorem opens_29 : Opens Tryz.prog 29 ePsg okPsg := by
  intro H enc w base spare held fuel cs x h
  obtain ⟨ys, n, _, _, hl, hy, hf⟩ := DataW.trod_struct Tryz.underlying29 h
  rw [cz29] at hl
  have hy : ys.length = 8 := hy
  obtain ⟨y0, e0⟩ := field_of (hf 0 _ rfl) (by omega)
  obtain ⟨a0, r0, k0⟩ := opens_9 _ _ _ _ _ _ _ _ _ e0
  have r0 : Rc w (UA w) ((cs.drop 0).take (Tryz.prog.cellsOf 9)) _ := r0
  rw [cz9] at r0
  obtain ⟨y1, e1⟩ := field_of (hf 1 _ rfl) (by omega)
  obtain ⟨a1, r1, k1⟩ := opens_9 _ _ _ _ _ _ _ _ _ e1
  have r1 : Rc w (UA w) ((cs.drop 1).take (Tryz.prog.cellsOf 9)) _ := r1
  rw [cz9] at r1
  obtain ⟨y2, e2⟩ := field_of (hf 2 _ rfl) (by omega)
  obtain ⟨a2, r2, k2⟩ := opens_3 _ _ _ _ _ _ _ _ _ e2
  have r2 : Rc w (UA w) ((cs.drop 2).take (Tryz.prog.cellsOf 3)) _ := r2
  rw [cz3] at r2
  obtain ⟨y3, e3⟩ := field_of (hf 3 _ rfl) (by omega)
  obtain ⟨a3, r3, k3⟩ := opens_9 _ _ _ _ _ _ _ _ _ e3
  have r3 : Rc w (UA w) ((cs.drop 3).take (Tryz.prog.cellsOf 9)) _ := r3
  rw [cz9] at r3
  obtain ⟨y4, e4⟩ := field_of (hf 4 _ rfl) (by omega)
  obtain ⟨a4, r4, k4⟩ := opens_9 _ _ _ _ _ _ _ _ _ e4
  have r4 : Rc w (UA w) ((cs.drop 4).take (Tryz.prog.cellsOf 9)) _ := r4
  rw [cz9] at r4
  obtain ⟨y5, e5⟩ := field_of (hf 5 _ rfl) (by omega)
  obtain ⟨a5, r5, k5⟩ := opens_3 _ _ _ _ _ _ _ _ _ e5
  have r5 : Rc w (UA w) ((cs.drop 5).take (Tryz.prog.cellsOf 3)) _ := r5
  rw [cz3] at r5
  obtain ⟨y6, e6⟩ := field_of (hf 6 _ rfl) (by omega)
  obtain ⟨a6, r6, k6⟩ := opens_3 _ _ _ _ _ _ _ _ _ e6
  have r6 : Rc w (UA w) ((cs.drop 6).take (Tryz.prog.cellsOf 3)) _ := r6
  rw [cz3] at r6
  obtain ⟨y7, e7⟩ := field_of (hf 7 _ rfl) (by omega)
  obtain ⟨a7, r7, k7⟩ := opens_27 _ _ _ _ _ _ _ _ _ e7
  have r7 : Rc w (UA w) ((cs.drop 7).take (Tryz.prog.cellsOf 27)) _ := r7
  rw [cz27] at r7
  refine ⟨⟨a0, a1, a2, a3, a4, a5, a6, a7⟩, ?_, ⟨k0, k1, k2, k3, k4, k5, k6, k7⟩⟩
  exact rc_step r0 (rc_step r1 (rc_step r2 (rc_step r3 (rc_step r4 (rc_step r5 (rc_step r6 (rc_step r7 (rc_end hl))))))))
theorem opens_22 : Opens Tryz.prog 22 (rL 8 ePsg) (fun l => l.length ≤ 9223372036854775807 ∧ ∀ a ∈ l, okPsg a) := opens_len (opens_slice Tryz.underlying22 cz29 (by omega) opens_29 (fun _ => rfl))
theorem opens_23 : Opens Tryz.prog 23 rV (fun _ => True) := opens_vslice Tryz.underlying23
def okFus (x : Fus) : Prop := (x.ps.length ≤ 9223372036854775807 ∧ ∀ a ∈ x.ps, okPsg a) ∧ True ∧ (Lit.int .i64 x.cost).wf = true ∧ (Lit.int .i64 x.margin).wf = true
theorem opens_25 : Opens Tryz.prog 25 eFus okFus := by
  intro H enc w base spare held fuel cs x h
  obtain ⟨ys, n, _, _, hl, hy, hf⟩ := DataW.trod_struct Tryz.underlying25 h
  rw [cz25] at hl
  have hy : ys.length = 4 := hy
  obtain ⟨y0, e0⟩ := field_of (hf 0 _ rfl) (by omega)
  obtain ⟨a0, r0, k0⟩ := opens_22 _ _ _ _ _ _ _ _ _ e0
  have r0 : Rc w (UA w) ((cs.drop 0).take (Tryz.prog.cellsOf 22)) _ := r0
  rw [cz22] at r0
  obtain ⟨y1, e1⟩ := field_of (hf 1 _ rfl) (by omega)
  obtain ⟨a1, r1, k1⟩ := opens_23 _ _ _ _ _ _ _ _ _ e1
  have r1 : Rc w (UA w) ((cs.drop 1).take (Tryz.prog.cellsOf 23)) _ := r1
  rw [cz23] at r1
  obtain ⟨y2, e2⟩ := field_of (hf 2 _ rfl) (by omega)
  obtain ⟨a2, r2, k2⟩ := opens_3 _ _ _ _ _ _ _ _ _ e2
  have r2 : Rc w (UA w) ((cs.drop 2).take (Tryz.prog.cellsOf 3)) _ := r2
  rw [cz3] at r2
  obtain ⟨y3, e3⟩ := field_of (hf 3 _ rfl) (by omega)
  obtain ⟨a3, r3, k3⟩ := opens_3 _ _ _ _ _ _ _ _ _ e3
  have r3 : Rc w (UA w) ((cs.drop 3).take (Tryz.prog.cellsOf 3)) _ := r3
  rw [cz3] at r3
  refine ⟨⟨a0, a1, a2, a3⟩, ?_, ⟨k0, k1, k2, k3⟩⟩
  exact rc_step r0 (rc_step r1 (rc_step r2 (rc_step r3 (rc_end hl))))
theorem i64_r {n : Int} (h : (Lit.int .i64 n).wf = true) : -9223372036854775808 ≤ n ∧ n ≤ 9223372036854775807 := by simpa [Lit.wf, IntKind.min, IntKind.max, IntKind.signed, IntKind.bits] using h
theorem u16_r {n : Int} (h : (Lit.int .u16 n).wf = true) : 0 ≤ n ∧ n ≤ 65535 := by simpa [Lit.wf, IntKind.min, IntKind.max, IntKind.signed, IntKind.bits] using h
end Go.Proofs.YtmngepmckghcpaaGreatDoor.Wk
