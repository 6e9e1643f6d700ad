/- What the arguments read as. Condition: they read as data. -/
import Derived.Test.YtobgdemhadlgnaaTy
import Derived.Test.YtobgdemhadlgnaaAvF
set_option linter.unusedSimpArgs false
set_option linter.unusedVariables false
namespace Go.Proofs.Ytobgdemhadlgnaa.Wk
open Go Go.RowKit Go.Proofs.Ytobgdemhadlgnaa.Av
theorem cz3 : Try.prog.cellsOf 3 = 1 := by kernel_rfl
theorem cz9 : Try.prog.cellsOf 9 = 1 := by kernel_rfl
theorem cz37 : Try.prog.cellsOf 37 = 5 := by kernel_rfl
theorem cz23 : Try.prog.cellsOf 23 = 1 := by kernel_rfl
theorem cz76 : Try.prog.cellsOf 76 = 4 := by kernel_rfl
theorem cz22 : Try.prog.cellsOf 22 = 1 := by kernel_rfl
theorem cz25 : Try.prog.cellsOf 25 = 6 := by kernel_rfl
theorem opens_3 : Opens Try.prog 3 (rI .i64) (fun n => (Lit.int .i64 n).wf = true) := opens_int Try.underlying3
theorem opens_9 : Opens Try.prog 9 rS (fun s => s.size ≤ maxLen) := opens_str Try.underlying9
def okRec (x : Rec) : Prop := (Lit.int .i64 x.kind).wf = true ∧ x.key.size ≤ maxLen ∧ (Lit.int .i64 x.time).wf = true ∧ (Lit.int .i64 x.cents).wf = true ∧ (Lit.int .i64 x.why).wf = true
theorem opens_37 : Opens Try.prog 37 eRec okRec := by
  intro H enc w base spare held fuel cs x h
  obtain ⟨ys, n, _, _, hl, hy, hf⟩ := DataW.trod_struct Try.underlying37 h
  rw [cz37] at hl
  have hy : ys.length = 5 := hy
  obtain ⟨y0, e0⟩ := field_of (hf 0 _ rfl) (by omega)
  obtain ⟨a0, r0, k0⟩ := opens_3 _ _ _ _ _ _ _ _ _ e0
  have r0 : Rc w (UA w) ((cs.drop 0).take (Try.prog.cellsOf 3)) _ := r0
  rw [cz3] at r0
  obtain ⟨y1, e1⟩ := field_of (hf 1 _ rfl) (by omega)
  obtain ⟨a1, r1, k1⟩ := opens_9 _ _ _ _ _ _ _ _ _ e1
  have r1 : Rc w (UA w) ((cs.drop 1).take (Try.prog.cellsOf 9)) _ := r1
  rw [cz9] at r1
  obtain ⟨y2, e2⟩ := field_of (hf 2 _ rfl) (by omega)
  obtain ⟨a2, r2, k2⟩ := opens_3 _ _ _ _ _ _ _ _ _ e2
  have r2 : Rc w (UA w) ((cs.drop 2).take (Try.prog.cellsOf 3)) _ := r2
  rw [cz3] at r2
  obtain ⟨y3, e3⟩ := field_of (hf 3 _ rfl) (by omega)
  obtain ⟨a3, r3, k3⟩ := opens_3 _ _ _ _ _ _ _ _ _ e3
  have r3 : Rc w (UA w) ((cs.drop 3).take (Try.prog.cellsOf 3)) _ := r3
  rw [cz3] at r3
  obtain ⟨y4, e4⟩ := field_of (hf 4 _ rfl) (by omega)
  obtain ⟨a4, r4, k4⟩ := opens_3 _ _ _ _ _ _ _ _ _ e4
  have r4 : Rc w (UA w) ((cs.drop 4).take (Try.prog.cellsOf 3)) _ := r4
  rw [cz3] at r4
  refine ⟨⟨a0, a1, a2, a3, a4⟩, ?_, ⟨k0, k1, k2, k3, k4⟩⟩
  exact rc_step r0 (rc_step r1 (rc_step r2 (rc_step r3 (rc_step r4 (rc_end hl)))))
theorem opens_23 : Opens Try.prog 23 (rL 5 eRec) (fun l => l.length ≤ 9223372036854775807 ∧ ∀ a ∈ l, okRec a) := opens_len (opens_slice Try.underlying23 cz37 (by omega) opens_37 (fun _ => rfl))
def okFle (x : Fle) : Prop := x.frm.size ≤ maxLen ∧ x.to.size ≤ maxLen ∧ (Lit.int .i64 x.seq).wf = true ∧ (x.recs.length ≤ 9223372036854775807 ∧ ∀ a ∈ x.recs, okRec a)
theorem opens_76 : Opens Try.prog 76 eFle okFle := by
  intro H enc w base spare held fuel cs x h
  obtain ⟨ys, n, _, _, hl, hy, hf⟩ := DataW.trod_struct Try.underlying76 h
  rw [cz76] at hl
  have hy : ys.length = 4 := hy
  obtain ⟨y0, e0⟩ := field_of (hf 0 _ rfl) (by omega)
  obtain ⟨a0, r0, k0⟩ := opens_9 _ _ _ _ _ _ _ _ _ e0
  have r0 : Rc w (UA w) ((cs.drop 0).take (Try.prog.cellsOf 9)) _ := r0
  rw [cz9] at r0
  obtain ⟨y1, e1⟩ := field_of (hf 1 _ rfl) (by omega)
  obtain ⟨a1, r1, k1⟩ := opens_9 _ _ _ _ _ _ _ _ _ e1
  have r1 : Rc w (UA w) ((cs.drop 1).take (Try.prog.cellsOf 9)) _ := r1
  rw [cz9] at r1
  obtain ⟨y2, e2⟩ := field_of (hf 2 _ rfl) (by omega)
  obtain ⟨a2, r2, k2⟩ := opens_3 _ _ _ _ _ _ _ _ _ e2
  have r2 : Rc w (UA w) ((cs.drop 2).take (Try.prog.cellsOf 3)) _ := r2
  rw [cz3] at r2
  obtain ⟨y3, e3⟩ := field_of (hf 3 _ rfl) (by omega)
  obtain ⟨a3, r3, k3⟩ := opens_23 _ _ _ _ _ _ _ _ _ e3
  have r3 : Rc w (UA w) ((cs.drop 3).take (Try.prog.cellsOf 23)) _ := r3
  rw [cz23] at r3
  refine ⟨⟨a0, a1, a2, a3⟩, ?_, ⟨k0, k1, k2, k3⟩⟩
  exact rc_step r0 (rc_step r1 (rc_step r2 (rc_step r3 (rc_end hl))))
theorem opens_22 : Opens Try.prog 22 (rL 4 eFle) (fun l => l.length ≤ 9223372036854775807 ∧ ∀ a ∈ l, okFle a) := opens_len (opens_slice Try.underlying22 cz76 (by omega) opens_76 (fun _ => rfl))
def okPtn (x : Ptn) : Prop := x.name.size ≤ maxLen ∧ (Lit.int .i64 x.out).wf = true ∧ (Lit.int .i64 x.inn).wf = true ∧ (x.wait.length ≤ 9223372036854775807 ∧ ∀ a ∈ x.wait, okFle a) ∧ (x.ours.length ≤ 9223372036854775807 ∧ ∀ a ∈ x.ours, okRec a) ∧ (x.theirs.length ≤ 9223372036854775807 ∧ ∀ a ∈ x.theirs, okRec a)
theorem opens_25 : Opens Try.prog 25 ePt okPtn := by
  intro H enc w base spare held fuel cs x h
  obtain ⟨ys, n, _, _, hl, hy, hf⟩ := DataW.trod_struct Try.underlying25 h
  rw [cz25] at hl
  have hy : ys.length = 6 := hy
  obtain ⟨y0, e0⟩ := field_of (hf 0 _ rfl) (by omega)
  obtain ⟨a0, r0, k0⟩ := opens_9 _ _ _ _ _ _ _ _ _ e0
  have r0 : Rc w (UA w) ((cs.drop 0).take (Try.prog.cellsOf 9)) _ := r0
  rw [cz9] at r0
  obtain ⟨y1, e1⟩ := field_of (hf 1 _ rfl) (by omega)
  obtain ⟨a1, r1, k1⟩ := opens_3 _ _ _ _ _ _ _ _ _ e1
  have r1 : Rc w (UA w) ((cs.drop 1).take (Try.prog.cellsOf 3)) _ := r1
  rw [cz3] at r1
  obtain ⟨y2, e2⟩ := field_of (hf 2 _ rfl) (by omega)
  obtain ⟨a2, r2, k2⟩ := opens_3 _ _ _ _ _ _ _ _ _ e2
  have r2 : Rc w (UA w) ((cs.drop 2).take (Try.prog.cellsOf 3)) _ := r2
  rw [cz3] at r2
  obtain ⟨y3, e3⟩ := field_of (hf 3 _ rfl) (by omega)
  obtain ⟨a3, r3, k3⟩ := opens_22 _ _ _ _ _ _ _ _ _ e3
  have r3 : Rc w (UA w) ((cs.drop 3).take (Try.prog.cellsOf 22)) _ := r3
  rw [cz22] at r3
  obtain ⟨y4, e4⟩ := field_of (hf 4 _ rfl) (by omega)
  obtain ⟨a4, r4, k4⟩ := opens_23 _ _ _ _ _ _ _ _ _ e4
  have r4 : Rc w (UA w) ((cs.drop 4).take (Try.prog.cellsOf 23)) _ := r4
  rw [cz23] at r4
  obtain ⟨y5, e5⟩ := field_of (hf 5 _ rfl) (by omega)
  obtain ⟨a5, r5, k5⟩ := opens_23 _ _ _ _ _ _ _ _ _ e5
  have r5 : Rc w (UA w) ((cs.drop 5).take (Try.prog.cellsOf 23)) _ := r5
  rw [cz23] at r5
  refine ⟨⟨a0, a1, a2, a3, a4, a5⟩, ?_, ⟨k0, k1, k2, k3, k4, k5⟩⟩
  exact rc_step r0 (rc_step r1 (rc_step r2 (rc_step r3 (rc_step r4 (rc_step r5 (rc_end hl))))))
theorem i64_r {n : Int} (h : (Lit.int .i64 n).wf = true) : -9223372036854775808 ≤ n ∧ n ≤ 9223372036854775807 := by simpa [Lit.wf, IntKind.min, IntKind.max, IntKind.signed, IntKind.bits] using h
theorem u16_r {n : Int} (h : (Lit.int .u16 n).wf = true) : 0 ≤ n ∧ n ≤ 65535 := by simpa [Lit.wf, IntKind.min, IntKind.max, IntKind.signed, IntKind.bits] using h
end Go.Proofs.Ytobgdemhadlgnaa.Wk
