/- What the arguments read as. Condition: they read as data. -/
import Derived.Test.YtafmoldngopkdaaTy
import Derived.Test.YtafmoldngopkdaaAvF
set_option linter.unusedSimpArgs false
set_option linter.unusedVariables false
namespace Go.Proofs.Ytafmoldngopkdaa.Wk
open Go Go.RowKit Go.Proofs.Ytafmoldngopkdaa.Av
theorem cz3 : Try.prog.cellsOf 3 = 1 := by kernel_rfl
theorem cz23 : Try.prog.cellsOf 23 = 1 := by kernel_rfl
theorem cz22 : Try.prog.cellsOf 22 = 1 := by kernel_rfl
theorem cz25 : Try.prog.cellsOf 25 = 3 := by kernel_rfl
theorem opens_3 : Opens Try.prog 3 (rI .i64) (fun n => (Lit.int .i64 n).wf = true) := opens_int Try.underlying3
theorem opens_23 : Opens Try.prog 23 (rL 1 (rI .i64)) (fun l => l.length ≤ 9223372036854775807 ∧ ∀ a ∈ l, (Lit.int .i64 a).wf = true) := opens_len (opens_slice Try.underlying23 cz3 (by omega) opens_3 (fun _ => rfl))
theorem opens_22 : Opens Try.prog 22 (rL 1 (rL 1 (rI .i64))) (fun l => l.length ≤ 9223372036854775807 ∧ ∀ a ∈ l, (a.length ≤ 9223372036854775807 ∧ ∀ b ∈ a, (Lit.int .i64 b).wf = true)) := opens_len (opens_slice Try.underlying22 cz23 (by omega) opens_23 (fun _ => rfl))
def okMat (x : Mat) : Prop := (x.cost.length ≤ 9223372036854775807 ∧ ∀ a ∈ x.cost, (a.length ≤ 9223372036854775807 ∧ ∀ b ∈ a, (Lit.int .i64 b).wf = true)) ∧ (x.row.length ≤ 9223372036854775807 ∧ ∀ a ∈ x.row, (Lit.int .i64 a).wf = true) ∧ (x.col.length ≤ 9223372036854775807 ∧ ∀ a ∈ x.col, (Lit.int .i64 a).wf = true)
theorem opens_25 : Opens Try.prog 25 eMat okMat := by
  intro H enc w base spare held fuel cs x h
  obtain ⟨ys, n, _, _, hl, hy, hf⟩ := DataW.trod_struct Try.underlying25 h
  rw [cz25] at hl
  have hy : ys.length = 3 := hy
  obtain ⟨y0, e0⟩ := field_of (hf 0 _ rfl) (by omega)
  obtain ⟨a0, r0, k0⟩ := opens_22 _ _ _ _ _ _ _ _ _ e0
  have r0 : Rc w (UA w) ((cs.drop 0).take (Try.prog.cellsOf 22)) _ := r0
  rw [cz22] at r0
  obtain ⟨y1, e1⟩ := field_of (hf 1 _ rfl) (by omega)
  obtain ⟨a1, r1, k1⟩ := opens_23 _ _ _ _ _ _ _ _ _ e1
  have r1 : Rc w (UA w) ((cs.drop 1).take (Try.prog.cellsOf 23)) _ := r1
  rw [cz23] at r1
  obtain ⟨y2, e2⟩ := field_of (hf 2 _ rfl) (by omega)
  obtain ⟨a2, r2, k2⟩ := opens_23 _ _ _ _ _ _ _ _ _ e2
  have r2 : Rc w (UA w) ((cs.drop 2).take (Try.prog.cellsOf 23)) _ := r2
  rw [cz23] at r2
  refine ⟨⟨a0, a1, a2⟩, ?_, ⟨k0, k1, k2⟩⟩
  exact rc_step r0 (rc_step r1 (rc_step r2 (rc_end hl)))
theorem i64_r {n : Int} (h : (Lit.int .i64 n).wf = true) : -9223372036854775808 ≤ n ∧ n ≤ 9223372036854775807 := by simpa [Lit.wf, IntKind.min, IntKind.max, IntKind.signed, IntKind.bits] using h
theorem u16_r {n : Int} (h : (Lit.int .u16 n).wf = true) : 0 ≤ n ∧ n ≤ 65535 := by simpa [Lit.wf, IntKind.min, IntKind.max, IntKind.signed, IntKind.bits] using h
end Go.Proofs.Ytafmoldngopkdaa.Wk
