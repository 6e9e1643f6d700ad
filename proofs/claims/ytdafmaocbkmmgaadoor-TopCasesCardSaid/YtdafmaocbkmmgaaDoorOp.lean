/- What the arguments read as. Condition: they read as data. -/
import Derived.Test.YtdafmaocbkmmgaaDoorAv19
import Derived.Test.YtdafmaocbkmmgaaDoorB1
import Derived.Test.YtdafmaocbkmmgaaDoorTy
set_option linter.unusedSimpArgs false
set_option linter.unusedVariables false
namespace Go.Proofs.YtdafmaocbkmmgaaDoor.Wk
open Go Go.RowKit Go.Proofs.YtdafmaocbkmmgaaDoor.Av
theorem cz3 : Tryd.prog.cellsOf 3 = 1 := by kernel_rfl
theorem cz25 : Tryd.prog.cellsOf 25 = 1 := by kernel_rfl
theorem cz22 : Tryd.prog.cellsOf 22 = 1 := by kernel_rfl
theorem cz24 : Tryd.prog.cellsOf 24 = 3 := by kernel_rfl
theorem cz37 : Tryd.prog.cellsOf 37 = 3 := by kernel_rfl
theorem cz26 : Tryd.prog.cellsOf 26 = 1 := by kernel_rfl
theorem opens_3 : Opens Tryd.prog 3 (rI .i64) (fun n => (Lit.int .i64 n).wf = true) := opens_int Tryd.underlying3
theorem opens_25 : Opens Tryd.prog 25 (rI .u16) (fun n => (Lit.int .u16 n).wf = true) := opens_int Tryd.underlying25
theorem opens_22 : Opens Tryd.prog 22 (rL 1 (rI .i64)) (fun l => ∀ a ∈ l, (Lit.int .i64 a).wf = true) := opens_slice Tryd.underlying22 cz3 (by omega) opens_3 (fun _ => rfl)
def okLw (x : Lw) : Prop := (∀ a ∈ x.days, (Lit.int .i64 a).wf = true) ∧ (∀ a ∈ x.fees, (Lit.int .i64 a).wf = true) ∧ (Lit.int .i64 x.limit).wf = true
theorem opens_24 : Opens Tryd.prog 24 eLw okLw := by
  intro H enc w base spare held fuel cs x h
  obtain ⟨ys, n, _, _, hl, hy, hf⟩ := DataW.trod_struct Tryd.underlying24 h
  rw [cz24] at hl
  have hy : ys.length = 3 := hy
  obtain ⟨y0, e0⟩ := field_of (hf 0 _ rfl) (by omega)
  obtain ⟨a0, r0, k0⟩ := opens_22 _ _ _ _ _ _ _ _ _ e0
  have r0 : Rc w (UA w) ((cs.drop 0).take (Tryd.prog.cellsOf 22)) _ := r0
  rw [cz22] at r0
  obtain ⟨y1, e1⟩ := field_of (hf 1 _ rfl) (by omega)
  obtain ⟨a1, r1, k1⟩ := opens_22 _ _ _ _ _ _ _ _ _ e1
  have r1 : Rc w (UA w) ((cs.drop 1).take (Tryd.prog.cellsOf 22)) _ := r1
  rw [cz22] at r1
  obtain ⟨y2, e2⟩ := field_of (hf 2 _ rfl) (by omega)
  obtain ⟨a2, r2, k2⟩ := opens_3 _ _ _ _ _ _ _ _ _ e2
  have r2 : Rc w (UA w) ((cs.drop 2).take (Tryd.prog.cellsOf 3)) _ := r2
  rw [cz3] at r2
  refine ⟨⟨a0, a1, a2⟩, ?_, ⟨k0, k1, k2⟩⟩
  exact rc_step r0 (rc_step r1 (rc_step r2 (rc_end hl)))
def okTn (x : Tn) : Prop := (Lit.int .i64 x.act).wf = true ∧ (Lit.int .i64 x.day).wf = true ∧ (Lit.int .i64 x.n).wf = true
theorem opens_37 : Opens Tryd.prog 37 eTn okTn := by
  intro H enc w base spare held fuel cs x h
  obtain ⟨ys, n, _, _, hl, hy, hf⟩ := DataW.trod_struct Tryd.underlying37 h
  rw [cz37] at hl
  have hy : ys.length = 3 := hy
  obtain ⟨y0, e0⟩ := field_of (hf 0 _ rfl) (by omega)
  obtain ⟨a0, r0, k0⟩ := opens_3 _ _ _ _ _ _ _ _ _ e0
  have r0 : Rc w (UA w) ((cs.drop 0).take (Tryd.prog.cellsOf 3)) _ := r0
  rw [cz3] at r0
  obtain ⟨y1, e1⟩ := field_of (hf 1 _ rfl) (by omega)
  obtain ⟨a1, r1, k1⟩ := opens_3 _ _ _ _ _ _ _ _ _ e1
  have r1 : Rc w (UA w) ((cs.drop 1).take (Tryd.prog.cellsOf 3)) _ := r1
  rw [cz3] at r1
  obtain ⟨y2, e2⟩ := field_of (hf 2 _ rfl) (by omega)
  obtain ⟨a2, r2, k2⟩ := opens_3 _ _ _ _ _ _ _ _ _ e2
  have r2 : Rc w (UA w) ((cs.drop 2).take (Tryd.prog.cellsOf 3)) _ := r2
  rw [cz3] at r2
  refine ⟨⟨a0, a1, a2⟩, ?_, ⟨k0, k1, k2⟩⟩
  exact rc_step r0 (rc_step r1 (rc_step r2 (rc_end hl)))
theorem opens_26 : Opens Tryd.prog 26 (rL 3 eTn) (fun l => ∀ a ∈ l, okTn a) := opens_slice Tryd.underlying26 cz37 (by omega) opens_37 (fun _ => rfl)
theorem i64_r {n : Int} (h : (Lit.int .i64 n).wf = true) : -9223372036854775808 ≤ n ∧ n ≤ 9223372036854775807 := by simpa [Lit.wf, IntKind.min, IntKind.max, IntKind.signed, IntKind.bits] using h
theorem u16_r {n : Int} (h : (Lit.int .u16 n).wf = true) : 0 ≤ n ∧ n ≤ 65535 := by simpa [Lit.wf, IntKind.min, IntKind.max, IntKind.signed, IntKind.bits] using h
end Go.Proofs.YtdafmaocbkmmgaaDoor.Wk
