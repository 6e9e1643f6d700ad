/- What the arguments read as. Condition: they read as data. -/
import Derived.Test.YtejophbmdgohdaaTy
import Derived.Test.YtejophbmdgohdaaAvF
set_option linter.unusedSimpArgs false
set_option linter.unusedVariables false
namespace Go.Proofs.Ytejophbmdgohdaa.Wk
open Go Go.RowKit Go.Proofs.Ytejophbmdgohdaa.Av
theorem cz3 : Try.prog.cellsOf 3 = 1 := by kernel_rfl
theorem cz9 : Try.prog.cellsOf 9 = 1 := by kernel_rfl
theorem cz23 : Try.prog.cellsOf 23 = 3 := by kernel_rfl
theorem cz25 : Try.prog.cellsOf 25 = 10 := by kernel_rfl
theorem cz47 : Try.prog.cellsOf 47 = 3 := by kernel_rfl
theorem cz37 : Try.prog.cellsOf 37 = 1 := by kernel_rfl
theorem cz39 : Try.prog.cellsOf 39 = 5 := by kernel_rfl
theorem cz33 : Try.prog.cellsOf 33 = 1 := by kernel_rfl
theorem opens_3 : Opens Try.prog 3 (rI .i64) (fun n => (Lit.int .i64 n).wf = true) := opens_int Try.underlying3
theorem opens_9 : Opens Try.prog 9 rS (fun s => s.size ≤ maxLen) := opens_str Try.underlying9
def okWd (x : Wd) : Prop := (Lit.int .i64 x.days).wf = true ∧ (Lit.int .i64 x.fr).wf = true ∧ (Lit.int .i64 x.to).wf = true
theorem opens_23 : Opens Try.prog 23 eWd okWd := by
  intro H enc w base spare held fuel cs x h
  obtain ⟨ys, n, _, _, hl, hy, hf⟩ := DataW.trod_struct Try.underlying23 h
  rw [cz23] at hl
  have hy : ys.length = 3 := hy
  obtain ⟨y0, e0⟩ := field_of (hf 0 _ rfl) (by omega)
  obtain ⟨a0, r0, k0⟩ := opens_3 _ _ _ _ _ _ _ _ _ e0
  have r0 : Rc w (UA w) ((cs.drop 0).take (Try.prog.cellsOf 3)) _ := r0
  rw [cz3] at r0
  obtain ⟨y1, e1⟩ := field_of (hf 1 _ rfl) (by omega)
  obtain ⟨a1, r1, k1⟩ := opens_3 _ _ _ _ _ _ _ _ _ e1
  have r1 : Rc w (UA w) ((cs.drop 1).take (Try.prog.cellsOf 3)) _ := r1
  rw [cz3] at r1
  obtain ⟨y2, e2⟩ := field_of (hf 2 _ rfl) (by omega)
  obtain ⟨a2, r2, k2⟩ := opens_3 _ _ _ _ _ _ _ _ _ e2
  have r2 : Rc w (UA w) ((cs.drop 2).take (Try.prog.cellsOf 3)) _ := r2
  rw [cz3] at r2
  refine ⟨⟨a0, a1, a2⟩, ?_, ⟨k0, k1, k2⟩⟩
  exact rc_step r0 (rc_step r1 (rc_step r2 (rc_end hl)))
def okDi (x : Di) : Prop := x.name.size ≤ maxLen ∧ (Lit.int .i64 x.kind).wf = true ∧ (Lit.int .i64 x.amount).wf = true ∧ x.group.size ≤ maxLen ∧ x.sys.size ≤ maxLen ∧ (Lit.int .i64 x.cls).wf = true ∧ okWd x.win ∧ (Lit.int .i64 x.least).wf = true
theorem opens_25 : Opens Try.prog 25 eDi okDi := by
  intro H enc w base spare held fuel cs x h
  obtain ⟨ys, n, _, _, hl, hy, hf⟩ := DataW.trod_struct Try.underlying25 h
  rw [cz25] at hl
  have hy : ys.length = 8 := hy
  obtain ⟨y0, e0⟩ := field_of (hf 0 _ rfl) (by omega)
  obtain ⟨a0, r0, k0⟩ := opens_9 _ _ _ _ _ _ _ _ _ e0
  have r0 : Rc w (UA w) ((cs.drop 0).take (Try.prog.cellsOf 9)) _ := r0
  rw [cz9] at r0
  obtain ⟨y1, e1⟩ := field_of (hf 1 _ rfl) (by omega)
  obtain ⟨a1, r1, k1⟩ := opens_3 _ _ _ _ _ _ _ _ _ e1
  have r1 : Rc w (UA w) ((cs.drop 1).take (Try.prog.cellsOf 3)) _ := r1
  rw [cz3] at r1
  obtain ⟨y2, e2⟩ := field_of (hf 2 _ rfl) (by omega)
  obtain ⟨a2, r2, k2⟩ := opens_3 _ _ _ _ _ _ _ _ _ e2
  have r2 : Rc w (UA w) ((cs.drop 2).take (Try.prog.cellsOf 3)) _ := r2
  rw [cz3] at r2
  obtain ⟨y3, e3⟩ := field_of (hf 3 _ rfl) (by omega)
  obtain ⟨a3, r3, k3⟩ := opens_9 _ _ _ _ _ _ _ _ _ e3
  have r3 : Rc w (UA w) ((cs.drop 3).take (Try.prog.cellsOf 9)) _ := r3
  rw [cz9] at r3
  obtain ⟨y4, e4⟩ := field_of (hf 4 _ rfl) (by omega)
  obtain ⟨a4, r4, k4⟩ := opens_9 _ _ _ _ _ _ _ _ _ e4
  have r4 : Rc w (UA w) ((cs.drop 4).take (Try.prog.cellsOf 9)) _ := r4
  rw [cz9] at r4
  obtain ⟨y5, e5⟩ := field_of (hf 5 _ rfl) (by omega)
  obtain ⟨a5, r5, k5⟩ := opens_3 _ _ _ _ _ _ _ _ _ e5
  have r5 : Rc w (UA w) ((cs.drop 5).take (Try.prog.cellsOf 3)) _ := r5
  rw [cz3] at r5
  obtain ⟨y6, e6⟩ := field_of (hf 6 _ rfl) (by omega)
  obtain ⟨a6, r6, k6⟩ := opens_23 _ _ _ _ _ _ _ _ _ e6
  have r6 : Rc w (UA w) ((cs.drop 6).take (Try.prog.cellsOf 23)) _ := r6
  rw [cz23] at r6
  obtain ⟨y7, e7⟩ := field_of (hf 7 _ rfl) (by omega)
  obtain ⟨a7, r7, k7⟩ := opens_3 _ _ _ _ _ _ _ _ _ e7
  have r7 : Rc w (UA w) ((cs.drop 9).take (Try.prog.cellsOf 3)) _ := r7
  rw [cz3] at r7
  refine ⟨⟨a0, a1, a2, a3, a4, a5, a6, a7⟩, ?_, ⟨k0, k1, k2, k3, k4, k5, k6, k7⟩⟩
  exact rc_step r0 (rc_step r1 (rc_step r2 (rc_step r3 (rc_step r4 (rc_step r5 (rc_step r6 (rc_step r7 (rc_end hl))))))))
def okSp (x : Sp) : Prop := x.point.size ≤ maxLen ∧ (Lit.int .i64 x.time).wf = true ∧ x.pass.size ≤ maxLen
theorem opens_47 : Opens Try.prog 47 eSp okSp := by
  intro H enc w base spare held fuel cs x h
  obtain ⟨ys, n, _, _, hl, hy, hf⟩ := DataW.trod_struct Try.underlying47 h
  rw [cz47] at hl
  have hy : ys.length = 3 := hy
  obtain ⟨y0, e0⟩ := field_of (hf 0 _ rfl) (by omega)
  obtain ⟨a0, r0, k0⟩ := opens_9 _ _ _ _ _ _ _ _ _ e0
  have r0 : Rc w (UA w) ((cs.drop 0).take (Try.prog.cellsOf 9)) _ := r0
  rw [cz9] at r0
  obtain ⟨y1, e1⟩ := field_of (hf 1 _ rfl) (by omega)
  obtain ⟨a1, r1, k1⟩ := opens_3 _ _ _ _ _ _ _ _ _ e1
  have r1 : Rc w (UA w) ((cs.drop 1).take (Try.prog.cellsOf 3)) _ := r1
  rw [cz3] at r1
  obtain ⟨y2, e2⟩ := field_of (hf 2 _ rfl) (by omega)
  obtain ⟨a2, r2, k2⟩ := opens_9 _ _ _ _ _ _ _ _ _ e2
  have r2 : Rc w (UA w) ((cs.drop 2).take (Try.prog.cellsOf 9)) _ := r2
  rw [cz9] at r2
  refine ⟨⟨a0, a1, a2⟩, ?_, ⟨k0, k1, k2⟩⟩
  exact rc_step r0 (rc_step r1 (rc_step r2 (rc_end hl)))
theorem opens_37 : Opens Try.prog 37 (rL 3 eSp) (fun l => l.length ≤ 9223372036854775807 ∧ ∀ a ∈ l, okSp a) := opens_len (opens_slice Try.underlying37 cz47 (by omega) opens_47 (fun _ => rfl))
def okTp (x : Tp) : Prop := x.id.size ≤ maxLen ∧ x.veh.size ≤ maxLen ∧ x.sys.size ≤ maxLen ∧ (Lit.int .i64 x.cls).wf = true ∧ (x.stops.length ≤ 9223372036854775807 ∧ ∀ a ∈ x.stops, okSp a)
theorem opens_39 : Opens Try.prog 39 eTp okTp := by
  intro H enc w base spare held fuel cs x h
  obtain ⟨ys, n, _, _, hl, hy, hf⟩ := DataW.trod_struct Try.underlying39 h
  rw [cz39] at hl
  have hy : ys.length = 5 := hy
  obtain ⟨y0, e0⟩ := field_of (hf 0 _ rfl) (by omega)
  obtain ⟨a0, r0, k0⟩ := opens_9 _ _ _ _ _ _ _ _ _ e0
  have r0 : Rc w (UA w) ((cs.drop 0).take (Try.prog.cellsOf 9)) _ := r0
  rw [cz9] at r0
  obtain ⟨y1, e1⟩ := field_of (hf 1 _ rfl) (by omega)
  obtain ⟨a1, r1, k1⟩ := opens_9 _ _ _ _ _ _ _ _ _ e1
  have r1 : Rc w (UA w) ((cs.drop 1).take (Try.prog.cellsOf 9)) _ := r1
  rw [cz9] at r1
  obtain ⟨y2, e2⟩ := field_of (hf 2 _ rfl) (by omega)
  obtain ⟨a2, r2, k2⟩ := opens_9 _ _ _ _ _ _ _ _ _ e2
  have r2 : Rc w (UA w) ((cs.drop 2).take (Try.prog.cellsOf 9)) _ := r2
  rw [cz9] at r2
  obtain ⟨y3, e3⟩ := field_of (hf 3 _ rfl) (by omega)
  obtain ⟨a3, r3, k3⟩ := opens_3 _ _ _ _ _ _ _ _ _ e3
  have r3 : Rc w (UA w) ((cs.drop 3).take (Try.prog.cellsOf 3)) _ := r3
  rw [cz3] at r3
  obtain ⟨y4, e4⟩ := field_of (hf 4 _ rfl) (by omega)
  obtain ⟨a4, r4, k4⟩ := opens_37 _ _ _ _ _ _ _ _ _ e4
  have r4 : Rc w (UA w) ((cs.drop 4).take (Try.prog.cellsOf 37)) _ := r4
  rw [cz37] at r4
  refine ⟨⟨a0, a1, a2, a3, a4⟩, ?_, ⟨k0, k1, k2, k3, k4⟩⟩
  exact rc_step r0 (rc_step r1 (rc_step r2 (rc_step r3 (rc_step r4 (rc_end hl)))))
theorem opens_33 : Opens Try.prog 33 (rL 10 eDi) (fun l => l.length ≤ 9223372036854775807 ∧ ∀ a ∈ l, okDi a) := opens_len (opens_slice Try.underlying33 cz25 (by omega) opens_25 (fun _ => rfl))
theorem i64_r {n : Int} (h : (Lit.int .i64 n).wf = true) : -9223372036854775808 ≤ n ∧ n ≤ 9223372036854775807 := by simpa [Lit.wf, IntKind.min, IntKind.max, IntKind.signed, IntKind.bits] using h
theorem u16_r {n : Int} (h : (Lit.int .u16 n).wf = true) : 0 ≤ n ∧ n ≤ 65535 := by simpa [Lit.wf, IntKind.min, IntKind.max, IntKind.signed, IntKind.bits] using h
end Go.Proofs.Ytejophbmdgohdaa.Wk
