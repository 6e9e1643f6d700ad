/- What the arguments read as. Condition: they read as data. -/
import Derived.Test.YtafookkclkgmlaaGreatDoorTy
import Derived.Test.YtafookkclkgmlaaGreatDoorAvF
set_option linter.unusedSimpArgs false
set_option linter.unusedVariables false
namespace Go.Proofs.YtafookkclkgmlaaGreatDoor.Wk
open Go Go.RowKit Go.Proofs.YtafookkclkgmlaaGreatDoor.Av
theorem cz3 : Tryz.prog.cellsOf 3 = 1 := by kernel_rfl
theorem cz9 : Tryz.prog.cellsOf 9 = 1 := by kernel_rfl
theorem cz108 : Tryz.prog.cellsOf 108 = 3 := by kernel_rfl
theorem cz37 : Tryz.prog.cellsOf 37 = 1 := by kernel_rfl
theorem cz56 : Tryz.prog.cellsOf 56 = 3 := by kernel_rfl
theorem cz38 : Tryz.prog.cellsOf 38 = 1 := by kernel_rfl
theorem cz40 : Tryz.prog.cellsOf 40 = 7 := by kernel_rfl
theorem cz41 : Tryz.prog.cellsOf 41 = 1 := by kernel_rfl
theorem cz43 : Tryz.prog.cellsOf 43 = 7 := by kernel_rfl
theorem opens_3 : Opens Tryz.prog 3 (rI .i64) (fun n => (Lit.int .i64 n).wf = true) := opens_int Tryz.underlying3
theorem opens_9 : Opens Tryz.prog 9 rS (fun s => s.size ≤ maxLen) := opens_str Tryz.underlying9
def okWd (x : Wd) : Prop := (Lit.int .i64 x.days).wf = true ∧ (Lit.int .i64 x.fr).wf = true ∧ (Lit.int .i64 x.to).wf = true
theorem opens_108 : Opens Tryz.prog 108 eWd okWd := by
  intro H enc w base spare held fuel cs x h
  obtain ⟨ys, n, _, _, hl, hy, hf⟩ := DataW.trod_struct Tryz.underlying108 h
  rw [cz108] at hl
  have hy : ys.length = 3 := hy
  obtain ⟨y0, e0⟩ := field_of (hf 0 _ rfl) (by omega)
  obtain ⟨a0, r0, k0⟩ := opens_3 _ _ _ _ _ _ _ _ _ e0
  have r0 : Rc w (UA w) ((cs.drop 0).take (Tryz.prog.cellsOf 3)) _ := r0
  rw [cz3] at r0
  obtain ⟨y1, e1⟩ := field_of (hf 1 _ rfl) (by omega)
  obtain ⟨a1, r1, k1⟩ := opens_3 _ _ _ _ _ _ _ _ _ e1
  have r1 : Rc w (UA w) ((cs.drop 1).take (Tryz.prog.cellsOf 3)) _ := r1
  rw [cz3] at r1
  obtain ⟨y2, e2⟩ := field_of (hf 2 _ rfl) (by omega)
  obtain ⟨a2, r2, k2⟩ := opens_3 _ _ _ _ _ _ _ _ _ e2
  have r2 : Rc w (UA w) ((cs.drop 2).take (Tryz.prog.cellsOf 3)) _ := r2
  rw [cz3] at r2
  refine ⟨⟨a0, a1, a2⟩, ?_, ⟨k0, k1, k2⟩⟩
  exact rc_step r0 (rc_step r1 (rc_step r2 (rc_end hl)))
theorem opens_37 : Opens Tryz.prog 37 (rL 3 eWd) (fun l => l.length ≤ 9223372036854775807 ∧ ∀ a ∈ l, okWd a) := opens_len (opens_slice Tryz.underlying37 cz108 (by omega) opens_108 (fun _ => rfl))
def okStp (x : Stp) : Prop := (Lit.int .i64 x.upto).wf = true ∧ (Lit.int .i64 x.unit).wf = true ∧ (Lit.int .i64 x.cents).wf = true
theorem opens_56 : Opens Tryz.prog 56 eStp okStp := by
  intro H enc w base spare held fuel cs x h
  obtain ⟨ys, n, _, _, hl, hy, hf⟩ := DataW.trod_struct Tryz.underlying56 h
  rw [cz56] at hl
  have hy : ys.length = 3 := hy
  obtain ⟨y0, e0⟩ := field_of (hf 0 _ rfl) (by omega)
  obtain ⟨a0, r0, k0⟩ := opens_3 _ _ _ _ _ _ _ _ _ e0
  have r0 : Rc w (UA w) ((cs.drop 0).take (Tryz.prog.cellsOf 3)) _ := r0
  rw [cz3] at r0
  obtain ⟨y1, e1⟩ := field_of (hf 1 _ rfl) (by omega)
  obtain ⟨a1, r1, k1⟩ := opens_3 _ _ _ _ _ _ _ _ _ e1
  have r1 : Rc w (UA w) ((cs.drop 1).take (Tryz.prog.cellsOf 3)) _ := r1
  rw [cz3] at r1
  obtain ⟨y2, e2⟩ := field_of (hf 2 _ rfl) (by omega)
  obtain ⟨a2, r2, k2⟩ := opens_3 _ _ _ _ _ _ _ _ _ e2
  have r2 : Rc w (UA w) ((cs.drop 2).take (Tryz.prog.cellsOf 3)) _ := r2
  rw [cz3] at r2
  refine ⟨⟨a0, a1, a2⟩, ?_, ⟨k0, k1, k2⟩⟩
  exact rc_step r0 (rc_step r1 (rc_step r2 (rc_end hl)))
theorem opens_38 : Opens Tryz.prog 38 (rL 3 eStp) (fun l => l.length ≤ 9223372036854775807 ∧ ∀ a ∈ l, okStp a) := opens_len (opens_slice Tryz.underlying38 cz56 (by omega) opens_56 (fun _ => rfl))
def okZn (x : Zn) : Prop := x.name.size ≤ maxLen ∧ (x.hours.length ≤ 9223372036854775807 ∧ ∀ a ∈ x.hours, okWd a) ∧ (x.steps.length ≤ 9223372036854775807 ∧ ∀ a ∈ x.steps, okStp a) ∧ (Lit.int .i64 x.grace).wf = true ∧ (Lit.int .i64 x.free).wf = true ∧ (Lit.int .i64 x.dayMax).wf = true ∧ (Lit.int .i64 x.stay).wf = true
theorem opens_40 : Opens Tryz.prog 40 eZn okZn := by
  intro H enc w base spare held fuel cs x h
  obtain ⟨ys, n, _, _, hl, hy, hf⟩ := DataW.trod_struct Tryz.underlying40 h
  rw [cz40] at hl
  have hy : ys.length = 7 := hy
  obtain ⟨y0, e0⟩ := field_of (hf 0 _ rfl) (by omega)
  obtain ⟨a0, r0, k0⟩ := opens_9 _ _ _ _ _ _ _ _ _ e0
  have r0 : Rc w (UA w) ((cs.drop 0).take (Tryz.prog.cellsOf 9)) _ := r0
  rw [cz9] at r0
  obtain ⟨y1, e1⟩ := field_of (hf 1 _ rfl) (by omega)
  obtain ⟨a1, r1, k1⟩ := opens_37 _ _ _ _ _ _ _ _ _ e1
  have r1 : Rc w (UA w) ((cs.drop 1).take (Tryz.prog.cellsOf 37)) _ := r1
  rw [cz37] at r1
  obtain ⟨y2, e2⟩ := field_of (hf 2 _ rfl) (by omega)
  obtain ⟨a2, r2, k2⟩ := opens_38 _ _ _ _ _ _ _ _ _ e2
  have r2 : Rc w (UA w) ((cs.drop 2).take (Tryz.prog.cellsOf 38)) _ := r2
  rw [cz38] at r2
  obtain ⟨y3, e3⟩ := field_of (hf 3 _ rfl) (by omega)
  obtain ⟨a3, r3, k3⟩ := opens_3 _ _ _ _ _ _ _ _ _ e3
  have r3 : Rc w (UA w) ((cs.drop 3).take (Tryz.prog.cellsOf 3)) _ := r3
  rw [cz3] at r3
  obtain ⟨y4, e4⟩ := field_of (hf 4 _ rfl) (by omega)
  obtain ⟨a4, r4, k4⟩ := opens_3 _ _ _ _ _ _ _ _ _ e4
  have r4 : Rc w (UA w) ((cs.drop 4).take (Tryz.prog.cellsOf 3)) _ := r4
  rw [cz3] at r4
  obtain ⟨y5, e5⟩ := field_of (hf 5 _ rfl) (by omega)
  obtain ⟨a5, r5, k5⟩ := opens_3 _ _ _ _ _ _ _ _ _ e5
  have r5 : Rc w (UA w) ((cs.drop 5).take (Tryz.prog.cellsOf 3)) _ := r5
  rw [cz3] at r5
  obtain ⟨y6, e6⟩ := field_of (hf 6 _ rfl) (by omega)
  obtain ⟨a6, r6, k6⟩ := opens_3 _ _ _ _ _ _ _ _ _ e6
  have r6 : Rc w (UA w) ((cs.drop 6).take (Tryz.prog.cellsOf 3)) _ := r6
  rw [cz3] at r6
  refine ⟨⟨a0, a1, a2, a3, a4, a5, a6⟩, ?_, ⟨k0, k1, k2, k3, k4, k5, k6⟩⟩
  exact rc_step r0 (rc_step r1 (rc_step r2 (rc_step r3 (rc_step r4 (rc_step r5 (rc_step r6 (rc_end hl)))))))
theorem opens_41 : Opens Tryz.prog 41 (rL 1 (rI .i64)) (fun l => l.length ≤ 9223372036854775807 ∧ ∀ a ∈ l, (Lit.int .i64 a).wf = true) := opens_len (opens_slice Tryz.underlying41 cz3 (by omega) opens_3 (fun _ => rfl))
def okSes (x : Ses) : Prop := x.id.size ≤ maxLen ∧ x.zone.size ≤ maxLen ∧ x.plate.size ≤ maxLen ∧ (Lit.int .i64 x.fr).wf = true ∧ (Lit.int .i64 x.un).wf = true ∧ (Lit.int .i64 x.state).wf = true ∧ (x.seen.length ≤ 9223372036854775807 ∧ ∀ a ∈ x.seen, (Lit.int .i64 a).wf = true)
theorem opens_43 : Opens Tryz.prog 43 eSes okSes := by
  intro H enc w base spare held fuel cs x h
  obtain ⟨ys, n, _, _, hl, hy, hf⟩ := DataW.trod_struct Tryz.underlying43 h
  rw [cz43] at hl
  have hy : ys.length = 7 := hy
  obtain ⟨y0, e0⟩ := field_of (hf 0 _ rfl) (by omega)
  obtain ⟨a0, r0, k0⟩ := opens_9 _ _ _ _ _ _ _ _ _ e0
  have r0 : Rc w (UA w) ((cs.drop 0).take (Tryz.prog.cellsOf 9)) _ := r0
  rw [cz9] at r0
  obtain ⟨y1, e1⟩ := field_of (hf 1 _ rfl) (by omega)
  obtain ⟨a1, r1, k1⟩ := opens_9 _ _ _ _ _ _ _ _ _ e1
  have r1 : Rc w (UA w) ((cs.drop 1).take (Tryz.prog.cellsOf 9)) _ := r1
  rw [cz9] at r1
  obtain ⟨y2, e2⟩ := field_of (hf 2 _ rfl) (by omega)
  obtain ⟨a2, r2, k2⟩ := opens_9 _ _ _ _ _ _ _ _ _ e2
  have r2 : Rc w (UA w) ((cs.drop 2).take (Tryz.prog.cellsOf 9)) _ := r2
  rw [cz9] at r2
  obtain ⟨y3, e3⟩ := field_of (hf 3 _ rfl) (by omega)
  obtain ⟨a3, r3, k3⟩ := opens_3 _ _ _ _ _ _ _ _ _ e3
  have r3 : Rc w (UA w) ((cs.drop 3).take (Tryz.prog.cellsOf 3)) _ := r3
  rw [cz3] at r3
  obtain ⟨y4, e4⟩ := field_of (hf 4 _ rfl) (by omega)
  obtain ⟨a4, r4, k4⟩ := opens_3 _ _ _ _ _ _ _ _ _ e4
  have r4 : Rc w (UA w) ((cs.drop 4).take (Tryz.prog.cellsOf 3)) _ := r4
  rw [cz3] at r4
  obtain ⟨y5, e5⟩ := field_of (hf 5 _ rfl) (by omega)
  obtain ⟨a5, r5, k5⟩ := opens_3 _ _ _ _ _ _ _ _ _ e5
  have r5 : Rc w (UA w) ((cs.drop 5).take (Tryz.prog.cellsOf 3)) _ := r5
  rw [cz3] at r5
  obtain ⟨y6, e6⟩ := field_of (hf 6 _ rfl) (by omega)
  obtain ⟨a6, r6, k6⟩ := opens_41 _ _ _ _ _ _ _ _ _ e6
  have r6 : Rc w (UA w) ((cs.drop 6).take (Tryz.prog.cellsOf 41)) _ := r6
  rw [cz41] at r6
  refine ⟨⟨a0, a1, a2, a3, a4, a5, a6⟩, ?_, ⟨k0, k1, k2, k3, k4, k5, k6⟩⟩
  exact rc_step r0 (rc_step r1 (rc_step r2 (rc_step r3 (rc_step r4 (rc_step r5 (rc_step r6 (rc_end hl)))))))
theorem i64_r {n : Int} (h : (Lit.int .i64 n).wf = true) : -9223372036854775808 ≤ n ∧ n ≤ 9223372036854775807 := by simpa [Lit.wf, IntKind.min, IntKind.max, IntKind.signed, IntKind.bits] using h
theorem u16_r {n : Int} (h : (Lit.int .u16 n).wf = true) : 0 ≤ n ∧ n ≤ 65535 := by simpa [Lit.wf, IntKind.min, IntKind.max, IntKind.signed, IntKind.bits] using h
end Go.Proofs.YtafookkclkgmlaaGreatDoor.Wk
