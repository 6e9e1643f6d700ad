/- What the arguments read as. Condition: they read as data. -/
import Derived.Test.YtaoopadfijkbcaaGreatDoorTy
import Derived.Test.YtaoopadfijkbcaaGreatDoorAvF
set_option linter.unusedSimpArgs false
set_option linter.unusedVariables false
namespace Go.Proofs.YtaoopadfijkbcaaGreatDoor.Wk
open Go Go.RowKit Go.Proofs.YtaoopadfijkbcaaGreatDoor.Av
theorem cz3 : Tryz.prog.cellsOf 3 = 1 := by kernel_rfl
theorem cz9 : Tryz.prog.cellsOf 9 = 1 := by kernel_rfl
theorem cz147 : Tryz.prog.cellsOf 147 = 3 := by kernel_rfl
theorem cz47 : Tryz.prog.cellsOf 47 = 1 := by kernel_rfl
theorem cz52 : Tryz.prog.cellsOf 52 = 3 := by kernel_rfl
theorem cz48 : Tryz.prog.cellsOf 48 = 1 := by kernel_rfl
theorem cz50 : Tryz.prog.cellsOf 50 = 7 := by kernel_rfl
theorem cz24 : Tryz.prog.cellsOf 24 = 1 := by kernel_rfl
theorem cz34 : Tryz.prog.cellsOf 34 = 2 := by kernel_rfl
theorem cz36 : Tryz.prog.cellsOf 36 = 5 := by kernel_rfl
theorem opens_3 : Opens Tryz.prog 3 (rI .i64) (fun n => (Lit.int .i64 n).wf = true) := opens_int Tryz.underlying3
theorem opens_9 : Opens Tryz.prog 9 rS (fun s => s.size ≤ maxLen) := opens_str Tryz.underlying9
def okWd (x : Wd) : Prop := (Lit.int .i64 x.days).wf = true ∧ (Lit.int .i64 x.fr).wf = true ∧ (Lit.int .i64 x.to).wf = true
theorem opens_147 : Opens Tryz.prog 147 eWd okWd := by
  intro H enc w base spare held fuel cs x h
  obtain ⟨ys, n, _, _, hl, hy, hf⟩ := DataW.trod_struct Tryz.underlying147 h
  rw [cz147] at hl
  have hy : ys.length = 3 := hy
  obtain ⟨y0, e0⟩ := field_of (hf 0 _ rfl) (by omega)
  obtain ⟨a0, r0, k0⟩ := opens_3 _ _ _ _ _ _ _ _ _ e0
  have r0 : Rc w (UA w) ((cs.drop 0).take (Tryz.prog.cellsOf 3)) _ := r0
  rw [cz3] at r0
  obtain ⟨y1, e1⟩ := field_of (hf 1 _ rfl) (by omega)
  obtain ⟨a1, r1, k1⟩ := opens_3 _ _ _ _ _ _ _ _ _ e1
  have r1 : Rc w (UA w) ((cs.drop 1).take (Tryz.prog.cellsOf 3)) _ := r1
  rw [cz3] at r1
  obtain ⟨y2, e2⟩ := field_of (hf 2 _ rfl) (by omega)
  obtain ⟨a2, r2, k2⟩ := opens_3 _ _ _ _ _ _ _ _ _ e2
  have r2 : Rc w (UA w) ((cs.drop 2).take (Tryz.prog.cellsOf 3)) _ := r2
  rw [cz3] at r2
  refine ⟨⟨a0, a1, a2⟩, ?_, ⟨k0, k1, k2⟩⟩
  exact rc_step r0 (rc_step r1 (rc_step r2 (rc_end hl)))
theorem opens_47 : Opens Tryz.prog 47 (rL 3 eWd) (fun l => l.length ≤ 9223372036854775807 ∧ ∀ a ∈ l, okWd a) := opens_len (opens_slice Tryz.underlying47 cz147 (by omega) opens_147 (fun _ => rfl))
def okStp (x : Stp) : Prop := (Lit.int .i64 x.upto).wf = true ∧ (Lit.int .i64 x.unit).wf = true ∧ (Lit.int .i64 x.cents).wf = true
theorem opens_52 : Opens Tryz.prog 52 eStp okStp := by
  intro H enc w base spare held fuel cs x h
  obtain ⟨ys, n, _, _, hl, hy, hf⟩ := DataW.trod_struct Tryz.underlying52 h
  rw [cz52] at hl
  have hy : ys.length = 3 := hy
  obtain ⟨y0, e0⟩ := field_of (hf 0 _ rfl) (by omega)
  obtain ⟨a0, r0, k0⟩ := opens_3 _ _ _ _ _ _ _ _ _ e0
  have r0 : Rc w (UA w) ((cs.drop 0).take (Tryz.prog.cellsOf 3)) _ := r0
  rw [cz3] at r0
  obtain ⟨y1, e1⟩ := field_of (hf 1 _ rfl) (by omega)
  obtain ⟨a1, r1, k1⟩ := opens_3 _ _ _ _ _ _ _ _ _ e1
  have r1 : Rc w (UA w) ((cs.drop 1).take (Tryz.prog.cellsOf 3)) _ := r1
  rw [cz3] at r1
  obtain ⟨y2, e2⟩ := field_of (hf 2 _ rfl) (by omega)
  obtain ⟨a2, r2, k2⟩ := opens_3 _ _ _ _ _ _ _ _ _ e2
  have r2 : Rc w (UA w) ((cs.drop 2).take (Tryz.prog.cellsOf 3)) _ := r2
  rw [cz3] at r2
  refine ⟨⟨a0, a1, a2⟩, ?_, ⟨k0, k1, k2⟩⟩
  exact rc_step r0 (rc_step r1 (rc_step r2 (rc_end hl)))
theorem opens_48 : Opens Tryz.prog 48 (rL 3 eStp) (fun l => l.length ≤ 9223372036854775807 ∧ ∀ a ∈ l, okStp a) := opens_len (opens_slice Tryz.underlying48 cz52 (by omega) opens_52 (fun _ => rfl))
def okZn (x : Zn) : Prop := x.name.size ≤ maxLen ∧ (x.hours.length ≤ 9223372036854775807 ∧ ∀ a ∈ x.hours, okWd a) ∧ (x.steps.length ≤ 9223372036854775807 ∧ ∀ a ∈ x.steps, okStp a) ∧ (Lit.int .i64 x.grace).wf = true ∧ (Lit.int .i64 x.free).wf = true ∧ (Lit.int .i64 x.dayMax).wf = true ∧ (Lit.int .i64 x.stay).wf = true
theorem opens_50 : Opens Tryz.prog 50 eZn okZn := by
  intro H enc w base spare held fuel cs x h
  obtain ⟨ys, n, _, _, hl, hy, hf⟩ := DataW.trod_struct Tryz.underlying50 h
  rw [cz50] at hl
  have hy : ys.length = 7 := hy
  obtain ⟨y0, e0⟩ := field_of (hf 0 _ rfl) (by omega)
  obtain ⟨a0, r0, k0⟩ := opens_9 _ _ _ _ _ _ _ _ _ e0
  have r0 : Rc w (UA w) ((cs.drop 0).take (Tryz.prog.cellsOf 9)) _ := r0
  rw [cz9] at r0
  obtain ⟨y1, e1⟩ := field_of (hf 1 _ rfl) (by omega)
  obtain ⟨a1, r1, k1⟩ := opens_47 _ _ _ _ _ _ _ _ _ e1
  have r1 : Rc w (UA w) ((cs.drop 1).take (Tryz.prog.cellsOf 47)) _ := r1
  rw [cz47] at r1
  obtain ⟨y2, e2⟩ := field_of (hf 2 _ rfl) (by omega)
  obtain ⟨a2, r2, k2⟩ := opens_48 _ _ _ _ _ _ _ _ _ e2
  have r2 : Rc w (UA w) ((cs.drop 2).take (Tryz.prog.cellsOf 48)) _ := r2
  rw [cz48] at r2
  obtain ⟨y3, e3⟩ := field_of (hf 3 _ rfl) (by omega)
  obtain ⟨a3, r3, k3⟩ := opens_3 _ _ _ _ _ _ _ _ _ e3
  have r3 : Rc w (UA w) ((cs.drop 3).take (Tryz.prog.cellsOf 3)) _ := r3
  rw [cz3] at r3
  obtain ⟨y4, e4⟩ := field_of (hf 4 _ rfl) (by omega)
  obtain ⟨a4, r4, k4⟩ := opens_3 _ _ _ _ _ _ _ _ _ e4
  have r4 : Rc w (UA w) ((cs.drop 4).take (Tryz.prog.cellsOf 3)) _ := r4
  rw [cz3] at r4
  obtain ⟨y5, e5⟩ := field_of (hf 5 _ rfl) (by omega)
  obtain ⟨a5, r5, k5⟩ := opens_3 _ _ _ _ _ _ _ _ _ e5
  have r5 : Rc w (UA w) ((cs.drop 5).take (Tryz.prog.cellsOf 3)) _ := r5
  rw [cz3] at r5
  obtain ⟨y6, e6⟩ := field_of (hf 6 _ rfl) (by omega)
  obtain ⟨a6, r6, k6⟩ := opens_3 _ _ _ _ _ _ _ _ _ e6
  have r6 : Rc w (UA w) ((cs.drop 6).take (Tryz.prog.cellsOf 3)) _ := r6
  rw [cz3] at r6
  refine ⟨⟨a0, a1, a2, a3, a4, a5, a6⟩, ?_, ⟨k0, k1, k2, k3, k4, k5, k6⟩⟩
  exact rc_step r0 (rc_step r1 (rc_step r2 (rc_step r3 (rc_step r4 (rc_step r5 (rc_step r6 (rc_end hl)))))))
theorem opens_24 : Opens Tryz.prog 24 (rL 7 eZn) (fun l => l.length ≤ 9223372036854775807 ∧ ∀ a ∈ l, okZn a) := opens_len (opens_slice Tryz.underlying24 cz50 (by omega) opens_50 (fun _ => rfl))
def okItv (x : Itv) : Prop := (Lit.int .i64 x.fr).wf = true ∧ (Lit.int .i64 x.to).wf = true
theorem opens_34 : Opens Tryz.prog 34 eItv okItv := by
  intro H enc w base spare held fuel cs x h
  obtain ⟨ys, n, _, _, hl, hy, hf⟩ := DataW.trod_struct Tryz.underlying34 h
  rw [cz34] at hl
  have hy : ys.length = 2 := hy
  obtain ⟨y0, e0⟩ := field_of (hf 0 _ rfl) (by omega)
  obtain ⟨a0, r0, k0⟩ := opens_3 _ _ _ _ _ _ _ _ _ e0
  have r0 : Rc w (UA w) ((cs.drop 0).take (Tryz.prog.cellsOf 3)) _ := r0
  rw [cz3] at r0
  obtain ⟨y1, e1⟩ := field_of (hf 1 _ rfl) (by omega)
  obtain ⟨a1, r1, k1⟩ := opens_3 _ _ _ _ _ _ _ _ _ e1
  have r1 : Rc w (UA w) ((cs.drop 1).take (Tryz.prog.cellsOf 3)) _ := r1
  rw [cz3] at r1
  refine ⟨⟨a0, a1⟩, ?_, ⟨k0, k1⟩⟩
  exact rc_step r0 (rc_step r1 (rc_end hl))
def okSty (x : Sty) : Prop := x.id.size ≤ maxLen ∧ x.zone.size ≤ maxLen ∧ x.plate.size ≤ maxLen ∧ okItv x.time
theorem opens_36 : Opens Tryz.prog 36 eSty okSty := by
  intro H enc w base spare held fuel cs x h
  obtain ⟨ys, n, _, _, hl, hy, hf⟩ := DataW.trod_struct Tryz.underlying36 h
  rw [cz36] at hl
  have hy : ys.length = 4 := hy
  obtain ⟨y0, e0⟩ := field_of (hf 0 _ rfl) (by omega)
  obtain ⟨a0, r0, k0⟩ := opens_9 _ _ _ _ _ _ _ _ _ e0
  have r0 : Rc w (UA w) ((cs.drop 0).take (Tryz.prog.cellsOf 9)) _ := r0
  rw [cz9] at r0
  obtain ⟨y1, e1⟩ := field_of (hf 1 _ rfl) (by omega)
  obtain ⟨a1, r1, k1⟩ := opens_9 _ _ _ _ _ _ _ _ _ e1
  have r1 : Rc w (UA w) ((cs.drop 1).take (Tryz.prog.cellsOf 9)) _ := r1
  rw [cz9] at r1
  obtain ⟨y2, e2⟩ := field_of (hf 2 _ rfl) (by omega)
  obtain ⟨a2, r2, k2⟩ := opens_9 _ _ _ _ _ _ _ _ _ e2
  have r2 : Rc w (UA w) ((cs.drop 2).take (Tryz.prog.cellsOf 9)) _ := r2
  rw [cz9] at r2
  obtain ⟨y3, e3⟩ := field_of (hf 3 _ rfl) (by omega)
  obtain ⟨a3, r3, k3⟩ := opens_34 _ _ _ _ _ _ _ _ _ e3
  have r3 : Rc w (UA w) ((cs.drop 3).take (Tryz.prog.cellsOf 34)) _ := r3
  rw [cz34] at r3
  refine ⟨⟨a0, a1, a2, a3⟩, ?_, ⟨k0, k1, k2, k3⟩⟩
  exact rc_step r0 (rc_step r1 (rc_step r2 (rc_step r3 (rc_end hl))))
theorem i64_r {n : Int} (h : (Lit.int .i64 n).wf = true) : -9223372036854775808 ≤ n ∧ n ≤ 9223372036854775807 := by simpa [Lit.wf, IntKind.min, IntKind.max, IntKind.signed, IntKind.bits] using h
theorem u16_r {n : Int} (h : (Lit.int .u16 n).wf = true) : 0 ≤ n ∧ n ≤ 65535 := by simpa [Lit.wf, IntKind.min, IntKind.max, IntKind.signed, IntKind.bits] using h
end Go.Proofs.YtaoopadfijkbcaaGreatDoor.Wk
