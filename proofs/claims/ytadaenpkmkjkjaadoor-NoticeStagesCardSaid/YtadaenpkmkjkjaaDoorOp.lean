/- What the arguments read as. Condition: they read as data. -/
import Derived.Test.YtadaenpkmkjkjaaDoorAv19
import Derived.Test.YtadaenpkmkjkjaaDoorC1
set_option linter.unusedSimpArgs false
set_option linter.unusedVariables false
namespace Go.Proofs.YtadaenpkmkjkjaaDoor.Wk
open Go Go.RowKit Go.Proofs.YtadaenpkmkjkjaaDoor.Av
theorem cz3 : Tryd.prog.cellsOf 3 = 1 := by kernel_rfl
theorem cz4 : Tryd.prog.cellsOf 4 = 1 := by kernel_rfl
theorem cz9 : Tryd.prog.cellsOf 9 = 1 := by kernel_rfl
theorem cz22 : Tryd.prog.cellsOf 22 = 1 := by kernel_rfl
theorem cz24 : Tryd.prog.cellsOf 24 = 3 := by kernel_rfl
theorem cz27 : Tryd.prog.cellsOf 27 = 3 := by kernel_rfl
theorem cz29 : Tryd.prog.cellsOf 29 = 12 := by kernel_rfl
theorem cz44 : Tryd.prog.cellsOf 44 = 16 := by kernel_rfl
theorem opens_3 : Opens Tryd.prog 3 (rI .i64) (fun n => (Lit.int .i64 n).wf = true) := opens_int Tryd.underlying3
theorem opens_4 : Opens Tryd.prog 4 rB (fun _ => True) := opens_bool Tryd.underlying4
theorem opens_9 : Opens Tryd.prog 9 rS (fun s => s.size ≤ maxLen) := opens_str Tryd.underlying9
theorem opens_22 : Opens Tryd.prog 22 (rL 1 (rI .i64)) (fun l => ∀ a ∈ l, (Lit.int .i64 a).wf = true) := opens_slice Tryd.underlying22 cz3 (by omega) opens_3 (fun _ => rfl)
def okLw (x : Lw) : Prop := (∀ a ∈ x.days, (Lit.int .i64 a).wf = true) ∧ (∀ a ∈ x.fees, (Lit.int .i64 a).wf = true) ∧ (Lit.int .i64 x.limit).wf = true
theorem opens_24 : Opens Tryd.prog 24 eLw okLw := by
  intro H enc w base spare held fuel cs x h
  obtain ⟨ys, n, _, _, hl, hy, hf⟩ := DataW.trod_struct Tryd.underlying24 h
  rw [cz24] at hl
  have hy : ys.length = 3 := hy
  obtain ⟨y0, e0⟩ := field_of (hf 0 _ rfl) (by omega)
  obtain ⟨a0, r0, k0⟩ := opens_22 _ _ _ _ _ _ _ _ _ e0
  have r0 : Rc w (UA w) ((cs.drop 0).take (Tryd.prog.cellsOf 22)) _ := r0
  rw [cz22] at r0
  obtain ⟨y1, e1⟩ := field_of (hf 1 _ rfl) (by omega)
  obtain ⟨a1, r1, k1⟩ := opens_22 _ _ _ _ _ _ _ _ _ e1
  have r1 : Rc w (UA w) ((cs.drop 1).take (Tryd.prog.cellsOf 22)) _ := r1
  rw [cz22] at r1
  obtain ⟨y2, e2⟩ := field_of (hf 2 _ rfl) (by omega)
  obtain ⟨a2, r2, k2⟩ := opens_3 _ _ _ _ _ _ _ _ _ e2
  have r2 : Rc w (UA w) ((cs.drop 2).take (Tryd.prog.cellsOf 3)) _ := r2
  rw [cz3] at r2
  refine ⟨⟨a0, a1, a2⟩, ?_, ⟨k0, k1, k2⟩⟩
  exact rc_step r0 (rc_step r1 (rc_step r2 (rc_end hl)))
def okAp (x : Ap) : Prop := (Lit.int .i64 x.state).wf = true ∧ (Lit.int .i64 x.ground).wf = true ∧ (Lit.int .i64 x.day).wf = true
theorem opens_27 : Opens Tryd.prog 27 eAp okAp := by
  intro H enc w base spare held fuel cs x h
  obtain ⟨ys, n, _, _, hl, hy, hf⟩ := DataW.trod_struct Tryd.underlying27 h
  rw [cz27] at hl
  have hy : ys.length = 3 := hy
  obtain ⟨y0, e0⟩ := field_of (hf 0 _ rfl) (by omega)
  obtain ⟨a0, r0, k0⟩ := opens_3 _ _ _ _ _ _ _ _ _ e0
  have r0 : Rc w (UA w) ((cs.drop 0).take (Tryd.prog.cellsOf 3)) _ := r0
  rw [cz3] at r0
  obtain ⟨y1, e1⟩ := field_of (hf 1 _ rfl) (by omega)
  obtain ⟨a1, r1, k1⟩ := opens_3 _ _ _ _ _ _ _ _ _ e1
  have r1 : Rc w (UA w) ((cs.drop 1).take (Tryd.prog.cellsOf 3)) _ := r1
  rw [cz3] at r1
  obtain ⟨y2, e2⟩ := field_of (hf 2 _ rfl) (by omega)
  obtain ⟨a2, r2, k2⟩ := opens_3 _ _ _ _ _ _ _ _ _ e2
  have r2 : Rc w (UA w) ((cs.drop 2).take (Tryd.prog.cellsOf 3)) _ := r2
  rw [cz3] at r2
  refine ⟨⟨a0, a1, a2⟩, ?_, ⟨k0, k1, k2⟩⟩
  exact rc_step r0 (rc_step r1 (rc_step r2 (rc_end hl)))
def okCs (x : Cs) : Prop := x.id.size ≤ maxLen ∧ x.plate.size ≤ maxLen ∧ x.key.size ≤ maxLen ∧ (Lit.int .i64 x.begun).wf = true ∧ (Lit.int .i64 x.since).wf = true ∧ (Lit.int .i64 x.stage).wf = true ∧ (Lit.int .i64 x.owed).wf = true ∧ (Lit.int .i64 x.paid).wf = true ∧ (Lit.int .i64 x.paused).wf = true ∧ okAp x.ap
theorem opens_29 : Opens Tryd.prog 29 eCs okCs := by
  intro H enc w base spare held fuel cs x h
  obtain ⟨ys, n, _, _, hl, hy, hf⟩ := DataW.trod_struct Tryd.underlying29 h
  rw [cz29] at hl
  have hy : ys.length = 10 := hy
  obtain ⟨y0, e0⟩ := field_of (hf 0 _ rfl) (by omega)
  obtain ⟨a0, r0, k0⟩ := opens_9 _ _ _ _ _ _ _ _ _ e0
  have r0 : Rc w (UA w) ((cs.drop 0).take (Tryd.prog.cellsOf 9)) _ := r0
  rw [cz9] at r0
  obtain ⟨y1, e1⟩ := field_of (hf 1 _ rfl) (by omega)
  obtain ⟨a1, r1, k1⟩ := opens_9 _ _ _ _ _ _ _ _ _ e1
  have r1 : Rc w (UA w) ((cs.drop 1).take (Tryd.prog.cellsOf 9)) _ := r1
  rw [cz9] at r1
  obtain ⟨y2, e2⟩ := field_of (hf 2 _ rfl) (by omega)
  obtain ⟨a2, r2, k2⟩ := opens_9 _ _ _ _ _ _ _ _ _ e2
  have r2 : Rc w (UA w) ((cs.drop 2).take (Tryd.prog.cellsOf 9)) _ := r2
  rw [cz9] at r2
  obtain ⟨y3, e3⟩ := field_of (hf 3 _ rfl) (by omega)
  obtain ⟨a3, r3, k3⟩ := opens_3 _ _ _ _ _ _ _ _ _ e3
  have r3 : Rc w (UA w) ((cs.drop 3).take (Tryd.prog.cellsOf 3)) _ := r3
  rw [cz3] at r3
  obtain ⟨y4, e4⟩ := field_of (hf 4 _ rfl) (by omega)
  obtain ⟨a4, r4, k4⟩ := opens_3 _ _ _ _ _ _ _ _ _ e4
  have r4 : Rc w (UA w) ((cs.drop 4).take (Tryd.prog.cellsOf 3)) _ := r4
  rw [cz3] at r4
  obtain ⟨y5, e5⟩ := field_of (hf 5 _ rfl) (by omega)
  obtain ⟨a5, r5, k5⟩ := opens_3 _ _ _ _ _ _ _ _ _ e5
  have r5 : Rc w (UA w) ((cs.drop 5).take (Tryd.prog.cellsOf 3)) _ := r5
  rw [cz3] at r5
  obtain ⟨y6, e6⟩ := field_of (hf 6 _ rfl) (by omega)
  obtain ⟨a6, r6, k6⟩ := opens_3 _ _ _ _ _ _ _ _ _ e6
  have r6 : Rc w (UA w) ((cs.drop 6).take (Tryd.prog.cellsOf 3)) _ := r6
  rw [cz3] at r6
  obtain ⟨y7, e7⟩ := field_of (hf 7 _ rfl) (by omega)
  obtain ⟨a7, r7, k7⟩ := opens_3 _ _ _ _ _ _ _ _ _ e7
  have r7 : Rc w (UA w) ((cs.drop 7).take (Tryd.prog.cellsOf 3)) _ := r7
  rw [cz3] at r7
  obtain ⟨y8, e8⟩ := field_of (hf 8 _ rfl) (by omega)
  obtain ⟨a8, r8, k8⟩ := opens_3 _ _ _ _ _ _ _ _ _ e8
  have r8 : Rc w (UA w) ((cs.drop 8).take (Tryd.prog.cellsOf 3)) _ := r8
  rw [cz3] at r8
  obtain ⟨y9, e9⟩ := field_of (hf 9 _ rfl) (by omega)
  obtain ⟨a9, r9, k9⟩ := opens_27 _ _ _ _ _ _ _ _ _ e9
  have r9 : Rc w (UA w) ((cs.drop 9).take (Tryd.prog.cellsOf 27)) _ := r9
  rw [cz27] at r9
  refine ⟨⟨a0, a1, a2, a3, a4, a5, a6, a7, a8, a9⟩, ?_, ⟨k0, k1, k2, k3, k4, k5, k6, k7, k8, k9⟩⟩
  exact rc_step r0 (rc_step r1 (rc_step r2 (rc_step r3 (rc_step r4 (rc_step r5 (rc_step r6 (rc_step r7 (rc_step r8 (rc_step r9 (rc_end hl))))))))))
def okMv (x : Mv) : Prop := okLw x.law ∧ (∀ a ∈ x.cal, (Lit.int .i64 a).wf = true) ∧ okCs x.x
theorem opens_44 : Opens Tryd.prog 44 eMv okMv := by
  intro H enc w base spare held fuel cs x h
  obtain ⟨ys, n, _, _, hl, hy, hf⟩ := DataW.trod_struct Tryd.underlying44 h
  rw [cz44] at hl
  have hy : ys.length = 3 := hy
  obtain ⟨y0, e0⟩ := field_of (hf 0 _ rfl) (by omega)
  obtain ⟨a0, r0, k0⟩ := opens_24 _ _ _ _ _ _ _ _ _ e0
  have r0 : Rc w (UA w) ((cs.drop 0).take (Tryd.prog.cellsOf 24)) _ := r0
  rw [cz24] at r0
  obtain ⟨y1, e1⟩ := field_of (hf 1 _ rfl) (by omega)
  obtain ⟨a1, r1, k1⟩ := opens_22 _ _ _ _ _ _ _ _ _ e1
  have r1 : Rc w (UA w) ((cs.drop 3).take (Tryd.prog.cellsOf 22)) _ := r1
  rw [cz22] at r1
  obtain ⟨y2, e2⟩ := field_of (hf 2 _ rfl) (by omega)
  obtain ⟨a2, r2, k2⟩ := opens_29 _ _ _ _ _ _ _ _ _ e2
  have r2 : Rc w (UA w) ((cs.drop 4).take (Tryd.prog.cellsOf 29)) _ := r2
  rw [cz29] at r2
  refine ⟨⟨a0, a1, a2⟩, ?_, ⟨k0, k1, k2⟩⟩
  exact rc_step r0 (rc_step r1 (rc_step r2 (rc_end hl)))
theorem i64_r {n : Int} (h : (Lit.int .i64 n).wf = true) : -9223372036854775808 ≤ n ∧ n ≤ 9223372036854775807 := by simpa [Lit.wf, IntKind.min, IntKind.max, IntKind.signed, IntKind.bits] using h
end Go.Proofs.YtadaenpkmkjkjaaDoor.Wk
