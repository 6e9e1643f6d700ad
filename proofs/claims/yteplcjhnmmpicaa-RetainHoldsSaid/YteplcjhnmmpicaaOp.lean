/- What the arguments read as. Condition: they read as data. -/
import Derived.Test.YteplcjhnmmpicaaTy
import Derived.Test.YteplcjhnmmpicaaAv19
set_option linter.unusedSimpArgs false
set_option linter.unusedVariables false
namespace Go.Proofs.Yteplcjhnmmpicaa.Wk
open Go Go.RowKit Go.Proofs.Yteplcjhnmmpicaa.Av
theorem cz3 : Try.prog.cellsOf 3 = 1 := by kernel_rfl
theorem cz9 : Try.prog.cellsOf 9 = 1 := by kernel_rfl
theorem cz24 : Try.prog.cellsOf 24 = 1 := by kernel_rfl
theorem cz22 : Try.prog.cellsOf 22 = 1 := by kernel_rfl
theorem cz23 : Try.prog.cellsOf 23 = 1 := by kernel_rfl
theorem cz36 : Try.prog.cellsOf 36 = 1 := by kernel_rfl
theorem cz37 : Try.prog.cellsOf 37 = 1 := by kernel_rfl
theorem cz26 : Try.prog.cellsOf 26 = 5 := by kernel_rfl
theorem cz57 : Try.prog.cellsOf 57 = 3 := by kernel_rfl
theorem cz39 : Try.prog.cellsOf 39 = 3 := by kernel_rfl
theorem opens_3 : Opens Try.prog 3 (rI .i64) (fun n => (Lit.int .i64 n).wf = true) := opens_int Try.underlying3
theorem opens_24 : Opens Try.prog 24 (rI .u64) (fun n => (Lit.int .u64 n).wf = true) := opens_int Try.underlying24
theorem opens_9 : Opens Try.prog 9 rS (fun s => s.size ≤ maxLen) := opens_str Try.underlying9
theorem opens_23 : Opens Try.prog 23 (rL 1 rS) (fun l => ∀ a ∈ l, a.size ≤ maxLen) := opens_slice Try.underlying23 cz9 (by omega) opens_9 (fun _ => rfl)
theorem opens_37 : Opens Try.prog 37 (rL 1 (rI .i64)) (fun l => ∀ a ∈ l, (Lit.int .i64 a).wf = true) := opens_slice Try.underlying37 cz3 (by omega) opens_3 (fun _ => rfl)
def okKp (x : Kp) : Prop := (Lit.int .i64 x.purpose).wf = true ∧ (Lit.int .i64 x.seconds).wf = true ∧ (Lit.int .i64 x.least).wf = true
theorem opens_57 : Opens Try.prog 57 eKp okKp := by
  intro H enc w base spare held fuel cs x h
  obtain ⟨ys, n, _, _, hl, hy, hf⟩ := DataW.trod_struct Try.underlying57 h
  rw [cz57] at hl
  have hy : ys.length = 3 := hy
  obtain ⟨y0, e0⟩ := field_of (hf 0 _ rfl) (by omega)
  obtain ⟨a0, r0, k0⟩ := opens_3 _ _ _ _ _ _ _ _ _ e0
  have r0 : Rc w (UA w) ((cs.drop 0).take (Try.prog.cellsOf 3)) _ := r0
  rw [cz3] at r0
  obtain ⟨y1, e1⟩ := field_of (hf 1 _ rfl) (by omega)
  obtain ⟨a1, r1, k1⟩ := opens_3 _ _ _ _ _ _ _ _ _ e1
  have r1 : Rc w (UA w) ((cs.drop 1).take (Try.prog.cellsOf 3)) _ := r1
  rw [cz3] at r1
  obtain ⟨y2, e2⟩ := field_of (hf 2 _ rfl) (by omega)
  obtain ⟨a2, r2, k2⟩ := opens_3 _ _ _ _ _ _ _ _ _ e2
  have r2 : Rc w (UA w) ((cs.drop 2).take (Try.prog.cellsOf 3)) _ := r2
  rw [cz3] at r2
  refine ⟨⟨a0, a1, a2⟩, ?_, k0, k1, k2⟩
  exact rc_step r0 (rc_step r1 (rc_step r2 (rc_end hl)))
theorem opens_22 : Opens Try.prog 22 (rL 3 eKp) (fun l => ∀ a ∈ l, okKp a) := opens_slice Try.underlying22 cz57 (by omega) opens_57 (fun _ => rfl)
def okIm (x : Im) : Prop := x.id.size ≤ maxLen ∧ (Lit.int .i64 x.time).wf = true ∧ (Lit.int .i64 x.purpose).wf = true ∧ (∀ a ∈ x.hold, a.size ≤ maxLen) ∧ (Lit.int .u64 x.dig).wf = true
theorem opens_26 : Opens Try.prog 26 eIm okIm := by
  intro H enc w base spare held fuel cs x h
  obtain ⟨ys, n, _, _, hl, hy, hf⟩ := DataW.trod_struct Try.underlying26 h
  rw [cz26] at hl
  have hy : ys.length = 5 := hy
  obtain ⟨y0, e0⟩ := field_of (hf 0 _ rfl) (by omega)
  obtain ⟨a0, r0, k0⟩ := opens_9 _ _ _ _ _ _ _ _ _ e0
  have r0 : Rc w (UA w) ((cs.drop 0).take (Try.prog.cellsOf 9)) _ := r0
  rw [cz9] at r0
  obtain ⟨y1, e1⟩ := field_of (hf 1 _ rfl) (by omega)
  obtain ⟨a1, r1, k1⟩ := opens_3 _ _ _ _ _ _ _ _ _ e1
  have r1 : Rc w (UA w) ((cs.drop 1).take (Try.prog.cellsOf 3)) _ := r1
  rw [cz3] at r1
  obtain ⟨y2, e2⟩ := field_of (hf 2 _ rfl) (by omega)
  obtain ⟨a2, r2, k2⟩ := opens_3 _ _ _ _ _ _ _ _ _ e2
  have r2 : Rc w (UA w) ((cs.drop 2).take (Try.prog.cellsOf 3)) _ := r2
  rw [cz3] at r2
  obtain ⟨y3, e3⟩ := field_of (hf 3 _ rfl) (by omega)
  obtain ⟨a3, r3, k3⟩ := opens_23 _ _ _ _ _ _ _ _ _ e3
  have r3 : Rc w (UA w) ((cs.drop 3).take (Try.prog.cellsOf 23)) _ := r3
  rw [cz23] at r3
  obtain ⟨y4, e4⟩ := field_of (hf 4 _ rfl) (by omega)
  obtain ⟨a4, r4, k4⟩ := opens_24 _ _ _ _ _ _ _ _ _ e4
  have r4 : Rc w (UA w) ((cs.drop 4).take (Try.prog.cellsOf 24)) _ := r4
  rw [cz24] at r4
  refine ⟨⟨a0, a1, a2, a3, a4⟩, ?_, k0, k1, k2, k3, k4⟩
  exact rc_step r0 (rc_step r1 (rc_step r2 (rc_step r3 (rc_step r4 (rc_end hl)))))
theorem opens_36 : Opens Try.prog 36 (rL 5 eIm) (fun l => ∀ a ∈ l, okIm a) := opens_slice Try.underlying36 cz26 (by omega) opens_26 (fun _ => rfl)
def okSto (x : Sto) : Prop := (∀ a ∈ x.rules, okKp a) ∧ (∀ a ∈ x.images, okIm a) ∧ (∀ a ∈ x.closed, (Lit.int .i64 a).wf = true)
theorem opens_39 : Opens Try.prog 39 eSto okSto := by
  intro H enc w base spare held fuel cs x h
  obtain ⟨ys, n, _, _, hl, hy, hf⟩ := DataW.trod_struct Try.underlying39 h
  rw [cz39] at hl
  have hy : ys.length = 3 := hy
  obtain ⟨y0, e0⟩ := field_of (hf 0 _ rfl) (by omega)
  obtain ⟨a0, r0, k0⟩ := opens_22 _ _ _ _ _ _ _ _ _ e0
  have r0 : Rc w (UA w) ((cs.drop 0).take (Try.prog.cellsOf 22)) _ := r0
  rw [cz22] at r0
  obtain ⟨y1, e1⟩ := field_of (hf 1 _ rfl) (by omega)
  obtain ⟨a1, r1, k1⟩ := opens_36 _ _ _ _ _ _ _ _ _ e1
  have r1 : Rc w (UA w) ((cs.drop 1).take (Try.prog.cellsOf 36)) _ := r1
  rw [cz36] at r1
  obtain ⟨y2, e2⟩ := field_of (hf 2 _ rfl) (by omega)
  obtain ⟨a2, r2, k2⟩ := opens_37 _ _ _ _ _ _ _ _ _ e2
  have r2 : Rc w (UA w) ((cs.drop 2).take (Try.prog.cellsOf 37)) _ := r2
  rw [cz37] at r2
  refine ⟨⟨a0, a1, a2⟩, ?_, k0, k1, k2⟩
  exact rc_step r0 (rc_step r1 (rc_step r2 (rc_end hl)))
end Go.Proofs.Yteplcjhnmmpicaa.Wk
