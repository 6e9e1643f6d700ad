/- What the arguments read as. Condition: they read as data. -/
import Derived.Test.YthfdopaefdmdiaaTy
import Derived.Test.YthfdopaefdmdiaaAvZ
set_option linter.unusedSimpArgs false
set_option linter.unusedVariables false
namespace Go.Proofs.Ythfdopaefdmdiaa.Wk
open Go Go.RowKit Go.Proofs.Ythfdopaefdmdiaa.Av
theorem cz3 : Try.prog.cellsOf 3 = 1 := by kernel_rfl
theorem cz9 : Try.prog.cellsOf 9 = 1 := by kernel_rfl
theorem cz48 : Try.prog.cellsOf 48 = 5 := by kernel_rfl
theorem cz23 : Try.prog.cellsOf 23 = 1 := by kernel_rfl
theorem cz27 : Try.prog.cellsOf 27 = 4 := by kernel_rfl
theorem cz22 : Try.prog.cellsOf 22 = 1 := by kernel_rfl
theorem cz25 : Try.prog.cellsOf 25 = 6 := by kernel_rfl
theorem opens_3 : OpensZ Try.prog 3 (rI .i64) (fun n => (Lit.int .i64 n).wf = true) := z_of (opens_int Try.underlying3)
theorem opens_9 : OpensZ Try.prog 9 rS (fun s => s.size ≤ 140737488351232) := opensZ_str Try.underlying9
def okRec (x : Rec) : Prop := (Lit.int .i64 x.kind).wf = true ∧ x.key.size ≤ 140737488351232 ∧ (Lit.int .i64 x.time).wf = true ∧ (Lit.int .i64 x.cents).wf = true ∧ (Lit.int .i64 x.why).wf = true
theorem opens_48 : OpensZ Try.prog 48 eRec okRec := by
  intro H enc w base spare held fuel cs x h hz9
  obtain ⟨ys, n, _, rfl, hl, hy, hf⟩ := DataW.trod_struct Try.underlying48 h
  rw [cz48] at hl
  have hy : ys.length = 5 := hy
  obtain ⟨y0, e0, g0⟩ := field_ofZ (hf 0 _ rfl) (by omega)
  obtain ⟨a0, r0, k0⟩ := opens_3 _ _ _ _ _ _ _ _ _ e0 (fun q hq => hz9 q (z_field Try.underlying48 rfl g0 hq))
  have r0 : Rc w (UA w) ((cs.drop 0).take (Try.prog.cellsOf 3)) _ := r0
  rw [cz3] at r0
  obtain ⟨y1, e1, g1⟩ := field_ofZ (hf 1 _ rfl) (by omega)
  obtain ⟨a1, r1, k1⟩ := opens_9 _ _ _ _ _ _ _ _ _ e1 (fun q hq => hz9 q (z_field Try.underlying48 rfl g1 hq))
  have r1 : Rc w (UA w) ((cs.drop 1).take (Try.prog.cellsOf 9)) _ := r1
  rw [cz9] at r1
  obtain ⟨y2, e2, g2⟩ := field_ofZ (hf 2 _ rfl) (by omega)
  obtain ⟨a2, r2, k2⟩ := opens_3 _ _ _ _ _ _ _ _ _ e2 (fun q hq => hz9 q (z_field Try.underlying48 rfl g2 hq))
  have r2 : Rc w (UA w) ((cs.drop 2).take (Try.prog.cellsOf 3)) _ := r2
  rw [cz3] at r2
  obtain ⟨y3, e3, g3⟩ := field_ofZ (hf 3 _ rfl) (by omega)
  obtain ⟨a3, r3, k3⟩ := opens_3 _ _ _ _ _ _ _ _ _ e3 (fun q hq => hz9 q (z_field Try.underlying48 rfl g3 hq))
  have r3 : Rc w (UA w) ((cs.drop 3).take (Try.prog.cellsOf 3)) _ := r3
  rw [cz3] at r3
  obtain ⟨y4, e4, g4⟩ := field_ofZ (hf 4 _ rfl) (by omega)
  obtain ⟨a4, r4, k4⟩ := opens_3 _ _ _ _ _ _ _ _ _ e4 (fun q hq => hz9 q (z_field Try.underlying48 rfl g4 hq))
  have r4 : Rc w (UA w) ((cs.drop 4).take (Try.prog.cellsOf 3)) _ := r4
  rw [cz3] at r4
  refine ⟨⟨a0, a1, a2, a3, a4⟩, ?_, ⟨k0, k1, k2, k3, k4⟩⟩
  exact rc_step r0 (rc_step r1 (rc_step r2 (rc_step r3 (rc_step r4 (rc_end hl)))))
theorem opens_23 : OpensZ Try.prog 23 (rL 5 eRec) (fun l => l.length * 48 ≤ 140737488351232 ∧ l.length ≤ 9223372036854775807 ∧ ∀ a ∈ l, okRec a) := opensZ_lenB Try.underlying23 (by kernel_rfl) (opensZ_len (opensZ_slice Try.underlying23 cz48 (by omega) opens_48 (fun _ => rfl)))
def okFil (x : Fil) : Prop := x.fr.size ≤ 140737488351232 ∧ x.to.size ≤ 140737488351232 ∧ (Lit.int .i64 x.seq).wf = true ∧ (x.recs.length * 48 ≤ 140737488351232 ∧ x.recs.length ≤ 9223372036854775807 ∧ ∀ a ∈ x.recs, okRec a)
theorem opens_27 : OpensZ Try.prog 27 eFil okFil := by
  intro H enc w base spare held fuel cs x h hz9
  obtain ⟨ys, n, _, rfl, hl, hy, hf⟩ := DataW.trod_struct Try.underlying27 h
  rw [cz27] at hl
  have hy : ys.length = 4 := hy
  obtain ⟨y0, e0, g0⟩ := field_ofZ (hf 0 _ rfl) (by omega)
  obtain ⟨a0, r0, k0⟩ := opens_9 _ _ _ _ _ _ _ _ _ e0 (fun q hq => hz9 q (z_field Try.underlying27 rfl g0 hq))
  have r0 : Rc w (UA w) ((cs.drop 0).take (Try.prog.cellsOf 9)) _ := r0
  rw [cz9] at r0
  obtain ⟨y1, e1, g1⟩ := field_ofZ (hf 1 _ rfl) (by omega)
  obtain ⟨a1, r1, k1⟩ := opens_9 _ _ _ _ _ _ _ _ _ e1 (fun q hq => hz9 q (z_field Try.underlying27 rfl g1 hq))
  have r1 : Rc w (UA w) ((cs.drop 1).take (Try.prog.cellsOf 9)) _ := r1
  rw [cz9] at r1
  obtain ⟨y2, e2, g2⟩ := field_ofZ (hf 2 _ rfl) (by omega)
  obtain ⟨a2, r2, k2⟩ := opens_3 _ _ _ _ _ _ _ _ _ e2 (fun q hq => hz9 q (z_field Try.underlying27 rfl g2 hq))
  have r2 : Rc w (UA w) ((cs.drop 2).take (Try.prog.cellsOf 3)) _ := r2
  rw [cz3] at r2
  obtain ⟨y3, e3, g3⟩ := field_ofZ (hf 3 _ rfl) (by omega)
  obtain ⟨a3, r3, k3⟩ := opens_23 _ _ _ _ _ _ _ _ _ e3 (fun q hq => hz9 q (z_field Try.underlying27 rfl g3 hq))
  have r3 : Rc w (UA w) ((cs.drop 3).take (Try.prog.cellsOf 23)) _ := r3
  rw [cz23] at r3
  refine ⟨⟨a0, a1, a2, a3⟩, ?_, ⟨k0, k1, k2, k3⟩⟩
  exact rc_step r0 (rc_step r1 (rc_step r2 (rc_step r3 (rc_end hl))))
theorem opens_22 : OpensZ Try.prog 22 (rL 4 eFil) (fun l => l.length * 64 ≤ 140737488351232 ∧ l.length ≤ 9223372036854775807 ∧ ∀ a ∈ l, okFil a) := opensZ_lenB Try.underlying22 (by kernel_rfl) (opensZ_len (opensZ_slice Try.underlying22 cz27 (by omega) opens_27 (fun _ => rfl)))
def okPtn (x : Ptn) : Prop := x.name.size ≤ 140737488351232 ∧ (Lit.int .i64 x.out).wf = true ∧ (Lit.int .i64 x.inn).wf = true ∧ (x.wait.length * 64 ≤ 140737488351232 ∧ x.wait.length ≤ 9223372036854775807 ∧ ∀ a ∈ x.wait, okFil a) ∧ (x.ours.length * 48 ≤ 140737488351232 ∧ x.ours.length ≤ 9223372036854775807 ∧ ∀ a ∈ x.ours, okRec a) ∧ (x.theirs.length * 48 ≤ 140737488351232 ∧ x.theirs.length ≤ 9223372036854775807 ∧ ∀ a ∈ x.theirs, okRec a)
theorem opens_25 : OpensZ Try.prog 25 ePt okPtn := by
  intro H enc w base spare held fuel cs x h hz9
  obtain ⟨ys, n, _, rfl, hl, hy, hf⟩ := DataW.trod_struct Try.underlying25 h
  rw [cz25] at hl
  have hy : ys.length = 6 := hy
  obtain ⟨y0, e0, g0⟩ := field_ofZ (hf 0 _ rfl) (by omega)
  obtain ⟨a0, r0, k0⟩ := opens_9 _ _ _ _ _ _ _ _ _ e0 (fun q hq => hz9 q (z_field Try.underlying25 rfl g0 hq))
  have r0 : Rc w (UA w) ((cs.drop 0).take (Try.prog.cellsOf 9)) _ := r0
  rw [cz9] at r0
  obtain ⟨y1, e1, g1⟩ := field_ofZ (hf 1 _ rfl) (by omega)
  obtain ⟨a1, r1, k1⟩ := opens_3 _ _ _ _ _ _ _ _ _ e1 (fun q hq => hz9 q (z_field Try.underlying25 rfl g1 hq))
  have r1 : Rc w (UA w) ((cs.drop 1).take (Try.prog.cellsOf 3)) _ := r1
  rw [cz3] at r1
  obtain ⟨y2, e2, g2⟩ := field_ofZ (hf 2 _ rfl) (by omega)
  obtain ⟨a2, r2, k2⟩ := opens_3 _ _ _ _ _ _ _ _ _ e2 (fun q hq => hz9 q (z_field Try.underlying25 rfl g2 hq))
  have r2 : Rc w (UA w) ((cs.drop 2).take (Try.prog.cellsOf 3)) _ := r2
  rw [cz3] at r2
  obtain ⟨y3, e3, g3⟩ := field_ofZ (hf 3 _ rfl) (by omega)
  obtain ⟨a3, r3, k3⟩ := opens_22 _ _ _ _ _ _ _ _ _ e3 (fun q hq => hz9 q (z_field Try.underlying25 rfl g3 hq))
  have r3 : Rc w (UA w) ((cs.drop 3).take (Try.prog.cellsOf 22)) _ := r3
  rw [cz22] at r3
  obtain ⟨y4, e4, g4⟩ := field_ofZ (hf 4 _ rfl) (by omega)
  obtain ⟨a4, r4, k4⟩ := opens_23 _ _ _ _ _ _ _ _ _ e4 (fun q hq => hz9 q (z_field Try.underlying25 rfl g4 hq))
  have r4 : Rc w (UA w) ((cs.drop 4).take (Try.prog.cellsOf 23)) _ := r4
  rw [cz23] at r4
  obtain ⟨y5, e5, g5⟩ := field_ofZ (hf 5 _ rfl) (by omega)
  obtain ⟨a5, r5, k5⟩ := opens_23 _ _ _ _ _ _ _ _ _ e5 (fun q hq => hz9 q (z_field Try.underlying25 rfl g5 hq))
  have r5 : Rc w (UA w) ((cs.drop 5).take (Try.prog.cellsOf 23)) _ := r5
  rw [cz23] at r5
  refine ⟨⟨a0, a1, a2, a3, a4, a5⟩, ?_, ⟨k0, k1, k2, k3, k4, k5⟩⟩
  exact rc_step r0 (rc_step r1 (rc_step r2 (rc_step r3 (rc_step r4 (rc_step r5 (rc_end hl))))))
end Go.Proofs.Ythfdopaefdmdiaa.Wk
