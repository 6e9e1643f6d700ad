/- What the arguments read as. Condition: they read as data, of a size that fits. -/
import Derived.Test.YtmmadlhkniikdaaC2
import Derived.Test.YtmmadlhkniikdaaAvZ
set_option linter.unusedSimpArgs false
set_option linter.unusedVariables false
namespace Go.Proofs.Ytmmadlhkniikdaa.Wk
open Go Go.RowKit Go.Proofs.Ytmmadlhkniikdaa.Av
theorem cz3 : Try.prog.cellsOf 3 = 1 := by kernel_rfl
theorem cz9 : Try.prog.cellsOf 9 = 1 := by kernel_rfl
theorem cz31 : Try.prog.cellsOf 31 = 2 := by kernel_rfl
theorem cz22 : Try.prog.cellsOf 22 = 1 := by kernel_rfl
theorem cz24 : Try.prog.cellsOf 24 = 3 := by kernel_rfl
theorem cz45 : Try.prog.cellsOf 45 = 3 := by kernel_rfl
theorem opens_3 : OpensZ Try.prog 3 (rI .i64) (fun n => (Lit.int .i64 n).wf = true) := z_of (opens_int Try.underlying3)
theorem opens_9 : OpensZ Try.prog 9 rS (fun s => s.size ≤ 140737488351232) := opensZ_str Try.underlying9
def okPo (x : Po) : Prop := x.acc.size ≤ 140737488351232 ∧ (Lit.int .i64 x.cents).wf = true
theorem opens_31 : OpensZ Try.prog 31 ePo okPo := by
  intro H enc w base spare held fuel cs x h hz9
  obtain ⟨ys, n, _, rfl, hl, hy, hf⟩ := DataW.trod_struct Try.underlying31 h
  rw [cz31] at hl
  have hy : ys.length = 2 := hy
  obtain ⟨y0, e0, g0⟩ := field_ofZ (hf 0 _ rfl) (by omega)
  obtain ⟨a0, r0, k0⟩ := opens_9 _ _ _ _ _ _ _ _ _ e0 (fun q hq => hz9 q (z_field Try.underlying31 rfl g0 hq))
  have r0 : Rc w (UA w) ((cs.drop 0).take (Try.prog.cellsOf 9)) _ := r0
  rw [cz9] at r0
  obtain ⟨y1, e1, g1⟩ := field_ofZ (hf 1 _ rfl) (by omega)
  obtain ⟨a1, r1, k1⟩ := opens_3 _ _ _ _ _ _ _ _ _ e1 (fun q hq => hz9 q (z_field Try.underlying31 rfl g1 hq))
  have r1 : Rc w (UA w) ((cs.drop 1).take (Try.prog.cellsOf 3)) _ := r1
  rw [cz3] at r1
  refine ⟨⟨a0, a1⟩, ?_, ⟨k0, k1⟩⟩
  exact rc_step r0 (rc_step r1 (rc_end hl))
theorem opens_22 : OpensZ Try.prog 22 (rL 2 ePo) (fun l => l.length * 24 ≤ 140737488351232 ∧ l.length ≤ 9223372036854775807 ∧ ∀ a ∈ l, okPo a) := opensZ_lenB Try.underlying22 (by kernel_rfl) (opensZ_len (opensZ_slice Try.underlying22 cz31 (by omega) opens_31 (fun _ => rfl)))
def okEn (x : En) : Prop := x.key.size ≤ 140737488351232 ∧ (Lit.int .i64 x.time).wf = true ∧ (x.posts.length * 24 ≤ 140737488351232 ∧ x.posts.length ≤ 9223372036854775807 ∧ ∀ a ∈ x.posts, okPo a)
theorem opens_24 : OpensZ Try.prog 24 eEn okEn := by
  intro H enc w base spare held fuel cs x h hz9
  obtain ⟨ys, n, _, rfl, hl, hy, hf⟩ := DataW.trod_struct Try.underlying24 h
  rw [cz24] at hl
  have hy : ys.length = 3 := hy
  obtain ⟨y0, e0, g0⟩ := field_ofZ (hf 0 _ rfl) (by omega)
  obtain ⟨a0, r0, k0⟩ := opens_9 _ _ _ _ _ _ _ _ _ e0 (fun q hq => hz9 q (z_field Try.underlying24 rfl g0 hq))
  have r0 : Rc w (UA w) ((cs.drop 0).take (Try.prog.cellsOf 9)) _ := r0
  rw [cz9] at r0
  obtain ⟨y1, e1, g1⟩ := field_ofZ (hf 1 _ rfl) (by omega)
  obtain ⟨a1, r1, k1⟩ := opens_3 _ _ _ _ _ _ _ _ _ e1 (fun q hq => hz9 q (z_field Try.underlying24 rfl g1 hq))
  have r1 : Rc w (UA w) ((cs.drop 1).take (Try.prog.cellsOf 3)) _ := r1
  rw [cz3] at r1
  obtain ⟨y2, e2, g2⟩ := field_ofZ (hf 2 _ rfl) (by omega)
  obtain ⟨a2, r2, k2⟩ := opens_22 _ _ _ _ _ _ _ _ _ e2 (fun q hq => hz9 q (z_field Try.underlying24 rfl g2 hq))
  have r2 : Rc w (UA w) ((cs.drop 2).take (Try.prog.cellsOf 22)) _ := r2
  rw [cz22] at r2
  refine ⟨⟨a0, a1, a2⟩, ?_, ⟨k0, k1, k2⟩⟩
  exact rc_step r0 (rc_step r1 (rc_step r2 (rc_end hl)))
theorem opens_33 : OpensZ Try.prog 33 (rL 3 eEn) (fun l => l.length * 48 ≤ 140737488351232 ∧ l.length ≤ 9223372036854775807 ∧ ∀ a ∈ l, okEn a) := opensZ_lenB Try.underlying33 (by kernel_rfl) (opensZ_len (opensZ_slice Try.underlying33 cz24 (by omega) opens_24 (fun _ => rfl)))
def okAsk (x : Ask) : Prop := x.key.size ≤ 140737488351232 ∧ x.acc.size ≤ 140737488351232 ∧ (Lit.int .i64 x.time).wf = true
theorem opens_45 : OpensZ Try.prog 45 eAsk okAsk := by
  intro H enc w base spare held fuel cs x h hz9
  obtain ⟨ys, n, _, rfl, hl, hy, hf⟩ := DataW.trod_struct Try.underlying45 h
  rw [cz45] at hl
  have hy : ys.length = 3 := hy
  obtain ⟨y0, e0, g0⟩ := field_ofZ (hf 0 _ rfl) (by omega)
  obtain ⟨a0, r0, k0⟩ := opens_9 _ _ _ _ _ _ _ _ _ e0 (fun q hq => hz9 q (z_field Try.underlying45 rfl g0 hq))
  have r0 : Rc w (UA w) ((cs.drop 0).take (Try.prog.cellsOf 9)) _ := r0
  rw [cz9] at r0
  obtain ⟨y1, e1, g1⟩ := field_ofZ (hf 1 _ rfl) (by omega)
  obtain ⟨a1, r1, k1⟩ := opens_9 _ _ _ _ _ _ _ _ _ e1 (fun q hq => hz9 q (z_field Try.underlying45 rfl g1 hq))
  have r1 : Rc w (UA w) ((cs.drop 1).take (Try.prog.cellsOf 9)) _ := r1
  rw [cz9] at r1
  obtain ⟨y2, e2, g2⟩ := field_ofZ (hf 2 _ rfl) (by omega)
  obtain ⟨a2, r2, k2⟩ := opens_3 _ _ _ _ _ _ _ _ _ e2 (fun q hq => hz9 q (z_field Try.underlying45 rfl g2 hq))
  have r2 : Rc w (UA w) ((cs.drop 2).take (Try.prog.cellsOf 3)) _ := r2
  rw [cz3] at r2
  refine ⟨⟨a0, a1, a2⟩, ?_, ⟨k0, k1, k2⟩⟩
  exact rc_step r0 (rc_step r1 (rc_step r2 (rc_end hl)))
end Go.Proofs.Ytmmadlhkniikdaa.Wk
