/- What the arguments read as. Condition: they read as data, and their sizes fit. -/
import Derived.Test.YtgfbgkoifcacdaaDoorAvZ
import Derived.Test.YtgfbgkoifcacdaaDoorTy
set_option linter.unusedSimpArgs false
set_option linter.unusedVariables false
namespace Go.Proofs.YtgfbgkoifcacdaaDoor.Wk
open Go Go.RowKit Go.Proofs.YtgfbgkoifcacdaaDoor.Av
theorem cz3 : Tryd.prog.cellsOf 3 = 1 := by kernel_rfl
theorem cz4 : Tryd.prog.cellsOf 4 = 1 := by kernel_rfl
theorem cz9 : Tryd.prog.cellsOf 9 = 1 := by kernel_rfl
theorem cz66 : Tryd.prog.cellsOf 66 = 2 := by kernel_rfl
theorem cz85 : Tryd.prog.cellsOf 85 = 1 := by kernel_rfl
theorem cz104 : Tryd.prog.cellsOf 104 = 7 := by kernel_rfl
theorem cz106 : Tryd.prog.cellsOf 106 = 11 := by kernel_rfl
theorem cz47 : Tryd.prog.cellsOf 47 = 1 := by kernel_rfl
theorem cz109 : Tryd.prog.cellsOf 109 = 8 := by kernel_rfl
theorem cz48 : Tryd.prog.cellsOf 48 = 1 := by kernel_rfl
theorem cz87 : Tryd.prog.cellsOf 87 = 8 := by kernel_rfl
theorem cz50 : Tryd.prog.cellsOf 50 = 1 := by kernel_rfl
theorem cz100 : Tryd.prog.cellsOf 100 = 3 := by kernel_rfl
theorem cz88 : Tryd.prog.cellsOf 88 = 1 := by kernel_rfl
theorem cz90 : Tryd.prog.cellsOf 90 = 5 := by kernel_rfl
theorem cz51 : Tryd.prog.cellsOf 51 = 1 := by kernel_rfl
theorem cz102 : Tryd.prog.cellsOf 102 = 2 := by kernel_rfl
theorem cz91 : Tryd.prog.cellsOf 91 = 1 := by kernel_rfl
theorem cz93 : Tryd.prog.cellsOf 93 = 7 := by kernel_rfl
theorem cz53 : Tryd.prog.cellsOf 53 = 1 := by kernel_rfl
theorem cz154 : Tryd.prog.cellsOf 154 = 2 := by kernel_rfl
theorem cz54 : Tryd.prog.cellsOf 54 = 1 := by kernel_rfl
theorem cz124 : Tryd.prog.cellsOf 124 = 2 := by kernel_rfl
theorem cz126 : Tryd.prog.cellsOf 126 = 5 := by kernel_rfl
theorem cz52 : Tryd.prog.cellsOf 52 = 1 := by kernel_rfl
theorem cz159 : Tryd.prog.cellsOf 159 = 4 := by kernel_rfl
theorem cz94 : Tryd.prog.cellsOf 94 = 1 := by kernel_rfl
theorem cz96 : Tryd.prog.cellsOf 96 = 4 := by kernel_rfl
theorem cz98 : Tryd.prog.cellsOf 98 = 9 := by kernel_rfl
theorem cz40 : Tryd.prog.cellsOf 40 = 1 := by kernel_rfl
theorem cz56 : Tryd.prog.cellsOf 56 = 6 := by kernel_rfl
theorem cz22 : Tryd.prog.cellsOf 22 = 1 := by kernel_rfl
theorem cz23 : Tryd.prog.cellsOf 23 = 1 := by kernel_rfl
theorem cz26 : Tryd.prog.cellsOf 26 = 1 := by kernel_rfl
theorem cz29 : Tryd.prog.cellsOf 29 = 1 := by kernel_rfl
theorem cz30 : Tryd.prog.cellsOf 30 = 1 := by kernel_rfl
theorem cz31 : Tryd.prog.cellsOf 31 = 1 := by kernel_rfl
theorem cz32 : Tryd.prog.cellsOf 32 = 1 := by kernel_rfl
theorem cz33 : Tryd.prog.cellsOf 33 = 1 := by kernel_rfl
theorem cz36 : Tryd.prog.cellsOf 36 = 1 := by kernel_rfl
theorem cz37 : Tryd.prog.cellsOf 37 = 1 := by kernel_rfl
theorem cz38 : Tryd.prog.cellsOf 38 = 1 := by kernel_rfl
theorem cz39 : Tryd.prog.cellsOf 39 = 1 := by kernel_rfl
theorem cz41 : Tryd.prog.cellsOf 41 = 1 := by kernel_rfl
theorem cz44 : Tryd.prog.cellsOf 44 = 1 := by kernel_rfl
theorem cz49 : Tryd.prog.cellsOf 49 = 1 := by kernel_rfl
theorem cz57 : Tryd.prog.cellsOf 57 = 1 := by kernel_rfl
theorem cz62 : Tryd.prog.cellsOf 62 = 1 := by kernel_rfl
theorem cz25 : Tryd.prog.cellsOf 25 = 2 := by kernel_rfl
theorem cz28 : Tryd.prog.cellsOf 28 = 3 := by kernel_rfl
theorem cz35 : Tryd.prog.cellsOf 35 = 4 := by kernel_rfl
theorem cz43 : Tryd.prog.cellsOf 43 = 3 := by kernel_rfl
theorem cz46 : Tryd.prog.cellsOf 46 = 25 := by kernel_rfl
theorem cz59 : Tryd.prog.cellsOf 59 = 1 := by kernel_rfl
theorem cz61 : Tryd.prog.cellsOf 61 = 2 := by kernel_rfl
theorem cz64 : Tryd.prog.cellsOf 64 = 39 := by kernel_rfl
theorem cz81 : Tryd.prog.cellsOf 81 = 3 := by kernel_rfl
theorem cz69 : Tryd.prog.cellsOf 69 = 1 := by kernel_rfl
theorem opens_3 : OpensZ Tryd.prog 3 (rI .i64) (fun n => (Lit.int .i64 n).wf = true) := z_of (opens_int Tryd.underlying3)
theorem opens_4 : OpensZ Tryd.prog 4 rB (fun _ => True) := z_of (opens_bool Tryd.underlying4)
theorem opens_9 : OpensZ Tryd.prog 9 rS (fun s => s.size ≤ 140737488351232) := opensZ_str Tryd.underlying9
def okSo (x : So) : Prop := x.dev.size ≤ 140737488351232 ∧ (Lit.int .i64 x.seq).wf = true
theorem opens_66 : OpensZ Tryd.prog 66 eSo okSo := by
  intro H enc w base spare held fuel cs x h hz9
  obtain ⟨ys, n, _, rfl, hl, hy, hf⟩ := DataW.trod_struct Tryd.underlying66 h
  rw [cz66] at hl
  have hy : ys.length = 2 := hy
  obtain ⟨y0, e0, g0⟩ := field_ofZ (hf 0 _ rfl) (by omega)
  obtain ⟨a0, r0, k0⟩ := opens_9 _ _ _ _ _ _ _ _ _ e0 (fun q hq => hz9 q (z_field Tryd.underlying66 rfl g0 hq))
  have r0 : Rc w (UA w) ((cs.drop 0).take (Tryd.prog.cellsOf 9)) _ := r0
  rw [cz9] at r0
  obtain ⟨y1, e1, g1⟩ := field_ofZ (hf 1 _ rfl) (by omega)
  obtain ⟨a1, r1, k1⟩ := opens_3 _ _ _ _ _ _ _ _ _ e1 (fun q hq => hz9 q (z_field Tryd.underlying66 rfl g1 hq))
  have r1 : Rc w (UA w) ((cs.drop 1).take (Tryd.prog.cellsOf 3)) _ := r1
  rw [cz3] at r1
  refine ⟨⟨a0, a1⟩, ?_, ⟨k0, k1⟩⟩
  exact rc_step r0 (rc_step r1 (rc_end hl))
theorem opens_85 : OpensZ Tryd.prog 85 (rL 2 eSo) (fun l => l.length ≤ 9223372036854775807 ∧ ∀ a ∈ l, okSo a) := opensZ_len (opensZ_slice Tryd.underlying85 cz66 (by omega) opens_66 (fun _ => rfl))
def okDe (x : De) : Prop := x.dev.size ≤ 140737488351232 ∧ (Lit.int .i64 x.seq).wf = true ∧ (Lit.int .i64 x.time).wf = true ∧ x.tag.size ≤ 140737488351232 ∧ x.plate.size ≤ 140737488351232 ∧ (Lit.int .i64 x.axles).wf = true ∧ (Lit.int .i64 x.score).wf = true
theorem opens_104 : OpensZ Tryd.prog 104 eDe okDe := by
  intro H enc w base spare held fuel cs x h hz9
  obtain ⟨ys, n, _, rfl, hl, hy, hf⟩ := DataW.trod_struct Tryd.underlying104 h
  rw [cz104] at hl
  have hy : ys.length = 7 := hy
  obtain ⟨y0, e0, g0⟩ := field_ofZ (hf 0 _ rfl) (by omega)
  obtain ⟨a0, r0, k0⟩ := opens_9 _ _ _ _ _ _ _ _ _ e0 (fun q hq => hz9 q (z_field Tryd.underlying104 rfl g0 hq))
  have r0 : Rc w (UA w) ((cs.drop 0).take (Tryd.prog.cellsOf 9)) _ := r0
  rw [cz9] at r0
  obtain ⟨y1, e1, g1⟩ := field_ofZ (hf 1 _ rfl) (by omega)
  obtain ⟨a1, r1, k1⟩ := opens_3 _ _ _ _ _ _ _ _ _ e1 (fun q hq => hz9 q (z_field Tryd.underlying104 rfl g1 hq))
  have r1 : Rc w (UA w) ((cs.drop 1).take (Tryd.prog.cellsOf 3)) _ := r1
  rw [cz3] at r1
  obtain ⟨y2, e2, g2⟩ := field_ofZ (hf 2 _ rfl) (by omega)
  obtain ⟨a2, r2, k2⟩ := opens_3 _ _ _ _ _ _ _ _ _ e2 (fun q hq => hz9 q (z_field Tryd.underlying104 rfl g2 hq))
  have r2 : Rc w (UA w) ((cs.drop 2).take (Tryd.prog.cellsOf 3)) _ := r2
  rw [cz3] at r2
  obtain ⟨y3, e3, g3⟩ := field_ofZ (hf 3 _ rfl) (by omega)
  obtain ⟨a3, r3, k3⟩ := opens_9 _ _ _ _ _ _ _ _ _ e3 (fun q hq => hz9 q (z_field Tryd.underlying104 rfl g3 hq))
  have r3 : Rc w (UA w) ((cs.drop 3).take (Tryd.prog.cellsOf 9)) _ := r3
  rw [cz9] at r3
  obtain ⟨y4, e4, g4⟩ := field_ofZ (hf 4 _ rfl) (by omega)
  obtain ⟨a4, r4, k4⟩ := opens_9 _ _ _ _ _ _ _ _ _ e4 (fun q hq => hz9 q (z_field Tryd.underlying104 rfl g4 hq))
  have r4 : Rc w (UA w) ((cs.drop 4).take (Tryd.prog.cellsOf 9)) _ := r4
  rw [cz9] at r4
  obtain ⟨y5, e5, g5⟩ := field_ofZ (hf 5 _ rfl) (by omega)
  obtain ⟨a5, r5, k5⟩ := opens_3 _ _ _ _ _ _ _ _ _ e5 (fun q hq => hz9 q (z_field Tryd.underlying104 rfl g5 hq))
  have r5 : Rc w (UA w) ((cs.drop 5).take (Tryd.prog.cellsOf 3)) _ := r5
  rw [cz3] at r5
  obtain ⟨y6, e6, g6⟩ := field_ofZ (hf 6 _ rfl) (by omega)
  obtain ⟨a6, r6, k6⟩ := opens_3 _ _ _ _ _ _ _ _ _ e6 (fun q hq => hz9 q (z_field Tryd.underlying104 rfl g6 hq))
  have r6 : Rc w (UA w) ((cs.drop 6).take (Tryd.prog.cellsOf 3)) _ := r6
  rw [cz3] at r6
  refine ⟨⟨a0, a1, a2, a3, a4, a5, a6⟩, ?_, ⟨k0, k1, k2, k3, k4, k5, k6⟩⟩
  exact rc_step r0 (rc_step r1 (rc_step r2 (rc_step r3 (rc_step r4 (rc_step r5 (rc_step r6 (rc_end hl)))))))
def okSn (x : Sn) : Prop := okDe x.d ∧ (Lit.int .i64 x.time).wf = true ∧ x.point.size ≤ 140737488351232 ∧ (Lit.int .i64 x.lane).wf = true ∧ (Lit.int .i64 x.kind).wf = true
theorem opens_106 : OpensZ Tryd.prog 106 eSn okSn := by
  intro H enc w base spare held fuel cs x h hz9
  obtain ⟨ys, n, _, rfl, hl, hy, hf⟩ := DataW.trod_struct Tryd.underlying106 h
  rw [cz106] at hl
  have hy : ys.length = 5 := hy
  obtain ⟨y0, e0, g0⟩ := field_ofZ (hf 0 _ rfl) (by omega)
  obtain ⟨a0, r0, k0⟩ := opens_104 _ _ _ _ _ _ _ _ _ e0 (fun q hq => hz9 q (z_field Tryd.underlying106 rfl g0 hq))
  have r0 : Rc w (UA w) ((cs.drop 0).take (Tryd.prog.cellsOf 104)) _ := r0
  rw [cz104] at r0
  obtain ⟨y1, e1, g1⟩ := field_ofZ (hf 1 _ rfl) (by omega)
  obtain ⟨a1, r1, k1⟩ := opens_3 _ _ _ _ _ _ _ _ _ e1 (fun q hq => hz9 q (z_field Tryd.underlying106 rfl g1 hq))
  have r1 : Rc w (UA w) ((cs.drop 7).take (Tryd.prog.cellsOf 3)) _ := r1
  rw [cz3] at r1
  obtain ⟨y2, e2, g2⟩ := field_ofZ (hf 2 _ rfl) (by omega)
  obtain ⟨a2, r2, k2⟩ := opens_9 _ _ _ _ _ _ _ _ _ e2 (fun q hq => hz9 q (z_field Tryd.underlying106 rfl g2 hq))
  have r2 : Rc w (UA w) ((cs.drop 8).take (Tryd.prog.cellsOf 9)) _ := r2
  rw [cz9] at r2
  obtain ⟨y3, e3, g3⟩ := field_ofZ (hf 3 _ rfl) (by omega)
  obtain ⟨a3, r3, k3⟩ := opens_3 _ _ _ _ _ _ _ _ _ e3 (fun q hq => hz9 q (z_field Tryd.underlying106 rfl g3 hq))
  have r3 : Rc w (UA w) ((cs.drop 9).take (Tryd.prog.cellsOf 3)) _ := r3
  rw [cz3] at r3
  obtain ⟨y4, e4, g4⟩ := field_ofZ (hf 4 _ rfl) (by omega)
  obtain ⟨a4, r4, k4⟩ := opens_3 _ _ _ _ _ _ _ _ _ e4 (fun q hq => hz9 q (z_field Tryd.underlying106 rfl g4 hq))
  have r4 : Rc w (UA w) ((cs.drop 10).take (Tryd.prog.cellsOf 3)) _ := r4
  rw [cz3] at r4
  refine ⟨⟨a0, a1, a2, a3, a4⟩, ?_, ⟨k0, k1, k2, k3, k4⟩⟩
  exact rc_step r0 (rc_step r1 (rc_step r2 (rc_step r3 (rc_step r4 (rc_end hl)))))
theorem opens_47 : OpensZ Tryd.prog 47 (rL 11 eSn) (fun l => l.length ≤ 9223372036854775807 ∧ ∀ a ∈ l, okSn a) := opensZ_len (opensZ_slice Tryd.underlying47 cz106 (by omega) opens_106 (fun _ => rfl))
def okRj (x : Rj) : Prop := okDe x.d ∧ (Lit.int .i64 x.why).wf = true
theorem opens_109 : OpensZ Tryd.prog 109 eRj okRj := by
  intro H enc w base spare held fuel cs x h hz9
  obtain ⟨ys, n, _, rfl, hl, hy, hf⟩ := DataW.trod_struct Tryd.underlying109 h
  rw [cz109] at hl
  have hy : ys.length = 2 := hy
  obtain ⟨y0, e0, g0⟩ := field_ofZ (hf 0 _ rfl) (by omega)
  obtain ⟨a0, r0, k0⟩ := opens_104 _ _ _ _ _ _ _ _ _ e0 (fun q hq => hz9 q (z_field Tryd.underlying109 rfl g0 hq))
  have r0 : Rc w (UA w) ((cs.drop 0).take (Tryd.prog.cellsOf 104)) _ := r0
  rw [cz104] at r0
  obtain ⟨y1, e1, g1⟩ := field_ofZ (hf 1 _ rfl) (by omega)
  obtain ⟨a1, r1, k1⟩ := opens_3 _ _ _ _ _ _ _ _ _ e1 (fun q hq => hz9 q (z_field Tryd.underlying109 rfl g1 hq))
  have r1 : Rc w (UA w) ((cs.drop 7).take (Tryd.prog.cellsOf 3)) _ := r1
  rw [cz3] at r1
  refine ⟨⟨a0, a1⟩, ?_, ⟨k0, k1⟩⟩
  exact rc_step r0 (rc_step r1 (rc_end hl))
theorem opens_48 : OpensZ Tryd.prog 48 (rL 8 eRj) (fun l => l.length ≤ 9223372036854775807 ∧ ∀ a ∈ l, okRj a) := opensZ_len (opensZ_slice Tryd.underlying48 cz109 (by omega) opens_109 (fun _ => rfl))
def okPg (x : Pg) : Prop := x.id.size ≤ 140737488351232 ∧ x.point.size ≤ 140737488351232 ∧ (Lit.int .i64 x.time).wf = true ∧ x.tag.size ≤ 140737488351232 ∧ x.plate.size ≤ 140737488351232 ∧ (Lit.int .i64 x.cls).wf = true ∧ (Lit.int .i64 x.score).wf = true ∧ (x.srcs.length ≤ 9223372036854775807 ∧ ∀ a ∈ x.srcs, okSo a)
theorem opens_87 : OpensZ Tryd.prog 87 ePg okPg := by
  intro H enc w base spare held fuel cs x h hz9
  obtain ⟨ys, n, _, rfl, hl, hy, hf⟩ := DataW.trod_struct Tryd.underlying87 h
  rw [cz87] at hl
  have hy : ys.length = 8 := hy
  obtain ⟨y0, e0, g0⟩ := field_ofZ (hf 0 _ rfl) (by omega)
  obtain ⟨a0, r0, k0⟩ := opens_9 _ _ _ _ _ _ _ _ _ e0 (fun q hq => hz9 q (z_field Tryd.underlying87 rfl g0 hq))
  have r0 : Rc w (UA w) ((cs.drop 0).take (Tryd.prog.cellsOf 9)) _ := r0
  rw [cz9] at r0
  obtain ⟨y1, e1, g1⟩ := field_ofZ (hf 1 _ rfl) (by omega)
  obtain ⟨a1, r1, k1⟩ := opens_9 _ _ _ _ _ _ _ _ _ e1 (fun q hq => hz9 q (z_field Tryd.underlying87 rfl g1 hq))
  have r1 : Rc w (UA w) ((cs.drop 1).take (Tryd.prog.cellsOf 9)) _ := r1
  rw [cz9] at r1
  obtain ⟨y2, e2, g2⟩ := field_ofZ (hf 2 _ rfl) (by omega)
  obtain ⟨a2, r2, k2⟩ := opens_3 _ _ _ _ _ _ _ _ _ e2 (fun q hq => hz9 q (z_field Tryd.underlying87 rfl g2 hq))
  have r2 : Rc w (UA w) ((cs.drop 2).take (Tryd.prog.cellsOf 3)) _ := r2
  rw [cz3] at r2
  obtain ⟨y3, e3, g3⟩ := field_ofZ (hf 3 _ rfl) (by omega)
  obtain ⟨a3, r3, k3⟩ := opens_9 _ _ _ _ _ _ _ _ _ e3 (fun q hq => hz9 q (z_field Tryd.underlying87 rfl g3 hq))
  have r3 : Rc w (UA w) ((cs.drop 3).take (Tryd.prog.cellsOf 9)) _ := r3
  rw [cz9] at r3
  obtain ⟨y4, e4, g4⟩ := field_ofZ (hf 4 _ rfl) (by omega)
  obtain ⟨a4, r4, k4⟩ := opens_9 _ _ _ _ _ _ _ _ _ e4 (fun q hq => hz9 q (z_field Tryd.underlying87 rfl g4 hq))
  have r4 : Rc w (UA w) ((cs.drop 4).take (Tryd.prog.cellsOf 9)) _ := r4
  rw [cz9] at r4
  obtain ⟨y5, e5, g5⟩ := field_ofZ (hf 5 _ rfl) (by omega)
  obtain ⟨a5, r5, k5⟩ := opens_3 _ _ _ _ _ _ _ _ _ e5 (fun q hq => hz9 q (z_field Tryd.underlying87 rfl g5 hq))
  have r5 : Rc w (UA w) ((cs.drop 5).take (Tryd.prog.cellsOf 3)) _ := r5
  rw [cz3] at r5
  obtain ⟨y6, e6, g6⟩ := field_ofZ (hf 6 _ rfl) (by omega)
  obtain ⟨a6, r6, k6⟩ := opens_3 _ _ _ _ _ _ _ _ _ e6 (fun q hq => hz9 q (z_field Tryd.underlying87 rfl g6 hq))
  have r6 : Rc w (UA w) ((cs.drop 6).take (Tryd.prog.cellsOf 3)) _ := r6
  rw [cz3] at r6
  obtain ⟨y7, e7, g7⟩ := field_ofZ (hf 7 _ rfl) (by omega)
  obtain ⟨a7, r7, k7⟩ := opens_85 _ _ _ _ _ _ _ _ _ e7 (fun q hq => hz9 q (z_field Tryd.underlying87 rfl g7 hq))
  have r7 : Rc w (UA w) ((cs.drop 7).take (Tryd.prog.cellsOf 85)) _ := r7
  rw [cz85] at r7
  refine ⟨⟨a0, a1, a2, a3, a4, a5, a6, a7⟩, ?_, ⟨k0, k1, k2, k3, k4, k5, k6, k7⟩⟩
  exact rc_step r0 (rc_step r1 (rc_step r2 (rc_step r3 (rc_step r4 (rc_step r5 (rc_step r6 (rc_step r7 (rc_end hl))))))))
theorem opens_50 : OpensZ Tryd.prog 50 (rL 8 ePg) (fun l => l.length ≤ 9223372036854775807 ∧ ∀ a ∈ l, okPg a) := opensZ_len (opensZ_slice Tryd.underlying50 cz87 (by omega) opens_87 (fun _ => rfl))
def okSp (x : Sp) : Prop := x.point.size ≤ 140737488351232 ∧ (Lit.int .i64 x.time).wf = true ∧ x.pass.size ≤ 140737488351232
theorem opens_100 : OpensZ Tryd.prog 100 eSp okSp := by
  intro H enc w base spare held fuel cs x h hz9
  obtain ⟨ys, n, _, rfl, hl, hy, hf⟩ := DataW.trod_struct Tryd.underlying100 h
  rw [cz100] at hl
  have hy : ys.length = 3 := hy
  obtain ⟨y0, e0, g0⟩ := field_ofZ (hf 0 _ rfl) (by omega)
  obtain ⟨a0, r0, k0⟩ := opens_9 _ _ _ _ _ _ _ _ _ e0 (fun q hq => hz9 q (z_field Tryd.underlying100 rfl g0 hq))
  have r0 : Rc w (UA w) ((cs.drop 0).take (Tryd.prog.cellsOf 9)) _ := r0
  rw [cz9] at r0
  obtain ⟨y1, e1, g1⟩ := field_ofZ (hf 1 _ rfl) (by omega)
  obtain ⟨a1, r1, k1⟩ := opens_3 _ _ _ _ _ _ _ _ _ e1 (fun q hq => hz9 q (z_field Tryd.underlying100 rfl g1 hq))
  have r1 : Rc w (UA w) ((cs.drop 1).take (Tryd.prog.cellsOf 3)) _ := r1
  rw [cz3] at r1
  obtain ⟨y2, e2, g2⟩ := field_ofZ (hf 2 _ rfl) (by omega)
  obtain ⟨a2, r2, k2⟩ := opens_9 _ _ _ _ _ _ _ _ _ e2 (fun q hq => hz9 q (z_field Tryd.underlying100 rfl g2 hq))
  have r2 : Rc w (UA w) ((cs.drop 2).take (Tryd.prog.cellsOf 9)) _ := r2
  rw [cz9] at r2
  refine ⟨⟨a0, a1, a2⟩, ?_, ⟨k0, k1, k2⟩⟩
  exact rc_step r0 (rc_step r1 (rc_step r2 (rc_end hl)))
theorem opens_88 : OpensZ Tryd.prog 88 (rL 3 eSp) (fun l => l.length ≤ 9223372036854775807 ∧ ∀ a ∈ l, okSp a) := opensZ_len (opensZ_slice Tryd.underlying88 cz100 (by omega) opens_100 (fun _ => rfl))
def okTp (x : Tp) : Prop := x.id.size ≤ 140737488351232 ∧ x.veh.size ≤ 140737488351232 ∧ x.sys.size ≤ 140737488351232 ∧ (Lit.int .i64 x.cls).wf = true ∧ (x.stops.length ≤ 9223372036854775807 ∧ ∀ a ∈ x.stops, okSp a)
theorem opens_90 : OpensZ Tryd.prog 90 eTp okTp := by
  intro H enc w base spare held fuel cs x h hz9
  obtain ⟨ys, n, _, rfl, hl, hy, hf⟩ := DataW.trod_struct Tryd.underlying90 h
  rw [cz90] at hl
  have hy : ys.length = 5 := hy
  obtain ⟨y0, e0, g0⟩ := field_ofZ (hf 0 _ rfl) (by omega)
  obtain ⟨a0, r0, k0⟩ := opens_9 _ _ _ _ _ _ _ _ _ e0 (fun q hq => hz9 q (z_field Tryd.underlying90 rfl g0 hq))
  have r0 : Rc w (UA w) ((cs.drop 0).take (Tryd.prog.cellsOf 9)) _ := r0
  rw [cz9] at r0
  obtain ⟨y1, e1, g1⟩ := field_ofZ (hf 1 _ rfl) (by omega)
  obtain ⟨a1, r1, k1⟩ := opens_9 _ _ _ _ _ _ _ _ _ e1 (fun q hq => hz9 q (z_field Tryd.underlying90 rfl g1 hq))
  have r1 : Rc w (UA w) ((cs.drop 1).take (Tryd.prog.cellsOf 9)) _ := r1
  rw [cz9] at r1
  obtain ⟨y2, e2, g2⟩ := field_ofZ (hf 2 _ rfl) (by omega)
  obtain ⟨a2, r2, k2⟩ := opens_9 _ _ _ _ _ _ _ _ _ e2 (fun q hq => hz9 q (z_field Tryd.underlying90 rfl g2 hq))
  have r2 : Rc w (UA w) ((cs.drop 2).take (Tryd.prog.cellsOf 9)) _ := r2
  rw [cz9] at r2
  obtain ⟨y3, e3, g3⟩ := field_ofZ (hf 3 _ rfl) (by omega)
  obtain ⟨a3, r3, k3⟩ := opens_3 _ _ _ _ _ _ _ _ _ e3 (fun q hq => hz9 q (z_field Tryd.underlying90 rfl g3 hq))
  have r3 : Rc w (UA w) ((cs.drop 3).take (Tryd.prog.cellsOf 3)) _ := r3
  rw [cz3] at r3
  obtain ⟨y4, e4, g4⟩ := field_ofZ (hf 4 _ rfl) (by omega)
  obtain ⟨a4, r4, k4⟩ := opens_88 _ _ _ _ _ _ _ _ _ e4 (fun q hq => hz9 q (z_field Tryd.underlying90 rfl g4 hq))
  have r4 : Rc w (UA w) ((cs.drop 4).take (Tryd.prog.cellsOf 88)) _ := r4
  rw [cz88] at r4
  refine ⟨⟨a0, a1, a2, a3, a4⟩, ?_, ⟨k0, k1, k2, k3, k4⟩⟩
  exact rc_step r0 (rc_step r1 (rc_step r2 (rc_step r3 (rc_step r4 (rc_end hl)))))
theorem opens_51 : OpensZ Tryd.prog 51 (rL 5 eTp) (fun l => l.length ≤ 9223372036854775807 ∧ ∀ a ∈ l, okTp a) := opensZ_len (opensZ_slice Tryd.underlying51 cz90 (by omega) opens_90 (fun _ => rfl))
def okLn (x : Ln) : Prop := x.text.size ≤ 140737488351232 ∧ (Lit.int .i64 x.cents).wf = true
theorem opens_102 : OpensZ Tryd.prog 102 eLn okLn := by
  intro H enc w base spare held fuel cs x h hz9
  obtain ⟨ys, n, _, rfl, hl, hy, hf⟩ := DataW.trod_struct Tryd.underlying102 h
  rw [cz102] at hl
  have hy : ys.length = 2 := hy
  obtain ⟨y0, e0, g0⟩ := field_ofZ (hf 0 _ rfl) (by omega)
  obtain ⟨a0, r0, k0⟩ := opens_9 _ _ _ _ _ _ _ _ _ e0 (fun q hq => hz9 q (z_field Tryd.underlying102 rfl g0 hq))
  have r0 : Rc w (UA w) ((cs.drop 0).take (Tryd.prog.cellsOf 9)) _ := r0
  rw [cz9] at r0
  obtain ⟨y1, e1, g1⟩ := field_ofZ (hf 1 _ rfl) (by omega)
  obtain ⟨a1, r1, k1⟩ := opens_3 _ _ _ _ _ _ _ _ _ e1 (fun q hq => hz9 q (z_field Tryd.underlying102 rfl g1 hq))
  have r1 : Rc w (UA w) ((cs.drop 1).take (Tryd.prog.cellsOf 3)) _ := r1
  rw [cz3] at r1
  refine ⟨⟨a0, a1⟩, ?_, ⟨k0, k1⟩⟩
  exact rc_step r0 (rc_step r1 (rc_end hl))
theorem opens_91 : OpensZ Tryd.prog 91 (rL 2 eLn) (fun l => l.length ≤ 9223372036854775807 ∧ ∀ a ∈ l, okLn a) := opensZ_len (opensZ_slice Tryd.underlying91 cz102 (by omega) opens_102 (fun _ => rfl))
def okCg (x : Cg) : Prop := x.key.size ≤ 140737488351232 ∧ x.veh.size ≤ 140737488351232 ∧ x.sys.size ≤ 140737488351232 ∧ (Lit.int .i64 x.cls).wf = true ∧ (Lit.int .i64 x.time).wf = true ∧ (x.lines.length ≤ 9223372036854775807 ∧ ∀ a ∈ x.lines, okLn a) ∧ (Lit.int .i64 x.cents).wf = true
theorem opens_93 : OpensZ Tryd.prog 93 eCg okCg := by
  intro H enc w base spare held fuel cs x h hz9
  obtain ⟨ys, n, _, rfl, hl, hy, hf⟩ := DataW.trod_struct Tryd.underlying93 h
  rw [cz93] at hl
  have hy : ys.length = 7 := hy
  obtain ⟨y0, e0, g0⟩ := field_ofZ (hf 0 _ rfl) (by omega)
  obtain ⟨a0, r0, k0⟩ := opens_9 _ _ _ _ _ _ _ _ _ e0 (fun q hq => hz9 q (z_field Tryd.underlying93 rfl g0 hq))
  have r0 : Rc w (UA w) ((cs.drop 0).take (Tryd.prog.cellsOf 9)) _ := r0
  rw [cz9] at r0
  obtain ⟨y1, e1, g1⟩ := field_ofZ (hf 1 _ rfl) (by omega)
  obtain ⟨a1, r1, k1⟩ := opens_9 _ _ _ _ _ _ _ _ _ e1 (fun q hq => hz9 q (z_field Tryd.underlying93 rfl g1 hq))
  have r1 : Rc w (UA w) ((cs.drop 1).take (Tryd.prog.cellsOf 9)) _ := r1
  rw [cz9] at r1
  obtain ⟨y2, e2, g2⟩ := field_ofZ (hf 2 _ rfl) (by omega)
  obtain ⟨a2, r2, k2⟩ := opens_9 _ _ _ _ _ _ _ _ _ e2 (fun q hq => hz9 q (z_field Tryd.underlying93 rfl g2 hq))
  have r2 : Rc w (UA w) ((cs.drop 2).take (Tryd.prog.cellsOf 9)) _ := r2
  rw [cz9] at r2
  obtain ⟨y3, e3, g3⟩ := field_ofZ (hf 3 _ rfl) (by omega)
  obtain ⟨a3, r3, k3⟩ := opens_3 _ _ _ _ _ _ _ _ _ e3 (fun q hq => hz9 q (z_field Tryd.underlying93 rfl g3 hq))
  have r3 : Rc w (UA w) ((cs.drop 3).take (Tryd.prog.cellsOf 3)) _ := r3
  rw [cz3] at r3
  obtain ⟨y4, e4, g4⟩ := field_ofZ (hf 4 _ rfl) (by omega)
  obtain ⟨a4, r4, k4⟩ := opens_3 _ _ _ _ _ _ _ _ _ e4 (fun q hq => hz9 q (z_field Tryd.underlying93 rfl g4 hq))
  have r4 : Rc w (UA w) ((cs.drop 4).take (Tryd.prog.cellsOf 3)) _ := r4
  rw [cz3] at r4
  obtain ⟨y5, e5, g5⟩ := field_ofZ (hf 5 _ rfl) (by omega)
  obtain ⟨a5, r5, k5⟩ := opens_91 _ _ _ _ _ _ _ _ _ e5 (fun q hq => hz9 q (z_field Tryd.underlying93 rfl g5 hq))
  have r5 : Rc w (UA w) ((cs.drop 5).take (Tryd.prog.cellsOf 91)) _ := r5
  rw [cz91] at r5
  obtain ⟨y6, e6, g6⟩ := field_ofZ (hf 6 _ rfl) (by omega)
  obtain ⟨a6, r6, k6⟩ := opens_3 _ _ _ _ _ _ _ _ _ e6 (fun q hq => hz9 q (z_field Tryd.underlying93 rfl g6 hq))
  have r6 : Rc w (UA w) ((cs.drop 6).take (Tryd.prog.cellsOf 3)) _ := r6
  rw [cz3] at r6
  refine ⟨⟨a0, a1, a2, a3, a4, a5, a6⟩, ?_, ⟨k0, k1, k2, k3, k4, k5, k6⟩⟩
  exact rc_step r0 (rc_step r1 (rc_step r2 (rc_step r3 (rc_step r4 (rc_step r5 (rc_step r6 (rc_end hl)))))))
theorem opens_53 : OpensZ Tryd.prog 53 (rL 7 eCg) (fun l => l.length ≤ 9223372036854775807 ∧ ∀ a ∈ l, okCg a) := opensZ_len (opensZ_slice Tryd.underlying53 cz93 (by omega) opens_93 (fun _ => rfl))
def okEc (x : Ec) : Prop := x.id.size ≤ 140737488351232 ∧ (Lit.int .i64 x.why).wf = true
theorem opens_154 : OpensZ Tryd.prog 154 eEc okEc := by
  intro H enc w base spare held fuel cs x h hz9
  obtain ⟨ys, n, _, rfl, hl, hy, hf⟩ := DataW.trod_struct Tryd.underlying154 h
  rw [cz154] at hl
  have hy : ys.length = 2 := hy
  obtain ⟨y0, e0, g0⟩ := field_ofZ (hf 0 _ rfl) (by omega)
  obtain ⟨a0, r0, k0⟩ := opens_9 _ _ _ _ _ _ _ _ _ e0 (fun q hq => hz9 q (z_field Tryd.underlying154 rfl g0 hq))
  have r0 : Rc w (UA w) ((cs.drop 0).take (Tryd.prog.cellsOf 9)) _ := r0
  rw [cz9] at r0
  obtain ⟨y1, e1, g1⟩ := field_ofZ (hf 1 _ rfl) (by omega)
  obtain ⟨a1, r1, k1⟩ := opens_3 _ _ _ _ _ _ _ _ _ e1 (fun q hq => hz9 q (z_field Tryd.underlying154 rfl g1 hq))
  have r1 : Rc w (UA w) ((cs.drop 1).take (Tryd.prog.cellsOf 3)) _ := r1
  rw [cz3] at r1
  refine ⟨⟨a0, a1⟩, ?_, ⟨k0, k1⟩⟩
  exact rc_step r0 (rc_step r1 (rc_end hl))
theorem opens_54 : OpensZ Tryd.prog 54 (rL 2 eEc) (fun l => l.length ≤ 9223372036854775807 ∧ ∀ a ∈ l, okEc a) := opensZ_len (opensZ_slice Tryd.underlying54 cz154 (by omega) opens_154 (fun _ => rfl))
def okIv (x : Iv) : Prop := (Lit.int .i64 x.fr).wf = true ∧ (Lit.int .i64 x.to).wf = true
theorem opens_124 : OpensZ Tryd.prog 124 eIv okIv := by
  intro H enc w base spare held fuel cs x h hz9
  obtain ⟨ys, n, _, rfl, hl, hy, hf⟩ := DataW.trod_struct Tryd.underlying124 h
  rw [cz124] at hl
  have hy : ys.length = 2 := hy
  obtain ⟨y0, e0, g0⟩ := field_ofZ (hf 0 _ rfl) (by omega)
  obtain ⟨a0, r0, k0⟩ := opens_3 _ _ _ _ _ _ _ _ _ e0 (fun q hq => hz9 q (z_field Tryd.underlying124 rfl g0 hq))
  have r0 : Rc w (UA w) ((cs.drop 0).take (Tryd.prog.cellsOf 3)) _ := r0
  rw [cz3] at r0
  obtain ⟨y1, e1, g1⟩ := field_ofZ (hf 1 _ rfl) (by omega)
  obtain ⟨a1, r1, k1⟩ := opens_3 _ _ _ _ _ _ _ _ _ e1 (fun q hq => hz9 q (z_field Tryd.underlying124 rfl g1 hq))
  have r1 : Rc w (UA w) ((cs.drop 1).take (Tryd.prog.cellsOf 3)) _ := r1
  rw [cz3] at r1
  refine ⟨⟨a0, a1⟩, ?_, ⟨k0, k1⟩⟩
  exact rc_step r0 (rc_step r1 (rc_end hl))
def okSy (x : Sy) : Prop := x.id.size ≤ 140737488351232 ∧ x.zone.size ≤ 140737488351232 ∧ x.plate.size ≤ 140737488351232 ∧ okIv x.time
theorem opens_126 : OpensZ Tryd.prog 126 eSy okSy := by
  intro H enc w base spare held fuel cs x h hz9
  obtain ⟨ys, n, _, rfl, hl, hy, hf⟩ := DataW.trod_struct Tryd.underlying126 h
  rw [cz126] at hl
  have hy : ys.length = 4 := hy
  obtain ⟨y0, e0, g0⟩ := field_ofZ (hf 0 _ rfl) (by omega)
  obtain ⟨a0, r0, k0⟩ := opens_9 _ _ _ _ _ _ _ _ _ e0 (fun q hq => hz9 q (z_field Tryd.underlying126 rfl g0 hq))
  have r0 : Rc w (UA w) ((cs.drop 0).take (Tryd.prog.cellsOf 9)) _ := r0
  rw [cz9] at r0
  obtain ⟨y1, e1, g1⟩ := field_ofZ (hf 1 _ rfl) (by omega)
  obtain ⟨a1, r1, k1⟩ := opens_9 _ _ _ _ _ _ _ _ _ e1 (fun q hq => hz9 q (z_field Tryd.underlying126 rfl g1 hq))
  have r1 : Rc w (UA w) ((cs.drop 1).take (Tryd.prog.cellsOf 9)) _ := r1
  rw [cz9] at r1
  obtain ⟨y2, e2, g2⟩ := field_ofZ (hf 2 _ rfl) (by omega)
  obtain ⟨a2, r2, k2⟩ := opens_9 _ _ _ _ _ _ _ _ _ e2 (fun q hq => hz9 q (z_field Tryd.underlying126 rfl g2 hq))
  have r2 : Rc w (UA w) ((cs.drop 2).take (Tryd.prog.cellsOf 9)) _ := r2
  rw [cz9] at r2
  obtain ⟨y3, e3, g3⟩ := field_ofZ (hf 3 _ rfl) (by omega)
  obtain ⟨a3, r3, k3⟩ := opens_124 _ _ _ _ _ _ _ _ _ e3 (fun q hq => hz9 q (z_field Tryd.underlying126 rfl g3 hq))
  have r3 : Rc w (UA w) ((cs.drop 3).take (Tryd.prog.cellsOf 124)) _ := r3
  rw [cz124] at r3
  refine ⟨⟨a0, a1, a2, a3⟩, ?_, ⟨k0, k1, k2, k3⟩⟩
  exact rc_step r0 (rc_step r1 (rc_step r2 (rc_step r3 (rc_end hl))))
theorem opens_52 : OpensZ Tryd.prog 52 (rL 5 eSy) (fun l => l.length ≤ 9223372036854775807 ∧ ∀ a ∈ l, okSy a) := opensZ_len (opensZ_slice Tryd.underlying52 cz126 (by omega) opens_126 (fun _ => rfl))
def okOw (x : Ow) : Prop := x.tag.size ≤ 140737488351232 ∧ x.plate.size ≤ 140737488351232 ∧ okIv x.time
theorem opens_159 : OpensZ Tryd.prog 159 eOw okOw := by
  intro H enc w base spare held fuel cs x h hz9
  obtain ⟨ys, n, _, rfl, hl, hy, hf⟩ := DataW.trod_struct Tryd.underlying159 h
  rw [cz159] at hl
  have hy : ys.length = 3 := hy
  obtain ⟨y0, e0, g0⟩ := field_ofZ (hf 0 _ rfl) (by omega)
  obtain ⟨a0, r0, k0⟩ := opens_9 _ _ _ _ _ _ _ _ _ e0 (fun q hq => hz9 q (z_field Tryd.underlying159 rfl g0 hq))
  have r0 : Rc w (UA w) ((cs.drop 0).take (Tryd.prog.cellsOf 9)) _ := r0
  rw [cz9] at r0
  obtain ⟨y1, e1, g1⟩ := field_ofZ (hf 1 _ rfl) (by omega)
  obtain ⟨a1, r1, k1⟩ := opens_9 _ _ _ _ _ _ _ _ _ e1 (fun q hq => hz9 q (z_field Tryd.underlying159 rfl g1 hq))
  have r1 : Rc w (UA w) ((cs.drop 1).take (Tryd.prog.cellsOf 9)) _ := r1
  rw [cz9] at r1
  obtain ⟨y2, e2, g2⟩ := field_ofZ (hf 2 _ rfl) (by omega)
  obtain ⟨a2, r2, k2⟩ := opens_124 _ _ _ _ _ _ _ _ _ e2 (fun q hq => hz9 q (z_field Tryd.underlying159 rfl g2 hq))
  have r2 : Rc w (UA w) ((cs.drop 2).take (Tryd.prog.cellsOf 124)) _ := r2
  rw [cz124] at r2
  refine ⟨⟨a0, a1, a2⟩, ?_, ⟨k0, k1, k2⟩⟩
  exact rc_step r0 (rc_step r1 (rc_step r2 (rc_end hl)))
theorem opens_94 : OpensZ Tryd.prog 94 (rL 4 eOw) (fun l => l.length ≤ 9223372036854775807 ∧ ∀ a ∈ l, okOw a) := opensZ_len (opensZ_slice Tryd.underlying94 cz159 (by omega) opens_159 (fun _ => rfl))
def okRf (x : Rf) : Prop := (Lit.int .i64 x.a).wf = true ∧ (Lit.int .i64 x.b).wf = true ∧ (Lit.int .i64 x.c).wf = true ∧ (Lit.int .i64 x.d).wf = true
theorem opens_96 : OpensZ Tryd.prog 96 eRf okRf := by
  intro H enc w base spare held fuel cs x h hz9
  obtain ⟨ys, n, _, rfl, hl, hy, hf⟩ := DataW.trod_struct Tryd.underlying96 h
  rw [cz96] at hl
  have hy : ys.length = 4 := hy
  obtain ⟨y0, e0, g0⟩ := field_ofZ (hf 0 _ rfl) (by omega)
  obtain ⟨a0, r0, k0⟩ := opens_3 _ _ _ _ _ _ _ _ _ e0 (fun q hq => hz9 q (z_field Tryd.underlying96 rfl g0 hq))
  have r0 : Rc w (UA w) ((cs.drop 0).take (Tryd.prog.cellsOf 3)) _ := r0
  rw [cz3] at r0
  obtain ⟨y1, e1, g1⟩ := field_ofZ (hf 1 _ rfl) (by omega)
  obtain ⟨a1, r1, k1⟩ := opens_3 _ _ _ _ _ _ _ _ _ e1 (fun q hq => hz9 q (z_field Tryd.underlying96 rfl g1 hq))
  have r1 : Rc w (UA w) ((cs.drop 1).take (Tryd.prog.cellsOf 3)) _ := r1
  rw [cz3] at r1
  obtain ⟨y2, e2, g2⟩ := field_ofZ (hf 2 _ rfl) (by omega)
  obtain ⟨a2, r2, k2⟩ := opens_3 _ _ _ _ _ _ _ _ _ e2 (fun q hq => hz9 q (z_field Tryd.underlying96 rfl g2 hq))
  have r2 : Rc w (UA w) ((cs.drop 2).take (Tryd.prog.cellsOf 3)) _ := r2
  rw [cz3] at r2
  obtain ⟨y3, e3, g3⟩ := field_ofZ (hf 3 _ rfl) (by omega)
  obtain ⟨a3, r3, k3⟩ := opens_3 _ _ _ _ _ _ _ _ _ e3 (fun q hq => hz9 q (z_field Tryd.underlying96 rfl g3 hq))
  have r3 : Rc w (UA w) ((cs.drop 3).take (Tryd.prog.cellsOf 3)) _ := r3
  rw [cz3] at r3
  refine ⟨⟨a0, a1, a2, a3⟩, ?_, ⟨k0, k1, k2, k3⟩⟩
  exact rc_step r0 (rc_step r1 (rc_step r2 (rc_step r3 (rc_end hl))))
def okAc (x : Ac) : Prop := x.name.size ≤ 140737488351232 ∧ x.agency.size ≤ 140737488351232 ∧ True ∧ (x.owned.length ≤ 9223372036854775807 ∧ ∀ a ∈ x.owned, okOw a) ∧ okRf x.refill ∧ True
theorem opens_98 : OpensZ Tryd.prog 98 eAc okAc := by
  intro H enc w base spare held fuel cs x h hz9
  obtain ⟨ys, n, _, rfl, hl, hy, hf⟩ := DataW.trod_struct Tryd.underlying98 h
  rw [cz98] at hl
  have hy : ys.length = 6 := hy
  obtain ⟨y0, e0, g0⟩ := field_ofZ (hf 0 _ rfl) (by omega)
  obtain ⟨a0, r0, k0⟩ := opens_9 _ _ _ _ _ _ _ _ _ e0 (fun q hq => hz9 q (z_field Tryd.underlying98 rfl g0 hq))
  have r0 : Rc w (UA w) ((cs.drop 0).take (Tryd.prog.cellsOf 9)) _ := r0
  rw [cz9] at r0
  obtain ⟨y1, e1, g1⟩ := field_ofZ (hf 1 _ rfl) (by omega)
  obtain ⟨a1, r1, k1⟩ := opens_9 _ _ _ _ _ _ _ _ _ e1 (fun q hq => hz9 q (z_field Tryd.underlying98 rfl g1 hq))
  have r1 : Rc w (UA w) ((cs.drop 1).take (Tryd.prog.cellsOf 9)) _ := r1
  rw [cz9] at r1
  obtain ⟨y2, e2, g2⟩ := field_ofZ (hf 2 _ rfl) (by omega)
  obtain ⟨a2, r2, k2⟩ := opens_4 _ _ _ _ _ _ _ _ _ e2 (fun q hq => hz9 q (z_field Tryd.underlying98 rfl g2 hq))
  have r2 : Rc w (UA w) ((cs.drop 2).take (Tryd.prog.cellsOf 4)) _ := r2
  rw [cz4] at r2
  obtain ⟨y3, e3, g3⟩ := field_ofZ (hf 3 _ rfl) (by omega)
  obtain ⟨a3, r3, k3⟩ := opens_94 _ _ _ _ _ _ _ _ _ e3 (fun q hq => hz9 q (z_field Tryd.underlying98 rfl g3 hq))
  have r3 : Rc w (UA w) ((cs.drop 3).take (Tryd.prog.cellsOf 94)) _ := r3
  rw [cz94] at r3
  obtain ⟨y4, e4, g4⟩ := field_ofZ (hf 4 _ rfl) (by omega)
  obtain ⟨a4, r4, k4⟩ := opens_96 _ _ _ _ _ _ _ _ _ e4 (fun q hq => hz9 q (z_field Tryd.underlying98 rfl g4 hq))
  have r4 : Rc w (UA w) ((cs.drop 4).take (Tryd.prog.cellsOf 96)) _ := r4
  rw [cz96] at r4
  obtain ⟨y5, e5, g5⟩ := field_ofZ (hf 5 _ rfl) (by omega)
  obtain ⟨a5, r5, k5⟩ := opens_4 _ _ _ _ _ _ _ _ _ e5 (fun q hq => hz9 q (z_field Tryd.underlying98 rfl g5 hq))
  have r5 : Rc w (UA w) ((cs.drop 8).take (Tryd.prog.cellsOf 4)) _ := r5
  rw [cz4] at r5
  refine ⟨⟨a0, a1, a2, a3, a4, a5⟩, ?_, ⟨k0, k1, k2, k3, k4, k5⟩⟩
  exact rc_step r0 (rc_step r1 (rc_step r2 (rc_step r3 (rc_step r4 (rc_step r5 (rc_end hl))))))
theorem opens_40 : OpensZ Tryd.prog 40 (rL 9 eAc) (fun l => l.length ≤ 9223372036854775807 ∧ ∀ a ∈ l, okAc a) := opensZ_len (opensZ_slice Tryd.underlying40 cz98 (by omega) opens_98 (fun _ => rfl))
def okRs (x : Rs) : Prop := (x.pass.length ≤ 9223372036854775807 ∧ ∀ a ∈ x.pass, okPg a) ∧ (x.rej.length ≤ 9223372036854775807 ∧ ∀ a ∈ x.rej, okRj a) ∧ (x.trips.length ≤ 9223372036854775807 ∧ ∀ a ∈ x.trips, okTp a) ∧ (x.stays.length ≤ 9223372036854775807 ∧ ∀ a ∈ x.stays, okSy a) ∧ (x.chg.length ≤ 9223372036854775807 ∧ ∀ a ∈ x.chg, okCg a) ∧ (x.exc.length ≤ 9223372036854775807 ∧ ∀ a ∈ x.exc, okEc a)
theorem opens_56 : OpensZ Tryd.prog 56 eRs okRs := by
  intro H enc w base spare held fuel cs x h hz9
  obtain ⟨ys, n, _, rfl, hl, hy, hf⟩ := DataW.trod_struct Tryd.underlying56 h
  rw [cz56] at hl
  have hy : ys.length = 6 := hy
  obtain ⟨y0, e0, g0⟩ := field_ofZ (hf 0 _ rfl) (by omega)
  obtain ⟨a0, r0, k0⟩ := opens_50 _ _ _ _ _ _ _ _ _ e0 (fun q hq => hz9 q (z_field Tryd.underlying56 rfl g0 hq))
  have r0 : Rc w (UA w) ((cs.drop 0).take (Tryd.prog.cellsOf 50)) _ := r0
  rw [cz50] at r0
  obtain ⟨y1, e1, g1⟩ := field_ofZ (hf 1 _ rfl) (by omega)
  obtain ⟨a1, r1, k1⟩ := opens_48 _ _ _ _ _ _ _ _ _ e1 (fun q hq => hz9 q (z_field Tryd.underlying56 rfl g1 hq))
  have r1 : Rc w (UA w) ((cs.drop 1).take (Tryd.prog.cellsOf 48)) _ := r1
  rw [cz48] at r1
  obtain ⟨y2, e2, g2⟩ := field_ofZ (hf 2 _ rfl) (by omega)
  obtain ⟨a2, r2, k2⟩ := opens_51 _ _ _ _ _ _ _ _ _ e2 (fun q hq => hz9 q (z_field Tryd.underlying56 rfl g2 hq))
  have r2 : Rc w (UA w) ((cs.drop 2).take (Tryd.prog.cellsOf 51)) _ := r2
  rw [cz51] at r2
  obtain ⟨y3, e3, g3⟩ := field_ofZ (hf 3 _ rfl) (by omega)
  obtain ⟨a3, r3, k3⟩ := opens_52 _ _ _ _ _ _ _ _ _ e3 (fun q hq => hz9 q (z_field Tryd.underlying56 rfl g3 hq))
  have r3 : Rc w (UA w) ((cs.drop 3).take (Tryd.prog.cellsOf 52)) _ := r3
  rw [cz52] at r3
  obtain ⟨y4, e4, g4⟩ := field_ofZ (hf 4 _ rfl) (by omega)
  obtain ⟨a4, r4, k4⟩ := opens_53 _ _ _ _ _ _ _ _ _ e4 (fun q hq => hz9 q (z_field Tryd.underlying56 rfl g4 hq))
  have r4 : Rc w (UA w) ((cs.drop 4).take (Tryd.prog.cellsOf 53)) _ := r4
  rw [cz53] at r4
  obtain ⟨y5, e5, g5⟩ := field_ofZ (hf 5 _ rfl) (by omega)
  obtain ⟨a5, r5, k5⟩ := opens_54 _ _ _ _ _ _ _ _ _ e5 (fun q hq => hz9 q (z_field Tryd.underlying56 rfl g5 hq))
  have r5 : Rc w (UA w) ((cs.drop 5).take (Tryd.prog.cellsOf 54)) _ := r5
  rw [cz54] at r5
  refine ⟨⟨a0, a1, a2, a3, a4, a5⟩, ?_, ⟨k0, k1, k2, k3, k4, k5⟩⟩
  exact rc_step r0 (rc_step r1 (rc_step r2 (rc_step r3 (rc_step r4 (rc_step r5 (rc_end hl))))))
theorem opens_22 : OpensZ Tryd.prog 22 rV (fun _ => True) := z_of (opens_vslice Tryd.underlying22)
theorem opens_23 : OpensZ Tryd.prog 23 rV (fun _ => True) := z_of (opens_vslice Tryd.underlying23)
theorem opens_26 : OpensZ Tryd.prog 26 rV (fun _ => True) := z_of (opens_vslice Tryd.underlying26)
theorem opens_29 : OpensZ Tryd.prog 29 rV (fun _ => True) := z_of (opens_vslice Tryd.underlying29)
theorem opens_30 : OpensZ Tryd.prog 30 rV (fun _ => True) := z_of (opens_vslice Tryd.underlying30)
theorem opens_31 : OpensZ Tryd.prog 31 rV (fun _ => True) := z_of (opens_vslice Tryd.underlying31)
theorem opens_32 : OpensZ Tryd.prog 32 rV (fun _ => True) := z_of (opens_vslice Tryd.underlying32)
theorem opens_33 : OpensZ Tryd.prog 33 rV (fun _ => True) := z_of (opens_vslice Tryd.underlying33)
theorem opens_36 : OpensZ Tryd.prog 36 rV (fun _ => True) := z_of (opens_vslice Tryd.underlying36)
theorem opens_37 : OpensZ Tryd.prog 37 rV (fun _ => True) := z_of (opens_vslice Tryd.underlying37)
theorem opens_38 : OpensZ Tryd.prog 38 rV (fun _ => True) := z_of (opens_vslice Tryd.underlying38)
theorem opens_39 : OpensZ Tryd.prog 39 rV (fun _ => True) := z_of (opens_vslice Tryd.underlying39)
theorem opens_41 : OpensZ Tryd.prog 41 rV (fun _ => True) := z_of (opens_vslice Tryd.underlying41)
theorem opens_44 : OpensZ Tryd.prog 44 rV (fun _ => True) := z_of (opens_vslice Tryd.underlying44)
theorem opens_49 : OpensZ Tryd.prog 49 rV (fun _ => True) := z_of (opens_vslice Tryd.underlying49)
theorem opens_57 : OpensZ Tryd.prog 57 rV (fun _ => True) := z_of (opens_vslice Tryd.underlying57)
theorem opens_62 : OpensZ Tryd.prog 62 rV (fun _ => True) := z_of (opens_vslice Tryd.underlying62)
def okNw (x : Nw) : Prop := True ∧ True
theorem opens_25 : OpensZ Tryd.prog 25 eNw okNw := by
  intro H enc w base spare held fuel cs x h hz9
  obtain ⟨ys, n, _, rfl, hl, hy, hf⟩ := DataW.trod_struct Tryd.underlying25 h
  rw [cz25] at hl
  have hy : ys.length = 2 := hy
  obtain ⟨y0, e0, g0⟩ := field_ofZ (hf 0 _ rfl) (by omega)
  obtain ⟨a0, r0, k0⟩ := opens_22 _ _ _ _ _ _ _ _ _ e0 (fun q hq => hz9 q (z_field Tryd.underlying25 rfl g0 hq))
  have r0 : Rc w (UA w) ((cs.drop 0).take (Tryd.prog.cellsOf 22)) _ := r0
  rw [cz22] at r0
  obtain ⟨y1, e1, g1⟩ := field_ofZ (hf 1 _ rfl) (by omega)
  obtain ⟨a1, r1, k1⟩ := opens_23 _ _ _ _ _ _ _ _ _ e1 (fun q hq => hz9 q (z_field Tryd.underlying25 rfl g1 hq))
  have r1 : Rc w (UA w) ((cs.drop 1).take (Tryd.prog.cellsOf 23)) _ := r1
  rw [cz23] at r1
  refine ⟨⟨a0, a1⟩, ?_, ⟨k0, k1⟩⟩
  exact rc_step r0 (rc_step r1 (rc_end hl))
def okTq (x : Tq) : Prop := okNw x.net ∧ True
theorem opens_28 : OpensZ Tryd.prog 28 eTq okTq := by
  intro H enc w base spare held fuel cs x h hz9
  obtain ⟨ys, n, _, rfl, hl, hy, hf⟩ := DataW.trod_struct Tryd.underlying28 h
  rw [cz28] at hl
  have hy : ys.length = 2 := hy
  obtain ⟨y0, e0, g0⟩ := field_ofZ (hf 0 _ rfl) (by omega)
  obtain ⟨a0, r0, k0⟩ := opens_25 _ _ _ _ _ _ _ _ _ e0 (fun q hq => hz9 q (z_field Tryd.underlying28 rfl g0 hq))
  have r0 : Rc w (UA w) ((cs.drop 0).take (Tryd.prog.cellsOf 25)) _ := r0
  rw [cz25] at r0
  obtain ⟨y1, e1, g1⟩ := field_ofZ (hf 1 _ rfl) (by omega)
  obtain ⟨a1, r1, k1⟩ := opens_26 _ _ _ _ _ _ _ _ _ e1 (fun q hq => hz9 q (z_field Tryd.underlying28 rfl g1 hq))
  have r1 : Rc w (UA w) ((cs.drop 2).take (Tryd.prog.cellsOf 26)) _ := r1
  rw [cz26] at r1
  refine ⟨⟨a0, a1⟩, ?_, ⟨k0, k1⟩⟩
  exact rc_step r0 (rc_step r1 (rc_end hl))
def okSc (x : Sc) : Prop := (Lit.int .i64 x.p).wf = true ∧ True ∧ True ∧ True
theorem opens_35 : OpensZ Tryd.prog 35 eSc okSc := by
  intro H enc w base spare held fuel cs x h hz9
  obtain ⟨ys, n, _, rfl, hl, hy, hf⟩ := DataW.trod_struct Tryd.underlying35 h
  rw [cz35] at hl
  have hy : ys.length = 4 := hy
  obtain ⟨y0, e0, g0⟩ := field_ofZ (hf 0 _ rfl) (by omega)
  obtain ⟨a0, r0, k0⟩ := opens_3 _ _ _ _ _ _ _ _ _ e0 (fun q hq => hz9 q (z_field Tryd.underlying35 rfl g0 hq))
  have r0 : Rc w (UA w) ((cs.drop 0).take (Tryd.prog.cellsOf 3)) _ := r0
  rw [cz3] at r0
  obtain ⟨y1, e1, g1⟩ := field_ofZ (hf 1 _ rfl) (by omega)
  obtain ⟨a1, r1, k1⟩ := opens_33 _ _ _ _ _ _ _ _ _ e1 (fun q hq => hz9 q (z_field Tryd.underlying35 rfl g1 hq))
  have r1 : Rc w (UA w) ((cs.drop 1).take (Tryd.prog.cellsOf 33)) _ := r1
  rw [cz33] at r1
  obtain ⟨y2, e2, g2⟩ := field_ofZ (hf 2 _ rfl) (by omega)
  obtain ⟨a2, r2, k2⟩ := opens_33 _ _ _ _ _ _ _ _ _ e2 (fun q hq => hz9 q (z_field Tryd.underlying35 rfl g2 hq))
  have r2 : Rc w (UA w) ((cs.drop 2).take (Tryd.prog.cellsOf 33)) _ := r2
  rw [cz33] at r2
  obtain ⟨y3, e3, g3⟩ := field_ofZ (hf 3 _ rfl) (by omega)
  obtain ⟨a3, r3, k3⟩ := opens_33 _ _ _ _ _ _ _ _ _ e3 (fun q hq => hz9 q (z_field Tryd.underlying35 rfl g3 hq))
  have r3 : Rc w (UA w) ((cs.drop 3).take (Tryd.prog.cellsOf 33)) _ := r3
  rw [cz33] at r3
  refine ⟨⟨a0, a1, a2, a3⟩, ?_, ⟨k0, k1, k2, k3⟩⟩
  exact rc_step r0 (rc_step r1 (rc_step r2 (rc_step r3 (rc_end hl))))
def okLw (x : Lw) : Prop := True ∧ True ∧ (Lit.int .i64 x.c).wf = true
theorem opens_43 : OpensZ Tryd.prog 43 eLw okLw := by
  intro H enc w base spare held fuel cs x h hz9
  obtain ⟨ys, n, _, rfl, hl, hy, hf⟩ := DataW.trod_struct Tryd.underlying43 h
  rw [cz43] at hl
  have hy : ys.length = 3 := hy
  obtain ⟨y0, e0, g0⟩ := field_ofZ (hf 0 _ rfl) (by omega)
  obtain ⟨a0, r0, k0⟩ := opens_33 _ _ _ _ _ _ _ _ _ e0 (fun q hq => hz9 q (z_field Tryd.underlying43 rfl g0 hq))
  have r0 : Rc w (UA w) ((cs.drop 0).take (Tryd.prog.cellsOf 33)) _ := r0
  rw [cz33] at r0
  obtain ⟨y1, e1, g1⟩ := field_ofZ (hf 1 _ rfl) (by omega)
  obtain ⟨a1, r1, k1⟩ := opens_33 _ _ _ _ _ _ _ _ _ e1 (fun q hq => hz9 q (z_field Tryd.underlying43 rfl g1 hq))
  have r1 : Rc w (UA w) ((cs.drop 1).take (Tryd.prog.cellsOf 33)) _ := r1
  rw [cz33] at r1
  obtain ⟨y2, e2, g2⟩ := field_ofZ (hf 2 _ rfl) (by omega)
  obtain ⟨a2, r2, k2⟩ := opens_3 _ _ _ _ _ _ _ _ _ e2 (fun q hq => hz9 q (z_field Tryd.underlying43 rfl g2 hq))
  have r2 : Rc w (UA w) ((cs.drop 2).take (Tryd.prog.cellsOf 3)) _ := r2
  rw [cz3] at r2
  refine ⟨⟨a0, a1, a2⟩, ?_, ⟨k0, k1, k2⟩⟩
  exact rc_step r0 (rc_step r1 (rc_step r2 (rc_end hl)))
def okCf (x : Cf) : Prop := okTq x.top ∧ True ∧ True ∧ True ∧ (Lit.int .i64 x.gap).wf = true ∧ (Lit.int .i64 x.weak).wf = true ∧ True ∧ okSc x.scale ∧ True ∧ True ∧ True ∧ True ∧ (x.acc.length ≤ 9223372036854775807 ∧ ∀ a ∈ x.acc, okAc a) ∧ True ∧ True ∧ okLw x.law ∧ True ∧ x.ag.size ≤ 140737488351232
theorem opens_46 : OpensZ Tryd.prog 46 eCf okCf := by
  intro H enc w base spare held fuel cs x h hz9
  obtain ⟨ys, n, _, rfl, hl, hy, hf⟩ := DataW.trod_struct Tryd.underlying46 h
  rw [cz46] at hl
  have hy : ys.length = 18 := hy
  obtain ⟨y0, e0, g0⟩ := field_ofZ (hf 0 _ rfl) (by omega)
  obtain ⟨a0, r0, k0⟩ := opens_28 _ _ _ _ _ _ _ _ _ e0 (fun q hq => hz9 q (z_field Tryd.underlying46 rfl g0 hq))
  have r0 : Rc w (UA w) ((cs.drop 0).take (Tryd.prog.cellsOf 28)) _ := r0
  rw [cz28] at r0
  obtain ⟨y1, e1, g1⟩ := field_ofZ (hf 1 _ rfl) (by omega)
  obtain ⟨a1, r1, k1⟩ := opens_29 _ _ _ _ _ _ _ _ _ e1 (fun q hq => hz9 q (z_field Tryd.underlying46 rfl g1 hq))
  have r1 : Rc w (UA w) ((cs.drop 3).take (Tryd.prog.cellsOf 29)) _ := r1
  rw [cz29] at r1
  obtain ⟨y2, e2, g2⟩ := field_ofZ (hf 2 _ rfl) (by omega)
  obtain ⟨a2, r2, k2⟩ := opens_30 _ _ _ _ _ _ _ _ _ e2 (fun q hq => hz9 q (z_field Tryd.underlying46 rfl g2 hq))
  have r2 : Rc w (UA w) ((cs.drop 4).take (Tryd.prog.cellsOf 30)) _ := r2
  rw [cz30] at r2
  obtain ⟨y3, e3, g3⟩ := field_ofZ (hf 3 _ rfl) (by omega)
  obtain ⟨a3, r3, k3⟩ := opens_31 _ _ _ _ _ _ _ _ _ e3 (fun q hq => hz9 q (z_field Tryd.underlying46 rfl g3 hq))
  have r3 : Rc w (UA w) ((cs.drop 5).take (Tryd.prog.cellsOf 31)) _ := r3
  rw [cz31] at r3
  obtain ⟨y4, e4, g4⟩ := field_ofZ (hf 4 _ rfl) (by omega)
  obtain ⟨a4, r4, k4⟩ := opens_3 _ _ _ _ _ _ _ _ _ e4 (fun q hq => hz9 q (z_field Tryd.underlying46 rfl g4 hq))
  have r4 : Rc w (UA w) ((cs.drop 6).take (Tryd.prog.cellsOf 3)) _ := r4
  rw [cz3] at r4
  obtain ⟨y5, e5, g5⟩ := field_ofZ (hf 5 _ rfl) (by omega)
  obtain ⟨a5, r5, k5⟩ := opens_3 _ _ _ _ _ _ _ _ _ e5 (fun q hq => hz9 q (z_field Tryd.underlying46 rfl g5 hq))
  have r5 : Rc w (UA w) ((cs.drop 7).take (Tryd.prog.cellsOf 3)) _ := r5
  rw [cz3] at r5
  obtain ⟨y6, e6, g6⟩ := field_ofZ (hf 6 _ rfl) (by omega)
  obtain ⟨a6, r6, k6⟩ := opens_32 _ _ _ _ _ _ _ _ _ e6 (fun q hq => hz9 q (z_field Tryd.underlying46 rfl g6 hq))
  have r6 : Rc w (UA w) ((cs.drop 8).take (Tryd.prog.cellsOf 32)) _ := r6
  rw [cz32] at r6
  obtain ⟨y7, e7, g7⟩ := field_ofZ (hf 7 _ rfl) (by omega)
  obtain ⟨a7, r7, k7⟩ := opens_35 _ _ _ _ _ _ _ _ _ e7 (fun q hq => hz9 q (z_field Tryd.underlying46 rfl g7 hq))
  have r7 : Rc w (UA w) ((cs.drop 9).take (Tryd.prog.cellsOf 35)) _ := r7
  rw [cz35] at r7
  obtain ⟨y8, e8, g8⟩ := field_ofZ (hf 8 _ rfl) (by omega)
  obtain ⟨a8, r8, k8⟩ := opens_36 _ _ _ _ _ _ _ _ _ e8 (fun q hq => hz9 q (z_field Tryd.underlying46 rfl g8 hq))
  have r8 : Rc w (UA w) ((cs.drop 13).take (Tryd.prog.cellsOf 36)) _ := r8
  rw [cz36] at r8
  obtain ⟨y9, e9, g9⟩ := field_ofZ (hf 9 _ rfl) (by omega)
  obtain ⟨a9, r9, k9⟩ := opens_37 _ _ _ _ _ _ _ _ _ e9 (fun q hq => hz9 q (z_field Tryd.underlying46 rfl g9 hq))
  have r9 : Rc w (UA w) ((cs.drop 14).take (Tryd.prog.cellsOf 37)) _ := r9
  rw [cz37] at r9
  obtain ⟨y10, e10, g10⟩ := field_ofZ (hf 10 _ rfl) (by omega)
  obtain ⟨a10, r10, k10⟩ := opens_38 _ _ _ _ _ _ _ _ _ e10 (fun q hq => hz9 q (z_field Tryd.underlying46 rfl g10 hq))
  have r10 : Rc w (UA w) ((cs.drop 15).take (Tryd.prog.cellsOf 38)) _ := r10
  rw [cz38] at r10
  obtain ⟨y11, e11, g11⟩ := field_ofZ (hf 11 _ rfl) (by omega)
  obtain ⟨a11, r11, k11⟩ := opens_39 _ _ _ _ _ _ _ _ _ e11 (fun q hq => hz9 q (z_field Tryd.underlying46 rfl g11 hq))
  have r11 : Rc w (UA w) ((cs.drop 16).take (Tryd.prog.cellsOf 39)) _ := r11
  rw [cz39] at r11
  obtain ⟨y12, e12, g12⟩ := field_ofZ (hf 12 _ rfl) (by omega)
  obtain ⟨a12, r12, k12⟩ := opens_40 _ _ _ _ _ _ _ _ _ e12 (fun q hq => hz9 q (z_field Tryd.underlying46 rfl g12 hq))
  have r12 : Rc w (UA w) ((cs.drop 17).take (Tryd.prog.cellsOf 40)) _ := r12
  rw [cz40] at r12
  obtain ⟨y13, e13, g13⟩ := field_ofZ (hf 13 _ rfl) (by omega)
  obtain ⟨a13, r13, k13⟩ := opens_41 _ _ _ _ _ _ _ _ _ e13 (fun q hq => hz9 q (z_field Tryd.underlying46 rfl g13 hq))
  have r13 : Rc w (UA w) ((cs.drop 18).take (Tryd.prog.cellsOf 41)) _ := r13
  rw [cz41] at r13
  obtain ⟨y14, e14, g14⟩ := field_ofZ (hf 14 _ rfl) (by omega)
  obtain ⟨a14, r14, k14⟩ := opens_33 _ _ _ _ _ _ _ _ _ e14 (fun q hq => hz9 q (z_field Tryd.underlying46 rfl g14 hq))
  have r14 : Rc w (UA w) ((cs.drop 19).take (Tryd.prog.cellsOf 33)) _ := r14
  rw [cz33] at r14
  obtain ⟨y15, e15, g15⟩ := field_ofZ (hf 15 _ rfl) (by omega)
  obtain ⟨a15, r15, k15⟩ := opens_43 _ _ _ _ _ _ _ _ _ e15 (fun q hq => hz9 q (z_field Tryd.underlying46 rfl g15 hq))
  have r15 : Rc w (UA w) ((cs.drop 20).take (Tryd.prog.cellsOf 43)) _ := r15
  rw [cz43] at r15
  obtain ⟨y16, e16, g16⟩ := field_ofZ (hf 16 _ rfl) (by omega)
  obtain ⟨a16, r16, k16⟩ := opens_44 _ _ _ _ _ _ _ _ _ e16 (fun q hq => hz9 q (z_field Tryd.underlying46 rfl g16 hq))
  have r16 : Rc w (UA w) ((cs.drop 23).take (Tryd.prog.cellsOf 44)) _ := r16
  rw [cz44] at r16
  obtain ⟨y17, e17, g17⟩ := field_ofZ (hf 17 _ rfl) (by omega)
  obtain ⟨a17, r17, k17⟩ := opens_9 _ _ _ _ _ _ _ _ _ e17 (fun q hq => hz9 q (z_field Tryd.underlying46 rfl g17 hq))
  have r17 : Rc w (UA w) ((cs.drop 24).take (Tryd.prog.cellsOf 9)) _ := r17
  rw [cz9] at r17
  refine ⟨⟨a0, a1, a2, a3, a4, a5, a6, a7, a8, a9, a10, a11, a12, a13, a14, a15, a16, a17⟩, ?_, ⟨k0, k1, k2, k3, k4, k5, k6, k7, k8, k9, k10, k11, k12, k13, k14, k15, k16, k17⟩⟩
  exact rc_step r0 (rc_step r1 (rc_step r2 (rc_step r3 (rc_step r4 (rc_step r5 (rc_step r6 (rc_step r7 (rc_step r8 (rc_step r9 (rc_step r10 (rc_step r11 (rc_step r12 (rc_step r13 (rc_step r14 (rc_step r15 (rc_step r16 (rc_step r17 (rc_end hl))))))))))))))))))
def okLg (x : Lg) : Prop := True
theorem opens_59 : OpensZ Tryd.prog 59 eLg okLg := by
  intro H enc w base spare held fuel cs x h hz9
  obtain ⟨ys, n, _, rfl, hl, hy, hf⟩ := DataW.trod_struct Tryd.underlying59 h
  rw [cz59] at hl
  have hy : ys.length = 1 := hy
  obtain ⟨y0, e0, g0⟩ := field_ofZ (hf 0 _ rfl) (by omega)
  obtain ⟨a0, r0, k0⟩ := opens_57 _ _ _ _ _ _ _ _ _ e0 (fun q hq => hz9 q (z_field Tryd.underlying59 rfl g0 hq))
  have r0 : Rc w (UA w) ((cs.drop 0).take (Tryd.prog.cellsOf 57)) _ := r0
  rw [cz57] at r0
  refine ⟨⟨a0⟩, ?_, k0⟩
  exact rc_step r0 (rc_end hl)
def okBo (x : Bo) : Prop := okLg x.led ∧ (x.done.length ≤ 9223372036854775807 ∧ ∀ a ∈ x.done, okCg a)
theorem opens_61 : OpensZ Tryd.prog 61 eBo okBo := by
  intro H enc w base spare held fuel cs x h hz9
  obtain ⟨ys, n, _, rfl, hl, hy, hf⟩ := DataW.trod_struct Tryd.underlying61 h
  rw [cz61] at hl
  have hy : ys.length = 2 := hy
  obtain ⟨y0, e0, g0⟩ := field_ofZ (hf 0 _ rfl) (by omega)
  obtain ⟨a0, r0, k0⟩ := opens_59 _ _ _ _ _ _ _ _ _ e0 (fun q hq => hz9 q (z_field Tryd.underlying61 rfl g0 hq))
  have r0 : Rc w (UA w) ((cs.drop 0).take (Tryd.prog.cellsOf 59)) _ := r0
  rw [cz59] at r0
  obtain ⟨y1, e1, g1⟩ := field_ofZ (hf 1 _ rfl) (by omega)
  obtain ⟨a1, r1, k1⟩ := opens_53 _ _ _ _ _ _ _ _ _ e1 (fun q hq => hz9 q (z_field Tryd.underlying61 rfl g1 hq))
  have r1 : Rc w (UA w) ((cs.drop 1).take (Tryd.prog.cellsOf 53)) _ := r1
  rw [cz53] at r1
  refine ⟨⟨a0, a1⟩, ?_, ⟨k0, k1⟩⟩
  exact rc_step r0 (rc_step r1 (rc_end hl))
def okSa (x : Sa) : Prop := okCf x.cfg ∧ (x.seen.length ≤ 9223372036854775807 ∧ ∀ a ∈ x.seen, okSn a) ∧ (x.rej.length ≤ 9223372036854775807 ∧ ∀ a ∈ x.rej, okRj a) ∧ True ∧ (Lit.int .i64 x.closed).wf = true ∧ okRs x.res ∧ okBo x.books ∧ True ∧ (Lit.int .i64 x.count).wf = true
theorem opens_64 : OpensZ Tryd.prog 64 eSa okSa := by
  intro H enc w base spare held fuel cs x h hz9
  obtain ⟨ys, n, _, rfl, hl, hy, hf⟩ := DataW.trod_struct Tryd.underlying64 h
  rw [cz64] at hl
  have hy : ys.length = 9 := hy
  obtain ⟨y0, e0, g0⟩ := field_ofZ (hf 0 _ rfl) (by omega)
  obtain ⟨a0, r0, k0⟩ := opens_46 _ _ _ _ _ _ _ _ _ e0 (fun q hq => hz9 q (z_field Tryd.underlying64 rfl g0 hq))
  have r0 : Rc w (UA w) ((cs.drop 0).take (Tryd.prog.cellsOf 46)) _ := r0
  rw [cz46] at r0
  obtain ⟨y1, e1, g1⟩ := field_ofZ (hf 1 _ rfl) (by omega)
  obtain ⟨a1, r1, k1⟩ := opens_47 _ _ _ _ _ _ _ _ _ e1 (fun q hq => hz9 q (z_field Tryd.underlying64 rfl g1 hq))
  have r1 : Rc w (UA w) ((cs.drop 25).take (Tryd.prog.cellsOf 47)) _ := r1
  rw [cz47] at r1
  obtain ⟨y2, e2, g2⟩ := field_ofZ (hf 2 _ rfl) (by omega)
  obtain ⟨a2, r2, k2⟩ := opens_48 _ _ _ _ _ _ _ _ _ e2 (fun q hq => hz9 q (z_field Tryd.underlying64 rfl g2 hq))
  have r2 : Rc w (UA w) ((cs.drop 26).take (Tryd.prog.cellsOf 48)) _ := r2
  rw [cz48] at r2
  obtain ⟨y3, e3, g3⟩ := field_ofZ (hf 3 _ rfl) (by omega)
  obtain ⟨a3, r3, k3⟩ := opens_49 _ _ _ _ _ _ _ _ _ e3 (fun q hq => hz9 q (z_field Tryd.underlying64 rfl g3 hq))
  have r3 : Rc w (UA w) ((cs.drop 27).take (Tryd.prog.cellsOf 49)) _ := r3
  rw [cz49] at r3
  obtain ⟨y4, e4, g4⟩ := field_ofZ (hf 4 _ rfl) (by omega)
  obtain ⟨a4, r4, k4⟩ := opens_3 _ _ _ _ _ _ _ _ _ e4 (fun q hq => hz9 q (z_field Tryd.underlying64 rfl g4 hq))
  have r4 : Rc w (UA w) ((cs.drop 28).take (Tryd.prog.cellsOf 3)) _ := r4
  rw [cz3] at r4
  obtain ⟨y5, e5, g5⟩ := field_ofZ (hf 5 _ rfl) (by omega)
  obtain ⟨a5, r5, k5⟩ := opens_56 _ _ _ _ _ _ _ _ _ e5 (fun q hq => hz9 q (z_field Tryd.underlying64 rfl g5 hq))
  have r5 : Rc w (UA w) ((cs.drop 29).take (Tryd.prog.cellsOf 56)) _ := r5
  rw [cz56] at r5
  obtain ⟨y6, e6, g6⟩ := field_ofZ (hf 6 _ rfl) (by omega)
  obtain ⟨a6, r6, k6⟩ := opens_61 _ _ _ _ _ _ _ _ _ e6 (fun q hq => hz9 q (z_field Tryd.underlying64 rfl g6 hq))
  have r6 : Rc w (UA w) ((cs.drop 35).take (Tryd.prog.cellsOf 61)) _ := r6
  rw [cz61] at r6
  obtain ⟨y7, e7, g7⟩ := field_ofZ (hf 7 _ rfl) (by omega)
  obtain ⟨a7, r7, k7⟩ := opens_62 _ _ _ _ _ _ _ _ _ e7 (fun q hq => hz9 q (z_field Tryd.underlying64 rfl g7 hq))
  have r7 : Rc w (UA w) ((cs.drop 37).take (Tryd.prog.cellsOf 62)) _ := r7
  rw [cz62] at r7
  obtain ⟨y8, e8, g8⟩ := field_ofZ (hf 8 _ rfl) (by omega)
  obtain ⟨a8, r8, k8⟩ := opens_3 _ _ _ _ _ _ _ _ _ e8 (fun q hq => hz9 q (z_field Tryd.underlying64 rfl g8 hq))
  have r8 : Rc w (UA w) ((cs.drop 38).take (Tryd.prog.cellsOf 3)) _ := r8
  rw [cz3] at r8
  refine ⟨⟨a0, a1, a2, a3, a4, a5, a6, a7, a8⟩, ?_, ⟨k0, k1, k2, k3, k4, k5, k6, k7, k8⟩⟩
  exact rc_step r0 (rc_step r1 (rc_step r2 (rc_step r3 (rc_step r4 (rc_step r5 (rc_step r6 (rc_step r7 (rc_step r8 (rc_end hl)))))))))
def okFc (x : Fc) : Prop := x.kind.size ≤ 140737488351232 ∧ x.key.size ≤ 140737488351232 ∧ (Lit.int .i64 x.why).wf = true
theorem opens_81 : OpensZ Tryd.prog 81 eFc okFc := by
  intro H enc w base spare held fuel cs x h hz9
  obtain ⟨ys, n, _, rfl, hl, hy, hf⟩ := DataW.trod_struct Tryd.underlying81 h
  rw [cz81] at hl
  have hy : ys.length = 3 := hy
  obtain ⟨y0, e0, g0⟩ := field_ofZ (hf 0 _ rfl) (by omega)
  obtain ⟨a0, r0, k0⟩ := opens_9 _ _ _ _ _ _ _ _ _ e0 (fun q hq => hz9 q (z_field Tryd.underlying81 rfl g0 hq))
  have r0 : Rc w (UA w) ((cs.drop 0).take (Tryd.prog.cellsOf 9)) _ := r0
  rw [cz9] at r0
  obtain ⟨y1, e1, g1⟩ := field_ofZ (hf 1 _ rfl) (by omega)
  obtain ⟨a1, r1, k1⟩ := opens_9 _ _ _ _ _ _ _ _ _ e1 (fun q hq => hz9 q (z_field Tryd.underlying81 rfl g1 hq))
  have r1 : Rc w (UA w) ((cs.drop 1).take (Tryd.prog.cellsOf 9)) _ := r1
  rw [cz9] at r1
  obtain ⟨y2, e2, g2⟩ := field_ofZ (hf 2 _ rfl) (by omega)
  obtain ⟨a2, r2, k2⟩ := opens_3 _ _ _ _ _ _ _ _ _ e2 (fun q hq => hz9 q (z_field Tryd.underlying81 rfl g2 hq))
  have r2 : Rc w (UA w) ((cs.drop 2).take (Tryd.prog.cellsOf 3)) _ := r2
  rw [cz3] at r2
  refine ⟨⟨a0, a1, a2⟩, ?_, ⟨k0, k1, k2⟩⟩
  exact rc_step r0 (rc_step r1 (rc_step r2 (rc_end hl)))
theorem opens_69 : OpensZ Tryd.prog 69 (rL 3 eFc) (fun l => l.length ≤ 9223372036854775807 ∧ ∀ a ∈ l, okFc a) := opensZ_len (opensZ_slice Tryd.underlying69 cz81 (by omega) opens_81 (fun _ => rfl))
theorem i64_r {n : Int} (h : (Lit.int .i64 n).wf = true) : -9223372036854775808 ≤ n ∧ n ≤ 9223372036854775807 := by simpa [Lit.wf, IntKind.min, IntKind.max, IntKind.signed, IntKind.bits] using h
theorem u16_r {n : Int} (h : (Lit.int .u16 n).wf = true) : 0 ≤ n ∧ n ≤ 65535 := by simpa [Lit.wf, IntKind.min, IntKind.max, IntKind.signed, IntKind.bits] using h
end Go.Proofs.YtgfbgkoifcacdaaDoor.Wk
