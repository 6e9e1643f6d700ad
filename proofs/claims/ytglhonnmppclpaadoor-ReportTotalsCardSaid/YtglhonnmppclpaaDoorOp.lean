/- What the arguments read as. Condition: they read as data, and their sizes fit. -/
import Derived.Test.YtglhonnmppclpaaDoorAvZ
import Derived.Test.YtglhonnmppclpaaDoorTy
set_option linter.unusedSimpArgs false
set_option linter.unusedVariables false
namespace Go.Proofs.YtglhonnmppclpaaDoor.Wk
open Go Go.RowKit Go.Proofs.YtglhonnmppclpaaDoor.Av
theorem cz3 : Tryd.prog.cellsOf 3 = 1 := by kernel_rfl
theorem cz4 : Tryd.prog.cellsOf 4 = 1 := by kernel_rfl
theorem cz9 : Tryd.prog.cellsOf 9 = 1 := by kernel_rfl
theorem cz84 : Tryd.prog.cellsOf 84 = 2 := by kernel_rfl
theorem cz22 : Tryd.prog.cellsOf 22 = 1 := by kernel_rfl
theorem cz24 : Tryd.prog.cellsOf 24 = 7 := by kernel_rfl
theorem cz59 : Tryd.prog.cellsOf 59 = 1 := by kernel_rfl
theorem cz232 : Tryd.prog.cellsOf 232 = 7 := by kernel_rfl
theorem cz236 : Tryd.prog.cellsOf 236 = 8 := by kernel_rfl
theorem cz54 : Tryd.prog.cellsOf 54 = 1 := by kernel_rfl
theorem cz239 : Tryd.prog.cellsOf 239 = 1 := by kernel_rfl
theorem cz242 : Tryd.prog.cellsOf 242 = 1 := by kernel_rfl
theorem cz241 : Tryd.prog.cellsOf 241 = 8 := by kernel_rfl
theorem cz56 : Tryd.prog.cellsOf 56 = 1 := by kernel_rfl
theorem cz244 : Tryd.prog.cellsOf 244 = 5 := by kernel_rfl
theorem cz57 : Tryd.prog.cellsOf 57 = 1 := by kernel_rfl
theorem cz248 : Tryd.prog.cellsOf 248 = 2 := by kernel_rfl
theorem cz60 : Tryd.prog.cellsOf 60 = 1 := by kernel_rfl
theorem cz210 : Tryd.prog.cellsOf 210 = 2 := by kernel_rfl
theorem cz246 : Tryd.prog.cellsOf 246 = 5 := by kernel_rfl
theorem cz58 : Tryd.prog.cellsOf 58 = 1 := by kernel_rfl
theorem cz250 : Tryd.prog.cellsOf 250 = 4 := by kernel_rfl
theorem cz111 : Tryd.prog.cellsOf 111 = 1 := by kernel_rfl
theorem cz113 : Tryd.prog.cellsOf 113 = 4 := by kernel_rfl
theorem cz115 : Tryd.prog.cellsOf 115 = 9 := by kernel_rfl
theorem cz46 : Tryd.prog.cellsOf 46 = 1 := by kernel_rfl
theorem cz62 : Tryd.prog.cellsOf 62 = 6 := by kernel_rfl
theorem cz39 : Tryd.prog.cellsOf 39 = 1 := by kernel_rfl
theorem cz28 : Tryd.prog.cellsOf 28 = 1 := by kernel_rfl
theorem cz29 : Tryd.prog.cellsOf 29 = 1 := by kernel_rfl
theorem cz32 : Tryd.prog.cellsOf 32 = 1 := by kernel_rfl
theorem cz35 : Tryd.prog.cellsOf 35 = 1 := by kernel_rfl
theorem cz36 : Tryd.prog.cellsOf 36 = 1 := by kernel_rfl
theorem cz37 : Tryd.prog.cellsOf 37 = 1 := by kernel_rfl
theorem cz38 : Tryd.prog.cellsOf 38 = 1 := by kernel_rfl
theorem cz42 : Tryd.prog.cellsOf 42 = 1 := by kernel_rfl
theorem cz43 : Tryd.prog.cellsOf 43 = 1 := by kernel_rfl
theorem cz44 : Tryd.prog.cellsOf 44 = 1 := by kernel_rfl
theorem cz45 : Tryd.prog.cellsOf 45 = 1 := by kernel_rfl
theorem cz47 : Tryd.prog.cellsOf 47 = 1 := by kernel_rfl
theorem cz50 : Tryd.prog.cellsOf 50 = 1 := by kernel_rfl
theorem cz53 : Tryd.prog.cellsOf 53 = 1 := by kernel_rfl
theorem cz55 : Tryd.prog.cellsOf 55 = 1 := by kernel_rfl
theorem cz31 : Tryd.prog.cellsOf 31 = 2 := by kernel_rfl
theorem cz34 : Tryd.prog.cellsOf 34 = 3 := by kernel_rfl
theorem cz41 : Tryd.prog.cellsOf 41 = 4 := by kernel_rfl
theorem cz49 : Tryd.prog.cellsOf 49 = 3 := by kernel_rfl
theorem cz52 : Tryd.prog.cellsOf 52 = 25 := by kernel_rfl
theorem cz107 : Tryd.prog.cellsOf 107 = 2 := by kernel_rfl
theorem cz103 : Tryd.prog.cellsOf 103 = 1 := by kernel_rfl
theorem cz105 : Tryd.prog.cellsOf 105 = 3 := by kernel_rfl
theorem cz63 : Tryd.prog.cellsOf 63 = 1 := by kernel_rfl
theorem cz65 : Tryd.prog.cellsOf 65 = 1 := by kernel_rfl
theorem cz67 : Tryd.prog.cellsOf 67 = 2 := by kernel_rfl
theorem cz100 : Tryd.prog.cellsOf 100 = 3 := by kernel_rfl
theorem cz102 : Tryd.prog.cellsOf 102 = 12 := by kernel_rfl
theorem cz68 : Tryd.prog.cellsOf 68 = 1 := by kernel_rfl
theorem cz70 : Tryd.prog.cellsOf 70 = 39 := by kernel_rfl
theorem opens_3 : OpensZ Tryd.prog 3 (rI .i64) (fun n => (Lit.int .i64 n).wf = true) := z_of (opens_int Tryd.underlying3)
theorem opens_4 : OpensZ Tryd.prog 4 rB (fun _ => True) := z_of (opens_bool Tryd.underlying4)
theorem opens_9 : OpensZ Tryd.prog 9 rS (fun s => s.size ≤ 140737488351232) := opensZ_str Tryd.underlying9
def okLn (x : Ln) : Prop := x.text.size ≤ 140737488351232 ∧ (Lit.int .i64 x.cents).wf = true
theorem opens_84 : OpensZ Tryd.prog 84 eLn okLn := by
  intro H enc w base spare held fuel cs x h hz9
  obtain ⟨ys, n, _, rfl, hl, hy, hf⟩ := DataW.trod_struct Tryd.underlying84 h
  rw [cz84] at hl
  have hy : ys.length = 2 := hy
  obtain ⟨y0, e0, g0⟩ := field_ofZ (hf 0 _ rfl) (by omega)
  obtain ⟨a0, r0, k0⟩ := opens_9 _ _ _ _ _ _ _ _ _ e0 (fun q hq => hz9 q (z_field Tryd.underlying84 rfl g0 hq))
  have r0 : Rc w (UA w) ((cs.drop 0).take (Tryd.prog.cellsOf 9)) _ := r0
  rw [cz9] at r0
  obtain ⟨y1, e1, g1⟩ := field_ofZ (hf 1 _ rfl) (by omega)
  obtain ⟨a1, r1, k1⟩ := opens_3 _ _ _ _ _ _ _ _ _ e1 (fun q hq => hz9 q (z_field Tryd.underlying84 rfl g1 hq))
  have r1 : Rc w (UA w) ((cs.drop 1).take (Tryd.prog.cellsOf 3)) _ := r1
  rw [cz3] at r1
  refine ⟨⟨a0, a1⟩, ?_, ⟨k0, k1⟩⟩
  exact rc_step r0 (rc_step r1 (rc_end hl))
theorem opens_22 : OpensZ Tryd.prog 22 (rL 2 eLn) (fun l => l.length ≤ 9223372036854775807 ∧ ∀ a ∈ l, okLn a) := opensZ_len (opensZ_slice Tryd.underlying22 cz84 (by omega) opens_84 (fun _ => rfl))
def okCg (x : Cg) : Prop := x.key.size ≤ 140737488351232 ∧ x.veh.size ≤ 140737488351232 ∧ x.sys.size ≤ 140737488351232 ∧ (Lit.int .i64 x.cls).wf = true ∧ (Lit.int .i64 x.time).wf = true ∧ (x.lines.length ≤ 9223372036854775807 ∧ ∀ a ∈ x.lines, okLn a) ∧ (Lit.int .i64 x.cents).wf = true
theorem opens_24 : OpensZ Tryd.prog 24 eCg okCg := by
  intro H enc w base spare held fuel cs x h hz9
  obtain ⟨ys, n, _, rfl, hl, hy, hf⟩ := DataW.trod_struct Tryd.underlying24 h
  rw [cz24] at hl
  have hy : ys.length = 7 := hy
  obtain ⟨y0, e0, g0⟩ := field_ofZ (hf 0 _ rfl) (by omega)
  obtain ⟨a0, r0, k0⟩ := opens_9 _ _ _ _ _ _ _ _ _ e0 (fun q hq => hz9 q (z_field Tryd.underlying24 rfl g0 hq))
  have r0 : Rc w (UA w) ((cs.drop 0).take (Tryd.prog.cellsOf 9)) _ := r0
  rw [cz9] at r0
  obtain ⟨y1, e1, g1⟩ := field_ofZ (hf 1 _ rfl) (by omega)
  obtain ⟨a1, r1, k1⟩ := opens_9 _ _ _ _ _ _ _ _ _ e1 (fun q hq => hz9 q (z_field Tryd.underlying24 rfl g1 hq))
  have r1 : Rc w (UA w) ((cs.drop 1).take (Tryd.prog.cellsOf 9)) _ := r1
  rw [cz9] at r1
  obtain ⟨y2, e2, g2⟩ := field_ofZ (hf 2 _ rfl) (by omega)
  obtain ⟨a2, r2, k2⟩ := opens_9 _ _ _ _ _ _ _ _ _ e2 (fun q hq => hz9 q (z_field Tryd.underlying24 rfl g2 hq))
  have r2 : Rc w (UA w) ((cs.drop 2).take (Tryd.prog.cellsOf 9)) _ := r2
  rw [cz9] at r2
  obtain ⟨y3, e3, g3⟩ := field_ofZ (hf 3 _ rfl) (by omega)
  obtain ⟨a3, r3, k3⟩ := opens_3 _ _ _ _ _ _ _ _ _ e3 (fun q hq => hz9 q (z_field Tryd.underlying24 rfl g3 hq))
  have r3 : Rc w (UA w) ((cs.drop 3).take (Tryd.prog.cellsOf 3)) _ := r3
  rw [cz3] at r3
  obtain ⟨y4, e4, g4⟩ := field_ofZ (hf 4 _ rfl) (by omega)
  obtain ⟨a4, r4, k4⟩ := opens_3 _ _ _ _ _ _ _ _ _ e4 (fun q hq => hz9 q (z_field Tryd.underlying24 rfl g4 hq))
  have r4 : Rc w (UA w) ((cs.drop 4).take (Tryd.prog.cellsOf 3)) _ := r4
  rw [cz3] at r4
  obtain ⟨y5, e5, g5⟩ := field_ofZ (hf 5 _ rfl) (by omega)
  obtain ⟨a5, r5, k5⟩ := opens_22 _ _ _ _ _ _ _ _ _ e5 (fun q hq => hz9 q (z_field Tryd.underlying24 rfl g5 hq))
  have r5 : Rc w (UA w) ((cs.drop 5).take (Tryd.prog.cellsOf 22)) _ := r5
  rw [cz22] at r5
  obtain ⟨y6, e6, g6⟩ := field_ofZ (hf 6 _ rfl) (by omega)
  obtain ⟨a6, r6, k6⟩ := opens_3 _ _ _ _ _ _ _ _ _ e6 (fun q hq => hz9 q (z_field Tryd.underlying24 rfl g6 hq))
  have r6 : Rc w (UA w) ((cs.drop 6).take (Tryd.prog.cellsOf 3)) _ := r6
  rw [cz3] at r6
  refine ⟨⟨a0, a1, a2, a3, a4, a5, a6⟩, ?_, ⟨k0, k1, k2, k3, k4, k5, k6⟩⟩
  exact rc_step r0 (rc_step r1 (rc_step r2 (rc_step r3 (rc_step r4 (rc_step r5 (rc_step r6 (rc_end hl)))))))
theorem opens_59 : OpensZ Tryd.prog 59 (rL 7 eCg) (fun l => l.length ≤ 9223372036854775807 ∧ ∀ a ∈ l, okCg a) := opensZ_len (opensZ_slice Tryd.underlying59 cz24 (by omega) opens_24 (fun _ => rfl))
def okDe (x : De) : Prop := x.dev.size ≤ 140737488351232 ∧ (Lit.int .i64 x.seq).wf = true ∧ (Lit.int .i64 x.time).wf = true ∧ x.tag.size ≤ 140737488351232 ∧ x.plate.size ≤ 140737488351232 ∧ (Lit.int .i64 x.axles).wf = true ∧ (Lit.int .i64 x.score).wf = true
theorem opens_232 : OpensZ Tryd.prog 232 eDe okDe := by
  intro H enc w base spare held fuel cs x h hz9
  obtain ⟨ys, n, _, rfl, hl, hy, hf⟩ := DataW.trod_struct Tryd.underlying232 h
  rw [cz232] at hl
  have hy : ys.length = 7 := hy
  obtain ⟨y0, e0, g0⟩ := field_ofZ (hf 0 _ rfl) (by omega)
  obtain ⟨a0, r0, k0⟩ := opens_9 _ _ _ _ _ _ _ _ _ e0 (fun q hq => hz9 q (z_field Tryd.underlying232 rfl g0 hq))
  have r0 : Rc w (UA w) ((cs.drop 0).take (Tryd.prog.cellsOf 9)) _ := r0
  rw [cz9] at r0
  obtain ⟨y1, e1, g1⟩ := field_ofZ (hf 1 _ rfl) (by omega)
  obtain ⟨a1, r1, k1⟩ := opens_3 _ _ _ _ _ _ _ _ _ e1 (fun q hq => hz9 q (z_field Tryd.underlying232 rfl g1 hq))
  have r1 : Rc w (UA w) ((cs.drop 1).take (Tryd.prog.cellsOf 3)) _ := r1
  rw [cz3] at r1
  obtain ⟨y2, e2, g2⟩ := field_ofZ (hf 2 _ rfl) (by omega)
  obtain ⟨a2, r2, k2⟩ := opens_3 _ _ _ _ _ _ _ _ _ e2 (fun q hq => hz9 q (z_field Tryd.underlying232 rfl g2 hq))
  have r2 : Rc w (UA w) ((cs.drop 2).take (Tryd.prog.cellsOf 3)) _ := r2
  rw [cz3] at r2
  obtain ⟨y3, e3, g3⟩ := field_ofZ (hf 3 _ rfl) (by omega)
  obtain ⟨a3, r3, k3⟩ := opens_9 _ _ _ _ _ _ _ _ _ e3 (fun q hq => hz9 q (z_field Tryd.underlying232 rfl g3 hq))
  have r3 : Rc w (UA w) ((cs.drop 3).take (Tryd.prog.cellsOf 9)) _ := r3
  rw [cz9] at r3
  obtain ⟨y4, e4, g4⟩ := field_ofZ (hf 4 _ rfl) (by omega)
  obtain ⟨a4, r4, k4⟩ := opens_9 _ _ _ _ _ _ _ _ _ e4 (fun q hq => hz9 q (z_field Tryd.underlying232 rfl g4 hq))
  have r4 : Rc w (UA w) ((cs.drop 4).take (Tryd.prog.cellsOf 9)) _ := r4
  rw [cz9] at r4
  obtain ⟨y5, e5, g5⟩ := field_ofZ (hf 5 _ rfl) (by omega)
  obtain ⟨a5, r5, k5⟩ := opens_3 _ _ _ _ _ _ _ _ _ e5 (fun q hq => hz9 q (z_field Tryd.underlying232 rfl g5 hq))
  have r5 : Rc w (UA w) ((cs.drop 5).take (Tryd.prog.cellsOf 3)) _ := r5
  rw [cz3] at r5
  obtain ⟨y6, e6, g6⟩ := field_ofZ (hf 6 _ rfl) (by omega)
  obtain ⟨a6, r6, k6⟩ := opens_3 _ _ _ _ _ _ _ _ _ e6 (fun q hq => hz9 q (z_field Tryd.underlying232 rfl g6 hq))
  have r6 : Rc w (UA w) ((cs.drop 6).take (Tryd.prog.cellsOf 3)) _ := r6
  rw [cz3] at r6
  refine ⟨⟨a0, a1, a2, a3, a4, a5, a6⟩, ?_, ⟨k0, k1, k2, k3, k4, k5, k6⟩⟩
  exact rc_step r0 (rc_step r1 (rc_step r2 (rc_step r3 (rc_step r4 (rc_step r5 (rc_step r6 (rc_end hl)))))))
def okRj (x : Rj) : Prop := okDe x.d ∧ (Lit.int .i64 x.why).wf = true
theorem opens_236 : OpensZ Tryd.prog 236 eRj okRj := by
  intro H enc w base spare held fuel cs x h hz9
  obtain ⟨ys, n, _, rfl, hl, hy, hf⟩ := DataW.trod_struct Tryd.underlying236 h
  rw [cz236] at hl
  have hy : ys.length = 2 := hy
  obtain ⟨y0, e0, g0⟩ := field_ofZ (hf 0 _ rfl) (by omega)
  obtain ⟨a0, r0, k0⟩ := opens_232 _ _ _ _ _ _ _ _ _ e0 (fun q hq => hz9 q (z_field Tryd.underlying236 rfl g0 hq))
  have r0 : Rc w (UA w) ((cs.drop 0).take (Tryd.prog.cellsOf 232)) _ := r0
  rw [cz232] at r0
  obtain ⟨y1, e1, g1⟩ := field_ofZ (hf 1 _ rfl) (by omega)
  obtain ⟨a1, r1, k1⟩ := opens_3 _ _ _ _ _ _ _ _ _ e1 (fun q hq => hz9 q (z_field Tryd.underlying236 rfl g1 hq))
  have r1 : Rc w (UA w) ((cs.drop 7).take (Tryd.prog.cellsOf 3)) _ := r1
  rw [cz3] at r1
  refine ⟨⟨a0, a1⟩, ?_, ⟨k0, k1⟩⟩
  exact rc_step r0 (rc_step r1 (rc_end hl))
theorem opens_54 : OpensZ Tryd.prog 54 (rL 8 eRj) (fun l => l.length ≤ 9223372036854775807 ∧ ∀ a ∈ l, okRj a) := opensZ_len (opensZ_slice Tryd.underlying54 cz236 (by omega) opens_236 (fun _ => rfl))
theorem opens_239 : OpensZ Tryd.prog 239 rV (fun _ => True) := z_of (opens_vslice Tryd.underlying239)
theorem opens_242 : OpensZ Tryd.prog 242 rV (fun _ => True) := z_of (opens_vslice Tryd.underlying242)
def okPg (x : Pg) : Prop := x.id.size ≤ 140737488351232 ∧ x.point.size ≤ 140737488351232 ∧ (Lit.int .i64 x.time).wf = true ∧ x.tag.size ≤ 140737488351232 ∧ x.plate.size ≤ 140737488351232 ∧ (Lit.int .i64 x.cls).wf = true ∧ (Lit.int .i64 x.score).wf = true ∧ True
theorem opens_241 : OpensZ Tryd.prog 241 ePg okPg := by
  intro H enc w base spare held fuel cs x h hz9
  obtain ⟨ys, n, _, rfl, hl, hy, hf⟩ := DataW.trod_struct Tryd.underlying241 h
  rw [cz241] at hl
  have hy : ys.length = 8 := hy
  obtain ⟨y0, e0, g0⟩ := field_ofZ (hf 0 _ rfl) (by omega)
  obtain ⟨a0, r0, k0⟩ := opens_9 _ _ _ _ _ _ _ _ _ e0 (fun q hq => hz9 q (z_field Tryd.underlying241 rfl g0 hq))
  have r0 : Rc w (UA w) ((cs.drop 0).take (Tryd.prog.cellsOf 9)) _ := r0
  rw [cz9] at r0
  obtain ⟨y1, e1, g1⟩ := field_ofZ (hf 1 _ rfl) (by omega)
  obtain ⟨a1, r1, k1⟩ := opens_9 _ _ _ _ _ _ _ _ _ e1 (fun q hq => hz9 q (z_field Tryd.underlying241 rfl g1 hq))
  have r1 : Rc w (UA w) ((cs.drop 1).take (Tryd.prog.cellsOf 9)) _ := r1
  rw [cz9] at r1
  obtain ⟨y2, e2, g2⟩ := field_ofZ (hf 2 _ rfl) (by omega)
  obtain ⟨a2, r2, k2⟩ := opens_3 _ _ _ _ _ _ _ _ _ e2 (fun q hq => hz9 q (z_field Tryd.underlying241 rfl g2 hq))
  have r2 : Rc w (UA w) ((cs.drop 2).take (Tryd.prog.cellsOf 3)) _ := r2
  rw [cz3] at r2
  obtain ⟨y3, e3, g3⟩ := field_ofZ (hf 3 _ rfl) (by omega)
  obtain ⟨a3, r3, k3⟩ := opens_9 _ _ _ _ _ _ _ _ _ e3 (fun q hq => hz9 q (z_field Tryd.underlying241 rfl g3 hq))
  have r3 : Rc w (UA w) ((cs.drop 3).take (Tryd.prog.cellsOf 9)) _ := r3
  rw [cz9] at r3
  obtain ⟨y4, e4, g4⟩ := field_ofZ (hf 4 _ rfl) (by omega)
  obtain ⟨a4, r4, k4⟩ := opens_9 _ _ _ _ _ _ _ _ _ e4 (fun q hq => hz9 q (z_field Tryd.underlying241 rfl g4 hq))
  have r4 : Rc w (UA w) ((cs.drop 4).take (Tryd.prog.cellsOf 9)) _ := r4
  rw [cz9] at r4
  obtain ⟨y5, e5, g5⟩ := field_ofZ (hf 5 _ rfl) (by omega)
  obtain ⟨a5, r5, k5⟩ := opens_3 _ _ _ _ _ _ _ _ _ e5 (fun q hq => hz9 q (z_field Tryd.underlying241 rfl g5 hq))
  have r5 : Rc w (UA w) ((cs.drop 5).take (Tryd.prog.cellsOf 3)) _ := r5
  rw [cz3] at r5
  obtain ⟨y6, e6, g6⟩ := field_ofZ (hf 6 _ rfl) (by omega)
  obtain ⟨a6, r6, k6⟩ := opens_3 _ _ _ _ _ _ _ _ _ e6 (fun q hq => hz9 q (z_field Tryd.underlying241 rfl g6 hq))
  have r6 : Rc w (UA w) ((cs.drop 6).take (Tryd.prog.cellsOf 3)) _ := r6
  rw [cz3] at r6
  obtain ⟨y7, e7, g7⟩ := field_ofZ (hf 7 _ rfl) (by omega)
  obtain ⟨a7, r7, k7⟩ := opens_239 _ _ _ _ _ _ _ _ _ e7 (fun q hq => hz9 q (z_field Tryd.underlying241 rfl g7 hq))
  have r7 : Rc w (UA w) ((cs.drop 7).take (Tryd.prog.cellsOf 239)) _ := r7
  rw [cz239] at r7
  refine ⟨⟨a0, a1, a2, a3, a4, a5, a6, a7⟩, ?_, ⟨k0, k1, k2, k3, k4, k5, k6, k7⟩⟩
  exact rc_step r0 (rc_step r1 (rc_step r2 (rc_step r3 (rc_step r4 (rc_step r5 (rc_step r6 (rc_step r7 (rc_end hl))))))))
theorem opens_56 : OpensZ Tryd.prog 56 (rL 8 ePg) (fun l => l.length ≤ 9223372036854775807 ∧ ∀ a ∈ l, okPg a) := opensZ_len (opensZ_slice Tryd.underlying56 cz241 (by omega) opens_241 (fun _ => rfl))
def okTp (x : Tp) : Prop := x.id.size ≤ 140737488351232 ∧ x.veh.size ≤ 140737488351232 ∧ x.sys.size ≤ 140737488351232 ∧ (Lit.int .i64 x.cls).wf = true ∧ True
theorem opens_244 : OpensZ Tryd.prog 244 eTp okTp := by
  intro H enc w base spare held fuel cs x h hz9
  obtain ⟨ys, n, _, rfl, hl, hy, hf⟩ := DataW.trod_struct Tryd.underlying244 h
  rw [cz244] at hl
  have hy : ys.length = 5 := hy
  obtain ⟨y0, e0, g0⟩ := field_ofZ (hf 0 _ rfl) (by omega)
  obtain ⟨a0, r0, k0⟩ := opens_9 _ _ _ _ _ _ _ _ _ e0 (fun q hq => hz9 q (z_field Tryd.underlying244 rfl g0 hq))
  have r0 : Rc w (UA w) ((cs.drop 0).take (Tryd.prog.cellsOf 9)) _ := r0
  rw [cz9] at r0
  obtain ⟨y1, e1, g1⟩ := field_ofZ (hf 1 _ rfl) (by omega)
  obtain ⟨a1, r1, k1⟩ := opens_9 _ _ _ _ _ _ _ _ _ e1 (fun q hq => hz9 q (z_field Tryd.underlying244 rfl g1 hq))
  have r1 : Rc w (UA w) ((cs.drop 1).take (Tryd.prog.cellsOf 9)) _ := r1
  rw [cz9] at r1
  obtain ⟨y2, e2, g2⟩ := field_ofZ (hf 2 _ rfl) (by omega)
  obtain ⟨a2, r2, k2⟩ := opens_9 _ _ _ _ _ _ _ _ _ e2 (fun q hq => hz9 q (z_field Tryd.underlying244 rfl g2 hq))
  have r2 : Rc w (UA w) ((cs.drop 2).take (Tryd.prog.cellsOf 9)) _ := r2
  rw [cz9] at r2
  obtain ⟨y3, e3, g3⟩ := field_ofZ (hf 3 _ rfl) (by omega)
  obtain ⟨a3, r3, k3⟩ := opens_3 _ _ _ _ _ _ _ _ _ e3 (fun q hq => hz9 q (z_field Tryd.underlying244 rfl g3 hq))
  have r3 : Rc w (UA w) ((cs.drop 3).take (Tryd.prog.cellsOf 3)) _ := r3
  rw [cz3] at r3
  obtain ⟨y4, e4, g4⟩ := field_ofZ (hf 4 _ rfl) (by omega)
  obtain ⟨a4, r4, k4⟩ := opens_242 _ _ _ _ _ _ _ _ _ e4 (fun q hq => hz9 q (z_field Tryd.underlying244 rfl g4 hq))
  have r4 : Rc w (UA w) ((cs.drop 4).take (Tryd.prog.cellsOf 242)) _ := r4
  rw [cz242] at r4
  refine ⟨⟨a0, a1, a2, a3, a4⟩, ?_, ⟨k0, k1, k2, k3, k4⟩⟩
  exact rc_step r0 (rc_step r1 (rc_step r2 (rc_step r3 (rc_step r4 (rc_end hl)))))
theorem opens_57 : OpensZ Tryd.prog 57 (rL 5 eTp) (fun l => l.length ≤ 9223372036854775807 ∧ ∀ a ∈ l, okTp a) := opensZ_len (opensZ_slice Tryd.underlying57 cz244 (by omega) opens_244 (fun _ => rfl))
def okEc (x : Ec) : Prop := x.id.size ≤ 140737488351232 ∧ (Lit.int .i64 x.why).wf = true
theorem opens_248 : OpensZ Tryd.prog 248 eEc okEc := by
  intro H enc w base spare held fuel cs x h hz9
  obtain ⟨ys, n, _, rfl, hl, hy, hf⟩ := DataW.trod_struct Tryd.underlying248 h
  rw [cz248] at hl
  have hy : ys.length = 2 := hy
  obtain ⟨y0, e0, g0⟩ := field_ofZ (hf 0 _ rfl) (by omega)
  obtain ⟨a0, r0, k0⟩ := opens_9 _ _ _ _ _ _ _ _ _ e0 (fun q hq => hz9 q (z_field Tryd.underlying248 rfl g0 hq))
  have r0 : Rc w (UA w) ((cs.drop 0).take (Tryd.prog.cellsOf 9)) _ := r0
  rw [cz9] at r0
  obtain ⟨y1, e1, g1⟩ := field_ofZ (hf 1 _ rfl) (by omega)
  obtain ⟨a1, r1, k1⟩ := opens_3 _ _ _ _ _ _ _ _ _ e1 (fun q hq => hz9 q (z_field Tryd.underlying248 rfl g1 hq))
  have r1 : Rc w (UA w) ((cs.drop 1).take (Tryd.prog.cellsOf 3)) _ := r1
  rw [cz3] at r1
  refine ⟨⟨a0, a1⟩, ?_, ⟨k0, k1⟩⟩
  exact rc_step r0 (rc_step r1 (rc_end hl))
theorem opens_60 : OpensZ Tryd.prog 60 (rL 2 eEc) (fun l => l.length ≤ 9223372036854775807 ∧ ∀ a ∈ l, okEc a) := opensZ_len (opensZ_slice Tryd.underlying60 cz248 (by omega) opens_248 (fun _ => rfl))
def okIv (x : Iv) : Prop := (Lit.int .i64 x.fr).wf = true ∧ (Lit.int .i64 x.to).wf = true
theorem opens_210 : OpensZ Tryd.prog 210 eIv okIv := by
  intro H enc w base spare held fuel cs x h hz9
  obtain ⟨ys, n, _, rfl, hl, hy, hf⟩ := DataW.trod_struct Tryd.underlying210 h
  rw [cz210] at hl
  have hy : ys.length = 2 := hy
  obtain ⟨y0, e0, g0⟩ := field_ofZ (hf 0 _ rfl) (by omega)
  obtain ⟨a0, r0, k0⟩ := opens_3 _ _ _ _ _ _ _ _ _ e0 (fun q hq => hz9 q (z_field Tryd.underlying210 rfl g0 hq))
  have r0 : Rc w (UA w) ((cs.drop 0).take (Tryd.prog.cellsOf 3)) _ := r0
  rw [cz3] at r0
  obtain ⟨y1, e1, g1⟩ := field_ofZ (hf 1 _ rfl) (by omega)
  obtain ⟨a1, r1, k1⟩ := opens_3 _ _ _ _ _ _ _ _ _ e1 (fun q hq => hz9 q (z_field Tryd.underlying210 rfl g1 hq))
  have r1 : Rc w (UA w) ((cs.drop 1).take (Tryd.prog.cellsOf 3)) _ := r1
  rw [cz3] at r1
  refine ⟨⟨a0, a1⟩, ?_, ⟨k0, k1⟩⟩
  exact rc_step r0 (rc_step r1 (rc_end hl))
def okSy (x : Sy) : Prop := x.id.size ≤ 140737488351232 ∧ x.zone.size ≤ 140737488351232 ∧ x.plate.size ≤ 140737488351232 ∧ okIv x.time
theorem opens_246 : OpensZ Tryd.prog 246 eSy okSy := by
  intro H enc w base spare held fuel cs x h hz9
  obtain ⟨ys, n, _, rfl, hl, hy, hf⟩ := DataW.trod_struct Tryd.underlying246 h
  rw [cz246] at hl
  have hy : ys.length = 4 := hy
  obtain ⟨y0, e0, g0⟩ := field_ofZ (hf 0 _ rfl) (by omega)
  obtain ⟨a0, r0, k0⟩ := opens_9 _ _ _ _ _ _ _ _ _ e0 (fun q hq => hz9 q (z_field Tryd.underlying246 rfl g0 hq))
  have r0 : Rc w (UA w) ((cs.drop 0).take (Tryd.prog.cellsOf 9)) _ := r0
  rw [cz9] at r0
  obtain ⟨y1, e1, g1⟩ := field_ofZ (hf 1 _ rfl) (by omega)
  obtain ⟨a1, r1, k1⟩ := opens_9 _ _ _ _ _ _ _ _ _ e1 (fun q hq => hz9 q (z_field Tryd.underlying246 rfl g1 hq))
  have r1 : Rc w (UA w) ((cs.drop 1).take (Tryd.prog.cellsOf 9)) _ := r1
  rw [cz9] at r1
  obtain ⟨y2, e2, g2⟩ := field_ofZ (hf 2 _ rfl) (by omega)
  obtain ⟨a2, r2, k2⟩ := opens_9 _ _ _ _ _ _ _ _ _ e2 (fun q hq => hz9 q (z_field Tryd.underlying246 rfl g2 hq))
  have r2 : Rc w (UA w) ((cs.drop 2).take (Tryd.prog.cellsOf 9)) _ := r2
  rw [cz9] at r2
  obtain ⟨y3, e3, g3⟩ := field_ofZ (hf 3 _ rfl) (by omega)
  obtain ⟨a3, r3, k3⟩ := opens_210 _ _ _ _ _ _ _ _ _ e3 (fun q hq => hz9 q (z_field Tryd.underlying246 rfl g3 hq))
  have r3 : Rc w (UA w) ((cs.drop 3).take (Tryd.prog.cellsOf 210)) _ := r3
  rw [cz210] at r3
  refine ⟨⟨a0, a1, a2, a3⟩, ?_, ⟨k0, k1, k2, k3⟩⟩
  exact rc_step r0 (rc_step r1 (rc_step r2 (rc_step r3 (rc_end hl))))
theorem opens_58 : OpensZ Tryd.prog 58 (rL 5 eSy) (fun l => l.length ≤ 9223372036854775807 ∧ ∀ a ∈ l, okSy a) := opensZ_len (opensZ_slice Tryd.underlying58 cz246 (by omega) opens_246 (fun _ => rfl))
def okOw (x : Ow) : Prop := x.tag.size ≤ 140737488351232 ∧ x.plate.size ≤ 140737488351232 ∧ okIv x.time
theorem opens_250 : OpensZ Tryd.prog 250 eOw okOw := by
  intro H enc w base spare held fuel cs x h hz9
  obtain ⟨ys, n, _, rfl, hl, hy, hf⟩ := DataW.trod_struct Tryd.underlying250 h
  rw [cz250] at hl
  have hy : ys.length = 3 := hy
  obtain ⟨y0, e0, g0⟩ := field_ofZ (hf 0 _ rfl) (by omega)
  obtain ⟨a0, r0, k0⟩ := opens_9 _ _ _ _ _ _ _ _ _ e0 (fun q hq => hz9 q (z_field Tryd.underlying250 rfl g0 hq))
  have r0 : Rc w (UA w) ((cs.drop 0).take (Tryd.prog.cellsOf 9)) _ := r0
  rw [cz9] at r0
  obtain ⟨y1, e1, g1⟩ := field_ofZ (hf 1 _ rfl) (by omega)
  obtain ⟨a1, r1, k1⟩ := opens_9 _ _ _ _ _ _ _ _ _ e1 (fun q hq => hz9 q (z_field Tryd.underlying250 rfl g1 hq))
  have r1 : Rc w (UA w) ((cs.drop 1).take (Tryd.prog.cellsOf 9)) _ := r1
  rw [cz9] at r1
  obtain ⟨y2, e2, g2⟩ := field_ofZ (hf 2 _ rfl) (by omega)
  obtain ⟨a2, r2, k2⟩ := opens_210 _ _ _ _ _ _ _ _ _ e2 (fun q hq => hz9 q (z_field Tryd.underlying250 rfl g2 hq))
  have r2 : Rc w (UA w) ((cs.drop 2).take (Tryd.prog.cellsOf 210)) _ := r2
  rw [cz210] at r2
  refine ⟨⟨a0, a1, a2⟩, ?_, ⟨k0, k1, k2⟩⟩
  exact rc_step r0 (rc_step r1 (rc_step r2 (rc_end hl)))
theorem opens_111 : OpensZ Tryd.prog 111 (rL 4 eOw) (fun l => l.length ≤ 9223372036854775807 ∧ ∀ a ∈ l, okOw a) := opensZ_len (opensZ_slice Tryd.underlying111 cz250 (by omega) opens_250 (fun _ => rfl))
def okRf (x : Rf) : Prop := (Lit.int .i64 x.a).wf = true ∧ (Lit.int .i64 x.b).wf = true ∧ (Lit.int .i64 x.c).wf = true ∧ (Lit.int .i64 x.d).wf = true
theorem opens_113 : OpensZ Tryd.prog 113 eRf okRf := by
  intro H enc w base spare held fuel cs x h hz9
  obtain ⟨ys, n, _, rfl, hl, hy, hf⟩ := DataW.trod_struct Tryd.underlying113 h
  rw [cz113] at hl
  have hy : ys.length = 4 := hy
  obtain ⟨y0, e0, g0⟩ := field_ofZ (hf 0 _ rfl) (by omega)
  obtain ⟨a0, r0, k0⟩ := opens_3 _ _ _ _ _ _ _ _ _ e0 (fun q hq => hz9 q (z_field Tryd.underlying113 rfl g0 hq))
  have r0 : Rc w (UA w) ((cs.drop 0).take (Tryd.prog.cellsOf 3)) _ := r0
  rw [cz3] at r0
  obtain ⟨y1, e1, g1⟩ := field_ofZ (hf 1 _ rfl) (by omega)
  obtain ⟨a1, r1, k1⟩ := opens_3 _ _ _ _ _ _ _ _ _ e1 (fun q hq => hz9 q (z_field Tryd.underlying113 rfl g1 hq))
  have r1 : Rc w (UA w) ((cs.drop 1).take (Tryd.prog.cellsOf 3)) _ := r1
  rw [cz3] at r1
  obtain ⟨y2, e2, g2⟩ := field_ofZ (hf 2 _ rfl) (by omega)
  obtain ⟨a2, r2, k2⟩ := opens_3 _ _ _ _ _ _ _ _ _ e2 (fun q hq => hz9 q (z_field Tryd.underlying113 rfl g2 hq))
  have r2 : Rc w (UA w) ((cs.drop 2).take (Tryd.prog.cellsOf 3)) _ := r2
  rw [cz3] at r2
  obtain ⟨y3, e3, g3⟩ := field_ofZ (hf 3 _ rfl) (by omega)
  obtain ⟨a3, r3, k3⟩ := opens_3 _ _ _ _ _ _ _ _ _ e3 (fun q hq => hz9 q (z_field Tryd.underlying113 rfl g3 hq))
  have r3 : Rc w (UA w) ((cs.drop 3).take (Tryd.prog.cellsOf 3)) _ := r3
  rw [cz3] at r3
  refine ⟨⟨a0, a1, a2, a3⟩, ?_, ⟨k0, k1, k2, k3⟩⟩
  exact rc_step r0 (rc_step r1 (rc_step r2 (rc_step r3 (rc_end hl))))
def okAc (x : Ac) : Prop := x.name.size ≤ 140737488351232 ∧ x.agency.size ≤ 140737488351232 ∧ True ∧ (x.owned.length ≤ 9223372036854775807 ∧ ∀ a ∈ x.owned, okOw a) ∧ okRf x.refill ∧ True
theorem opens_115 : OpensZ Tryd.prog 115 eAc okAc := by
  intro H enc w base spare held fuel cs x h hz9
  obtain ⟨ys, n, _, rfl, hl, hy, hf⟩ := DataW.trod_struct Tryd.underlying115 h
  rw [cz115] at hl
  have hy : ys.length = 6 := hy
  obtain ⟨y0, e0, g0⟩ := field_ofZ (hf 0 _ rfl) (by omega)
  obtain ⟨a0, r0, k0⟩ := opens_9 _ _ _ _ _ _ _ _ _ e0 (fun q hq => hz9 q (z_field Tryd.underlying115 rfl g0 hq))
  have r0 : Rc w (UA w) ((cs.drop 0).take (Tryd.prog.cellsOf 9)) _ := r0
  rw [cz9] at r0
  obtain ⟨y1, e1, g1⟩ := field_ofZ (hf 1 _ rfl) (by omega)
  obtain ⟨a1, r1, k1⟩ := opens_9 _ _ _ _ _ _ _ _ _ e1 (fun q hq => hz9 q (z_field Tryd.underlying115 rfl g1 hq))
  have r1 : Rc w (UA w) ((cs.drop 1).take (Tryd.prog.cellsOf 9)) _ := r1
  rw [cz9] at r1
  obtain ⟨y2, e2, g2⟩ := field_ofZ (hf 2 _ rfl) (by omega)
  obtain ⟨a2, r2, k2⟩ := opens_4 _ _ _ _ _ _ _ _ _ e2 (fun q hq => hz9 q (z_field Tryd.underlying115 rfl g2 hq))
  have r2 : Rc w (UA w) ((cs.drop 2).take (Tryd.prog.cellsOf 4)) _ := r2
  rw [cz4] at r2
  obtain ⟨y3, e3, g3⟩ := field_ofZ (hf 3 _ rfl) (by omega)
  obtain ⟨a3, r3, k3⟩ := opens_111 _ _ _ _ _ _ _ _ _ e3 (fun q hq => hz9 q (z_field Tryd.underlying115 rfl g3 hq))
  have r3 : Rc w (UA w) ((cs.drop 3).take (Tryd.prog.cellsOf 111)) _ := r3
  rw [cz111] at r3
  obtain ⟨y4, e4, g4⟩ := field_ofZ (hf 4 _ rfl) (by omega)
  obtain ⟨a4, r4, k4⟩ := opens_113 _ _ _ _ _ _ _ _ _ e4 (fun q hq => hz9 q (z_field Tryd.underlying115 rfl g4 hq))
  have r4 : Rc w (UA w) ((cs.drop 4).take (Tryd.prog.cellsOf 113)) _ := r4
  rw [cz113] at r4
  obtain ⟨y5, e5, g5⟩ := field_ofZ (hf 5 _ rfl) (by omega)
  obtain ⟨a5, r5, k5⟩ := opens_4 _ _ _ _ _ _ _ _ _ e5 (fun q hq => hz9 q (z_field Tryd.underlying115 rfl g5 hq))
  have r5 : Rc w (UA w) ((cs.drop 8).take (Tryd.prog.cellsOf 4)) _ := r5
  rw [cz4] at r5
  refine ⟨⟨a0, a1, a2, a3, a4, a5⟩, ?_, ⟨k0, k1, k2, k3, k4, k5⟩⟩
  exact rc_step r0 (rc_step r1 (rc_step r2 (rc_step r3 (rc_step r4 (rc_step r5 (rc_end hl))))))
theorem opens_46 : OpensZ Tryd.prog 46 (rL 9 eAc) (fun l => l.length ≤ 9223372036854775807 ∧ ∀ a ∈ l, okAc a) := opensZ_len (opensZ_slice Tryd.underlying46 cz115 (by omega) opens_115 (fun _ => rfl))
def okRs (x : Rs) : Prop := (x.pass.length ≤ 9223372036854775807 ∧ ∀ a ∈ x.pass, okPg a) ∧ (x.rej.length ≤ 9223372036854775807 ∧ ∀ a ∈ x.rej, okRj a) ∧ (x.trips.length ≤ 9223372036854775807 ∧ ∀ a ∈ x.trips, okTp a) ∧ (x.stays.length ≤ 9223372036854775807 ∧ ∀ a ∈ x.stays, okSy a) ∧ (x.chg.length ≤ 9223372036854775807 ∧ ∀ a ∈ x.chg, okCg a) ∧ (x.exc.length ≤ 9223372036854775807 ∧ ∀ a ∈ x.exc, okEc a)
theorem opens_62 : OpensZ Tryd.prog 62 eRs okRs := by
  intro H enc w base spare held fuel cs x h hz9
  obtain ⟨ys, n, _, rfl, hl, hy, hf⟩ := DataW.trod_struct Tryd.underlying62 h
  rw [cz62] at hl
  have hy : ys.length = 6 := hy
  obtain ⟨y0, e0, g0⟩ := field_ofZ (hf 0 _ rfl) (by omega)
  obtain ⟨a0, r0, k0⟩ := opens_56 _ _ _ _ _ _ _ _ _ e0 (fun q hq => hz9 q (z_field Tryd.underlying62 rfl g0 hq))
  have r0 : Rc w (UA w) ((cs.drop 0).take (Tryd.prog.cellsOf 56)) _ := r0
  rw [cz56] at r0
  obtain ⟨y1, e1, g1⟩ := field_ofZ (hf 1 _ rfl) (by omega)
  obtain ⟨a1, r1, k1⟩ := opens_54 _ _ _ _ _ _ _ _ _ e1 (fun q hq => hz9 q (z_field Tryd.underlying62 rfl g1 hq))
  have r1 : Rc w (UA w) ((cs.drop 1).take (Tryd.prog.cellsOf 54)) _ := r1
  rw [cz54] at r1
  obtain ⟨y2, e2, g2⟩ := field_ofZ (hf 2 _ rfl) (by omega)
  obtain ⟨a2, r2, k2⟩ := opens_57 _ _ _ _ _ _ _ _ _ e2 (fun q hq => hz9 q (z_field Tryd.underlying62 rfl g2 hq))
  have r2 : Rc w (UA w) ((cs.drop 2).take (Tryd.prog.cellsOf 57)) _ := r2
  rw [cz57] at r2
  obtain ⟨y3, e3, g3⟩ := field_ofZ (hf 3 _ rfl) (by omega)
  obtain ⟨a3, r3, k3⟩ := opens_58 _ _ _ _ _ _ _ _ _ e3 (fun q hq => hz9 q (z_field Tryd.underlying62 rfl g3 hq))
  have r3 : Rc w (UA w) ((cs.drop 3).take (Tryd.prog.cellsOf 58)) _ := r3
  rw [cz58] at r3
  obtain ⟨y4, e4, g4⟩ := field_ofZ (hf 4 _ rfl) (by omega)
  obtain ⟨a4, r4, k4⟩ := opens_59 _ _ _ _ _ _ _ _ _ e4 (fun q hq => hz9 q (z_field Tryd.underlying62 rfl g4 hq))
  have r4 : Rc w (UA w) ((cs.drop 4).take (Tryd.prog.cellsOf 59)) _ := r4
  rw [cz59] at r4
  obtain ⟨y5, e5, g5⟩ := field_ofZ (hf 5 _ rfl) (by omega)
  obtain ⟨a5, r5, k5⟩ := opens_60 _ _ _ _ _ _ _ _ _ e5 (fun q hq => hz9 q (z_field Tryd.underlying62 rfl g5 hq))
  have r5 : Rc w (UA w) ((cs.drop 5).take (Tryd.prog.cellsOf 60)) _ := r5
  rw [cz60] at r5
  refine ⟨⟨a0, a1, a2, a3, a4, a5⟩, ?_, ⟨k0, k1, k2, k3, k4, k5⟩⟩
  exact rc_step r0 (rc_step r1 (rc_step r2 (rc_step r3 (rc_step r4 (rc_step r5 (rc_end hl))))))
theorem opens_39 : OpensZ Tryd.prog 39 (rL 1 (rI .i64)) (fun l => l.length ≤ 9223372036854775807 ∧ ∀ a ∈ l, (Lit.int .i64 a).wf = true) := opensZ_len (opensZ_slice Tryd.underlying39 cz3 (by omega) opens_3 (fun _ => rfl))
theorem opens_28 : OpensZ Tryd.prog 28 rV (fun _ => True) := z_of (opens_vslice Tryd.underlying28)
theorem opens_29 : OpensZ Tryd.prog 29 rV (fun _ => True) := z_of (opens_vslice Tryd.underlying29)
theorem opens_32 : OpensZ Tryd.prog 32 rV (fun _ => True) := z_of (opens_vslice Tryd.underlying32)
theorem opens_35 : OpensZ Tryd.prog 35 rV (fun _ => True) := z_of (opens_vslice Tryd.underlying35)
theorem opens_36 : OpensZ Tryd.prog 36 rV (fun _ => True) := z_of (opens_vslice Tryd.underlying36)
theorem opens_37 : OpensZ Tryd.prog 37 rV (fun _ => True) := z_of (opens_vslice Tryd.underlying37)
theorem opens_38 : OpensZ Tryd.prog 38 rV (fun _ => True) := z_of (opens_vslice Tryd.underlying38)
theorem opens_42 : OpensZ Tryd.prog 42 rV (fun _ => True) := z_of (opens_vslice Tryd.underlying42)
theorem opens_43 : OpensZ Tryd.prog 43 rV (fun _ => True) := z_of (opens_vslice Tryd.underlying43)
theorem opens_44 : OpensZ Tryd.prog 44 rV (fun _ => True) := z_of (opens_vslice Tryd.underlying44)
theorem opens_45 : OpensZ Tryd.prog 45 rV (fun _ => True) := z_of (opens_vslice Tryd.underlying45)
theorem opens_47 : OpensZ Tryd.prog 47 rV (fun _ => True) := z_of (opens_vslice Tryd.underlying47)
theorem opens_50 : OpensZ Tryd.prog 50 rV (fun _ => True) := z_of (opens_vslice Tryd.underlying50)
theorem opens_53 : OpensZ Tryd.prog 53 rV (fun _ => True) := z_of (opens_vslice Tryd.underlying53)
theorem opens_55 : OpensZ Tryd.prog 55 rV (fun _ => True) := z_of (opens_vslice Tryd.underlying55)
def okNw (x : Nw) : Prop := True ∧ True
theorem opens_31 : OpensZ Tryd.prog 31 eNw okNw := by
  intro H enc w base spare held fuel cs x h hz9
  obtain ⟨ys, n, _, rfl, hl, hy, hf⟩ := DataW.trod_struct Tryd.underlying31 h
  rw [cz31] at hl
  have hy : ys.length = 2 := hy
  obtain ⟨y0, e0, g0⟩ := field_ofZ (hf 0 _ rfl) (by omega)
  obtain ⟨a0, r0, k0⟩ := opens_28 _ _ _ _ _ _ _ _ _ e0 (fun q hq => hz9 q (z_field Tryd.underlying31 rfl g0 hq))
  have r0 : Rc w (UA w) ((cs.drop 0).take (Tryd.prog.cellsOf 28)) _ := r0
  rw [cz28] at r0
  obtain ⟨y1, e1, g1⟩ := field_ofZ (hf 1 _ rfl) (by omega)
  obtain ⟨a1, r1, k1⟩ := opens_29 _ _ _ _ _ _ _ _ _ e1 (fun q hq => hz9 q (z_field Tryd.underlying31 rfl g1 hq))
  have r1 : Rc w (UA w) ((cs.drop 1).take (Tryd.prog.cellsOf 29)) _ := r1
  rw [cz29] at r1
  refine ⟨⟨a0, a1⟩, ?_, ⟨k0, k1⟩⟩
  exact rc_step r0 (rc_step r1 (rc_end hl))
def okTq (x : Tq) : Prop := okNw x.net ∧ True
theorem opens_34 : OpensZ Tryd.prog 34 eTq okTq := by
  intro H enc w base spare held fuel cs x h hz9
  obtain ⟨ys, n, _, rfl, hl, hy, hf⟩ := DataW.trod_struct Tryd.underlying34 h
  rw [cz34] at hl
  have hy : ys.length = 2 := hy
  obtain ⟨y0, e0, g0⟩ := field_ofZ (hf 0 _ rfl) (by omega)
  obtain ⟨a0, r0, k0⟩ := opens_31 _ _ _ _ _ _ _ _ _ e0 (fun q hq => hz9 q (z_field Tryd.underlying34 rfl g0 hq))
  have r0 : Rc w (UA w) ((cs.drop 0).take (Tryd.prog.cellsOf 31)) _ := r0
  rw [cz31] at r0
  obtain ⟨y1, e1, g1⟩ := field_ofZ (hf 1 _ rfl) (by omega)
  obtain ⟨a1, r1, k1⟩ := opens_32 _ _ _ _ _ _ _ _ _ e1 (fun q hq => hz9 q (z_field Tryd.underlying34 rfl g1 hq))
  have r1 : Rc w (UA w) ((cs.drop 2).take (Tryd.prog.cellsOf 32)) _ := r1
  rw [cz32] at r1
  refine ⟨⟨a0, a1⟩, ?_, ⟨k0, k1⟩⟩
  exact rc_step r0 (rc_step r1 (rc_end hl))
def okSc (x : Sc) : Prop := (Lit.int .i64 x.p).wf = true ∧ True ∧ True ∧ True
theorem opens_39v : OpensZ Tryd.prog 39 rV (fun _ => True) := z_of (opens_vslice Tryd.underlying39)
theorem opens_41 : OpensZ Tryd.prog 41 eSc okSc := by
  intro H enc w base spare held fuel cs x h hz9
  obtain ⟨ys, n, _, rfl, hl, hy, hf⟩ := DataW.trod_struct Tryd.underlying41 h
  rw [cz41] at hl
  have hy : ys.length = 4 := hy
  obtain ⟨y0, e0, g0⟩ := field_ofZ (hf 0 _ rfl) (by omega)
  obtain ⟨a0, r0, k0⟩ := opens_3 _ _ _ _ _ _ _ _ _ e0 (fun q hq => hz9 q (z_field Tryd.underlying41 rfl g0 hq))
  have r0 : Rc w (UA w) ((cs.drop 0).take (Tryd.prog.cellsOf 3)) _ := r0
  rw [cz3] at r0
  obtain ⟨y1, e1, g1⟩ := field_ofZ (hf 1 _ rfl) (by omega)
  obtain ⟨a1, r1, k1⟩ := opens_39v _ _ _ _ _ _ _ _ _ e1 (fun q hq => hz9 q (z_field Tryd.underlying41 rfl g1 hq))
  have r1 : Rc w (UA w) ((cs.drop 1).take (Tryd.prog.cellsOf 39)) _ := r1
  rw [cz39] at r1
  obtain ⟨y2, e2, g2⟩ := field_ofZ (hf 2 _ rfl) (by omega)
  obtain ⟨a2, r2, k2⟩ := opens_39v _ _ _ _ _ _ _ _ _ e2 (fun q hq => hz9 q (z_field Tryd.underlying41 rfl g2 hq))
  have r2 : Rc w (UA w) ((cs.drop 2).take (Tryd.prog.cellsOf 39)) _ := r2
  rw [cz39] at r2
  obtain ⟨y3, e3, g3⟩ := field_ofZ (hf 3 _ rfl) (by omega)
  obtain ⟨a3, r3, k3⟩ := opens_39v _ _ _ _ _ _ _ _ _ e3 (fun q hq => hz9 q (z_field Tryd.underlying41 rfl g3 hq))
  have r3 : Rc w (UA w) ((cs.drop 3).take (Tryd.prog.cellsOf 39)) _ := r3
  rw [cz39] at r3
  refine ⟨⟨a0, a1, a2, a3⟩, ?_, ⟨k0, k1, k2, k3⟩⟩
  exact rc_step r0 (rc_step r1 (rc_step r2 (rc_step r3 (rc_end hl))))
def okLw (x : Lw) : Prop := (x.days.length ≤ 9223372036854775807 ∧ ∀ a ∈ x.days, (Lit.int .i64 a).wf = true) ∧ (x.fees.length ≤ 9223372036854775807 ∧ ∀ a ∈ x.fees, (Lit.int .i64 a).wf = true) ∧ (Lit.int .i64 x.limit).wf = true
theorem opens_49 : OpensZ Tryd.prog 49 eLw okLw := by
  intro H enc w base spare held fuel cs x h hz9
  obtain ⟨ys, n, _, rfl, hl, hy, hf⟩ := DataW.trod_struct Tryd.underlying49 h
  rw [cz49] at hl
  have hy : ys.length = 3 := hy
  obtain ⟨y0, e0, g0⟩ := field_ofZ (hf 0 _ rfl) (by omega)
  obtain ⟨a0, r0, k0⟩ := opens_39 _ _ _ _ _ _ _ _ _ e0 (fun q hq => hz9 q (z_field Tryd.underlying49 rfl g0 hq))
  have r0 : Rc w (UA w) ((cs.drop 0).take (Tryd.prog.cellsOf 39)) _ := r0
  rw [cz39] at r0
  obtain ⟨y1, e1, g1⟩ := field_ofZ (hf 1 _ rfl) (by omega)
  obtain ⟨a1, r1, k1⟩ := opens_39 _ _ _ _ _ _ _ _ _ e1 (fun q hq => hz9 q (z_field Tryd.underlying49 rfl g1 hq))
  have r1 : Rc w (UA w) ((cs.drop 1).take (Tryd.prog.cellsOf 39)) _ := r1
  rw [cz39] at r1
  obtain ⟨y2, e2, g2⟩ := field_ofZ (hf 2 _ rfl) (by omega)
  obtain ⟨a2, r2, k2⟩ := opens_3 _ _ _ _ _ _ _ _ _ e2 (fun q hq => hz9 q (z_field Tryd.underlying49 rfl g2 hq))
  have r2 : Rc w (UA w) ((cs.drop 2).take (Tryd.prog.cellsOf 3)) _ := r2
  rw [cz3] at r2
  refine ⟨⟨a0, a1, a2⟩, ?_, ⟨k0, k1, k2⟩⟩
  exact rc_step r0 (rc_step r1 (rc_step r2 (rc_end hl)))
def okCf (x : Cf) : Prop := okTq x.top ∧ True ∧ True ∧ True ∧ (Lit.int .i64 x.gap).wf = true ∧ (Lit.int .i64 x.weak).wf = true ∧ True ∧ okSc x.scale ∧ True ∧ True ∧ True ∧ True ∧ (x.acc.length ≤ 9223372036854775807 ∧ ∀ a ∈ x.acc, okAc a) ∧ True ∧ (x.hol.length ≤ 9223372036854775807 ∧ ∀ a ∈ x.hol, (Lit.int .i64 a).wf = true) ∧ okLw x.law ∧ True ∧ x.ag.size ≤ 140737488351232
theorem opens_52 : OpensZ Tryd.prog 52 eCf okCf := by
  intro H enc w base spare held fuel cs x h hz9
  obtain ⟨ys, n, _, rfl, hl, hy, hf⟩ := DataW.trod_struct Tryd.underlying52 h
  rw [cz52] at hl
  have hy : ys.length = 18 := hy
  obtain ⟨y0, e0, g0⟩ := field_ofZ (hf 0 _ rfl) (by omega)
  obtain ⟨a0, r0, k0⟩ := opens_34 _ _ _ _ _ _ _ _ _ e0 (fun q hq => hz9 q (z_field Tryd.underlying52 rfl g0 hq))
  have r0 : Rc w (UA w) ((cs.drop 0).take (Tryd.prog.cellsOf 34)) _ := r0
  rw [cz34] at r0
  obtain ⟨y1, e1, g1⟩ := field_ofZ (hf 1 _ rfl) (by omega)
  obtain ⟨a1, r1, k1⟩ := opens_35 _ _ _ _ _ _ _ _ _ e1 (fun q hq => hz9 q (z_field Tryd.underlying52 rfl g1 hq))
  have r1 : Rc w (UA w) ((cs.drop 3).take (Tryd.prog.cellsOf 35)) _ := r1
  rw [cz35] at r1
  obtain ⟨y2, e2, g2⟩ := field_ofZ (hf 2 _ rfl) (by omega)
  obtain ⟨a2, r2, k2⟩ := opens_36 _ _ _ _ _ _ _ _ _ e2 (fun q hq => hz9 q (z_field Tryd.underlying52 rfl g2 hq))
  have r2 : Rc w (UA w) ((cs.drop 4).take (Tryd.prog.cellsOf 36)) _ := r2
  rw [cz36] at r2
  obtain ⟨y3, e3, g3⟩ := field_ofZ (hf 3 _ rfl) (by omega)
  obtain ⟨a3, r3, k3⟩ := opens_37 _ _ _ _ _ _ _ _ _ e3 (fun q hq => hz9 q (z_field Tryd.underlying52 rfl g3 hq))
  have r3 : Rc w (UA w) ((cs.drop 5).take (Tryd.prog.cellsOf 37)) _ := r3
  rw [cz37] at r3
  obtain ⟨y4, e4, g4⟩ := field_ofZ (hf 4 _ rfl) (by omega)
  obtain ⟨a4, r4, k4⟩ := opens_3 _ _ _ _ _ _ _ _ _ e4 (fun q hq => hz9 q (z_field Tryd.underlying52 rfl g4 hq))
  have r4 : Rc w (UA w) ((cs.drop 6).take (Tryd.prog.cellsOf 3)) _ := r4
  rw [cz3] at r4
  obtain ⟨y5, e5, g5⟩ := field_ofZ (hf 5 _ rfl) (by omega)
  obtain ⟨a5, r5, k5⟩ := opens_3 _ _ _ _ _ _ _ _ _ e5 (fun q hq => hz9 q (z_field Tryd.underlying52 rfl g5 hq))
  have r5 : Rc w (UA w) ((cs.drop 7).take (Tryd.prog.cellsOf 3)) _ := r5
  rw [cz3] at r5
  obtain ⟨y6, e6, g6⟩ := field_ofZ (hf 6 _ rfl) (by omega)
  obtain ⟨a6, r6, k6⟩ := opens_38 _ _ _ _ _ _ _ _ _ e6 (fun q hq => hz9 q (z_field Tryd.underlying52 rfl g6 hq))
  have r6 : Rc w (UA w) ((cs.drop 8).take (Tryd.prog.cellsOf 38)) _ := r6
  rw [cz38] at r6
  obtain ⟨y7, e7, g7⟩ := field_ofZ (hf 7 _ rfl) (by omega)
  obtain ⟨a7, r7, k7⟩ := opens_41 _ _ _ _ _ _ _ _ _ e7 (fun q hq => hz9 q (z_field Tryd.underlying52 rfl g7 hq))
  have r7 : Rc w (UA w) ((cs.drop 9).take (Tryd.prog.cellsOf 41)) _ := r7
  rw [cz41] at r7
  obtain ⟨y8, e8, g8⟩ := field_ofZ (hf 8 _ rfl) (by omega)
  obtain ⟨a8, r8, k8⟩ := opens_42 _ _ _ _ _ _ _ _ _ e8 (fun q hq => hz9 q (z_field Tryd.underlying52 rfl g8 hq))
  have r8 : Rc w (UA w) ((cs.drop 13).take (Tryd.prog.cellsOf 42)) _ := r8
  rw [cz42] at r8
  obtain ⟨y9, e9, g9⟩ := field_ofZ (hf 9 _ rfl) (by omega)
  obtain ⟨a9, r9, k9⟩ := opens_43 _ _ _ _ _ _ _ _ _ e9 (fun q hq => hz9 q (z_field Tryd.underlying52 rfl g9 hq))
  have r9 : Rc w (UA w) ((cs.drop 14).take (Tryd.prog.cellsOf 43)) _ := r9
  rw [cz43] at r9
  obtain ⟨y10, e10, g10⟩ := field_ofZ (hf 10 _ rfl) (by omega)
  obtain ⟨a10, r10, k10⟩ := opens_44 _ _ _ _ _ _ _ _ _ e10 (fun q hq => hz9 q (z_field Tryd.underlying52 rfl g10 hq))
  have r10 : Rc w (UA w) ((cs.drop 15).take (Tryd.prog.cellsOf 44)) _ := r10
  rw [cz44] at r10
  obtain ⟨y11, e11, g11⟩ := field_ofZ (hf 11 _ rfl) (by omega)
  obtain ⟨a11, r11, k11⟩ := opens_45 _ _ _ _ _ _ _ _ _ e11 (fun q hq => hz9 q (z_field Tryd.underlying52 rfl g11 hq))
  have r11 : Rc w (UA w) ((cs.drop 16).take (Tryd.prog.cellsOf 45)) _ := r11
  rw [cz45] at r11
  obtain ⟨y12, e12, g12⟩ := field_ofZ (hf 12 _ rfl) (by omega)
  obtain ⟨a12, r12, k12⟩ := opens_46 _ _ _ _ _ _ _ _ _ e12 (fun q hq => hz9 q (z_field Tryd.underlying52 rfl g12 hq))
  have r12 : Rc w (UA w) ((cs.drop 17).take (Tryd.prog.cellsOf 46)) _ := r12
  rw [cz46] at r12
  obtain ⟨y13, e13, g13⟩ := field_ofZ (hf 13 _ rfl) (by omega)
  obtain ⟨a13, r13, k13⟩ := opens_47 _ _ _ _ _ _ _ _ _ e13 (fun q hq => hz9 q (z_field Tryd.underlying52 rfl g13 hq))
  have r13 : Rc w (UA w) ((cs.drop 18).take (Tryd.prog.cellsOf 47)) _ := r13
  rw [cz47] at r13
  obtain ⟨y14, e14, g14⟩ := field_ofZ (hf 14 _ rfl) (by omega)
  obtain ⟨a14, r14, k14⟩ := opens_39 _ _ _ _ _ _ _ _ _ e14 (fun q hq => hz9 q (z_field Tryd.underlying52 rfl g14 hq))
  have r14 : Rc w (UA w) ((cs.drop 19).take (Tryd.prog.cellsOf 39)) _ := r14
  rw [cz39] at r14
  obtain ⟨y15, e15, g15⟩ := field_ofZ (hf 15 _ rfl) (by omega)
  obtain ⟨a15, r15, k15⟩ := opens_49 _ _ _ _ _ _ _ _ _ e15 (fun q hq => hz9 q (z_field Tryd.underlying52 rfl g15 hq))
  have r15 : Rc w (UA w) ((cs.drop 20).take (Tryd.prog.cellsOf 49)) _ := r15
  rw [cz49] at r15
  obtain ⟨y16, e16, g16⟩ := field_ofZ (hf 16 _ rfl) (by omega)
  obtain ⟨a16, r16, k16⟩ := opens_50 _ _ _ _ _ _ _ _ _ e16 (fun q hq => hz9 q (z_field Tryd.underlying52 rfl g16 hq))
  have r16 : Rc w (UA w) ((cs.drop 23).take (Tryd.prog.cellsOf 50)) _ := r16
  rw [cz50] at r16
  obtain ⟨y17, e17, g17⟩ := field_ofZ (hf 17 _ rfl) (by omega)
  obtain ⟨a17, r17, k17⟩ := opens_9 _ _ _ _ _ _ _ _ _ e17 (fun q hq => hz9 q (z_field Tryd.underlying52 rfl g17 hq))
  have r17 : Rc w (UA w) ((cs.drop 24).take (Tryd.prog.cellsOf 9)) _ := r17
  rw [cz9] at r17
  refine ⟨⟨a0, a1, a2, a3, a4, a5, a6, a7, a8, a9, a10, a11, a12, a13, a14, a15, a16, a17⟩, ?_, ⟨k0, k1, k2, k3, k4, k5, k6, k7, k8, k9, k10, k11, k12, k13, k14, k15, k16, k17⟩⟩
  exact rc_step r0 (rc_step r1 (rc_step r2 (rc_step r3 (rc_step r4 (rc_step r5 (rc_step r6 (rc_step r7 (rc_step r8 (rc_step r9 (rc_step r10 (rc_step r11 (rc_step r12 (rc_step r13 (rc_step r14 (rc_step r15 (rc_step r16 (rc_step r17 (rc_end hl))))))))))))))))))
def okPo (x : Po) : Prop := x.acc.size ≤ 140737488351232 ∧ (Lit.int .i64 x.cents).wf = true
theorem opens_107 : OpensZ Tryd.prog 107 ePo okPo := by
  intro H enc w base spare held fuel cs x h hz9
  obtain ⟨ys, n, _, rfl, hl, hy, hf⟩ := DataW.trod_struct Tryd.underlying107 h
  rw [cz107] at hl
  have hy : ys.length = 2 := hy
  obtain ⟨y0, e0, g0⟩ := field_ofZ (hf 0 _ rfl) (by omega)
  obtain ⟨a0, r0, k0⟩ := opens_9 _ _ _ _ _ _ _ _ _ e0 (fun q hq => hz9 q (z_field Tryd.underlying107 rfl g0 hq))
  have r0 : Rc w (UA w) ((cs.drop 0).take (Tryd.prog.cellsOf 9)) _ := r0
  rw [cz9] at r0
  obtain ⟨y1, e1, g1⟩ := field_ofZ (hf 1 _ rfl) (by omega)
  obtain ⟨a1, r1, k1⟩ := opens_3 _ _ _ _ _ _ _ _ _ e1 (fun q hq => hz9 q (z_field Tryd.underlying107 rfl g1 hq))
  have r1 : Rc w (UA w) ((cs.drop 1).take (Tryd.prog.cellsOf 3)) _ := r1
  rw [cz3] at r1
  refine ⟨⟨a0, a1⟩, ?_, ⟨k0, k1⟩⟩
  exact rc_step r0 (rc_step r1 (rc_end hl))
theorem opens_103 : OpensZ Tryd.prog 103 (rL 2 ePo) (fun l => l.length ≤ 9223372036854775807 ∧ ∀ a ∈ l, okPo a) := opensZ_len (opensZ_slice Tryd.underlying103 cz107 (by omega) opens_107 (fun _ => rfl))
def okEn (x : En) : Prop := x.key.size ≤ 140737488351232 ∧ (Lit.int .i64 x.time).wf = true ∧ (x.posts.length ≤ 9223372036854775807 ∧ ∀ a ∈ x.posts, okPo a)
theorem opens_105 : OpensZ Tryd.prog 105 eEn okEn := by
  intro H enc w base spare held fuel cs x h hz9
  obtain ⟨ys, n, _, rfl, hl, hy, hf⟩ := DataW.trod_struct Tryd.underlying105 h
  rw [cz105] at hl
  have hy : ys.length = 3 := hy
  obtain ⟨y0, e0, g0⟩ := field_ofZ (hf 0 _ rfl) (by omega)
  obtain ⟨a0, r0, k0⟩ := opens_9 _ _ _ _ _ _ _ _ _ e0 (fun q hq => hz9 q (z_field Tryd.underlying105 rfl g0 hq))
  have r0 : Rc w (UA w) ((cs.drop 0).take (Tryd.prog.cellsOf 9)) _ := r0
  rw [cz9] at r0
  obtain ⟨y1, e1, g1⟩ := field_ofZ (hf 1 _ rfl) (by omega)
  obtain ⟨a1, r1, k1⟩ := opens_3 _ _ _ _ _ _ _ _ _ e1 (fun q hq => hz9 q (z_field Tryd.underlying105 rfl g1 hq))
  have r1 : Rc w (UA w) ((cs.drop 1).take (Tryd.prog.cellsOf 3)) _ := r1
  rw [cz3] at r1
  obtain ⟨y2, e2, g2⟩ := field_ofZ (hf 2 _ rfl) (by omega)
  obtain ⟨a2, r2, k2⟩ := opens_103 _ _ _ _ _ _ _ _ _ e2 (fun q hq => hz9 q (z_field Tryd.underlying105 rfl g2 hq))
  have r2 : Rc w (UA w) ((cs.drop 2).take (Tryd.prog.cellsOf 103)) _ := r2
  rw [cz103] at r2
  refine ⟨⟨a0, a1, a2⟩, ?_, ⟨k0, k1, k2⟩⟩
  exact rc_step r0 (rc_step r1 (rc_step r2 (rc_end hl)))
theorem opens_63 : OpensZ Tryd.prog 63 (rL 3 eEn) (fun l => l.length ≤ 9223372036854775807 ∧ ∀ a ∈ l, okEn a) := opensZ_len (opensZ_slice Tryd.underlying63 cz105 (by omega) opens_105 (fun _ => rfl))
def okLg (x : Lg) : Prop := (x.e.length ≤ 9223372036854775807 ∧ ∀ a ∈ x.e, okEn a)
theorem opens_65 : OpensZ Tryd.prog 65 eLg okLg := by
  intro H enc w base spare held fuel cs x h hz9
  obtain ⟨ys, n, _, rfl, hl, hy, hf⟩ := DataW.trod_struct Tryd.underlying65 h
  rw [cz65] at hl
  have hy : ys.length = 1 := hy
  obtain ⟨y0, e0, g0⟩ := field_ofZ (hf 0 _ rfl) (by omega)
  obtain ⟨a0, r0, k0⟩ := opens_63 _ _ _ _ _ _ _ _ _ e0 (fun q hq => hz9 q (z_field Tryd.underlying65 rfl g0 hq))
  have r0 : Rc w (UA w) ((cs.drop 0).take (Tryd.prog.cellsOf 63)) _ := r0
  rw [cz63] at r0
  refine ⟨⟨a0⟩, ?_, k0⟩
  exact rc_step r0 (rc_end hl)
def okBo (x : Bo) : Prop := okLg x.led ∧ (x.done.length ≤ 9223372036854775807 ∧ ∀ a ∈ x.done, okCg a)
theorem opens_67 : OpensZ Tryd.prog 67 eBo okBo := by
  intro H enc w base spare held fuel cs x h hz9
  obtain ⟨ys, n, _, rfl, hl, hy, hf⟩ := DataW.trod_struct Tryd.underlying67 h
  rw [cz67] at hl
  have hy : ys.length = 2 := hy
  obtain ⟨y0, e0, g0⟩ := field_ofZ (hf 0 _ rfl) (by omega)
  obtain ⟨a0, r0, k0⟩ := opens_65 _ _ _ _ _ _ _ _ _ e0 (fun q hq => hz9 q (z_field Tryd.underlying67 rfl g0 hq))
  have r0 : Rc w (UA w) ((cs.drop 0).take (Tryd.prog.cellsOf 65)) _ := r0
  rw [cz65] at r0
  obtain ⟨y1, e1, g1⟩ := field_ofZ (hf 1 _ rfl) (by omega)
  obtain ⟨a1, r1, k1⟩ := opens_59 _ _ _ _ _ _ _ _ _ e1 (fun q hq => hz9 q (z_field Tryd.underlying67 rfl g1 hq))
  have r1 : Rc w (UA w) ((cs.drop 1).take (Tryd.prog.cellsOf 59)) _ := r1
  rw [cz59] at r1
  refine ⟨⟨a0, a1⟩, ?_, ⟨k0, k1⟩⟩
  exact rc_step r0 (rc_step r1 (rc_end hl))
def okAp (x : Ap) : Prop := (Lit.int .i64 x.state).wf = true ∧ (Lit.int .i64 x.ground).wf = true ∧ (Lit.int .i64 x.day).wf = true
theorem opens_100 : OpensZ Tryd.prog 100 eAp okAp := by
  intro H enc w base spare held fuel cs x h hz9
  obtain ⟨ys, n, _, rfl, hl, hy, hf⟩ := DataW.trod_struct Tryd.underlying100 h
  rw [cz100] at hl
  have hy : ys.length = 3 := hy
  obtain ⟨y0, e0, g0⟩ := field_ofZ (hf 0 _ rfl) (by omega)
  obtain ⟨a0, r0, k0⟩ := opens_3 _ _ _ _ _ _ _ _ _ e0 (fun q hq => hz9 q (z_field Tryd.underlying100 rfl g0 hq))
  have r0 : Rc w (UA w) ((cs.drop 0).take (Tryd.prog.cellsOf 3)) _ := r0
  rw [cz3] at r0
  obtain ⟨y1, e1, g1⟩ := field_ofZ (hf 1 _ rfl) (by omega)
  obtain ⟨a1, r1, k1⟩ := opens_3 _ _ _ _ _ _ _ _ _ e1 (fun q hq => hz9 q (z_field Tryd.underlying100 rfl g1 hq))
  have r1 : Rc w (UA w) ((cs.drop 1).take (Tryd.prog.cellsOf 3)) _ := r1
  rw [cz3] at r1
  obtain ⟨y2, e2, g2⟩ := field_ofZ (hf 2 _ rfl) (by omega)
  obtain ⟨a2, r2, k2⟩ := opens_3 _ _ _ _ _ _ _ _ _ e2 (fun q hq => hz9 q (z_field Tryd.underlying100 rfl g2 hq))
  have r2 : Rc w (UA w) ((cs.drop 2).take (Tryd.prog.cellsOf 3)) _ := r2
  rw [cz3] at r2
  refine ⟨⟨a0, a1, a2⟩, ?_, ⟨k0, k1, k2⟩⟩
  exact rc_step r0 (rc_step r1 (rc_step r2 (rc_end hl)))
def okCs (x : Cs) : Prop := x.id.size ≤ 140737488351232 ∧ x.plate.size ≤ 140737488351232 ∧ x.key.size ≤ 140737488351232 ∧ (Lit.int .i64 x.begun).wf = true ∧ (Lit.int .i64 x.since).wf = true ∧ (Lit.int .i64 x.stage).wf = true ∧ (Lit.int .i64 x.owed).wf = true ∧ (Lit.int .i64 x.paid).wf = true ∧ (Lit.int .i64 x.paused).wf = true ∧ okAp x.ap
theorem opens_102 : OpensZ Tryd.prog 102 eCs okCs := by
  intro H enc w base spare held fuel cs x h hz9
  obtain ⟨ys, n, _, rfl, hl, hy, hf⟩ := DataW.trod_struct Tryd.underlying102 h
  rw [cz102] at hl
  have hy : ys.length = 10 := hy
  obtain ⟨y0, e0, g0⟩ := field_ofZ (hf 0 _ rfl) (by omega)
  obtain ⟨a0, r0, k0⟩ := opens_9 _ _ _ _ _ _ _ _ _ e0 (fun q hq => hz9 q (z_field Tryd.underlying102 rfl g0 hq))
  have r0 : Rc w (UA w) ((cs.drop 0).take (Tryd.prog.cellsOf 9)) _ := r0
  rw [cz9] at r0
  obtain ⟨y1, e1, g1⟩ := field_ofZ (hf 1 _ rfl) (by omega)
  obtain ⟨a1, r1, k1⟩ := opens_9 _ _ _ _ _ _ _ _ _ e1 (fun q hq => hz9 q (z_field Tryd.underlying102 rfl g1 hq))
  have r1 : Rc w (UA w) ((cs.drop 1).take (Tryd.prog.cellsOf 9)) _ := r1
  rw [cz9] at r1
  obtain ⟨y2, e2, g2⟩ := field_ofZ (hf 2 _ rfl) (by omega)
  obtain ⟨a2, r2, k2⟩ := opens_9 _ _ _ _ _ _ _ _ _ e2 (fun q hq => hz9 q (z_field Tryd.underlying102 rfl g2 hq))
  have r2 : Rc w (UA w) ((cs.drop 2).take (Tryd.prog.cellsOf 9)) _ := r2
  rw [cz9] at r2
  obtain ⟨y3, e3, g3⟩ := field_ofZ (hf 3 _ rfl) (by omega)
  obtain ⟨a3, r3, k3⟩ := opens_3 _ _ _ _ _ _ _ _ _ e3 (fun q hq => hz9 q (z_field Tryd.underlying102 rfl g3 hq))
  have r3 : Rc w (UA w) ((cs.drop 3).take (Tryd.prog.cellsOf 3)) _ := r3
  rw [cz3] at r3
  obtain ⟨y4, e4, g4⟩ := field_ofZ (hf 4 _ rfl) (by omega)
  obtain ⟨a4, r4, k4⟩ := opens_3 _ _ _ _ _ _ _ _ _ e4 (fun q hq => hz9 q (z_field Tryd.underlying102 rfl g4 hq))
  have r4 : Rc w (UA w) ((cs.drop 4).take (Tryd.prog.cellsOf 3)) _ := r4
  rw [cz3] at r4
  obtain ⟨y5, e5, g5⟩ := field_ofZ (hf 5 _ rfl) (by omega)
  obtain ⟨a5, r5, k5⟩ := opens_3 _ _ _ _ _ _ _ _ _ e5 (fun q hq => hz9 q (z_field Tryd.underlying102 rfl g5 hq))
  have r5 : Rc w (UA w) ((cs.drop 5).take (Tryd.prog.cellsOf 3)) _ := r5
  rw [cz3] at r5
  obtain ⟨y6, e6, g6⟩ := field_ofZ (hf 6 _ rfl) (by omega)
  obtain ⟨a6, r6, k6⟩ := opens_3 _ _ _ _ _ _ _ _ _ e6 (fun q hq => hz9 q (z_field Tryd.underlying102 rfl g6 hq))
  have r6 : Rc w (UA w) ((cs.drop 6).take (Tryd.prog.cellsOf 3)) _ := r6
  rw [cz3] at r6
  obtain ⟨y7, e7, g7⟩ := field_ofZ (hf 7 _ rfl) (by omega)
  obtain ⟨a7, r7, k7⟩ := opens_3 _ _ _ _ _ _ _ _ _ e7 (fun q hq => hz9 q (z_field Tryd.underlying102 rfl g7 hq))
  have r7 : Rc w (UA w) ((cs.drop 7).take (Tryd.prog.cellsOf 3)) _ := r7
  rw [cz3] at r7
  obtain ⟨y8, e8, g8⟩ := field_ofZ (hf 8 _ rfl) (by omega)
  obtain ⟨a8, r8, k8⟩ := opens_3 _ _ _ _ _ _ _ _ _ e8 (fun q hq => hz9 q (z_field Tryd.underlying102 rfl g8 hq))
  have r8 : Rc w (UA w) ((cs.drop 8).take (Tryd.prog.cellsOf 3)) _ := r8
  rw [cz3] at r8
  obtain ⟨y9, e9, g9⟩ := field_ofZ (hf 9 _ rfl) (by omega)
  obtain ⟨a9, r9, k9⟩ := opens_100 _ _ _ _ _ _ _ _ _ e9 (fun q hq => hz9 q (z_field Tryd.underlying102 rfl g9 hq))
  have r9 : Rc w (UA w) ((cs.drop 9).take (Tryd.prog.cellsOf 100)) _ := r9
  rw [cz100] at r9
  refine ⟨⟨a0, a1, a2, a3, a4, a5, a6, a7, a8, a9⟩, ?_, ⟨k0, k1, k2, k3, k4, k5, k6, k7, k8, k9⟩⟩
  exact rc_step r0 (rc_step r1 (rc_step r2 (rc_step r3 (rc_step r4 (rc_step r5 (rc_step r6 (rc_step r7 (rc_step r8 (rc_step r9 (rc_end hl))))))))))
theorem opens_68 : OpensZ Tryd.prog 68 (rL 12 eCs) (fun l => l.length ≤ 9223372036854775807 ∧ ∀ a ∈ l, okCs a) := opensZ_len (opensZ_slice Tryd.underlying68 cz102 (by omega) opens_102 (fun _ => rfl))
def okSa (x : Sa) : Prop := okCf x.cfg ∧ True ∧ True ∧ True ∧ (Lit.int .i64 x.closed).wf = true ∧ okRs x.res ∧ okBo x.books ∧ (x.cases.length ≤ 9223372036854775807 ∧ ∀ a ∈ x.cases, okCs a) ∧ (Lit.int .i64 x.count).wf = true
theorem opens_54v : OpensZ Tryd.prog 54 rV (fun _ => True) := z_of (opens_vslice Tryd.underlying54)
theorem opens_70 : OpensZ Tryd.prog 70 eSa okSa := by
  intro H enc w base spare held fuel cs x h hz9
  obtain ⟨ys, n, _, rfl, hl, hy, hf⟩ := DataW.trod_struct Tryd.underlying70 h
  rw [cz70] at hl
  have hy : ys.length = 9 := hy
  obtain ⟨y0, e0, g0⟩ := field_ofZ (hf 0 _ rfl) (by omega)
  obtain ⟨a0, r0, k0⟩ := opens_52 _ _ _ _ _ _ _ _ _ e0 (fun q hq => hz9 q (z_field Tryd.underlying70 rfl g0 hq))
  have r0 : Rc w (UA w) ((cs.drop 0).take (Tryd.prog.cellsOf 52)) _ := r0
  rw [cz52] at r0
  obtain ⟨y1, e1, g1⟩ := field_ofZ (hf 1 _ rfl) (by omega)
  obtain ⟨a1, r1, k1⟩ := opens_53 _ _ _ _ _ _ _ _ _ e1 (fun q hq => hz9 q (z_field Tryd.underlying70 rfl g1 hq))
  have r1 : Rc w (UA w) ((cs.drop 25).take (Tryd.prog.cellsOf 53)) _ := r1
  rw [cz53] at r1
  obtain ⟨y2, e2, g2⟩ := field_ofZ (hf 2 _ rfl) (by omega)
  obtain ⟨a2, r2, k2⟩ := opens_54v _ _ _ _ _ _ _ _ _ e2 (fun q hq => hz9 q (z_field Tryd.underlying70 rfl g2 hq))
  have r2 : Rc w (UA w) ((cs.drop 26).take (Tryd.prog.cellsOf 54)) _ := r2
  rw [cz54] at r2
  obtain ⟨y3, e3, g3⟩ := field_ofZ (hf 3 _ rfl) (by omega)
  obtain ⟨a3, r3, k3⟩ := opens_55 _ _ _ _ _ _ _ _ _ e3 (fun q hq => hz9 q (z_field Tryd.underlying70 rfl g3 hq))
  have r3 : Rc w (UA w) ((cs.drop 27).take (Tryd.prog.cellsOf 55)) _ := r3
  rw [cz55] at r3
  obtain ⟨y4, e4, g4⟩ := field_ofZ (hf 4 _ rfl) (by omega)
  obtain ⟨a4, r4, k4⟩ := opens_3 _ _ _ _ _ _ _ _ _ e4 (fun q hq => hz9 q (z_field Tryd.underlying70 rfl g4 hq))
  have r4 : Rc w (UA w) ((cs.drop 28).take (Tryd.prog.cellsOf 3)) _ := r4
  rw [cz3] at r4
  obtain ⟨y5, e5, g5⟩ := field_ofZ (hf 5 _ rfl) (by omega)
  obtain ⟨a5, r5, k5⟩ := opens_62 _ _ _ _ _ _ _ _ _ e5 (fun q hq => hz9 q (z_field Tryd.underlying70 rfl g5 hq))
  have r5 : Rc w (UA w) ((cs.drop 29).take (Tryd.prog.cellsOf 62)) _ := r5
  rw [cz62] at r5
  obtain ⟨y6, e6, g6⟩ := field_ofZ (hf 6 _ rfl) (by omega)
  obtain ⟨a6, r6, k6⟩ := opens_67 _ _ _ _ _ _ _ _ _ e6 (fun q hq => hz9 q (z_field Tryd.underlying70 rfl g6 hq))
  have r6 : Rc w (UA w) ((cs.drop 35).take (Tryd.prog.cellsOf 67)) _ := r6
  rw [cz67] at r6
  obtain ⟨y7, e7, g7⟩ := field_ofZ (hf 7 _ rfl) (by omega)
  obtain ⟨a7, r7, k7⟩ := opens_68 _ _ _ _ _ _ _ _ _ e7 (fun q hq => hz9 q (z_field Tryd.underlying70 rfl g7 hq))
  have r7 : Rc w (UA w) ((cs.drop 37).take (Tryd.prog.cellsOf 68)) _ := r7
  rw [cz68] at r7
  obtain ⟨y8, e8, g8⟩ := field_ofZ (hf 8 _ rfl) (by omega)
  obtain ⟨a8, r8, k8⟩ := opens_3 _ _ _ _ _ _ _ _ _ e8 (fun q hq => hz9 q (z_field Tryd.underlying70 rfl g8 hq))
  have r8 : Rc w (UA w) ((cs.drop 38).take (Tryd.prog.cellsOf 3)) _ := r8
  rw [cz3] at r8
  refine ⟨⟨a0, a1, a2, a3, a4, a5, a6, a7, a8⟩, ?_, ⟨k0, k1, k2, k3, k4, k5, k6, k7, k8⟩⟩
  exact rc_step r0 (rc_step r1 (rc_step r2 (rc_step r3 (rc_step r4 (rc_step r5 (rc_step r6 (rc_step r7 (rc_step r8 (rc_end hl)))))))))
theorem i64_r {n : Int} (h : (Lit.int .i64 n).wf = true) : -9223372036854775808 ≤ n ∧ n ≤ 9223372036854775807 := by simpa [Lit.wf, IntKind.min, IntKind.max, IntKind.signed, IntKind.bits] using h
end Go.Proofs.YtglhonnmppclpaaDoor.Wk
