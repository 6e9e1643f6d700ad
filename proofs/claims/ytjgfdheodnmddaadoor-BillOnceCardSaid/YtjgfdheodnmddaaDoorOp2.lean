/- What the arguments read as. Condition: they read as data. -/
import Derived.Test.YtjgfdheodnmddaaDoorTy2
set_option linter.unusedSimpArgs false
set_option linter.unusedVariables false
namespace Go.Proofs.YtjgfdheodnmddaaDoor.Wk
open Go Go.RowKit Go.Proofs.YtjgfdheodnmddaaDoor.Av
theorem cz3 : Tryd.prog.cellsOf 3 = 1 := by kernel_rfl
theorem cz4 : Tryd.prog.cellsOf 4 = 1 := by kernel_rfl
theorem cz9 : Tryd.prog.cellsOf 9 = 1 := by kernel_rfl
theorem cz82 : Tryd.prog.cellsOf 82 = 2 := by kernel_rfl
theorem cz84 : Tryd.prog.cellsOf 84 = 4 := by kernel_rfl
theorem cz42 : Tryd.prog.cellsOf 42 = 1 := by kernel_rfl
theorem cz44 : Tryd.prog.cellsOf 44 = 4 := by kernel_rfl
theorem cz46 : Tryd.prog.cellsOf 46 = 9 := by kernel_rfl
theorem cz31 : Tryd.prog.cellsOf 31 = 1 := by kernel_rfl
theorem cz78 : Tryd.prog.cellsOf 78 = 4 := by kernel_rfl
theorem cz32 : Tryd.prog.cellsOf 32 = 1 := by kernel_rfl
theorem cz89 : Tryd.prog.cellsOf 89 = 2 := by kernel_rfl
theorem cz39 : Tryd.prog.cellsOf 39 = 1 := by kernel_rfl
theorem cz41 : Tryd.prog.cellsOf 41 = 7 := by kernel_rfl
theorem cz33 : Tryd.prog.cellsOf 33 = 1 := by kernel_rfl
theorem cz35 : Tryd.prog.cellsOf 35 = 3 := by kernel_rfl
theorem opens_3 : Opens Tryd.prog 3 (rI .i64) (fun n => (Lit.int .i64 n).wf = true) := opens_int Tryd.underlying3
theorem opens_4 : Opens Tryd.prog 4 rB (fun _ => True) := opens_bool Tryd.underlying4
theorem opens_9 : Opens Tryd.prog 9 rS (fun s => s.size ≤ maxLen) := opens_str Tryd.underlying9
def okIv (x : Iv) : Prop := (Lit.int .i64 x.fr).wf = true ∧ (Lit.int .i64 x.to).wf = true
theorem opens_82 : Opens Tryd.prog 82 eIv okIv := by
  intro H enc w base spare held fuel cs x h
  obtain ⟨ys, n, _, _, hl, hy, hf⟩ := DataW.trod_struct Tryd.underlying82 h
  rw [cz82] at hl
  have hy : ys.length = 2 := hy
  obtain ⟨y0, e0⟩ := field_of (hf 0 _ rfl) (by omega)
  obtain ⟨a0, r0, k0⟩ := opens_3 _ _ _ _ _ _ _ _ _ e0
  have r0 : Rc w (UA w) ((cs.drop 0).take (Tryd.prog.cellsOf 3)) _ := r0
  rw [cz3] at r0
  obtain ⟨y1, e1⟩ := field_of (hf 1 _ rfl) (by omega)
  obtain ⟨a1, r1, k1⟩ := opens_3 _ _ _ _ _ _ _ _ _ e1
  have r1 : Rc w (UA w) ((cs.drop 1).take (Tryd.prog.cellsOf 3)) _ := r1
  rw [cz3] at r1
  refine ⟨⟨a0, a1⟩, ?_, ⟨k0, k1⟩⟩
  exact rc_step r0 (rc_step r1 (rc_end hl))
def okOw (x : Ow) : Prop := x.tag.size ≤ maxLen ∧ x.plate.size ≤ maxLen ∧ okIv x.time
theorem opens_84 : Opens Tryd.prog 84 eOw okOw := by
  intro H enc w base spare held fuel cs x h
  obtain ⟨ys, n, _, _, hl, hy, hf⟩ := DataW.trod_struct Tryd.underlying84 h
  rw [cz84] at hl
  have hy : ys.length = 3 := hy
  obtain ⟨y0, e0⟩ := field_of (hf 0 _ rfl) (by omega)
  obtain ⟨a0, r0, k0⟩ := opens_9 _ _ _ _ _ _ _ _ _ e0
  have r0 : Rc w (UA w) ((cs.drop 0).take (Tryd.prog.cellsOf 9)) _ := r0
  rw [cz9] at r0
  obtain ⟨y1, e1⟩ := field_of (hf 1 _ rfl) (by omega)
  obtain ⟨a1, r1, k1⟩ := opens_9 _ _ _ _ _ _ _ _ _ e1
  have r1 : Rc w (UA w) ((cs.drop 1).take (Tryd.prog.cellsOf 9)) _ := r1
  rw [cz9] at r1
  obtain ⟨y2, e2⟩ := field_of (hf 2 _ rfl) (by omega)
  obtain ⟨a2, r2, k2⟩ := opens_82 _ _ _ _ _ _ _ _ _ e2
  have r2 : Rc w (UA w) ((cs.drop 2).take (Tryd.prog.cellsOf 82)) _ := r2
  rw [cz82] at r2
  refine ⟨⟨a0, a1, a2⟩, ?_, ⟨k0, k1, k2⟩⟩
  exact rc_step r0 (rc_step r1 (rc_step r2 (rc_end hl)))
theorem opens_42 : Opens Tryd.prog 42 (rL 4 eOw) (fun l => l.length ≤ 9223372036854775807 ∧ ∀ a ∈ l, okOw a) := opens_len (opens_slice Tryd.underlying42 cz84 (by omega) opens_84 (fun _ => rfl))
def okRf (x : Rf) : Prop := (Lit.int .i64 x.below).wf = true ∧ (Lit.int .i64 x.cents).wf = true ∧ (Lit.int .i64 x.tries).wf = true ∧ (Lit.int .i64 x.wait).wf = true
theorem opens_44 : Opens Tryd.prog 44 eRf okRf := by
  intro H enc w base spare held fuel cs x h
  obtain ⟨ys, n, _, _, hl, hy, hf⟩ := DataW.trod_struct Tryd.underlying44 h
  rw [cz44] at hl
  have hy : ys.length = 4 := hy
  obtain ⟨y0, e0⟩ := field_of (hf 0 _ rfl) (by omega)
  obtain ⟨a0, r0, k0⟩ := opens_3 _ _ _ _ _ _ _ _ _ e0
  have r0 : Rc w (UA w) ((cs.drop 0).take (Tryd.prog.cellsOf 3)) _ := r0
  rw [cz3] at r0
  obtain ⟨y1, e1⟩ := field_of (hf 1 _ rfl) (by omega)
  obtain ⟨a1, r1, k1⟩ := opens_3 _ _ _ _ _ _ _ _ _ e1
  have r1 : Rc w (UA w) ((cs.drop 1).take (Tryd.prog.cellsOf 3)) _ := r1
  rw [cz3] at r1
  obtain ⟨y2, e2⟩ := field_of (hf 2 _ rfl) (by omega)
  obtain ⟨a2, r2, k2⟩ := opens_3 _ _ _ _ _ _ _ _ _ e2
  have r2 : Rc w (UA w) ((cs.drop 2).take (Tryd.prog.cellsOf 3)) _ := r2
  rw [cz3] at r2
  obtain ⟨y3, e3⟩ := field_of (hf 3 _ rfl) (by omega)
  obtain ⟨a3, r3, k3⟩ := opens_3 _ _ _ _ _ _ _ _ _ e3
  have r3 : Rc w (UA w) ((cs.drop 3).take (Tryd.prog.cellsOf 3)) _ := r3
  rw [cz3] at r3
  refine ⟨⟨a0, a1, a2, a3⟩, ?_, ⟨k0, k1, k2, k3⟩⟩
  exact rc_step r0 (rc_step r1 (rc_step r2 (rc_step r3 (rc_end hl))))
def okAc (x : Ac) : Prop := x.name.size ≤ maxLen ∧ x.agency.size ≤ maxLen ∧ True ∧ (x.owned.length ≤ 9223372036854775807 ∧ ∀ a ∈ x.owned, okOw a) ∧ okRf x.refill ∧ True
theorem opens_46 : Opens Tryd.prog 46 eAc okAc := by
  intro H enc w base spare held fuel cs x h
  obtain ⟨ys, n, _, _, hl, hy, hf⟩ := DataW.trod_struct Tryd.underlying46 h
  rw [cz46] at hl
  have hy : ys.length = 6 := hy
  obtain ⟨y0, e0⟩ := field_of (hf 0 _ rfl) (by omega)
  obtain ⟨a0, r0, k0⟩ := opens_9 _ _ _ _ _ _ _ _ _ e0
  have r0 : Rc w (UA w) ((cs.drop 0).take (Tryd.prog.cellsOf 9)) _ := r0
  rw [cz9] at r0
  obtain ⟨y1, e1⟩ := field_of (hf 1 _ rfl) (by omega)
  obtain ⟨a1, r1, k1⟩ := opens_9 _ _ _ _ _ _ _ _ _ e1
  have r1 : Rc w (UA w) ((cs.drop 1).take (Tryd.prog.cellsOf 9)) _ := r1
  rw [cz9] at r1
  obtain ⟨y2, e2⟩ := field_of (hf 2 _ rfl) (by omega)
  obtain ⟨a2, r2, k2⟩ := opens_4 _ _ _ _ _ _ _ _ _ e2
  have r2 : Rc w (UA w) ((cs.drop 2).take (Tryd.prog.cellsOf 4)) _ := r2
  rw [cz4] at r2
  obtain ⟨y3, e3⟩ := field_of (hf 3 _ rfl) (by omega)
  obtain ⟨a3, r3, k3⟩ := opens_42 _ _ _ _ _ _ _ _ _ e3
  have r3 : Rc w (UA w) ((cs.drop 3).take (Tryd.prog.cellsOf 42)) _ := r3
  rw [cz42] at r3
  obtain ⟨y4, e4⟩ := field_of (hf 4 _ rfl) (by omega)
  obtain ⟨a4, r4, k4⟩ := opens_44 _ _ _ _ _ _ _ _ _ e4
  have r4 : Rc w (UA w) ((cs.drop 4).take (Tryd.prog.cellsOf 44)) _ := r4
  rw [cz44] at r4
  obtain ⟨y5, e5⟩ := field_of (hf 5 _ rfl) (by omega)
  obtain ⟨a5, r5, k5⟩ := opens_4 _ _ _ _ _ _ _ _ _ e5
  have r5 : Rc w (UA w) ((cs.drop 8).take (Tryd.prog.cellsOf 4)) _ := r5
  rw [cz4] at r5
  refine ⟨⟨a0, a1, a2, a3, a4, a5⟩, ?_, ⟨k0, k1, k2, k3, k4, k5⟩⟩
  exact rc_step r0 (rc_step r1 (rc_step r2 (rc_step r3 (rc_step r4 (rc_step r5 (rc_end hl))))))
theorem opens_31 : Opens Tryd.prog 31 (rL 9 eAc) (fun l => l.length ≤ 9223372036854775807 ∧ ∀ a ∈ l, okAc a) := opens_len (opens_slice Tryd.underlying31 cz46 (by omega) opens_46 (fun _ => rfl))
def okCa (x : Ca) : Prop := x.name.size ≤ maxLen ∧ x.sys.size ≤ maxLen ∧ (Lit.int .i64 x.days).wf = true ∧ (Lit.int .i64 x.cents).wf = true
theorem opens_78 : Opens Tryd.prog 78 eCa okCa := by
  intro H enc w base spare held fuel cs x h
  obtain ⟨ys, n, _, _, hl, hy, hf⟩ := DataW.trod_struct Tryd.underlying78 h
  rw [cz78] at hl
  have hy : ys.length = 4 := hy
  obtain ⟨y0, e0⟩ := field_of (hf 0 _ rfl) (by omega)
  obtain ⟨a0, r0, k0⟩ := opens_9 _ _ _ _ _ _ _ _ _ e0
  have r0 : Rc w (UA w) ((cs.drop 0).take (Tryd.prog.cellsOf 9)) _ := r0
  rw [cz9] at r0
  obtain ⟨y1, e1⟩ := field_of (hf 1 _ rfl) (by omega)
  obtain ⟨a1, r1, k1⟩ := opens_9 _ _ _ _ _ _ _ _ _ e1
  have r1 : Rc w (UA w) ((cs.drop 1).take (Tryd.prog.cellsOf 9)) _ := r1
  rw [cz9] at r1
  obtain ⟨y2, e2⟩ := field_of (hf 2 _ rfl) (by omega)
  obtain ⟨a2, r2, k2⟩ := opens_3 _ _ _ _ _ _ _ _ _ e2
  have r2 : Rc w (UA w) ((cs.drop 2).take (Tryd.prog.cellsOf 3)) _ := r2
  rw [cz3] at r2
  obtain ⟨y3, e3⟩ := field_of (hf 3 _ rfl) (by omega)
  obtain ⟨a3, r3, k3⟩ := opens_3 _ _ _ _ _ _ _ _ _ e3
  have r3 : Rc w (UA w) ((cs.drop 3).take (Tryd.prog.cellsOf 3)) _ := r3
  rw [cz3] at r3
  refine ⟨⟨a0, a1, a2, a3⟩, ?_, ⟨k0, k1, k2, k3⟩⟩
  exact rc_step r0 (rc_step r1 (rc_step r2 (rc_step r3 (rc_end hl))))
theorem opens_32 : Opens Tryd.prog 32 (rL 4 eCa) (fun l => l.length ≤ 9223372036854775807 ∧ ∀ a ∈ l, okCa a) := opens_len (opens_slice Tryd.underlying32 cz78 (by omega) opens_78 (fun _ => rfl))
def okLin (x : Lin) : Prop := x.f0.size ≤ maxLen ∧ (Lit.int .i64 x.f1).wf = true
theorem opens_89 : Opens Tryd.prog 89 eLin okLin := by
  intro H enc w base spare held fuel cs x h
  obtain ⟨ys, n, _, _, hl, hy, hf⟩ := DataW.trod_struct Tryd.underlying89 h
  rw [cz89] at hl
  have hy : ys.length = 2 := hy
  obtain ⟨y0, e0⟩ := field_of (hf 0 _ rfl) (by omega)
  obtain ⟨a0, r0, k0⟩ := opens_9 _ _ _ _ _ _ _ _ _ e0
  have r0 : Rc w (UA w) ((cs.drop 0).take (Tryd.prog.cellsOf 9)) _ := r0
  rw [cz9] at r0
  obtain ⟨y1, e1⟩ := field_of (hf 1 _ rfl) (by omega)
  obtain ⟨a1, r1, k1⟩ := opens_3 _ _ _ _ _ _ _ _ _ e1
  have r1 : Rc w (UA w) ((cs.drop 1).take (Tryd.prog.cellsOf 3)) _ := r1
  rw [cz3] at r1
  refine ⟨⟨a0, a1⟩, ?_, ⟨k0, k1⟩⟩
  exact rc_step r0 (rc_step r1 (rc_end hl))
theorem opens_39 : Opens Tryd.prog 39 (rL 2 eLin) (fun l => l.length ≤ 9223372036854775807 ∧ ∀ a ∈ l, okLin a) := opens_len (opens_slice Tryd.underlying39 cz89 (by omega) opens_89 (fun _ => rfl))
def okChg (x : Chg) : Prop := x.key.size ≤ maxLen ∧ x.veh.size ≤ maxLen ∧ x.sys.size ≤ maxLen ∧ (Lit.int .i64 x.cls).wf = true ∧ (Lit.int .i64 x.time).wf = true ∧ (x.lines.length ≤ 9223372036854775807 ∧ ∀ a ∈ x.lines, okLin a) ∧ (Lit.int .i64 x.cents).wf = true
theorem opens_41 : Opens Tryd.prog 41 eChg okChg := by
  intro H enc w base spare held fuel cs x h
  obtain ⟨ys, n, _, _, hl, hy, hf⟩ := DataW.trod_struct Tryd.underlying41 h
  rw [cz41] at hl
  have hy : ys.length = 7 := hy
  obtain ⟨y0, e0⟩ := field_of (hf 0 _ rfl) (by omega)
  obtain ⟨a0, r0, k0⟩ := opens_9 _ _ _ _ _ _ _ _ _ e0
  have r0 : Rc w (UA w) ((cs.drop 0).take (Tryd.prog.cellsOf 9)) _ := r0
  rw [cz9] at r0
  obtain ⟨y1, e1⟩ := field_of (hf 1 _ rfl) (by omega)
  obtain ⟨a1, r1, k1⟩ := opens_9 _ _ _ _ _ _ _ _ _ e1
  have r1 : Rc w (UA w) ((cs.drop 1).take (Tryd.prog.cellsOf 9)) _ := r1
  rw [cz9] at r1
  obtain ⟨y2, e2⟩ := field_of (hf 2 _ rfl) (by omega)
  obtain ⟨a2, r2, k2⟩ := opens_9 _ _ _ _ _ _ _ _ _ e2
  have r2 : Rc w (UA w) ((cs.drop 2).take (Tryd.prog.cellsOf 9)) _ := r2
  rw [cz9] at r2
  obtain ⟨y3, e3⟩ := field_of (hf 3 _ rfl) (by omega)
  obtain ⟨a3, r3, k3⟩ := opens_3 _ _ _ _ _ _ _ _ _ e3
  have r3 : Rc w (UA w) ((cs.drop 3).take (Tryd.prog.cellsOf 3)) _ := r3
  rw [cz3] at r3
  obtain ⟨y4, e4⟩ := field_of (hf 4 _ rfl) (by omega)
  obtain ⟨a4, r4, k4⟩ := opens_3 _ _ _ _ _ _ _ _ _ e4
  have r4 : Rc w (UA w) ((cs.drop 4).take (Tryd.prog.cellsOf 3)) _ := r4
  rw [cz3] at r4
  obtain ⟨y5, e5⟩ := field_of (hf 5 _ rfl) (by omega)
  obtain ⟨a5, r5, k5⟩ := opens_39 _ _ _ _ _ _ _ _ _ e5
  have r5 : Rc w (UA w) ((cs.drop 5).take (Tryd.prog.cellsOf 39)) _ := r5
  rw [cz39] at r5
  obtain ⟨y6, e6⟩ := field_of (hf 6 _ rfl) (by omega)
  obtain ⟨a6, r6, k6⟩ := opens_3 _ _ _ _ _ _ _ _ _ e6
  have r6 : Rc w (UA w) ((cs.drop 6).take (Tryd.prog.cellsOf 3)) _ := r6
  rw [cz3] at r6
  refine ⟨⟨a0, a1, a2, a3, a4, a5, a6⟩, ?_, ⟨k0, k1, k2, k3, k4, k5, k6⟩⟩
  exact rc_step r0 (rc_step r1 (rc_step r2 (rc_step r3 (rc_step r4 (rc_step r5 (rc_step r6 (rc_end hl)))))))
theorem opens_33 : Opens Tryd.prog 33 (rL 7 eChg) (fun l => l.length ≤ 9223372036854775807 ∧ ∀ a ∈ l, okChg a) := opens_len (opens_slice Tryd.underlying33 cz41 (by omega) opens_41 (fun _ => rfl))
def okBil (x : Bil) : Prop := (x.acc.length ≤ 9223372036854775807 ∧ ∀ a ∈ x.acc, okAc a) ∧ (x.caps.length ≤ 9223372036854775807 ∧ ∀ a ∈ x.caps, okCa a) ∧ (x.chs.length ≤ 9223372036854775807 ∧ ∀ a ∈ x.chs, okChg a)
theorem opens_35 : Opens Tryd.prog 35 eBil okBil := by
  intro H enc w base spare held fuel cs x h
  obtain ⟨ys, n, _, _, hl, hy, hf⟩ := DataW.trod_struct Tryd.underlying35 h
  rw [cz35] at hl
  have hy : ys.length = 3 := hy
  obtain ⟨y0, e0⟩ := field_of (hf 0 _ rfl) (by omega)
  obtain ⟨a0, r0, k0⟩ := opens_31 _ _ _ _ _ _ _ _ _ e0
  have r0 : Rc w (UA w) ((cs.drop 0).take (Tryd.prog.cellsOf 31)) _ := r0
  rw [cz31] at r0
  obtain ⟨y1, e1⟩ := field_of (hf 1 _ rfl) (by omega)
  obtain ⟨a1, r1, k1⟩ := opens_32 _ _ _ _ _ _ _ _ _ e1
  have r1 : Rc w (UA w) ((cs.drop 1).take (Tryd.prog.cellsOf 32)) _ := r1
  rw [cz32] at r1
  obtain ⟨y2, e2⟩ := field_of (hf 2 _ rfl) (by omega)
  obtain ⟨a2, r2, k2⟩ := opens_33 _ _ _ _ _ _ _ _ _ e2
  have r2 : Rc w (UA w) ((cs.drop 2).take (Tryd.prog.cellsOf 33)) _ := r2
  rw [cz33] at r2
  refine ⟨⟨a0, a1, a2⟩, ?_, ⟨k0, k1, k2⟩⟩
  exact rc_step r0 (rc_step r1 (rc_step r2 (rc_end hl)))
theorem i64_r {n : Int} (h : (Lit.int .i64 n).wf = true) : -9223372036854775808 ≤ n ∧ n ≤ 9223372036854775807 := by simpa [Lit.wf, IntKind.min, IntKind.max, IntKind.signed, IntKind.bits] using h
theorem u16_r {n : Int} (h : (Lit.int .u16 n).wf = true) : 0 ≤ n ∧ n ≤ 65535 := by simpa [Lit.wf, IntKind.min, IntKind.max, IntKind.signed, IntKind.bits] using h
end Go.Proofs.YtjgfdheodnmddaaDoor.Wk
