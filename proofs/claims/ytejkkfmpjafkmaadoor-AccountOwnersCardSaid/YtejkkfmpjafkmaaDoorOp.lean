/- What the arguments read as. Condition: they read as data. -/
import Derived.Test.YtejkkfmpjafkmaaDoorTy
import Derived.Test.YtejkkfmpjafkmaaDoorAvF
set_option linter.unusedSimpArgs false
set_option linter.unusedVariables false
namespace Go.Proofs.YtejkkfmpjafkmaaDoor.Wk
open Go Go.RowKit Go.Proofs.YtejkkfmpjafkmaaDoor.Av
theorem cz3 : Tryd.prog.cellsOf 3 = 1 := by kernel_rfl
theorem cz4 : Tryd.prog.cellsOf 4 = 1 := by kernel_rfl
theorem cz9 : Tryd.prog.cellsOf 9 = 1 := by kernel_rfl
theorem cz46 : Tryd.prog.cellsOf 46 = 2 := by kernel_rfl
theorem cz48 : Tryd.prog.cellsOf 48 = 4 := by kernel_rfl
theorem cz25 : Tryd.prog.cellsOf 25 = 1 := by kernel_rfl
theorem cz27 : Tryd.prog.cellsOf 27 = 4 := by kernel_rfl
theorem cz29 : Tryd.prog.cellsOf 29 = 9 := by kernel_rfl
theorem cz22 : Tryd.prog.cellsOf 22 = 1 := by kernel_rfl
theorem opens_3 : Opens Tryd.prog 3 (rI .i64) (fun n => (Lit.int .i64 n).wf = true) := opens_int Tryd.underlying3
theorem opens_4 : Opens Tryd.prog 4 rB (fun _ => True) := opens_bool Tryd.underlying4
theorem opens_9 : Opens Tryd.prog 9 rS (fun s => s.size ≤ maxLen) := opens_str Tryd.underlying9
def okIv (x : Iv) : Prop := (Lit.int .i64 x.fr).wf = true ∧ (Lit.int .i64 x.to).wf = true
theorem opens_46 : Opens Tryd.prog 46 eIv okIv := by
  intro H enc w base spare held fuel cs x h
  obtain ⟨ys, n, _, _, hl, hy, hf⟩ := DataW.trod_struct Tryd.underlying46 h
  rw [cz46] at hl
  have hy : ys.length = 2 := hy
  obtain ⟨y0, e0⟩ := field_of (hf 0 _ rfl) (by omega)
  obtain ⟨a0, r0, k0⟩ := opens_3 _ _ _ _ _ _ _ _ _ e0
  have r0 : Rc w (UA w) ((cs.drop 0).take (Tryd.prog.cellsOf 3)) _ := r0
  rw [cz3] at r0
  obtain ⟨y1, e1⟩ := field_of (hf 1 _ rfl) (by omega)
  obtain ⟨a1, r1, k1⟩ := opens_3 _ _ _ _ _ _ _ _ _ e1
  have r1 : Rc w (UA w) ((cs.drop 1).take (Tryd.prog.cellsOf 3)) _ := r1
  rw [cz3] at r1
  refine ⟨⟨a0, a1⟩, ?_, ⟨k0, k1⟩⟩
  exact rc_step r0 (rc_step r1 (rc_end hl))
def okOw (x : Ow) : Prop := x.tag.size ≤ maxLen ∧ x.plate.size ≤ maxLen ∧ okIv x.time
theorem opens_48 : Opens Tryd.prog 48 eOw okOw := by
  intro H enc w base spare held fuel cs x h
  obtain ⟨ys, n, _, _, hl, hy, hf⟩ := DataW.trod_struct Tryd.underlying48 h
  rw [cz48] at hl
  have hy : ys.length = 3 := hy
  obtain ⟨y0, e0⟩ := field_of (hf 0 _ rfl) (by omega)
  obtain ⟨a0, r0, k0⟩ := opens_9 _ _ _ _ _ _ _ _ _ e0
  have r0 : Rc w (UA w) ((cs.drop 0).take (Tryd.prog.cellsOf 9)) _ := r0
  rw [cz9] at r0
  obtain ⟨y1, e1⟩ := field_of (hf 1 _ rfl) (by omega)
  obtain ⟨a1, r1, k1⟩ := opens_9 _ _ _ _ _ _ _ _ _ e1
  have r1 : Rc w (UA w) ((cs.drop 1).take (Tryd.prog.cellsOf 9)) _ := r1
  rw [cz9] at r1
  obtain ⟨y2, e2⟩ := field_of (hf 2 _ rfl) (by omega)
  obtain ⟨a2, r2, k2⟩ := opens_46 _ _ _ _ _ _ _ _ _ e2
  have r2 : Rc w (UA w) ((cs.drop 2).take (Tryd.prog.cellsOf 46)) _ := r2
  rw [cz46] at r2
  refine ⟨⟨a0, a1, a2⟩, ?_, ⟨k0, k1, k2⟩⟩
  exact rc_step r0 (rc_step r1 (rc_step r2 (rc_end hl)))
theorem opens_25 : Opens Tryd.prog 25 (rL 4 eOw) (fun l => l.length ≤ 9223372036854775807 ∧ ∀ a ∈ l, okOw a) := opens_len (opens_slice Tryd.underlying25 cz48 (by omega) opens_48 (fun _ => rfl))
def okRf (x : Rf) : Prop := (Lit.int .i64 x.below).wf = true ∧ (Lit.int .i64 x.cents).wf = true ∧ (Lit.int .i64 x.tries).wf = true ∧ (Lit.int .i64 x.wait).wf = true
theorem opens_27 : Opens Tryd.prog 27 eRf okRf := by
  intro H enc w base spare held fuel cs x h
  obtain ⟨ys, n, _, _, hl, hy, hf⟩ := DataW.trod_struct Tryd.underlying27 h
  rw [cz27] at hl
  have hy : ys.length = 4 := hy
  obtain ⟨y0, e0⟩ := field_of (hf 0 _ rfl) (by omega)
  obtain ⟨a0, r0, k0⟩ := opens_3 _ _ _ _ _ _ _ _ _ e0
  have r0 : Rc w (UA w) ((cs.drop 0).take (Tryd.prog.cellsOf 3)) _ := r0
  rw [cz3] at r0
  obtain ⟨y1, e1⟩ := field_of (hf 1 _ rfl) (by omega)
  obtain ⟨a1, r1, k1⟩ := opens_3 _ _ _ _ _ _ _ _ _ e1
  have r1 : Rc w (UA w) ((cs.drop 1).take (Tryd.prog.cellsOf 3)) _ := r1
  rw [cz3] at r1
  obtain ⟨y2, e2⟩ := field_of (hf 2 _ rfl) (by omega)
  obtain ⟨a2, r2, k2⟩ := opens_3 _ _ _ _ _ _ _ _ _ e2
  have r2 : Rc w (UA w) ((cs.drop 2).take (Tryd.prog.cellsOf 3)) _ := r2
  rw [cz3] at r2
  obtain ⟨y3, e3⟩ := field_of (hf 3 _ rfl) (by omega)
  obtain ⟨a3, r3, k3⟩ := opens_3 _ _ _ _ _ _ _ _ _ e3
  have r3 : Rc w (UA w) ((cs.drop 3).take (Tryd.prog.cellsOf 3)) _ := r3
  rw [cz3] at r3
  refine ⟨⟨a0, a1, a2, a3⟩, ?_, ⟨k0, k1, k2, k3⟩⟩
  exact rc_step r0 (rc_step r1 (rc_step r2 (rc_step r3 (rc_end hl))))
def okAc (x : Ac) : Prop := x.name.size ≤ maxLen ∧ x.agency.size ≤ maxLen ∧ True ∧ (x.owned.length ≤ 9223372036854775807 ∧ ∀ a ∈ x.owned, okOw a) ∧ okRf x.refill ∧ True
theorem opens_29 : Opens Tryd.prog 29 eAc okAc := by
  intro H enc w base spare held fuel cs x h
  obtain ⟨ys, n, _, _, hl, hy, hf⟩ := DataW.trod_struct Tryd.underlying29 h
  rw [cz29] at hl
  have hy : ys.length = 6 := hy
  obtain ⟨y0, e0⟩ := field_of (hf 0 _ rfl) (by omega)
  obtain ⟨a0, r0, k0⟩ := opens_9 _ _ _ _ _ _ _ _ _ e0
  have r0 : Rc w (UA w) ((cs.drop 0).take (Tryd.prog.cellsOf 9)) _ := r0
  rw [cz9] at r0
  obtain ⟨y1, e1⟩ := field_of (hf 1 _ rfl) (by omega)
  obtain ⟨a1, r1, k1⟩ := opens_9 _ _ _ _ _ _ _ _ _ e1
  have r1 : Rc w (UA w) ((cs.drop 1).take (Tryd.prog.cellsOf 9)) _ := r1
  rw [cz9] at r1
  obtain ⟨y2, e2⟩ := field_of (hf 2 _ rfl) (by omega)
  obtain ⟨a2, r2, k2⟩ := opens_4 _ _ _ _ _ _ _ _ _ e2
  have r2 : Rc w (UA w) ((cs.drop 2).take (Tryd.prog.cellsOf 4)) _ := r2
  rw [cz4] at r2
  obtain ⟨y3, e3⟩ := field_of (hf 3 _ rfl) (by omega)
  obtain ⟨a3, r3, k3⟩ := opens_25 _ _ _ _ _ _ _ _ _ e3
  have r3 : Rc w (UA w) ((cs.drop 3).take (Tryd.prog.cellsOf 25)) _ := r3
  rw [cz25] at r3
  obtain ⟨y4, e4⟩ := field_of (hf 4 _ rfl) (by omega)
  obtain ⟨a4, r4, k4⟩ := opens_27 _ _ _ _ _ _ _ _ _ e4
  have r4 : Rc w (UA w) ((cs.drop 4).take (Tryd.prog.cellsOf 27)) _ := r4
  rw [cz27] at r4
  obtain ⟨y5, e5⟩ := field_of (hf 5 _ rfl) (by omega)
  obtain ⟨a5, r5, k5⟩ := opens_4 _ _ _ _ _ _ _ _ _ e5
  have r5 : Rc w (UA w) ((cs.drop 8).take (Tryd.prog.cellsOf 4)) _ := r5
  rw [cz4] at r5
  refine ⟨⟨a0, a1, a2, a3, a4, a5⟩, ?_, ⟨k0, k1, k2, k3, k4, k5⟩⟩
  exact rc_step r0 (rc_step r1 (rc_step r2 (rc_step r3 (rc_step r4 (rc_step r5 (rc_end hl))))))
theorem opens_22 : Opens Tryd.prog 22 (rL 9 eAc) (fun l => l.length ≤ 9223372036854775807 ∧ ∀ a ∈ l, okAc a) := opens_len (opens_slice Tryd.underlying22 cz29 (by omega) opens_29 (fun _ => rfl))
theorem i64_r {n : Int} (h : (Lit.int .i64 n).wf = true) : -9223372036854775808 ≤ n ∧ n ≤ 9223372036854775807 := by simpa [Lit.wf, IntKind.min, IntKind.max, IntKind.signed, IntKind.bits] using h
theorem u16_r {n : Int} (h : (Lit.int .u16 n).wf = true) : 0 ≤ n ∧ n ≤ 65535 := by simpa [Lit.wf, IntKind.min, IntKind.max, IntKind.signed, IntKind.bits] using h
end Go.Proofs.YtejkkfmpjafkmaaDoor.Wk
