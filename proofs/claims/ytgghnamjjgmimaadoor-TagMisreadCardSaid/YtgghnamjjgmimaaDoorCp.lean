/- How two states compare, in the layer. No condition. -/
import Derived.Test.YtgghnamjjgmimaaDoorCs
set_option linter.unusedSimpArgs false
set_option linter.unusedVariables false
namespace Go.Proofs.YtgghnamjjgmimaaDoor.Wk
open Go.RowKit
open Go.Proofs.YtgghnamjjgmimaaDoor.Mt
set_option maxHeartbeats 2000000 in
theorem compare29 (a b : ByteArray) (f1 f2 s1 s2 : Int) (w : World) : Calls Tryd.prog 29 #[.agg #[.string a, .int .i64 f1, .int .i64 s1], .agg #[.string b, .int .i64 f2, .int .i64 s2]] w fun e w' => e = .returned (.int .i64 (cO (cB a b) (cI f1 f2))) ∧ Below w.heap.size w w' := by
  have HX := Lib.hid ((Bx.new w 45 #[.string a, .int .i64 f1, .int .i64 s1]).alloc (.cells #[.string b, .int .i64 f2, .int .i64 s2] 45))
  have HY : Hid (Bx ((w.alloc (.cells #[.string a, .int .i64 f1, .int .i64 s1] 45)).alloc (.cells #[.string b, .int .i64 f2, .int .i64 s2] 45)) (w.heap.size + 1) 45 #[.string b, .int .i64 f2, .int .i64 s2]) := Lib.hid (Bx.newAt (by simp))
  have HB := Lib.hid (((Below.refl w.heap.size w).alloc (Nat.le_refl _) (.cells #[.string a, .int .i64 f1, .int .i64 s1] 45)).alloc (by simp) (.cells #[.string b, .int .i64 f2, .int .i64 s2] 45))
  obtain ⟨p, hp⟩ : ∃ p, cB a b = p := ⟨_, rfl⟩
  obtain ⟨q, hq⟩ : ∃ q, cI f1 f2 = q := ⟨_, rfl⟩
  have HP := Lib.hid hp
  have HQ := Lib.hid hq
  rw [hp, hq]
  clear hp hq
  go_enter Tryd.func29, Tryd.ntmps29
  go_wp2_with fail
  replace HX := Lib.hid (HX.out.next (Below.refl _ _).drew)
  replace HY := Lib.hid (HY.out.next (Below.refl _ _).drew)
  replace HB := Lib.hid (upB HB.out (Below.refl _ _).drew)
  obtain ⟨c0, c1, c2⟩ := HX.out.cells3
  obtain ⟨d0, d1, d2⟩ := HY.out.cells3
  have hlx := HX.out.lt
  have hly := HY.out.lt
  have HZ : Hid (Bx (((w.alloc (.cells #[.string a, .int .i64 f1, .int .i64 s1] 45)).alloc (.cells #[.string b, .int .i64 f2, .int .i64 s2] 45)).alloc (.cells #[.int .i64 p, .int .i64 q] 3)).drew (w.heap.size + 1 + 1) 3 #[.int .i64 p, .int .i64 q]) := Lib.hid ((Bx.newAt (by simp)).next (Below.refl _ _).drew)
  have HBZ : Hid (Below w.heap.size w (((w.alloc (.cells #[.string a, .int .i64 f1, .int .i64 s1] 45)).alloc (.cells #[.string b, .int .i64 f2, .int .i64 s2] 45)).alloc (.cells #[.int .i64 p, .int .i64 q] 3)).drew) := Lib.hid ((((((Below.refl w.heap.size w).alloc (Nat.le_refl _) _).alloc (by simp) _)).alloc (by simp; omega) _).drew)
  have HXZ : Hid (Bx (((w.alloc (.cells #[.string a, .int .i64 f1, .int .i64 s1] 45)).alloc (.cells #[.string b, .int .i64 f2, .int .i64 s2] 45)).alloc (.cells #[.int .i64 p, .int .i64 q] 3)).drew w.heap.size 45 #[.string a, .int .i64 f1, .int .i64 s1]) := Lib.hid ((((Bx.new w 45 _).alloc _).alloc _).next (Below.refl _ _).drew)
  have HYZ : Hid (Bx (((w.alloc (.cells #[.string a, .int .i64 f1, .int .i64 s1] 45)).alloc (.cells #[.string b, .int .i64 f2, .int .i64 s2] 45)).alloc (.cells #[.int .i64 p, .int .i64 q] 3)).drew (w.heap.size + 1) 45 #[.string b, .int .i64 f2, .int .i64 s2]) := Lib.hid (((Bx.newAt (by simp)).alloc _).next (Below.refl _ _).drew)
  first | (go_region_held3 (fun w' => Hid (Below w.heap.size w w') ∧ w.heap.size < w'.heap.size ∧ w.heap.size + 1 < w'.heap.size ∧ w'.cell? ⟨w.heap.size, 0, none⟩ = some (.string a) ∧ w'.cell? ⟨w.heap.size, 1, none⟩ = some (.int .i64 f1) ∧ w'.cell? ⟨w.heap.size + 1, 0, none⟩ = some (.string b) ∧ w'.cell? ⟨w.heap.size + 1, 1, none⟩ = some (.int .i64 f2)) (first | exact ⟨HBE, HX9.out.lt, HY9.out.lt, HX9.out.cells3.1, HX9.out.cells3.2.1, HY9.out.cells3.1, HY9.out.cells3.2.1⟩ | exact ⟨HB, HX.out.lt, HY.out.lt, HX.out.cells3.1, HX.out.cells3.2.1, HY.out.cells3.1, HY.out.cells3.2.1⟩ | assumption | exact ⟨HBq, HXq.out.lt, HYq.out.lt, HXq.out.cells3.1, HXq.out.cells3.2.1, HYq.out.cells3.1, HYq.out.cells3.2.1⟩)
    (first
      | (go_at_call 33; refine (cmp33 a b _).mono ?_; rintro e w3 ⟨rfl, rfl⟩; rw [HP.out]; have HXq := Lib.hid (HX.out.alloc (.cells #[.int .i64 p, .int .i64 q] 3)); have HYq := Lib.hid (HY.out.alloc (.cells #[.int .i64 p, .int .i64 q] 3)); have HBq := Lib.hid (HB.out.alloc HB.out.size (.cells #[.int .i64 p, .int .i64 q] 3)))
      | (go_at_call 34; refine (cmp34 f1 f2 _).mono ?_; rintro e w3 ⟨rfl, rfl⟩; rw [HQ.out])
      | (go_at_call 32; refine (or32 _ p q _ HZ.out).mono ?_; rintro e w3 ⟨rfl, hb⟩; have HBE := Lib.hid (upB HBZ.out hb); have HX9 := Lib.hid (HXZ.out.next hb); have HY9 := Lib.hid (HYZ.out.next hb); clear hb))) | fail
  all_goals go_wp2_with fail
  all_goals go_ret
  all_goals exact ⟨rfl, HBE.out⟩
end Go.Proofs.YtgghnamjjgmimaaDoor.Wk
