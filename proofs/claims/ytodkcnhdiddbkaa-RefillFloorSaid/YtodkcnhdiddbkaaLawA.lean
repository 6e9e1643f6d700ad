/- The walks of RefillChecks, RefillSteps, RefillFails. No condition. -/
import Derived.Test.YtodkcnhdiddbkaaAlive
import Derived.Deep.RegionWith
set_option linter.unusedSimpArgs false
set_option linter.unusedVariables false
namespace Go.Proofs.Ytodkcnhdiddbkaa.Wk
open Go.RowKit
open Go.Proofs.Ytodkcnhdiddbkaa.Mt
/-- nothing that was there is written, and the first new block is the boxed rule -/
def Keep (w0 w : World) (cs : Array Value) : Prop := Below w0.heap.size w0 w ∧ Bx w w0.heap.size 23 cs
theorem Keep.next {w0 w w' : World} {cs : Array Value} (h : Keep w0 w cs) (hb : Below w.heap.size w w') : Keep w0 w' cs := ⟨upB h.1 hb, h.2.next hb⟩
theorem Keep.drew {w0 w : World} {cs : Array Value} (h : Keep w0 w cs) : Keep w0 w.drew cs := ⟨h.1.drew, h.2⟩
theorem Keep.new (w : World) (cs : Array Value) : Keep w (w.alloc (.cells cs 23)) cs := ⟨b1 _ _, Bx.new _ _ _⟩

set_option maxHeartbeats 1000000 in
theorem checks_law (b c t v : Int) (w : World) : Calls Try.prog 3 #[.agg #[.int .i64 b, .int .i64 c, .int .i64 t, .int .i64 v]] w fun e w' => e = .returned (.bool true) ∧ Below w.heap.size w w' := by
  obtain ⟨x, hx⟩ : ∃ x, chk ⟨b, c, t, v⟩ = x := ⟨_, rfl⟩
  have HX := Lib.hid hx
  have HR0 := Lib.hid (Keep.new w #[.int .i64 b, .int .i64 c, .int .i64 t, .int .i64 v])
  have hxx : (x == x) = true := by simp
  clear hx
  go_enter Try.func3, Try.ntmps3
  go_wp2_with fail
  go_region_with (first
    | (go_at_call 11; refine (check_any b c t v _).mono ?_; rintro e w1 ⟨he, hb1⟩; rw [HX.out] at he; subst he; (first | have HR1 := Lib.hid (HR2.out.next hb1) | have HR1 := Lib.hid (HR0.out.drew.next hb1)); obtain ⟨c0, c1, c2, c3⟩ := HR1.out.2.cells4; clear hb1)
    | (go_at_call 12; refine (Check_any b c t v _).mono ?_; rintro e w2 ⟨he, hb2⟩; rw [HX.out] at he; subst he; (first | have HR2 := Lib.hid (HR1.out.next hb2) | have HR2 := Lib.hid (HR0.out.drew.next hb2)); obtain ⟨c0, c1, c2, c3⟩ := HR2.out.2.cells4; clear hb2)
    | (go_at_call 13; refine (alive_any _).mono ?_; rintro e w3 ⟨rfl, hb3⟩))
  all_goals go_wp2_with fail
  all_goals go_ret
  all_goals exact ⟨rfl, upB HR2.out.1 hb3⟩
/-- Step, Success and Resume, with one state for both sides -/
theorem Step_r {b c t v bal x : Int} {f f' : Fi} {y : Int} (h : stp ⟨b, c, t, v⟩ f bal x = (f', y)) (w : World) :
    Calls Try.prog 15 #[.agg #[.int .i64 b, .int .i64 c, .int .i64 t, .int .i64 v], .agg #[.int .i64 f.s, .int .i64 f.f, .int .i64 f.n], .int .i64 bal, .int .i64 x] w
      fun e w' => e = .returned (.tuple #[.agg #[.int .i64 f'.s, .int .i64 f'.f, .int .i64 f'.n], .int .i64 y]) ∧ Below w.heap.size w w' :=
  (Step_any b c t v f.s f.f f.n bal x w).mono fun e w' ⟨he, hb⟩ => ⟨by rw [he, h]; rfl, hb⟩
theorem suc2_r {b c t v : Int} {f f' : Fi} {y : Int} (h : suc f = (f', y)) (w : World) :
    Calls Try.prog 16 #[.agg #[.int .i64 b, .int .i64 c, .int .i64 t, .int .i64 v], .agg #[.int .i64 f.s, .int .i64 f.f, .int .i64 f.n]] w
      fun e w' => e = .returned (.tuple #[.agg #[.int .i64 f'.s, .int .i64 f'.f, .int .i64 f'.n], .int .i64 y]) ∧ Below w.heap.size w w' :=
  (suc_any b c t v f.s f.f f.n w).mono fun e w' ⟨he, hb⟩ => ⟨by rw [he, h]; rfl, hb⟩
theorem Suc2_r {b c t v : Int} {f f' : Fi} {y : Int} (h : suc f = (f', y)) (w : World) :
    Calls Try.prog 17 #[.agg #[.int .i64 b, .int .i64 c, .int .i64 t, .int .i64 v], .agg #[.int .i64 f.s, .int .i64 f.f, .int .i64 f.n]] w
      fun e w' => e = .returned (.tuple #[.agg #[.int .i64 f'.s, .int .i64 f'.f, .int .i64 f'.n], .int .i64 y]) ∧ Below w.heap.size w w' :=
  (Suc_any b c t v f.s f.f f.n w).mono fun e w' ⟨he, hb⟩ => ⟨by rw [he, h]; rfl, hb⟩
theorem res2_r {f f' : Fi} {y : Int} (h : res f = (f', y)) (w : World) :
    Calls Try.prog 18 #[.agg #[.int .i64 f.s, .int .i64 f.f, .int .i64 f.n]] w
      fun e w' => e = .returned (.tuple #[.agg #[.int .i64 f'.s, .int .i64 f'.f, .int .i64 f'.n], .int .i64 y]) ∧ Below w.heap.size w w' :=
  (res_any f.s f.f f.n w).mono fun e w' ⟨he, hb⟩ => ⟨by rw [he, h]; rfl, hb⟩
theorem Res2_r {f f' : Fi} {y : Int} (h : res f = (f', y)) (w : World) :
    Calls Try.prog 19 #[.agg #[.int .i64 f.s, .int .i64 f.f, .int .i64 f.n]] w
      fun e w' => e = .returned (.tuple #[.agg #[.int .i64 f'.s, .int .i64 f'.f, .int .i64 f'.n], .int .i64 y]) ∧ Below w.heap.size w w' :=
  (Res_any f.s f.f f.n w).mono fun e w' ⟨he, hb⟩ => ⟨by rw [he, h]; rfl, hb⟩
theorem Fai_r {b c t v s g n x y : Int} {f' : Fi} (h : fai ⟨b, c, t, v⟩ ⟨s, g, n⟩ x = (f', y)) (hg : 0 ≤ g ∧ g ≤ 2147483648) (hv : 0 ≤ v ∧ v ≤ 68719476736) (w : World) :
    Calls Try.prog 21 #[.agg #[.int .i64 b, .int .i64 c, .int .i64 t, .int .i64 v], .agg #[.int .i64 s, .int .i64 g, .int .i64 n], .int .i64 x] w
      fun e w' => e = .returned (.tuple #[.agg #[.int .i64 f'.s, .int .i64 f'.f, .int .i64 f'.n], .int .i64 y]) ∧ Below w.heap.size w w' :=
  (Fai_any b c t v s g n x w hg hv).mono fun e w' ⟨he, hb⟩ => ⟨by rw [he, h]; rfl, hb⟩

set_option maxHeartbeats 4000000 in
set_option maxRecDepth 100000 in
theorem steps_law (b c t v s g n bal x : Int) (w : World) : Calls Try.prog 4 #[.agg #[.int .i64 b, .int .i64 c, .int .i64 t, .int .i64 v], .agg #[.int .i64 s, .int .i64 g, .int .i64 n], .int .i64 bal, .int .i64 x] w fun e w' => e = .returned (.bool true) ∧ Below w.heap.size w w' := by
  obtain ⟨⟨⟨a0, a1, a2⟩, y0⟩, h0⟩ : ∃ p, stp ⟨b, c, t, v⟩ ⟨s, g, n⟩ bal x = p := ⟨_, rfl⟩
  obtain ⟨⟨⟨d0, d1, d2⟩, y1⟩, h1⟩ : ∃ p, suc ⟨s, g, n⟩ = p := ⟨_, rfl⟩
  obtain ⟨⟨⟨k0, k1, k2⟩, y2⟩, h2⟩ : ∃ p, res ⟨s, g, n⟩ = p := ⟨_, rfl⟩
  have K0 := Lib.hid h0
  have K1 := Lib.hid h1
  have K2 := Lib.hid h2
  clear h0 h1 h2
  go_enter Try.func4, Try.ntmps4
  go_wp2_with fail
  have hA0 : Below w.heap.size w ((w.alloc (.cells #[.int .i64 b, .int .i64 c, .int .i64 t, .int .i64 v] 23)).alloc (.cells #[.int .i64 s, .int .i64 g, .int .i64 n] 30)) := b2 _ _ _
  have HR0 : Hid (Bx ((w.alloc (.cells #[.int .i64 b, .int .i64 c, .int .i64 t, .int .i64 v] 23)).alloc (.cells #[.int .i64 s, .int .i64 g, .int .i64 n] 30)) w.heap.size 23 #[.int .i64 b, .int .i64 c, .int .i64 t, .int .i64 v]) := Lib.hid ((Bx.new _ _ _).alloc _)
  have HF0 : Hid (Bx ((w.alloc (.cells #[.int .i64 b, .int .i64 c, .int .i64 t, .int .i64 v] 23)).alloc (.cells #[.int .i64 s, .int .i64 g, .int .i64 n] 30)) (w.heap.size + 1) 30 #[.int .i64 s, .int .i64 g, .int .i64 n]) := Lib.hid (Bx.newAt (by simp))
  refine (step_r (f := ⟨s, g, n⟩) K0.out _).mono ?_
  rintro e w1 ⟨rfl, hb1⟩
  have hA1 := upB hA0 hb1
  have HR1 := Lib.hid (HR0.out.next hb1)
  have HF1 := Lib.hid (HF0.out.next hb1)
  clear hb1 hA0 HR0 HF0
  obtain ⟨c0, c1, c2, c3⟩ := HR1.out.cells4
  have lR := HR1.out.lt
  obtain ⟨c4, c5, c6⟩ := HF1.out.cells3
  have lF := HF1.out.lt
  go_wp2_with fail
  refine (Step_r (f := ⟨s, g, n⟩) K0.out _).mono ?_
  rintro e w2 ⟨rfl, hb2⟩
  have hA2 := upB (hA1.alloc hA1.size _) hb2
  have HR2 := Lib.hid ((HR1.out.alloc _).next hb2)
  have HF2 := Lib.hid ((HF1.out.alloc _).next hb2)
  have HX12 : Hid (Bx w2 w1.heap.size 30 #[.int .i64 a0, .int .i64 a1, .int .i64 a2]) := Lib.hid ((Bx.new w1 30 #[.int .i64 a0, .int .i64 a1, .int .i64 a2]).next hb2)
  clear hb2 hA1 HR1 HF1
  clear c0 c1 c2 c3 lR c4 c5 c6 lF 
  obtain ⟨c0, c1, c2, c3⟩ := HR2.out.cells4
  have lR := HR2.out.lt
  obtain ⟨c4, c5, c6⟩ := HF2.out.cells3
  have lF := HF2.out.lt
  obtain ⟨c7, c8, c9⟩ := HX12.out.cells3
  have lX1 := HX12.out.lt
  go_wp2_with fail
  refine (suc2_r (f := ⟨s, g, n⟩) K1.out _).mono ?_
  rintro e w3 ⟨rfl, hb3⟩
  have hA3 := upB (hA2.alloc hA2.size _) hb3
  have HR3 := Lib.hid ((HR2.out.alloc _).next hb3)
  have HF3 := Lib.hid ((HF2.out.alloc _).next hb3)
  have HX13 := Lib.hid ((HX12.out.alloc _).next hb3)
  have HX23 : Hid (Bx w3 w2.heap.size 30 #[.int .i64 a0, .int .i64 a1, .int .i64 a2]) := Lib.hid ((Bx.new w2 30 #[.int .i64 a0, .int .i64 a1, .int .i64 a2]).next hb3)
  clear hb3 hA2 HR2 HF2 HX12
  clear c0 c1 c2 c3 lR c4 c5 c6 lF c7 c8 c9 lX1 
  obtain ⟨c0, c1, c2, c3⟩ := HR3.out.cells4
  have lR := HR3.out.lt
  obtain ⟨c4, c5, c6⟩ := HF3.out.cells3
  have lF := HF3.out.lt
  obtain ⟨c7, c8, c9⟩ := HX13.out.cells3
  have lX1 := HX13.out.lt
  obtain ⟨c10, c11, c12⟩ := HX23.out.cells3
  have lX2 := HX23.out.lt
  go_wp2_with fail
  refine (Suc2_r (f := ⟨s, g, n⟩) K1.out _).mono ?_
  rintro e w4 ⟨rfl, hb4⟩
  have hA4 := upB (hA3.alloc hA3.size _) hb4
  have HR4 := Lib.hid ((HR3.out.alloc _).next hb4)
  have HF4 := Lib.hid ((HF3.out.alloc _).next hb4)
  have HX14 := Lib.hid ((HX13.out.alloc _).next hb4)
  have HX24 := Lib.hid ((HX23.out.alloc _).next hb4)
  have HX34 : Hid (Bx w4 w3.heap.size 30 #[.int .i64 d0, .int .i64 d1, .int .i64 d2]) := Lib.hid ((Bx.new w3 30 #[.int .i64 d0, .int .i64 d1, .int .i64 d2]).next hb4)
  clear hb4 hA3 HR3 HF3 HX13 HX23
  clear c0 c1 c2 c3 lR c4 c5 c6 lF c7 c8 c9 lX1 c10 c11 c12 lX2 
  obtain ⟨c0, c1, c2, c3⟩ := HR4.out.cells4
  have lR := HR4.out.lt
  obtain ⟨c4, c5, c6⟩ := HF4.out.cells3
  have lF := HF4.out.lt
  obtain ⟨c7, c8, c9⟩ := HX14.out.cells3
  have lX1 := HX14.out.lt
  obtain ⟨c10, c11, c12⟩ := HX24.out.cells3
  have lX2 := HX24.out.lt
  obtain ⟨c13, c14, c15⟩ := HX34.out.cells3
  have lX3 := HX34.out.lt
  go_wp2_with fail
  refine (res2_r (f := ⟨s, g, n⟩) K2.out _).mono ?_
  rintro e w5 ⟨rfl, hb5⟩
  have hA5 := upB (hA4.alloc hA4.size _) hb5
  have HR5 := Lib.hid ((HR4.out.alloc _).next hb5)
  have HF5 := Lib.hid ((HF4.out.alloc _).next hb5)
  have HX15 := Lib.hid ((HX14.out.alloc _).next hb5)
  have HX25 := Lib.hid ((HX24.out.alloc _).next hb5)
  have HX35 := Lib.hid ((HX34.out.alloc _).next hb5)
  have HX45 : Hid (Bx w5 w4.heap.size 30 #[.int .i64 d0, .int .i64 d1, .int .i64 d2]) := Lib.hid ((Bx.new w4 30 #[.int .i64 d0, .int .i64 d1, .int .i64 d2]).next hb5)
  clear hb5 hA4 HR4 HF4 HX14 HX24 HX34
  clear c0 c1 c2 c3 lR c4 c5 c6 lF c7 c8 c9 lX1 c10 c11 c12 lX2 c13 c14 c15 lX3 
  obtain ⟨c0, c1, c2, c3⟩ := HR5.out.cells4
  have lR := HR5.out.lt
  obtain ⟨c4, c5, c6⟩ := HF5.out.cells3
  have lF := HF5.out.lt
  obtain ⟨c7, c8, c9⟩ := HX15.out.cells3
  have lX1 := HX15.out.lt
  obtain ⟨c10, c11, c12⟩ := HX25.out.cells3
  have lX2 := HX25.out.lt
  obtain ⟨c13, c14, c15⟩ := HX35.out.cells3
  have lX3 := HX35.out.lt
  obtain ⟨c16, c17, c18⟩ := HX45.out.cells3
  have lX4 := HX45.out.lt
  go_wp2_with fail
  refine (Res2_r (f := ⟨s, g, n⟩) K2.out _).mono ?_
  rintro e w6 ⟨rfl, hb6⟩
  have hA6 := upB (hA5.alloc hA5.size _) hb6
  have HR6 := Lib.hid ((HR5.out.alloc _).next hb6)
  have HF6 := Lib.hid ((HF5.out.alloc _).next hb6)
  have HX16 := Lib.hid ((HX15.out.alloc _).next hb6)
  have HX26 := Lib.hid ((HX25.out.alloc _).next hb6)
  have HX36 := Lib.hid ((HX35.out.alloc _).next hb6)
  have HX46 := Lib.hid ((HX45.out.alloc _).next hb6)
  have HX56 : Hid (Bx w6 w5.heap.size 30 #[.int .i64 k0, .int .i64 k1, .int .i64 k2]) := Lib.hid ((Bx.new w5 30 #[.int .i64 k0, .int .i64 k1, .int .i64 k2]).next hb6)
  clear hb6 hA5 HR5 HF5 HX15 HX25 HX35 HX45
  clear c0 c1 c2 c3 lR c4 c5 c6 lF c7 c8 c9 lX1 c10 c11 c12 lX2 c13 c14 c15 lX3 c16 c17 c18 lX4 
  obtain ⟨c0, c1, c2, c3⟩ := HR6.out.cells4
  have lR := HR6.out.lt
  obtain ⟨c4, c5, c6⟩ := HF6.out.cells3
  have lF := HF6.out.lt
  obtain ⟨c7, c8, c9⟩ := HX16.out.cells3
  have lX1 := HX16.out.lt
  obtain ⟨c10, c11, c12⟩ := HX26.out.cells3
  have lX2 := HX26.out.lt
  obtain ⟨c13, c14, c15⟩ := HX36.out.cells3
  have lX3 := HX36.out.lt
  obtain ⟨c16, c17, c18⟩ := HX46.out.cells3
  have lX4 := HX46.out.lt
  obtain ⟨c19, c20, c21⟩ := HX56.out.cells3
  have lX5 := HX56.out.lt
  go_wp2_with fail
  refine (alive_any _).mono ?_
  rintro e w7 ⟨rfl, hb7⟩
  have hA7 := upB (hA6.alloc hA6.size _) hb7
  clear hb7
  go_wp2_with fail
  go_ret
  exact ⟨rfl, hA7⟩
end Go.Proofs.Ytodkcnhdiddbkaa.Wk
