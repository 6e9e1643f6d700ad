/- The walk of RefillFails. No condition. -/
import Derived.Test.YtodkcnhdiddbkaaLawA
set_option linter.unusedSimpArgs false
set_option linter.unusedVariables false
namespace Go.Proofs.Ytodkcnhdiddbkaa.Wk
open Go.RowKit
open Go.Proofs.Ytodkcnhdiddbkaa.Mt
set_option maxHeartbeats 4000000 in
set_option maxRecDepth 100000 in
theorem fails_law (b c t v s g n x : Int) (w : World) : Calls Try.prog 5 #[.agg #[.int .i64 b, .int .i64 c, .int .i64 t, .int .i64 v], .agg #[.int .i64 s, .int .i64 g, .int .i64 n], .int .i64 x] w fun e w' => e = .returned (.bool true) ∧ Below w.heap.size w w' := by
  by_cases hc : chk ⟨b, c, t, v⟩ = 0
  · have HX := Lib.hid hc
    have hv := chk_wait hc
    simp only at hv
    have HV := Lib.hid hv
    clear hc hv
    by_cases h1 : g < 0
    · skip
      go_enter Try.func5, Try.ntmps5
      go_wp2_with fail
      have hA0 : Below w.heap.size w ((w.alloc (.cells #[.int .i64 b, .int .i64 c, .int .i64 t, .int .i64 v] 23)).alloc (.cells #[.int .i64 s, .int .i64 g, .int .i64 n] 30)) := b2 _ _ _
      have HR0 : Hid (Bx ((w.alloc (.cells #[.int .i64 b, .int .i64 c, .int .i64 t, .int .i64 v] 23)).alloc (.cells #[.int .i64 s, .int .i64 g, .int .i64 n] 30)) w.heap.size 23 #[.int .i64 b, .int .i64 c, .int .i64 t, .int .i64 v]) := Lib.hid ((Bx.new _ _ _).alloc _)
      have HF0 : Hid (Bx ((w.alloc (.cells #[.int .i64 b, .int .i64 c, .int .i64 t, .int .i64 v] 23)).alloc (.cells #[.int .i64 s, .int .i64 g, .int .i64 n] 30)) (w.heap.size + 1) 30 #[.int .i64 s, .int .i64 g, .int .i64 n]) := Lib.hid (Bx.newAt (by simp))
      refine (Check_any b c t v _).mono ?_
      rintro e w1 ⟨he, hb1⟩
      rw [HX.out] at he
      subst he
      have hA1 := upB hA0 hb1
      have HR1 := Lib.hid (HR0.out.next hb1)
      have HF1 := Lib.hid (HF0.out.next hb1)
      clear hb1 hA0 HR0 HF0
      obtain ⟨c0, c1, c2, c3⟩ := HR1.out.cells4
      obtain ⟨c4, c5, c6⟩ := HF1.out.cells3
      have l1 := HR1.out.lt
      have l2 := HF1.out.lt
      go_wp2_with fail
      go_ret
      exact ⟨rfl, hA1⟩
    · by_cases h2 : 2147483648 < g
      · skip
        go_enter Try.func5, Try.ntmps5
        go_wp2_with fail
        have hA0 : Below w.heap.size w ((w.alloc (.cells #[.int .i64 b, .int .i64 c, .int .i64 t, .int .i64 v] 23)).alloc (.cells #[.int .i64 s, .int .i64 g, .int .i64 n] 30)) := b2 _ _ _
        have HR0 : Hid (Bx ((w.alloc (.cells #[.int .i64 b, .int .i64 c, .int .i64 t, .int .i64 v] 23)).alloc (.cells #[.int .i64 s, .int .i64 g, .int .i64 n] 30)) w.heap.size 23 #[.int .i64 b, .int .i64 c, .int .i64 t, .int .i64 v]) := Lib.hid ((Bx.new _ _ _).alloc _)
        have HF0 : Hid (Bx ((w.alloc (.cells #[.int .i64 b, .int .i64 c, .int .i64 t, .int .i64 v] 23)).alloc (.cells #[.int .i64 s, .int .i64 g, .int .i64 n] 30)) (w.heap.size + 1) 30 #[.int .i64 s, .int .i64 g, .int .i64 n]) := Lib.hid (Bx.newAt (by simp))
        refine (Check_any b c t v _).mono ?_
        rintro e w1 ⟨he, hb1⟩
        rw [HX.out] at he
        subst he
        have hA1 := upB hA0 hb1
        have HR1 := Lib.hid (HR0.out.next hb1)
        have HF1 := Lib.hid (HF0.out.next hb1)
        clear hb1 hA0 HR0 HF0
        obtain ⟨c0, c1, c2, c3⟩ := HR1.out.cells4
        obtain ⟨c4, c5, c6⟩ := HF1.out.cells3
        have l1 := HR1.out.lt
        have l2 := HF1.out.lt
        go_wp2_with fail
        go_ret
        exact ⟨rfl, hA1⟩
      · obtain ⟨⟨⟨a0, a1, a2⟩, y0⟩, h0⟩ : ∃ p, fai ⟨b, c, t, v⟩ ⟨s, g, n⟩ x = p := ⟨_, rfl⟩
        have K0 := Lib.hid h0
        clear h0
        go_enter Try.func5, Try.ntmps5
        go_wp2_with fail
        have hA0 : Below w.heap.size w ((w.alloc (.cells #[.int .i64 b, .int .i64 c, .int .i64 t, .int .i64 v] 23)).alloc (.cells #[.int .i64 s, .int .i64 g, .int .i64 n] 30)) := b2 _ _ _
        have HR0 : Hid (Bx ((w.alloc (.cells #[.int .i64 b, .int .i64 c, .int .i64 t, .int .i64 v] 23)).alloc (.cells #[.int .i64 s, .int .i64 g, .int .i64 n] 30)) w.heap.size 23 #[.int .i64 b, .int .i64 c, .int .i64 t, .int .i64 v]) := Lib.hid ((Bx.new _ _ _).alloc _)
        have HF0 : Hid (Bx ((w.alloc (.cells #[.int .i64 b, .int .i64 c, .int .i64 t, .int .i64 v] 23)).alloc (.cells #[.int .i64 s, .int .i64 g, .int .i64 n] 30)) (w.heap.size + 1) 30 #[.int .i64 s, .int .i64 g, .int .i64 n]) := Lib.hid (Bx.newAt (by simp))
        refine (Check_any b c t v _).mono ?_
        rintro e w1 ⟨he, hb1⟩
        rw [HX.out] at he
        subst he
        have hA1 := upB hA0 hb1
        have HR1 := Lib.hid (HR0.out.next hb1)
        have HF1 := Lib.hid (HF0.out.next hb1)
        clear hb1 hA0 HR0 HF0
        obtain ⟨c0, c1, c2, c3⟩ := HR1.out.cells4
        obtain ⟨c4, c5, c6⟩ := HF1.out.cells3
        have l1 := HR1.out.lt
        have l2 := HF1.out.lt
        go_wp2_with fail
        refine (fai_r K0.out (by omega) HV.out _).mono ?_
        rintro e w2 ⟨rfl, hb2⟩
        have hA2 := upB hA1 hb2
        have HR2 := Lib.hid (HR1.out.next hb2)
        have HF2 := Lib.hid (HF1.out.next hb2)
        clear hb2 hA1 HR1 HF1 c0 c1 c2 c3 c4 c5 c6 l1 l2
        obtain ⟨c0, c1, c2, c3⟩ := HR2.out.cells4
        obtain ⟨c4, c5, c6⟩ := HF2.out.cells3
        have l1 := HR2.out.lt
        have l2 := HF2.out.lt
        go_wp2_with fail
        refine (Fai_r K0.out (by omega) HV.out _).mono ?_
        rintro e w3 ⟨rfl, hb3⟩
        have hA3 := upB (hA2.alloc hA2.size _) hb3
        have HX3 : Hid (Bx w3 w2.heap.size 30 #[.int .i64 a0, .int .i64 a1, .int .i64 a2]) := Lib.hid ((Bx.new w2 30 #[.int .i64 a0, .int .i64 a1, .int .i64 a2]).next hb3)
        clear hb3 hA2 HR2 HF2 c0 c1 c2 c3 c4 c5 c6 l1 l2
        obtain ⟨c0, c1, c2⟩ := HX3.out.cells3
        have l1 := HX3.out.lt
        go_wp2_with fail
        refine (alive_any _).mono ?_
        rintro e w4 ⟨rfl, hb4⟩
        have hA4 := upB (hA3.alloc hA3.size _) hb4
        go_wp2_with fail
        go_ret
        exact ⟨rfl, hA4⟩
  · obtain ⟨y, hy⟩ : ∃ y, chk ⟨b, c, t, v⟩ = y := ⟨_, rfl⟩
    rw [hy] at hc
    have HX := Lib.hid hy
    have g1 : (y == 0) = false := by simpa using hc
    have g2 : (y != 0) = true := by simpa using hc
    clear hy hc
    go_enter Try.func5, Try.ntmps5
    go_wp2_with fail
    have hA0 : Below w.heap.size w ((w.alloc (.cells #[.int .i64 b, .int .i64 c, .int .i64 t, .int .i64 v] 23)).alloc (.cells #[.int .i64 s, .int .i64 g, .int .i64 n] 30)) := b2 _ _ _
    have HR0 : Hid (Bx ((w.alloc (.cells #[.int .i64 b, .int .i64 c, .int .i64 t, .int .i64 v] 23)).alloc (.cells #[.int .i64 s, .int .i64 g, .int .i64 n] 30)) w.heap.size 23 #[.int .i64 b, .int .i64 c, .int .i64 t, .int .i64 v]) := Lib.hid ((Bx.new _ _ _).alloc _)
    have HF0 : Hid (Bx ((w.alloc (.cells #[.int .i64 b, .int .i64 c, .int .i64 t, .int .i64 v] 23)).alloc (.cells #[.int .i64 s, .int .i64 g, .int .i64 n] 30)) (w.heap.size + 1) 30 #[.int .i64 s, .int .i64 g, .int .i64 n]) := Lib.hid (Bx.newAt (by simp))
    refine (Check_any b c t v _).mono ?_
    rintro e w1 ⟨he, hb1⟩
    rw [HX.out] at he
    subst he
    have hA1 := upB hA0 hb1
    have HR1 := Lib.hid (HR0.out.next hb1)
    have HF1 := Lib.hid (HF0.out.next hb1)
    clear hb1 hA0 HR0 HF0
    obtain ⟨c0, c1, c2, c3⟩ := HR1.out.cells4
    obtain ⟨c4, c5, c6⟩ := HF1.out.cells3
    have l1 := HR1.out.lt
    have l2 := HF1.out.lt
    go_wp2_with fail
    go_ret
    exact ⟨rfl, hA1⟩
end Go.Proofs.Ytodkcnhdiddbkaa.Wk
