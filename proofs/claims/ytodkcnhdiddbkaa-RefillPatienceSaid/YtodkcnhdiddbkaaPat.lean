/- The walk of RefillPatience. Conditions: none beside that the steps fit their kind. -/
import Derived.Test.YtodkcnhdiddbkaaLawC
set_option linter.unusedSimpArgs false
set_option linter.unusedVariables false
namespace Go.Proofs.Ytodkcnhdiddbkaa.Wk
open Go.RowKit
open Go.Proofs.Ytodkcnhdiddbkaa.Mt
/-- a valid rule with tries -/
theorem chk_good {b c t v : Int} (h : chk ⟨b, c, t, v⟩ = 0) (ht : 1 ≤ t) : 0 ≤ b ∧ b ≤ 1125899906842624 ∧ 1 ≤ c ∧ c ≤ 1125899906842624 ∧ t ≤ 16 ∧ 0 ≤ v ∧ v < 68719476736 := by
  unfold chk at h
  split at h
  · rename_i h0
    have h0 : b = 0 ∧ c = 0 ∧ t = 0 ∧ v = 0 := h0
    omega
  · split at h
    · omega
    · rename_i h1
      split at h
      · omega
      · rename_i h2
        have h2 : ¬ (b < 0 ∨ c < 1 ∨ t < 1 ∨ 16 < t ∨ tim v = false) := h2
        have h5 : ¬ b < 0 := fun h => h2 (.inl h)
        have h6 : ¬ c < 1 := fun h => h2 (.inr (.inl h))
        have h7 : ¬ 16 < t := fun h => h2 (.inr (.inr (.inr (.inl h))))
        have hb : fit b = true := by
          rcases fot (fit b) with h3 | h3
          · exact absurd (.inl h3) h1
          · exact h3
        have hc : fit c = true := by
          rcases fot (fit c) with h3 | h3
          · exact absurd (.inr h3) h1
          · exact h3
        have hv : tim v = true := by
          rcases fot (tim v) with h3 | h3
          · exact absurd (.inr (.inr (.inr (.inr h3)))) h2
          · exact h3
        have := (fit_iff b).1 hb
        have := (fit_iff c).1 hc
        have := (tim_iff v).1 hv
        omega
structure Pw (w0 wr : World) (q : Nat) (b c t v s g n : Int) : Prop where
  bel : Below w0.heap.size w0 wr
  hq : w0.heap.size < q
  rb : Bx wr w0.heap.size 23 #[.int .i64 b, .int .i64 c, .int .i64 t, .int .i64 v]
  fb : Bx wr q 30 #[.int .i64 s, .int .i64 g, .int .i64 n]
section
variable {w0 wr w1 : World} {q : Nat} {b c t v s g n : Int}
theorem Pw.below (h : Pw w0 wr q b c t v s g n) (hb : Below wr.heap.size wr w1) : Pw w0 w1 q b c t v s g n := ⟨upB h.bel hb, h.hq, h.rb.next hb, h.fb.next hb⟩
theorem Pw.setf (h : Pw w0 wr q b c t v s g n) (s' g' n' : Int) :
    Pw w0 (((wr.setCell ⟨q, 0, none⟩ (.int .i64 s')).setCell ⟨q, 1, none⟩ (.int .i64 g')).setCell ⟨q, 2, none⟩ (.int .i64 n')) q b c t v s' g' n' :=
  have hq := h.hq
  ⟨below_set3 h.bel (by omega) _ _ _, h.hq, h.rb.far3 (by omega) _ _ _, h.fb.set3 _ _ _⟩
end
set_option maxHeartbeats 8000000 in
set_option maxRecDepth 100000 in
theorem patience_law (b c t v : Int) (st : Nat) (hst : st ≤ 255) (w : World) : Calls Try.prog 9 #[.agg #[.int .i64 b, .int .i64 c, .int .i64 t, .int .i64 v], .int .u8 st] w fun e w' => e = .returned (.bool true) ∧ Below w.heap.size w w' := by
  have hA0 := b1 w (.cells #[.int .i64 b, .int .i64 c, .int .i64 t, .int .i64 v] 23)
  have HR0 := Lib.hid (Bx.new w 23 #[.int .i64 b, .int .i64 c, .int .i64 t, .int .i64 v])
  by_cases hc : chk ⟨b, c, t, v⟩ = 0
  · have HC := Lib.hid hc
    by_cases h200 : 200 < st
    · have h2 : (200 : Int) < (st : Int) := by omega
      clear hc
      go_enter Try.func9, Try.ntmps9
      go_wp2_with fail
      refine (check_any b c t v _).mono ?_
      rintro e w1 ⟨he, hb1⟩
      rw [HC.out] at he
      subst he
      have hA1 := upB hA0 hb1
      have HR1 := Lib.hid (HR0.out.next hb1)
      obtain ⟨r0, r1, r2, r3⟩ := HR1.out.cells4
      clear hb1 hA0 HR0
      go_wp2_with fail
      go_ret
      exact ⟨rfl, hA1⟩
    · have h2 : ¬ (200 : Int) < (st : Int) := by omega
      by_cases ht : t < 1
      · clear hc
        go_enter Try.func9, Try.ntmps9
        go_wp2_with fail
        refine (check_any b c t v _).mono ?_
        rintro e w1 ⟨he, hb1⟩
        rw [HC.out] at he
        subst he
        have hA1 := upB hA0 hb1
        have HR1 := Lib.hid (HR0.out.next hb1)
        obtain ⟨r0, r1, r2, r3⟩ := HR1.out.cells4
        clear hb1 hA0 HR0
        go_wp2_with fail
        go_ret
        exact ⟨rfl, hA1⟩
      · obtain ⟨hb0, hb1', hc0, hc1, ht1, hv0, hv1⟩ := chk_good hc (by omega)
        have ht0 : 1 ≤ t := by omega
        have h2' : decide ((200 : Int) < (st : Int)) = false := decide_eq_false h2
        have ht' : decide (t < 1) = false := decide_eq_false ht
        clear hc ht
        go_enter Try.func9, Try.ntmps9
        go_wp2_with fail
        refine (check_any b c t v _).mono ?_
        rintro e w1 ⟨he, hb1⟩
        rw [HC.out] at he
        subst he
        have hA1 := upB hA0 hb1
        have HR1 := Lib.hid (HR0.out.next hb1)
        clear hb1 hA0 HR0
        obtain ⟨r0, r1, r2, r3⟩ := HR1.out.cells4
        have l1 := HR1.out.lt
        go_wp2_with fail
        go_loopw [6, 7, 8] (fun n l i wr => ∃ (k ff : Nat) (fs fn la : Int), k ≤ st ∧ i = .int .i64 k ∧ n = .int .i64 ff ∧ l = .int .i64 la ∧ Hid (Pw w wr w1.heap.size b c t v fs ff fn) ∧ (ff : Int) ≤ t ∧ -1 ≤ la ∧ la ≤ 1000 ∧ Hid ((fs = 1 ∧ (ff : Int) < t ∧ (la = -1 ∨ fn = la + v)) ∨ (fs = 3 ∧ (ff : Int) = t))) (fun _ _ i _ => st - (intOf i).toNat)
        case atStart => exact ⟨0, 0, 1, 0, -1, by omega, rfl, rfl, rfl, Lib.hid ⟨hA1.alloc hA1.size _, l1, HR1.out.alloc _, heap_alloc_new _ _⟩, by simp; omega, by omega, by omega, Lib.hid (.inl ⟨rfl, by simp; omega, .inl rfl⟩)⟩
        case round =>
          obtain ⟨k, ff, fs, fn, la, hk, rfl, rfl, rfl, HD, hft, hla, hla2, HI⟩ := hrel
          clear HR1 hA1 r0 r1 r2 r3 l1
          obtain ⟨r0, r1, r2, r3⟩ := HD.out.rb.cells4
          obtain ⟨f0, f1, f2⟩ := HD.out.fb.cells3
          by_cases hlt : k < st
          · have hki : (k : Int) < (st : Int) := by omega
            have hk2 : k ≤ 255 := by omega
            rcases HI.out with ⟨h1, h3, h4⟩ | ⟨h1, h3⟩
            · subst h1
              by_cases h5 : (k : Int) < fn
              · have HS := Lib.hid (stp_no (b := b) (c := c) (t := t) (v := v) (s := 1) (g := ff) (n := fn) (bal := b - 1) (x := k) (.inr (.inr (.inr h5))))
                have HV4 := Lib.hid h4
                clear h4 HI
                go_wp2_with fail
                refine (step_r (f := ⟨1, ff, fn⟩) HS.out _).mono ?_
                rintro e w2 ⟨rfl, hb2⟩
                have HD2 := Lib.hid (HD.out.below hb2)
                clear hb2 r0 r1 r2 r3 f0 f1 f2
                obtain ⟨r0, r1, r2, r3⟩ := HD2.out.rb.cells4
                obtain ⟨f0, f1, f2⟩ := HD2.out.fb.cells3
                have y0 := HD2.out.fb.free 0
                have y1 := HD2.out.fb.free 1
                have y2 := HD2.out.fb.free 2
                have lr := HD2.out.rb.lt
                have lq := HD2.out.fb.lt
                have lqr := HD2.out.hq
                have HD4 := Lib.hid ((HD2.out.setf 1 ff fn).below (b1 _ (.cells #[.int .i64 1, .int .i64 ff, .int .i64 fn] 30)))
                go_wp2_with fail
                go_roundw
                case rel => exact ⟨k + 1, ff, 1, fn, la, by omega, by go_num, rfl, rfl, HD4, hft, hla, hla2, Lib.hid (.inl ⟨rfl, h3, HV4.out⟩)⟩
                case measure => simp [intOf]; omega
              · have HS := Lib.hid (stp_yes (b := b) (c := c) (t := t) (v := v) (g := ff) (n := fn) (bal := b - 1) (x := k) (by omega))
                have HT := Lib.hid ((tim_iff (k : Int)).2 (by omega))
                obtain ⟨⟨⟨s2, g2, n2⟩, e2⟩, hfa⟩ : ∃ p, fai ⟨b, c, t, v⟩ ⟨2, ff, fn⟩ k = p := ⟨_, rfl⟩
                have HFA := Lib.hid hfa
                have hres : e2 = 0 ∧ g2 = (ff : Int) + 1 ∧ ((s2 = 1 ∧ (ff : Int) + 1 < t ∧ n2 = (k : Int) + v) ∨ (s2 = 3 ∧ (ff : Int) + 1 = t)) := by
                  by_cases h7 : t ≤ (ff : Int) + 1
                  · rw [fai_end HT.out h7] at hfa
                    injection hfa with h8 h9
                    injection h8 with h10 h11 h12
                    exact ⟨h9.symm, h11.symm, .inr ⟨h10.symm, by omega⟩⟩
                  · rw [fai_go HT.out h7] at hfa
                    injection hfa with h8 h9
                    injection h8 with h10 h11 h12
                    exact ⟨h9.symm, h11.symm, .inl ⟨h10.symm, by omega, h12.symm⟩⟩
                obtain ⟨he2, hg2, hs2⟩ := hres
                subst he2 hg2
                have HS2 := Lib.hid hs2
                have HV4 := Lib.hid h4
                clear hfa hs2 h4 HI
                by_cases h6 : la < 0
                · have h6' : decide (0 ≤ la) = false := decide_eq_false (by omega)
                  go_wp2_with fail
                  refine (step_r (f := ⟨1, ff, fn⟩) HS.out _).mono ?_
                  rintro e w2 ⟨rfl, hb2⟩
                  have HD2 := Lib.hid (HD.out.below hb2)
                  clear hb2 r0 r1 r2 r3 f0 f1 f2
                  obtain ⟨r0, r1, r2, r3⟩ := HD2.out.rb.cells4
                  obtain ⟨f0, f1, f2⟩ := HD2.out.fb.cells3
                  have y0 := HD2.out.fb.free 0
                  have y1 := HD2.out.fb.free 1
                  have y2 := HD2.out.fb.free 2
                  have lr := HD2.out.rb.lt
                  have lq := HD2.out.fb.lt
                  have lqr := HD2.out.hq
                  have HD4 := Lib.hid ((HD2.out.setf 2 ff fn).below (b1 _ (.cells #[.int .i64 2, .int .i64 ff, .int .i64 fn] 30)))
                  have g1 : (c == 0) = false := by simp; omega
                  have g2 : (c == c) = true := by simp
                  have g3 : (c != c) = false := by simp
                  go_wp2_with fail
                  refine (fai_r HFA.out (by omega) (by omega) _).mono ?_
                  rintro e w3 ⟨rfl, hb3⟩
                  have HD5 := Lib.hid (HD4.out.below hb3)
                  clear hb3 r0 r1 r2 r3 f0 f1 f2 y0 y1 y2 lr lq lqr
                  obtain ⟨r0, r1, r2, r3⟩ := HD5.out.rb.cells4
                  obtain ⟨f0, f1, f2⟩ := HD5.out.fb.cells3
                  have y0 := HD5.out.fb.free 0
                  have y1 := HD5.out.fb.free 1
                  have y2 := HD5.out.fb.free 2
                  have lr := HD5.out.rb.lt
                  have lq := HD5.out.fb.lt
                  have lqr := HD5.out.hq
                  have g4 : ((ff : Int) + 1 == (ff : Int) + 1) = true := by simp
                  have g5 : ((ff : Int) + 1 != (ff : Int) + 1) = false := by simp
                  rcases HS2.out with ⟨rfl, h8, rfl⟩ | ⟨rfl, h8⟩
                  · have g6 : ((ff : Int) + 1 == t) = false := by simp; omega
                    have HD6 := Lib.hid ((HD5.out.setf 1 (ff + 1) (k + v)).below (b1 _ (.cells #[.int .i64 1, .int .i64 (ff + 1), .int .i64 (k + v)] 30)))
                    go_wp2_with fail
                    go_roundw
                    case rel => exact ⟨k + 1, ff + 1, 1, k + v, k, by omega, by go_num, by go_num, rfl, HD6, by omega, by omega, by omega, Lib.hid (.inl ⟨rfl, by omega, .inr rfl⟩)⟩
                    case measure => simp [intOf]; omega
                  · subst h8
                    have g6 : ((ff : Int) + 1 == (ff : Int) + 1) = true := by simp
                    have HD6 := Lib.hid ((HD5.out.setf 3 (ff + 1) n2).below (b1 _ (.cells #[.int .i64 3, .int .i64 (ff + 1), .int .i64 n2] 30)))
                    go_wp2_with fail
                    go_roundw
                    case rel => exact ⟨k + 1, ff + 1, 3, n2, k, by omega, by go_num, by go_num, rfl, HD6, by omega, by omega, by omega, Lib.hid (.inr ⟨rfl, by omega⟩)⟩
                    case measure => simp [intOf]; omega
                · have h6' : decide (0 ≤ la) = true := decide_eq_true (by omega)
                  obtain ⟨q, hq⟩ : ∃ q, (k : Int) - la = q := ⟨_, rfl⟩
                  have hqv : v ≤ q := by have := HV4.out; omega
                  have h8' : decide (q < v) = false := decide_eq_false (by omega)
                  clear hqv
                  go_wp2_with fail
                  refine (step_r (f := ⟨1, ff, fn⟩) HS.out _).mono ?_
                  rintro e w2 ⟨rfl, hb2⟩
                  have HD2 := Lib.hid (HD.out.below hb2)
                  clear hb2 r0 r1 r2 r3 f0 f1 f2
                  obtain ⟨r0, r1, r2, r3⟩ := HD2.out.rb.cells4
                  obtain ⟨f0, f1, f2⟩ := HD2.out.fb.cells3
                  have y0 := HD2.out.fb.free 0
                  have y1 := HD2.out.fb.free 1
                  have y2 := HD2.out.fb.free 2
                  have lr := HD2.out.rb.lt
                  have lq := HD2.out.fb.lt
                  have lqr := HD2.out.hq
                  have HD4 := Lib.hid ((HD2.out.setf 2 ff fn).below (b1 _ (.cells #[.int .i64 2, .int .i64 ff, .int .i64 fn] 30)))
                  have g1 : (c == 0) = false := by simp; omega
                  have g2 : (c == c) = true := by simp
                  have g3 : (c != c) = false := by simp
                  go_wp2_with fail
                  refine (fai_r HFA.out (by omega) (by omega) _).mono ?_
                  rintro e w3 ⟨rfl, hb3⟩
                  have HD5 := Lib.hid (HD4.out.below hb3)
                  clear hb3 r0 r1 r2 r3 f0 f1 f2 y0 y1 y2 lr lq lqr
                  obtain ⟨r0, r1, r2, r3⟩ := HD5.out.rb.cells4
                  obtain ⟨f0, f1, f2⟩ := HD5.out.fb.cells3
                  have y0 := HD5.out.fb.free 0
                  have y1 := HD5.out.fb.free 1
                  have y2 := HD5.out.fb.free 2
                  have lr := HD5.out.rb.lt
                  have lq := HD5.out.fb.lt
                  have lqr := HD5.out.hq
                  have g4 : ((ff : Int) + 1 == (ff : Int) + 1) = true := by simp
                  have g5 : ((ff : Int) + 1 != (ff : Int) + 1) = false := by simp
                  rcases HS2.out with ⟨rfl, h8, rfl⟩ | ⟨rfl, h8⟩
                  · have g6 : ((ff : Int) + 1 == t) = false := by simp; omega
                    have HD6 := Lib.hid ((HD5.out.setf 1 (ff + 1) (k + v)).below (b1 _ (.cells #[.int .i64 1, .int .i64 (ff + 1), .int .i64 (k + v)] 30)))
                    go_wp2_with fail
                    go_roundw
                    case rel => exact ⟨k + 1, ff + 1, 1, k + v, k, by omega, by go_num, by go_num, rfl, HD6, by omega, by omega, by omega, Lib.hid (.inl ⟨rfl, by omega, .inr rfl⟩)⟩
                    case measure => simp [intOf]; omega
                  · subst h8
                    have g6 : ((ff : Int) + 1 == (ff : Int) + 1) = true := by simp
                    have HD6 := Lib.hid ((HD5.out.setf 3 (ff + 1) n2).below (b1 _ (.cells #[.int .i64 3, .int .i64 (ff + 1), .int .i64 n2] 30)))
                    go_wp2_with fail
                    go_roundw
                    case rel => exact ⟨k + 1, ff + 1, 3, n2, k, by omega, by go_num, by go_num, rfl, HD6, by omega, by omega, by omega, Lib.hid (.inr ⟨rfl, by omega⟩)⟩
                    case measure => simp [intOf]; omega
            · subst h1
              have HS := Lib.hid (stp_no (b := b) (c := c) (t := t) (v := v) (s := 3) (g := ff) (n := fn) (bal := b - 1) (x := k) (.inl (by omega)))
              clear h3
              go_wp2_with fail
              refine (step_r (f := ⟨3, ff, fn⟩) HS.out _).mono ?_
              rintro e w2 ⟨rfl, hb2⟩
              have HD2 := Lib.hid (HD.out.below hb2)
              clear hb2 r0 r1 r2 r3 f0 f1 f2
              obtain ⟨r0, r1, r2, r3⟩ := HD2.out.rb.cells4
              obtain ⟨f0, f1, f2⟩ := HD2.out.fb.cells3
              have y0 := HD2.out.fb.free 0
              have y1 := HD2.out.fb.free 1
              have y2 := HD2.out.fb.free 2
              have lr := HD2.out.rb.lt
              have lq := HD2.out.fb.lt
              have lqr := HD2.out.hq
              have HD4 := Lib.hid ((HD2.out.setf 3 ff fn).below (b1 _ (.cells #[.int .i64 3, .int .i64 ff, .int .i64 fn] 30)))
              go_wp2_with fail
              go_roundw
              case rel => exact ⟨k + 1, ff, 3, fn, la, by omega, by go_num, rfl, rfl, HD4, hft, hla, hla2, Lib.hid (.inr ⟨rfl, (HI.out.resolve_left (fun h => absurd h.1 (by decide))).2⟩)⟩
              case measure => simp [intOf]; omega
          · rcases HI.out with ⟨h1, h3, h4⟩ | ⟨h1, h3⟩
            · subst h1
              obtain ⟨⟨⟨s2, g2, n2⟩, e2⟩, hre⟩ : ∃ p, res ⟨1, ff, fn⟩ = p := ⟨_, rfl⟩
              have HRE := Lib.hid hre
              have k1 : decide ((ff : Int) ≤ t) = true := decide_eq_true (by omega)
              have k2 : decide ((ff : Int) < t) = true := decide_eq_true h3
              clear hre HI h4
              go_wp2_with fail
              refine (res2_r (f := ⟨1, ff, fn⟩) HRE.out _).mono ?_
              rintro e w2 ⟨rfl, hb2⟩
              have HD2 := Lib.hid (HD.out.below hb2)
              clear hb2 r0 r1 r2 r3 f0 f1 f2
              obtain ⟨r0, r1, r2, r3⟩ := HD2.out.rb.cells4
              obtain ⟨f0, f1, f2⟩ := HD2.out.fb.cells3
              have y0 := HD2.out.fb.free 0
              have y1 := HD2.out.fb.free 1
              have y2 := HD2.out.fb.free 2
              have lr := HD2.out.rb.lt
              have lq := HD2.out.fb.lt
              have lqr := HD2.out.hq
              go_wp2_with (go_at_call 13; refine (alive_any _).mono ?_; rintro e w4 ⟨rfl, hb4⟩)
              go_ret
              exact ⟨rfl, upB (HD2.out.bel.alloc HD2.out.bel.size _) hb4⟩
            · subst h1
              have HRE := Lib.hid (res_yes (g := ff) (n := fn))
              have g1 : ((ff : Int) == t) = true := by simp; omega
              have g7 : decide ((ff : Int) < t) = false := decide_eq_false (by omega)
              have g8 : decide ((ff : Int) ≤ t) = true := decide_eq_true (by omega)
              clear HI h3
              go_wp2_with fail
              refine (res2_r (f := ⟨3, ff, fn⟩) HRE.out _).mono ?_
              rintro e w2 ⟨rfl, hb2⟩
              have HD2 := Lib.hid (HD.out.below hb2)
              clear hb2 r0 r1 r2 r3 f0 f1 f2
              obtain ⟨r0, r1, r2, r3⟩ := HD2.out.rb.cells4
              obtain ⟨f0, f1, f2⟩ := HD2.out.fb.cells3
              have y0 := HD2.out.fb.free 0
              have y1 := HD2.out.fb.free 1
              have y2 := HD2.out.fb.free 2
              have lr := HD2.out.rb.lt
              have lq := HD2.out.fb.lt
              have lqr := HD2.out.hq
              go_wp2_with (go_at_call 13; refine (alive_any _).mono ?_; rintro e w4 ⟨rfl, hb4⟩)
              go_ret
              exact ⟨rfl, upB (HD2.out.bel.alloc HD2.out.bel.size _) hb4⟩
  · obtain ⟨y, hy⟩ : ∃ y, chk ⟨b, c, t, v⟩ = y := ⟨_, rfl⟩
    rw [hy] at hc
    have HC := Lib.hid hy
    have g1 : (y == 0) = false := by simpa using hc
    have g2 : (y != 0) = true := by simpa using hc
    clear hy hc
    go_enter Try.func9, Try.ntmps9
    go_wp2_with fail
    refine (check_any b c t v _).mono ?_
    rintro e w1 ⟨he, hb1⟩
    rw [HC.out] at he
    subst he
    have hA1 := upB hA0 hb1
    have HR1 := Lib.hid (HR0.out.next hb1)
    obtain ⟨r0, r1, r2, r3⟩ := HR1.out.cells4
    clear hb1 hA0 HR0
    go_wp2_with fail
    go_ret
    exact ⟨rfl, hA1⟩
end Go.Proofs.Ytodkcnhdiddbkaa.Wk
