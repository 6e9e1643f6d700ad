/- The walks of ClockIn and of ClockWeeks. Condition: the table of months reads as the text lays it. -/
import Derived.Test.YtfpndiacbpinpaaDoorAwk
set_option linter.unusedSimpArgs false
set_option linter.unusedVariables false
namespace Go.Proofs.YtfpndiacbpinpaaDoor.Wk
open Go.RowKit
open Go.Proofs.YtfpndiacbpinpaaDoor.Mt
structure Kw (w0 wr : World) (cw : Array Value) : Prop where
  bel : Below w0.heap.size w0 wr
  bw : Bx wr w0.heap.size 35 cw
  md : Md wr
theorem Kw.next {w0 wr w1 : World} {cw : Array Value} (h : Kw w0 wr cw) (hb : Below wr.heap.size wr w1) : Kw w0 w1 cw := ⟨upB h.bel hb, h.bw.next hb, h.md.next hb⟩
theorem Kw.start {w : World} (hM : Md w) (cw : Array Value) : Kw w (w.alloc (.cells cw 35)) cw := ⟨b1 _ _, Bx.new _ _ _, hM.next (b1 _ _)⟩
set_option maxHeartbeats 8000000 in
set_option maxRecDepth 100000 in
theorem in_law (d f t x : Int) (w : World) (hM : Md w) : Calls Tryd.prog 6 #[.agg #[.int .i64 d, .int .i64 f, .int .i64 t], .int .i64 x] w fun e w' => e = .returned (.bool true) ∧ Below w.heap.size w w' := by
  have HK := Lib.hid (Kw.start hM #[.int .i64 d, .int .i64 f, .int .i64 t])
  obtain ⟨b, hb0⟩ : ∃ b, inS d f t x = b := ⟨_, rfl⟩
  have HI := Lib.hid hb0
  have gb : (b == b) = true := by simp
  clear hM hb0
  go_enter Tryd.func6, Tryd.ntmps6
  go_wp2_with fail
  replace HK := Lib.hid (HK.out.next (Below.refl (w.alloc (.cells #[.int .i64 d, .int .i64 f, .int .i64 t] 35)).heap.size (w.alloc (.cells #[.int .i64 d, .int .i64 f, .int .i64 t] 35))).drew)
  first | (go_region_held3 (fun w' => Hid (Kw w w' #[.int .i64 d, .int .i64 f, .int .i64 t]) ∧ w'.cell? ⟨w.heap.size, 0, none⟩ = some (.int .i64 d) ∧ w'.cell? ⟨w.heap.size, 1, none⟩ = some (.int .i64 f) ∧ w'.cell? ⟨w.heap.size, 2, none⟩ = some (.int .i64 t)) (first | exact ⟨HK, HK.out.bw.cells3⟩ | assumption)
      (first
        | (go_at_call 24; refine (in_any d f t x _).mono ?_; rintro e w2 ⟨rfl, hb⟩; rw [HI.out]; replace HK := Lib.hid (HK.out.next hb); clear hb)
        | (go_at_call 25; refine (In_any d f t x _).mono ?_; rintro e w2 ⟨rfl, hb⟩; rw [HI.out]; replace HK := Lib.hid (HK.out.next hb); clear hb)
        | (go_at_call 19; refine (awake_any _ HK.out.md).mono ?_; rintro e w2 ⟨rfl, hb⟩; replace HK := Lib.hid (HK.out.next hb); clear hb))) | fail
  all_goals go_wp2_with fail
  all_goals go_ret
  all_goals exact ⟨rfl, HK.out.bel⟩
theorem week_facts {x : Int} (h0 : 0 ≤ x) (h1 : x < 68718785536) : dayS (x + 604800) = dayS x + 7 ∧ wdS (dayS x + 7) = wdS (dayS x) ∧ minS (x + 604800) = minS x ∧ (∀ d f t, inS d f t (x + 604800) = inS d f t x) ∧ 0 ≤ dayS x ∧ dayS x ≤ 795364 := by
  have t1 : isT x = true := (isT_iff x).2 ⟨h0, by omega⟩
  have t2 : isT (x + 604800) = true := (isT_iff _).2 ⟨by omega, by omega⟩
  have e1 : dayS x = x / 86400 := dayS_in t1
  have e2 : dayS (x + 604800) = x / 86400 + 7 := by rw [dayS_in t2]; omega
  have e3 : minS (x + 604800) = minS x := by rw [minS_in t1, minS_in t2]; omega
  have d1 : isD (x / 86400) = true := (isD_iff _).2 ⟨by omega, by omega⟩
  have d2 : isD (x / 86400 + 7) = true := (isD_iff _).2 ⟨by omega, by omega⟩
  refine ⟨by rw [e2, e1], ?_, e3, fun d f t => ?_, by rw [e1]; omega, by rw [e1]; omega⟩
  · rw [e1]; unfold wdS; rw [if_pos d1, if_pos d2]; omega
  · unfold inS
    rw [e3, t1, t2, show (x + 604800) / 86400 % 7 = x / 86400 % 7 by omega]
set_option maxHeartbeats 80000000 in
set_option maxRecDepth 100000 in
theorem weeks_law (d f t x : Int) (w : World) (hM : Md w) : Calls Tryd.prog 10 #[.agg #[.int .i64 d, .int .i64 f, .int .i64 t], .int .i64 x] w fun e w' => e = .returned (.bool true) ∧ Below w.heap.size w w' := by
  have HK := Lib.hid (Kw.start hM #[.int .i64 d, .int .i64 f, .int .i64 t])
  clear hM
  by_cases q1 : x < 0
  · go_enter Tryd.func10, Tryd.ntmps10
    go_wp2_with (first | (go_at_call 19; refine (awake_any _ HK.out.md).mono ?_; rintro e w2 ⟨rfl, hb⟩; replace HK := Lib.hid (HK.out.next hb); clear hb))
    go_ret
    exact ⟨rfl, HK.out.bel⟩
  · by_cases q2 : 68718785536 ≤ x
    · go_enter Tryd.func10, Tryd.ntmps10
      go_wp2_with (first | (go_at_call 19; refine (awake_any _ HK.out.md).mono ?_; rintro e w2 ⟨rfl, hb⟩; replace HK := Lib.hid (HK.out.next hb); clear hb))
      go_ret
      exact ⟨rfl, HK.out.bel⟩
    · obtain ⟨a1, a2, a3, a4, a5, a6⟩ := week_facts (x := x) (by omega) (by omega)
      have a4' := a4 d f t
      obtain ⟨y, hy⟩ : ∃ y, dayS x = y := ⟨_, rfl⟩
      rw [hy] at a1 a2 a5 a6
      obtain ⟨k, hk⟩ : ∃ k, wdS y = k := ⟨_, rfl⟩
      rw [hk] at a2
      obtain ⟨m, hm⟩ : ∃ m, minS x = m := ⟨_, rfl⟩
      rw [hm] at a3
      obtain ⟨b, hb0⟩ : ∃ b, inS d f t x = b := ⟨_, rfl⟩
      rw [hb0] at a4'
      have H1 := Lib.hid hy
      have H2 := Lib.hid a1
      have H3 := Lib.hid hk
      have H4 := Lib.hid a2
      have H5 := Lib.hid hm
      have H6 := Lib.hid a3
      have H7 := Lib.hid hb0
      have H8 := Lib.hid a4'
      have E7 := IntWalk.i64_in (y + 7) (by omega)
      have g1 : (y + 7 == y + 7) = true := by simp
      have g2 : (k == k) = true := by simp
      have g3 : (m == m) = true := by simp
      have g4 : (b == b) = true := by simp
      clear a1 a2 a3 a4 a4' hy hk hm hb0
      go_enter Tryd.func10, Tryd.ntmps10
      go_wp2_with fail
      replace HK := Lib.hid (HK.out.next (Below.refl (w.alloc (.cells #[.int .i64 d, .int .i64 f, .int .i64 t] 35)).heap.size (w.alloc (.cells #[.int .i64 d, .int .i64 f, .int .i64 t] 35))).drew)
      first | (go_region_held3 (fun w' => Hid (Kw w w' #[.int .i64 d, .int .i64 f, .int .i64 t]) ∧ w'.cell? ⟨w.heap.size, 0, none⟩ = some (.int .i64 d) ∧ w'.cell? ⟨w.heap.size, 1, none⟩ = some (.int .i64 f) ∧ w'.cell? ⟨w.heap.size, 2, none⟩ = some (.int .i64 t)) (first | exact ⟨HK, HK.out.bw.cells3⟩ | assumption)
          (first
            | (go_at_call 13; refine (day_any _ _).mono ?_; rintro e w2 ⟨rfl, rfl⟩; first | rw [H1.out] | rw [H2.out])
            | (go_at_call 17; refine (wd_any _ _).mono ?_; rintro e w2 ⟨rfl, rfl⟩; first | rw [H3.out] | rw [H4.out])
            | (go_at_call 15; refine (min_any _ _).mono ?_; rintro e w2 ⟨rfl, rfl⟩; first | rw [H5.out] | rw [H6.out])
            | (go_at_call 24; refine (in_any d f t _ _).mono ?_; rintro e w2 ⟨rfl, hb⟩; (first | rw [H7.out] | rw [H8.out]); replace HK := Lib.hid (HK.out.next hb); clear hb)
            | (go_at_call 19; refine (awake_any _ HK.out.md).mono ?_; rintro e w2 ⟨rfl, hb⟩; replace HK := Lib.hid (HK.out.next hb); clear hb))) | fail
      all_goals go_wp2_with fail
      all_goals go_ret
      all_goals exact ⟨rfl, HK.out.bel⟩
end Go.Proofs.YtfpndiacbpinpaaDoor.Wk
