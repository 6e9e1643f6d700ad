/- Contracts of In, in the layer and in its reference. No condition. -/
import Derived.Test.YtfpndiacbpinpaaDoorDo
set_option linter.unusedSimpArgs false
set_option linter.unusedVariables false
namespace Go.Proofs.YtfpndiacbpinpaaDoor.Wk
open Go.RowKit
open Go.Proofs.YtfpndiacbpinpaaDoor.Mt
/-- the first block of the call's own, and all else that was there -/
structure Kb (w0 wr : World) (t : TypeId) (cs : Array Value) : Prop where
  bel : Below w0.heap.size w0 wr
  bx : Bx wr w0.heap.size t cs
theorem Kb.next {w0 wr w1 : World} {t : TypeId} {cs : Array Value} (h : Kb w0 wr t cs) (hb : Below wr.heap.size wr w1) : Kb w0 w1 t cs := ⟨upB h.bel hb, h.bx.next hb⟩
theorem Kb.start (w : World) (t : TypeId) (cs : Array Value) : Kb w (w.alloc (.cells cs t)) t cs := ⟨b1 _ _, Bx.new _ _ _⟩
set_option maxHeartbeats 4000000 in
set_option maxRecDepth 100000 in
theorem in_any (d f t x : Int) (w : World) : Calls Tryd.prog 24 #[.agg #[.int .i64 d, .int .i64 f, .int .i64 t], .int .i64 x] w fun e w' => e = .returned (.bool (inS d f t x)) ∧ Below w.heap.size w w' := by
  have HK := Lib.hid (Kb.start w 35 #[.int .i64 d, .int .i64 f, .int .i64 t])
  rcases fot (vw d f t) with hv | hv
  · have HS : Hid (inS d f t x = false) := Lib.hid (by simp [inS, hv])
    have HV := Lib.hid hv
    clear hv
    obtain ⟨c0, c1, c2⟩ := HK.out.bx.cells3
    go_enter Tryd.func24, Tryd.ntmps24
    go_wp2_with fail
    refine (vwin_any d f t _).mono ?_
    rintro e w1 ⟨rfl, hb⟩
    rw [HV.out]
    replace HK := Lib.hid (HK.out.next hb); clear hb c0 c1 c2
    go_wp2_with fail
    go_ret
    exact ⟨by rw [HS.out]; rfl, HK.out.bel⟩
  · obtain ⟨v1, v2, v3, v4, v5⟩ := (vw_iff d f t).1 hv
    have HV := Lib.hid hv
    rcases fot (isT x) with ht | ht
    · have HS : Hid (inS d f t x = false) := Lib.hid (by simp [inS, ht])
      have HT := Lib.hid ht
      clear hv ht
      obtain ⟨c0, c1, c2⟩ := HK.out.bx.cells3
      go_enter Tryd.func24, Tryd.ntmps24
      go_wp2_with fail
      refine (vwin_any d f t _).mono ?_
      rintro e w1 ⟨rfl, hb⟩
      rw [HV.out]
      replace HK := Lib.hid (HK.out.next hb); clear hb c0 c1 c2
      go_wp2_with fail
      refine (isTime_any _ _).mono ?_
      rintro e w2 ⟨rfl, rfl⟩
      rw [HT.out]
      go_wp2_with fail
      go_ret
      exact ⟨by rw [HS.out]; rfl, HK.out.bel⟩
    · obtain ⟨x0, x1⟩ := (isT_iff x).1 ht
      have hm0 : 0 ≤ minS x ∧ minS x < 1440 := by rw [minS_in ht]; omega
      have HM : Hid (minS x = _) := Lib.hid rfl
      have hw0 : 0 ≤ x / 86400 % 7 ∧ x / 86400 % 7 ≤ 6 := by omega
      have hw1 : 0 ≤ x / 86400 ∧ x / 86400 ≤ 795364 := by omega
      have HD : Hid (dayS x = x / 86400) := Lib.hid (dayS_in ht)
      obtain ⟨m, hm⟩ : ∃ m, minS x = m := ⟨_, rfl⟩
      rw [hm] at hm0
      have HMM := Lib.hid hm
      obtain ⟨k, hk⟩ : ∃ k, bt d (x / 86400 % 7) = k := ⟨_, rfl⟩
      have HB := Lib.hid hk
      have HI : Hid (inS d f t x = (k && decide (f ≤ m) && decide (m < t))) := Lib.hid (by unfold inS; rw [hv, ht, hk, hm]; simp)
      have HT := Lib.hid ht
      clear hv ht hm hk HM
      obtain ⟨c0, c1, c2⟩ := HK.out.bx.cells3
      go_enter Tryd.func24, Tryd.ntmps24
      go_wp2_with fail
      refine (vwin_any d f t _).mono ?_
      rintro e w1 ⟨rfl, hb⟩
      rw [HV.out]
      replace HK := Lib.hid (HK.out.next hb); clear hb c0 c1 c2
      go_wp2_with fail
      refine (isTime_any _ _).mono ?_
      rintro e w2 ⟨rfl, rfl⟩
      rw [HT.out]
      obtain ⟨c0, c1, c2⟩ := HK.out.bx.cells3
      go_wp2_with fail
      refine (min_any _ _).mono ?_
      rintro e w2 ⟨rfl, rfl⟩
      rw [HMM.out]
      go_wp2_with fail
      clear c0 c1 c2
      rcases fot k with rfl | rfl
      · have HS : Hid (inS d f t x = false) := Lib.hid (by rw [HI.out]; simp)
        replace HK := Lib.hid (HK.out.next (Below.refl w1.heap.size w1).drew)
        obtain ⟨c0, c1, c2⟩ := HK.out.bx.cells3
        first | (go_region_with (first | (go_at_call 13; refine (day_any _ _).mono ?_; rintro e w2 ⟨rfl, rfl⟩; rw [HD.out]) | (go_at_call 40; refine (onDay_any _ _ _ _ _ (by omega) (by omega) (by omega) (by omega)).mono ?_; rintro e w2 ⟨rfl, hb⟩; rw [HB.out]; have HK2 := Lib.hid (HK.out.next hb); obtain ⟨d0, d1, d2⟩ := HK2.out.bx.cells3; clear hb))) | fail
        all_goals go_wp2_with fail
        all_goals go_ret
        all_goals exact ⟨by rw [HS.out]; rfl, by first | exact HK2.out.bel | exact HK.out.bel⟩
      · by_cases q1 : f ≤ m
        · have q1' : decide (f ≤ m) = true := decide_eq_true q1
          by_cases q2 : m < t
          · have q2' : decide (m < t) = true := decide_eq_true q2
            have HS : Hid (inS d f t x = true) := Lib.hid (by rw [HI.out]; simp [q1, q2])
            clear q1 q2
            replace HK := Lib.hid (HK.out.next (Below.refl w1.heap.size w1).drew)
            obtain ⟨c0, c1, c2⟩ := HK.out.bx.cells3
            first | (go_region_with (first | (go_at_call 13; refine (day_any _ _).mono ?_; rintro e w2 ⟨rfl, rfl⟩; rw [HD.out]) | (go_at_call 40; refine (onDay_any _ _ _ _ _ (by omega) (by omega) (by omega) (by omega)).mono ?_; rintro e w2 ⟨rfl, hb⟩; rw [HB.out]; have HK2 := Lib.hid (HK.out.next hb); obtain ⟨d0, d1, d2⟩ := HK2.out.bx.cells3; clear hb))) | fail
            all_goals go_wp2_with fail
            all_goals go_ret
            all_goals exact ⟨by rw [HS.out]; rfl, by first | exact HK2.out.bel | exact HK.out.bel⟩
          · have q2' : decide (m < t) = false := decide_eq_false q2
            have HS : Hid (inS d f t x = false) := Lib.hid (by rw [HI.out]; simp [q2])
            clear q1 q2
            replace HK := Lib.hid (HK.out.next (Below.refl w1.heap.size w1).drew)
            obtain ⟨c0, c1, c2⟩ := HK.out.bx.cells3
            first | (go_region_with (first | (go_at_call 13; refine (day_any _ _).mono ?_; rintro e w2 ⟨rfl, rfl⟩; rw [HD.out]) | (go_at_call 40; refine (onDay_any _ _ _ _ _ (by omega) (by omega) (by omega) (by omega)).mono ?_; rintro e w2 ⟨rfl, hb⟩; rw [HB.out]; have HK2 := Lib.hid (HK.out.next hb); obtain ⟨d0, d1, d2⟩ := HK2.out.bx.cells3; clear hb))) | fail
            all_goals go_wp2_with fail
            all_goals go_ret
            all_goals exact ⟨by rw [HS.out]; rfl, by first | exact HK2.out.bel | exact HK.out.bel⟩
        · have q1' : decide (f ≤ m) = false := decide_eq_false q1
          have HS : Hid (inS d f t x = false) := Lib.hid (by rw [HI.out]; simp [q1])
          clear q1
          replace HK := Lib.hid (HK.out.next (Below.refl w1.heap.size w1).drew)
          obtain ⟨c0, c1, c2⟩ := HK.out.bx.cells3
          first | (go_region_with (first | (go_at_call 13; refine (day_any _ _).mono ?_; rintro e w2 ⟨rfl, rfl⟩; rw [HD.out]) | (go_at_call 40; refine (onDay_any _ _ _ _ _ (by omega) (by omega) (by omega) (by omega)).mono ?_; rintro e w2 ⟨rfl, hb⟩; rw [HB.out]; have HK2 := Lib.hid (HK.out.next hb); obtain ⟨d0, d1, d2⟩ := HK2.out.bx.cells3; clear hb))) | fail
          all_goals go_wp2_with fail
          all_goals go_ret
          all_goals exact ⟨by rw [HS.out]; rfl, by first | exact HK2.out.bel | exact HK.out.bel⟩
end Go.Proofs.YtfpndiacbpinpaaDoor.Wk
