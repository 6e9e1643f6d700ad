/- Contracts of In, in the layer and in its reference. No condition. -/
import Derived.Test.YtfpndiacbpinpaaDoorIn
set_option linter.unusedSimpArgs false
set_option linter.unusedVariables false
namespace Go.Proofs.YtfpndiacbpinpaaDoor.Wk
open Go.RowKit
open Go.Proofs.YtfpndiacbpinpaaDoor.Mt
set_option maxHeartbeats 4000000 in
set_option maxRecDepth 100000 in
theorem In_any (d f t x : Int) (w : World) : Calls Tryd.prog 25 #[.agg #[.int .i64 d, .int .i64 f, .int .i64 t], .int .i64 x] w fun e w' => e = .returned (.bool (inS d f t x)) ∧ Below w.heap.size w w' := by
  have HK := Lib.hid (Kb.start w 35 #[.int .i64 d, .int .i64 f, .int .i64 t])
  rcases fot (vw d f t) with hv | hv
  · have HS : Hid (inS d f t x = false) := Lib.hid (by simp [inS, hv])
    have HV := Lib.hid hv
    clear hv
    obtain ⟨c0, c1, c2⟩ := HK.out.bx.cells3
    go_enter Tryd.func25, Tryd.ntmps25
    go_wp2_with fail
    refine (Vwin_any d f t _).mono ?_
    rintro e w1 ⟨rfl, hb⟩
    rw [HV.out]
    replace HK := Lib.hid (HK.out.next hb); clear hb c0 c1 c2
    go_wp2_with fail
    go_ret
    exact ⟨by rw [HS.out]; rfl, HK.out.bel⟩
  · obtain ⟨v1, v2, v3, v4, v5⟩ := (vw_iff d f t).1 hv
    have HV := Lib.hid hv
    rcases fot (isT x) with ht | ht
    · have HS : Hid (inS d f t x = false) := Lib.hid (by simp [inS, ht])
      have HT := Lib.hid ht
      clear hv ht
      obtain ⟨c0, c1, c2⟩ := HK.out.bx.cells3
      go_enter Tryd.func25, Tryd.ntmps25
      go_wp2_with fail
      refine (Vwin_any d f t _).mono ?_
      rintro e w1 ⟨rfl, hb⟩
      rw [HV.out]
      replace HK := Lib.hid (HK.out.next hb); clear hb c0 c1 c2
      go_wp2_with fail
      refine (IsTime_any _ _).mono ?_
      rintro e w2 ⟨rfl, rfl⟩
      rw [HT.out]
      go_wp2_with fail
      go_ret
      exact ⟨by rw [HS.out]; rfl, HK.out.bel⟩
    · obtain ⟨x0, x1⟩ := (isT_iff x).1 ht
      have hm0 : 0 ≤ minS x ∧ minS x < 1440 := by rw [minS_in ht]; omega
      have HM : Hid (minS x = _) := Lib.hid rfl
      have hw0 : 0 ≤ x / 86400 % 7 ∧ x / 86400 % 7 ≤ 6 := by omega
      have hw1 : 0 ≤ x / 86400 ∧ x / 86400 ≤ 795364 := by omega
      have HD : Hid (dayS x = x / 86400) := Lib.hid (dayS_in ht)
      obtain ⟨m, hm⟩ : ∃ m, minS x = m := ⟨_, rfl⟩
      rw [hm] at hm0
      have HMM := Lib.hid hm
      obtain ⟨k, hk⟩ : ∃ k, bt d (x / 86400 % 7) = k := ⟨_, rfl⟩
      have HB := Lib.hid hk
      have HI : Hid (inS d f t x = (k && decide (f ≤ m) && decide (m < t))) := Lib.hid (by unfold inS; rw [hv, ht, hk, hm]; simp)
      have HT := Lib.hid ht
      clear hv ht hm hk HM
      obtain ⟨c0, c1, c2⟩ := HK.out.bx.cells3
      go_enter Tryd.func25, Tryd.ntmps25
      go_wp2_with fail
      refine (Vwin_any d f t _).mono ?_
      rintro e w1 ⟨rfl, hb⟩
      rw [HV.out]
      replace HK := Lib.hid (HK.out.next hb); clear hb c0 c1 c2
      go_wp2_with fail
      refine (IsTime_any _ _).mono ?_
      rintro e w2 ⟨rfl, rfl⟩
      rw [HT.out]
      have C42 : ∀ w, Calls Tryd.prog 42 #[.int .i64 d, .int .i64 (x / 86400 % 7)] w fun e w' => e = .returned (.bool k) ∧ w' = w := fun w => (set_any _ _ _ (by omega) (by omega) (by omega) (by omega)).mono fun e w' ⟨h1, h2⟩ => ⟨by rw [h1, HB.out], h2.symm⟩
      have C16 : ∀ w, Calls Tryd.prog 16 #[.int .i64 x] w fun e w' => e = .returned (.int .i64 m) ∧ w' = w := fun w => (Min_any _ _).mono fun e w' ⟨h1, h2⟩ => ⟨by rw [h1, HMM.out], h2.symm⟩
      replace C42 := Lib.hid C42
      replace C16 := Lib.hid C16
      obtain ⟨c0, c1, c2⟩ := HK.out.bx.cells3
      go_wp2_with fail
      rcases fot k with rfl | rfl
      · have HS : Hid (inS d f t x = false) := Lib.hid (by rw [HI.out]; simp)
        go_quiet (first | (go_at_call 42; exact Calls.quiet_of_same (C42.out _)) | (go_at_call 16; exact Calls.quiet_of_same (C16.out _)))
        go_wp2_with fail
        go_ret
        exact ⟨by rw [HS.out]; rfl, below_drewN HK.out.bel _⟩
      · by_cases q1 : f ≤ m
        · have q1' : decide (f ≤ m) = true := decide_eq_true q1
          by_cases q2 : m < t
          · have q2' : decide (m < t) = true := decide_eq_true q2
            have HS : Hid (inS d f t x = true) := Lib.hid (by rw [HI.out]; simp [q1, q2])
            clear q1 q2
            go_quiet (first | (go_at_call 42; exact Calls.quiet_of_same (C42.out _)) | (go_at_call 16; exact Calls.quiet_of_same (C16.out _)))
            go_wp2_with fail
            go_ret
            exact ⟨by rw [HS.out]; rfl, below_drewN HK.out.bel _⟩
          · have q2' : decide (m < t) = false := decide_eq_false q2
            have HS : Hid (inS d f t x = false) := Lib.hid (by rw [HI.out]; simp [q2])
            clear q1 q2
            go_quiet (first | (go_at_call 42; exact Calls.quiet_of_same (C42.out _)) | (go_at_call 16; exact Calls.quiet_of_same (C16.out _)))
            go_wp2_with fail
            go_ret
            exact ⟨by rw [HS.out]; rfl, below_drewN HK.out.bel _⟩
        · have q1' : decide (f ≤ m) = false := decide_eq_false q1
          have HS : Hid (inS d f t x = false) := Lib.hid (by rw [HI.out]; simp [q1])
          clear q1
          go_quiet (first | (go_at_call 42; exact Calls.quiet_of_same (C42.out _)) | (go_at_call 16; exact Calls.quiet_of_same (C16.out _)))
          go_wp2_with fail
          go_ret
          exact ⟨by rw [HS.out]; rfl, below_drewN HK.out.bel _⟩
end Go.Proofs.YtfpndiacbpinpaaDoor.Wk
