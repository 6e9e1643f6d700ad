/- Contracts of Date. Conditions: the table of months reads as the text lays it. -/
import Derived.Test.YtfpndiacbpinpaaDoorYr
set_option linter.unusedSimpArgs false
set_option linter.unusedVariables false
namespace Go.Proofs.YtfpndiacbpinpaaDoor.Wk
open Go.RowKit
open Go.Proofs.YtfpndiacbpinpaaDoor.Mt
set_option maxHeartbeats 4000000 in
theorem Date_any (n : Int) (w : World) : Calls Tryd.prog 21 #[.int .i64 n] w fun e w' => e = .returned (.tuple #[.int .i64 (dateS n).1, .int .i64 (dateS n).2.1, .int .i64 (dateS n).2.2]) ∧ w = w' := by
  rcases fot (isD n) with h | h
  · have HS : Hid (dateS n = (0, 0, 0)) := Lib.hid (by simp [dateS, h])
    have H := Lib.hid h
    clear h
    go_enter Tryd.func21, Tryd.ntmps21
    go_wp2_with fail
    refine (IsDay_any _ _).mono ?_
    rintro e w' ⟨rfl, rfl⟩
    rw [H.out]
    go_wp2_with fail
    go_ret3
    exact ⟨by rw [HS.out]; rfl, rfl⟩
  · have HD := Lib.hid h
    obtain ⟨hn0, hn1⟩ := (isD_iff n).1 h
    obtain ⟨hy1, hy2⟩ := yr_in n hn0
    have hy3 := yr_lo n hn0
    obtain ⟨y, hy⟩ : ∃ y, yr n = y := ⟨_, rfl⟩
    rw [hy] at hy1 hy2 hy3
    rw [ys_step] at hy2
    have hy4 : y ≤ 4178 := by unfold ys at hy1; omega
    have l3 := yl_hi y
    clear h hy
    go_enter Tryd.func21, Tryd.ntmps21
    go_wp2_with fail
    refine (IsDay_any _ _).mono ?_
    rintro e w' ⟨rfl, rfl⟩
    rw [HD.out]
    go_wp2_with fail
    go_loop [5, 6] (fun dd yy => ∃ k r : Int, 2001 ≤ k ∧ k ≤ y ∧ yy = .int .i64 k ∧ dd = .int .i64 r ∧ 0 ≤ r ∧ r ≤ n ∧ Hid (r = n - ys k)) (fun _ yy => (5000 - intOf yy).toNat)
    case atStart => exact ⟨2001, n, by omega, by omega, rfl, rfl, by omega, by omega, Lib.hid (by rw [ys_first]; omega)⟩
    case round =>
      obtain ⟨k, r, hk1, hk2, rfl, rfl, hr0, hr1, HR⟩ := hrel
      have st := ys_step k
      have l5 := yl_lo k
      have l6 := yl_hi k
      by_cases hc : yl k ≤ r
      · have hk3 : k < y := by
          by_cases h : k < y
          · exact h
          · have e : k = y := by omega
            have := HR.out
            subst e
            omega
        have HR2 : Hid (r - yl k = n - ys (k + 1)) := Lib.hid (by have := HR.out; omega)
        clear st hy1 hy2
        go_wp2_with (go_at_call 37; refine (year_any _ _ (by omega) (by omega)).mono ?_; rintro e w' ⟨rfl, rfl⟩)
        go_round
        case rel => exact ⟨k + 1, r - yl k, by omega, by omega, rfl, rfl, by omega, by omega, HR2⟩
        case measure => simp [intOf]; omega
      · have HE : Hid (k = y ∧ r = n - ys y) := Lib.hid (by
          have hr := HR.out
          have e : k = y := by
            by_cases h : k < y
            · have := ys_mono (k + 1) y (by omega); omega
            · omega
          subst e; exact ⟨rfl, hr⟩)
        obtain ⟨e1, e2⟩ := HE.out
        subst e1
        have HX := Lib.hid e2
        have hb1 : r < yl k := by omega
        have HY1 := Lib.hid hy1
        clear e2 st hk2 HE hy1 hy2 hc
        go_wp2_with (go_at_call 37; refine (year_any _ _ (by omega) (by omega)).mono ?_; rintro e w' ⟨rfl, rfl⟩)
        go_loop [5, 7] (fun dd mm => ∃ m : Nat, 1 ≤ m ∧ m ≤ 12 ∧ mm = .int .i64 m ∧ ∃ r : Int, dd = .int .i64 r ∧ 0 ≤ r ∧ r ≤ 366 ∧ Hid (r = n - ys k - cum k m ∧ r < yl k - cum k m)) (fun _ mm => 13 - (intOf mm).toNat)
        case atStart => exact ⟨1, by omega, by omega, rfl, _, rfl, by omega, by omega, Lib.hid (by have := HX.out; rw [cum_one]; omega)⟩
        case round =>
          obtain ⟨m, hm1, hm2, rfl, r, rfl, hr0, hr1, HR⟩ := hrel
          have hs := cum_step k hm1 hm2
          have l1 := ml_lo k (m : Int)
          have l2 := ml_hi k (m : Int)
          by_cases hc : ml k (m : Int) ≤ r
          · have hm3 : m < 12 := by
              rcases Nat.lt_or_ge m 12 with h | h
              · exact h
              · have e : m = 12 := by omega
                subst e
                have e13 : cum k (12 + 1) = yl k := cum_end k
                have := HR.out
                omega
            have HR2 : Hid (r - ml k (m : Int) = n - ys k - cum k (m + 1) ∧ r - ml k (m : Int) < yl k - cum k (m + 1)) := Lib.hid (by have := HR.out; omega)
            clear hs
            go_wp2_with (go_at_call 38; refine (Length_any _ _ _ (by omega) (by omega) (by omega) (by omega)).mono ?_; rintro e w' ⟨rfl, rfl⟩)
            go_round
            case rel => exact ⟨m + 1, by omega, by omega, by go_num, _, rfl, by omega, by omega, HR2⟩
            case measure => simp [intOf]; omega
          · have HS : Hid (dateS n = (k, (m : Int), r + 1)) := Lib.hid (by
              have hr := HR.out
              rw [date_eq HD.out HY1.out hm1 hm2 (by omega) (by omega)]
              simp only [Prod.mk.injEq, true_and]; omega)
            clear hs
            go_wp2_with (go_at_call 38; refine (Length_any _ _ _ (by omega) (by omega) (by omega) (by omega)).mono ?_; rintro e w' ⟨rfl, rfl⟩)
            go_ret3
            exact ⟨by rw [HS.out]; rfl, rfl⟩
set_option maxHeartbeats 4000000 in
set_option maxRecDepth 100000 in
theorem date_any (n : Int) (w : World) (hM : Md w) : Calls Tryd.prog 20 #[.int .i64 n] w fun e w' => e = .returned (.tuple #[.int .i64 (dateS n).1, .int .i64 (dateS n).2.1, .int .i64 (dateS n).2.2]) ∧ w = w' := by
  have HM := Lib.hid hM
  clear hM
  rcases fot (isD n) with h | h
  · have HS : Hid (dateS n = (0, 0, 0)) := Lib.hid (by simp [dateS, h])
    have H := Lib.hid h
    clear h
    go_enter Tryd.func20, Tryd.ntmps20
    go_wp2_with fail
    refine (validDay_any _ _).mono ?_
    rintro e w' ⟨rfl, rfl⟩
    rw [H.out]
    go_wp2_with fail
    go_ret3
    exact ⟨by rw [HS.out]; rfl, rfl⟩
  · have HD := Lib.hid h
    obtain ⟨hn0, hn1⟩ := (isD_iff n).1 h
    obtain ⟨hy1, hy2⟩ := yr_in n hn0
    have hy3 := yr_lo n hn0
    have HYR := Lib.hid (show yr n = _ from rfl)
    obtain ⟨y, hy⟩ : ∃ y, yr n = y := ⟨_, rfl⟩
    have hy4 : y ≤ 4178 := by rw [hy] at hy1; unfold ys at hy1; omega
    have HYE := Lib.hid hy
    rw [hy] at hy1 hy2 hy3
    rw [ys_step] at hy2
    have l3 := yl_hi y
    have HY1 := Lib.hid hy1
    have HY2 := Lib.hid hy2
    clear h hy HYR hy1 hy2
    go_enter Tryd.func20, Tryd.ntmps20
    go_wp2_with fail
    refine (validDay_any _ _).mono ?_
    rintro e w' ⟨rfl, rfl⟩
    rw [HD.out]
    go_wp2_with fail
    have ey := HYE.out
    unfold yr at ey
    simp only at ey
    have er := yr_rem n hn0
    rw [HYE.out] at er
    rw [ey, er]
    have a1 := HY1.out
    have a2 := HY2.out
    clear ey er
    go_loop [0, 7] (fun dd mm => ∃ m : Nat, 1 ≤ m ∧ m ≤ 12 ∧ mm = .int .i64 m ∧ ∃ r : Int, dd = .int .i64 r ∧ 0 ≤ r ∧ r ≤ 366 ∧ Hid (r = n - ys y - cum y m ∧ r < yl y - cum y m)) (fun _ mm => 13 - (intOf mm).toNat)
    case atStart => exact ⟨1, by omega, by omega, rfl, _, rfl, by omega, by omega, Lib.hid (by rw [cum_one]; omega)⟩
    case round =>
      clear a1 a2
      obtain ⟨m, hm1, hm2, rfl, r, rfl, hr0, hr1, HR⟩ := hrel
      have hs := cum_step y hm1 hm2
      have l1 := ml_lo y (m : Int)
      have l2 := ml_hi y (m : Int)
      by_cases hc : ml y (m : Int) ≤ r
      · have hm3 : m < 12 := by
          rcases Nat.lt_or_ge m 12 with h | h
          · exact h
          · have e : m = 12 := by omega
            subst e
            have e13 : cum y (12 + 1) = yl y := cum_end y
            have := HR.out
            omega
        have HR2 : Hid (r - ml y (m : Int) = n - ys y - cum y (m + 1) ∧ r - ml y (m : Int) < yl y - cum y (m + 1)) := Lib.hid (by have := HR.out; omega)
        clear hs
        go_wp2_with (go_at_call 36; refine (mlen_any _ _ _ HM.out (by omega) (by omega) (by omega) (by omega)).mono ?_; rintro e w' ⟨rfl, rfl⟩)
        go_round
        case rel => exact ⟨m + 1, by omega, by omega, by go_num, _, rfl, by omega, by omega, HR2⟩
        case measure => simp [intOf]; omega
      · have HS : Hid (dateS n = (y, (m : Int), r + 1)) := Lib.hid (by
          have hr := HR.out
          rw [date_eq HD.out HY1.out hm1 hm2 (by omega) (by omega)]
          simp only [Prod.mk.injEq, true_and]; omega)
        clear hs
        go_wp2_with (go_at_call 36; refine (mlen_any _ _ _ HM.out (by omega) (by omega) (by omega) (by omega)).mono ?_; rintro e w' ⟨rfl, rfl⟩)
        go_ret3
        exact ⟨by rw [HS.out]; rfl, rfl⟩
end Go.Proofs.YtfpndiacbpinpaaDoor.Wk
