/- Contracts of DayOf and of In. Conditions: the table of months reads as the text lays it. -/
import Derived.Test.YtfpndiacbpinpaaDoorDt
set_option linter.unusedSimpArgs false
set_option linter.unusedVariables false
namespace Go.Proofs.YtfpndiacbpinpaaDoor.Mt
theorem do_year {y m d : Int} (h : y < 2001 ∨ 9999 < y) : dayOfS y m d = (0, 12) := by rw [dayOfS, if_pos h]
theorem do_arg {y m d : Int} (h : ¬ (y < 2001 ∨ 9999 < y)) (h2 : m < 1 ∨ 12 < m ∨ d < 1 ∨ ml y m < d) : dayOfS y m d = (0, 1) := by rw [dayOfS, if_neg h, if_pos h2]
theorem do_ok {y d : Int} {m : Nat} (h : ¬ (y < 2001 ∨ 9999 < y)) (h1 : 1 ≤ m) (h2 : m ≤ 12) (h3 : 1 ≤ d) (h4 : d ≤ ml y (m : Int)) : dayOfS y (m : Int) d = if isD (ys y + cum y m + d - 1) = true then (ys y + cum y m + d - 1, 0) else (0, 12) := by
  rw [dayOfS, if_neg h, if_neg (by omega), show ((m : Int)).toNat = m by omega]
theorem ys_hi (y : Int) (h0 : 2001 ≤ y) (h1 : y ≤ 10000) : 0 ≤ ys y ∧ ys y ≤ 3000000 := by unfold ys; omega
def inS (d f t x : Int) : Bool := vw d f t && isT x && bt d (x / 86400 % 7) && decide (f ≤ minS x) && decide (minS x < t)
theorem vw_iff (d f t : Int) : vw d f t = true ↔ 1 ≤ d ∧ d ≤ 127 ∧ 0 ≤ f ∧ f < t ∧ t ≤ 1440 := by simp [vw]
theorem minS_in {x : Int} (h : isT x = true) : minS x = x % 86400 / 60 := by unfold minS; rw [if_pos h]
theorem dayS_in {x : Int} (h : isT x = true) : dayS x = x / 86400 := by unfold dayS; rw [if_pos h]
end Go.Proofs.YtfpndiacbpinpaaDoor.Mt
namespace Go.Proofs.YtfpndiacbpinpaaDoor.Wk
open Go.RowKit
open Go.Proofs.YtfpndiacbpinpaaDoor.Mt
set_option maxHeartbeats 4000000 in
theorem dayOf_any (y m d : Int) (w : World) (hM : Md w) : Calls Tryd.prog 22 #[.int .i64 y, .int .i64 m, .int .i64 d] w fun e w' => e = .returned (.tuple #[.int .i64 (dayOfS y m d).1, .int .i64 (dayOfS y m d).2]) ∧ w = w' := by
  have HM := Lib.hid hM
  clear hM
  by_cases q1 : y < 2001
  · have HS := Lib.hid (do_year (m := m) (d := d) (.inl q1))
    go_enter Tryd.func22, Tryd.ntmps22
    go_wp2_with fail
    go_ret2
    exact ⟨by rw [HS.out]; rfl, rfl⟩
  by_cases q2 : 9999 < y
  · have HS := Lib.hid (do_year (m := m) (d := d) (.inr q2))
    go_enter Tryd.func22, Tryd.ntmps22
    go_wp2_with fail
    go_ret2
    exact ⟨by rw [HS.out]; rfl, rfl⟩
  have hq : ¬ (y < 2001 ∨ 9999 < y) := by omega
  by_cases q3 : m < 1
  · have HS := Lib.hid (do_arg (m := m) (d := d) hq (by omega))
    clear hq
    go_enter Tryd.func22, Tryd.ntmps22
    go_wp2_with fail
    go_ret2
    exact ⟨by rw [HS.out]; rfl, rfl⟩
  by_cases q4 : 12 < m
  · have HS := Lib.hid (do_arg (m := m) (d := d) hq (by omega))
    clear hq
    go_enter Tryd.func22, Tryd.ntmps22
    go_wp2_with fail
    go_ret2
    exact ⟨by rw [HS.out]; rfl, rfl⟩
  by_cases q5 : d < 1
  · have HS := Lib.hid (do_arg (m := m) (d := d) hq (by omega))
    clear hq
    go_enter Tryd.func22, Tryd.ntmps22
    go_wp2_with fail
    go_ret2
    exact ⟨by rw [HS.out]; rfl, rfl⟩
  obtain ⟨m, rfl⟩ : ∃ k : Nat, m = (k : Int) := ⟨m.toNat, by omega⟩
  have hm1 : 1 ≤ m := by omega
  have hm2 : m ≤ 12 := by omega
  have l1 := ml_lo y (m : Int)
  have l2 := ml_hi y (m : Int)
  by_cases q6 : ml y (m : Int) < d
  · have HS := Lib.hid (do_arg (m := (m : Int)) (d := d) hq (by omega))
    clear hq
    go_enter Tryd.func22, Tryd.ntmps22
    go_wp2_with (go_at_call 36; refine (mlen_any _ _ _ HM.out (by omega) (by omega) (by omega) (by omega)).mono ?_; rintro e w' ⟨rfl, rfl⟩)
    go_ret2
    exact ⟨by rw [HS.out]; rfl, rfl⟩
  have HS := Lib.hid (do_ok hq hm1 hm2 (by omega) (Int.not_lt.1 q6))
  have yb := ys_hi y (by omega) (by omega)
  have cb := cum_lo y hm1 (by omega)
  clear hq
  go_enter Tryd.func22, Tryd.ntmps22
  go_wp2_with (go_at_call 36; refine (mlen_any _ _ _ HM.out (by omega) (by omega) (by omega) (by omega)).mono ?_; rintro e w' ⟨rfl, rfl⟩)
  go_loop [9, 10] (fun xx kk => ∃ k : Nat, 1 ≤ k ∧ k ≤ m ∧ kk = .int .i64 k ∧ ∃ x : Int, xx = .int .i64 x ∧ 0 ≤ x ∧ x ≤ 4000000 ∧ Hid (x = ys y + d - 1 + cum y k)) (fun _ kk => m - (intOf kk).toNat)
  case atStart => exact ⟨1, by omega, by omega, rfl, ys y + d - 1, congrArg _ (by unfold ys; omega), by omega, by omega, Lib.hid (by rw [cum_one]; omega)⟩
  case round =>
    obtain ⟨k, hk1, hk, rfl, x, rfl, hx0, hx1, HX⟩ := hrel
    by_cases hlt : k < m
    · have hltI : (k : Int) < (m : Int) := by omega
      have hs := cum_step y hk1 (by omega)
      have a1 := ml_lo y (k : Int)
      have a2 := ml_hi y (k : Int)
      have c2 := cum_lo y (m := k + 1) (by omega) (by omega)
      have HX2 : Hid (x + ml y (k : Int) = ys y + d - 1 + cum y (k + 1)) := Lib.hid (by have := HX.out; omega)
      have hx2 : x + ml y (k : Int) ≤ 4000000 := by have := HX2.out; omega
      clear hs
      go_wp2_with (go_at_call 36; refine (mlen_any _ _ _ HM.out (by omega) (by omega) (by omega) (by omega)).mono ?_; rintro e w' ⟨rfl, rfl⟩)
      go_round
      case rel => exact ⟨k + 1, by omega, by omega, by go_num, _, rfl, by omega, hx2, HX2⟩
      case measure => simp [intOf]; omega
    · have hltI : ¬ (k : Int) < (m : Int) := by omega
      have HX2 : Hid (x = ys y + cum y m + d - 1) := Lib.hid (by have := HX.out; have e : k = m := by { omega }; subst e; omega)
      rcases fot (isD x) with hd | hd
      all_goals
        have HD := Lib.hid hd
        have HS2 := HS.out
        rw [← HX2.out, hd] at HS2
        have HS3 := Lib.hid HS2
        clear hd HS2
        go_wp2_with (go_at_call 34; refine (validDay_any _ _).mono ?_; rintro e w' ⟨rfl, rfl⟩; rw [HD.out])
        go_ret2
        exact ⟨by rw [HS3.out]; rfl, rfl⟩
set_option maxHeartbeats 4000000 in
theorem DayOf_any (y m d : Int) (w : World) : Calls Tryd.prog 23 #[.int .i64 y, .int .i64 m, .int .i64 d] w fun e w' => e = .returned (.tuple #[.int .i64 (dayOfS y m d).1, .int .i64 (dayOfS y m d).2]) ∧ w = w' := by
  by_cases q1 : y < 2001
  · have HS := Lib.hid (do_year (m := m) (d := d) (.inl q1))
    go_enter Tryd.func23, Tryd.ntmps23
    go_wp2_with fail
    go_ret2
    exact ⟨by rw [HS.out]; rfl, rfl⟩
  by_cases q2 : 9999 < y
  · have HS := Lib.hid (do_year (m := m) (d := d) (.inr q2))
    go_enter Tryd.func23, Tryd.ntmps23
    go_wp2_with fail
    go_ret2
    exact ⟨by rw [HS.out]; rfl, rfl⟩
  have hq : ¬ (y < 2001 ∨ 9999 < y) := by omega
  by_cases q3 : m < 1
  · have HS := Lib.hid (do_arg (m := m) (d := d) hq (by omega))
    clear hq
    go_enter Tryd.func23, Tryd.ntmps23
    go_wp2_with fail
    go_ret2
    exact ⟨by rw [HS.out]; rfl, rfl⟩
  by_cases q4 : 12 < m
  · have HS := Lib.hid (do_arg (m := m) (d := d) hq (by omega))
    clear hq
    go_enter Tryd.func23, Tryd.ntmps23
    go_wp2_with fail
    go_ret2
    exact ⟨by rw [HS.out]; rfl, rfl⟩
  by_cases q5 : d < 1
  · have HS := Lib.hid (do_arg (m := m) (d := d) hq (by omega))
    clear hq
    go_enter Tryd.func23, Tryd.ntmps23
    go_wp2_with fail
    go_ret2
    exact ⟨by rw [HS.out]; rfl, rfl⟩
  obtain ⟨m, rfl⟩ : ∃ k : Nat, m = (k : Int) := ⟨m.toNat, by omega⟩
  have hm1 : 1 ≤ m := by omega
  have hm2 : m ≤ 12 := by omega
  have l1 := ml_lo y (m : Int)
  have l2 := ml_hi y (m : Int)
  by_cases q6 : ml y (m : Int) < d
  · have HS := Lib.hid (do_arg (m := (m : Int)) (d := d) hq (by omega))
    clear hq
    go_enter Tryd.func23, Tryd.ntmps23
    go_wp2_with (go_at_call 38; refine (Length_any _ _ _ (by omega) (by omega) (by omega) (by omega)).mono ?_; rintro e w' ⟨rfl, rfl⟩)
    go_ret2
    exact ⟨by rw [HS.out]; rfl, rfl⟩
  have HS := Lib.hid (do_ok hq hm1 hm2 (by omega) (Int.not_lt.1 q6))
  have yb := ys_hi y (by omega) (by omega)
  have cb := cum_lo y hm1 (by omega)
  clear hq
  go_enter Tryd.func23, Tryd.ntmps23
  go_wp2_with (go_at_call 38; refine (Length_any _ _ _ (by omega) (by omega) (by omega) (by omega)).mono ?_; rintro e w' ⟨rfl, rfl⟩)
  go_loop [8, 9] (fun xx kk => ∃ k : Int, 2001 ≤ k ∧ k ≤ y ∧ kk = .int .i64 k ∧ ∃ x : Int, xx = .int .i64 x ∧ 0 ≤ x ∧ x ≤ 4000000 ∧ Hid (x = d - 1 + ys k)) (fun _ kk => (10000 - intOf kk).toNat)
  case atStart => exact ⟨2001, by omega, by omega, rfl, d - 1, rfl, by omega, by omega, Lib.hid (by rw [ys_first]; omega)⟩
  case round =>
    obtain ⟨k, hk1, hk, rfl, x, rfl, hx0, hx1, HX⟩ := hrel
    by_cases hlt : k < y
    · have st := ys_step k
      have a1 := yl_lo k
      have a2 := yl_hi k
      have b2 := ys_hi (k + 1) (by omega) (by omega)
      have HX2 : Hid (x + yl k = d - 1 + ys (k + 1)) := Lib.hid (by have := HX.out; omega)
      have hx2 : x + yl k ≤ 4000000 := by have := HX2.out; omega
      clear st
      go_wp2_with (go_at_call 37; refine (year_any _ _ (by omega) (by omega)).mono ?_; rintro e w' ⟨rfl, rfl⟩)
      go_round
      case rel => exact ⟨k + 1, by omega, by omega, rfl, _, rfl, by omega, hx2, HX2⟩
      case measure => simp [intOf]; omega
    · have HX2 : Hid (x = ys y + d - 1) := Lib.hid (by have := HX.out; have e : k = y := by { omega }; subst e; omega)
      clear HX
      go_wp2_with fail
      go_loop [8, 10] (fun xx kk => ∃ k : Nat, 1 ≤ k ∧ k ≤ m ∧ kk = .int .i64 k ∧ ∃ x : Int, xx = .int .i64 x ∧ 0 ≤ x ∧ x ≤ 4000000 ∧ Hid (x = ys y + d - 1 + cum y k)) (fun _ kk => m - (intOf kk).toNat)
      case atStart => exact ⟨1, by omega, by omega, rfl, x, rfl, by omega, by omega, Lib.hid (by have := HX2.out; rw [cum_one]; omega)⟩
      case round =>
        obtain ⟨k, hk1, hk, rfl, x, rfl, hx0, hx1, HX⟩ := hrel
        by_cases hlt : k < m
        · have hltI : (k : Int) < (m : Int) := by omega
          have hs := cum_step y hk1 (by omega)
          have a1 := ml_lo y (k : Int)
          have a2 := ml_hi y (k : Int)
          have c2 := cum_lo y (m := k + 1) (by omega) (by omega)
          have HX2 : Hid (x + ml y (k : Int) = ys y + d - 1 + cum y (k + 1)) := Lib.hid (by have := HX.out; omega)
          have hx2 : x + ml y (k : Int) ≤ 4000000 := by have := HX2.out; omega
          clear hs
          go_wp2_with (go_at_call 38; refine (Length_any _ _ _ (by omega) (by omega) (by omega) (by omega)).mono ?_; rintro e w' ⟨rfl, rfl⟩)
          go_round
          case rel => exact ⟨k + 1, by omega, by omega, by go_num, _, rfl, by omega, hx2, HX2⟩
          case measure => simp [intOf]; omega
        · have hltI : ¬ (k : Int) < (m : Int) := by omega
          have HX2 : Hid (x = ys y + cum y m + d - 1) := Lib.hid (by have := HX.out; have e : k = m := by { omega }; subst e; omega)
          rcases fot (isD x) with hd | hd
          all_goals
            have HD := Lib.hid hd
            have HS2 := HS.out
            rw [← HX2.out, hd] at HS2
            have HS3 := Lib.hid HS2
            clear hd HS2
            go_wp2_with (go_at_call 35; refine (IsDay_any _ _).mono ?_; rintro e w' ⟨rfl, rfl⟩; rw [HD.out])
            go_ret2
            exact ⟨by rw [HS3.out]; rfl, rfl⟩
end Go.Proofs.YtfpndiacbpinpaaDoor.Wk
