/- Contracts of the small functions of the calendar. Conditions: as written. -/
import Derived.Test.YtfpndiacbpinpaaDoorBase
set_option linter.unusedSimpArgs false
set_option linter.unusedVariables false
namespace Go.Proofs.YtfpndiacbpinpaaDoor.Mt
def dayS (t : Int) : Int := if isT t = true then t / 86400 else -1
def minS (t : Int) : Int := if isT t = true then t % 86400 / 60 else -1
def wdS (d : Int) : Int := if isD d = true then d % 7 else -1
theorem isT_iff (t : Int) : isT t = true ↔ 0 ≤ t ∧ t < 68719476736 := by simp [isT]
theorem isD_iff (t : Int) : isD t = true ↔ 0 ≤ t ∧ t < 795364 := by simp [isD]
theorem isT_no (t : Int) : isT t = false ↔ ¬ (0 ≤ t ∧ t < 68719476736) := by simp [isT]
theorem isD_no (t : Int) : isD t = false ↔ ¬ (0 ≤ t ∧ t < 795364) := by simp [isD]
end Go.Proofs.YtfpndiacbpinpaaDoor.Mt
namespace Go.Proofs.YtfpndiacbpinpaaDoor.Wk
open Go.RowKit
open Go.Proofs.YtfpndiacbpinpaaDoor.Mt
theorem isTime_any (n : Int) (w : World) : Calls Tryd.prog 32 #[.int .i64 n] w fun e w' => e = .returned (.bool (isT n)) ∧ w = w' := by
  by_cases h1 : 0 ≤ n <;> by_cases h2 : n < 68719476736
  all_goals
    go_enter Tryd.func32, Tryd.ntmps32
    go_wp2
    go_ret
    exact ⟨by simp [isT, h1, h2], rfl⟩
theorem IsTime_any (n : Int) (w : World) : Calls Tryd.prog 33 #[.int .i64 n] w fun e w' => e = .returned (.bool (isT n)) ∧ w = w' := by
  by_cases h1 : 0 ≤ n <;> by_cases h2 : n < 68719476736
  all_goals
    go_enter Tryd.func33, Tryd.ntmps33
    go_wp2
    go_ret
    exact ⟨by simp [isT, h1, h2], rfl⟩
theorem validDay_any (n : Int) (w : World) : Calls Tryd.prog 34 #[.int .i64 n] w fun e w' => e = .returned (.bool (isD n)) ∧ w = w' := by
  by_cases h1 : 0 ≤ n <;> by_cases h2 : n < 795364
  all_goals
    go_enter Tryd.func34, Tryd.ntmps34
    go_wp2
    go_ret
    exact ⟨by simp [isD, h1, h2], rfl⟩
theorem IsDay_any (n : Int) (w : World) : Calls Tryd.prog 35 #[.int .i64 n] w fun e w' => e = .returned (.bool (isD n)) ∧ w = w' := by
  by_cases h1 : 0 ≤ n <;> by_cases h2 : n < 795364
  all_goals
    go_enter Tryd.func35, Tryd.ntmps35
    go_wp2
    go_ret
    exact ⟨by simp [isD, h1, h2], rfl⟩
theorem day_any (n : Int) (w : World) : Calls Tryd.prog 13 #[.int .i64 n] w fun e w' => e = .returned (.int .i64 (dayS n)) ∧ w = w' := by
  rcases fot (isT n) with h | h
  · have HS : Hid (dayS n = -1) := Lib.hid (by simp [dayS, h])
    have H := Lib.hid h
    clear h
    go_enter Tryd.func13, Tryd.ntmps13
    go_wp2_with fail
    refine (isTime_any _ _).mono ?_
    rintro e w' ⟨rfl, rfl⟩
    rw [H.out]
    go_wp2_with fail
    go_ret
    exact ⟨by rw [HS.out]; rfl, rfl⟩
  · obtain ⟨h1, h2⟩ := (isT_iff n).1 h
    have HS := Lib.hid (show dayS n = _ by unfold dayS; rw [if_pos h])
    have H := Lib.hid h
    clear h
    go_enter Tryd.func13, Tryd.ntmps13
    go_wp2_with fail
    refine (isTime_any _ _).mono ?_
    rintro e w' ⟨rfl, rfl⟩
    rw [H.out]
    go_wp2_with fail
    go_ret
    exact ⟨by rw [HS.out]; rfl, rfl⟩
theorem Day_any (n : Int) (w : World) : Calls Tryd.prog 14 #[.int .i64 n] w fun e w' => e = .returned (.int .i64 (dayS n)) ∧ w = w' := by
  rcases fot (isT n) with h | h
  · have HS : Hid (dayS n = -1) := Lib.hid (by simp [dayS, h])
    have H := Lib.hid h
    clear h
    go_enter Tryd.func14, Tryd.ntmps14
    go_wp2_with fail
    refine (IsTime_any _ _).mono ?_
    rintro e w' ⟨rfl, rfl⟩
    rw [H.out]
    go_wp2_with fail
    go_ret
    exact ⟨by rw [HS.out]; rfl, rfl⟩
  · obtain ⟨h1, h2⟩ := (isT_iff n).1 h
    have HS := Lib.hid (show dayS n = _ by unfold dayS; rw [if_pos h])
    have H := Lib.hid h
    clear h
    go_enter Tryd.func14, Tryd.ntmps14
    go_wp2_with fail
    refine (IsTime_any _ _).mono ?_
    rintro e w' ⟨rfl, rfl⟩
    rw [H.out]
    go_wp2_with fail
    go_ret
    exact ⟨by rw [HS.out]; rfl, rfl⟩
theorem min_any (n : Int) (w : World) : Calls Tryd.prog 15 #[.int .i64 n] w fun e w' => e = .returned (.int .i64 (minS n)) ∧ w = w' := by
  rcases fot (isT n) with h | h
  · have HS : Hid (minS n = -1) := Lib.hid (by simp [minS, h])
    have H := Lib.hid h
    clear h
    go_enter Tryd.func15, Tryd.ntmps15
    go_wp2_with fail
    refine (isTime_any _ _).mono ?_
    rintro e w' ⟨rfl, rfl⟩
    rw [H.out]
    go_wp2_with fail
    go_ret
    exact ⟨by rw [HS.out]; rfl, rfl⟩
  · obtain ⟨h1, h2⟩ := (isT_iff n).1 h
    have HS := Lib.hid (show minS n = _ by unfold minS; rw [if_pos h])
    have H := Lib.hid h
    clear h
    go_enter Tryd.func15, Tryd.ntmps15
    go_wp2_with fail
    refine (isTime_any _ _).mono ?_
    rintro e w' ⟨rfl, rfl⟩
    rw [H.out]
    go_wp2_with fail
    go_ret
    exact ⟨by rw [HS.out]; rfl, rfl⟩
theorem Min_any (n : Int) (w : World) : Calls Tryd.prog 16 #[.int .i64 n] w fun e w' => e = .returned (.int .i64 (minS n)) ∧ w = w' := by
  rcases fot (isT n) with h | h
  · have HS : Hid (minS n = -1) := Lib.hid (by simp [minS, h])
    have H := Lib.hid h
    clear h
    go_enter Tryd.func16, Tryd.ntmps16
    go_wp2_with fail
    refine (IsTime_any _ _).mono ?_
    rintro e w' ⟨rfl, rfl⟩
    rw [H.out]
    go_wp2_with fail
    go_ret
    exact ⟨by rw [HS.out]; rfl, rfl⟩
  · obtain ⟨h1, h2⟩ := (isT_iff n).1 h
    have HS := Lib.hid (show minS n = _ by unfold minS; rw [if_pos h])
    have H := Lib.hid h
    clear h
    go_enter Tryd.func16, Tryd.ntmps16
    go_wp2_with fail
    refine (IsTime_any _ _).mono ?_
    rintro e w' ⟨rfl, rfl⟩
    rw [H.out]
    go_wp2_with fail
    go_ret
    exact ⟨by rw [HS.out]; rfl, rfl⟩
theorem wd_any (n : Int) (w : World) : Calls Tryd.prog 17 #[.int .i64 n] w fun e w' => e = .returned (.int .i64 (wdS n)) ∧ w = w' := by
  rcases fot (isD n) with h | h
  · have HS : Hid (wdS n = -1) := Lib.hid (by simp [wdS, h])
    have H := Lib.hid h
    clear h
    go_enter Tryd.func17, Tryd.ntmps17
    go_wp2_with fail
    refine (validDay_any _ _).mono ?_
    rintro e w' ⟨rfl, rfl⟩
    rw [H.out]
    go_wp2_with fail
    go_ret
    exact ⟨by rw [HS.out]; rfl, rfl⟩
  · obtain ⟨h1, h2⟩ := (isD_iff n).1 h
    have HS := Lib.hid (show wdS n = _ by unfold wdS; rw [if_pos h])
    have H := Lib.hid h
    clear h
    go_enter Tryd.func17, Tryd.ntmps17
    go_wp2_with fail
    refine (validDay_any _ _).mono ?_
    rintro e w' ⟨rfl, rfl⟩
    rw [H.out]
    go_wp2_with fail
    go_ret
    exact ⟨by rw [HS.out]; rfl, rfl⟩
theorem Wd_any (n : Int) (w : World) : Calls Tryd.prog 18 #[.int .i64 n] w fun e w' => e = .returned (.int .i64 (wdS n)) ∧ w = w' := by
  rcases fot (isD n) with h | h
  · have HS : Hid (wdS n = -1) := Lib.hid (by simp [wdS, h])
    have H := Lib.hid h
    clear h
    go_enter Tryd.func18, Tryd.ntmps18
    go_wp2_with fail
    refine (IsDay_any _ _).mono ?_
    rintro e w' ⟨rfl, rfl⟩
    rw [H.out]
    go_wp2_with fail
    go_ret
    exact ⟨by rw [HS.out]; rfl, rfl⟩
  · obtain ⟨h1, h2⟩ := (isD_iff n).1 h
    have HS := Lib.hid (show wdS n = _ by unfold wdS; rw [if_pos h])
    have H := Lib.hid h
    clear h
    go_enter Tryd.func18, Tryd.ntmps18
    go_wp2_with fail
    refine (IsDay_any _ _).mono ?_
    rintro e w' ⟨rfl, rfl⟩
    rw [H.out]
    go_wp2_with fail
    go_ret
    exact ⟨by rw [HS.out]; rfl, rfl⟩
end Go.Proofs.YtfpndiacbpinpaaDoor.Wk
