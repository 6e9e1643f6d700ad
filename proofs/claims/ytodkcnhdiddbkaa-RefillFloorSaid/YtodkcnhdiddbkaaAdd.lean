/- Contracts of money.Add, and of the comparison of two lists of numbers. Conditions: the slices read as lists. -/
import Derived.Test.YtodkcnhdiddbkaaSteps
set_option linter.unusedSimpArgs false
set_option linter.unusedVariables false
namespace Go.Proofs.Ytodkcnhdiddbkaa.Wk
open Go.RowKit
open Go.Proofs.Ytodkcnhdiddbkaa.Mt
theorem fot (b : Bool) : b = false ∨ b = true := by cases b <;> simp
theorem ad_yes {a b : Int} (h1 : fit a = true) (h2 : fit b = true) (h3 : fit (a + b) = true) : adS a b = (a + b, 0) := by rw [adS, if_pos ⟨h1, h2, h3⟩]
theorem ad_no {a b : Int} (h : ¬ (fit a = true ∧ fit b = true ∧ fit (a + b) = true)) : adS a b = (0, 13) := by rw [adS, if_neg h]
theorem ret2 {a b a' b' : Value} (h1 : a = a') (h2 : b = b') : Ending.returned (.tuple #[a, b]) = .returned (.tuple #[a', b']) := by rw [h1, h2]
theorem total_two (a b : Int) (g : Nat) (w : World) (h0 : w.cell? ⟨g, 0, none⟩ = some (.int .i64 a)) (h1 : w.cell? ⟨g, 1, none⟩ = some (.int .i64 b)) :
    Calls Try.prog 30 #[.slice (some ⟨g, 0, none⟩) 2 2] w fun e w' => e = .returned (.tuple #[.int .i64 (adS a b).1, .int .i64 (adS a b).2]) ∧ w = w' := by
  go_enter Try.func30, Try.ntmps30
  go_wp2
  go_loop [4, 9] (fun s i => (i = .int .i64 0 ∧ s = .int .i64 0) ∨ (i = .int .i64 1 ∧ s = .int .i64 a ∧ Hid (fit a = true)) ∨ (i = .int .i64 2 ∧ s = .int .i64 (a + b) ∧ Hid (fit a = true) ∧ Hid (fit b = true))) (fun _ i => 2 - (intOf i).toNat)
  case atStart => exact .inl ⟨rfl, rfl⟩
  case round =>
    rcases hrel with ⟨rfl, rfl⟩ | ⟨rfl, rfl, HA⟩ | ⟨rfl, rfl, HA, HB⟩
    · rcases fot (fit a) with ha | ha
      · have HA := Lib.hid ha
        have HH := Lib.hid (ad_no (a := a) (b := b) (by simp [ha]))
        clear ha
        go_wp2_with (refine (fits_no _ _ HA.out).mono ?_; rintro e _ ⟨rfl, rfl⟩)
        go_ret2
        exact ⟨by rw [HH.out]; rfl, rfl⟩
      · have HA := Lib.hid ha
        have ⟨b1, b2⟩ := (fit_iff a).1 ha
        clear ha
        go_wp2_with (refine (fits_yes _ _ HA.out).mono ?_; rintro e _ ⟨rfl, rfl⟩)
        go_round
        case rel => exact .inr (.inl ⟨rfl, by simp, HA⟩)
        case measure => simp [intOf]
    · have ⟨b1, b2⟩ := (fit_iff a).1 HA.out
      rcases fot (fit b) with hb | hb
      · have HB := Lib.hid hb
        have HH := Lib.hid (ad_no (a := a) (b := b) (by simp [hb]))
        clear hb
        go_wp2_with (refine (fits_no _ _ HB.out).mono ?_; rintro e _ ⟨rfl, rfl⟩)
        go_ret2
        exact ⟨by rw [HH.out]; rfl, rfl⟩
      · have HB := Lib.hid hb
        have ⟨b3, b4⟩ := (fit_iff b).1 hb
        clear hb
        go_wp2_with (refine (fits_yes _ _ HB.out).mono ?_; rintro e _ ⟨rfl, rfl⟩)
        go_round
        case rel => exact .inr (.inr ⟨rfl, by rfl, HA, HB⟩)
        case measure => simp [intOf]
    · rcases fot (fit (a + b)) with hs | hs
      · have HS := Lib.hid hs
        have HH := Lib.hid (ad_no (a := a) (b := b) (by simp [hs]))
        clear hs
        go_wp2_with (refine (fits_no _ _ HS.out).mono ?_; rintro e _ ⟨rfl, rfl⟩)
        go_ret2
        exact ⟨by rw [HH.out]; rfl, rfl⟩
      · have HS := Lib.hid hs
        have HH := Lib.hid (ad_yes HA.out HB.out hs)
        clear hs
        go_wp2_with (refine (fits_yes _ _ HS.out).mono ?_; rintro e _ ⟨rfl, rfl⟩)
        go_ret2
        exact ⟨by rw [HH.out]; rfl, rfl⟩
theorem add_any (a b : Int) (w : World) : Calls Try.prog 29 #[.int .i64 a, .int .i64 b] w fun e w' => e = .returned (.tuple #[.int .i64 (adS a b).1, .int .i64 (adS a b).2]) ∧ w' = w.alloc (.cells #[.int .i64 a, .int .i64 b] 3) := by
  obtain ⟨⟨x, y⟩, hx⟩ : ∃ z, adS a b = z := ⟨_, rfl⟩
  have HX := Lib.hid hx
  clear hx
  go_enter Try.func29, Try.ntmps29
  go_wp2_with fail
  refine (total_two a b _ _ ?_ ?_).mono ?_
  · rw [cell_of_row _ _ _ _ _ _ (heap_alloc_new _ _)]; rfl
  · rw [cell_of_row _ _ _ _ _ _ (heap_alloc_new _ _)]; rfl
  rintro e _ ⟨he, rfl⟩
  rw [HX.out] at he
  subst he
  go_wp2_with fail
  go_ret2
  exact ⟨by rw [HX.out]; rfl, rfl⟩
end Go.Proofs.Ytodkcnhdiddbkaa.Wk
