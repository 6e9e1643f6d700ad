/- Contracts of the refill layer's small functions. No condition. -/
import Derived.Test.YtodkcnhdiddbkaaProg
import Derived.Test.YtodkcnhdiddbkaaMath
import Derived.WalkKit
import Derived.OwnWalk
import Derived.Lib.Hide
import Derived.Outline
import Derived.LoopTactic
import Derived.Below
import Derived.Laws.OwnMore
import Derived.Deep.QuietTactic
import Derived.BigQuiet
import Derived.WalkSmall
import Derived.Laws.Rows
import Derived.RegionTactic
set_option linter.unusedSimpArgs false
set_option linter.unusedVariables false
namespace Go.Proofs.Ytodkcnhdiddbkaa.Wk
open Go.RowKit
open Go.Proofs.Ytodkcnhdiddbkaa.Mt

theorem fits_any (n : Int) (w : World) : Calls Try.prog 25 #[.int .i64 n] w fun e w' => e = .returned (.bool (fit n)) ∧ w = w' := by
  by_cases h1 : -1125899906842624 ≤ n <;> by_cases h2 : n ≤ 1125899906842624
  all_goals
    go_enter Try.func25, Try.ntmps25
    go_wp2
    go_ret
    exact ⟨by simp [fit, h1, h2], rfl⟩
theorem Fits_any (n : Int) (w : World) : Calls Try.prog 27 #[.int .i64 n] w fun e w' => e = .returned (.bool (fit n)) ∧ w = w' := by
  by_cases h1 : -1125899906842624 ≤ n <;> by_cases h2 : n ≤ 1125899906842624
  all_goals
    go_enter Try.func27, Try.ntmps27
    go_wp2
    go_ret
    exact ⟨by simp [fit, h1, h2], rfl⟩
theorem time_any (n : Int) (w : World) : Calls Try.prog 26 #[.int .i64 n] w fun e w' => e = .returned (.bool (tim n)) ∧ w = w' := by
  by_cases h1 : 0 ≤ n <;> by_cases h2 : n < 68719476736
  all_goals
    go_enter Try.func26, Try.ntmps26
    go_wp2
    go_ret
    exact ⟨by simp [tim, h1, h2], rfl⟩
theorem Time_any (n : Int) (w : World) : Calls Try.prog 28 #[.int .i64 n] w fun e w' => e = .returned (.bool (tim n)) ∧ w = w' := by
  by_cases h1 : 0 ≤ n <;> by_cases h2 : n < 68719476736
  all_goals
    go_enter Try.func28, Try.ntmps28
    go_wp2
    go_ret
    exact ⟨by simp [tim, h1, h2], rfl⟩

theorem chk_zero {b c t v : Int} (h1 : b = 0) (h2 : c = 0) (h3 : t = 0) (h4 : v = 0) : chk ⟨b, c, t, v⟩ = 0 := by rw [chk, if_pos ⟨h1, h2, h3, h4⟩]
theorem chk_fit {b c t v : Int} (h : ¬ (b = 0 ∧ c = 0 ∧ t = 0 ∧ v = 0)) (h2 : fit b = false ∨ fit c = false) : chk ⟨b, c, t, v⟩ = 13 := by rw [chk, if_neg h, if_pos h2]
theorem chk_arg {b c t v : Int} (h : ¬ (b = 0 ∧ c = 0 ∧ t = 0 ∧ v = 0)) (h2 : fit b = true) (h3 : fit c = true) (h4 : b < 0 ∨ c < 1 ∨ t < 1 ∨ 16 < t ∨ tim v = false) : chk ⟨b, c, t, v⟩ = 1 := by rw [chk, if_neg h, if_neg (by simp [h2, h3]), if_pos h4]
theorem chk_ok {b c t v : Int} (h : ¬ (b = 0 ∧ c = 0 ∧ t = 0 ∧ v = 0)) (h2 : fit b = true) (h3 : fit c = true) (h4 : ¬ (b < 0 ∨ c < 1 ∨ t < 1 ∨ 16 < t ∨ tim v = false)) : chk ⟨b, c, t, v⟩ = 0 := by rw [chk, if_neg h, if_neg (by simp [h2, h3]), if_neg h4]
theorem fits_yes (n : Int) (w : World) (h : fit n = true) : Calls Try.prog 25 #[.int .i64 n] w fun e w' => e = .returned (.bool true) ∧ w = w' := (fits_any n w).mono fun e w' ⟨h1, h2⟩ => ⟨by rw [h1, h], h2⟩
theorem fits_no (n : Int) (w : World) (h : fit n = false) : Calls Try.prog 25 #[.int .i64 n] w fun e w' => e = .returned (.bool false) ∧ w = w' := (fits_any n w).mono fun e w' ⟨h1, h2⟩ => ⟨by rw [h1, h], h2⟩
theorem Fits_yes (n : Int) (w : World) (h : fit n = true) : Calls Try.prog 27 #[.int .i64 n] w fun e w' => e = .returned (.bool true) ∧ w = w' := (Fits_any n w).mono fun e w' ⟨h1, h2⟩ => ⟨by rw [h1, h], h2⟩
theorem Fits_no (n : Int) (w : World) (h : fit n = false) : Calls Try.prog 27 #[.int .i64 n] w fun e w' => e = .returned (.bool false) ∧ w = w' := (Fits_any n w).mono fun e w' ⟨h1, h2⟩ => ⟨by rw [h1, h], h2⟩
/-- a struct held against the zero one -/
theorem eql_zero {b c t v : Int} (h : ¬ (b = 0 ∧ c = 0 ∧ t = 0 ∧ v = 0)) (w : World) : (binOp .eql 23 (.agg #[.int .i64 b, .int .i64 c, .int .i64 t, .int .i64 v]) (.agg #[.int .i64 0, .int .i64 0, .int .i64 0, .int .i64 0])).run Try.prog w = .ok (.bool false) w := by
  by_cases h1 : b = 0
  · subst h1
    by_cases h2 : c = 0
    · subst h2
      by_cases h3 : t = 0
      · subst h3
        have h4 : (v == 0) = false := by simpa using h
        go_simp
      · have h4 : (t == 0) = false := by simpa using h3
        go_simp
    · have h4 : (c == 0) = false := by simpa using h2
      go_simp
  · have h4 : (b == 0) = false := by simpa using h1
    go_simp
theorem time_yes (n : Int) (w : World) (h : tim n = true) : Calls Try.prog 26 #[.int .i64 n] w fun e w' => e = .returned (.bool true) ∧ w = w' := (time_any n w).mono fun e w' ⟨h1, h2⟩ => ⟨by rw [h1, h], h2⟩
theorem time_no (n : Int) (w : World) (h : tim n = false) : Calls Try.prog 26 #[.int .i64 n] w fun e w' => e = .returned (.bool false) ∧ w = w' := (time_any n w).mono fun e w' ⟨h1, h2⟩ => ⟨by rw [h1, h], h2⟩
theorem Time_yes (n : Int) (w : World) (h : tim n = true) : Calls Try.prog 28 #[.int .i64 n] w fun e w' => e = .returned (.bool true) ∧ w = w' := (Time_any n w).mono fun e w' ⟨h1, h2⟩ => ⟨by rw [h1, h], h2⟩
theorem Time_no (n : Int) (w : World) (h : tim n = false) : Calls Try.prog 28 #[.int .i64 n] w fun e w' => e = .returned (.bool false) ∧ w = w' := (Time_any n w).mono fun e w' ⟨h1, h2⟩ => ⟨by rw [h1, h], h2⟩
set_option maxHeartbeats 1000000 in
theorem check_any (b c t v : Int) (w : World) : Calls Try.prog 11 #[.agg #[.int .i64 b, .int .i64 c, .int .i64 t, .int .i64 v]] w fun e w' => e = .returned (.int .i64 (chk ⟨b, c, t, v⟩)) ∧ Below w.heap.size w w' := by
  by_cases hz : b = 0 ∧ c = 0 ∧ t = 0 ∧ v = 0
  · obtain ⟨rfl, rfl, rfl, rfl⟩ := hz
    go_enter Try.func11, Try.ntmps11
    go_wp2_with fail
    go_ret
    exact ⟨by rw [chk_zero rfl rfl rfl rfl]; rfl, (Below.refl _ _).alloc (Nat.le_refl _) _⟩
  · have he := eql_zero hz
    have HZ := Lib.hid hz
    clear hz
    cases hb : fit b
    · have HB := Lib.hid hb
      clear hb
      go_enter Try.func11, Try.ntmps11
      go_wp2_with fail
      refine (fits_no _ _ HB.out).mono ?_
      rintro e _ ⟨rfl, rfl⟩
      go_wp2_with fail
      go_ret
      exact ⟨by rw [chk_fit HZ.out (.inl HB.out)]; rfl, (Below.refl _ _).alloc (Nat.le_refl _) _⟩
    · have HB := Lib.hid hb
      clear hb
      cases hc : fit c
      · have HC := Lib.hid hc
        clear hc
        go_enter Try.func11, Try.ntmps11
        go_wp2_with fail
        refine (fits_yes _ _ HB.out).mono ?_
        rintro e _ ⟨rfl, rfl⟩
        go_wp2_with fail
        refine (fits_no _ _ HC.out).mono ?_
        rintro e _ ⟨rfl, rfl⟩
        go_wp2_with fail
        go_ret
        exact ⟨by rw [chk_fit HZ.out (.inr HC.out)]; rfl, (Below.refl _ _).alloc (Nat.le_refl _) _⟩
      · have HC := Lib.hid hc
        clear hc
        by_cases h1 : b < 0
        · have HH := Lib.hid (chk_arg HZ.out HB.out HC.out (.inl h1))
          go_enter Try.func11, Try.ntmps11
          go_wp2_with fail
          refine (fits_yes _ _ HB.out).mono ?_
          rintro e _ ⟨rfl, rfl⟩
          go_wp2_with fail
          refine (fits_yes _ _ HC.out).mono ?_
          rintro e _ ⟨rfl, rfl⟩
          go_wp2_with fail
          go_ret
          exact ⟨by rw [HH.out]; rfl, (Below.refl _ _).alloc (Nat.le_refl _) _⟩
        · by_cases h2 : c < 1
          · have HH := Lib.hid (chk_arg HZ.out HB.out HC.out (.inr (.inl h2)))
            go_enter Try.func11, Try.ntmps11
            go_wp2_with fail
            refine (fits_yes _ _ HB.out).mono ?_
            rintro e _ ⟨rfl, rfl⟩
            go_wp2_with fail
            refine (fits_yes _ _ HC.out).mono ?_
            rintro e _ ⟨rfl, rfl⟩
            go_wp2_with fail
            go_ret
            exact ⟨by rw [HH.out]; rfl, (Below.refl _ _).alloc (Nat.le_refl _) _⟩
          · by_cases h3 : t < 1
            · have HH := Lib.hid (chk_arg HZ.out HB.out HC.out (.inr (.inr (.inl h3))))
              go_enter Try.func11, Try.ntmps11
              go_wp2_with fail
              refine (fits_yes _ _ HB.out).mono ?_
              rintro e _ ⟨rfl, rfl⟩
              go_wp2_with fail
              refine (fits_yes _ _ HC.out).mono ?_
              rintro e _ ⟨rfl, rfl⟩
              go_wp2_with fail
              go_ret
              exact ⟨by rw [HH.out]; rfl, (Below.refl _ _).alloc (Nat.le_refl _) _⟩
            · by_cases h4 : 16 < t
              · have HH := Lib.hid (chk_arg HZ.out HB.out HC.out (.inr (.inr (.inr (.inl h4)))))
                go_enter Try.func11, Try.ntmps11
                go_wp2_with fail
                refine (fits_yes _ _ HB.out).mono ?_
                rintro e _ ⟨rfl, rfl⟩
                go_wp2_with fail
                refine (fits_yes _ _ HC.out).mono ?_
                rintro e _ ⟨rfl, rfl⟩
                go_wp2_with fail
                go_ret
                exact ⟨by rw [HH.out]; rfl, (Below.refl _ _).alloc (Nat.le_refl _) _⟩
              · cases ht : tim v
                · have HH := Lib.hid (chk_arg HZ.out HB.out HC.out (.inr (.inr (.inr (.inr ht)))))
                  have HT := Lib.hid ht
                  clear ht
                  go_enter Try.func11, Try.ntmps11
                  go_wp2_with fail
                  refine (fits_yes _ _ HB.out).mono ?_
                  rintro e _ ⟨rfl, rfl⟩
                  go_wp2_with fail
                  refine (fits_yes _ _ HC.out).mono ?_
                  rintro e _ ⟨rfl, rfl⟩
                  go_wp2_with fail
                  refine (time_no _ _ HT.out).mono ?_
                  rintro e _ ⟨rfl, rfl⟩
                  go_wp2_with fail
                  go_ret
                  exact ⟨by rw [HH.out]; rfl, (Below.refl _ _).alloc (Nat.le_refl _) _⟩
                · have HH := Lib.hid (chk_ok HZ.out HB.out HC.out (by rintro (h | h | h | h | h) <;> first | omega | (rw [ht] at h; cases h)))
                  have HT := Lib.hid ht
                  clear ht
                  go_enter Try.func11, Try.ntmps11
                  go_wp2_with fail
                  refine (fits_yes _ _ HB.out).mono ?_
                  rintro e _ ⟨rfl, rfl⟩
                  go_wp2_with fail
                  refine (fits_yes _ _ HC.out).mono ?_
                  rintro e _ ⟨rfl, rfl⟩
                  go_wp2_with fail
                  refine (time_yes _ _ HT.out).mono ?_
                  rintro e _ ⟨rfl, rfl⟩
                  go_wp2_with fail
                  go_ret
                  exact ⟨by rw [HH.out]; rfl, (Below.refl _ _).alloc (Nat.le_refl _) _⟩
set_option maxHeartbeats 1000000 in
theorem Check_any (b c t v : Int) (w : World) : Calls Try.prog 12 #[.agg #[.int .i64 b, .int .i64 c, .int .i64 t, .int .i64 v]] w fun e w' => e = .returned (.int .i64 (chk ⟨b, c, t, v⟩)) ∧ Below w.heap.size w w' := by
  by_cases hz : b = 0 ∧ c = 0 ∧ t = 0 ∧ v = 0
  · obtain ⟨rfl, rfl, rfl, rfl⟩ := hz
    go_enter Try.func12, Try.ntmps12
    go_wp2_with fail
    go_ret
    exact ⟨by rw [chk_zero rfl rfl rfl rfl]; rfl, ((Below.refl _ _).alloc (Nat.le_refl _) _).alloc (by simp) _⟩
  · have he := eql_zero hz
    have HZ := Lib.hid hz
    clear hz
    cases hb : fit b
    · have HB := Lib.hid hb
      clear hb
      go_enter Try.func12, Try.ntmps12
      go_wp2_with fail
      refine (Fits_no _ _ HB.out).mono ?_
      rintro e _ ⟨rfl, rfl⟩
      go_wp2_with fail
      go_ret
      exact ⟨by rw [chk_fit HZ.out (.inl HB.out)]; rfl, ((Below.refl _ _).alloc (Nat.le_refl _) _).alloc (by simp) _⟩
    · have HB := Lib.hid hb
      clear hb
      cases hc : fit c
      · have HC := Lib.hid hc
        clear hc
        go_enter Try.func12, Try.ntmps12
        go_wp2_with fail
        refine (Fits_yes _ _ HB.out).mono ?_
        rintro e _ ⟨rfl, rfl⟩
        go_wp2_with fail
        refine (Fits_no _ _ HC.out).mono ?_
        rintro e _ ⟨rfl, rfl⟩
        go_wp2_with fail
        go_ret
        exact ⟨by rw [chk_fit HZ.out (.inr HC.out)]; rfl, ((Below.refl _ _).alloc (Nat.le_refl _) _).alloc (by simp) _⟩
      · have HC := Lib.hid hc
        clear hc
        by_cases h1 : b < 0
        · have HH := Lib.hid (chk_arg HZ.out HB.out HC.out (.inl h1))
          go_enter Try.func12, Try.ntmps12
          go_wp2_with fail
          refine (Fits_yes _ _ HB.out).mono ?_
          rintro e _ ⟨rfl, rfl⟩
          go_wp2_with fail
          refine (Fits_yes _ _ HC.out).mono ?_
          rintro e _ ⟨rfl, rfl⟩
          go_wp2_with fail
          go_ret
          exact ⟨by rw [HH.out]; rfl, ((Below.refl _ _).alloc (Nat.le_refl _) _).alloc (by simp) _⟩
        · by_cases h2 : c < 1
          · have HH := Lib.hid (chk_arg HZ.out HB.out HC.out (.inr (.inl h2)))
            go_enter Try.func12, Try.ntmps12
            go_wp2_with fail
            refine (Fits_yes _ _ HB.out).mono ?_
            rintro e _ ⟨rfl, rfl⟩
            go_wp2_with fail
            refine (Fits_yes _ _ HC.out).mono ?_
            rintro e _ ⟨rfl, rfl⟩
            go_wp2_with fail
            go_ret
            exact ⟨by rw [HH.out]; rfl, ((Below.refl _ _).alloc (Nat.le_refl _) _).alloc (by simp) _⟩
          · by_cases h3 : t < 1
            · have HH := Lib.hid (chk_arg HZ.out HB.out HC.out (.inr (.inr (.inl h3))))
              go_enter Try.func12, Try.ntmps12
              go_wp2_with fail
              refine (Fits_yes _ _ HB.out).mono ?_
              rintro e _ ⟨rfl, rfl⟩
              go_wp2_with fail
              refine (Fits_yes _ _ HC.out).mono ?_
              rintro e _ ⟨rfl, rfl⟩
              go_wp2_with fail
              go_ret
              exact ⟨by rw [HH.out]; rfl, ((Below.refl _ _).alloc (Nat.le_refl _) _).alloc (by simp) _⟩
            · by_cases h4 : 16 < t
              · have HH := Lib.hid (chk_arg HZ.out HB.out HC.out (.inr (.inr (.inr (.inl h4)))))
                go_enter Try.func12, Try.ntmps12
                go_wp2_with fail
                refine (Fits_yes _ _ HB.out).mono ?_
                rintro e _ ⟨rfl, rfl⟩
                go_wp2_with fail
                refine (Fits_yes _ _ HC.out).mono ?_
                rintro e _ ⟨rfl, rfl⟩
                go_wp2_with fail
                go_ret
                exact ⟨by rw [HH.out]; rfl, ((Below.refl _ _).alloc (Nat.le_refl _) _).alloc (by simp) _⟩
              · cases ht : tim v
                · have HH := Lib.hid (chk_arg HZ.out HB.out HC.out (.inr (.inr (.inr (.inr ht)))))
                  have HT := Lib.hid ht
                  clear ht
                  go_enter Try.func12, Try.ntmps12
                  go_wp2_with fail
                  refine (Fits_yes _ _ HB.out).mono ?_
                  rintro e _ ⟨rfl, rfl⟩
                  go_wp2_with fail
                  refine (Fits_yes _ _ HC.out).mono ?_
                  rintro e _ ⟨rfl, rfl⟩
                  go_wp2_with fail
                  refine (Time_no _ _ HT.out).mono ?_
                  rintro e _ ⟨rfl, rfl⟩
                  go_wp2_with fail
                  go_ret
                  exact ⟨by rw [HH.out]; rfl, ((Below.refl _ _).alloc (Nat.le_refl _) _).alloc (by simp) _⟩
                · have HH := Lib.hid (chk_ok HZ.out HB.out HC.out (by rintro (h | h | h | h | h) <;> first | omega | (rw [ht] at h; cases h)))
                  have HT := Lib.hid ht
                  clear ht
                  go_enter Try.func12, Try.ntmps12
                  go_wp2_with fail
                  refine (Fits_yes _ _ HB.out).mono ?_
                  rintro e _ ⟨rfl, rfl⟩
                  go_wp2_with fail
                  refine (Fits_yes _ _ HC.out).mono ?_
                  rintro e _ ⟨rfl, rfl⟩
                  go_wp2_with fail
                  refine (Time_yes _ _ HT.out).mono ?_
                  rintro e _ ⟨rfl, rfl⟩
                  go_wp2_with fail
                  go_ret
                  exact ⟨by rw [HH.out]; rfl, ((Below.refl _ _).alloc (Nat.le_refl _) _).alloc (by simp) _⟩
end Go.Proofs.Ytodkcnhdiddbkaa.Wk
