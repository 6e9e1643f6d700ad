/- Which bytes an escape copies; a hexadecimal digit's value. Conditions: a byte. -/
import Derived.Test.YtcgcccieccicnaaDoorRw
set_option linter.unusedSimpArgs false
set_option linter.unusedVariables false
namespace Go.Proofs.YtcgcccieccicnaaDoor.Mt
def plB (x : Int) : Bool := decide (33 ≤ x ∧ x ≤ 126 ∧ x ≠ 37)
def dgB (x : Int) : Int := if 48 ≤ x ∧ x ≤ 57 then x - 48 else if 65 ≤ x ∧ x ≤ 70 then x - 55 else -1
end Go.Proofs.YtcgcccieccicnaaDoor.Mt
namespace Go.Proofs.YtcgcccieccicnaaDoor.Wk
open Go.RowKit
open Go.Proofs.YtcgcccieccicnaaDoor.Mt
theorem plain33 (x : Int) (w : World) : Calls Tryd.prog 33 #[.int .u8 x] w fun e w' => e = .returned (.bool (plB x)) ∧ Below w.heap.size w w' := by
  have key : ∀ b, plB x = b → Calls Tryd.prog 33 #[.int .u8 x] w fun e w' => e = .returned (.bool b) ∧ Below w.heap.size w w' := by
    intro b hb
    unfold plB at hb
    go_enter Tryd.func33, Tryd.ntmps33
    by_cases h1 : 32 < x
    · by_cases h2 : x ≤ 126
      · by_cases h3 : x = 37
        · subst h3
          have e5 : b = false := by rw [← hb]; decide
          clear hb
          subst e5
          go_wp2_with fail
          go_ret
          exact ⟨rfl, Below.refl _ _⟩
        · have e3 : (x != 37) = true := by simp [h3]
          have e5 : b = true := by rw [← hb]; exact decide_eq_true (by omega)
          clear hb
          subst e5
          go_wp2_with fail
          go_ret
          exact ⟨rfl, Below.refl _ _⟩
      · have e5 : b = false := by rw [← hb]; exact decide_eq_false (by omega)
        clear hb
        subst e5
        go_wp2_with fail
        go_ret
        exact ⟨rfl, Below.refl _ _⟩
    · have e5 : b = false := by rw [← hb]; exact decide_eq_false (by omega)
      clear hb
      subst e5
      go_wp2_with fail
      go_ret
      exact ⟨rfl, Below.refl _ _⟩
  exact key _ rfl
theorem plain35 (x : Int) (w : World) : Calls Tryd.prog 35 #[.int .u8 x] w fun e w' => e = .returned (.bool (plB x)) ∧ Below w.heap.size w w' := by
  have key : ∀ b, plB x = b → Calls Tryd.prog 35 #[.int .u8 x] w fun e w' => e = .returned (.bool b) ∧ Below w.heap.size w w' := by
    intro b hb
    unfold plB at hb
    go_enter Tryd.func35, Tryd.ntmps35
    by_cases h1 : 33 ≤ x
    · by_cases h2 : x ≤ 126
      · by_cases h3 : x = 37
        · subst h3
          have e5 : b = false := by rw [← hb]; decide
          clear hb
          subst e5
          go_wp2_with fail
          go_ret
          exact ⟨rfl, Below.refl _ _⟩
        · have e3 : (x != 37) = true := by simp [h3]
          have e5 : b = true := by rw [← hb]; exact decide_eq_true (by omega)
          clear hb
          subst e5
          go_wp2_with fail
          go_ret
          exact ⟨rfl, Below.refl _ _⟩
      · have e5 : b = false := by rw [← hb]; exact decide_eq_false (by omega)
        clear hb
        subst e5
        go_wp2_with fail
        go_ret
        exact ⟨rfl, Below.refl _ _⟩
    · have e5 : b = false := by rw [← hb]; exact decide_eq_false (by omega)
      clear hb
      subst e5
      go_wp2_with fail
      go_ret
      exact ⟨rfl, Below.refl _ _⟩
  exact key _ rfl
theorem digit36 (x : Int) (w : World) (hx0 : 0 ≤ x) (hx1 : x ≤ 255) : Calls Tryd.prog 36 #[.int .u8 x] w fun e w' => e = .returned (.int .i64 (dgB x)) ∧ Below w.heap.size w w' := by
  have key : ∀ d, dgB x = d → Calls Tryd.prog 36 #[.int .u8 x] w fun e w' => e = .returned (.int .i64 d) ∧ Below w.heap.size w w' := by
    intro d hd
    unfold dgB at hd
    go_enter Tryd.func36, Tryd.ntmps36
    by_cases h1 : 48 ≤ x
    · by_cases h2 : x ≤ 57
      · rw [if_pos ⟨h1, h2⟩] at hd
        have W1 : IntKind.u8.wrap (x - 48) = d := by rw [← hd]; exact IntWalk.u8_in _ (by omega)
        have W2 : IntKind.i64.wrap d = d := IntWalk.i64_in _ (by omega)
        clear hd
        go_wp2_with fail
        go_ret
        exact ⟨rfl, Below.refl _ _⟩
      · rw [if_neg (by omega)] at hd
        by_cases h3 : 65 ≤ x
        · by_cases h4 : x ≤ 70
          · rw [if_pos ⟨h3, h4⟩] at hd
            obtain ⟨y, hy⟩ : ∃ y, y = x - 65 := ⟨_, rfl⟩
            have W1 : IntKind.u8.wrap (x - 65) = y := by rw [hy]; exact IntWalk.u8_in _ (by omega)
            have W2 : IntKind.i64.wrap y = y := IntWalk.i64_in _ (by omega)
            have W3 : IntKind.i64.wrap (y + 10) = d := by rw [← hd, hy]; rw [IntWalk.i64_in _ (by omega)]; omega
            clear hd hy
            go_wp2_with fail
            go_ret
            exact ⟨rfl, Below.refl _ _⟩
          · rw [if_neg (by omega)] at hd
            subst hd
            go_wp2_with fail
            go_ret
            exact ⟨rfl, Below.refl _ _⟩
        · rw [if_neg (by omega)] at hd
          subst hd
          go_wp2_with fail
          go_ret
          exact ⟨rfl, Below.refl _ _⟩
    · rw [if_neg (by omega), if_neg (by omega)] at hd
      subst hd
      have h3 : ¬ 65 ≤ x := by omega
      go_wp2_with fail
      go_ret
      exact ⟨rfl, Below.refl _ _⟩
  exact key _ rfl
end Go.Proofs.YtcgcccieccicnaaDoor.Wk
