/- Which bytes an escape copies; a hexadecimal digit's value. Conditions: a byte. -/
import Derived.Test.YtgfbgkoifcacdaaDoorORw
set_option linter.unusedSimpArgs false
set_option linter.unusedVariables false
namespace Go.Proofs.YtgfbgkoifcacdaaDoor.Om
def plB (x : Int) : Bool := decide (33 ≤ x ∧ x ≤ 126 ∧ x ≠ 37)
def dgB (x : Int) : Int := if 48 ≤ x ∧ x ≤ 57 then x - 48 else if 65 ≤ x ∧ x ≤ 70 then x - 55 else -1
end Go.Proofs.YtgfbgkoifcacdaaDoor.Om
namespace Go.Proofs.YtgfbgkoifcacdaaDoor.Ow
open Go.RowKit
open Go.Proofs.YtgfbgkoifcacdaaDoor.Om
theorem plain33 (x : Int) (w : World) : Calls Tryd.prog 68 #[.int .u8 x] w fun e w' => e = .returned (.bool (plB x)) ∧ Below w.heap.size w w' := by
  have key : ∀ b, plB x = b → Calls Tryd.prog 68 #[.int .u8 x] w fun e w' => e = .returned (.bool b) ∧ Below w.heap.size w w' := by
    intro b hb
    unfold plB at hb
    go_enter Tryd.func68, Tryd.ntmps68
    by_cases h1 : 32 < x
    · by_cases h2 : x ≤ 126
      · by_cases h3 : x = 37
        · subst h3
          have e5 : b = false := by rw [← hb]; decide
          clear hb
          subst e5
          go_wp2_with fail
          go_ret
          exact ⟨rfl, Below.refl _ _⟩
        · have e3 : (x != 37) = true := by simp [h3]
          have e5 : b = true := by rw [← hb]; exact decide_eq_true (by omega)
          clear hb
          subst e5
          go_wp2_with fail
          go_ret
          exact ⟨rfl, Below.refl _ _⟩
      · have e5 : b = false := by rw [← hb]; exact decide_eq_false (by omega)
        clear hb
        subst e5
        go_wp2_with fail
        go_ret
        exact ⟨rfl, Below.refl _ _⟩
    · have e5 : b = false := by rw [← hb]; exact decide_eq_false (by omega)
      clear hb
      subst e5
      go_wp2_with fail
      go_ret
      exact ⟨rfl, Below.refl _ _⟩
  exact key _ rfl
theorem plain35 (x : Int) (w : World) : Calls Tryd.prog 71 #[.int .u8 x] w fun e w' => e = .returned (.bool (plB x)) ∧ Below w.heap.size w w' := by
  have key : ∀ b, plB x = b → Calls Tryd.prog 71 #[.int .u8 x] w fun e w' => e = .returned (.bool b) ∧ Below w.heap.size w w' := by
    intro b hb
    unfold plB at hb
    go_enter Tryd.func71, Tryd.ntmps71
    by_cases h1 : 33 ≤ x
    · by_cases h2 : x ≤ 126
      · by_cases h3 : x = 37
        · subst h3
          have e5 : b = false := by rw [← hb]; decide
          clear hb
          subst e5
          go_wp2_with fail
          go_ret
          exact ⟨rfl, Below.refl _ _⟩
        · have e3 : (x != 37) = true := by simp [h3]
          have e5 : b = true := by rw [← hb]; exact decide_eq_true (by omega)
          clear hb
          subst e5
          go_wp2_with fail
          go_ret
          exact ⟨rfl, Below.refl _ _⟩
      · have e5 : b = false := by rw [← hb]; exact decide_eq_false (by omega)
        clear hb
        subst e5
        go_wp2_with fail
        go_ret
        exact ⟨rfl, Below.refl _ _⟩
    · have e5 : b = false := by rw [← hb]; exact decide_eq_false (by omega)
      clear hb
      subst e5
      go_wp2_with fail
      go_ret
      exact ⟨rfl, Below.refl _ _⟩
  exact key _ rfl
end Go.Proofs.YtgfbgkoifcacdaaDoor.Ow
