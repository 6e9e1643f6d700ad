/- The walks of the laws ClassChecks, ClassFinds, ClassReconciles, ClassMajorities: they return true, and write nothing that was there. Conditions: the slices read as lists. -/
import Derived.Test.YtmclbcfcbocnhaaAwk
set_option linter.unusedSimpArgs false
set_option linter.unusedVariables false
namespace Go.Proofs.Ytmclbcfcbocnhaa.Wk
open Go.RowKit
open Go.Proofs.Ytmclbcfcbocnhaa.Mt

theorem Reconcile_any (d m : Int) (w : World) :
    Calls Try.prog 17 #[.int .i64 d, .int .i64 m] w fun e w' => e = .returned (.tuple #[.int .i64 (reS d m).1, .bool (reS d m).2]) ∧ w = w' := by
  have known_yes : ∀ (c : Int) (w : World), 1 ≤ c ∧ c ≤ 9 → Calls Try.prog 21 #[.int .i64 c] w fun e w' => e = .returned (.bool true) ∧ w = w' := fun c w h => (Known_any c w).mono fun e w' ⟨h1, h2⟩ => ⟨by rw [h1, decide_eq_true h], h2⟩
  have known_no : ∀ (c : Int) (w : World), ¬ (1 ≤ c ∧ c ≤ 9) → Calls Try.prog 21 #[.int .i64 c] w fun e w' => e = .returned (.bool false) ∧ w = w' := fun c w h => (Known_any c w).mono fun e w' ⟨h1, h2⟩ => ⟨by rw [h1, decide_eq_false h], h2⟩
  have KY := Lib.hid known_yes
  have KN := Lib.hid known_no
  clear known_yes known_no
  by_cases hm : 1 ≤ m ∧ m ≤ 9
  · by_cases hd : 1 ≤ d ∧ d ≤ 9
    · by_cases he : d = m
      · subst he
        have hf : Hid (reS d d = (d, true)) := Lib.hid (by simp [reS, hd])
        go_enter Try.func17, Try.ntmps17
        go_wp2_with (go_at_call 21; refine (KY.out _ _ hd).mono ?_; rintro e w' ⟨rfl, rfl⟩)
        go_ret2
        exact ⟨by rw [hf.out]; rfl, rfl⟩
      · have hf : Hid (reS d m = (m, false)) := Lib.hid (by simp [reS, hd, hm, he])
        have gg : (d == m) = false := by simpa using he
        clear he
        go_enter Try.func17, Try.ntmps17
        go_wp2_with (go_at_call 21; refine (KY.out _ _ (by assumption)).mono ?_; rintro e w' ⟨rfl, rfl⟩)
        go_ret2
        exact ⟨by rw [hf.out]; rfl, rfl⟩
    · have he : ¬ d = m := by omega
      have hf : Hid (reS d m = (m, true)) := Lib.hid (by simp only [reS, hm]; simp [hd])
      have gg : (d == m) = false := by simpa using he
      clear he
      go_enter Try.func17, Try.ntmps17
      go_wp2_with (go_at_call 21; (first | refine (KY.out _ _ (by assumption)).mono ?_ | refine (KN.out _ _ (by assumption)).mono ?_); rintro e w' ⟨rfl, rfl⟩)
      go_ret2
      exact ⟨by rw [hf.out]; rfl, rfl⟩
  · by_cases hd : 1 ≤ d ∧ d ≤ 9
    · have hf : Hid (reS d m = (d, false)) := Lib.hid (by simp only [reS, hm, hd]; simp)
      go_enter Try.func17, Try.ntmps17
      go_wp2_with (go_at_call 21; (first | refine (KY.out _ _ (by assumption)).mono ?_ | refine (KN.out _ _ (by assumption)).mono ?_); rintro e w' ⟨rfl, rfl⟩)
      go_ret2
      exact ⟨by rw [hf.out]; rfl, rfl⟩
    · have hf : Hid (reS d m = (0, false)) := Lib.hid (by simp only [reS, hm, hd]; simp)
      go_enter Try.func17, Try.ntmps17
      go_wp2_with (go_at_call 21; (first | refine (KY.out _ _ (by assumption)).mono ?_ | refine (KN.out _ _ (by assumption)).mono ?_); rintro e w' ⟨rfl, rfl⟩)
      go_ret2
      exact ⟨by rw [hf.out]; rfl, rfl⟩

theorem reconciles_law (d m : Int) (w : World) : Calls Try.prog 5 #[.int .i64 d, .int .i64 m] w fun e w' => e = .returned (.bool true) ∧ Below w.heap.size w w' := by
  go_enter Try.func5, Try.ntmps5
  go_wp2_with fail
  obtain ⟨⟨x, y⟩, hx⟩ : ∃ p, reS d m = p := ⟨_, rfl⟩
  have HX := Lib.hid hx
  clear hx
  refine (reconcile_any d m _).mono ?_
  rintro e _ ⟨he, rfl⟩
  rw [HX.out] at he
  subst he
  go_wp2_with fail
  refine (Reconcile_any d m _).mono ?_
  rintro e _ ⟨he, rfl⟩
  rw [HX.out] at he
  subst he
  go_wp2_with (refine (awake_any _).mono ?_; rintro e w1 ⟨rfl, hb1⟩)
  go_ret
  exact ⟨rfl, hb1⟩

theorem Rl.up {w w' : World} {A : Option Addr} {n : Nat} {rs : List Rule} (h : Rl w w.heap.size A n rs) (hb : Below w.heap.size w w') : Rl w' w'.heap.size A n rs := by
  have h2 := h.below hb (Nat.le_refl _)
  exact ⟨h2.1, h2.2.1, fun h => by obtain ⟨b, off, e, hb', hc⟩ := h2.2.2 h; exact ⟨b, off, e, Nat.lt_of_lt_of_le hb' hb.size, hc⟩⟩

theorem checks_law (A : Option Addr) (n c : Nat) (rs : List Rule) (w : World) (h : Rl w w.heap.size A n rs) :
    Calls Try.prog 3 #[.slice A n c] w fun e w' => e = .returned (.bool true) ∧ Below w.heap.size w w' := by
  have hn := h.2.1
  have HR := Lib.hid h
  clear h
  by_cases h30 : 30 < n
  · go_enter Try.func3, Try.ntmps3
    go_wp2_with (refine (awake_any _).mono ?_; rintro e w1 ⟨rfl, hb1⟩)
    go_ret
    exact ⟨rfl, hb1⟩
  · obtain ⟨x, hx⟩ : ∃ x, chS rs = x := ⟨_, rfl⟩
    have HX := Lib.hid hx
    clear hx
    go_enter Try.func3, Try.ntmps3
    go_wp2_with fail
    refine (check_any A n c rs _ HR.out).mono ?_
    rintro e w1 ⟨he, hb1⟩
    rw [HX.out] at he
    subst he
    go_wp2_with fail
    refine (Check_any A n c rs _ (HR.out.up hb1)).mono ?_
    rintro e w2 ⟨he, hb2⟩
    rw [HX.out] at he
    subst he
    have hB := hb1.trans (hb2.mono hb1.size)
    clear hb1 hb2
    go_wp2_with (refine (awake_any _).mono ?_; rintro e w3 ⟨rfl, hb3⟩)
    go_ret
    exact ⟨rfl, hB.trans (hb3.mono hB.size)⟩
theorem finds_law (A : Option Addr) (n c : Nat) (x y : Int) (rs : List Rule) (w : World) (h : Rl w w.heap.size A n rs) :
    Calls Try.prog 4 #[.slice A n c, .int .i64 x, .int .i64 y] w fun e w' => e = .returned (.bool true) ∧ Below w.heap.size w w' := by
  have hn := h.2.1
  have HR := Lib.hid h
  clear h
  by_cases h30 : 30 < n
  · go_enter Try.func4, Try.ntmps4
    go_wp2_with (refine (awake_any _).mono ?_; rintro e w1 ⟨rfl, hb1⟩)
    go_ret
    exact ⟨rfl, hb1⟩
  · obtain ⟨⟨p, q⟩, hx⟩ : ∃ z, ofS x rs = z := ⟨_, rfl⟩
    obtain ⟨⟨s, t, u⟩, hy⟩ : ∃ z, raS y rs = z := ⟨_, rfl⟩
    have HX := Lib.hid hx
    have HY := Lib.hid hy
    clear hx hy
    go_enter Try.func4, Try.ntmps4
    go_wp2_with fail
    refine (of_any A n c x rs _ HR.out).mono ?_
    rintro e w1 ⟨he, hb1⟩
    rw [HX.out] at he
    subst he
    go_wp2_with fail
    refine (Of_any A n c x rs _ (HR.out.up hb1)).mono ?_
    rintro e w2 ⟨he, hb2⟩
    rw [HX.out] at he
    subst he
    have hB2 := hb1.trans (hb2.mono hb1.size)
    clear hb1 hb2
    go_wp2_with fail
    refine (range_any A n c y rs _ (HR.out.up hB2)).mono ?_
    rintro e w3 ⟨he, hb3⟩
    rw [HY.out] at he
    subst he
    have hB3 := hB2.trans (hb3.mono hB2.size)
    clear hb3 hB2
    go_wp2_with fail
    refine (Range_any A n c y rs _ (HR.out.up hB3)).mono ?_
    rintro e w4 ⟨he, hb4⟩
    rw [HY.out] at he
    subst he
    have hB4 := hB3.trans (hb4.mono hB3.size)
    clear hb4 hB3
    go_wp2_with (refine (awake_any _).mono ?_; rintro e w5 ⟨rfl, hb5⟩)
    go_ret
    exact ⟨rfl, hB4.trans (hb5.mono hB4.size)⟩

theorem majorities_law (A : Option Addr) (n c : Nat) (zs : List Int) (w : World) (h : Ri w w.heap.size A n zs) :
    Calls Try.prog 6 #[.slice A n c] w fun e w' => e = .returned (.bool true) ∧ Below w.heap.size w w' := by
  have hn := h.2.1
  have HR := Lib.hid h
  clear h
  by_cases h30 : 200 < n
  · go_enter Try.func6, Try.ntmps6
    go_wp2_with (refine (awake_any _).mono ?_; rintro e w1 ⟨rfl, hb1⟩)
    go_ret
    exact ⟨rfl, hb1⟩
  · obtain ⟨x, hx⟩ : ∃ x : Nat, majS zs = x := ⟨_, rfl⟩
    have HX := Lib.hid hx
    clear hx
    go_enter Try.func6, Try.ntmps6
    go_wp2_with fail
    refine (majority_any A n c zs _ HR.out).mono ?_
    rintro e w1 ⟨he, hb1⟩
    rw [HX.out] at he
    subst he
    go_wp2_with fail
    refine (Majority_any A n c zs _ ?_).mono ?_
    · have h2 := HR.out.below hb1 (Nat.le_refl _)
      exact ⟨h2.1, h2.2.1, fun h => by obtain ⟨b, off, e, hb', hc⟩ := h2.2.2 h; exact ⟨b, off, e, Nat.lt_of_lt_of_le hb' hb1.size, hc⟩⟩
    rintro e _ ⟨he, rfl⟩
    rw [HX.out] at he
    subst he
    go_wp2_with (refine (awake_any _).mono ?_; rintro e w3 ⟨rfl, hb3⟩)
    go_ret
    exact ⟨rfl, hb1.trans (hb3.mono hb1.size)⟩
end Go.Proofs.Ytmclbcfcbocnhaa.Wk
