/- Amounts and ratios in the layer, walked. Conditions: the numbers are machine integers. -/
import Derived.Test.YtjipcopfggnlkaaDoorRm
set_option linter.unusedSimpArgs false
set_option linter.unusedVariables false
namespace Go.Proofs.YtjipcopfggnlkaaDoor.Wk
open Go.RowKit
open Go.Proofs.YtjipcopfggnlkaaDoor.Mt
theorem fits16 (n : Int) (w : World) : Calls Tryd.prog 16 #[.int .i64 n] w fun e w' => e = .returned (.bool (fitB n)) ∧ w' = w := by
  go_enter Tryd.func16, Tryd.ntmps16
  by_cases h1 : -1125899906842624 ≤ n
  · by_cases h2 : n ≤ 1125899906842624
    · have e : fitB n = true := (fit_iff n).2 ⟨h1, h2⟩
      have d1 : decide (-1125899906842624 ≤ n) = true := decide_eq_true h1
      have d2 : decide (n ≤ 1125899906842624) = true := decide_eq_true h2
      rw [e]
      go_wp2_with fail
      go_ret
      exact ⟨rfl, rfl⟩
    · have e : fitB n = false := (fit_no n).2 (by omega)
      have d1 : decide (-1125899906842624 ≤ n) = true := decide_eq_true h1
      have d2 : decide (n ≤ 1125899906842624) = false := decide_eq_false h2
      rw [e]
      go_wp2_with fail
      go_ret
      exact ⟨rfl, rfl⟩
  · have e : fitB n = false := (fit_no n).2 (by omega)
    have d1 : decide (-1125899906842624 ≤ n) = false := decide_eq_false h1
    rw [e]
    go_wp2_with fail
    go_ret
    exact ⟨rfl, rfl⟩
theorem size29 (n : Int) (k : Nat) (w : World) (hn : In64 n) (hk : n.natAbs = k) : Calls Tryd.prog 29 #[.int .i64 n] w fun e w' => e = .returned (.int .u64 (k : Int)) ∧ w' = w := by
  unfold In64 at hn
  go_enter Tryd.func29, Tryd.ntmps29
  by_cases h0 : n < 0
  · obtain ⟨a, ha⟩ : ∃ a, IntKind.u64.wrap n = a := ⟨_, rfl⟩
    have W2 : IntKind.u64.wrap (-a) = (k : Int) := by rw [← ha, IntKind.wrap_u64, IntKind.wrap_u64]; omega
    go_wp2_with fail
    go_ret
    exact ⟨rfl, rfl⟩
  · have W1 : IntKind.u64.wrap n = (k : Int) := by rw [IntKind.wrap_u64]; omega
    go_wp2_with fail
    go_ret
    exact ⟨rfl, rfl⟩
theorem away32 (q r d : Nat) (mode : Int) (w : World) (hq : q < 18446744073709551616) (hr : r < d) (hd : d < 18446744073709551616) : Calls Tryd.prog 32 #[.int .u64 (q : Int), .int .u64 (r : Int), .int .u64 (d : Int), .int .i64 mode] w fun e w' => e = .returned (.bool (awB q r d mode)) ∧ w' = w := by
  obtain ⟨bo, hbo⟩ : ∃ b, awB q r d mode = b := ⟨_, rfl⟩
  have HBO := Lib.hid hbo
  rw [hbo]
  clear hbo
  go_enter Tryd.func32, Tryd.ntmps32
  by_cases h2 : mode = 2
  · obtain rfl : decide (0 < r) = bo := by rw [← HBO.out]; unfold awB; rw [if_pos h2]
    subst h2
    have d1 : decide ((0 : Int) < (r : Int)) = decide (0 < r) := by congr 1; simp
    go_wp2_with fail
    go_ret
    exact ⟨rfl, rfl⟩
  · have e2 : (mode == 2) = false := by simp [h2]
    by_cases h3 : mode = 3
    · have HB3 : Hid (bo = (decide (d - r < r) || (decide (r = d - r) && decide (q % 2 = 1)))) := Lib.hid (by rw [← HBO.out]; unfold awB; rw [if_neg h2, if_pos h3])
      subst h3
      obtain ⟨t, ht⟩ : ∃ t, d - r = t := ⟨_, rfl⟩
      rw [ht] at HB3
      have W1 : IntKind.u64.wrap ((d : Int) - (r : Int)) = (t : Int) := by rw [show (d : Int) - (r : Int) = (t : Int) by omega]; exact u64_in _ (by omega)
      clear HBO ht h2
      by_cases g1 : t < r
      · have gI : (t : Int) < (r : Int) := by omega
        have gd : decide ((t : Int) < (r : Int)) = true := decide_eq_true gI
        obtain rfl : bo = true := by rw [HB3.out, decide_eq_true g1, Bool.true_or]
        go_wp2_with fail
        go_ret
        exact ⟨rfl, rfl⟩
      · have gI : ¬ (t : Int) < (r : Int) := by omega
        have gd : decide ((t : Int) < (r : Int)) = false := decide_eq_false gI
        by_cases g2 : r = t
        · have HB4 : Hid (bo = decide (q % 2 = 1)) := Lib.hid (by rw [HB3.out, decide_eq_false g1, decide_eq_true g2, Bool.false_or, Bool.true_and])
          subst g2
          have ge : ((r : Int) == (r : Int)) = true := by simp
          rcases (by omega : q % 2 = 0 ∨ q % 2 = 1) with g3 | g3
          · obtain rfl : bo = false := by rw [HB4.out, g3]; rfl
            have V3 : (q : Int).tmod 2 = 0 := by rw [Int.tmod_eq_emod_of_nonneg (by omega)]; omega
            have V3' : (q : Int) % 2 = 0 := by omega
            clear g3
            go_wp2_with fail
            go_ret
            exact ⟨rfl, rfl⟩
          · obtain rfl : bo = true := by rw [HB4.out, g3]; rfl
            have V3 : (q : Int).tmod 2 = 1 := by rw [Int.tmod_eq_emod_of_nonneg (by omega)]; omega
            have V3' : (q : Int) % 2 = 1 := by omega
            clear g3
            go_wp2_with fail
            go_ret
            exact ⟨rfl, rfl⟩
        · obtain rfl : bo = false := by rw [HB3.out, decide_eq_false g1, decide_eq_false g2, Bool.false_or, Bool.false_and]
          have ge : ((r : Int) == (t : Int)) = false := by simp; omega
          go_wp2_with fail
          go_ret
          exact ⟨rfl, rfl⟩
    · have e3 : (mode == 3) = false := by simp [h3]
      obtain rfl : bo = false := by rw [← HBO.out]; unfold awB; rw [if_neg h2, if_neg h3]
      go_wp2_with fail
      go_ret
      exact ⟨rfl, rfl⟩
end Go.Proofs.YtjipcopfggnlkaaDoor.Wk
