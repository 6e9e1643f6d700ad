/- Contracts of years, months and windows. Conditions: the table of months reads as the text lays it; as written. -/
import Derived.Test.YtfpndiacbpinpaaDoorSm
import Derived.Lib.RabinKarpLaws
set_option linter.unusedSimpArgs false
set_option linter.unusedVariables false
namespace Go.Proofs.YtfpndiacbpinpaaDoor.Mt
def md (i : Nat) : Int := [31, 28, 31, 30, 31, 30, 31, 31, 30, 31, 30, 31].getD i 0
theorem ml_md (y : Int) {m : Nat} (h1 : 1 ≤ m) (h2 : m ≤ 12) : ml y (m : Int) = md (m - 1) + if m = 2 ∧ lp y = true then 1 else 0 := by
  rcases m12 h1 h2 with rfl | rfl | rfl | rfl | rfl | rfl | rfl | rfl | rfl | rfl | rfl | rfl <;> simp [ml, md] <;> split <;> omega
/-- a bit of the days of a window -/
def bt (days k : Int) : Bool := decide (days / 2 ^ k.toNat % 2 = 1)
def vi (f t : Int) : Bool := decide (0 ≤ f ∧ f < t ∧ t ≤ 68719476736)
def vw (d f t : Int) : Bool := decide (1 ≤ d ∧ d ≤ 127 ∧ 0 ≤ f ∧ f < t ∧ t ≤ 1440)
end Go.Proofs.YtfpndiacbpinpaaDoor.Mt
namespace Go.Proofs.YtfpndiacbpinpaaDoor.Wk
open Go.RowKit
open Go.Proofs.YtfpndiacbpinpaaDoor.Mt
/-- the table of the months' days -/
def Md (w : World) : Prop := 0 < w.heap.size ∧ ∀ i, i < 12 → w.cell? ⟨0, i, none⟩ = some (.int .i64 (md i))
theorem Md.next {w w' : World} (h : Md w) (hb : Below w.heap.size w w') : Md w' := ⟨Nat.lt_of_lt_of_le h.1 hb.size, fun i hi => (hb.cell (p := ⟨0, i, none⟩) h.1).trans (h.2 i hi)⟩
theorem leap_any (y : Int) (w : World) (h0 : 0 ≤ y) (h1 : y ≤ 10000) : Calls Tryd.prog 44 #[.int .i64 y] w fun e w' => e = .returned (.bool (lp y)) ∧ w = w' := by
  by_cases c4 : y % 4 = 0 <;> by_cases c100 : y % 100 = 0 <;> by_cases c400 : y % 400 = 0
  all_goals
    have HS := Lib.hid (show lp y = _ by simp only [lp, c4, c100, c400, ne_eq, not_true, not_false_eq_true, decide_true, decide_false, Bool.and_true, Bool.and_false, Bool.or_true, Bool.or_false, Bool.true_and, Bool.false_and]; rfl)
    first | have k4 : (y % 4 == 0) = true := beq_iff_eq.2 c4 | have k4 : (y % 4 == 0) = false := beq_eq_false_iff_ne.2 c4
    first | have k100 : (y % 100 != 0) = false := by simp [c100] | have k100 : (y % 100 != 0) = true := by simp [c100]
    first | have k400 : (y % 400 == 0) = true := beq_iff_eq.2 c400 | have k400 : (y % 400 == 0) = false := beq_eq_false_iff_ne.2 c400
    clear c4 c100 c400
    go_enter Tryd.func44, Tryd.ntmps44
    go_wp2_with fail
    go_ret
    exact ⟨by rw [HS.out]; rfl, rfl⟩
theorem Leap_any (y : Int) (w : World) (h0 : 0 ≤ y) (h1 : y ≤ 10000) : Calls Tryd.prog 45 #[.int .i64 y] w fun e w' => e = .returned (.bool (lp y)) ∧ w = w' := by
  by_cases c4 : y % 4 = 0 <;> by_cases c100 : y % 100 = 0 <;> by_cases c400 : y % 400 = 0
  all_goals
    have HS := Lib.hid (show lp y = _ by simp only [lp, c4, c100, c400, ne_eq, not_true, not_false_eq_true, decide_true, decide_false, Bool.and_true, Bool.and_false, Bool.or_true, Bool.or_false, Bool.true_and, Bool.false_and]; rfl)
    first | have k4 : (y % 4 == 0) = true := beq_iff_eq.2 c4 | have k4 : (y % 4 == 0) = false := beq_eq_false_iff_ne.2 c4
    first | have k100 : (y % 100 != 0) = false := by simp [c100] | have k100 : (y % 100 != 0) = true := by simp [c100]
    first | have k400 : (y % 400 == 0) = true := beq_iff_eq.2 c400 | have k400 : (y % 400 == 0) = false := beq_eq_false_iff_ne.2 c400
    clear c4 c100 c400
    go_enter Tryd.func45, Tryd.ntmps45
    go_wp2_with fail
    go_ret
    exact ⟨by rw [HS.out]; rfl, rfl⟩
theorem year_any (y : Int) (w : World) (h0 : 0 ≤ y) (h1 : y ≤ 10000) : Calls Tryd.prog 37 #[.int .i64 y] w fun e w' => e = .returned (.int .i64 (yl y)) ∧ w = w' := by
  rcases fot (lp y) with h | h
  all_goals
    have HS := Lib.hid (show yl y = _ by unfold yl; rw [h])
    have H := Lib.hid h
    clear h
    go_enter Tryd.func37, Tryd.ntmps37
    go_wp2_with fail
    refine (Leap_any _ _ h0 h1).mono ?_
    rintro e w' ⟨rfl, rfl⟩
    rw [H.out]
    go_wp2_with fail
    go_ret
    exact ⟨by rw [HS.out]; rfl, rfl⟩
set_option maxHeartbeats 1000000 in
theorem Length_any (y : Int) (m : Nat) (w : World) (h0 : 0 ≤ y) (h1 : y ≤ 10000) (h2 : 1 ≤ m) (h3 : m ≤ 12) : Calls Tryd.prog 38 #[.int .i64 y, .int .i64 m] w fun e w' => e = .returned (.int .i64 (ml y m)) ∧ w = w' := by
  obtain ⟨L, hL⟩ : ∃ L, ml y (m : Int) = L := ⟨_, rfl⟩
  rw [hL]
  rcases fot (lp y) with h | h <;> rcases m12 h2 h3 with rfl | rfl | rfl | rfl | rfl | rfl | rfl | rfl | rfl | rfl | rfl | rfl
  all_goals
    have H := Lib.hid h
    simp [ml, h] at hL
    subst hL
    clear h
    go_enter Tryd.func38, Tryd.ntmps38
    go_wp2_with (go_at_call 45; refine (Leap_any _ _ h0 h1).mono ?_; rintro e w' ⟨rfl, rfl⟩; rw [H.out])
    go_ret
    exact ⟨rfl, rfl⟩
set_option maxHeartbeats 1000000 in
theorem mlen_any (y : Int) (m : Nat) (w : World) (hM : Md w) (h0 : 0 ≤ y) (h1 : y ≤ 10000) (h2 : 1 ≤ m) (h3 : m ≤ 12) : Calls Tryd.prog 36 #[.int .i64 y, .int .i64 m] w fun e w' => e = .returned (.int .i64 (ml y m)) ∧ w = w' := by
  have hc := hM.2 (m - 1) (by omega)
  clear hM
  obtain ⟨L, hL⟩ : ∃ L, ml y (m : Int) = L := ⟨_, rfl⟩
  rw [hL]
  rcases fot (lp y) with h | h <;> rcases m12 h2 h3 with rfl | rfl | rfl | rfl | rfl | rfl | rfl | rfl | rfl | rfl | rfl | rfl
  all_goals
    have H := Lib.hid h
    simp [ml, h] at hL
    subst hL
    simp [md] at hc
    clear h h2 h3
    go_enter Tryd.func36, Tryd.ntmps36
    go_wp2_with (go_at_call 44; refine (leap_any _ _ h0 h1).mono ?_; rintro e w' ⟨rfl, rfl⟩; rw [H.out])
    go_ret
    exact ⟨rfl, rfl⟩
theorem onDay_any (d f t x : Int) (w : World) (h0 : 0 ≤ d) (h1 : d ≤ 127) (h2 : 0 ≤ x) (h3 : x ≤ 795364) : Calls Tryd.prog 40 #[.agg #[.int .i64 d, .int .i64 f, .int .i64 t], .int .i64 x] w fun e w' => e = .returned (.bool (bt d (x % 7))) ∧ Below w.heap.size w w' := by
  obtain ⟨k, hk⟩ : ∃ k, x % 7 = k := ⟨_, rfl⟩
  have hk0 : 0 ≤ k := by omega
  have hk1 : k ≤ 6 := by omega
  have hq : 0 ≤ d / 2 ^ k.toNat ∧ d / 2 ^ k.toNat ≤ 127 := by
    have hp : (0 : Int) < 2 ^ k.toNat := Int.pow_pos (by omega)
    exact ⟨Int.ediv_nonneg h0 (by omega), Int.le_trans (Int.ediv_le_self _ h0) h1⟩
  have HS : Hid ((bits BinOp.and IntKind.i64 (d / 2 ^ k.toNat) 1 == 1) = bt d (x % 7)) := Lib.hid (by
    rw [hk]
    obtain ⟨n, hn⟩ : ∃ n : Nat, d / 2 ^ k.toNat = (n : Int) := ⟨(d / 2 ^ k.toNat).toNat, by omega⟩
    unfold bt
    rw [hn, and_one n (by omega)]
    rw [Bool.eq_iff_iff]; simp)
  clear hq
  go_enter Tryd.func40, Tryd.ntmps40
  go_wp2_with fail
  go_ret
  exact ⟨by rw [← HS.out]; rfl, b1 _ _⟩
theorem bt_step (d : Int) (i : Nat) : d / 2 ^ i / 2 = d / 2 ^ (i + 1) := by
  rw [Int.ediv_ediv_of_nonneg (by exact Int.le_of_lt (Int.pow_pos (by omega))), Int.pow_succ]
theorem set_any (d k : Int) (w : World) (h0 : 0 ≤ d) (h1 : d ≤ 127) (h2 : 0 ≤ k) (h3 : k ≤ 6) : Calls Tryd.prog 42 #[.int .i64 d, .int .i64 k] w fun e w' => e = .returned (.bool (bt d k)) ∧ w = w' := by
  obtain ⟨k, rfl⟩ : ∃ n : Nat, k = (n : Int) := ⟨k.toNat, by omega⟩
  have hk : k ≤ 6 := by omega
  go_enter Tryd.func42, Tryd.ntmps42
  go_wp2_with fail
  go_loop [0, 5] (fun x i => ∃ j : Nat, j ≤ k ∧ i = .int .i64 j ∧ ∃ y : Int, 0 ≤ y ∧ y ≤ 127 ∧ x = .int .i64 y ∧ Hid (y = d / 2 ^ j)) (fun _ i => k - (intOf i).toNat)
  case atStart => exact ⟨0, Nat.zero_le _, rfl, d, h0, h1, rfl, Lib.hid (by simp)⟩
  case round =>
    obtain ⟨j, hj, rfl, y, y0, y1, rfl, HY⟩ := hrel
    by_cases hlt : j < k
    · have hltI : (j : Int) < (k : Int) := by omega
      go_wp2_with fail
      go_round
      case rel => exact ⟨j + 1, by omega, by go_num, y / 2, by omega, by omega, rfl, Lib.hid (by rw [HY.out, bt_step])⟩
      case measure => simp [intOf]; omega
    · have hltI : ¬ (j : Int) < (k : Int) := by omega
      have HS : Hid ((y % 2 == 1) = bt d (k : Int)) := Lib.hid (by
        have e : j = k := by omega
        unfold bt
        rw [HY.out, e]; rfl)
      go_wp2_with fail
      go_ret
      exact ⟨by rw [← HS.out]; rfl, rfl⟩
set_option maxHeartbeats 1000000 in
theorem vwin_any (d f t : Int) (w : World) : Calls Tryd.prog 39 #[.agg #[.int .i64 d, .int .i64 f, .int .i64 t]] w fun e w' => e = .returned (.bool (vw d f t)) ∧ Below w.heap.size w w' := by
  by_cases g0 : 1 ≤ d
  · by_cases g1 : d ≤ 127
    · by_cases g2 : 0 ≤ f
      · by_cases g3 : f < t
        · by_cases g4 : t ≤ 1440
          · have HS := Lib.hid (show vw d f t = true by simp [vw, g0, g1, g2, g3, g4])
            have e0 : decide (1 ≤ d) = true := decide_eq_true g0
            have e1 : decide (d ≤ 127) = true := decide_eq_true g1
            have e2 : decide (0 ≤ f) = true := decide_eq_true g2
            have e3 : decide (f < t) = true := decide_eq_true g3
            have e4 : decide (t ≤ 1440) = true := decide_eq_true g4
            clear g0 g1 g2 g3 g4
            go_enter Tryd.func39, Tryd.ntmps39
            go_wp2_with fail
            go_ret
            exact ⟨by rw [HS.out]; rfl, b1 _ _⟩
          · have HS := Lib.hid (show vw d f t = false by simp [vw, g0, g1, g2, g3, g4])
            have e0 : decide (1 ≤ d) = true := decide_eq_true g0
            have e1 : decide (d ≤ 127) = true := decide_eq_true g1
            have e2 : decide (0 ≤ f) = true := decide_eq_true g2
            have e3 : decide (f < t) = true := decide_eq_true g3
            have e4 : decide (t ≤ 1440) = false := decide_eq_false g4
            clear g0 g1 g2 g3 g4
            go_enter Tryd.func39, Tryd.ntmps39
            go_wp2_with fail
            go_ret
            exact ⟨by rw [HS.out]; rfl, b1 _ _⟩
        · have HS := Lib.hid (show vw d f t = false by simp [vw, g0, g1, g2, g3])
          have e0 : decide (1 ≤ d) = true := decide_eq_true g0
          have e1 : decide (d ≤ 127) = true := decide_eq_true g1
          have e2 : decide (0 ≤ f) = true := decide_eq_true g2
          have e3 : decide (f < t) = false := decide_eq_false g3
          clear g0 g1 g2 g3
          go_enter Tryd.func39, Tryd.ntmps39
          go_wp2_with fail
          go_ret
          exact ⟨by rw [HS.out]; rfl, b1 _ _⟩
      · have HS := Lib.hid (show vw d f t = false by simp [vw, g0, g1, g2])
        have e0 : decide (1 ≤ d) = true := decide_eq_true g0
        have e1 : decide (d ≤ 127) = true := decide_eq_true g1
        have e2 : decide (0 ≤ f) = false := decide_eq_false g2
        clear g0 g1 g2
        go_enter Tryd.func39, Tryd.ntmps39
        go_wp2_with fail
        go_ret
        exact ⟨by rw [HS.out]; rfl, b1 _ _⟩
    · have HS := Lib.hid (show vw d f t = false by simp [vw, g0, g1])
      have e0 : decide (1 ≤ d) = true := decide_eq_true g0
      have e1 : decide (d ≤ 127) = false := decide_eq_false g1
      clear g0 g1
      go_enter Tryd.func39, Tryd.ntmps39
      go_wp2_with fail
      go_ret
      exact ⟨by rw [HS.out]; rfl, b1 _ _⟩
  · have HS := Lib.hid (show vw d f t = false by simp [vw, g0])
    have e0 : decide (1 ≤ d) = false := decide_eq_false g0
    clear g0
    go_enter Tryd.func39, Tryd.ntmps39
    go_wp2_with fail
    go_ret
    exact ⟨by rw [HS.out]; rfl, b1 _ _⟩
set_option maxHeartbeats 1000000 in
theorem Vwin_any (d f t : Int) (w : World) : Calls Tryd.prog 41 #[.agg #[.int .i64 d, .int .i64 f, .int .i64 t]] w fun e w' => e = .returned (.bool (vw d f t)) ∧ Below w.heap.size w w' := by
  by_cases g0 : 1 ≤ d
  · by_cases g1 : d ≤ 127
    · by_cases g2 : 0 ≤ f
      · by_cases g3 : f < t
        · by_cases g4 : t ≤ 1440
          · have HS := Lib.hid (show vw d f t = true by simp [vw, g0, g1, g2, g3, g4])
            have e0 : decide (1 ≤ d) = true := decide_eq_true g0
            have e1 : decide (d ≤ 127) = true := decide_eq_true g1
            have e2 : decide (0 ≤ f) = true := decide_eq_true g2
            have e3 : decide (f < t) = true := decide_eq_true g3
            have e4 : decide (t ≤ 1440) = true := decide_eq_true g4
            clear g0 g1 g2 g3 g4
            go_enter Tryd.func41, Tryd.ntmps41
            go_wp2_with fail
            go_ret
            exact ⟨by rw [HS.out]; rfl, b1 _ _⟩
          · have HS := Lib.hid (show vw d f t = false by simp [vw, g0, g1, g2, g3, g4])
            have e0 : decide (1 ≤ d) = true := decide_eq_true g0
            have e1 : decide (d ≤ 127) = true := decide_eq_true g1
            have e2 : decide (0 ≤ f) = true := decide_eq_true g2
            have e3 : decide (f < t) = true := decide_eq_true g3
            have e4 : decide (t ≤ 1440) = false := decide_eq_false g4
            clear g0 g1 g2 g3 g4
            go_enter Tryd.func41, Tryd.ntmps41
            go_wp2_with fail
            go_ret
            exact ⟨by rw [HS.out]; rfl, b1 _ _⟩
        · have HS := Lib.hid (show vw d f t = false by simp [vw, g0, g1, g2, g3])
          have e0 : decide (1 ≤ d) = true := decide_eq_true g0
          have e1 : decide (d ≤ 127) = true := decide_eq_true g1
          have e2 : decide (0 ≤ f) = true := decide_eq_true g2
          have e3 : decide (f < t) = false := decide_eq_false g3
          clear g0 g1 g2 g3
          go_enter Tryd.func41, Tryd.ntmps41
          go_wp2_with fail
          go_ret
          exact ⟨by rw [HS.out]; rfl, b1 _ _⟩
      · have HS := Lib.hid (show vw d f t = false by simp [vw, g0, g1, g2])
        have e0 : decide (1 ≤ d) = true := decide_eq_true g0
        have e1 : decide (d ≤ 127) = true := decide_eq_true g1
        have e2 : decide (0 ≤ f) = false := decide_eq_false g2
        clear g0 g1 g2
        go_enter Tryd.func41, Tryd.ntmps41
        go_wp2_with fail
        go_ret
        exact ⟨by rw [HS.out]; rfl, b1 _ _⟩
    · have HS := Lib.hid (show vw d f t = false by simp [vw, g0, g1])
      have e0 : decide (1 ≤ d) = true := decide_eq_true g0
      have e1 : decide (d ≤ 127) = false := decide_eq_false g1
      clear g0 g1
      go_enter Tryd.func41, Tryd.ntmps41
      go_wp2_with fail
      go_ret
      exact ⟨by rw [HS.out]; rfl, b1 _ _⟩
  · have HS := Lib.hid (show vw d f t = false by simp [vw, g0])
    have e0 : decide (1 ≤ d) = false := decide_eq_false g0
    clear g0
    go_enter Tryd.func41, Tryd.ntmps41
    go_wp2_with fail
    go_ret
    exact ⟨by rw [HS.out]; rfl, b1 _ _⟩
set_option maxHeartbeats 1000000 in
theorem Vint_any (f t : Int) (w : World) : Calls Tryd.prog 43 #[.agg #[.int .i64 f, .int .i64 t]] w fun e w' => e = .returned (.bool (vi f t)) ∧ Below w.heap.size w w' := by
  by_cases g0 : 0 ≤ f
  · by_cases g1 : f < t
    · by_cases g2 : t ≤ 68719476736
      · have HS := Lib.hid (show vi f t = true by simp [vi, g0, g1, g2])
        have e0 : decide (0 ≤ f) = true := decide_eq_true g0
        have e1 : decide (f < t) = true := decide_eq_true g1
        have e2 : decide (t ≤ 68719476736) = true := decide_eq_true g2
        clear g0 g1 g2
        go_enter Tryd.func43, Tryd.ntmps43
        go_wp2_with fail
        go_ret
        exact ⟨by rw [HS.out]; rfl, b1 _ _⟩
      · have HS := Lib.hid (show vi f t = false by simp [vi, g0, g1, g2])
        have e0 : decide (0 ≤ f) = true := decide_eq_true g0
        have e1 : decide (f < t) = true := decide_eq_true g1
        have e2 : decide (t ≤ 68719476736) = false := decide_eq_false g2
        clear g0 g1 g2
        go_enter Tryd.func43, Tryd.ntmps43
        go_wp2_with fail
        go_ret
        exact ⟨by rw [HS.out]; rfl, b1 _ _⟩
    · have HS := Lib.hid (show vi f t = false by simp [vi, g0, g1])
      have e0 : decide (0 ≤ f) = true := decide_eq_true g0
      have e1 : decide (f < t) = false := decide_eq_false g1
      clear g0 g1
      go_enter Tryd.func43, Tryd.ntmps43
      go_wp2_with fail
      go_ret
      exact ⟨by rw [HS.out]; rfl, b1 _ _⟩
  · have HS := Lib.hid (show vi f t = false by simp [vi, g0])
    have e0 : decide (0 ≤ f) = false := decide_eq_false g0
    clear g0
    go_enter Tryd.func43, Tryd.ntmps43
    go_wp2_with fail
    go_ret
    exact ⟨by rw [HS.out]; rfl, b1 _ _⟩
end Go.Proofs.YtfpndiacbpinpaaDoor.Wk
