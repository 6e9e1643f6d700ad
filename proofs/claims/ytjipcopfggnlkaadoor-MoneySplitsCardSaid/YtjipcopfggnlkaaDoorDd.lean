/- The reference's size, and its division, walked. Conditions: the numbers are machine integers. -/
import Derived.Test.YtjipcopfggnlkaaDoorRx
set_option linter.unusedSimpArgs false
set_option linter.unusedVariables false
namespace Go.Proofs.YtjipcopfggnlkaaDoor.Mt
open Go
/-- one round of the division -/
theorem dv_one {q r d P m : Nat} (hd : 0 < d) (h : q * d + r = P * m) : (2 * q + r * 2 / d) * d + r * 2 % d = 2 * P * m := by
  have h1 := Nat.div_add_mod (r * 2) d
  rw [Nat.mul_comm d] at h1
  rw [Nat.add_mul, Nat.mul_assoc, Nat.mul_assoc 2 P m, ← h]
  omega
theorem dv_two {q r d P m : Nat} (hd : 0 < d) (h : q * d + r = P * m) : (q + m / d + (r + m % d) / d) * d + (r + m % d) % d = (P + 1) * m := by
  have h1 := Nat.div_add_mod m d
  have h2 := Nat.div_add_mod (r + m % d) d
  rw [Nat.mul_comm d] at h1 h2
  rw [Nat.add_mul, Nat.add_mul, Nat.succ_mul, ← h]
  omega
theorem dv_bit {a W : Nat} (hW : 0 < W) : a / W = 2 * (a / (2 * W)) + a / W % 2 := by
  rw [Nat.mul_comm 2 W, ← Nat.div_div_eq_div_mul]
  omega
theorem dv_end {q r d X : Nat} (hr : r < d) (h : q * d + r = X) : q = X / d ∧ r = X % d := by
  have hd : 0 < d := by omega
  rw [← h, Nat.mul_comm q d, Nat.mul_add_div hd, Nat.mul_add_mod, Nat.div_eq_of_lt hr, Nat.mod_eq_of_lt hr]
  exact ⟨by omega, rfl⟩
theorem dv_big {q r d a W m : Nat} (hd : 0 < d) (h : q * d + r = a / W * m) : q ≤ a * m / d := by
  rw [Nat.le_div_iff_mul_le hd]
  have := Nat.mul_le_mul_right m (Nat.div_le_self a W)
  omega
theorem pow_le50 {k : Nat} (h : k ≤ 50) : 2 ^ k ≤ 1125899906842624 := Nat.le_trans (Nat.pow_le_pow_right (by decide) h) (by decide)
end Go.Proofs.YtjipcopfggnlkaaDoor.Mt
namespace Go.Proofs.YtjipcopfggnlkaaDoor.Wk
open Go.RowKit
open Go.Proofs.YtjipcopfggnlkaaDoor.Mt
theorem size33 (n : Int) (k : Nat) (w : World) (hn : In64 n) (hk : n.natAbs = k) : Calls Tryd.prog 33 #[.int .i64 n] w fun e w' => e = .returned (.int .u64 (k : Int)) ∧ w' = w := by
  unfold In64 at hn
  go_enter Tryd.func33, Tryd.ntmps33
  by_cases h0 : n < 0
  · obtain ⟨a, ha⟩ : ∃ a, n + 1 = a := ⟨_, rfl⟩
    obtain ⟨b, hb⟩ : ∃ b, -a = b := ⟨_, rfl⟩
    have W1 : IntKind.i64.wrap (n + 1) = a := by rw [ha]; exact IntWalk.i64_in _ (by omega)
    have W2 : IntKind.i64.wrap (-a) = b := by rw [hb]; exact IntWalk.i64_in _ (by omega)
    have W3 : IntKind.u64.wrap b = b := by rw [IntKind.wrap_u64]; omega
    have W4 : IntKind.u64.wrap (b + 1) = (k : Int) := by rw [IntKind.wrap_u64]; omega
    clear ha hb hk hn
    go_wp2_with fail
    go_ret
    exact ⟨rfl, rfl⟩
  · have W1 : IntKind.u64.wrap n = (k : Int) := by rw [IntKind.wrap_u64]; omega
    clear hk hn
    go_wp2_with fail
    go_ret
    exact ⟨rfl, rfl⟩
theorem u64_lt {x : Nat} (h : x < 18446744073709551616) : IntKind.u64.wrap ((x : Nat) : Int) = (x : Int) := by rw [IntKind.wrap_u64]; omega
set_option maxHeartbeats 4000000 in
set_option maxRecDepth 100000 in
theorem divide34 (a m d : Nat) (w : World) (ha : a ≤ 1125899906842624) (hm : m ≤ 9223372036854775808) (hd : 0 < d) (hd2 : d ≤ 9223372036854775808) : Calls Tryd.prog 34 #[.int .u64 (a : Int), .int .u64 (m : Int), .int .u64 (d : Int)] w fun e w' =>
    ((e = .returned (.tuple #[.int .u64 0, .int .u64 0, .bool false]) ∧ 4503599627370496 ≤ a * m / d) ∨ (e = .returned (.tuple #[.int .u64 ((a * m / d : Nat) : Int), .int .u64 ((a * m % d : Nat) : Int), .bool true]) ∧ a * m / d < 4503599627370496)) ∧ Below w.heap.size w w' := by
  obtain ⟨X, hX⟩ : ∃ X, a * m / d = X := ⟨_, rfl⟩
  obtain ⟨Y, hY⟩ : ∃ Y, a * m % d = Y := ⟨_, rfl⟩
  rw [hX, hY]
  have HX := Lib.hid hX
  have HY := Lib.hid hY
  clear hX hY
  have HA := Lib.hid ha
  have HM := Lib.hid hm
  have HD := Lib.hid hd
  have HD2 := Lib.hid hd2
  have d0 : ((d : Int) == 0) = false := by simp; omega
  have d0' : (d : Int) ≠ 0 := by omega
  clear ha hm hd hd2
  go_enter Tryd.func34, Tryd.ntmps34
  go_wp2_with fail
  go_loopw [9, 10, 11] (fun qv rv iv wr => ∃ k q r W : Nat, k ≤ 51 ∧ 2 ^ k / 2 = W ∧ iv = .int .u64 (W : Int) ∧ qv = .int .u64 (q : Int) ∧ rv = .int .u64 (r : Int) ∧ r < d ∧ q < 4503599627370496 ∧ Hid (q * d + r = a / 2 ^ k * m) ∧ Hid (Below w.heap.size w wr)) (fun _ _ iv _ => (intOf iv).toNat)
  case atStart => exact ⟨51, 0, 0, 1125899906842624, by omega, by decide, rfl, rfl, rfl, HD.out, by omega, Lib.hid (by rw [Nat.div_eq_of_lt (by have := HA.out; omega)]; simp), Lib.hid (Below.refl _ _)⟩
  case round =>
    obtain ⟨k, q, r, W, hk, hW, rfl, rfl, rfl, hrd, hq, HQ, HBW⟩ := hrel
    rcases Nat.eq_zero_or_pos k with h0 | h0
    · subst h0
      have e0 : 0 = W := hW
      subst e0
      have hq2 := HQ.out
      rw [Nat.pow_zero, Nat.div_one] at hq2
      obtain ⟨e1, e2⟩ := dv_end hrd hq2
      obtain rfl : q = X := e1.trans HX.out
      obtain rfl : r = Y := e2.trans HY.out
      have HQL := Lib.hid hq
      clear hq2 e1 e2 hW hk hrd hq
      go_wp2_with fail
      go_ret3
      exact ⟨.inr ⟨rfl, HQL.out⟩, HBW.out⟩
    · obtain ⟨j, rfl⟩ : ∃ j, k = j + 1 := ⟨k - 1, by omega⟩
      have e0 : 2 ^ j = W := by rw [← hW, Nat.pow_succ]; omega
      have hj50 := pow_le50 (show j ≤ 50 by omega)
      have hWp : 0 < W := by rw [← e0]; exact Nat.two_pow_pos j
      have hd := HD.out
      have hd2 := HD2.out
      have hm := HM.out
      have ha := HA.out
      have s1 := dv_one hd HQ.out
      have hbit := dv_bit (a := a) hWp
      have hpw : 2 ^ (j + 1) = 2 * W := by rw [Nat.pow_succ, e0]; omega
      rw [hpw] at s1
      obtain ⟨r1, hr1⟩ : ∃ x, r * 2 = x := ⟨_, rfl⟩
      obtain ⟨c1, hc1⟩ : ∃ x, r1 / d = x := ⟨_, rfl⟩
      obtain ⟨r2, hr2⟩ : ∃ x, r1 % d = x := ⟨_, rfl⟩
      obtain ⟨q2, hq2⟩ : ∃ x, 2 * q = x := ⟨_, rfl⟩
      obtain ⟨q1, hq1⟩ : ∃ x, q2 + c1 = x := ⟨_, rfl⟩
      obtain ⟨b, hb⟩ : ∃ x, a / W = x := ⟨_, rfl⟩
      rw [hq2, hr1, hc1, hr2, hq1] at s1
      have hr2d : r2 < d := by rw [← hr2]; exact Nat.mod_lt _ hd
      have hc1' : c1 ≤ 1 := by
        rw [← hc1]
        have : r1 / d < 2 := by rw [Nat.div_lt_iff_lt_mul hd]; omega
        omega
      have V1 : IntKind.u64.wrap ((r : Int) * 2) = (r1 : Int) := by rw [show (r : Int) * 2 = ((r1 : Nat) : Int) by omega]; exact u64_lt (by omega)
      have V2 : IntKind.u64.wrap (2 * (q : Int)) = (q2 : Int) := by rw [show 2 * (q : Int) = ((q2 : Nat) : Int) by omega]; exact u64_lt (by omega)
      have V3 : (r1 : Int).tdiv (d : Int) = (c1 : Int) := by rw [Int.tdiv_eq_ediv_of_nonneg (by omega), ← hc1]; rfl
      have V4 : (r1 : Int).tmod (d : Int) = (r2 : Int) := by rw [Int.tmod_eq_emod_of_nonneg (by omega), ← hr2]; rfl
      have V5 : IntKind.u64.wrap ((q2 : Int) + (c1 : Int)) = (q1 : Int) := by rw [show (q2 : Int) + (c1 : Int) = ((q1 : Nat) : Int) by omega]; exact u64_lt (by omega)
      have V6 : (a : Int).tdiv (W : Int) = (b : Int) := by rw [Int.tdiv_eq_ediv_of_nonneg (by omega), ← hb]; rfl
      have hWI : (0 : Int) < (W : Int) := by omega
      have X1 : IntKind.u64.wrap ((c1 : Nat) : Int) = (c1 : Int) := u64_lt (by omega)
      have X2 : IntKind.u64.wrap ((b : Nat) : Int) = (b : Int) := u64_lt (by have := Nat.div_le_self a W; omega)
      have w0 : ((W : Int) == 0) = false := by simp; omega
      have w0' : (W : Int) ≠ 0 := by omega
      have hq53 : q1 ≤ 9007199254740992 := by omega
      obtain ⟨W2, hW2⟩ : ∃ x, W / 2 = x := ⟨_, rfl⟩
      have V7 : (W : Int).tdiv 2 = (W2 : Int) := by rw [Int.tdiv_eq_ediv_of_nonneg (by omega)]; omega
      have X3 : IntKind.u64.wrap ((W2 : Nat) : Int) = (W2 : Int) := u64_lt (by omega)
      have HW2 : Hid (2 ^ j / 2 = W2) := Lib.hid (by rw [e0]; exact hW2)
      have HWL : Hid (W2 < W) := Lib.hid (by omega)
      have S1 := Lib.hid s1
      have HBIT := Lib.hid hbit
      have HE0 := Lib.hid e0
      have HB := Lib.hid hb
      have HR2 := Lib.hid hr2d
      clear hr2d s1 hbit hpw hr1 hc1 hr2 hq2 hq1 hW hd hd2 ha hc1' hj50 e0 hW2 hb hrd HQ
      rcases Nat.mod_two_eq_zero_or_one b with hb2 | hb2
      · have V8 : (b : Int).tmod 2 = 0 := by rw [Int.tmod_eq_emod_of_nonneg (by omega)]; omega
        have NQ : Hid (q1 * d + r2 = a / 2 ^ j * m) := Lib.hid (by
          have h1 := HBIT.out
          rw [S1.out, HE0.out, HB.out]
          rw [HB.out] at h1
          rw [show 2 * (a / (2 * W)) = b by omega])
        have HBG := Lib.hid (fun h : 4503599627370496 ≤ q1 => Nat.le_trans h (dv_big HD.out NQ.out))
        clear hb2
        by_cases hbig : 4503599627370496 ≤ q1
        · have hbI : (4503599627370496 : Int) ≤ (q1 : Int) := by omega
          have HXB : Hid (4503599627370496 ≤ X) := Lib.hid (by rw [← HX.out]; exact HBG.out hbig)
          clear hbig hq hm hk hq53
          go_wp2_with fail
          go_ret3
          exact ⟨.inl ⟨rfl, HXB.out⟩, HBW.out⟩
        · have hbI : ¬ (4503599627370496 : Int) ≤ (q1 : Int) := by omega
          go_wp2_with fail
          go_roundw
          case rel => exact ⟨j, q1, r2, W2, by omega, HW2.out, rfl, rfl, rfl, HR2.out, by omega, NQ.out, HBW⟩
          case measure => simp [intOf]; have := HWL.out; omega
      · have V8 : (b : Int).tmod 2 = 1 := by rw [Int.tmod_eq_emod_of_nonneg (by omega)]; omega
        have hd := HD.out
        have hd2 := HD2.out
        have hr2d := HR2.out
        have NQ0 : q1 * d + r2 = (2 * (a / (2 * W))) * m := S1.out
        have s2 := dv_two hd NQ0
        have e1 : 2 * (a / (2 * W)) + 1 = a / 2 ^ j := by
          have h1 := HBIT.out
          rw [HE0.out, HB.out]
          rw [HB.out] at h1
          omega
        rw [e1] at s2
        obtain ⟨m1, hm1⟩ : ∃ x, m / d = x := ⟨_, rfl⟩
        obtain ⟨m2, hm2⟩ : ∃ x, m % d = x := ⟨_, rfl⟩
        rw [hm1, hm2] at s2
        obtain ⟨r3, hr3⟩ : ∃ x, r2 + m2 = x := ⟨_, rfl⟩
        rw [hr3] at s2
        obtain ⟨c3, hc3⟩ : ∃ x, r3 / d = x := ⟨_, rfl⟩
        obtain ⟨r4, hr4⟩ : ∃ x, r3 % d = x := ⟨_, rfl⟩
        rw [hc3, hr4] at s2
        obtain ⟨qa, hqa⟩ : ∃ x, q1 + m1 = x := ⟨_, rfl⟩
        rw [hqa] at s2
        obtain ⟨q3, hq3⟩ : ∃ x, qa + c3 = x := ⟨_, rfl⟩
        rw [hq3] at s2
        have hm2d : m2 < d := by rw [← hm2]; exact Nat.mod_lt _ hd
        have hr4d : r4 < d := by rw [← hr4]; exact Nat.mod_lt _ hd
        have hm1l : m1 ≤ m := by rw [← hm1]; exact Nat.div_le_self m d
        have hc3' : c3 ≤ 1 := by
          rw [← hc3]
          have : r3 / d < 2 := by rw [Nat.div_lt_iff_lt_mul hd]; omega
          omega
        have U1 : (m : Int).tmod (d : Int) = (m2 : Int) := by rw [Int.tmod_eq_emod_of_nonneg (by omega), ← hm2]; rfl
        have U2 : (m : Int).tdiv (d : Int) = (m1 : Int) := by rw [Int.tdiv_eq_ediv_of_nonneg (by omega), ← hm1]; rfl
        have U3 : IntKind.u64.wrap ((r2 : Int) + (m2 : Int)) = (r3 : Int) := by rw [show (r2 : Int) + (m2 : Int) = ((r3 : Nat) : Int) by omega]; exact u64_lt (by omega)
        have U4 : (r3 : Int).tdiv (d : Int) = (c3 : Int) := by rw [Int.tdiv_eq_ediv_of_nonneg (by omega), ← hc3]; rfl
        have U5 : (r3 : Int).tmod (d : Int) = (r4 : Int) := by rw [Int.tmod_eq_emod_of_nonneg (by omega), ← hr4]; rfl
        have U6 : IntKind.u64.wrap ((q1 : Int) + (m1 : Int)) = (qa : Int) := by rw [show (q1 : Int) + (m1 : Int) = ((qa : Nat) : Int) by omega]; exact u64_lt (by omega)
        have U7 : IntKind.u64.wrap ((qa : Int) + (c3 : Int)) = (q3 : Int) := by rw [show (qa : Int) + (c3 : Int) = ((q3 : Nat) : Int) by omega]; exact u64_lt (by omega)
        have X4 : IntKind.u64.wrap ((m1 : Nat) : Int) = (m1 : Int) := u64_lt (by omega)
        have X5 : IntKind.u64.wrap ((c3 : Nat) : Int) = (c3 : Int) := u64_lt (by omega)
        have NQ := Lib.hid s2
        have HBG := Lib.hid (fun h : 4503599627370496 ≤ q3 => Nat.le_trans h (dv_big HD.out NQ.out))
        have HDR := Lib.hid hr4d
        clear hb2 s2 NQ0 e1 hm1 hm2 hr3 hc3 hr4 hqa hq3 hm2d hr4d hm1l hc3' hd hd2 hr2d
        by_cases hbig : 4503599627370496 ≤ q3
        · have hbI : (4503599627370496 : Int) ≤ (q3 : Int) := by omega
          have HXB : Hid (4503599627370496 ≤ X) := Lib.hid (by rw [← HX.out]; exact HBG.out hbig)
          clear hbig hq hm hk hq53
          go_wp2_with fail
          go_quiet (fail)
          go_wp2_with fail
          go_ret3
          exact ⟨.inl ⟨rfl, HXB.out⟩, below_drewN HBW.out nq⟩
        · have hbI : ¬ (4503599627370496 : Int) ≤ (q3 : Int) := by omega
          have hbD : decide ((4503599627370496 : Int) ≤ (q3 : Int)) = false := decide_eq_false hbI
          have HNB := Lib.hid hbig
          have HK := Lib.hid hk
          clear hm hq53 hbig hq hk
          go_wp2_with fail
          go_quiet (fail)
          go_upto_region 12 with fail
          go_upto_region 4 with fail
          go_wp2_with fail
          go_roundw
          case rel => exact ⟨j, q3, r4, W2, by have := HK.out; omega, HW2.out, rfl, rfl, rfl, HDR.out, by have := HNB.out; omega, NQ.out, Lib.hid (below_drewN HBW.out nq)⟩
          case measure => simp [intOf]; have := HWL.out; omega
end Go.Proofs.YtjipcopfggnlkaaDoor.Wk
