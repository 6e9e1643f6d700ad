/- Division of two words by one, walked. Conditions: the divisor is above the upper word. -/
import Derived.Test.YtjipcopfggnlkaaDoorDm
import Derived.Test.YtjipcopfggnlkaaDoorLaid
set_option linter.unusedSimpArgs false
set_option linter.unusedVariables false
namespace Go.Proofs.YtjipcopfggnlkaaDoor.Wk
open Go.RowKit
open Go.Proofs.YtjipcopfggnlkaaDoor.Mt
theorem or_u64 (a b : Nat) (ha : a < 18446744073709551616) (hb : b < 18446744073709551616) : bits .or .u64 (a : Int) (b : Int) = ((a ||| b : Nat) : Int) := by
  have hx : a ||| b < 2 ^ 64 := Nat.or_lt_two_pow (by omega) (by omega)
  have h1 : (BitVec.ofInt 64 (a : Int)).toNat = a := by rw [BitVec.ofInt_natCast, BitVec.toNat_ofNat]; exact Nat.mod_eq_of_lt (by omega)
  have h2 : (BitVec.ofInt 64 (b : Int)).toNat = b := by rw [BitVec.ofInt_natCast, BitVec.toNat_ofNat]; exact Nat.mod_eq_of_lt (by omega)
  show IntKind.u64.wrap ((BitVec.ofInt 64 (a : Int) ||| BitVec.ofInt 64 (b : Int)).toNat : Int) = _
  rw [BitVec.toNat_or, h1, h2, IntKind.wrap_u64]
  omega
theorem and_u64 (a b : Nat) (ha : a < 18446744073709551616) (hb : b < 18446744073709551616) : bits .and .u64 (a : Int) (b : Int) = ((a &&& b : Nat) : Int) := by
  have hx : a &&& b < 2 ^ 64 := Nat.and_lt_two_pow _ (by omega)
  have h1 : (BitVec.ofInt 64 (a : Int)).toNat = a := by rw [BitVec.ofInt_natCast, BitVec.toNat_ofNat]; exact Nat.mod_eq_of_lt (by omega)
  have h2 : (BitVec.ofInt 64 (b : Int)).toNat = b := by rw [BitVec.ofInt_natCast, BitVec.toNat_ofNat]; exact Nat.mod_eq_of_lt (by omega)
  show IntKind.u64.wrap ((BitVec.ofInt 64 (a : Int) &&& BitVec.ofInt 64 (b : Int)).toNat : Int) = _
  rw [BitVec.toNat_and, h1, h2, IntKind.wrap_u64]
  omega
theorem low32 (a : Nat) (ha : a < 18446744073709551616) : bits .and .u64 (a : Int) 4294967295 = ((a % 4294967296 : Nat) : Int) := by
  have h := and_u64 a 4294967295 ha (by decide)
  rw [show (4294967295 : Nat) = 2 ^ 32 - 1 from rfl, Nat.and_two_pow_sub_one_eq_mod] at h
  exact h
theorem div_cast (a b : Nat) : (a : Int).tdiv (b : Int) = ((a / b : Nat) : Int) := rfl
theorem mod_cast' (a b : Nat) : (a : Int).tmod (b : Int) = ((a % b : Nat) : Int) := rfl
theorem u64_in (a : Nat) (h : a < 18446744073709551616) : IntKind.u64.wrap (a : Int) = (a : Int) := by rw [IntKind.wrap_u64]; omega
theorem sub_chain (n d q v : Nat) (h : q * v ≤ n * 4294967296 + d) (hlt : n * 4294967296 + d - q * v < 18446744073709551616) (u : Nat) (hu : u = n * 4294967296 + d - q * v) : ∃ X1 X2 X3 : Nat, IntKind.u64.wrap ((n : Int) * 4294967296) = (X1 : Int) ∧ IntKind.u64.wrap ((X1 : Int) + (d : Int)) = (X2 : Int) ∧ IntKind.u64.wrap ((q : Int) * (v : Int)) = (X3 : Int) ∧ IntKind.u64.wrap ((X2 : Int) - (X3 : Int)) = (u : Int) := by
  have hm : (q : Int) * (v : Int) = ((q * v : Nat) : Int) := by rw [Int.natCast_mul]
  obtain ⟨m, hmm⟩ : ∃ m, q * v = m := ⟨_, rfl⟩
  refine ⟨n * 4294967296 % 18446744073709551616, (n * 4294967296 % 18446744073709551616 + d) % 18446744073709551616, m % 18446744073709551616, ?_, ?_, ?_, ?_⟩
  · rw [IntKind.wrap_u64]; omega
  · rw [IntKind.wrap_u64]; omega
  · rw [IntKind.wrap_u64, hm, hmm]; omega
  · rw [IntKind.wrap_u64, hu, hmm]; rw [hmm] at h hlt; omega
theorem mul_in {a b M : Nat} (ha : a < 4294967296) (hb : b < 4294967296) : a * b < 18446744073709551616 := by
  have := Nat.mul_le_mul (Nat.le_of_lt_succ (show a < 4294967295 + 1 from ha)) (Nat.le_of_lt_succ (show b < 4294967295 + 1 from hb))
  omega
set_option maxHeartbeats 4000000 in
set_option maxRecDepth 100000 in
theorem div31 (hi lo y Q R : Nat) (w : World) (hhi : hi < y) (hlo : lo < 18446744073709551616) (hy : y < 18446744073709551616) (hQ : (hi * 18446744073709551616 + lo) / y = Q) (hR : (hi * 18446744073709551616 + lo) % y = R) : Calls Tryd.prog 31 #[.int .u64 (hi : Int), .int .u64 (lo : Int), .int .u64 (y : Int)] w fun e w' => e = .returned (.tuple #[.int .u64 (Q : Int), .int .u64 (R : Int)]) ∧ Below w.heap.size w w' := by
  have HQQ := Lib.hid hQ
  have HRR := Lib.hid hR
  clear hQ hR
  have hy0 : ¬ (y : Int) = 0 := by omega
  have hyh : ¬ (y : Int) ≤ (hi : Int) := by omega
  by_cases hz : hi = 0
  · subst hz
    obtain ⟨q, hq⟩ : ∃ q, lo / y = q := ⟨_, rfl⟩
    obtain ⟨r, hr⟩ : ∃ r, lo % y = r := ⟨_, rfl⟩
    obtain rfl : q = Q := by rw [← hq, ← HQQ.out, Nat.zero_mul, Nat.zero_add]
    obtain rfl : r = R := by rw [← hr, ← HRR.out, Nat.zero_mul, Nat.zero_add]
    have V1 : (lo : Int).tdiv (y : Int) = (q : Int) := by rw [div_cast, hq]
    have V2 : (lo : Int).tmod (y : Int) = (r : Int) := by rw [mod_cast', hr]
    have V3 := u64_in q (by have := Nat.div_le_self lo y; omega)
    have V4 := u64_in r (by have := Nat.mod_le lo y; omega)
    clear hq hr HQQ HRR
    go_enter Tryd.func31, Tryd.ntmps31
    go_wp2_with fail
    go_quiet (fail)
    go_wp2_with fail
    go_ret2
    exact ⟨rfl, below_drewN (Below.refl _ _) nq⟩
  · go_enter Tryd.func31, Tryd.ntmps31
    have hz1 : ((hi : Int) == 0) = false := by simp [hz]
    go_wp2_with fail
    refine (Any.bits_LeadingZeros64 Tryd.laysLz (y : Int) _ (by omega) (by omega)).mono ?_
    rintro e w' ⟨rfl, hw⟩
    rw [hw]
    have hbl : 1 ≤ Lib.bitLen y ∧ 2 ^ (Lib.bitLen y - 1) ≤ y ∧ y < 2 ^ Lib.bitLen y := Lib.bitLenAux_bounds 64 y (by omega) (by omega)
    have hb64 := Lib.bitLen_le y 64 (by omega) (by omega)
    rw [Int.toNat_natCast]
    obtain ⟨s, hs⟩ : ∃ s, 64 - Lib.bitLen y = s := ⟨_, rfl⟩
    have hs2 : (64 : Int) - (Lib.bitLen y : Int) = (s : Int) := by omega
    rw [hs2]
    have hs64 : s ≤ 63 := by have := hbl.1; omega
    obtain ⟨p, hp⟩ : ∃ p, 2 ^ s = p := ⟨_, rfl⟩
    obtain ⟨p', hp'⟩ : ∃ p, 2 ^ (64 - s) = p := ⟨_, rfl⟩
    have hpp : p * p' = 18446744073709551616 := by rw [← hp, ← hp', ← Nat.pow_add, show s + (64 - s) = 64 by omega]
    have hppos : 0 < p := by rw [← hp]; exact Nat.two_pow_pos s
    have hbs : 64 - s = Lib.bitLen y := by omega
    have hyp : y * p < 18446744073709551616 := by
      rw [← hpp, ← hp', hbs, Nat.mul_comm]
      exact Nat.mul_lt_mul_of_pos_left hbl.2.2 hppos
    have hyb : 9223372036854775808 ≤ y * p := by
      have h9 : 2 ^ (Lib.bitLen y - 1) * p ≤ y * p := Nat.mul_le_mul_right _ hbl.2.1
      rw [← hp, ← Nat.pow_add, show Lib.bitLen y - 1 + s = 63 by have := hbl.1; omega] at h9
      rw [← hp]
      exact h9
    have hsh := ds_shift hppos hpp hlo hhi hyp
    have P1 : (2 : Int) ^ s = (p : Int) := by rw [← hp]; simp
    have P2 : (2 : Int) ^ (64 - s) = (p' : Int) := by rw [← hp']; simp
    have HPP := Lib.hid hpp
    obtain ⟨v, hv⟩ : ∃ v, v = y * p := ⟨_, rfl⟩
    have HVV := Lib.hid hv
    rw [← hv] at hyp hyb hsh
    have W1 : IntKind.u64.wrap ((y : Int) * (p : Int)) = (v : Int) := by rw [← Int.natCast_mul, ← hv]; exact u64_in _ hyp
    obtain ⟨a, ha⟩ : ∃ a, hi * p = a := ⟨_, rfl⟩
    obtain ⟨b, hb⟩ : ∃ a, lo / p' = a := ⟨_, rfl⟩
    rw [ha, hb] at hsh
    obtain ⟨n32, hn32⟩ : ∃ n, a + b = n := ⟨_, rfl⟩
    obtain ⟨n10, hn10⟩ : ∃ n, lo * p % 18446744073709551616 = n := ⟨_, rfl⟩
    rw [hn32, hn10] at hsh
    have W2 : IntKind.u64.wrap ((hi : Int) * (p : Int)) = (a : Int) := by rw [← Int.natCast_mul, ha]; exact u64_in _ (by omega)
    have W3 : (lo : Int) / (p' : Int) = (b : Int) := by rw [← Int.natCast_ediv, hb]
    have O1 : bits BinOp.or IntKind.u64 (a : Int) (b : Int) = (n32 : Int) := by
      rw [or_u64 a b (by omega) (by omega), ← hn32, Nat.or_comm, ← ha, ← hp, Nat.mul_comm]
      have h9 := Nat.two_pow_add_eq_or_of_lt (i := s) (b := b) (by rw [hp]; exact hsh.2.1) hi
      rw [Nat.or_comm, ← h9]
    have W4 : IntKind.u64.wrap ((lo : Int) * (p : Int)) = (n10 : Int) := by rw [← Int.natCast_mul, IntKind.wrap_u64, ← hn10]; omega
    have hn10l : n10 < 18446744073709551616 := by rw [← hn10]; exact Nat.mod_lt _ (by decide)
    obtain ⟨v1, hv1⟩ : ∃ x, v / 4294967296 = x := ⟨_, rfl⟩
    obtain ⟨v0, hv0⟩ : ∃ x, v % 4294967296 = x := ⟨_, rfl⟩
    obtain ⟨n1, hn1⟩ : ∃ x, n10 / 4294967296 = x := ⟨_, rfl⟩
    obtain ⟨n0, hn0⟩ : ∃ x, n10 % 4294967296 = x := ⟨_, rfl⟩
    have E1 : (v : Int) / 4294967296 = (v1 : Int) := by omega
    have E2 : (n10 : Int) / 4294967296 = (n1 : Int) := by omega
    have A1 : bits BinOp.and IntKind.u64 (v : Int) 4294967295 = (v0 : Int) := by rw [low32 v hyp, hv0]
    have A2 : bits BinOp.and IntKind.u64 (n10 : Int) 4294967295 = (n0 : Int) := by rw [low32 n10 hn10l, hn0]
    have HV : Hid (v = v1 * 4294967296 + v0) := Lib.hid (by omega)
    have HN10 : Hid (n10 = n1 * 4294967296 + n0) := Lib.hid (by omega)
    have HU := Lib.hid hsh.1
    have h1B : 2147483648 ≤ v1 := by omega
    have h1B' : v1 < 4294967296 := by omega
    have h0B : v0 < 4294967296 := by omega
    have hd1 : n1 < 4294967296 := by omega
    have hd0 : n0 < 4294967296 := by omega
    have HN1 : Hid (n32 < v1 * 4294967296 + v0) := Lib.hid (by rw [← HV.out]; exact hsh.2.2)
    have hn32l : n32 < 18446744073709551616 := by have := hsh.2.2; omega
    have hvl := hyp
    have hv10 : ¬ (v1 : Int) = 0 := by omega
    obtain ⟨c0, hc0⟩ : ∃ e, n32 / v1 = e := ⟨_, rfl⟩
    have K1 : (n32 : Int).tdiv (v1 : Int) = (c0 : Int) := by rw [div_cast, hc0]
    have K1' : (n32 : Int) / (v1 : Int) = (c0 : Int) := by rw [← Int.natCast_ediv, hc0]
    obtain ⟨c1, hc1⟩ : ∃ e, c0 * v1 = e := ⟨_, rfl⟩
    have hle1 : c1 ≤ n32 := by rw [← hc1, ← hc0]; exact Nat.div_mul_le_self _ _
    have K2 : IntKind.u64.wrap ((c0 : Int) * (v1 : Int)) = (c1 : Int) := by rw [← Int.natCast_mul, hc1]; exact u64_in _ (by omega)
    obtain ⟨c2, hc2⟩ : ∃ e, n32 - c1 = e := ⟨_, rfl⟩
    have K3 : IntKind.u64.wrap ((n32 : Int) - (c1 : Int)) = (c2 : Int) := by rw [show (n32 : Int) - (c1 : Int) = (c2 : Int) by omega]; exact u64_in _ (by omega)
    have K4 : IntKind.u64.wrap (c0 : Int) = (c0 : Int) := u64_in _ (by have := Nat.div_le_self n32 v1; omega)
    have HST1 : Hid (Ds n32 v1 v0 n1 c0 c2) := Lib.hid (by have h9 := ds_start h1B h1B' h0B hd1 HN1.out; rw [hc0, hc1, hc2] at h9; exact h9)
    clear hbl hb64 hs hs2 hp hp' hpp hbs hsh ha hb hn32 hn10 hv1 hv0 hn1 hn0 hc0 hc1 hc2 hle1 hv hyb hhi hlo
    go_wp2_with fail
    go_loopw [15, 16] (fun qv rv wr => ∃ q r : Nat, qv = .int .u64 q ∧ rv = .int .u64 r ∧ Hid (Ds n32 v1 v0 n1 q r) ∧ wr = w) (fun qv _ _ => (intOf qv).toNat)
    case atStart => exact ⟨_, _, rfl, rfl, HST1, rfl⟩
    case round =>
      obtain ⟨q1, r, rfl, rfl, HD, hwr⟩ := hrel
      have hwr2 := hwr.symm
      clear hwr
      subst hwr2
      have hr32 := HD.out.rl
      have hq32 := HD.out.le
      clear HST1
      obtain ⟨r2, hr2⟩ : ∃ r2, r + v1 = r2 := ⟨_, rfl⟩
      have S1 : IntKind.u64.wrap ((r : Int) + (v1 : Int)) = (r2 : Int) := by rw [← Int.natCast_add, hr2]; exact u64_in _ (by omega)
      by_cases hqB : 4294967296 ≤ q1
      · have hqI : (4294967296 : Int) ≤ (q1 : Int) := by omega
        obtain ⟨qm1, hqm1⟩ : ∃ qm1, q1 - 1 = qm1 := ⟨_, rfl⟩
        have S2 : IntKind.u64.wrap ((q1 : Int) - 1) = (qm1 : Int) := by rw [show (q1 : Int) - 1 = (qm1 : Int) by omega]; exact u64_in _ (by omega)
        have hm := ds_more HD.out h0B h1B hd1 HN1.out (.inl hqB)
        have hsum : qm1 * v1 + r2 = n32 := by
          have h9 := HD.out.sum
          rw [← hqm1, ← hr2, Nat.sub_mul, Nat.one_mul]
          have : 1 * v1 ≤ q1 * v1 := Nat.mul_le_mul_right _ hm.2
          omega
        by_cases hbr : 4294967296 ≤ r2
        · have hbI : (4294967296 : Int) ≤ (r2 : Int) := by omega
          have HQ1 : Hid (qm1 = (n32 * 4294967296 + n1) / (v1 * 4294967296 + v0)) := Lib.hid (ds_break hsum (by rw [← hqm1]; exact hm.1) (by omega) h0B h1B hbr)
          clear hm hsum hbr hr2 hqB
          try clear hp1 hm1 hm2 hm3 hgt
          have hL := ds_left (v := v1 * 4294967296 + v0) (by omega) HN1.out hd1 HQ1.out
          obtain ⟨u, hu⟩ : ∃ u, u = n32 * 4294967296 + n1 - qm1 * v := ⟨_, rfl⟩
          rw [← HV.out] at hL
          have hult : u < v := by rw [hu, hL.2.2.1]; exact hL.2.2.2
          obtain ⟨X1, X2, X3, C1, C2, C3, C4⟩ := sub_chain n32 n1 qm1 v hL.2.1 (by rw [← hu]; omega) u hu
          have HE1 : Hid (n32 * 4294967296 + n1 = qm1 * v + u) := Lib.hid (by rw [hu]; have := hL.2.1; omega)
          have hqb : qm1 < 4294967296 := hL.1
          obtain ⟨e0, he0⟩ : ∃ e, u / v1 = e := ⟨_, rfl⟩
          have K1 : (u : Int).tdiv (v1 : Int) = (e0 : Int) := by rw [div_cast, he0]
          have K1' : (u : Int) / (v1 : Int) = (e0 : Int) := by rw [← Int.natCast_ediv, he0]
          obtain ⟨e1, he1⟩ : ∃ e, e0 * v1 = e := ⟨_, rfl⟩
          have hle1 : e1 ≤ u := by rw [← he1, ← he0]; exact Nat.div_mul_le_self _ _
          have K2 : IntKind.u64.wrap ((e0 : Int) * (v1 : Int)) = (e1 : Int) := by rw [← Int.natCast_mul, he1]; exact u64_in _ (by omega)
          obtain ⟨e2, he2⟩ : ∃ e, u - e1 = e := ⟨_, rfl⟩
          have K3 : IntKind.u64.wrap ((u : Int) - (e1 : Int)) = (e2 : Int) := by rw [show (u : Int) - (e1 : Int) = (e2 : Int) by omega]; exact u64_in _ (by omega)
          have K4 : IntKind.u64.wrap (e0 : Int) = (e0 : Int) := u64_in _ (by have := Nat.div_le_self u v1; omega)
          have HN0 : Hid (u < v1 * 4294967296 + v0) := Lib.hid (by rw [← HV.out]; exact hult)
          have HST0 : Hid (Ds u v1 v0 n0 e0 e2) := Lib.hid (by have h9 := ds_start h1B h1B' h0B hd0 HN0.out; rw [he0, he1, he2] at h9; exact h9)
          clear hL hu hult he0 he1 he2 hle1 
          go_wp2_with fail
          clear C1 C2 C3 C4 K1 K1' K2 K3 K4
          try clear S1
          try clear S2
          try clear S3
          try clear S4
          try clear S5
          try clear hgI
          try clear hqI
          go_loopw [18, 16] (fun qv rv wr => ∃ q r : Nat, qv = .int .u64 q ∧ rv = .int .u64 r ∧ Hid (Ds u v1 v0 n0 q r) ∧ wr = w) (fun qv _ _ => (intOf qv).toNat)
          case atStart => exact ⟨_, _, rfl, rfl, HST0, rfl⟩
          case round =>
            obtain ⟨q0, r, rfl, rfl, HD, hwr⟩ := hrel
            have hwr2 := hwr.symm
            clear hwr
            subst hwr2
            have hr32 := HD.out.rl
            have hq32 := HD.out.le
            clear HST0
            obtain ⟨r2, hr2⟩ : ∃ r2, r + v1 = r2 := ⟨_, rfl⟩
            have S1 : IntKind.u64.wrap ((r : Int) + (v1 : Int)) = (r2 : Int) := by rw [← Int.natCast_add, hr2]; exact u64_in _ (by omega)
            by_cases hqB : 4294967296 ≤ q0
            · have hqI : (4294967296 : Int) ≤ (q0 : Int) := by omega
              obtain ⟨qm0, hqm0⟩ : ∃ qm0, q0 - 1 = qm0 := ⟨_, rfl⟩
              have S2 : IntKind.u64.wrap ((q0 : Int) - 1) = (qm0 : Int) := by rw [show (q0 : Int) - 1 = (qm0 : Int) by omega]; exact u64_in _ (by omega)
              have hm := ds_more HD.out h0B h1B hd0 HN0.out (.inl hqB)
              have hsum : qm0 * v1 + r2 = u := by
                have h9 := HD.out.sum
                rw [← hqm0, ← hr2, Nat.sub_mul, Nat.one_mul]
                have : 1 * v1 ≤ q0 * v1 := Nat.mul_le_mul_right _ hm.2
                omega
              by_cases hbr : 4294967296 ≤ r2
              · have hbI : (4294967296 : Int) ≤ (r2 : Int) := by omega
                have HQ0 : Hid (qm0 = (u * 4294967296 + n0) / (v1 * 4294967296 + v0)) := Lib.hid (ds_break hsum (by rw [← hqm0]; exact hm.1) (by omega) h0B h1B hbr)
                clear hm hsum hbr hr2 hqB
                try clear hp1 hm1 hm2 hm3 hgt
                have hL := ds_left (v := v1 * 4294967296 + v0) (by omega) HN0.out hd0 HQ0.out
                obtain ⟨u2, hu2⟩ : ∃ x, x = u * 4294967296 + n0 - qm0 * v := ⟨_, rfl⟩
                rw [← HV.out] at hL
                have hult : u2 < v := by rw [hu2, hL.2.2.1]; exact hL.2.2.2
                obtain ⟨Y1, Y2, Y3, D1, D2, D3, D4⟩ := sub_chain u n0 qm0 v hL.2.1 (by rw [← hu2]; omega) u2 hu2
                have hW := ds_whole (q1 := qm1) (q0 := qm0) (u := u) (by omega) HVV.out HPP.out HU.out HN10.out HE1.out ⟨u2, by rw [hu2]; have := hL.2.1; omega, hult⟩
                rw [← hu2] at hW
                have hqb0 : qm0 < 4294967296 := hL.1
                obtain ⟨z1, hz1'⟩ : ∃ z, qm1 * 4294967296 = z := ⟨_, rfl⟩
                have L1 : IntKind.u64.wrap ((qm1 : Int) * 4294967296) = (z1 : Int) := by rw [show (qm1 : Int) * 4294967296 = (z1 : Int) by omega]; exact u64_in _ (by omega)
                obtain ⟨z2, hz2'⟩ : ∃ z, z1 + qm0 = z := ⟨_, rfl⟩
                have L2 : IntKind.u64.wrap ((z1 : Int) + (qm0 : Int)) = (z2 : Int) := by rw [← Int.natCast_add, hz2']; exact u64_in _ (by omega)
                obtain ⟨z3, hz3'⟩ : ∃ z, u2 / p = z := ⟨_, rfl⟩
                have L3 : (u2 : Int) / (p : Int) = (z3 : Int) := by rw [← Int.natCast_ediv, hz3']
                rw [hz1', hz2', hz3'] at hW
                obtain rfl : z2 = Q := hW.1.trans HQQ.out
                obtain rfl : z3 = R := hW.2.trans HRR.out
                clear hW hL hu2 hult hz1' hz2' hz3'
                go_wp2_with fail
                go_ret2
                exact ⟨rfl, Below.refl _ _⟩
              · have hbI : ¬ (4294967296 : Int) ≤ (r2 : Int) := by omega
                have HD2 : Hid (Ds u v1 v0 n0 qm0 r2) := Lib.hid ⟨hsum, by rw [← hqm0]; exact hm.1, by omega, by omega⟩
                clear hsum hr2
                go_wp2_with fail
                go_roundw
                case rel => exact ⟨qm0, r2, rfl, rfl, HD2, by trivial⟩
                case measure => simp [intOf]; omega
            · have hqI : ¬ (4294967296 : Int) ≤ (q0 : Int) := by omega
              have hp1 := mul_in (M := 0) (show q0 < 4294967296 by omega) h0B
              obtain ⟨m1, hm1⟩ : ∃ m, q0 * v0 = m := ⟨_, rfl⟩
              have S3 : IntKind.u64.wrap ((q0 : Int) * (v0 : Int)) = (m1 : Int) := by rw [← Int.natCast_mul, hm1]; exact u64_in _ (by omega)
              obtain ⟨m2, hm2⟩ : ∃ m, 4294967296 * r = m := ⟨_, rfl⟩
              have S4 : IntKind.u64.wrap (4294967296 * (r : Int)) = (m2 : Int) := by rw [show 4294967296 * (r : Int) = (m2 : Int) by omega]; exact u64_in _ (by omega)
              obtain ⟨m3, hm3⟩ : ∃ m, m2 + n0 = m := ⟨_, rfl⟩
              have S5 : IntKind.u64.wrap ((m2 : Int) + (n0 : Int)) = (m3 : Int) := by rw [← Int.natCast_add, hm3]; exact u64_in _ (by omega)
              by_cases hgt : m3 < m1
              · have hgI : (m3 : Int) < (m1 : Int) := by omega
                obtain ⟨qm0, hqm0⟩ : ∃ qm0, q0 - 1 = qm0 := ⟨_, rfl⟩
                have hm := ds_more HD.out h0B h1B hd0 HN0.out (.inr (by omega))
                have S2 : IntKind.u64.wrap ((q0 : Int) - 1) = (qm0 : Int) := by rw [show (q0 : Int) - 1 = (qm0 : Int) by omega]; exact u64_in _ (by omega)
                have hsum : qm0 * v1 + r2 = u := by
                  have h9 := HD.out.sum
                  rw [← hqm0, ← hr2, Nat.sub_mul, Nat.one_mul]
                  have : 1 * v1 ≤ q0 * v1 := Nat.mul_le_mul_right _ hm.2
                  omega
                by_cases hbr : 4294967296 ≤ r2
                · have hbI : (4294967296 : Int) ≤ (r2 : Int) := by omega
                  have HQ0 : Hid (qm0 = (u * 4294967296 + n0) / (v1 * 4294967296 + v0)) := Lib.hid (ds_break hsum (by rw [← hqm0]; exact hm.1) (by omega) h0B h1B hbr)
                  clear hm hsum hbr hr2 hqB
                  try clear hp1 hm1 hm2 hm3 hgt
                  have hL := ds_left (v := v1 * 4294967296 + v0) (by omega) HN0.out hd0 HQ0.out
                  obtain ⟨u2, hu2⟩ : ∃ x, x = u * 4294967296 + n0 - qm0 * v := ⟨_, rfl⟩
                  rw [← HV.out] at hL
                  have hult : u2 < v := by rw [hu2, hL.2.2.1]; exact hL.2.2.2
                  obtain ⟨Y1, Y2, Y3, D1, D2, D3, D4⟩ := sub_chain u n0 qm0 v hL.2.1 (by rw [← hu2]; omega) u2 hu2
                  have hW := ds_whole (q1 := qm1) (q0 := qm0) (u := u) (by omega) HVV.out HPP.out HU.out HN10.out HE1.out ⟨u2, by rw [hu2]; have := hL.2.1; omega, hult⟩
                  rw [← hu2] at hW
                  have hqb0 : qm0 < 4294967296 := hL.1
                  obtain ⟨z1, hz1'⟩ : ∃ z, qm1 * 4294967296 = z := ⟨_, rfl⟩
                  have L1 : IntKind.u64.wrap ((qm1 : Int) * 4294967296) = (z1 : Int) := by rw [show (qm1 : Int) * 4294967296 = (z1 : Int) by omega]; exact u64_in _ (by omega)
                  obtain ⟨z2, hz2'⟩ : ∃ z, z1 + qm0 = z := ⟨_, rfl⟩
                  have L2 : IntKind.u64.wrap ((z1 : Int) + (qm0 : Int)) = (z2 : Int) := by rw [← Int.natCast_add, hz2']; exact u64_in _ (by omega)
                  obtain ⟨z3, hz3'⟩ : ∃ z, u2 / p = z := ⟨_, rfl⟩
                  have L3 : (u2 : Int) / (p : Int) = (z3 : Int) := by rw [← Int.natCast_ediv, hz3']
                  rw [hz1', hz2', hz3'] at hW
                  obtain rfl : z2 = Q := hW.1.trans HQQ.out
                  obtain rfl : z3 = R := hW.2.trans HRR.out
                  clear hW hL hu2 hult hz1' hz2' hz3'
                  go_wp2_with fail
                  go_ret2
                  exact ⟨rfl, Below.refl _ _⟩
                · have hbI : ¬ (4294967296 : Int) ≤ (r2 : Int) := by omega
                  have HD2 : Hid (Ds u v1 v0 n0 qm0 r2) := Lib.hid ⟨hsum, by rw [← hqm0]; exact hm.1, by omega, by omega⟩
                  clear hsum hr2
                  go_wp2_with fail
                  go_roundw
                  case rel => exact ⟨qm0, r2, rfl, rfl, HD2, by trivial⟩
                  case measure => simp [intOf]; omega
              · have hgI : ¬ (m3 : Int) < (m1 : Int) := by omega
                have HQ0 : Hid (q0 = (u * 4294967296 + n0) / (v1 * 4294967296 + v0)) := Lib.hid (ds_stop HD.out h0B h1B (by omega))
                clear hp1 hm1 hm2 hm3 hqB hgt S1 hr2
                have hL := ds_left (v := v1 * 4294967296 + v0) (by omega) HN0.out hd0 HQ0.out
                obtain ⟨u2, hu2⟩ : ∃ x, x = u * 4294967296 + n0 - q0 * v := ⟨_, rfl⟩
                rw [← HV.out] at hL
                have hult : u2 < v := by rw [hu2, hL.2.2.1]; exact hL.2.2.2
                obtain ⟨Y1, Y2, Y3, D1, D2, D3, D4⟩ := sub_chain u n0 q0 v hL.2.1 (by rw [← hu2]; omega) u2 hu2
                have hW := ds_whole (q1 := qm1) (q0 := q0) (u := u) (by omega) HVV.out HPP.out HU.out HN10.out HE1.out ⟨u2, by rw [hu2]; have := hL.2.1; omega, hult⟩
                rw [← hu2] at hW
                have hqb0 : q0 < 4294967296 := hL.1
                obtain ⟨z1, hz1'⟩ : ∃ z, qm1 * 4294967296 = z := ⟨_, rfl⟩
                have L1 : IntKind.u64.wrap ((qm1 : Int) * 4294967296) = (z1 : Int) := by rw [show (qm1 : Int) * 4294967296 = (z1 : Int) by omega]; exact u64_in _ (by omega)
                obtain ⟨z2, hz2'⟩ : ∃ z, z1 + q0 = z := ⟨_, rfl⟩
                have L2 : IntKind.u64.wrap ((z1 : Int) + (q0 : Int)) = (z2 : Int) := by rw [← Int.natCast_add, hz2']; exact u64_in _ (by omega)
                obtain ⟨z3, hz3'⟩ : ∃ z, u2 / p = z := ⟨_, rfl⟩
                have L3 : (u2 : Int) / (p : Int) = (z3 : Int) := by rw [← Int.natCast_ediv, hz3']
                rw [hz1', hz2', hz3'] at hW
                obtain rfl : z2 = Q := hW.1.trans HQQ.out
                obtain rfl : z3 = R := hW.2.trans HRR.out
                clear hW hL hu2 hult hz1' hz2' hz3'
                go_wp2_with fail
                go_ret2
                exact ⟨rfl, Below.refl _ _⟩
        · have hbI : ¬ (4294967296 : Int) ≤ (r2 : Int) := by omega
          have HD2 : Hid (Ds n32 v1 v0 n1 qm1 r2) := Lib.hid ⟨hsum, by rw [← hqm1]; exact hm.1, by omega, by omega⟩
          clear hsum hr2
          go_wp2_with fail
          go_roundw
          case rel => exact ⟨qm1, r2, rfl, rfl, HD2, by trivial⟩
          case measure => simp [intOf]; omega
      · have hqI : ¬ (4294967296 : Int) ≤ (q1 : Int) := by omega
        have hp1 := mul_in (M := 0) (show q1 < 4294967296 by omega) h0B
        obtain ⟨m1, hm1⟩ : ∃ m, q1 * v0 = m := ⟨_, rfl⟩
        have S3 : IntKind.u64.wrap ((q1 : Int) * (v0 : Int)) = (m1 : Int) := by rw [← Int.natCast_mul, hm1]; exact u64_in _ (by omega)
        obtain ⟨m2, hm2⟩ : ∃ m, 4294967296 * r = m := ⟨_, rfl⟩
        have S4 : IntKind.u64.wrap (4294967296 * (r : Int)) = (m2 : Int) := by rw [show 4294967296 * (r : Int) = (m2 : Int) by omega]; exact u64_in _ (by omega)
        obtain ⟨m3, hm3⟩ : ∃ m, m2 + n1 = m := ⟨_, rfl⟩
        have S5 : IntKind.u64.wrap ((m2 : Int) + (n1 : Int)) = (m3 : Int) := by rw [← Int.natCast_add, hm3]; exact u64_in _ (by omega)
        by_cases hgt : m3 < m1
        · have hgI : (m3 : Int) < (m1 : Int) := by omega
          obtain ⟨qm1, hqm1⟩ : ∃ qm1, q1 - 1 = qm1 := ⟨_, rfl⟩
          have hm := ds_more HD.out h0B h1B hd1 HN1.out (.inr (by omega))
          have S2 : IntKind.u64.wrap ((q1 : Int) - 1) = (qm1 : Int) := by rw [show (q1 : Int) - 1 = (qm1 : Int) by omega]; exact u64_in _ (by omega)
          have hsum : qm1 * v1 + r2 = n32 := by
            have h9 := HD.out.sum
            rw [← hqm1, ← hr2, Nat.sub_mul, Nat.one_mul]
            have : 1 * v1 ≤ q1 * v1 := Nat.mul_le_mul_right _ hm.2
            omega
          by_cases hbr : 4294967296 ≤ r2
          · have hbI : (4294967296 : Int) ≤ (r2 : Int) := by omega
            have HQ1 : Hid (qm1 = (n32 * 4294967296 + n1) / (v1 * 4294967296 + v0)) := Lib.hid (ds_break hsum (by rw [← hqm1]; exact hm.1) (by omega) h0B h1B hbr)
            clear hm hsum hbr hr2 hqB
            try clear hp1 hm1 hm2 hm3 hgt
            have hL := ds_left (v := v1 * 4294967296 + v0) (by omega) HN1.out hd1 HQ1.out
            obtain ⟨u, hu⟩ : ∃ u, u = n32 * 4294967296 + n1 - qm1 * v := ⟨_, rfl⟩
            rw [← HV.out] at hL
            have hult : u < v := by rw [hu, hL.2.2.1]; exact hL.2.2.2
            obtain ⟨X1, X2, X3, C1, C2, C3, C4⟩ := sub_chain n32 n1 qm1 v hL.2.1 (by rw [← hu]; omega) u hu
            have HE1 : Hid (n32 * 4294967296 + n1 = qm1 * v + u) := Lib.hid (by rw [hu]; have := hL.2.1; omega)
            have hqb : qm1 < 4294967296 := hL.1
            obtain ⟨e0, he0⟩ : ∃ e, u / v1 = e := ⟨_, rfl⟩
            have K1 : (u : Int).tdiv (v1 : Int) = (e0 : Int) := by rw [div_cast, he0]
            have K1' : (u : Int) / (v1 : Int) = (e0 : Int) := by rw [← Int.natCast_ediv, he0]
            obtain ⟨e1, he1⟩ : ∃ e, e0 * v1 = e := ⟨_, rfl⟩
            have hle1 : e1 ≤ u := by rw [← he1, ← he0]; exact Nat.div_mul_le_self _ _
            have K2 : IntKind.u64.wrap ((e0 : Int) * (v1 : Int)) = (e1 : Int) := by rw [← Int.natCast_mul, he1]; exact u64_in _ (by omega)
            obtain ⟨e2, he2⟩ : ∃ e, u - e1 = e := ⟨_, rfl⟩
            have K3 : IntKind.u64.wrap ((u : Int) - (e1 : Int)) = (e2 : Int) := by rw [show (u : Int) - (e1 : Int) = (e2 : Int) by omega]; exact u64_in _ (by omega)
            have K4 : IntKind.u64.wrap (e0 : Int) = (e0 : Int) := u64_in _ (by have := Nat.div_le_self u v1; omega)
            have HN0 : Hid (u < v1 * 4294967296 + v0) := Lib.hid (by rw [← HV.out]; exact hult)
            have HST0 : Hid (Ds u v1 v0 n0 e0 e2) := Lib.hid (by have h9 := ds_start h1B h1B' h0B hd0 HN0.out; rw [he0, he1, he2] at h9; exact h9)
            clear hL hu hult he0 he1 he2 hle1 
            go_wp2_with fail
            clear C1 C2 C3 C4 K1 K1' K2 K3 K4
            try clear S1
            try clear S2
            try clear S3
            try clear S4
            try clear S5
            try clear hgI
            try clear hqI
            go_loopw [18, 16] (fun qv rv wr => ∃ q r : Nat, qv = .int .u64 q ∧ rv = .int .u64 r ∧ Hid (Ds u v1 v0 n0 q r) ∧ wr = w) (fun qv _ _ => (intOf qv).toNat)
            case atStart => exact ⟨_, _, rfl, rfl, HST0, rfl⟩
            case round =>
              obtain ⟨q0, r, rfl, rfl, HD, hwr⟩ := hrel
              have hwr2 := hwr.symm
              clear hwr
              subst hwr2
              have hr32 := HD.out.rl
              have hq32 := HD.out.le
              clear HST0
              obtain ⟨r2, hr2⟩ : ∃ r2, r + v1 = r2 := ⟨_, rfl⟩
              have S1 : IntKind.u64.wrap ((r : Int) + (v1 : Int)) = (r2 : Int) := by rw [← Int.natCast_add, hr2]; exact u64_in _ (by omega)
              by_cases hqB : 4294967296 ≤ q0
              · have hqI : (4294967296 : Int) ≤ (q0 : Int) := by omega
                obtain ⟨qm0, hqm0⟩ : ∃ qm0, q0 - 1 = qm0 := ⟨_, rfl⟩
                have S2 : IntKind.u64.wrap ((q0 : Int) - 1) = (qm0 : Int) := by rw [show (q0 : Int) - 1 = (qm0 : Int) by omega]; exact u64_in _ (by omega)
                have hm := ds_more HD.out h0B h1B hd0 HN0.out (.inl hqB)
                have hsum : qm0 * v1 + r2 = u := by
                  have h9 := HD.out.sum
                  rw [← hqm0, ← hr2, Nat.sub_mul, Nat.one_mul]
                  have : 1 * v1 ≤ q0 * v1 := Nat.mul_le_mul_right _ hm.2
                  omega
                by_cases hbr : 4294967296 ≤ r2
                · have hbI : (4294967296 : Int) ≤ (r2 : Int) := by omega
                  have HQ0 : Hid (qm0 = (u * 4294967296 + n0) / (v1 * 4294967296 + v0)) := Lib.hid (ds_break hsum (by rw [← hqm0]; exact hm.1) (by omega) h0B h1B hbr)
                  clear hm hsum hbr hr2 hqB
                  try clear hp1 hm1 hm2 hm3 hgt
                  have hL := ds_left (v := v1 * 4294967296 + v0) (by omega) HN0.out hd0 HQ0.out
                  obtain ⟨u2, hu2⟩ : ∃ x, x = u * 4294967296 + n0 - qm0 * v := ⟨_, rfl⟩
                  rw [← HV.out] at hL
                  have hult : u2 < v := by rw [hu2, hL.2.2.1]; exact hL.2.2.2
                  obtain ⟨Y1, Y2, Y3, D1, D2, D3, D4⟩ := sub_chain u n0 qm0 v hL.2.1 (by rw [← hu2]; omega) u2 hu2
                  have hW := ds_whole (q1 := qm1) (q0 := qm0) (u := u) (by omega) HVV.out HPP.out HU.out HN10.out HE1.out ⟨u2, by rw [hu2]; have := hL.2.1; omega, hult⟩
                  rw [← hu2] at hW
                  have hqb0 : qm0 < 4294967296 := hL.1
                  obtain ⟨z1, hz1'⟩ : ∃ z, qm1 * 4294967296 = z := ⟨_, rfl⟩
                  have L1 : IntKind.u64.wrap ((qm1 : Int) * 4294967296) = (z1 : Int) := by rw [show (qm1 : Int) * 4294967296 = (z1 : Int) by omega]; exact u64_in _ (by omega)
                  obtain ⟨z2, hz2'⟩ : ∃ z, z1 + qm0 = z := ⟨_, rfl⟩
                  have L2 : IntKind.u64.wrap ((z1 : Int) + (qm0 : Int)) = (z2 : Int) := by rw [← Int.natCast_add, hz2']; exact u64_in _ (by omega)
                  obtain ⟨z3, hz3'⟩ : ∃ z, u2 / p = z := ⟨_, rfl⟩
                  have L3 : (u2 : Int) / (p : Int) = (z3 : Int) := by rw [← Int.natCast_ediv, hz3']
                  rw [hz1', hz2', hz3'] at hW
                  obtain rfl : z2 = Q := hW.1.trans HQQ.out
                  obtain rfl : z3 = R := hW.2.trans HRR.out
                  clear hW hL hu2 hult hz1' hz2' hz3'
                  go_wp2_with fail
                  go_ret2
                  exact ⟨rfl, Below.refl _ _⟩
                · have hbI : ¬ (4294967296 : Int) ≤ (r2 : Int) := by omega
                  have HD2 : Hid (Ds u v1 v0 n0 qm0 r2) := Lib.hid ⟨hsum, by rw [← hqm0]; exact hm.1, by omega, by omega⟩
                  clear hsum hr2
                  go_wp2_with fail
                  go_roundw
                  case rel => exact ⟨qm0, r2, rfl, rfl, HD2, by trivial⟩
                  case measure => simp [intOf]; omega
              · have hqI : ¬ (4294967296 : Int) ≤ (q0 : Int) := by omega
                have hp1 := mul_in (M := 0) (show q0 < 4294967296 by omega) h0B
                obtain ⟨m1, hm1⟩ : ∃ m, q0 * v0 = m := ⟨_, rfl⟩
                have S3 : IntKind.u64.wrap ((q0 : Int) * (v0 : Int)) = (m1 : Int) := by rw [← Int.natCast_mul, hm1]; exact u64_in _ (by omega)
                obtain ⟨m2, hm2⟩ : ∃ m, 4294967296 * r = m := ⟨_, rfl⟩
                have S4 : IntKind.u64.wrap (4294967296 * (r : Int)) = (m2 : Int) := by rw [show 4294967296 * (r : Int) = (m2 : Int) by omega]; exact u64_in _ (by omega)
                obtain ⟨m3, hm3⟩ : ∃ m, m2 + n0 = m := ⟨_, rfl⟩
                have S5 : IntKind.u64.wrap ((m2 : Int) + (n0 : Int)) = (m3 : Int) := by rw [← Int.natCast_add, hm3]; exact u64_in _ (by omega)
                by_cases hgt : m3 < m1
                · have hgI : (m3 : Int) < (m1 : Int) := by omega
                  obtain ⟨qm0, hqm0⟩ : ∃ qm0, q0 - 1 = qm0 := ⟨_, rfl⟩
                  have hm := ds_more HD.out h0B h1B hd0 HN0.out (.inr (by omega))
                  have S2 : IntKind.u64.wrap ((q0 : Int) - 1) = (qm0 : Int) := by rw [show (q0 : Int) - 1 = (qm0 : Int) by omega]; exact u64_in _ (by omega)
                  have hsum : qm0 * v1 + r2 = u := by
                    have h9 := HD.out.sum
                    rw [← hqm0, ← hr2, Nat.sub_mul, Nat.one_mul]
                    have : 1 * v1 ≤ q0 * v1 := Nat.mul_le_mul_right _ hm.2
                    omega
                  by_cases hbr : 4294967296 ≤ r2
                  · have hbI : (4294967296 : Int) ≤ (r2 : Int) := by omega
                    have HQ0 : Hid (qm0 = (u * 4294967296 + n0) / (v1 * 4294967296 + v0)) := Lib.hid (ds_break hsum (by rw [← hqm0]; exact hm.1) (by omega) h0B h1B hbr)
                    clear hm hsum hbr hr2 hqB
                    try clear hp1 hm1 hm2 hm3 hgt
                    have hL := ds_left (v := v1 * 4294967296 + v0) (by omega) HN0.out hd0 HQ0.out
                    obtain ⟨u2, hu2⟩ : ∃ x, x = u * 4294967296 + n0 - qm0 * v := ⟨_, rfl⟩
                    rw [← HV.out] at hL
                    have hult : u2 < v := by rw [hu2, hL.2.2.1]; exact hL.2.2.2
                    obtain ⟨Y1, Y2, Y3, D1, D2, D3, D4⟩ := sub_chain u n0 qm0 v hL.2.1 (by rw [← hu2]; omega) u2 hu2
                    have hW := ds_whole (q1 := qm1) (q0 := qm0) (u := u) (by omega) HVV.out HPP.out HU.out HN10.out HE1.out ⟨u2, by rw [hu2]; have := hL.2.1; omega, hult⟩
                    rw [← hu2] at hW
                    have hqb0 : qm0 < 4294967296 := hL.1
                    obtain ⟨z1, hz1'⟩ : ∃ z, qm1 * 4294967296 = z := ⟨_, rfl⟩
                    have L1 : IntKind.u64.wrap ((qm1 : Int) * 4294967296) = (z1 : Int) := by rw [show (qm1 : Int) * 4294967296 = (z1 : Int) by omega]; exact u64_in _ (by omega)
                    obtain ⟨z2, hz2'⟩ : ∃ z, z1 + qm0 = z := ⟨_, rfl⟩
                    have L2 : IntKind.u64.wrap ((z1 : Int) + (qm0 : Int)) = (z2 : Int) := by rw [← Int.natCast_add, hz2']; exact u64_in _ (by omega)
                    obtain ⟨z3, hz3'⟩ : ∃ z, u2 / p = z := ⟨_, rfl⟩
                    have L3 : (u2 : Int) / (p : Int) = (z3 : Int) := by rw [← Int.natCast_ediv, hz3']
                    rw [hz1', hz2', hz3'] at hW
                    obtain rfl : z2 = Q := hW.1.trans HQQ.out
                    obtain rfl : z3 = R := hW.2.trans HRR.out
                    clear hW hL hu2 hult hz1' hz2' hz3'
                    go_wp2_with fail
                    go_ret2
                    exact ⟨rfl, Below.refl _ _⟩
                  · have hbI : ¬ (4294967296 : Int) ≤ (r2 : Int) := by omega
                    have HD2 : Hid (Ds u v1 v0 n0 qm0 r2) := Lib.hid ⟨hsum, by rw [← hqm0]; exact hm.1, by omega, by omega⟩
                    clear hsum hr2
                    go_wp2_with fail
                    go_roundw
                    case rel => exact ⟨qm0, r2, rfl, rfl, HD2, by trivial⟩
                    case measure => simp [intOf]; omega
                · have hgI : ¬ (m3 : Int) < (m1 : Int) := by omega
                  have HQ0 : Hid (q0 = (u * 4294967296 + n0) / (v1 * 4294967296 + v0)) := Lib.hid (ds_stop HD.out h0B h1B (by omega))
                  clear hp1 hm1 hm2 hm3 hqB hgt S1 hr2
                  have hL := ds_left (v := v1 * 4294967296 + v0) (by omega) HN0.out hd0 HQ0.out
                  obtain ⟨u2, hu2⟩ : ∃ x, x = u * 4294967296 + n0 - q0 * v := ⟨_, rfl⟩
                  rw [← HV.out] at hL
                  have hult : u2 < v := by rw [hu2, hL.2.2.1]; exact hL.2.2.2
                  obtain ⟨Y1, Y2, Y3, D1, D2, D3, D4⟩ := sub_chain u n0 q0 v hL.2.1 (by rw [← hu2]; omega) u2 hu2
                  have hW := ds_whole (q1 := qm1) (q0 := q0) (u := u) (by omega) HVV.out HPP.out HU.out HN10.out HE1.out ⟨u2, by rw [hu2]; have := hL.2.1; omega, hult⟩
                  rw [← hu2] at hW
                  have hqb0 : q0 < 4294967296 := hL.1
                  obtain ⟨z1, hz1'⟩ : ∃ z, qm1 * 4294967296 = z := ⟨_, rfl⟩
                  have L1 : IntKind.u64.wrap ((qm1 : Int) * 4294967296) = (z1 : Int) := by rw [show (qm1 : Int) * 4294967296 = (z1 : Int) by omega]; exact u64_in _ (by omega)
                  obtain ⟨z2, hz2'⟩ : ∃ z, z1 + q0 = z := ⟨_, rfl⟩
                  have L2 : IntKind.u64.wrap ((z1 : Int) + (q0 : Int)) = (z2 : Int) := by rw [← Int.natCast_add, hz2']; exact u64_in _ (by omega)
                  obtain ⟨z3, hz3'⟩ : ∃ z, u2 / p = z := ⟨_, rfl⟩
                  have L3 : (u2 : Int) / (p : Int) = (z3 : Int) := by rw [← Int.natCast_ediv, hz3']
                  rw [hz1', hz2', hz3'] at hW
                  obtain rfl : z2 = Q := hW.1.trans HQQ.out
                  obtain rfl : z3 = R := hW.2.trans HRR.out
                  clear hW hL hu2 hult hz1' hz2' hz3'
                  go_wp2_with fail
                  go_ret2
                  exact ⟨rfl, Below.refl _ _⟩
          · have hbI : ¬ (4294967296 : Int) ≤ (r2 : Int) := by omega
            have HD2 : Hid (Ds n32 v1 v0 n1 qm1 r2) := Lib.hid ⟨hsum, by rw [← hqm1]; exact hm.1, by omega, by omega⟩
            clear hsum hr2
            go_wp2_with fail
            go_roundw
            case rel => exact ⟨qm1, r2, rfl, rfl, HD2, by trivial⟩
            case measure => simp [intOf]; omega
        · have hgI : ¬ (m3 : Int) < (m1 : Int) := by omega
          have HQ1 : Hid (q1 = (n32 * 4294967296 + n1) / (v1 * 4294967296 + v0)) := Lib.hid (ds_stop HD.out h0B h1B (by omega))
          clear hp1 hm1 hm2 hm3 hqB hgt S1 hr2
          have hL := ds_left (v := v1 * 4294967296 + v0) (by omega) HN1.out hd1 HQ1.out
          obtain ⟨u, hu⟩ : ∃ u, u = n32 * 4294967296 + n1 - q1 * v := ⟨_, rfl⟩
          rw [← HV.out] at hL
          have hult : u < v := by rw [hu, hL.2.2.1]; exact hL.2.2.2
          obtain ⟨X1, X2, X3, C1, C2, C3, C4⟩ := sub_chain n32 n1 q1 v hL.2.1 (by rw [← hu]; omega) u hu
          have HE1 : Hid (n32 * 4294967296 + n1 = q1 * v + u) := Lib.hid (by rw [hu]; have := hL.2.1; omega)
          have hqb : q1 < 4294967296 := hL.1
          obtain ⟨e0, he0⟩ : ∃ e, u / v1 = e := ⟨_, rfl⟩
          have K1 : (u : Int).tdiv (v1 : Int) = (e0 : Int) := by rw [div_cast, he0]
          have K1' : (u : Int) / (v1 : Int) = (e0 : Int) := by rw [← Int.natCast_ediv, he0]
          obtain ⟨e1, he1⟩ : ∃ e, e0 * v1 = e := ⟨_, rfl⟩
          have hle1 : e1 ≤ u := by rw [← he1, ← he0]; exact Nat.div_mul_le_self _ _
          have K2 : IntKind.u64.wrap ((e0 : Int) * (v1 : Int)) = (e1 : Int) := by rw [← Int.natCast_mul, he1]; exact u64_in _ (by omega)
          obtain ⟨e2, he2⟩ : ∃ e, u - e1 = e := ⟨_, rfl⟩
          have K3 : IntKind.u64.wrap ((u : Int) - (e1 : Int)) = (e2 : Int) := by rw [show (u : Int) - (e1 : Int) = (e2 : Int) by omega]; exact u64_in _ (by omega)
          have K4 : IntKind.u64.wrap (e0 : Int) = (e0 : Int) := u64_in _ (by have := Nat.div_le_self u v1; omega)
          have HN0 : Hid (u < v1 * 4294967296 + v0) := Lib.hid (by rw [← HV.out]; exact hult)
          have HST0 : Hid (Ds u v1 v0 n0 e0 e2) := Lib.hid (by have h9 := ds_start h1B h1B' h0B hd0 HN0.out; rw [he0, he1, he2] at h9; exact h9)
          clear hL hu hult he0 he1 he2 hle1 
          go_wp2_with fail
          clear C1 C2 C3 C4 K1 K1' K2 K3 K4
          try clear S1
          try clear S2
          try clear S3
          try clear S4
          try clear S5
          try clear hgI
          try clear hqI
          go_loopw [18, 16] (fun qv rv wr => ∃ q r : Nat, qv = .int .u64 q ∧ rv = .int .u64 r ∧ Hid (Ds u v1 v0 n0 q r) ∧ wr = w) (fun qv _ _ => (intOf qv).toNat)
          case atStart => exact ⟨_, _, rfl, rfl, HST0, rfl⟩
          case round =>
            obtain ⟨q0, r, rfl, rfl, HD, hwr⟩ := hrel
            have hwr2 := hwr.symm
            clear hwr
            subst hwr2
            have hr32 := HD.out.rl
            have hq32 := HD.out.le
            clear HST0
            obtain ⟨r2, hr2⟩ : ∃ r2, r + v1 = r2 := ⟨_, rfl⟩
            have S1 : IntKind.u64.wrap ((r : Int) + (v1 : Int)) = (r2 : Int) := by rw [← Int.natCast_add, hr2]; exact u64_in _ (by omega)
            by_cases hqB : 4294967296 ≤ q0
            · have hqI : (4294967296 : Int) ≤ (q0 : Int) := by omega
              obtain ⟨qm0, hqm0⟩ : ∃ qm0, q0 - 1 = qm0 := ⟨_, rfl⟩
              have S2 : IntKind.u64.wrap ((q0 : Int) - 1) = (qm0 : Int) := by rw [show (q0 : Int) - 1 = (qm0 : Int) by omega]; exact u64_in _ (by omega)
              have hm := ds_more HD.out h0B h1B hd0 HN0.out (.inl hqB)
              have hsum : qm0 * v1 + r2 = u := by
                have h9 := HD.out.sum
                rw [← hqm0, ← hr2, Nat.sub_mul, Nat.one_mul]
                have : 1 * v1 ≤ q0 * v1 := Nat.mul_le_mul_right _ hm.2
                omega
              by_cases hbr : 4294967296 ≤ r2
              · have hbI : (4294967296 : Int) ≤ (r2 : Int) := by omega
                have HQ0 : Hid (qm0 = (u * 4294967296 + n0) / (v1 * 4294967296 + v0)) := Lib.hid (ds_break hsum (by rw [← hqm0]; exact hm.1) (by omega) h0B h1B hbr)
                clear hm hsum hbr hr2 hqB
                try clear hp1 hm1 hm2 hm3 hgt
                have hL := ds_left (v := v1 * 4294967296 + v0) (by omega) HN0.out hd0 HQ0.out
                obtain ⟨u2, hu2⟩ : ∃ x, x = u * 4294967296 + n0 - qm0 * v := ⟨_, rfl⟩
                rw [← HV.out] at hL
                have hult : u2 < v := by rw [hu2, hL.2.2.1]; exact hL.2.2.2
                obtain ⟨Y1, Y2, Y3, D1, D2, D3, D4⟩ := sub_chain u n0 qm0 v hL.2.1 (by rw [← hu2]; omega) u2 hu2
                have hW := ds_whole (q1 := q1) (q0 := qm0) (u := u) (by omega) HVV.out HPP.out HU.out HN10.out HE1.out ⟨u2, by rw [hu2]; have := hL.2.1; omega, hult⟩
                rw [← hu2] at hW
                have hqb0 : qm0 < 4294967296 := hL.1
                obtain ⟨z1, hz1'⟩ : ∃ z, q1 * 4294967296 = z := ⟨_, rfl⟩
                have L1 : IntKind.u64.wrap ((q1 : Int) * 4294967296) = (z1 : Int) := by rw [show (q1 : Int) * 4294967296 = (z1 : Int) by omega]; exact u64_in _ (by omega)
                obtain ⟨z2, hz2'⟩ : ∃ z, z1 + qm0 = z := ⟨_, rfl⟩
                have L2 : IntKind.u64.wrap ((z1 : Int) + (qm0 : Int)) = (z2 : Int) := by rw [← Int.natCast_add, hz2']; exact u64_in _ (by omega)
                obtain ⟨z3, hz3'⟩ : ∃ z, u2 / p = z := ⟨_, rfl⟩
                have L3 : (u2 : Int) / (p : Int) = (z3 : Int) := by rw [← Int.natCast_ediv, hz3']
                rw [hz1', hz2', hz3'] at hW
                obtain rfl : z2 = Q := hW.1.trans HQQ.out
                obtain rfl : z3 = R := hW.2.trans HRR.out
                clear hW hL hu2 hult hz1' hz2' hz3'
                go_wp2_with fail
                go_ret2
                exact ⟨rfl, Below.refl _ _⟩
              · have hbI : ¬ (4294967296 : Int) ≤ (r2 : Int) := by omega
                have HD2 : Hid (Ds u v1 v0 n0 qm0 r2) := Lib.hid ⟨hsum, by rw [← hqm0]; exact hm.1, by omega, by omega⟩
                clear hsum hr2
                go_wp2_with fail
                go_roundw
                case rel => exact ⟨qm0, r2, rfl, rfl, HD2, by trivial⟩
                case measure => simp [intOf]; omega
            · have hqI : ¬ (4294967296 : Int) ≤ (q0 : Int) := by omega
              have hp1 := mul_in (M := 0) (show q0 < 4294967296 by omega) h0B
              obtain ⟨m1, hm1⟩ : ∃ m, q0 * v0 = m := ⟨_, rfl⟩
              have S3 : IntKind.u64.wrap ((q0 : Int) * (v0 : Int)) = (m1 : Int) := by rw [← Int.natCast_mul, hm1]; exact u64_in _ (by omega)
              obtain ⟨m2, hm2⟩ : ∃ m, 4294967296 * r = m := ⟨_, rfl⟩
              have S4 : IntKind.u64.wrap (4294967296 * (r : Int)) = (m2 : Int) := by rw [show 4294967296 * (r : Int) = (m2 : Int) by omega]; exact u64_in _ (by omega)
              obtain ⟨m3, hm3⟩ : ∃ m, m2 + n0 = m := ⟨_, rfl⟩
              have S5 : IntKind.u64.wrap ((m2 : Int) + (n0 : Int)) = (m3 : Int) := by rw [← Int.natCast_add, hm3]; exact u64_in _ (by omega)
              by_cases hgt : m3 < m1
              · have hgI : (m3 : Int) < (m1 : Int) := by omega
                obtain ⟨qm0, hqm0⟩ : ∃ qm0, q0 - 1 = qm0 := ⟨_, rfl⟩
                have hm := ds_more HD.out h0B h1B hd0 HN0.out (.inr (by omega))
                have S2 : IntKind.u64.wrap ((q0 : Int) - 1) = (qm0 : Int) := by rw [show (q0 : Int) - 1 = (qm0 : Int) by omega]; exact u64_in _ (by omega)
                have hsum : qm0 * v1 + r2 = u := by
                  have h9 := HD.out.sum
                  rw [← hqm0, ← hr2, Nat.sub_mul, Nat.one_mul]
                  have : 1 * v1 ≤ q0 * v1 := Nat.mul_le_mul_right _ hm.2
                  omega
                by_cases hbr : 4294967296 ≤ r2
                · have hbI : (4294967296 : Int) ≤ (r2 : Int) := by omega
                  have HQ0 : Hid (qm0 = (u * 4294967296 + n0) / (v1 * 4294967296 + v0)) := Lib.hid (ds_break hsum (by rw [← hqm0]; exact hm.1) (by omega) h0B h1B hbr)
                  clear hm hsum hbr hr2 hqB
                  try clear hp1 hm1 hm2 hm3 hgt
                  have hL := ds_left (v := v1 * 4294967296 + v0) (by omega) HN0.out hd0 HQ0.out
                  obtain ⟨u2, hu2⟩ : ∃ x, x = u * 4294967296 + n0 - qm0 * v := ⟨_, rfl⟩
                  rw [← HV.out] at hL
                  have hult : u2 < v := by rw [hu2, hL.2.2.1]; exact hL.2.2.2
                  obtain ⟨Y1, Y2, Y3, D1, D2, D3, D4⟩ := sub_chain u n0 qm0 v hL.2.1 (by rw [← hu2]; omega) u2 hu2
                  have hW := ds_whole (q1 := q1) (q0 := qm0) (u := u) (by omega) HVV.out HPP.out HU.out HN10.out HE1.out ⟨u2, by rw [hu2]; have := hL.2.1; omega, hult⟩
                  rw [← hu2] at hW
                  have hqb0 : qm0 < 4294967296 := hL.1
                  obtain ⟨z1, hz1'⟩ : ∃ z, q1 * 4294967296 = z := ⟨_, rfl⟩
                  have L1 : IntKind.u64.wrap ((q1 : Int) * 4294967296) = (z1 : Int) := by rw [show (q1 : Int) * 4294967296 = (z1 : Int) by omega]; exact u64_in _ (by omega)
                  obtain ⟨z2, hz2'⟩ : ∃ z, z1 + qm0 = z := ⟨_, rfl⟩
                  have L2 : IntKind.u64.wrap ((z1 : Int) + (qm0 : Int)) = (z2 : Int) := by rw [← Int.natCast_add, hz2']; exact u64_in _ (by omega)
                  obtain ⟨z3, hz3'⟩ : ∃ z, u2 / p = z := ⟨_, rfl⟩
                  have L3 : (u2 : Int) / (p : Int) = (z3 : Int) := by rw [← Int.natCast_ediv, hz3']
                  rw [hz1', hz2', hz3'] at hW
                  obtain rfl : z2 = Q := hW.1.trans HQQ.out
                  obtain rfl : z3 = R := hW.2.trans HRR.out
                  clear hW hL hu2 hult hz1' hz2' hz3'
                  go_wp2_with fail
                  go_ret2
                  exact ⟨rfl, Below.refl _ _⟩
                · have hbI : ¬ (4294967296 : Int) ≤ (r2 : Int) := by omega
                  have HD2 : Hid (Ds u v1 v0 n0 qm0 r2) := Lib.hid ⟨hsum, by rw [← hqm0]; exact hm.1, by omega, by omega⟩
                  clear hsum hr2
                  go_wp2_with fail
                  go_roundw
                  case rel => exact ⟨qm0, r2, rfl, rfl, HD2, by trivial⟩
                  case measure => simp [intOf]; omega
              · have hgI : ¬ (m3 : Int) < (m1 : Int) := by omega
                have HQ0 : Hid (q0 = (u * 4294967296 + n0) / (v1 * 4294967296 + v0)) := Lib.hid (ds_stop HD.out h0B h1B (by omega))
                clear hp1 hm1 hm2 hm3 hqB hgt S1 hr2
                have hL := ds_left (v := v1 * 4294967296 + v0) (by omega) HN0.out hd0 HQ0.out
                obtain ⟨u2, hu2⟩ : ∃ x, x = u * 4294967296 + n0 - q0 * v := ⟨_, rfl⟩
                rw [← HV.out] at hL
                have hult : u2 < v := by rw [hu2, hL.2.2.1]; exact hL.2.2.2
                obtain ⟨Y1, Y2, Y3, D1, D2, D3, D4⟩ := sub_chain u n0 q0 v hL.2.1 (by rw [← hu2]; omega) u2 hu2
                have hW := ds_whole (q1 := q1) (q0 := q0) (u := u) (by omega) HVV.out HPP.out HU.out HN10.out HE1.out ⟨u2, by rw [hu2]; have := hL.2.1; omega, hult⟩
                rw [← hu2] at hW
                have hqb0 : q0 < 4294967296 := hL.1
                obtain ⟨z1, hz1'⟩ : ∃ z, q1 * 4294967296 = z := ⟨_, rfl⟩
                have L1 : IntKind.u64.wrap ((q1 : Int) * 4294967296) = (z1 : Int) := by rw [show (q1 : Int) * 4294967296 = (z1 : Int) by omega]; exact u64_in _ (by omega)
                obtain ⟨z2, hz2'⟩ : ∃ z, z1 + q0 = z := ⟨_, rfl⟩
                have L2 : IntKind.u64.wrap ((z1 : Int) + (q0 : Int)) = (z2 : Int) := by rw [← Int.natCast_add, hz2']; exact u64_in _ (by omega)
                obtain ⟨z3, hz3'⟩ : ∃ z, u2 / p = z := ⟨_, rfl⟩
                have L3 : (u2 : Int) / (p : Int) = (z3 : Int) := by rw [← Int.natCast_ediv, hz3']
                rw [hz1', hz2', hz3'] at hW
                obtain rfl : z2 = Q := hW.1.trans HQQ.out
                obtain rfl : z3 = R := hW.2.trans HRR.out
                clear hW hL hu2 hult hz1' hz2' hz3'
                go_wp2_with fail
                go_ret2
                exact ⟨rfl, Below.refl _ _⟩
end Go.Proofs.YtjipcopfggnlkaaDoor.Wk
