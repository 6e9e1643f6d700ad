/- A ratio. Conditions: machine integers. -/
import Derived.Test.YtejophbmdgohdaaLaid
import Derived.Lib.ItoaNum
import Derived.Below
import Derived.BigQuiet
import Derived.Deep.AppendLies
import Derived.Deep.Onto
import Derived.Deep.QuietTactic
import Derived.Deep.RegionHeld3
import Derived.IntWalk
import Derived.Laws.AppendOwn
import Derived.Laws.Bits64
import Derived.Laws.OwnMore
import Derived.Laws.Rows
import Derived.Lib.Hide
import Derived.LoopTactic
import Derived.Outline
import Derived.OwnWalk
import Derived.WalkKit
import Derived.WalkSmall
set_option linter.unusedSimpArgs false
set_option linter.unusedVariables false
set_option linter.unusedSimpArgs false
set_option linter.unusedVariables false
namespace Go.Proofs.Ytejophbmdgohdaa.Rm
end Go.Proofs.Ytejophbmdgohdaa.Rm
namespace Go.Proofs.Ytejophbmdgohdaa.Rw
open Go.RowKit
open Go.Proofs.Ytejophbmdgohdaa.Rm
theorem fot (b : Bool) : b = false ∨ b = true := by cases b <;> simp
section
variable {k : IntKind} {w w' : World} {B B' : Nat} {A : Option Addr} {n : Nat} {zs : List Int}
end
end Go.Proofs.Ytejophbmdgohdaa.Rw
set_option linter.unusedSimpArgs false
set_option linter.unusedVariables false
namespace Go.Proofs.Ytejophbmdgohdaa.Rm
open Go
structure Ds (n v1 v0 d q r : Nat) : Prop where
  sum : q * v1 + r = n
  ge : (n * 4294967296 + d) / (v1 * 4294967296 + v0) ≤ q
  le : q ≤ 4294967297
  rl : r < 4294967296
theorem ds_start {n v1 v0 d : Nat} (h1 : 2147483648 ≤ v1) (h1' : v1 < 4294967296) (h0 : v0 < 4294967296) (hd : d < 4294967296) (hn : n < v1 * 4294967296 + v0) : Ds n v1 v0 d (n / v1) (n - n / v1 * v1) := by
  have e := Nat.div_add_mod n v1
  have hm := Nat.mod_lt n (show v1 > 0 by omega)
  rw [Nat.mul_comm] at e
  refine ⟨by omega, ?_, ?_, by omega⟩
  · rw [Nat.div_le_iff_le_mul_add_pred (by omega)]
    have h2 : n < (n / v1 + 1) * v1 := by rw [Nat.add_mul]; omega
    generalize n / v1 = q at *
    have h3 : (n + 1) * 4294967296 ≤ (q + 1) * v1 * 4294967296 := Nat.mul_le_mul_right _ h2
    have h4 : (v1 * 4294967296 + v0) * q = q * v1 * 4294967296 + v0 * q := by rw [Nat.add_mul, Nat.mul_comm (v1 * 4294967296) q, ← Nat.mul_assoc]
    have h5 : (q + 1) * v1 * 4294967296 = q * v1 * 4294967296 + v1 * 4294967296 := by rw [Nat.add_mul, Nat.one_mul, Nat.add_mul]
    rw [h4]
    omega
  · have h2 : n / v1 < 4294967298 := by
      rw [Nat.div_lt_iff_lt_mul (by omega)]
      omega
    omega
theorem ds_more {n v1 v0 d q r : Nat} (h : Ds n v1 v0 d q r) (h0 : v0 < 4294967296) (h1 : 2147483648 ≤ v1) (hd : d < 4294967296) (hn : n < v1 * 4294967296 + v0) (hc : 4294967296 ≤ q ∨ 4294967296 * r + d < q * v0) : (n * 4294967296 + d) / (v1 * 4294967296 + v0) ≤ q - 1 ∧ 1 ≤ q := by
  have hlt : (n * 4294967296 + d) / (v1 * 4294967296 + v0) < q := by
    rw [Nat.div_lt_iff_lt_mul (by omega)]
    rcases hc with hc | hc
    · have h2 : (n + 1) * 4294967296 ≤ (v1 * 4294967296 + v0) * 4294967296 := Nat.mul_le_mul_right _ hn
      have h3 : (v1 * 4294967296 + v0) * 4294967296 ≤ q * (v1 * 4294967296 + v0) := by rw [Nat.mul_comm]; exact Nat.mul_le_mul_right _ hc
      omega
    · have h4 : q * (v1 * 4294967296 + v0) = q * v1 * 4294967296 + q * v0 := by rw [Nat.mul_add, Nat.mul_assoc]
      have := h.sum
      rw [h4]
      omega
  exact ⟨Nat.le_sub_one_of_lt hlt, Nat.lt_of_le_of_lt (Nat.zero_le _) hlt⟩
theorem ds_stop {n v1 v0 d q r : Nat} (h : Ds n v1 v0 d q r) (h0 : v0 < 4294967296) (h1 : 2147483648 ≤ v1) (hc : q * v0 ≤ 4294967296 * r + d) : q = (n * 4294967296 + d) / (v1 * 4294967296 + v0) := by
  have h4 : q * (v1 * 4294967296 + v0) = q * v1 * 4294967296 + q * v0 := by rw [Nat.mul_add, Nat.mul_assoc]
  have hge : q ≤ (n * 4294967296 + d) / (v1 * 4294967296 + v0) := by
    rw [Nat.le_div_iff_mul_le (by omega), h4]
    have := h.sum
    omega
  have := h.ge
  omega
theorem ds_break {n v1 v0 d q r : Nat} (hs : q * v1 + r = n) (hge : (n * 4294967296 + d) / (v1 * 4294967296 + v0) ≤ q) (hq : q ≤ 4294967296) (h0 : v0 < 4294967296) (h1 : 2147483648 ≤ v1) (hr : 4294967296 ≤ r) : q = (n * 4294967296 + d) / (v1 * 4294967296 + v0) := by
  have h4 : q * (v1 * 4294967296 + v0) = q * v1 * 4294967296 + q * v0 := by rw [Nat.mul_add, Nat.mul_assoc]
  have h5 : q * v0 ≤ 4294967296 * r := Nat.le_trans (Nat.mul_le_mul hq (Nat.le_of_lt h0)) (Nat.mul_le_mul_left _ hr)
  have hle : q ≤ (n * 4294967296 + d) / (v1 * 4294967296 + v0) := by
    rw [Nat.le_div_iff_mul_le (by omega), h4]
    omega
  omega
theorem ds_left {n v d q : Nat} (hv : 0 < v) (hn : n < v) (hd : d < 4294967296) (hq : q = (n * 4294967296 + d) / v) : q < 4294967296 ∧ q * v ≤ n * 4294967296 + d ∧ n * 4294967296 + d - q * v = (n * 4294967296 + d) % v ∧ (n * 4294967296 + d) % v < v := by
  have e := Nat.div_add_mod (n * 4294967296 + d) v
  have hm := Nat.mod_lt (n * 4294967296 + d) hv
  rw [← hq, Nat.mul_comm] at e
  have h2 : (n + 1) * 4294967296 ≤ v * 4294967296 := Nat.mul_le_mul_right _ hn
  refine ⟨?_, by omega, by omega, hm⟩
  rw [hq, Nat.div_lt_iff_lt_mul hv, Nat.mul_comm 4294967296]
  omega
set_option maxRecDepth 100000 in
theorem ds_whole {hi lo y p p' v n32 n10 n1 n0 q1 u q0 : Nat} (hy : 0 < y) (hv : v = y * p) (hpp : p * p' = 18446744073709551616) (hU : (hi * 18446744073709551616 + lo) * p = n32 * 18446744073709551616 + n10) (h1 : n10 = n1 * 4294967296 + n0) (hq1 : n32 * 4294967296 + n1 = q1 * v + u) (hq0 : ∃ r2, u * 4294967296 + n0 = q0 * v + r2 ∧ r2 < v) :
    q1 * 4294967296 + q0 = (hi * 18446744073709551616 + lo) / y ∧ (u * 4294967296 + n0 - q0 * v) / p = (hi * 18446744073709551616 + lo) % y := by
  obtain ⟨r2, e2, hr2⟩ := hq0
  have hp : 0 < p := by
    rcases Nat.eq_zero_or_pos p with h | h
    · rw [h, Nat.zero_mul] at hpp; omega
    · exact h
  obtain ⟨A, hA⟩ : ∃ A, hi * 18446744073709551616 + lo = A := ⟨_, rfl⟩
  rw [hA] at hU ⊢
  have hb : A * p = (q1 * 4294967296 + q0) * v + r2 := by
    have h3 : (q1 * 4294967296 + q0) * v = (q1 * v) * 4294967296 + q0 * v := by rw [Nat.add_mul, Nat.mul_right_comm]
    rw [hU, h1, h3]
    have k : n32 * 18446744073709551616 = n32 * 4294967296 * 4294967296 := by rw [Nat.mul_assoc]
    rw [k, ← Nat.add_assoc, ← Nat.add_mul, hq1, Nat.add_mul, Nat.add_assoc, e2, Nat.add_assoc]
  obtain ⟨Q, hQ⟩ : ∃ Q, q1 * 4294967296 + q0 = Q := ⟨_, rfl⟩
  rw [hQ] at hb ⊢
  have hb2 : A * p = (Q * y) * p + r2 := by rw [hb, hv, Nat.mul_assoc]
  have hle : Q * y ≤ A := by
    rcases Nat.lt_or_ge A (Q * y) with h | h
    · have := Nat.mul_le_mul_right p h
      rw [Nat.succ_mul] at this
      omega
    · exact h
  have hr : r2 = (A - Q * y) * p := by rw [Nat.sub_mul]; omega
  have hlt : A - Q * y < y := by
    rw [hr, hv] at hr2
    exact Nat.lt_of_mul_lt_mul_right hr2
  have hdiv : A / y = Q ∧ A % y = A - Q * y := by
    have h4 : A = (A - Q * y) + y * Q := by rw [Nat.mul_comm y Q]; omega
    constructor
    · rw [h4, Nat.add_mul_div_left _ _ hy, Nat.div_eq_of_lt hlt, Nat.zero_add]
    · rw [h4, Nat.add_mul_mod_self_left, Nat.mod_eq_of_lt hlt, ← h4]
  rw [hdiv.1, hdiv.2]
  refine ⟨rfl, ?_⟩
  rw [show u * 4294967296 + n0 - q0 * v = r2 by omega, hr, Nat.mul_div_cancel _ hp]
set_option maxRecDepth 100000 in
theorem ds_shift {hi lo y p p' : Nat} (hp : 0 < p) (hpp : p * p' = 18446744073709551616) (hlo : lo < 18446744073709551616) (hhi : hi < y) (hyp : y * p < 18446744073709551616) :
    (hi * 18446744073709551616 + lo) * p = (hi * p + lo / p') * 18446744073709551616 + lo * p % 18446744073709551616 ∧ lo / p' < p ∧ hi * p + lo / p' < y * p := by
  have hp' : 0 < p' := by
    rcases Nat.eq_zero_or_pos p' with h | h
    · rw [h, Nat.mul_zero] at hpp; omega
    · exact h
  have h1 : lo / p' < p := by rw [Nat.div_lt_iff_lt_mul hp', hpp]; exact hlo
  have h2 : lo * p / 18446744073709551616 = lo / p' := by rw [← hpp, Nat.mul_comm p p', Nat.mul_div_mul_right _ _ hp]
  refine ⟨?_, h1, ?_⟩
  · have e := Nat.div_add_mod (lo * p) 18446744073709551616
    rw [h2] at e
    rw [Nat.add_mul, Nat.add_mul, Nat.mul_right_comm hi]
    omega
  · have := Nat.mul_le_mul_right p hhi
    rw [Nat.succ_mul] at this
    omega
end Go.Proofs.Ytejophbmdgohdaa.Rm
set_option linter.unusedSimpArgs false
set_option linter.unusedVariables false
namespace Go.Proofs.Ytejophbmdgohdaa.Rw
open Go.RowKit
open Go.Proofs.Ytejophbmdgohdaa.Rm
theorem or_u64 (a b : Nat) (ha : a < 18446744073709551616) (hb : b < 18446744073709551616) : bits .or .u64 (a : Int) (b : Int) = ((a ||| b : Nat) : Int) := by
  have hx : a ||| b < 2 ^ 64 := Nat.or_lt_two_pow (by omega) (by omega)
  have h1 : (BitVec.ofInt 64 (a : Int)).toNat = a := by rw [BitVec.ofInt_natCast, BitVec.toNat_ofNat]; exact Nat.mod_eq_of_lt (by omega)
  have h2 : (BitVec.ofInt 64 (b : Int)).toNat = b := by rw [BitVec.ofInt_natCast, BitVec.toNat_ofNat]; exact Nat.mod_eq_of_lt (by omega)
  show IntKind.u64.wrap ((BitVec.ofInt 64 (a : Int) ||| BitVec.ofInt 64 (b : Int)).toNat : Int) = _
  rw [BitVec.toNat_or, h1, h2, IntKind.wrap_u64]
  omega
theorem and_u64 (a b : Nat) (ha : a < 18446744073709551616) (hb : b < 18446744073709551616) : bits .and .u64 (a : Int) (b : Int) = ((a &&& b : Nat) : Int) := by
  have hx : a &&& b < 2 ^ 64 := Nat.and_lt_two_pow _ (by omega)
  have h1 : (BitVec.ofInt 64 (a : Int)).toNat = a := by rw [BitVec.ofInt_natCast, BitVec.toNat_ofNat]; exact Nat.mod_eq_of_lt (by omega)
  have h2 : (BitVec.ofInt 64 (b : Int)).toNat = b := by rw [BitVec.ofInt_natCast, BitVec.toNat_ofNat]; exact Nat.mod_eq_of_lt (by omega)
  show IntKind.u64.wrap ((BitVec.ofInt 64 (a : Int) &&& BitVec.ofInt 64 (b : Int)).toNat : Int) = _
  rw [BitVec.toNat_and, h1, h2, IntKind.wrap_u64]
  omega
theorem low32 (a : Nat) (ha : a < 18446744073709551616) : bits .and .u64 (a : Int) 4294967295 = ((a % 4294967296 : Nat) : Int) := by
  have h := and_u64 a 4294967295 ha (by decide)
  rw [show (4294967295 : Nat) = 2 ^ 32 - 1 from rfl, Nat.and_two_pow_sub_one_eq_mod] at h
  exact h
theorem div_cast (a b : Nat) : (a : Int).tdiv (b : Int) = ((a / b : Nat) : Int) := rfl
theorem mod_cast' (a b : Nat) : (a : Int).tmod (b : Int) = ((a % b : Nat) : Int) := rfl
theorem u64_in (a : Nat) (h : a < 18446744073709551616) : IntKind.u64.wrap (a : Int) = (a : Int) := by rw [IntKind.wrap_u64]; omega
theorem sub_chain (n d q v : Nat) (h : q * v ≤ n * 4294967296 + d) (hlt : n * 4294967296 + d - q * v < 18446744073709551616) (u : Nat) (hu : u = n * 4294967296 + d - q * v) : ∃ X1 X2 X3 : Nat, IntKind.u64.wrap ((n : Int) * 4294967296) = (X1 : Int) ∧ IntKind.u64.wrap ((X1 : Int) + (d : Int)) = (X2 : Int) ∧ IntKind.u64.wrap ((q : Int) * (v : Int)) = (X3 : Int) ∧ IntKind.u64.wrap ((X2 : Int) - (X3 : Int)) = (u : Int) := by
  have hm : (q : Int) * (v : Int) = ((q * v : Nat) : Int) := by rw [Int.natCast_mul]
  obtain ⟨m, hmm⟩ : ∃ m, q * v = m := ⟨_, rfl⟩
  refine ⟨n * 4294967296 % 18446744073709551616, (n * 4294967296 % 18446744073709551616 + d) % 18446744073709551616, m % 18446744073709551616, ?_, ?_, ?_, ?_⟩
  · rw [IntKind.wrap_u64]; omega
  · rw [IntKind.wrap_u64]; omega
  · rw [IntKind.wrap_u64, hm, hmm]; omega
  · rw [IntKind.wrap_u64, hu, hmm]; rw [hmm] at h hlt; omega
theorem mul_in {a b M : Nat} (ha : a < 4294967296) (hb : b < 4294967296) : a * b < 18446744073709551616 := by
  have := Nat.mul_le_mul (Nat.le_of_lt_succ (show a < 4294967295 + 1 from ha)) (Nat.le_of_lt_succ (show b < 4294967295 + 1 from hb))
  omega
set_option maxHeartbeats 4000000 in
set_option maxRecDepth 100000 in
theorem div31 (hi lo y Q R : Nat) (w : World) (hhi : hi < y) (hlo : lo < 18446744073709551616) (hy : y < 18446744073709551616) (hQ : (hi * 18446744073709551616 + lo) / y = Q) (hR : (hi * 18446744073709551616 + lo) % y = R) : Calls Try.prog 40 #[.int .u64 (hi : Int), .int .u64 (lo : Int), .int .u64 (y : Int)] w fun e w' => e = .returned (.tuple #[.int .u64 (Q : Int), .int .u64 (R : Int)]) ∧ Below w.heap.size w w' := by
  have HQQ := Lib.hid hQ
  have HRR := Lib.hid hR
  clear hQ hR
  have hy0 : ¬ (y : Int) = 0 := by omega
  have hyh : ¬ (y : Int) ≤ (hi : Int) := by omega
  by_cases hz : hi = 0
  · subst hz
    obtain ⟨q, hq⟩ : ∃ q, lo / y = q := ⟨_, rfl⟩
    obtain ⟨r, hr⟩ : ∃ r, lo % y = r := ⟨_, rfl⟩
    obtain rfl : q = Q := by rw [← hq, ← HQQ.out, Nat.zero_mul, Nat.zero_add]
    obtain rfl : r = R := by rw [← hr, ← HRR.out, Nat.zero_mul, Nat.zero_add]
    have V1 : (lo : Int).tdiv (y : Int) = (q : Int) := by rw [div_cast, hq]
    have V2 : (lo : Int).tmod (y : Int) = (r : Int) := by rw [mod_cast', hr]
    have V3 := u64_in q (by have := Nat.div_le_self lo y; omega)
    have V4 := u64_in r (by have := Nat.mod_le lo y; omega)
    clear hq hr HQQ HRR
    go_enter Try.func40, Try.ntmps40
    go_wp2_with fail
    go_quiet (fail)
    go_wp2_with fail
    go_ret2
    exact ⟨rfl, below_drewN (Below.refl _ _) nq⟩
  · go_enter Try.func40, Try.ntmps40
    have hz1 : ((hi : Int) == 0) = false := by simp [hz]
    go_wp2_with fail
    refine (Any.bits_LeadingZeros64 Try.laysLz (y : Int) _ (by omega) (by omega)).mono ?_
    rintro e w' ⟨rfl, hw⟩
    rw [hw]
    have hbl : 1 ≤ Lib.bitLen y ∧ 2 ^ (Lib.bitLen y - 1) ≤ y ∧ y < 2 ^ Lib.bitLen y := Lib.bitLenAux_bounds 64 y (by omega) (by omega)
    have hb64 := Lib.bitLen_le y 64 (by omega) (by omega)
    rw [Int.toNat_natCast]
    obtain ⟨s, hs⟩ : ∃ s, 64 - Lib.bitLen y = s := ⟨_, rfl⟩
    have hs2 : (64 : Int) - (Lib.bitLen y : Int) = (s : Int) := by omega
    rw [hs2]
    have hs64 : s ≤ 63 := by have := hbl.1; omega
    obtain ⟨p, hp⟩ : ∃ p, 2 ^ s = p := ⟨_, rfl⟩
    obtain ⟨p', hp'⟩ : ∃ p, 2 ^ (64 - s) = p := ⟨_, rfl⟩
    have hpp : p * p' = 18446744073709551616 := by rw [← hp, ← hp', ← Nat.pow_add, show s + (64 - s) = 64 by omega]
    have hppos : 0 < p := by rw [← hp]; exact Nat.two_pow_pos s
    have hbs : 64 - s = Lib.bitLen y := by omega
    have hyp : y * p < 18446744073709551616 := by
      rw [← hpp, ← hp', hbs, Nat.mul_comm]
      exact Nat.mul_lt_mul_of_pos_left hbl.2.2 hppos
    have hyb : 9223372036854775808 ≤ y * p := by
      have h9 : 2 ^ (Lib.bitLen y - 1) * p ≤ y * p := Nat.mul_le_mul_right _ hbl.2.1
      rw [← hp, ← Nat.pow_add, show Lib.bitLen y - 1 + s = 63 by have := hbl.1; omega] at h9
      rw [← hp]
      exact h9
    have hsh := ds_shift hppos hpp hlo hhi hyp
    have P1 : (2 : Int) ^ s = (p : Int) := by rw [← hp]; simp
    have P2 : (2 : Int) ^ (64 - s) = (p' : Int) := by rw [← hp']; simp
    have HPP := Lib.hid hpp
    obtain ⟨v, hv⟩ : ∃ v, v = y * p := ⟨_, rfl⟩
    have HVV := Lib.hid hv
    rw [← hv] at hyp hyb hsh
    have W1 : IntKind.u64.wrap ((y : Int) * (p : Int)) = (v : Int) := by rw [← Int.natCast_mul, ← hv]; exact u64_in _ hyp
    obtain ⟨a, ha⟩ : ∃ a, hi * p = a := ⟨_, rfl⟩
    obtain ⟨b, hb⟩ : ∃ a, lo / p' = a := ⟨_, rfl⟩
    rw [ha, hb] at hsh
    obtain ⟨n32, hn32⟩ : ∃ n, a + b = n := ⟨_, rfl⟩
    obtain ⟨n10, hn10⟩ : ∃ n, lo * p % 18446744073709551616 = n := ⟨_, rfl⟩
    rw [hn32, hn10] at hsh
    have W2 : IntKind.u64.wrap ((hi : Int) * (p : Int)) = (a : Int) := by rw [← Int.natCast_mul, ha]; exact u64_in _ (by omega)
    have W3 : (lo : Int) / (p' : Int) = (b : Int) := by rw [← Int.natCast_ediv, hb]
    have O1 : bits BinOp.or IntKind.u64 (a : Int) (b : Int) = (n32 : Int) := by
      rw [or_u64 a b (by omega) (by omega), ← hn32, Nat.or_comm, ← ha, ← hp, Nat.mul_comm]
      have h9 := Nat.two_pow_add_eq_or_of_lt (i := s) (b := b) (by rw [hp]; exact hsh.2.1) hi
      rw [Nat.or_comm, ← h9]
    have W4 : IntKind.u64.wrap ((lo : Int) * (p : Int)) = (n10 : Int) := by rw [← Int.natCast_mul, IntKind.wrap_u64, ← hn10]; omega
    have hn10l : n10 < 18446744073709551616 := by rw [← hn10]; exact Nat.mod_lt _ (by decide)
    obtain ⟨v1, hv1⟩ : ∃ x, v / 4294967296 = x := ⟨_, rfl⟩
    obtain ⟨v0, hv0⟩ : ∃ x, v % 4294967296 = x := ⟨_, rfl⟩
    obtain ⟨n1, hn1⟩ : ∃ x, n10 / 4294967296 = x := ⟨_, rfl⟩
    obtain ⟨n0, hn0⟩ : ∃ x, n10 % 4294967296 = x := ⟨_, rfl⟩
    have E1 : (v : Int) / 4294967296 = (v1 : Int) := by omega
    have E2 : (n10 : Int) / 4294967296 = (n1 : Int) := by omega
    have A1 : bits BinOp.and IntKind.u64 (v : Int) 4294967295 = (v0 : Int) := by rw [low32 v hyp, hv0]
    have A2 : bits BinOp.and IntKind.u64 (n10 : Int) 4294967295 = (n0 : Int) := by rw [low32 n10 hn10l, hn0]
    have HV : Hid (v = v1 * 4294967296 + v0) := Lib.hid (by omega)
    have HN10 : Hid (n10 = n1 * 4294967296 + n0) := Lib.hid (by omega)
    have HU := Lib.hid hsh.1
    have h1B : 2147483648 ≤ v1 := by omega
    have h1B' : v1 < 4294967296 := by omega
    have h0B : v0 < 4294967296 := by omega
    have hd1 : n1 < 4294967296 := by omega
    have hd0 : n0 < 4294967296 := by omega
    have HN1 : Hid (n32 < v1 * 4294967296 + v0) := Lib.hid (by rw [← HV.out]; exact hsh.2.2)
    have hn32l : n32 < 18446744073709551616 := by have := hsh.2.2; omega
    have hvl := hyp
    have hv10 : ¬ (v1 : Int) = 0 := by omega
    obtain ⟨c0, hc0⟩ : ∃ e, n32 / v1 = e := ⟨_, rfl⟩
    have K1 : (n32 : Int).tdiv (v1 : Int) = (c0 : Int) := by rw [div_cast, hc0]
    have K1' : (n32 : Int) / (v1 : Int) = (c0 : Int) := by rw [← Int.natCast_ediv, hc0]
    obtain ⟨c1, hc1⟩ : ∃ e, c0 * v1 = e := ⟨_, rfl⟩
    have hle1 : c1 ≤ n32 := by rw [← hc1, ← hc0]; exact Nat.div_mul_le_self _ _
    have K2 : IntKind.u64.wrap ((c0 : Int) * (v1 : Int)) = (c1 : Int) := by rw [← Int.natCast_mul, hc1]; exact u64_in _ (by omega)
    obtain ⟨c2, hc2⟩ : ∃ e, n32 - c1 = e := ⟨_, rfl⟩
    have K3 : IntKind.u64.wrap ((n32 : Int) - (c1 : Int)) = (c2 : Int) := by rw [show (n32 : Int) - (c1 : Int) = (c2 : Int) by omega]; exact u64_in _ (by omega)
    have K4 : IntKind.u64.wrap (c0 : Int) = (c0 : Int) := u64_in _ (by have := Nat.div_le_self n32 v1; omega)
    have HST1 : Hid (Ds n32 v1 v0 n1 c0 c2) := Lib.hid (by have h9 := ds_start h1B h1B' h0B hd1 HN1.out; rw [hc0, hc1, hc2] at h9; exact h9)
    clear hbl hb64 hs hs2 hp hp' hpp hbs hsh ha hb hn32 hn10 hv1 hv0 hn1 hn0 hc0 hc1 hc2 hle1 hv hyb hhi hlo
    go_wp2_with fail
    go_loopw [15, 16] (fun qv rv wr => ∃ q r : Nat, qv = .int .u64 q ∧ rv = .int .u64 r ∧ Hid (Ds n32 v1 v0 n1 q r) ∧ wr = w) (fun qv _ _ => (intOf qv).toNat)
    case atStart => exact ⟨_, _, rfl, rfl, HST1, rfl⟩
    case round =>
      obtain ⟨q1, r, rfl, rfl, HD, hwr⟩ := hrel
      have hwr2 := hwr.symm
      clear hwr
      subst hwr2
      have hr32 := HD.out.rl
      have hq32 := HD.out.le
      clear HST1
      obtain ⟨r2, hr2⟩ : ∃ r2, r + v1 = r2 := ⟨_, rfl⟩
      have S1 : IntKind.u64.wrap ((r : Int) + (v1 : Int)) = (r2 : Int) := by rw [← Int.natCast_add, hr2]; exact u64_in _ (by omega)
      by_cases hqB : 4294967296 ≤ q1
      · have hqI : (4294967296 : Int) ≤ (q1 : Int) := by omega
        obtain ⟨qm1, hqm1⟩ : ∃ qm1, q1 - 1 = qm1 := ⟨_, rfl⟩
        have S2 : IntKind.u64.wrap ((q1 : Int) - 1) = (qm1 : Int) := by rw [show (q1 : Int) - 1 = (qm1 : Int) by omega]; exact u64_in _ (by omega)
        have hm := ds_more HD.out h0B h1B hd1 HN1.out (.inl hqB)
        have hsum : qm1 * v1 + r2 = n32 := by
          have h9 := HD.out.sum
          rw [← hqm1, ← hr2, Nat.sub_mul, Nat.one_mul]
          have : 1 * v1 ≤ q1 * v1 := Nat.mul_le_mul_right _ hm.2
          omega
        by_cases hbr : 4294967296 ≤ r2
        · have hbI : (4294967296 : Int) ≤ (r2 : Int) := by omega
          have HQ1 : Hid (qm1 = (n32 * 4294967296 + n1) / (v1 * 4294967296 + v0)) := Lib.hid (ds_break hsum (by rw [← hqm1]; exact hm.1) (by omega) h0B h1B hbr)
          clear hm hsum hbr hr2 hqB
          try clear hp1 hm1 hm2 hm3 hgt
          have hL := ds_left (v := v1 * 4294967296 + v0) (by omega) HN1.out hd1 HQ1.out
          obtain ⟨u, hu⟩ : ∃ u, u = n32 * 4294967296 + n1 - qm1 * v := ⟨_, rfl⟩
          rw [← HV.out] at hL
          have hult : u < v := by rw [hu, hL.2.2.1]; exact hL.2.2.2
          obtain ⟨X1, X2, X3, C1, C2, C3, C4⟩ := sub_chain n32 n1 qm1 v hL.2.1 (by rw [← hu]; omega) u hu
          have HE1 : Hid (n32 * 4294967296 + n1 = qm1 * v + u) := Lib.hid (by rw [hu]; have := hL.2.1; omega)
          have hqb : qm1 < 4294967296 := hL.1
          obtain ⟨e0, he0⟩ : ∃ e, u / v1 = e := ⟨_, rfl⟩
          have K1 : (u : Int).tdiv (v1 : Int) = (e0 : Int) := by rw [div_cast, he0]
          have K1' : (u : Int) / (v1 : Int) = (e0 : Int) := by rw [← Int.natCast_ediv, he0]
          obtain ⟨e1, he1⟩ : ∃ e, e0 * v1 = e := ⟨_, rfl⟩
          have hle1 : e1 ≤ u := by rw [← he1, ← he0]; exact Nat.div_mul_le_self _ _
          have K2 : IntKind.u64.wrap ((e0 : Int) * (v1 : Int)) = (e1 : Int) := by rw [← Int.natCast_mul, he1]; exact u64_in _ (by omega)
          obtain ⟨e2, he2⟩ : ∃ e, u - e1 = e := ⟨_, rfl⟩
          have K3 : IntKind.u64.wrap ((u : Int) - (e1 : Int)) = (e2 : Int) := by rw [show (u : Int) - (e1 : Int) = (e2 : Int) by omega]; exact u64_in _ (by omega)
          have K4 : IntKind.u64.wrap (e0 : Int) = (e0 : Int) := u64_in _ (by have := Nat.div_le_self u v1; omega)
          have HN0 : Hid (u < v1 * 4294967296 + v0) := Lib.hid (by rw [← HV.out]; exact hult)
          have HST0 : Hid (Ds u v1 v0 n0 e0 e2) := Lib.hid (by have h9 := ds_start h1B h1B' h0B hd0 HN0.out; rw [he0, he1, he2] at h9; exact h9)
          clear hL hu hult he0 he1 he2 hle1 
          go_wp2_with fail
          clear C1 C2 C3 C4 K1 K1' K2 K3 K4
          try clear S1
          try clear S2
          try clear S3
          try clear S4
          try clear S5
          try clear hgI
          try clear hqI
          go_loopw [18, 16] (fun qv rv wr => ∃ q r : Nat, qv = .int .u64 q ∧ rv = .int .u64 r ∧ Hid (Ds u v1 v0 n0 q r) ∧ wr = w) (fun qv _ _ => (intOf qv).toNat)
          case atStart => exact ⟨_, _, rfl, rfl, HST0, rfl⟩
          case round =>
            obtain ⟨q0, r, rfl, rfl, HD, hwr⟩ := hrel
            have hwr2 := hwr.symm
            clear hwr
            subst hwr2
            have hr32 := HD.out.rl
            have hq32 := HD.out.le
            clear HST0
            obtain ⟨r2, hr2⟩ : ∃ r2, r + v1 = r2 := ⟨_, rfl⟩
            have S1 : IntKind.u64.wrap ((r : Int) + (v1 : Int)) = (r2 : Int) := by rw [← Int.natCast_add, hr2]; exact u64_in _ (by omega)
            by_cases hqB : 4294967296 ≤ q0
            · have hqI : (4294967296 : Int) ≤ (q0 : Int) := by omega
              obtain ⟨qm0, hqm0⟩ : ∃ qm0, q0 - 1 = qm0 := ⟨_, rfl⟩
              have S2 : IntKind.u64.wrap ((q0 : Int) - 1) = (qm0 : Int) := by rw [show (q0 : Int) - 1 = (qm0 : Int) by omega]; exact u64_in _ (by omega)
              have hm := ds_more HD.out h0B h1B hd0 HN0.out (.inl hqB)
              have hsum : qm0 * v1 + r2 = u := by
                have h9 := HD.out.sum
                rw [← hqm0, ← hr2, Nat.sub_mul, Nat.one_mul]
                have : 1 * v1 ≤ q0 * v1 := Nat.mul_le_mul_right _ hm.2
                omega
              by_cases hbr : 4294967296 ≤ r2
              · have hbI : (4294967296 : Int) ≤ (r2 : Int) := by omega
                have HQ0 : Hid (qm0 = (u * 4294967296 + n0) / (v1 * 4294967296 + v0)) := Lib.hid (ds_break hsum (by rw [← hqm0]; exact hm.1) (by omega) h0B h1B hbr)
                clear hm hsum hbr hr2 hqB
                try clear hp1 hm1 hm2 hm3 hgt
                have hL := ds_left (v := v1 * 4294967296 + v0) (by omega) HN0.out hd0 HQ0.out
                obtain ⟨u2, hu2⟩ : ∃ x, x = u * 4294967296 + n0 - qm0 * v := ⟨_, rfl⟩
                rw [← HV.out] at hL
                have hult : u2 < v := by rw [hu2, hL.2.2.1]; exact hL.2.2.2
                obtain ⟨Y1, Y2, Y3, D1, D2, D3, D4⟩ := sub_chain u n0 qm0 v hL.2.1 (by rw [← hu2]; omega) u2 hu2
                have hW := ds_whole (q1 := qm1) (q0 := qm0) (u := u) (by omega) HVV.out HPP.out HU.out HN10.out HE1.out ⟨u2, by rw [hu2]; have := hL.2.1; omega, hult⟩
                rw [← hu2] at hW
                have hqb0 : qm0 < 4294967296 := hL.1
                obtain ⟨z1, hz1'⟩ : ∃ z, qm1 * 4294967296 = z := ⟨_, rfl⟩
                have L1 : IntKind.u64.wrap ((qm1 : Int) * 4294967296) = (z1 : Int) := by rw [show (qm1 : Int) * 4294967296 = (z1 : Int) by omega]; exact u64_in _ (by omega)
                obtain ⟨z2, hz2'⟩ : ∃ z, z1 + qm0 = z := ⟨_, rfl⟩
                have L2 : IntKind.u64.wrap ((z1 : Int) + (qm0 : Int)) = (z2 : Int) := by rw [← Int.natCast_add, hz2']; exact u64_in _ (by omega)
                obtain ⟨z3, hz3'⟩ : ∃ z, u2 / p = z := ⟨_, rfl⟩
                have L3 : (u2 : Int) / (p : Int) = (z3 : Int) := by rw [← Int.natCast_ediv, hz3']
                rw [hz1', hz2', hz3'] at hW
                obtain rfl : z2 = Q := hW.1.trans HQQ.out
                obtain rfl : z3 = R := hW.2.trans HRR.out
                clear hW hL hu2 hult hz1' hz2' hz3'
                go_wp2_with fail
                go_ret2
                exact ⟨rfl, Below.refl _ _⟩
              · have hbI : ¬ (4294967296 : Int) ≤ (r2 : Int) := by omega
                have HD2 : Hid (Ds u v1 v0 n0 qm0 r2) := Lib.hid ⟨hsum, by rw [← hqm0]; exact hm.1, by omega, by omega⟩
                clear hsum hr2
                go_wp2_with fail
                go_roundw
                case rel => exact ⟨qm0, r2, rfl, rfl, HD2, by trivial⟩
                case measure => simp [intOf]; omega
            · have hqI : ¬ (4294967296 : Int) ≤ (q0 : Int) := by omega
              have hp1 := mul_in (M := 0) (show q0 < 4294967296 by omega) h0B
              obtain ⟨m1, hm1⟩ : ∃ m, q0 * v0 = m := ⟨_, rfl⟩
              have S3 : IntKind.u64.wrap ((q0 : Int) * (v0 : Int)) = (m1 : Int) := by rw [← Int.natCast_mul, hm1]; exact u64_in _ (by omega)
              obtain ⟨m2, hm2⟩ : ∃ m, 4294967296 * r = m := ⟨_, rfl⟩
              have S4 : IntKind.u64.wrap (4294967296 * (r : Int)) = (m2 : Int) := by rw [show 4294967296 * (r : Int) = (m2 : Int) by omega]; exact u64_in _ (by omega)
              obtain ⟨m3, hm3⟩ : ∃ m, m2 + n0 = m := ⟨_, rfl⟩
              have S5 : IntKind.u64.wrap ((m2 : Int) + (n0 : Int)) = (m3 : Int) := by rw [← Int.natCast_add, hm3]; exact u64_in _ (by omega)
              by_cases hgt : m3 < m1
              · have hgI : (m3 : Int) < (m1 : Int) := by omega
                obtain ⟨qm0, hqm0⟩ : ∃ qm0, q0 - 1 = qm0 := ⟨_, rfl⟩
                have hm := ds_more HD.out h0B h1B hd0 HN0.out (.inr (by omega))
                have S2 : IntKind.u64.wrap ((q0 : Int) - 1) = (qm0 : Int) := by rw [show (q0 : Int) - 1 = (qm0 : Int) by omega]; exact u64_in _ (by omega)
                have hsum : qm0 * v1 + r2 = u := by
                  have h9 := HD.out.sum
                  rw [← hqm0, ← hr2, Nat.sub_mul, Nat.one_mul]
                  have : 1 * v1 ≤ q0 * v1 := Nat.mul_le_mul_right _ hm.2
                  omega
                by_cases hbr : 4294967296 ≤ r2
                · have hbI : (4294967296 : Int) ≤ (r2 : Int) := by omega
                  have HQ0 : Hid (qm0 = (u * 4294967296 + n0) / (v1 * 4294967296 + v0)) := Lib.hid (ds_break hsum (by rw [← hqm0]; exact hm.1) (by omega) h0B h1B hbr)
                  clear hm hsum hbr hr2 hqB
                  try clear hp1 hm1 hm2 hm3 hgt
                  have hL := ds_left (v := v1 * 4294967296 + v0) (by omega) HN0.out hd0 HQ0.out
                  obtain ⟨u2, hu2⟩ : ∃ x, x = u * 4294967296 + n0 - qm0 * v := ⟨_, rfl⟩
                  rw [← HV.out] at hL
                  have hult : u2 < v := by rw [hu2, hL.2.2.1]; exact hL.2.2.2
                  obtain ⟨Y1, Y2, Y3, D1, D2, D3, D4⟩ := sub_chain u n0 qm0 v hL.2.1 (by rw [← hu2]; omega) u2 hu2
                  have hW := ds_whole (q1 := qm1) (q0 := qm0) (u := u) (by omega) HVV.out HPP.out HU.out HN10.out HE1.out ⟨u2, by rw [hu2]; have := hL.2.1; omega, hult⟩
                  rw [← hu2] at hW
                  have hqb0 : qm0 < 4294967296 := hL.1
                  obtain ⟨z1, hz1'⟩ : ∃ z, qm1 * 4294967296 = z := ⟨_, rfl⟩
                  have L1 : IntKind.u64.wrap ((qm1 : Int) * 4294967296) = (z1 : Int) := by rw [show (qm1 : Int) * 4294967296 = (z1 : Int) by omega]; exact u64_in _ (by omega)
                  obtain ⟨z2, hz2'⟩ : ∃ z, z1 + qm0 = z := ⟨_, rfl⟩
                  have L2 : IntKind.u64.wrap ((z1 : Int) + (qm0 : Int)) = (z2 : Int) := by rw [← Int.natCast_add, hz2']; exact u64_in _ (by omega)
                  obtain ⟨z3, hz3'⟩ : ∃ z, u2 / p = z := ⟨_, rfl⟩
                  have L3 : (u2 : Int) / (p : Int) = (z3 : Int) := by rw [← Int.natCast_ediv, hz3']
                  rw [hz1', hz2', hz3'] at hW
                  obtain rfl : z2 = Q := hW.1.trans HQQ.out
                  obtain rfl : z3 = R := hW.2.trans HRR.out
                  clear hW hL hu2 hult hz1' hz2' hz3'
                  go_wp2_with fail
                  go_ret2
                  exact ⟨rfl, Below.refl _ _⟩
                · have hbI : ¬ (4294967296 : Int) ≤ (r2 : Int) := by omega
                  have HD2 : Hid (Ds u v1 v0 n0 qm0 r2) := Lib.hid ⟨hsum, by rw [← hqm0]; exact hm.1, by omega, by omega⟩
                  clear hsum hr2
                  go_wp2_with fail
                  go_roundw
                  case rel => exact ⟨qm0, r2, rfl, rfl, HD2, by trivial⟩
                  case measure => simp [intOf]; omega
              · have hgI : ¬ (m3 : Int) < (m1 : Int) := by omega
                have HQ0 : Hid (q0 = (u * 4294967296 + n0) / (v1 * 4294967296 + v0)) := Lib.hid (ds_stop HD.out h0B h1B (by omega))
                clear hp1 hm1 hm2 hm3 hqB hgt S1 hr2
                have hL := ds_left (v := v1 * 4294967296 + v0) (by omega) HN0.out hd0 HQ0.out
                obtain ⟨u2, hu2⟩ : ∃ x, x = u * 4294967296 + n0 - q0 * v := ⟨_, rfl⟩
                rw [← HV.out] at hL
                have hult : u2 < v := by rw [hu2, hL.2.2.1]; exact hL.2.2.2
                obtain ⟨Y1, Y2, Y3, D1, D2, D3, D4⟩ := sub_chain u n0 q0 v hL.2.1 (by rw [← hu2]; omega) u2 hu2
                have hW := ds_whole (q1 := qm1) (q0 := q0) (u := u) (by omega) HVV.out HPP.out HU.out HN10.out HE1.out ⟨u2, by rw [hu2]; have := hL.2.1; omega, hult⟩
                rw [← hu2] at hW
                have hqb0 : q0 < 4294967296 := hL.1
                obtain ⟨z1, hz1'⟩ : ∃ z, qm1 * 4294967296 = z := ⟨_, rfl⟩
                have L1 : IntKind.u64.wrap ((qm1 : Int) * 4294967296) = (z1 : Int) := by rw [show (qm1 : Int) * 4294967296 = (z1 : Int) by omega]; exact u64_in _ (by omega)
                obtain ⟨z2, hz2'⟩ : ∃ z, z1 + q0 = z := ⟨_, rfl⟩
                have L2 : IntKind.u64.wrap ((z1 : Int) + (q0 : Int)) = (z2 : Int) := by rw [← Int.natCast_add, hz2']; exact u64_in _ (by omega)
                obtain ⟨z3, hz3'⟩ : ∃ z, u2 / p = z := ⟨_, rfl⟩
                have L3 : (u2 : Int) / (p : Int) = (z3 : Int) := by rw [← Int.natCast_ediv, hz3']
                rw [hz1', hz2', hz3'] at hW
                obtain rfl : z2 = Q := hW.1.trans HQQ.out
                obtain rfl : z3 = R := hW.2.trans HRR.out
                clear hW hL hu2 hult hz1' hz2' hz3'
                go_wp2_with fail
                go_ret2
                exact ⟨rfl, Below.refl _ _⟩
        · have hbI : ¬ (4294967296 : Int) ≤ (r2 : Int) := by omega
          have HD2 : Hid (Ds n32 v1 v0 n1 qm1 r2) := Lib.hid ⟨hsum, by rw [← hqm1]; exact hm.1, by omega, by omega⟩
          clear hsum hr2
          go_wp2_with fail
          go_roundw
          case rel => exact ⟨qm1, r2, rfl, rfl, HD2, by trivial⟩
          case measure => simp [intOf]; omega
      · have hqI : ¬ (4294967296 : Int) ≤ (q1 : Int) := by omega
        have hp1 := mul_in (M := 0) (show q1 < 4294967296 by omega) h0B
        obtain ⟨m1, hm1⟩ : ∃ m, q1 * v0 = m := ⟨_, rfl⟩
        have S3 : IntKind.u64.wrap ((q1 : Int) * (v0 : Int)) = (m1 : Int) := by rw [← Int.natCast_mul, hm1]; exact u64_in _ (by omega)
        obtain ⟨m2, hm2⟩ : ∃ m, 4294967296 * r = m := ⟨_, rfl⟩
        have S4 : IntKind.u64.wrap (4294967296 * (r : Int)) = (m2 : Int) := by rw [show 4294967296 * (r : Int) = (m2 : Int) by omega]; exact u64_in _ (by omega)
        obtain ⟨m3, hm3⟩ : ∃ m, m2 + n1 = m := ⟨_, rfl⟩
        have S5 : IntKind.u64.wrap ((m2 : Int) + (n1 : Int)) = (m3 : Int) := by rw [← Int.natCast_add, hm3]; exact u64_in _ (by omega)
        by_cases hgt : m3 < m1
        · have hgI : (m3 : Int) < (m1 : Int) := by omega
          obtain ⟨qm1, hqm1⟩ : ∃ qm1, q1 - 1 = qm1 := ⟨_, rfl⟩
          have hm := ds_more HD.out h0B h1B hd1 HN1.out (.inr (by omega))
          have S2 : IntKind.u64.wrap ((q1 : Int) - 1) = (qm1 : Int) := by rw [show (q1 : Int) - 1 = (qm1 : Int) by omega]; exact u64_in _ (by omega)
          have hsum : qm1 * v1 + r2 = n32 := by
            have h9 := HD.out.sum
            rw [← hqm1, ← hr2, Nat.sub_mul, Nat.one_mul]
            have : 1 * v1 ≤ q1 * v1 := Nat.mul_le_mul_right _ hm.2
            omega
          by_cases hbr : 4294967296 ≤ r2
          · have hbI : (4294967296 : Int) ≤ (r2 : Int) := by omega
            have HQ1 : Hid (qm1 = (n32 * 4294967296 + n1) / (v1 * 4294967296 + v0)) := Lib.hid (ds_break hsum (by rw [← hqm1]; exact hm.1) (by omega) h0B h1B hbr)
            clear hm hsum hbr hr2 hqB
            try clear hp1 hm1 hm2 hm3 hgt
            have hL := ds_left (v := v1 * 4294967296 + v0) (by omega) HN1.out hd1 HQ1.out
            obtain ⟨u, hu⟩ : ∃ u, u = n32 * 4294967296 + n1 - qm1 * v := ⟨_, rfl⟩
            rw [← HV.out] at hL
            have hult : u < v := by rw [hu, hL.2.2.1]; exact hL.2.2.2
            obtain ⟨X1, X2, X3, C1, C2, C3, C4⟩ := sub_chain n32 n1 qm1 v hL.2.1 (by rw [← hu]; omega) u hu
            have HE1 : Hid (n32 * 4294967296 + n1 = qm1 * v + u) := Lib.hid (by rw [hu]; have := hL.2.1; omega)
            have hqb : qm1 < 4294967296 := hL.1
            obtain ⟨e0, he0⟩ : ∃ e, u / v1 = e := ⟨_, rfl⟩
            have K1 : (u : Int).tdiv (v1 : Int) = (e0 : Int) := by rw [div_cast, he0]
            have K1' : (u : Int) / (v1 : Int) = (e0 : Int) := by rw [← Int.natCast_ediv, he0]
            obtain ⟨e1, he1⟩ : ∃ e, e0 * v1 = e := ⟨_, rfl⟩
            have hle1 : e1 ≤ u := by rw [← he1, ← he0]; exact Nat.div_mul_le_self _ _
            have K2 : IntKind.u64.wrap ((e0 : Int) * (v1 : Int)) = (e1 : Int) := by rw [← Int.natCast_mul, he1]; exact u64_in _ (by omega)
            obtain ⟨e2, he2⟩ : ∃ e, u - e1 = e := ⟨_, rfl⟩
            have K3 : IntKind.u64.wrap ((u : Int) - (e1 : Int)) = (e2 : Int) := by rw [show (u : Int) - (e1 : Int) = (e2 : Int) by omega]; exact u64_in _ (by omega)
            have K4 : IntKind.u64.wrap (e0 : Int) = (e0 : Int) := u64_in _ (by have := Nat.div_le_self u v1; omega)
            have HN0 : Hid (u < v1 * 4294967296 + v0) := Lib.hid (by rw [← HV.out]; exact hult)
            have HST0 : Hid (Ds u v1 v0 n0 e0 e2) := Lib.hid (by have h9 := ds_start h1B h1B' h0B hd0 HN0.out; rw [he0, he1, he2] at h9; exact h9)
            clear hL hu hult he0 he1 he2 hle1 
            go_wp2_with fail
            clear C1 C2 C3 C4 K1 K1' K2 K3 K4
            try clear S1
            try clear S2
            try clear S3
            try clear S4
            try clear S5
            try clear hgI
            try clear hqI
            go_loopw [18, 16] (fun qv rv wr => ∃ q r : Nat, qv = .int .u64 q ∧ rv = .int .u64 r ∧ Hid (Ds u v1 v0 n0 q r) ∧ wr = w) (fun qv _ _ => (intOf qv).toNat)
            case atStart => exact ⟨_, _, rfl, rfl, HST0, rfl⟩
            case round =>
              obtain ⟨q0, r, rfl, rfl, HD, hwr⟩ := hrel
              have hwr2 := hwr.symm
              clear hwr
              subst hwr2
              have hr32 := HD.out.rl
              have hq32 := HD.out.le
              clear HST0
              obtain ⟨r2, hr2⟩ : ∃ r2, r + v1 = r2 := ⟨_, rfl⟩
              have S1 : IntKind.u64.wrap ((r : Int) + (v1 : Int)) = (r2 : Int) := by rw [← Int.natCast_add, hr2]; exact u64_in _ (by omega)
              by_cases hqB : 4294967296 ≤ q0
              · have hqI : (4294967296 : Int) ≤ (q0 : Int) := by omega
                obtain ⟨qm0, hqm0⟩ : ∃ qm0, q0 - 1 = qm0 := ⟨_, rfl⟩
                have S2 : IntKind.u64.wrap ((q0 : Int) - 1) = (qm0 : Int) := by rw [show (q0 : Int) - 1 = (qm0 : Int) by omega]; exact u64_in _ (by omega)
                have hm := ds_more HD.out h0B h1B hd0 HN0.out (.inl hqB)
                have hsum : qm0 * v1 + r2 = u := by
                  have h9 := HD.out.sum
                  rw [← hqm0, ← hr2, Nat.sub_mul, Nat.one_mul]
                  have : 1 * v1 ≤ q0 * v1 := Nat.mul_le_mul_right _ hm.2
                  omega
                by_cases hbr : 4294967296 ≤ r2
                · have hbI : (4294967296 : Int) ≤ (r2 : Int) := by omega
                  have HQ0 : Hid (qm0 = (u * 4294967296 + n0) / (v1 * 4294967296 + v0)) := Lib.hid (ds_break hsum (by rw [← hqm0]; exact hm.1) (by omega) h0B h1B hbr)
                  clear hm hsum hbr hr2 hqB
                  try clear hp1 hm1 hm2 hm3 hgt
                  have hL := ds_left (v := v1 * 4294967296 + v0) (by omega) HN0.out hd0 HQ0.out
                  obtain ⟨u2, hu2⟩ : ∃ x, x = u * 4294967296 + n0 - qm0 * v := ⟨_, rfl⟩
                  rw [← HV.out] at hL
                  have hult : u2 < v := by rw [hu2, hL.2.2.1]; exact hL.2.2.2
                  obtain ⟨Y1, Y2, Y3, D1, D2, D3, D4⟩ := sub_chain u n0 qm0 v hL.2.1 (by rw [← hu2]; omega) u2 hu2
                  have hW := ds_whole (q1 := qm1) (q0 := qm0) (u := u) (by omega) HVV.out HPP.out HU.out HN10.out HE1.out ⟨u2, by rw [hu2]; have := hL.2.1; omega, hult⟩
                  rw [← hu2] at hW
                  have hqb0 : qm0 < 4294967296 := hL.1
                  obtain ⟨z1, hz1'⟩ : ∃ z, qm1 * 4294967296 = z := ⟨_, rfl⟩
                  have L1 : IntKind.u64.wrap ((qm1 : Int) * 4294967296) = (z1 : Int) := by rw [show (qm1 : Int) * 4294967296 = (z1 : Int) by omega]; exact u64_in _ (by omega)
                  obtain ⟨z2, hz2'⟩ : ∃ z, z1 + qm0 = z := ⟨_, rfl⟩
                  have L2 : IntKind.u64.wrap ((z1 : Int) + (qm0 : Int)) = (z2 : Int) := by rw [← Int.natCast_add, hz2']; exact u64_in _ (by omega)
                  obtain ⟨z3, hz3'⟩ : ∃ z, u2 / p = z := ⟨_, rfl⟩
                  have L3 : (u2 : Int) / (p : Int) = (z3 : Int) := by rw [← Int.natCast_ediv, hz3']
                  rw [hz1', hz2', hz3'] at hW
                  obtain rfl : z2 = Q := hW.1.trans HQQ.out
                  obtain rfl : z3 = R := hW.2.trans HRR.out
                  clear hW hL hu2 hult hz1' hz2' hz3'
                  go_wp2_with fail
                  go_ret2
                  exact ⟨rfl, Below.refl _ _⟩
                · have hbI : ¬ (4294967296 : Int) ≤ (r2 : Int) := by omega
                  have HD2 : Hid (Ds u v1 v0 n0 qm0 r2) := Lib.hid ⟨hsum, by rw [← hqm0]; exact hm.1, by omega, by omega⟩
                  clear hsum hr2
                  go_wp2_with fail
                  go_roundw
                  case rel => exact ⟨qm0, r2, rfl, rfl, HD2, by trivial⟩
                  case measure => simp [intOf]; omega
              · have hqI : ¬ (4294967296 : Int) ≤ (q0 : Int) := by omega
                have hp1 := mul_in (M := 0) (show q0 < 4294967296 by omega) h0B
                obtain ⟨m1, hm1⟩ : ∃ m, q0 * v0 = m := ⟨_, rfl⟩
                have S3 : IntKind.u64.wrap ((q0 : Int) * (v0 : Int)) = (m1 : Int) := by rw [← Int.natCast_mul, hm1]; exact u64_in _ (by omega)
                obtain ⟨m2, hm2⟩ : ∃ m, 4294967296 * r = m := ⟨_, rfl⟩
                have S4 : IntKind.u64.wrap (4294967296 * (r : Int)) = (m2 : Int) := by rw [show 4294967296 * (r : Int) = (m2 : Int) by omega]; exact u64_in _ (by omega)
                obtain ⟨m3, hm3⟩ : ∃ m, m2 + n0 = m := ⟨_, rfl⟩
                have S5 : IntKind.u64.wrap ((m2 : Int) + (n0 : Int)) = (m3 : Int) := by rw [← Int.natCast_add, hm3]; exact u64_in _ (by omega)
                by_cases hgt : m3 < m1
                · have hgI : (m3 : Int) < (m1 : Int) := by omega
                  obtain ⟨qm0, hqm0⟩ : ∃ qm0, q0 - 1 = qm0 := ⟨_, rfl⟩
                  have hm := ds_more HD.out h0B h1B hd0 HN0.out (.inr (by omega))
                  have S2 : IntKind.u64.wrap ((q0 : Int) - 1) = (qm0 : Int) := by rw [show (q0 : Int) - 1 = (qm0 : Int) by omega]; exact u64_in _ (by omega)
                  have hsum : qm0 * v1 + r2 = u := by
                    have h9 := HD.out.sum
                    rw [← hqm0, ← hr2, Nat.sub_mul, Nat.one_mul]
                    have : 1 * v1 ≤ q0 * v1 := Nat.mul_le_mul_right _ hm.2
                    omega
                  by_cases hbr : 4294967296 ≤ r2
                  · have hbI : (4294967296 : Int) ≤ (r2 : Int) := by omega
                    have HQ0 : Hid (qm0 = (u * 4294967296 + n0) / (v1 * 4294967296 + v0)) := Lib.hid (ds_break hsum (by rw [← hqm0]; exact hm.1) (by omega) h0B h1B hbr)
                    clear hm hsum hbr hr2 hqB
                    try clear hp1 hm1 hm2 hm3 hgt
                    have hL := ds_left (v := v1 * 4294967296 + v0) (by omega) HN0.out hd0 HQ0.out
                    obtain ⟨u2, hu2⟩ : ∃ x, x = u * 4294967296 + n0 - qm0 * v := ⟨_, rfl⟩
                    rw [← HV.out] at hL
                    have hult : u2 < v := by rw [hu2, hL.2.2.1]; exact hL.2.2.2
                    obtain ⟨Y1, Y2, Y3, D1, D2, D3, D4⟩ := sub_chain u n0 qm0 v hL.2.1 (by rw [← hu2]; omega) u2 hu2
                    have hW := ds_whole (q1 := qm1) (q0 := qm0) (u := u) (by omega) HVV.out HPP.out HU.out HN10.out HE1.out ⟨u2, by rw [hu2]; have := hL.2.1; omega, hult⟩
                    rw [← hu2] at hW
                    have hqb0 : qm0 < 4294967296 := hL.1
                    obtain ⟨z1, hz1'⟩ : ∃ z, qm1 * 4294967296 = z := ⟨_, rfl⟩
                    have L1 : IntKind.u64.wrap ((qm1 : Int) * 4294967296) = (z1 : Int) := by rw [show (qm1 : Int) * 4294967296 = (z1 : Int) by omega]; exact u64_in _ (by omega)
                    obtain ⟨z2, hz2'⟩ : ∃ z, z1 + qm0 = z := ⟨_, rfl⟩
                    have L2 : IntKind.u64.wrap ((z1 : Int) + (qm0 : Int)) = (z2 : Int) := by rw [← Int.natCast_add, hz2']; exact u64_in _ (by omega)
                    obtain ⟨z3, hz3'⟩ : ∃ z, u2 / p = z := ⟨_, rfl⟩
                    have L3 : (u2 : Int) / (p : Int) = (z3 : Int) := by rw [← Int.natCast_ediv, hz3']
                    rw [hz1', hz2', hz3'] at hW
                    obtain rfl : z2 = Q := hW.1.trans HQQ.out
                    obtain rfl : z3 = R := hW.2.trans HRR.out
                    clear hW hL hu2 hult hz1' hz2' hz3'
                    go_wp2_with fail
                    go_ret2
                    exact ⟨rfl, Below.refl _ _⟩
                  · have hbI : ¬ (4294967296 : Int) ≤ (r2 : Int) := by omega
                    have HD2 : Hid (Ds u v1 v0 n0 qm0 r2) := Lib.hid ⟨hsum, by rw [← hqm0]; exact hm.1, by omega, by omega⟩
                    clear hsum hr2
                    go_wp2_with fail
                    go_roundw
                    case rel => exact ⟨qm0, r2, rfl, rfl, HD2, by trivial⟩
                    case measure => simp [intOf]; omega
                · have hgI : ¬ (m3 : Int) < (m1 : Int) := by omega
                  have HQ0 : Hid (q0 = (u * 4294967296 + n0) / (v1 * 4294967296 + v0)) := Lib.hid (ds_stop HD.out h0B h1B (by omega))
                  clear hp1 hm1 hm2 hm3 hqB hgt S1 hr2
                  have hL := ds_left (v := v1 * 4294967296 + v0) (by omega) HN0.out hd0 HQ0.out
                  obtain ⟨u2, hu2⟩ : ∃ x, x = u * 4294967296 + n0 - q0 * v := ⟨_, rfl⟩
                  rw [← HV.out] at hL
                  have hult : u2 < v := by rw [hu2, hL.2.2.1]; exact hL.2.2.2
                  obtain ⟨Y1, Y2, Y3, D1, D2, D3, D4⟩ := sub_chain u n0 q0 v hL.2.1 (by rw [← hu2]; omega) u2 hu2
                  have hW := ds_whole (q1 := qm1) (q0 := q0) (u := u) (by omega) HVV.out HPP.out HU.out HN10.out HE1.out ⟨u2, by rw [hu2]; have := hL.2.1; omega, hult⟩
                  rw [← hu2] at hW
                  have hqb0 : q0 < 4294967296 := hL.1
                  obtain ⟨z1, hz1'⟩ : ∃ z, qm1 * 4294967296 = z := ⟨_, rfl⟩
                  have L1 : IntKind.u64.wrap ((qm1 : Int) * 4294967296) = (z1 : Int) := by rw [show (qm1 : Int) * 4294967296 = (z1 : Int) by omega]; exact u64_in _ (by omega)
                  obtain ⟨z2, hz2'⟩ : ∃ z, z1 + q0 = z := ⟨_, rfl⟩
                  have L2 : IntKind.u64.wrap ((z1 : Int) + (q0 : Int)) = (z2 : Int) := by rw [← Int.natCast_add, hz2']; exact u64_in _ (by omega)
                  obtain ⟨z3, hz3'⟩ : ∃ z, u2 / p = z := ⟨_, rfl⟩
                  have L3 : (u2 : Int) / (p : Int) = (z3 : Int) := by rw [← Int.natCast_ediv, hz3']
                  rw [hz1', hz2', hz3'] at hW
                  obtain rfl : z2 = Q := hW.1.trans HQQ.out
                  obtain rfl : z3 = R := hW.2.trans HRR.out
                  clear hW hL hu2 hult hz1' hz2' hz3'
                  go_wp2_with fail
                  go_ret2
                  exact ⟨rfl, Below.refl _ _⟩
          · have hbI : ¬ (4294967296 : Int) ≤ (r2 : Int) := by omega
            have HD2 : Hid (Ds n32 v1 v0 n1 qm1 r2) := Lib.hid ⟨hsum, by rw [← hqm1]; exact hm.1, by omega, by omega⟩
            clear hsum hr2
            go_wp2_with fail
            go_roundw
            case rel => exact ⟨qm1, r2, rfl, rfl, HD2, by trivial⟩
            case measure => simp [intOf]; omega
        · have hgI : ¬ (m3 : Int) < (m1 : Int) := by omega
          have HQ1 : Hid (q1 = (n32 * 4294967296 + n1) / (v1 * 4294967296 + v0)) := Lib.hid (ds_stop HD.out h0B h1B (by omega))
          clear hp1 hm1 hm2 hm3 hqB hgt S1 hr2
          have hL := ds_left (v := v1 * 4294967296 + v0) (by omega) HN1.out hd1 HQ1.out
          obtain ⟨u, hu⟩ : ∃ u, u = n32 * 4294967296 + n1 - q1 * v := ⟨_, rfl⟩
          rw [← HV.out] at hL
          have hult : u < v := by rw [hu, hL.2.2.1]; exact hL.2.2.2
          obtain ⟨X1, X2, X3, C1, C2, C3, C4⟩ := sub_chain n32 n1 q1 v hL.2.1 (by rw [← hu]; omega) u hu
          have HE1 : Hid (n32 * 4294967296 + n1 = q1 * v + u) := Lib.hid (by rw [hu]; have := hL.2.1; omega)
          have hqb : q1 < 4294967296 := hL.1
          obtain ⟨e0, he0⟩ : ∃ e, u / v1 = e := ⟨_, rfl⟩
          have K1 : (u : Int).tdiv (v1 : Int) = (e0 : Int) := by rw [div_cast, he0]
          have K1' : (u : Int) / (v1 : Int) = (e0 : Int) := by rw [← Int.natCast_ediv, he0]
          obtain ⟨e1, he1⟩ : ∃ e, e0 * v1 = e := ⟨_, rfl⟩
          have hle1 : e1 ≤ u := by rw [← he1, ← he0]; exact Nat.div_mul_le_self _ _
          have K2 : IntKind.u64.wrap ((e0 : Int) * (v1 : Int)) = (e1 : Int) := by rw [← Int.natCast_mul, he1]; exact u64_in _ (by omega)
          obtain ⟨e2, he2⟩ : ∃ e, u - e1 = e := ⟨_, rfl⟩
          have K3 : IntKind.u64.wrap ((u : Int) - (e1 : Int)) = (e2 : Int) := by rw [show (u : Int) - (e1 : Int) = (e2 : Int) by omega]; exact u64_in _ (by omega)
          have K4 : IntKind.u64.wrap (e0 : Int) = (e0 : Int) := u64_in _ (by have := Nat.div_le_self u v1; omega)
          have HN0 : Hid (u < v1 * 4294967296 + v0) := Lib.hid (by rw [← HV.out]; exact hult)
          have HST0 : Hid (Ds u v1 v0 n0 e0 e2) := Lib.hid (by have h9 := ds_start h1B h1B' h0B hd0 HN0.out; rw [he0, he1, he2] at h9; exact h9)
          clear hL hu hult he0 he1 he2 hle1 
          go_wp2_with fail
          clear C1 C2 C3 C4 K1 K1' K2 K3 K4
          try clear S1
          try clear S2
          try clear S3
          try clear S4
          try clear S5
          try clear hgI
          try clear hqI
          go_loopw [18, 16] (fun qv rv wr => ∃ q r : Nat, qv = .int .u64 q ∧ rv = .int .u64 r ∧ Hid (Ds u v1 v0 n0 q r) ∧ wr = w) (fun qv _ _ => (intOf qv).toNat)
          case atStart => exact ⟨_, _, rfl, rfl, HST0, rfl⟩
          case round =>
            obtain ⟨q0, r, rfl, rfl, HD, hwr⟩ := hrel
            have hwr2 := hwr.symm
            clear hwr
            subst hwr2
            have hr32 := HD.out.rl
            have hq32 := HD.out.le
            clear HST0
            obtain ⟨r2, hr2⟩ : ∃ r2, r + v1 = r2 := ⟨_, rfl⟩
            have S1 : IntKind.u64.wrap ((r : Int) + (v1 : Int)) = (r2 : Int) := by rw [← Int.natCast_add, hr2]; exact u64_in _ (by omega)
            by_cases hqB : 4294967296 ≤ q0
            · have hqI : (4294967296 : Int) ≤ (q0 : Int) := by omega
              obtain ⟨qm0, hqm0⟩ : ∃ qm0, q0 - 1 = qm0 := ⟨_, rfl⟩
              have S2 : IntKind.u64.wrap ((q0 : Int) - 1) = (qm0 : Int) := by rw [show (q0 : Int) - 1 = (qm0 : Int) by omega]; exact u64_in _ (by omega)
              have hm := ds_more HD.out h0B h1B hd0 HN0.out (.inl hqB)
              have hsum : qm0 * v1 + r2 = u := by
                have h9 := HD.out.sum
                rw [← hqm0, ← hr2, Nat.sub_mul, Nat.one_mul]
                have : 1 * v1 ≤ q0 * v1 := Nat.mul_le_mul_right _ hm.2
                omega
              by_cases hbr : 4294967296 ≤ r2
              · have hbI : (4294967296 : Int) ≤ (r2 : Int) := by omega
                have HQ0 : Hid (qm0 = (u * 4294967296 + n0) / (v1 * 4294967296 + v0)) := Lib.hid (ds_break hsum (by rw [← hqm0]; exact hm.1) (by omega) h0B h1B hbr)
                clear hm hsum hbr hr2 hqB
                try clear hp1 hm1 hm2 hm3 hgt
                have hL := ds_left (v := v1 * 4294967296 + v0) (by omega) HN0.out hd0 HQ0.out
                obtain ⟨u2, hu2⟩ : ∃ x, x = u * 4294967296 + n0 - qm0 * v := ⟨_, rfl⟩
                rw [← HV.out] at hL
                have hult : u2 < v := by rw [hu2, hL.2.2.1]; exact hL.2.2.2
                obtain ⟨Y1, Y2, Y3, D1, D2, D3, D4⟩ := sub_chain u n0 qm0 v hL.2.1 (by rw [← hu2]; omega) u2 hu2
                have hW := ds_whole (q1 := q1) (q0 := qm0) (u := u) (by omega) HVV.out HPP.out HU.out HN10.out HE1.out ⟨u2, by rw [hu2]; have := hL.2.1; omega, hult⟩
                rw [← hu2] at hW
                have hqb0 : qm0 < 4294967296 := hL.1
                obtain ⟨z1, hz1'⟩ : ∃ z, q1 * 4294967296 = z := ⟨_, rfl⟩
                have L1 : IntKind.u64.wrap ((q1 : Int) * 4294967296) = (z1 : Int) := by rw [show (q1 : Int) * 4294967296 = (z1 : Int) by omega]; exact u64_in _ (by omega)
                obtain ⟨z2, hz2'⟩ : ∃ z, z1 + qm0 = z := ⟨_, rfl⟩
                have L2 : IntKind.u64.wrap ((z1 : Int) + (qm0 : Int)) = (z2 : Int) := by rw [← Int.natCast_add, hz2']; exact u64_in _ (by omega)
                obtain ⟨z3, hz3'⟩ : ∃ z, u2 / p = z := ⟨_, rfl⟩
                have L3 : (u2 : Int) / (p : Int) = (z3 : Int) := by rw [← Int.natCast_ediv, hz3']
                rw [hz1', hz2', hz3'] at hW
                obtain rfl : z2 = Q := hW.1.trans HQQ.out
                obtain rfl : z3 = R := hW.2.trans HRR.out
                clear hW hL hu2 hult hz1' hz2' hz3'
                go_wp2_with fail
                go_ret2
                exact ⟨rfl, Below.refl _ _⟩
              · have hbI : ¬ (4294967296 : Int) ≤ (r2 : Int) := by omega
                have HD2 : Hid (Ds u v1 v0 n0 qm0 r2) := Lib.hid ⟨hsum, by rw [← hqm0]; exact hm.1, by omega, by omega⟩
                clear hsum hr2
                go_wp2_with fail
                go_roundw
                case rel => exact ⟨qm0, r2, rfl, rfl, HD2, by trivial⟩
                case measure => simp [intOf]; omega
            · have hqI : ¬ (4294967296 : Int) ≤ (q0 : Int) := by omega
              have hp1 := mul_in (M := 0) (show q0 < 4294967296 by omega) h0B
              obtain ⟨m1, hm1⟩ : ∃ m, q0 * v0 = m := ⟨_, rfl⟩
              have S3 : IntKind.u64.wrap ((q0 : Int) * (v0 : Int)) = (m1 : Int) := by rw [← Int.natCast_mul, hm1]; exact u64_in _ (by omega)
              obtain ⟨m2, hm2⟩ : ∃ m, 4294967296 * r = m := ⟨_, rfl⟩
              have S4 : IntKind.u64.wrap (4294967296 * (r : Int)) = (m2 : Int) := by rw [show 4294967296 * (r : Int) = (m2 : Int) by omega]; exact u64_in _ (by omega)
              obtain ⟨m3, hm3⟩ : ∃ m, m2 + n0 = m := ⟨_, rfl⟩
              have S5 : IntKind.u64.wrap ((m2 : Int) + (n0 : Int)) = (m3 : Int) := by rw [← Int.natCast_add, hm3]; exact u64_in _ (by omega)
              by_cases hgt : m3 < m1
              · have hgI : (m3 : Int) < (m1 : Int) := by omega
                obtain ⟨qm0, hqm0⟩ : ∃ qm0, q0 - 1 = qm0 := ⟨_, rfl⟩
                have hm := ds_more HD.out h0B h1B hd0 HN0.out (.inr (by omega))
                have S2 : IntKind.u64.wrap ((q0 : Int) - 1) = (qm0 : Int) := by rw [show (q0 : Int) - 1 = (qm0 : Int) by omega]; exact u64_in _ (by omega)
                have hsum : qm0 * v1 + r2 = u := by
                  have h9 := HD.out.sum
                  rw [← hqm0, ← hr2, Nat.sub_mul, Nat.one_mul]
                  have : 1 * v1 ≤ q0 * v1 := Nat.mul_le_mul_right _ hm.2
                  omega
                by_cases hbr : 4294967296 ≤ r2
                · have hbI : (4294967296 : Int) ≤ (r2 : Int) := by omega
                  have HQ0 : Hid (qm0 = (u * 4294967296 + n0) / (v1 * 4294967296 + v0)) := Lib.hid (ds_break hsum (by rw [← hqm0]; exact hm.1) (by omega) h0B h1B hbr)
                  clear hm hsum hbr hr2 hqB
                  try clear hp1 hm1 hm2 hm3 hgt
                  have hL := ds_left (v := v1 * 4294967296 + v0) (by omega) HN0.out hd0 HQ0.out
                  obtain ⟨u2, hu2⟩ : ∃ x, x = u * 4294967296 + n0 - qm0 * v := ⟨_, rfl⟩
                  rw [← HV.out] at hL
                  have hult : u2 < v := by rw [hu2, hL.2.2.1]; exact hL.2.2.2
                  obtain ⟨Y1, Y2, Y3, D1, D2, D3, D4⟩ := sub_chain u n0 qm0 v hL.2.1 (by rw [← hu2]; omega) u2 hu2
                  have hW := ds_whole (q1 := q1) (q0 := qm0) (u := u) (by omega) HVV.out HPP.out HU.out HN10.out HE1.out ⟨u2, by rw [hu2]; have := hL.2.1; omega, hult⟩
                  rw [← hu2] at hW
                  have hqb0 : qm0 < 4294967296 := hL.1
                  obtain ⟨z1, hz1'⟩ : ∃ z, q1 * 4294967296 = z := ⟨_, rfl⟩
                  have L1 : IntKind.u64.wrap ((q1 : Int) * 4294967296) = (z1 : Int) := by rw [show (q1 : Int) * 4294967296 = (z1 : Int) by omega]; exact u64_in _ (by omega)
                  obtain ⟨z2, hz2'⟩ : ∃ z, z1 + qm0 = z := ⟨_, rfl⟩
                  have L2 : IntKind.u64.wrap ((z1 : Int) + (qm0 : Int)) = (z2 : Int) := by rw [← Int.natCast_add, hz2']; exact u64_in _ (by omega)
                  obtain ⟨z3, hz3'⟩ : ∃ z, u2 / p = z := ⟨_, rfl⟩
                  have L3 : (u2 : Int) / (p : Int) = (z3 : Int) := by rw [← Int.natCast_ediv, hz3']
                  rw [hz1', hz2', hz3'] at hW
                  obtain rfl : z2 = Q := hW.1.trans HQQ.out
                  obtain rfl : z3 = R := hW.2.trans HRR.out
                  clear hW hL hu2 hult hz1' hz2' hz3'
                  go_wp2_with fail
                  go_ret2
                  exact ⟨rfl, Below.refl _ _⟩
                · have hbI : ¬ (4294967296 : Int) ≤ (r2 : Int) := by omega
                  have HD2 : Hid (Ds u v1 v0 n0 qm0 r2) := Lib.hid ⟨hsum, by rw [← hqm0]; exact hm.1, by omega, by omega⟩
                  clear hsum hr2
                  go_wp2_with fail
                  go_roundw
                  case rel => exact ⟨qm0, r2, rfl, rfl, HD2, by trivial⟩
                  case measure => simp [intOf]; omega
              · have hgI : ¬ (m3 : Int) < (m1 : Int) := by omega
                have HQ0 : Hid (q0 = (u * 4294967296 + n0) / (v1 * 4294967296 + v0)) := Lib.hid (ds_stop HD.out h0B h1B (by omega))
                clear hp1 hm1 hm2 hm3 hqB hgt S1 hr2
                have hL := ds_left (v := v1 * 4294967296 + v0) (by omega) HN0.out hd0 HQ0.out
                obtain ⟨u2, hu2⟩ : ∃ x, x = u * 4294967296 + n0 - q0 * v := ⟨_, rfl⟩
                rw [← HV.out] at hL
                have hult : u2 < v := by rw [hu2, hL.2.2.1]; exact hL.2.2.2
                obtain ⟨Y1, Y2, Y3, D1, D2, D3, D4⟩ := sub_chain u n0 q0 v hL.2.1 (by rw [← hu2]; omega) u2 hu2
                have hW := ds_whole (q1 := q1) (q0 := q0) (u := u) (by omega) HVV.out HPP.out HU.out HN10.out HE1.out ⟨u2, by rw [hu2]; have := hL.2.1; omega, hult⟩
                rw [← hu2] at hW
                have hqb0 : q0 < 4294967296 := hL.1
                obtain ⟨z1, hz1'⟩ : ∃ z, q1 * 4294967296 = z := ⟨_, rfl⟩
                have L1 : IntKind.u64.wrap ((q1 : Int) * 4294967296) = (z1 : Int) := by rw [show (q1 : Int) * 4294967296 = (z1 : Int) by omega]; exact u64_in _ (by omega)
                obtain ⟨z2, hz2'⟩ : ∃ z, z1 + q0 = z := ⟨_, rfl⟩
                have L2 : IntKind.u64.wrap ((z1 : Int) + (q0 : Int)) = (z2 : Int) := by rw [← Int.natCast_add, hz2']; exact u64_in _ (by omega)
                obtain ⟨z3, hz3'⟩ : ∃ z, u2 / p = z := ⟨_, rfl⟩
                have L3 : (u2 : Int) / (p : Int) = (z3 : Int) := by rw [← Int.natCast_ediv, hz3']
                rw [hz1', hz2', hz3'] at hW
                obtain rfl : z2 = Q := hW.1.trans HQQ.out
                obtain rfl : z3 = R := hW.2.trans HRR.out
                clear hW hL hu2 hult hz1' hz2' hz3'
                go_wp2_with fail
                go_ret2
                exact ⟨rfl, Below.refl _ _⟩
end Go.Proofs.Ytejophbmdgohdaa.Rw
set_option linter.unusedSimpArgs false
set_option linter.unusedVariables false
namespace Go.Proofs.Ytejophbmdgohdaa.Rm
open Go
def In64 (x : Int) : Prop := -9223372036854775808 ≤ x ∧ x ≤ 9223372036854775807
def fitB (n : Int) : Bool := decide (-1125899906842624 ≤ n) && decide (n ≤ 1125899906842624)
theorem fit_iff (n : Int) : fitB n = true ↔ -1125899906842624 ≤ n ∧ n ≤ 1125899906842624 := by simp [fitB]
theorem fit_no (n : Int) : fitB n = false ↔ n < -1125899906842624 ∨ 1125899906842624 < n := by
  rw [← Bool.not_eq_true, fit_iff]
  omega
def awB (q r d : Nat) (mode : Int) : Bool := if mode = 2 then decide (0 < r) else if mode = 3 then (decide (d - r < r) || (decide (r = d - r) && decide (q % 2 = 1))) else false
def raQ (n num den mode : Int) : Nat := n.natAbs * num.natAbs / den.natAbs + (if awB (n.natAbs * num.natAbs / den.natAbs) (n.natAbs * num.natAbs % den.natAbs) den.natAbs mode then 1 else 0)
def neB (n num den : Int) : Bool := (decide (n < 0) != decide (num < 0)) != decide (den < 0)
def raE (n num den mode : Int) : Int :=
  if fitB n = false then 13 else if mode ≠ 1 ∧ mode ≠ 2 ∧ mode ≠ 3 then 1 else if den = 0 then 14 else if 1125899906842624 < raQ n num den mode then 13 else 0
def raV (n num den mode : Int) : Int := if raE n num den mode = 0 then (if neB n num den then -((raQ n num den mode : Nat) : Int) else ((raQ n num den mode : Nat) : Int)) else 0
theorem ra_no {n num den mode : Int} (h : raE n num den mode ≠ 0) : raV n num den mode = 0 := if_neg h
theorem ra_fit {n num den mode : Int} (h : fitB n = false) : raE n num den mode = 13 := if_pos h
theorem ra_mode {n num den mode : Int} (h : fitB n = true) (hm : mode ≠ 1 ∧ mode ≠ 2 ∧ mode ≠ 3) : raE n num den mode = 1 := by unfold raE; rw [if_neg (by rw [h]; decide), if_pos hm]
theorem ra_zero {n num den mode : Int} (h : fitB n = true) (hm : ¬ (mode ≠ 1 ∧ mode ≠ 2 ∧ mode ≠ 3)) (hd : den = 0) : raE n num den mode = 14 := by unfold raE; rw [if_neg (by rw [h]; decide), if_neg hm, if_pos hd]
theorem ra_big {n num den mode : Int} (h : fitB n = true) (hm : ¬ (mode ≠ 1 ∧ mode ≠ 2 ∧ mode ≠ 3)) (hd : den ≠ 0) (hq : 1125899906842624 < raQ n num den mode) : raE n num den mode = 13 := by unfold raE; rw [if_neg (by rw [h]; decide), if_neg hm, if_neg hd, if_pos hq]
theorem ra_ok {n num den mode : Int} (h : fitB n = true) (hm : ¬ (mode ≠ 1 ∧ mode ≠ 2 ∧ mode ≠ 3)) (hd : den ≠ 0) (hq : raQ n num den mode ≤ 1125899906842624) : raE n num den mode = 0 ∧ raV n num den mode = if neB n num den then -((raQ n num den mode : Nat) : Int) else ((raQ n num den mode : Nat) : Int) := by
  have e : raE n num den mode = 0 := by unfold raE; rw [if_neg (by rw [h]; decide), if_neg hm, if_neg hd, if_neg (by omega)]
  exact ⟨e, if_pos e⟩
end Go.Proofs.Ytejophbmdgohdaa.Rm
set_option linter.unusedSimpArgs false
set_option linter.unusedVariables false
namespace Go.Proofs.Ytejophbmdgohdaa.Rw
open Go.RowKit
open Go.Proofs.Ytejophbmdgohdaa.Rm
theorem fits16 (n : Int) (w : World) : Calls Try.prog 37 #[.int .i64 n] w fun e w' => e = .returned (.bool (fitB n)) ∧ w' = w := by
  go_enter Try.func37, Try.ntmps37
  by_cases h1 : -1125899906842624 ≤ n
  · by_cases h2 : n ≤ 1125899906842624
    · have e : fitB n = true := (fit_iff n).2 ⟨h1, h2⟩
      have d1 : decide (-1125899906842624 ≤ n) = true := decide_eq_true h1
      have d2 : decide (n ≤ 1125899906842624) = true := decide_eq_true h2
      rw [e]
      go_wp2_with fail
      go_ret
      exact ⟨rfl, rfl⟩
    · have e : fitB n = false := (fit_no n).2 (by omega)
      have d1 : decide (-1125899906842624 ≤ n) = true := decide_eq_true h1
      have d2 : decide (n ≤ 1125899906842624) = false := decide_eq_false h2
      rw [e]
      go_wp2_with fail
      go_ret
      exact ⟨rfl, rfl⟩
  · have e : fitB n = false := (fit_no n).2 (by omega)
    have d1 : decide (-1125899906842624 ≤ n) = false := decide_eq_false h1
    rw [e]
    go_wp2_with fail
    go_ret
    exact ⟨rfl, rfl⟩
theorem size29 (n : Int) (k : Nat) (w : World) (hn : In64 n) (hk : n.natAbs = k) : Calls Try.prog 38 #[.int .i64 n] w fun e w' => e = .returned (.int .u64 (k : Int)) ∧ w' = w := by
  unfold In64 at hn
  go_enter Try.func38, Try.ntmps38
  by_cases h0 : n < 0
  · obtain ⟨a, ha⟩ : ∃ a, IntKind.u64.wrap n = a := ⟨_, rfl⟩
    have W2 : IntKind.u64.wrap (-a) = (k : Int) := by rw [← ha, IntKind.wrap_u64, IntKind.wrap_u64]; omega
    go_wp2_with fail
    go_ret
    exact ⟨rfl, rfl⟩
  · have W1 : IntKind.u64.wrap n = (k : Int) := by rw [IntKind.wrap_u64]; omega
    go_wp2_with fail
    go_ret
    exact ⟨rfl, rfl⟩
theorem away32 (q r d : Nat) (mode : Int) (w : World) (hq : q < 18446744073709551616) (hr : r < d) (hd : d < 18446744073709551616) : Calls Try.prog 41 #[.int .u64 (q : Int), .int .u64 (r : Int), .int .u64 (d : Int), .int .i64 mode] w fun e w' => e = .returned (.bool (awB q r d mode)) ∧ w' = w := by
  obtain ⟨bo, hbo⟩ : ∃ b, awB q r d mode = b := ⟨_, rfl⟩
  have HBO := Lib.hid hbo
  rw [hbo]
  clear hbo
  go_enter Try.func41, Try.ntmps41
  by_cases h2 : mode = 2
  · obtain rfl : decide (0 < r) = bo := by rw [← HBO.out]; unfold awB; rw [if_pos h2]
    subst h2
    have d1 : decide ((0 : Int) < (r : Int)) = decide (0 < r) := by congr 1; simp
    go_wp2_with fail
    go_ret
    exact ⟨rfl, rfl⟩
  · have e2 : (mode == 2) = false := by simp [h2]
    by_cases h3 : mode = 3
    · have HB3 : Hid (bo = (decide (d - r < r) || (decide (r = d - r) && decide (q % 2 = 1)))) := Lib.hid (by rw [← HBO.out]; unfold awB; rw [if_neg h2, if_pos h3])
      subst h3
      obtain ⟨t, ht⟩ : ∃ t, d - r = t := ⟨_, rfl⟩
      rw [ht] at HB3
      have W1 : IntKind.u64.wrap ((d : Int) - (r : Int)) = (t : Int) := by rw [show (d : Int) - (r : Int) = (t : Int) by omega]; exact u64_in _ (by omega)
      clear HBO ht h2
      by_cases g1 : t < r
      · have gI : (t : Int) < (r : Int) := by omega
        have gd : decide ((t : Int) < (r : Int)) = true := decide_eq_true gI
        obtain rfl : bo = true := by rw [HB3.out, decide_eq_true g1, Bool.true_or]
        go_wp2_with fail
        go_ret
        exact ⟨rfl, rfl⟩
      · have gI : ¬ (t : Int) < (r : Int) := by omega
        have gd : decide ((t : Int) < (r : Int)) = false := decide_eq_false gI
        by_cases g2 : r = t
        · have HB4 : Hid (bo = decide (q % 2 = 1)) := Lib.hid (by rw [HB3.out, decide_eq_false g1, decide_eq_true g2, Bool.false_or, Bool.true_and])
          subst g2
          have ge : ((r : Int) == (r : Int)) = true := by simp
          rcases (by omega : q % 2 = 0 ∨ q % 2 = 1) with g3 | g3
          · obtain rfl : bo = false := by rw [HB4.out, g3]; rfl
            have V3 : (q : Int).tmod 2 = 0 := by rw [Int.tmod_eq_emod_of_nonneg (by omega)]; omega
            have V3' : (q : Int) % 2 = 0 := by omega
            clear g3
            go_wp2_with fail
            go_ret
            exact ⟨rfl, rfl⟩
          · obtain rfl : bo = true := by rw [HB4.out, g3]; rfl
            have V3 : (q : Int).tmod 2 = 1 := by rw [Int.tmod_eq_emod_of_nonneg (by omega)]; omega
            have V3' : (q : Int) % 2 = 1 := by omega
            clear g3
            go_wp2_with fail
            go_ret
            exact ⟨rfl, rfl⟩
        · obtain rfl : bo = false := by rw [HB3.out, decide_eq_false g1, decide_eq_false g2, Bool.false_or, Bool.false_and]
          have ge : ((r : Int) == (t : Int)) = false := by simp; omega
          go_wp2_with fail
          go_ret
          exact ⟨rfl, rfl⟩
    · have e3 : (mode == 3) = false := by simp [h3]
      obtain rfl : bo = false := by rw [← HBO.out]; unfold awB; rw [if_neg h2, if_neg h3]
      go_wp2_with fail
      go_ret
      exact ⟨rfl, rfl⟩
end Go.Proofs.Ytejophbmdgohdaa.Rw
set_option linter.unusedSimpArgs false
set_option linter.unusedVariables false
namespace Go.Proofs.Ytejophbmdgohdaa.Rw
open Go.RowKit
open Go.Proofs.Ytejophbmdgohdaa.Rm
theorem q_big {hi lo d : Nat} (hd : 0 < d) (h : d ≤ hi) : 18446744073709551616 ≤ (hi * 18446744073709551616 + lo) / d := by
  rw [Nat.le_div_iff_mul_le hd, Nat.mul_comm]
  exact Nat.le_trans (Nat.mul_le_mul_right _ h) (Nat.le_add_right _ _)
theorem q_small {hi lo d : Nat} (h : hi < d) (hlo : lo < 18446744073709551616) : (hi * 18446744073709551616 + lo) / d < 18446744073709551616 := by
  rw [Nat.div_lt_iff_lt_mul (Nat.lt_of_le_of_lt (Nat.zero_le _) h), Nat.mul_comm _ d]
  have h1 : hi * 18446744073709551616 + lo < hi * 18446744073709551616 + 18446744073709551616 := Nat.add_lt_add_left hlo _
  rw [← Nat.succ_mul] at h1
  exact Nat.lt_of_lt_of_le h1 (Nat.mul_le_mul_right _ h)
set_option maxHeartbeats 8000000 in
set_option maxRecDepth 100000 in
theorem ratio18 (n num den mode E V : Int) (w : World) (hn : In64 n) (hnum : In64 num) (hden : In64 den) (hE : raE n num den mode = E) (hV : raV n num den mode = V) : Calls Try.prog 29 #[.int .i64 n, .int .i64 num, .int .i64 den, .int .i64 mode] w fun e w' => e = .returned (.tuple #[.int .i64 V, .int .i64 E]) ∧ Below w.heap.size w w' := by
  have HE := Lib.hid hE
  have HV := Lib.hid hV
  have HN := Lib.hid hn
  have HNUM := Lib.hid hnum
  have HDEN := Lib.hid hden
  clear hE hV hn hnum hden
  go_enter Try.func29, Try.ntmps29
  go_wp2_with fail
  refine (fits16 n w).mono ?_
  rintro e w1 ⟨rfl, hw⟩
  rw [hw]
  clear hw
  rcases fot (fitB n) with hf | hf
  · obtain rfl : (13 : Int) = E := (ra_fit hf).symm.trans HE.out
    obtain rfl : (0 : Int) = V := (ra_no (by rw [HE.out]; decide)).symm.trans HV.out
    rw [hf]
    go_wp2_with fail
    go_ret2
    exact ⟨rfl, Below.refl _ _⟩
  · rw [hf]
    by_cases hm : mode ≠ 1 ∧ mode ≠ 2 ∧ mode ≠ 3
    · obtain rfl : (1 : Int) = E := (ra_mode hf hm).symm.trans HE.out
      obtain rfl : (0 : Int) = V := (ra_no (by rw [HE.out]; decide)).symm.trans HV.out
      have m1 : (mode != 1) = true := by simp [hm.1]
      have m2 : (mode != 2) = true := by simp [hm.2.1]
      have m3 : (mode != 3) = true := by simp [hm.2.2]
      go_wp2_with fail
      go_ret2
      exact ⟨rfl, Below.refl _ _⟩
    · have HF := Lib.hid hf
      have hm' : mode = 1 ∨ mode = 2 ∨ mode = 3 := by omega
      clear hm hf
      rcases hm' with rfl | rfl | rfl
      · as_aux_lemma =>
          by_cases hd : den = 0
          · obtain rfl : (14 : Int) = E := (ra_zero HF.out (by omega) hd).symm.trans HE.out
            obtain rfl : (0 : Int) = V := (ra_no (by rw [HE.out]; decide)).symm.trans HV.out
            have hd1 : (den == 0) = true := by simp [hd]
            go_wp2_with fail
            go_ret2
            exact ⟨rfl, Below.refl _ _⟩
          · have hd1 : (den == 0) = false := by simp [hd]
            have HD0 := Lib.hid hd
            obtain ⟨d, hdd⟩ : ∃ d, den.natAbs = d := ⟨_, rfl⟩
            obtain ⟨a, ha⟩ : ∃ a, n.natAbs = a := ⟨_, rfl⟩
            obtain ⟨b, hb⟩ : ∃ b, num.natAbs = b := ⟨_, rfl⟩
            have hdpos : 0 < d := by omega
            have hd64 : d < 18446744073709551616 := by have := HDEN.out; unfold In64 at this; omega
            have hbl : b < 18446744073709551616 := by have := HNUM.out; unfold In64 at this; omega
            have hal : a ≤ 1125899906842624 := by have := (fit_iff n).1 HF.out; omega
            have HDD := Lib.hid hdd
            have HA := Lib.hid ha
            have HBB := Lib.hid hb
            clear hd hdd ha hb
            go_wp2_with fail
            refine (size29 den d w HDEN.out HDD.out).mono ?_
            rintro e w2 ⟨rfl, hw⟩
            rw [hw]
            clear hw hd1
            go_wp2_with fail
            refine (size29 n a w HN.out HA.out).mono ?_
            rintro e w2 ⟨rfl, hw⟩
            rw [hw]
            clear hw
            go_wp2_with fail
            refine (size29 num b w HNUM.out HBB.out).mono ?_
            rintro e w2 ⟨rfl, hw⟩
            rw [hw]
            clear hw
            go_wp2_with fail
            refine (Any.bits_Mul64 Try.laysMul a b (by omega) hbl w).mono ?_
            rintro e w2 ⟨rfl, hw⟩
            rw [hw]
            clear hw
            obtain ⟨hi, hhi⟩ : ∃ x, a * b / 18446744073709551616 = x := ⟨_, rfl⟩
            obtain ⟨lo, hlo⟩ : ∃ x, a * b % 18446744073709551616 = x := ⟨_, rfl⟩
            obtain ⟨Q, hQ⟩ : ∃ x, a * b / d = x := ⟨_, rfl⟩
            obtain ⟨R, hR⟩ : ∃ x, a * b % d = x := ⟨_, rfl⟩
            have hlo64 : lo < 18446744073709551616 := by rw [← hlo]; exact Nat.mod_lt _ (by decide)
            have hab : hi * 18446744073709551616 + lo = a * b := by rw [← hhi, ← hlo, Nat.mul_comm]; exact Nat.div_add_mod _ _
            have HQ : Hid ((hi * 18446744073709551616 + lo) / d = Q) := Lib.hid (by rw [hab]; exact hQ)
            have HR : Hid ((hi * 18446744073709551616 + lo) % d = R) := Lib.hid (by rw [hab]; exact hR)
            have hRd : R < d := by rw [← hR]; exact Nat.mod_lt _ hdpos
            rw [hhi, hlo]
            by_cases hbig : d ≤ hi
            · have hbI : (d : Int) ≤ (hi : Int) := by omega
              have hQb : 18446744073709551616 ≤ Q := by rw [← HQ.out]; exact q_big hdpos hbig
              obtain rfl : (13 : Int) = E := (ra_big HF.out (by omega) HD0.out (by unfold raQ; rw [HA.out, HBB.out, HDD.out, hQ]; omega)).symm.trans HE.out
              obtain rfl : (0 : Int) = V := (ra_no (by rw [HE.out]; decide)).symm.trans HV.out
              clear hhi hlo hQ hR hab hQb hlo64
              go_wp2_with fail
              go_ret2
              exact ⟨rfl, Below.refl _ _⟩
            · have hbI : ¬ (d : Int) ≤ (hi : Int) := by omega
              have hQ64 : Q < 18446744073709551616 := by rw [← HQ.out]; exact q_small (by omega) hlo64
              have HQA : Hid (n.natAbs * num.natAbs / den.natAbs = Q ∧ n.natAbs * num.natAbs % den.natAbs = R) := Lib.hid (by rw [HA.out, HBB.out, HDD.out]; exact ⟨hQ, hR⟩)
              clear hhi hlo hQ hR hab
              go_wp2_with fail
              refine (div31 hi lo d Q R w (by omega) hlo64 hd64 HQ.out HR.out).mono ?_
              rintro e w2 ⟨rfl, hb⟩
              have HB := Lib.hid hb
              clear hb hbI hbig
              by_cases hqm : 1125899906842624 < Q
              · have hqI : (1125899906842624 : Int) < (Q : Int) := by omega
                obtain rfl : (13 : Int) = E := (ra_big HF.out (by omega) HD0.out (by unfold raQ; rw [HQA.out.1]; omega)).symm.trans HE.out
                obtain rfl : (0 : Int) = V := (ra_no (by rw [HE.out]; decide)).symm.trans HV.out
                go_wp2_with fail
                go_ret2
                exact ⟨rfl, HB.out⟩
              · have hqI : ¬ (1125899906842624 : Int) < (Q : Int) := by omega
                have W1 : IntKind.i64.wrap (Q : Int) = (Q : Int) := IntWalk.i64_in _ (by omega)
                go_wp2_with fail
                clear hqI
                refine (away32 Q R d _ w2 hQ64 hRd hd64).mono ?_
                rintro e w3 ⟨rfl, hw⟩
                rw [hw]
                clear hw
                have HAW : Hid (∀ m : Int, raQ n num den m = Q + (if awB Q R d m then 1 else 0)) := Lib.hid (fun m => by unfold raQ; rw [HQA.out.1, HQA.out.2, HDD.out])
                rcases fot (awB Q R d 1) with haw | haw
                · rw [haw]
                  have HRQ : Hid (raQ n num den 1 = Q) := Lib.hid (by rw [HAW.out, haw]; rfl)
                  clear haw
                  go_wp2_with fail
                  refine (fits16 (Q : Int) w2).mono ?_
                  rintro e w4 ⟨rfl, hw⟩
                  rw [hw]
                  clear hw
                  rcases fot (fitB (Q : Int)) with hg | hg
                  · obtain rfl : (13 : Int) = E := (ra_big HF.out (by omega) HD0.out (by rw [HRQ.out]; have := (fit_no _).1 hg; omega)).symm.trans HE.out
                    obtain rfl : (0 : Int) = V := (ra_no (by rw [HE.out]; decide)).symm.trans HV.out
                    rw [hg]
                    go_wp2_with fail
                    go_ret2
                    exact ⟨rfl, HB.out⟩
                  · have hok := ra_ok (mode := 1) HF.out (by omega) HD0.out (by rw [HRQ.out]; have := (fit_iff _).1 hg; omega)
                    obtain rfl : (0 : Int) = E := hok.1.symm.trans HE.out
                    have hv := hok.2.symm.trans HV.out
                    rw [HRQ.out] at hv
                    have W9 : IntKind.i64.wrap (-(Q : Int)) = -(Q : Int) := IntWalk.i64_in _ (by omega)
                    rw [hg]
                    clear hok hg
                    rcases fot (decide (n < 0)) with d1 | d1 <;> rcases fot (decide (num < 0)) with d2 | d2 <;> rcases fot (decide (den < 0)) with d3 | d3
                    all_goals
                      first
                      | (have hs : neB n num den = false := (by unfold neB; rw [d1, d2, d3]; rfl)
                         rw [hs] at hv
                         obtain rfl : (Q : Int) = V := hv
                         clear hs
                         go_wp2_with fail
                         go_ret2
                         exact ⟨rfl, HB.out⟩)
                      | (have hs : neB n num den = true := (by unfold neB; rw [d1, d2, d3]; rfl)
                         rw [hs] at hv
                         obtain rfl : -(Q : Int) = V := hv
                         clear hs
                         go_wp2_with fail
                         go_ret2
                         exact ⟨rfl, HB.out⟩)
                · rw [haw]
                  have HRQ : Hid (raQ n num den 1 = Q + 1) := Lib.hid (by rw [HAW.out, haw]; rfl)
                  obtain ⟨Q1, hQ1⟩ : ∃ x, Q + 1 = x := ⟨_, rfl⟩
                  rw [hQ1] at HRQ
                  have W2 : IntKind.i64.wrap ((Q : Int) + 1) = (Q1 : Int) := by rw [IntWalk.i64_in _ (by omega)]; omega
                  have hQ1b : Q1 ≤ 1125899906842625 := by omega
                  clear hQ1
                  clear haw
                  go_wp2_with fail
                  refine (fits16 (Q1 : Int) w2).mono ?_
                  rintro e w4 ⟨rfl, hw⟩
                  rw [hw]
                  clear hw
                  rcases fot (fitB (Q1 : Int)) with hg | hg
                  · obtain rfl : (13 : Int) = E := (ra_big HF.out (by omega) HD0.out (by rw [HRQ.out]; have := (fit_no _).1 hg; omega)).symm.trans HE.out
                    obtain rfl : (0 : Int) = V := (ra_no (by rw [HE.out]; decide)).symm.trans HV.out
                    rw [hg]
                    go_wp2_with fail
                    go_ret2
                    exact ⟨rfl, HB.out⟩
                  · have hok := ra_ok (mode := 1) HF.out (by omega) HD0.out (by rw [HRQ.out]; have := (fit_iff _).1 hg; omega)
                    obtain rfl : (0 : Int) = E := hok.1.symm.trans HE.out
                    have hv := hok.2.symm.trans HV.out
                    rw [HRQ.out] at hv
                    have W9 : IntKind.i64.wrap (-(Q1 : Int)) = -(Q1 : Int) := IntWalk.i64_in _ (by omega)
                    rw [hg]
                    clear hok hg
                    rcases fot (decide (n < 0)) with d1 | d1 <;> rcases fot (decide (num < 0)) with d2 | d2 <;> rcases fot (decide (den < 0)) with d3 | d3
                    all_goals
                      first
                      | (have hs : neB n num den = false := (by unfold neB; rw [d1, d2, d3]; rfl)
                         rw [hs] at hv
                         obtain rfl : (Q1 : Int) = V := hv
                         clear hs
                         go_wp2_with fail
                         go_ret2
                         exact ⟨rfl, HB.out⟩)
                      | (have hs : neB n num den = true := (by unfold neB; rw [d1, d2, d3]; rfl)
                         rw [hs] at hv
                         obtain rfl : -(Q1 : Int) = V := hv
                         clear hs
                         go_wp2_with fail
                         go_ret2
                         exact ⟨rfl, HB.out⟩)
      · as_aux_lemma =>
          by_cases hd : den = 0
          · obtain rfl : (14 : Int) = E := (ra_zero HF.out (by omega) hd).symm.trans HE.out
            obtain rfl : (0 : Int) = V := (ra_no (by rw [HE.out]; decide)).symm.trans HV.out
            have hd1 : (den == 0) = true := by simp [hd]
            go_wp2_with fail
            go_ret2
            exact ⟨rfl, Below.refl _ _⟩
          · have hd1 : (den == 0) = false := by simp [hd]
            have HD0 := Lib.hid hd
            obtain ⟨d, hdd⟩ : ∃ d, den.natAbs = d := ⟨_, rfl⟩
            obtain ⟨a, ha⟩ : ∃ a, n.natAbs = a := ⟨_, rfl⟩
            obtain ⟨b, hb⟩ : ∃ b, num.natAbs = b := ⟨_, rfl⟩
            have hdpos : 0 < d := by omega
            have hd64 : d < 18446744073709551616 := by have := HDEN.out; unfold In64 at this; omega
            have hbl : b < 18446744073709551616 := by have := HNUM.out; unfold In64 at this; omega
            have hal : a ≤ 1125899906842624 := by have := (fit_iff n).1 HF.out; omega
            have HDD := Lib.hid hdd
            have HA := Lib.hid ha
            have HBB := Lib.hid hb
            clear hd hdd ha hb
            go_wp2_with fail
            refine (size29 den d w HDEN.out HDD.out).mono ?_
            rintro e w2 ⟨rfl, hw⟩
            rw [hw]
            clear hw hd1
            go_wp2_with fail
            refine (size29 n a w HN.out HA.out).mono ?_
            rintro e w2 ⟨rfl, hw⟩
            rw [hw]
            clear hw
            go_wp2_with fail
            refine (size29 num b w HNUM.out HBB.out).mono ?_
            rintro e w2 ⟨rfl, hw⟩
            rw [hw]
            clear hw
            go_wp2_with fail
            refine (Any.bits_Mul64 Try.laysMul a b (by omega) hbl w).mono ?_
            rintro e w2 ⟨rfl, hw⟩
            rw [hw]
            clear hw
            obtain ⟨hi, hhi⟩ : ∃ x, a * b / 18446744073709551616 = x := ⟨_, rfl⟩
            obtain ⟨lo, hlo⟩ : ∃ x, a * b % 18446744073709551616 = x := ⟨_, rfl⟩
            obtain ⟨Q, hQ⟩ : ∃ x, a * b / d = x := ⟨_, rfl⟩
            obtain ⟨R, hR⟩ : ∃ x, a * b % d = x := ⟨_, rfl⟩
            have hlo64 : lo < 18446744073709551616 := by rw [← hlo]; exact Nat.mod_lt _ (by decide)
            have hab : hi * 18446744073709551616 + lo = a * b := by rw [← hhi, ← hlo, Nat.mul_comm]; exact Nat.div_add_mod _ _
            have HQ : Hid ((hi * 18446744073709551616 + lo) / d = Q) := Lib.hid (by rw [hab]; exact hQ)
            have HR : Hid ((hi * 18446744073709551616 + lo) % d = R) := Lib.hid (by rw [hab]; exact hR)
            have hRd : R < d := by rw [← hR]; exact Nat.mod_lt _ hdpos
            rw [hhi, hlo]
            by_cases hbig : d ≤ hi
            · have hbI : (d : Int) ≤ (hi : Int) := by omega
              have hQb : 18446744073709551616 ≤ Q := by rw [← HQ.out]; exact q_big hdpos hbig
              obtain rfl : (13 : Int) = E := (ra_big HF.out (by omega) HD0.out (by unfold raQ; rw [HA.out, HBB.out, HDD.out, hQ]; omega)).symm.trans HE.out
              obtain rfl : (0 : Int) = V := (ra_no (by rw [HE.out]; decide)).symm.trans HV.out
              clear hhi hlo hQ hR hab hQb hlo64
              go_wp2_with fail
              go_ret2
              exact ⟨rfl, Below.refl _ _⟩
            · have hbI : ¬ (d : Int) ≤ (hi : Int) := by omega
              have hQ64 : Q < 18446744073709551616 := by rw [← HQ.out]; exact q_small (by omega) hlo64
              have HQA : Hid (n.natAbs * num.natAbs / den.natAbs = Q ∧ n.natAbs * num.natAbs % den.natAbs = R) := Lib.hid (by rw [HA.out, HBB.out, HDD.out]; exact ⟨hQ, hR⟩)
              clear hhi hlo hQ hR hab
              go_wp2_with fail
              refine (div31 hi lo d Q R w (by omega) hlo64 hd64 HQ.out HR.out).mono ?_
              rintro e w2 ⟨rfl, hb⟩
              have HB := Lib.hid hb
              clear hb hbI hbig
              by_cases hqm : 1125899906842624 < Q
              · have hqI : (1125899906842624 : Int) < (Q : Int) := by omega
                obtain rfl : (13 : Int) = E := (ra_big HF.out (by omega) HD0.out (by unfold raQ; rw [HQA.out.1]; omega)).symm.trans HE.out
                obtain rfl : (0 : Int) = V := (ra_no (by rw [HE.out]; decide)).symm.trans HV.out
                go_wp2_with fail
                go_ret2
                exact ⟨rfl, HB.out⟩
              · have hqI : ¬ (1125899906842624 : Int) < (Q : Int) := by omega
                have W1 : IntKind.i64.wrap (Q : Int) = (Q : Int) := IntWalk.i64_in _ (by omega)
                go_wp2_with fail
                clear hqI
                refine (away32 Q R d _ w2 hQ64 hRd hd64).mono ?_
                rintro e w3 ⟨rfl, hw⟩
                rw [hw]
                clear hw
                have HAW : Hid (∀ m : Int, raQ n num den m = Q + (if awB Q R d m then 1 else 0)) := Lib.hid (fun m => by unfold raQ; rw [HQA.out.1, HQA.out.2, HDD.out])
                rcases fot (awB Q R d 2) with haw | haw
                · rw [haw]
                  have HRQ : Hid (raQ n num den 2 = Q) := Lib.hid (by rw [HAW.out, haw]; rfl)
                  clear haw
                  go_wp2_with fail
                  refine (fits16 (Q : Int) w2).mono ?_
                  rintro e w4 ⟨rfl, hw⟩
                  rw [hw]
                  clear hw
                  rcases fot (fitB (Q : Int)) with hg | hg
                  · obtain rfl : (13 : Int) = E := (ra_big HF.out (by omega) HD0.out (by rw [HRQ.out]; have := (fit_no _).1 hg; omega)).symm.trans HE.out
                    obtain rfl : (0 : Int) = V := (ra_no (by rw [HE.out]; decide)).symm.trans HV.out
                    rw [hg]
                    go_wp2_with fail
                    go_ret2
                    exact ⟨rfl, HB.out⟩
                  · have hok := ra_ok (mode := 2) HF.out (by omega) HD0.out (by rw [HRQ.out]; have := (fit_iff _).1 hg; omega)
                    obtain rfl : (0 : Int) = E := hok.1.symm.trans HE.out
                    have hv := hok.2.symm.trans HV.out
                    rw [HRQ.out] at hv
                    have W9 : IntKind.i64.wrap (-(Q : Int)) = -(Q : Int) := IntWalk.i64_in _ (by omega)
                    rw [hg]
                    clear hok hg
                    rcases fot (decide (n < 0)) with d1 | d1 <;> rcases fot (decide (num < 0)) with d2 | d2 <;> rcases fot (decide (den < 0)) with d3 | d3
                    all_goals
                      first
                      | (have hs : neB n num den = false := (by unfold neB; rw [d1, d2, d3]; rfl)
                         rw [hs] at hv
                         obtain rfl : (Q : Int) = V := hv
                         clear hs
                         go_wp2_with fail
                         go_ret2
                         exact ⟨rfl, HB.out⟩)
                      | (have hs : neB n num den = true := (by unfold neB; rw [d1, d2, d3]; rfl)
                         rw [hs] at hv
                         obtain rfl : -(Q : Int) = V := hv
                         clear hs
                         go_wp2_with fail
                         go_ret2
                         exact ⟨rfl, HB.out⟩)
                · rw [haw]
                  have HRQ : Hid (raQ n num den 2 = Q + 1) := Lib.hid (by rw [HAW.out, haw]; rfl)
                  obtain ⟨Q1, hQ1⟩ : ∃ x, Q + 1 = x := ⟨_, rfl⟩
                  rw [hQ1] at HRQ
                  have W2 : IntKind.i64.wrap ((Q : Int) + 1) = (Q1 : Int) := by rw [IntWalk.i64_in _ (by omega)]; omega
                  have hQ1b : Q1 ≤ 1125899906842625 := by omega
                  clear hQ1
                  clear haw
                  go_wp2_with fail
                  refine (fits16 (Q1 : Int) w2).mono ?_
                  rintro e w4 ⟨rfl, hw⟩
                  rw [hw]
                  clear hw
                  rcases fot (fitB (Q1 : Int)) with hg | hg
                  · obtain rfl : (13 : Int) = E := (ra_big HF.out (by omega) HD0.out (by rw [HRQ.out]; have := (fit_no _).1 hg; omega)).symm.trans HE.out
                    obtain rfl : (0 : Int) = V := (ra_no (by rw [HE.out]; decide)).symm.trans HV.out
                    rw [hg]
                    go_wp2_with fail
                    go_ret2
                    exact ⟨rfl, HB.out⟩
                  · have hok := ra_ok (mode := 2) HF.out (by omega) HD0.out (by rw [HRQ.out]; have := (fit_iff _).1 hg; omega)
                    obtain rfl : (0 : Int) = E := hok.1.symm.trans HE.out
                    have hv := hok.2.symm.trans HV.out
                    rw [HRQ.out] at hv
                    have W9 : IntKind.i64.wrap (-(Q1 : Int)) = -(Q1 : Int) := IntWalk.i64_in _ (by omega)
                    rw [hg]
                    clear hok hg
                    rcases fot (decide (n < 0)) with d1 | d1 <;> rcases fot (decide (num < 0)) with d2 | d2 <;> rcases fot (decide (den < 0)) with d3 | d3
                    all_goals
                      first
                      | (have hs : neB n num den = false := (by unfold neB; rw [d1, d2, d3]; rfl)
                         rw [hs] at hv
                         obtain rfl : (Q1 : Int) = V := hv
                         clear hs
                         go_wp2_with fail
                         go_ret2
                         exact ⟨rfl, HB.out⟩)
                      | (have hs : neB n num den = true := (by unfold neB; rw [d1, d2, d3]; rfl)
                         rw [hs] at hv
                         obtain rfl : -(Q1 : Int) = V := hv
                         clear hs
                         go_wp2_with fail
                         go_ret2
                         exact ⟨rfl, HB.out⟩)
      · as_aux_lemma =>
          by_cases hd : den = 0
          · obtain rfl : (14 : Int) = E := (ra_zero HF.out (by omega) hd).symm.trans HE.out
            obtain rfl : (0 : Int) = V := (ra_no (by rw [HE.out]; decide)).symm.trans HV.out
            have hd1 : (den == 0) = true := by simp [hd]
            go_wp2_with fail
            go_ret2
            exact ⟨rfl, Below.refl _ _⟩
          · have hd1 : (den == 0) = false := by simp [hd]
            have HD0 := Lib.hid hd
            obtain ⟨d, hdd⟩ : ∃ d, den.natAbs = d := ⟨_, rfl⟩
            obtain ⟨a, ha⟩ : ∃ a, n.natAbs = a := ⟨_, rfl⟩
            obtain ⟨b, hb⟩ : ∃ b, num.natAbs = b := ⟨_, rfl⟩
            have hdpos : 0 < d := by omega
            have hd64 : d < 18446744073709551616 := by have := HDEN.out; unfold In64 at this; omega
            have hbl : b < 18446744073709551616 := by have := HNUM.out; unfold In64 at this; omega
            have hal : a ≤ 1125899906842624 := by have := (fit_iff n).1 HF.out; omega
            have HDD := Lib.hid hdd
            have HA := Lib.hid ha
            have HBB := Lib.hid hb
            clear hd hdd ha hb
            go_wp2_with fail
            refine (size29 den d w HDEN.out HDD.out).mono ?_
            rintro e w2 ⟨rfl, hw⟩
            rw [hw]
            clear hw hd1
            go_wp2_with fail
            refine (size29 n a w HN.out HA.out).mono ?_
            rintro e w2 ⟨rfl, hw⟩
            rw [hw]
            clear hw
            go_wp2_with fail
            refine (size29 num b w HNUM.out HBB.out).mono ?_
            rintro e w2 ⟨rfl, hw⟩
            rw [hw]
            clear hw
            go_wp2_with fail
            refine (Any.bits_Mul64 Try.laysMul a b (by omega) hbl w).mono ?_
            rintro e w2 ⟨rfl, hw⟩
            rw [hw]
            clear hw
            obtain ⟨hi, hhi⟩ : ∃ x, a * b / 18446744073709551616 = x := ⟨_, rfl⟩
            obtain ⟨lo, hlo⟩ : ∃ x, a * b % 18446744073709551616 = x := ⟨_, rfl⟩
            obtain ⟨Q, hQ⟩ : ∃ x, a * b / d = x := ⟨_, rfl⟩
            obtain ⟨R, hR⟩ : ∃ x, a * b % d = x := ⟨_, rfl⟩
            have hlo64 : lo < 18446744073709551616 := by rw [← hlo]; exact Nat.mod_lt _ (by decide)
            have hab : hi * 18446744073709551616 + lo = a * b := by rw [← hhi, ← hlo, Nat.mul_comm]; exact Nat.div_add_mod _ _
            have HQ : Hid ((hi * 18446744073709551616 + lo) / d = Q) := Lib.hid (by rw [hab]; exact hQ)
            have HR : Hid ((hi * 18446744073709551616 + lo) % d = R) := Lib.hid (by rw [hab]; exact hR)
            have hRd : R < d := by rw [← hR]; exact Nat.mod_lt _ hdpos
            rw [hhi, hlo]
            by_cases hbig : d ≤ hi
            · have hbI : (d : Int) ≤ (hi : Int) := by omega
              have hQb : 18446744073709551616 ≤ Q := by rw [← HQ.out]; exact q_big hdpos hbig
              obtain rfl : (13 : Int) = E := (ra_big HF.out (by omega) HD0.out (by unfold raQ; rw [HA.out, HBB.out, HDD.out, hQ]; omega)).symm.trans HE.out
              obtain rfl : (0 : Int) = V := (ra_no (by rw [HE.out]; decide)).symm.trans HV.out
              clear hhi hlo hQ hR hab hQb hlo64
              go_wp2_with fail
              go_ret2
              exact ⟨rfl, Below.refl _ _⟩
            · have hbI : ¬ (d : Int) ≤ (hi : Int) := by omega
              have hQ64 : Q < 18446744073709551616 := by rw [← HQ.out]; exact q_small (by omega) hlo64
              have HQA : Hid (n.natAbs * num.natAbs / den.natAbs = Q ∧ n.natAbs * num.natAbs % den.natAbs = R) := Lib.hid (by rw [HA.out, HBB.out, HDD.out]; exact ⟨hQ, hR⟩)
              clear hhi hlo hQ hR hab
              go_wp2_with fail
              refine (div31 hi lo d Q R w (by omega) hlo64 hd64 HQ.out HR.out).mono ?_
              rintro e w2 ⟨rfl, hb⟩
              have HB := Lib.hid hb
              clear hb hbI hbig
              by_cases hqm : 1125899906842624 < Q
              · have hqI : (1125899906842624 : Int) < (Q : Int) := by omega
                obtain rfl : (13 : Int) = E := (ra_big HF.out (by omega) HD0.out (by unfold raQ; rw [HQA.out.1]; omega)).symm.trans HE.out
                obtain rfl : (0 : Int) = V := (ra_no (by rw [HE.out]; decide)).symm.trans HV.out
                go_wp2_with fail
                go_ret2
                exact ⟨rfl, HB.out⟩
              · have hqI : ¬ (1125899906842624 : Int) < (Q : Int) := by omega
                have W1 : IntKind.i64.wrap (Q : Int) = (Q : Int) := IntWalk.i64_in _ (by omega)
                go_wp2_with fail
                clear hqI
                refine (away32 Q R d _ w2 hQ64 hRd hd64).mono ?_
                rintro e w3 ⟨rfl, hw⟩
                rw [hw]
                clear hw
                have HAW : Hid (∀ m : Int, raQ n num den m = Q + (if awB Q R d m then 1 else 0)) := Lib.hid (fun m => by unfold raQ; rw [HQA.out.1, HQA.out.2, HDD.out])
                rcases fot (awB Q R d 3) with haw | haw
                · rw [haw]
                  have HRQ : Hid (raQ n num den 3 = Q) := Lib.hid (by rw [HAW.out, haw]; rfl)
                  clear haw
                  go_wp2_with fail
                  refine (fits16 (Q : Int) w2).mono ?_
                  rintro e w4 ⟨rfl, hw⟩
                  rw [hw]
                  clear hw
                  rcases fot (fitB (Q : Int)) with hg | hg
                  · obtain rfl : (13 : Int) = E := (ra_big HF.out (by omega) HD0.out (by rw [HRQ.out]; have := (fit_no _).1 hg; omega)).symm.trans HE.out
                    obtain rfl : (0 : Int) = V := (ra_no (by rw [HE.out]; decide)).symm.trans HV.out
                    rw [hg]
                    go_wp2_with fail
                    go_ret2
                    exact ⟨rfl, HB.out⟩
                  · have hok := ra_ok (mode := 3) HF.out (by omega) HD0.out (by rw [HRQ.out]; have := (fit_iff _).1 hg; omega)
                    obtain rfl : (0 : Int) = E := hok.1.symm.trans HE.out
                    have hv := hok.2.symm.trans HV.out
                    rw [HRQ.out] at hv
                    have W9 : IntKind.i64.wrap (-(Q : Int)) = -(Q : Int) := IntWalk.i64_in _ (by omega)
                    rw [hg]
                    clear hok hg
                    rcases fot (decide (n < 0)) with d1 | d1 <;> rcases fot (decide (num < 0)) with d2 | d2 <;> rcases fot (decide (den < 0)) with d3 | d3
                    all_goals
                      first
                      | (have hs : neB n num den = false := (by unfold neB; rw [d1, d2, d3]; rfl)
                         rw [hs] at hv
                         obtain rfl : (Q : Int) = V := hv
                         clear hs
                         go_wp2_with fail
                         go_ret2
                         exact ⟨rfl, HB.out⟩)
                      | (have hs : neB n num den = true := (by unfold neB; rw [d1, d2, d3]; rfl)
                         rw [hs] at hv
                         obtain rfl : -(Q : Int) = V := hv
                         clear hs
                         go_wp2_with fail
                         go_ret2
                         exact ⟨rfl, HB.out⟩)
                · rw [haw]
                  have HRQ : Hid (raQ n num den 3 = Q + 1) := Lib.hid (by rw [HAW.out, haw]; rfl)
                  obtain ⟨Q1, hQ1⟩ : ∃ x, Q + 1 = x := ⟨_, rfl⟩
                  rw [hQ1] at HRQ
                  have W2 : IntKind.i64.wrap ((Q : Int) + 1) = (Q1 : Int) := by rw [IntWalk.i64_in _ (by omega)]; omega
                  have hQ1b : Q1 ≤ 1125899906842625 := by omega
                  clear hQ1
                  clear haw
                  go_wp2_with fail
                  refine (fits16 (Q1 : Int) w2).mono ?_
                  rintro e w4 ⟨rfl, hw⟩
                  rw [hw]
                  clear hw
                  rcases fot (fitB (Q1 : Int)) with hg | hg
                  · obtain rfl : (13 : Int) = E := (ra_big HF.out (by omega) HD0.out (by rw [HRQ.out]; have := (fit_no _).1 hg; omega)).symm.trans HE.out
                    obtain rfl : (0 : Int) = V := (ra_no (by rw [HE.out]; decide)).symm.trans HV.out
                    rw [hg]
                    go_wp2_with fail
                    go_ret2
                    exact ⟨rfl, HB.out⟩
                  · have hok := ra_ok (mode := 3) HF.out (by omega) HD0.out (by rw [HRQ.out]; have := (fit_iff _).1 hg; omega)
                    obtain rfl : (0 : Int) = E := hok.1.symm.trans HE.out
                    have hv := hok.2.symm.trans HV.out
                    rw [HRQ.out] at hv
                    have W9 : IntKind.i64.wrap (-(Q1 : Int)) = -(Q1 : Int) := IntWalk.i64_in _ (by omega)
                    rw [hg]
                    clear hok hg
                    rcases fot (decide (n < 0)) with d1 | d1 <;> rcases fot (decide (num < 0)) with d2 | d2 <;> rcases fot (decide (den < 0)) with d3 | d3
                    all_goals
                      first
                      | (have hs : neB n num den = false := (by unfold neB; rw [d1, d2, d3]; rfl)
                         rw [hs] at hv
                         obtain rfl : (Q1 : Int) = V := hv
                         clear hs
                         go_wp2_with fail
                         go_ret2
                         exact ⟨rfl, HB.out⟩)
                      | (have hs : neB n num den = true := (by unfold neB; rw [d1, d2, d3]; rfl)
                         rw [hs] at hv
                         obtain rfl : -(Q1 : Int) = V := hv
                         clear hs
                         go_wp2_with fail
                         go_ret2
                         exact ⟨rfl, HB.out⟩)
end Go.Proofs.Ytejophbmdgohdaa.Rw
