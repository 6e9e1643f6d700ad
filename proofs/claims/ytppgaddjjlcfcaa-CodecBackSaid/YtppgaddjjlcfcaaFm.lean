/- The frame at an offset: plain mathematics. No condition. -/
import Derived.Test.YtppgaddjjlcfcaaTx
import Derived.Test.YtppgaddjjlcfcaaSu
set_option linter.unusedSimpArgs false
set_option linter.unusedVariables false
namespace Go.Proofs.Ytppgaddjjlcfcaa.Mt
open Go
/-- four bytes from place a on, as a number, the greatest first; k of them -/
def be (zs : List Int) (a : Nat) : Nat → Nat
  | 0 => 0
  | k + 1 => be zs a k * 256 + (iat zs (a + k)).toNat
theorem be_lt {zs : List Int} (hz : ∀ k, 0 ≤ iat zs k ∧ iat zs k ≤ 255) (a : Nat) : ∀ k, be zs a k < 256 ^ k := by
  intro k
  induction k with
  | zero => simp [be]
  | succ k ih =>
    have := hz (a + k)
    rw [be, Nat.pow_succ]
    have h1 : (iat zs (a + k)).toNat ≤ 255 := by omega
    generalize 256 ^ k = p at *
    omega
/-- the error of a frame at t; its payload; where it ends -/
def frE (zs : List Int) (n : Nat) (t : Int) : Int :=
  if t < 0 ∨ (n : Int) < t then 2 else if t = (n : Int) then 7 else if teE zs n (t + 1) ≠ 0 then teE zs n (t + 1) else
    if (n : Int) - teN zs n (t + 1) < 4 then 7 else if be zs (teN zs n (t + 1)).toNat 4 ≠ crc (sub zs t.toNat ((teN zs n (t + 1)).toNat - t.toNat)) then 8 else 0
def frK (zs : List Int) (n : Nat) (t : Int) : Int := if frE zs n t = 0 then iat zs t.toNat else 0
def frP (zs : List Int) (n : Nat) (t : Int) : List Int := if frE zs n t = 0 then teL zs n (t + 1) else []
def frN (zs : List Int) (n : Nat) (t : Int) : Int := if frE zs n t = 0 then teN zs n (t + 1) + 4 else 0
theorem fr_range {zs : List Int} {n : Nat} {t : Int} (h : t < 0 ∨ (n : Int) < t) : frE zs n t = 2 := if_pos h
theorem fr_end {zs : List Int} {n : Nat} : frE zs n (n : Int) = 7 := by unfold frE; rw [if_neg (by omega), if_pos rfl]
theorem fr_text {zs : List Int} {n a : Nat} (h : a < n) (he : teE zs n ((a : Int) + 1) ≠ 0) : frE zs n (a : Int) = teE zs n ((a : Int) + 1) := by unfold frE; rw [if_neg (by omega), if_neg (by omega), if_pos he]
theorem fr_short {zs : List Int} {n a x : Nat} (h : a < n) (he : teE zs n ((a : Int) + 1) = 0) (hx : teN zs n ((a : Int) + 1) = (x : Int)) (h4 : (n : Int) - (x : Int) < 4) : frE zs n (a : Int) = 7 := by
  unfold frE
  rw [if_neg (by omega), if_neg (by omega), if_neg (fun h2 => h2 he), hx, if_pos h4]
theorem fr_sum {zs : List Int} {n a x : Nat} (h : a < n) (he : teE zs n ((a : Int) + 1) = 0) (hx : teN zs n ((a : Int) + 1) = (x : Int)) (h4 : ¬ (n : Int) - (x : Int) < 4) (hs : be zs x 4 ≠ crc (sub zs a (x - a))) : frE zs n (a : Int) = 8 := by
  unfold frE
  rw [if_neg (by omega), if_neg (by omega), if_neg (fun h2 => h2 he), hx, if_neg h4]
  simp only [Int.toNat_natCast]
  rw [if_pos hs]
theorem fr_ok {zs : List Int} {n a x : Nat} (h : a < n) (he : teE zs n ((a : Int) + 1) = 0) (hx : teN zs n ((a : Int) + 1) = (x : Int)) (h4 : ¬ (n : Int) - (x : Int) < 4) (hs : be zs x 4 = crc (sub zs a (x - a))) : frE zs n (a : Int) = 0 ∧ frK zs n (a : Int) = iat zs a ∧ frP zs n (a : Int) = teL zs n ((a : Int) + 1) ∧ frN zs n (a : Int) = (x : Int) + 4 := by
  have e : frE zs n (a : Int) = 0 := by
    unfold frE
    rw [if_neg (by omega), if_neg (by omega), if_neg (fun h2 => h2 he), hx, if_neg h4]
    simp only [Int.toNat_natCast]
    rw [if_neg (fun h2 => h2 hs)]
  refine ⟨e, ?_, if_pos e, ?_⟩
  · unfold frK; rw [if_pos e]; rfl
  · unfold frN; rw [if_pos e, hx]
theorem fr_no {zs : List Int} {n : Nat} {t : Int} (h : frE zs n t ≠ 0) : frK zs n t = 0 ∧ frP zs n t = [] ∧ frN zs n t = 0 := ⟨if_neg h, if_neg h, if_neg h⟩
/-- a string that is decoded ends within the bytes -/
theorem te_bound {zs : List Int} {n a : Nat} (h : teE zs n (a : Int) = 0) : ∃ x : Nat, teN zs n (a : Int) = (x : Int) ∧ x ≤ n ∧ a < x := by
  by_cases h0 : nuE zs n (a : Int) = 0
  · obtain ⟨nx, hnx, h1, h2⟩ := nuN_in h0
    have hgt : a < nx := by
      rcases nu_cases zs n (a : Int) with h3 | ⟨b, k, hb, g1, g2, g3, g4, g5⟩
      · exact absurd h0 h3
      · have hab : a = b := by omega
        subst hab
        have := (nu_ok g1 g2 g3 g4 g5).2.2
        omega
    by_cases h3 : nuV zs n (a : Int) < 0
    · rw [te_neg h0 h3] at h; cases h
    · by_cases h4 : 65536 < nuV zs n (a : Int)
      · rw [te_long h0 h3 h4] at h; cases h
      · by_cases h5 : (n : Int) - nuN zs n (a : Int) < nuV zs n (a : Int)
        · rw [te_short h0 h3 h4 h5] at h; cases h
        · have h6 := (te_ok h0 h3 h4 h5).2.1
          refine ⟨nx + (nuV zs n (a : Int)).toNat, ?_, ?_, ?_⟩
          · rw [h6, hnx]; omega
          · omega
          · omega
  · rw [te_num h0] at h
    exact absurd h h0
theorem or_i64 (a b : Nat) (ha : a < 9223372036854775808) (hb : b < 9223372036854775808) : bits .or .i64 (a : Int) (b : Int) = ((a ||| b : Nat) : Int) := by
  have hx : a ||| b < 2 ^ 63 := Nat.or_lt_two_pow (by omega) (by omega)
  have h1 : (BitVec.ofInt 64 (a : Int)).toNat = a := by rw [BitVec.ofInt_natCast, BitVec.toNat_ofNat]; exact Nat.mod_eq_of_lt (by omega)
  have h2 : (BitVec.ofInt 64 (b : Int)).toNat = b := by rw [BitVec.ofInt_natCast, BitVec.toNat_ofNat]; exact Nat.mod_eq_of_lt (by omega)
  show IntKind.i64.wrap ((BitVec.ofInt 64 (a : Int) ||| BitVec.ofInt 64 (b : Int)).toNat : Int) = _
  rw [BitVec.toNat_or, h1, h2]
  exact IntWalk.i64_in _ (by omega)
/-- one byte more of a sum -/
theorem or_byte {s c : Nat} (hs : s < 4294967296) (hc : c < 256) : bits .or .i64 ((s : Int) * 256) (c : Int) = ((s * 256 + c : Nat) : Int) := by
  have h := or_i64 (s * 256) c (by omega) (by omega)
  rw [Int.natCast_mul] at h
  have e : s * 256 ||| c = s * 256 + c := by
    have h1 := or_add (x := c) (y := s) (i := 8) hc
    rw [Nat.or_comm, show s * 256 = s * 2 ^ 8 from rfl, h1]
    omega
  rw [e] at h
  exact h
end Go.Proofs.Ytppgaddjjlcfcaa.Mt
