/- Numbers in groups of seven bits: plain mathematics. No condition. -/
import Derived.Test.YtppgaddjjlcfcaaGd
import Derived.Laws.Bits64b
set_option linter.unusedSimpArgs false
set_option linter.unusedVariables false
namespace Go.Proofs.Ytppgaddjjlcfcaa.Mt
open Go
/-- the first of k bytes from place a on that is below 128 -/
def ft (zs : List Int) (a : Nat) : Nat → Option Nat
  | 0 => none
  | k + 1 => match ft zs a k with
    | some j => some j
    | none => if iat zs (a + k) < 128 then some k else none
def Hi (zs : List Int) (a k : Nat) : Prop := ∀ j, j < k → 128 ≤ iat zs (a + j)
theorem ft_none {zs : List Int} {a : Nat} : ∀ k, Hi zs a k → ft zs a k = none := by
  intro k
  induction k with
  | zero => intro _; rfl
  | succ k ih =>
    intro h
    have h1 := ih (fun j hj => h j (by omega))
    have h2 := h k (by omega)
    unfold ft
    rw [h1]
    simp only
    rw [if_neg (by omega)]
theorem ft_some {zs : List Int} {a k : Nat} (h : Hi zs a k) (hk : iat zs (a + k) < 128) : ∀ m, k < m → ft zs a m = some k := by
  intro m
  induction m with
  | zero => intro h; omega
  | succ m ih =>
    intro hm
    unfold ft
    rcases Nat.lt_or_ge k m with h1 | h1
    · rw [ih h1]
    · obtain rfl : k = m := by omega
      rw [ft_none k h]
      simp only
      rw [if_pos hk]
theorem ft_hi {zs : List Int} {a : Nat} : ∀ k, ft zs a k = none → Hi zs a k := by
  intro k
  induction k with
  | zero => intro _ j hj; omega
  | succ k ih =>
    intro h
    unfold ft at h
    cases h1 : ft zs a k with
    | some j => rw [h1] at h; cases h
    | none =>
      rw [h1] at h
      simp only at h
      split at h
      · cases h
      · next h2 =>
        intro j hj
        rcases Nat.lt_or_ge j k with h3 | h3
        · exact ih h1 j h3
        · obtain rfl : j = k := by omega
          omega
theorem ft_is {zs : List Int} {a : Nat} : ∀ m k, ft zs a m = some k → k < m ∧ Hi zs a k ∧ iat zs (a + k) < 128 := by
  intro m
  induction m with
  | zero => intro k h; cases h
  | succ m ih =>
    intro k h
    unfold ft at h
    cases h1 : ft zs a m with
    | some j =>
      rw [h1] at h
      injection h with h
      subst h
      have := ih j h1
      exact ⟨by omega, this.2⟩
    | none =>
      rw [h1] at h
      simp only at h
      split at h
      · next h2 =>
        injection h with h
        subst h
        exact ⟨by omega, ft_hi m h1, h2⟩
      · cases h
/-- the value of the first k groups -/
def dv (zs : List Int) (a : Nat) : Nat → Nat
  | 0 => 0
  | k + 1 => dv zs a k + (iat zs (a + k)).toNat % 128 * 2 ^ (7 * k)
theorem dv_lt (zs : List Int) (a : Nat) : ∀ k, dv zs a k < 2 ^ (7 * k) := by
  intro k
  induction k with
  | zero => simp [dv]
  | succ k ih =>
    have h1 : (iat zs (a + k)).toNat % 128 ≤ 127 := by omega
    have h2 := Nat.mul_le_mul_right (2 ^ (7 * k)) h1
    have h3 : 2 ^ (7 * (k + 1)) = 128 * 2 ^ (7 * k) := by rw [Nat.mul_add, Nat.pow_add, Nat.mul_comm]
    rw [dv, h3]
    omega
/-- a code read as a number with a sign -/
def uz (c : Nat) : Int := if c % 2 = 1 then -((c / 2 : Nat) : Int) - 1 else ((c / 2 : Nat) : Int)
def nuE (zs : List Int) (n : Nat) (at_ : Int) : Int := if at_ < 0 ∨ (n : Int) < at_ then 2 else match ft zs at_.toNat (min 10 (n - at_.toNat)) with
  | none => if n - at_.toNat < 10 then 7 else 5
  | some k => if (k = 9 ∧ 1 < iat zs (at_.toNat + k)) ∨ (0 < k ∧ iat zs (at_.toNat + k) = 0) then 5 else 0
def nuK (zs : List Int) (n : Nat) (at_ : Int) : Nat := match ft zs at_.toNat (min 10 (n - at_.toNat)) with
  | none => 0
  | some k => k + 1
def nuV (zs : List Int) (n : Nat) (at_ : Int) : Int := if nuE zs n at_ = 0 then uz (dv zs at_.toNat (nuK zs n at_)) else 0
def nuN (zs : List Int) (n : Nat) (at_ : Int) : Int := if nuE zs n at_ = 0 then at_ + nuK zs n at_ else 0
theorem nu_range {zs : List Int} {n : Nat} {t : Int} (h : t < 0 ∨ (n : Int) < t) : nuE zs n t = 2 := if_pos h
theorem nu_none {zs : List Int} {n a : Nat} (h : a ≤ n) (hh : Hi zs a (min 10 (n - a))) : nuE zs n (a : Int) = if n - a < 10 then 7 else 5 := by
  unfold nuE
  rw [if_neg (by omega)]
  simp only [Int.toNat_natCast]
  rw [ft_none _ hh]
theorem nu_short {zs : List Int} {n a : Nat} (h : a ≤ n) (h2 : n - a < 10) (hh : Hi zs a (n - a)) : nuE zs n (a : Int) = 7 := by
  rw [nu_none h (by rw [Nat.min_eq_right (by omega)]; exact hh), if_pos h2]
theorem nu_long {zs : List Int} {n a : Nat} (h : a + 10 ≤ n) (hh : Hi zs a 10) : nuE zs n (a : Int) = 5 := by
  rw [nu_none (by omega) (by rw [Nat.min_eq_left (by omega)]; exact hh), if_neg (by omega)]
theorem nu_bad {zs : List Int} {n a k : Nat} (h : a + k < n) (hk : k < 10) (hh : Hi zs a k) (hz : iat zs (a + k) < 128) (hb : (k = 9 ∧ 1 < iat zs (a + k)) ∨ (0 < k ∧ iat zs (a + k) = 0)) : nuE zs n (a : Int) = 5 := by
  unfold nuE
  rw [if_neg (by omega)]
  simp only [Int.toNat_natCast]
  rw [ft_some hh hz _ (by rw [Nat.lt_min]; omega)]
  simp only
  rw [if_pos hb]
theorem nu_ok {zs : List Int} {n a k : Nat} (h : a + k < n) (hk : k < 10) (hh : Hi zs a k) (hz : iat zs (a + k) < 128) (hb : ¬ ((k = 9 ∧ 1 < iat zs (a + k)) ∨ (0 < k ∧ iat zs (a + k) = 0))) : nuE zs n (a : Int) = 0 ∧ nuV zs n (a : Int) = uz (dv zs a (k + 1)) ∧ nuN zs n (a : Int) = ((a + k + 1 : Nat) : Int) := by
  have hf : ft zs a (min 10 (n - a)) = some k := ft_some hh hz _ (by rw [Nat.lt_min]; omega)
  have e : nuE zs n (a : Int) = 0 := by
    unfold nuE
    rw [if_neg (by omega)]
    simp only [Int.toNat_natCast]
    rw [hf]
    simp only
    rw [if_neg hb]
  have ek : nuK zs n (a : Int) = k + 1 := by
    unfold nuK
    simp only [Int.toNat_natCast]
    rw [hf]
  refine ⟨e, ?_, ?_⟩
  · unfold nuV
    rw [if_pos e, ek]
    simp only [Int.toNat_natCast]
  · unfold nuN
    rw [if_pos e, ek]
    omega
/-- the cases of a number -/
theorem nu_cases (zs : List Int) (n : Nat) (t : Int) : (nuE zs n t ≠ 0) ∨ ∃ a k : Nat, t = (a : Int) ∧ a + k < n ∧ k < 10 ∧ Hi zs a k ∧ iat zs (a + k) < 128 ∧ ¬ ((k = 9 ∧ 1 < iat zs (a + k)) ∨ (0 < k ∧ iat zs (a + k) = 0)) := by
  by_cases h0 : t < 0 ∨ (n : Int) < t
  · left; rw [nu_range h0]; decide
  · obtain ⟨a, rfl⟩ : ∃ a : Nat, t = (a : Int) := ⟨t.toNat, by omega⟩
    have han : a ≤ n := by omega
    cases hf : ft zs a (min 10 (n - a)) with
    | none =>
      left
      rw [nu_none han (ft_hi _ hf)]
      split <;> decide
    | some k =>
      obtain ⟨h1, h2, h3⟩ := ft_is _ _ hf
      rw [Nat.lt_min] at h1
      by_cases hb : (k = 9 ∧ 1 < iat zs (a + k)) ∨ (0 < k ∧ iat zs (a + k) = 0)
      · left
        rw [nu_bad (by omega) h1.1 h2 h3 hb]
        decide
      · right
        exact ⟨a, k, rfl, by omega, h1.1, h2, h3, hb⟩
theorem dv_top {zs : List Int} {a k : Nat} (hk : k < 10) (hz : iat zs (a + k) < 128) (h0 : 0 ≤ iat zs (a + k)) (hb : ¬ (k = 9 ∧ 1 < iat zs (a + k))) : dv zs a (k + 1) < 2 ^ 64 := by
  by_cases h9 : k = 9
  · subst h9
    have h1 := dv_lt zs a 9
    have h2 : (iat zs (a + 9)).toNat % 128 ≤ 1 := by omega
    have h3 := Nat.mul_le_mul_right (2 ^ (7 * 9)) h2
    rw [dv]
    have e1 : (2 : Nat) ^ (7 * 9) = 9223372036854775808 := by decide
    have e2 : (2 : Nat) ^ 64 = 18446744073709551616 := by decide
    rw [e1] at h1 h3 ⊢
    rw [e2]
    omega
  · have h1 := dv_lt zs a (k + 1)
    have : (2 : Nat) ^ (7 * (k + 1)) ≤ 2 ^ 63 := Nat.pow_le_pow_right (by decide) (by omega)
    have e1 : (2 : Nat) ^ 63 = 9223372036854775808 := by decide
    have e2 : (2 : Nat) ^ 64 = 18446744073709551616 := by decide
    omega
theorem or_add {x y i : Nat} (h : x < 2 ^ i) : x ||| y * 2 ^ i = x + y * 2 ^ i := by
  rw [Nat.or_comm, Nat.mul_comm, Nat.two_pow_add_eq_or_of_lt h y |>.symm, Nat.add_comm]
theorem and127 : ∀ n : Fin 256, bits BinOp.and IntKind.u8 (n.val : Int) 127 = ((n.val % 128 : Nat) : Int) := by decide +kernel
theorem and127' {x : Int} (h0 : 0 ≤ x) (h1 : x ≤ 255) : bits BinOp.and IntKind.u8 x 127 = ((x.toNat % 128 : Nat) : Int) := by
  have := and127 ⟨x.toNat, by omega⟩
  simp only at this
  rw [show ((x.toNat : Nat) : Int) = x by omega] at this
  exact this
theorem xor_i64 (x : Int) (hx : -9223372036854775808 ≤ x ∧ x ≤ 9223372036854775807) : bits BinOp.xor IntKind.i64 x 0 = x ∧ bits BinOp.xor IntKind.i64 x (-1) = -x - 1 := by
  have hw : ∀ y : BitVec 64, IntKind.i64.wrap (y.toNat : Int) = y.toInt := by
    intro y
    have := y.isLt
    rw [BitVec.toInt_eq_toNat_bmod]
    unfold IntKind.wrap
    simp [IntKind.signed, IntKind.bits, Int.bmod]
    omega
  have hi : (BitVec.ofInt 64 x).toInt = x := by
    rw [BitVec.toInt_ofInt]
    exact Int.bmod_eq_of_le (by omega) (by omega)
  constructor
  · show IntKind.i64.wrap ((BitVec.ofInt 64 x ^^^ BitVec.ofInt 64 0).toNat : Int) = _
    rw [show BitVec.ofInt 64 0 = 0#64 by decide, BitVec.xor_zero, hw, hi]
  · show IntKind.i64.wrap ((BitVec.ofInt 64 x ^^^ BitVec.ofInt 64 (-1)).toNat : Int) = _
    rw [show BitVec.ofInt 64 (-1) = BitVec.allOnes 64 by decide, BitVec.xor_allOnes, hw, BitVec.toInt_not]
    have h3 := hi
    rw [BitVec.toInt_eq_toNat_bmod] at h3
    have hl := (BitVec.ofInt 64 x).isLt
    generalize (BitVec.ofInt 64 x).toNat = y at h3 hl ⊢
    rw [← h3]
    simp only [Int.bmod]
    omega
end Go.Proofs.Ytppgaddjjlcfcaa.Mt
namespace Go.Proofs.Ytppgaddjjlcfcaa.Wk
open Go.RowKit
open Go.Proofs.Ytppgaddjjlcfcaa.Mt
/-- all that was there is as it was, but block g -/
structure Ex (g : Nat) (w w' : World) : Prop where
  os : w'.os = w.os
  tape : w'.tape = w.tape
  output : w'.output = w.output
  size : w.heap.size ≤ w'.heap.size
  block : ∀ k, k < w.heap.size → k ≠ g → w'.heap[k]? = w.heap[k]?
theorem Ex.of {g : Nat} {w w' : World} (h : Below w.heap.size w w') : Ex g w w' := ⟨h.os, h.tape, h.output, h.size, fun k hk _ => h.block k hk⟩
theorem Ex.refl (g : Nat) (w : World) : Ex g w w := Ex.of (Below.refl _ _)
theorem Ex.trans {g : Nat} {a b c : World} (h : Ex g a b) (k : Ex g b c) : Ex g a c := ⟨k.os.trans h.os, k.tape.trans h.tape, k.output.trans h.output, Nat.le_trans h.size k.size, fun i hi hg => (k.block i (Nat.lt_of_lt_of_le hi h.size) hg).trans (h.block i hi hg)⟩
theorem Ex.next {g : Nat} {a b c : World} (h : Ex g a b) (k : Below b.heap.size b c) : Ex g a c := h.trans (Ex.of k)
theorem Ex.set {g : Nat} {a w : World} (h : Ex g a w) (i : Nat) (u : Value) : Ex g a (w.setCell ⟨g, i, none⟩ u) := h.trans ⟨rfl, rfl, rfl, by simp [World.setCell], fun k hk hg => Below.heap_setCell _ _ _ _ hg⟩
theorem Ex.low {g B : Nat} {w w' : World} (h : Ex g w w') (hB : B ≤ g) (hg : g < w.heap.size) : Below B w w' := ⟨h.os, h.tape, h.output, h.size, fun k hk => h.block k (by omega) (by omega)⟩
theorem Ex.bx {g k : Nat} {w w' : World} {t : TypeId} {cs : Array Value} (h : Ex g w w') (hk : k ≠ g) (hb : Bx w k t cs) : Bx w' k t cs := (h.block k hb.lt hk).trans hb
theorem check_bad (g n c : Nat) (A : Option Addr) (t : Int) (w : World) (h : Bx w g 57 #[.slice A n c, .int .i64 t]) (hb : t < 0 ∨ (n : Int) < t) : Calls Try.prog 45 #[.pointer (some ⟨g, 0, none⟩)] w fun e w' => e = .panicked [fl 2] ∧ Below w.heap.size w w' := by
  have hlt := h.lt
  obtain ⟨c0, c1⟩ := h.cells2
  go_enter Try.func45, Try.ntmps45
  by_cases h0 : t < 0
  · have e0 : decide (t < 0) = true := decide_eq_true h0
    go_wp2_with fail
    go_quiet (fail)
    go_wp2_with fail
    refine (fail46 2 _).mono ?_
    rintro e w' ⟨rfl, rfl⟩
    exact ⟨rfl, rfl, below_drewN (Below.refl _ _) nq⟩
  · have e0 : decide (t < 0) = false := decide_eq_false h0
    have e1 : (n : Int) < t := by omega
    have e2 : decide ((n : Int) < t) = true := decide_eq_true e1
    go_wp2_with fail
    go_quiet (fail)
    go_wp2_with fail
    refine (fail46 2 _).mono ?_
    rintro e w' ⟨rfl, rfl⟩
    exact ⟨rfl, rfl, below_drewN (Below.refl _ _) nq⟩
theorem check_ok (g n c : Nat) (A : Option Addr) (t : Int) (w : World) (h : Bx w g 57 #[.slice A n c, .int .i64 t]) (hb : ¬ (t < 0 ∨ (n : Int) < t)) : Calls Try.prog 45 #[.pointer (some ⟨g, 0, none⟩)] w fun e w' => e = .returned (.tuple #[]) ∧ Below w.heap.size w w' := by
  have hlt := h.lt
  obtain ⟨c0, c1⟩ := h.cells2
  go_enter Try.func45, Try.ntmps45
  have h0 : ¬ t < 0 := fun h => hb (.inl h)
  have h1 : ¬ (n : Int) < t := fun h => hb (.inr h)
  have e0 : decide (t < 0) = false := decide_eq_false h0
  have e2 : decide ((n : Int) < t) = false := decide_eq_false h1
  clear hb
  go_wp2_with fail
  go_quiet (fail)
  go_wp2_with fail
  go_returns
  exact ⟨rfl, below_drewN (Below.refl _ _) nq⟩
end Go.Proofs.Ytppgaddjjlcfcaa.Wk
