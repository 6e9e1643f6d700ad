/- The register of the checksum is linear; a burst of at most 32 bits is never lost: plain mathematics. No condition. -/
import Derived.Test.YtppgaddjjlcfcaaSu
set_option linter.unusedSimpArgs false
set_option linter.unusedVariables false
namespace Go.Proofs.Ytppgaddjjlcfcaa.Mt
open Go
theorem xor_par (a b : Nat) : (a ^^^ b) % 2 = (a % 2 + b % 2) % 2 := by
  have h := Nat.xor_mod_two_pow (a := a) (b := b) (n := 1)
  simp only [Nat.pow_one] at h
  rw [h]
  rcases Nat.mod_two_eq_zero_or_one a with h1 | h1 <;> rcases Nat.mod_two_eq_zero_or_one b with h2 | h2 <;> rw [h1, h2] <;> decide
theorem st_xor (a b : Nat) : st (a ^^^ b) = st a ^^^ st b := by
  have hp := xor_par a b
  have hd : (a ^^^ b) / 2 = a / 2 ^^^ b / 2 := Nat.xor_div_two
  unfold st
  rw [hd]
  rcases Nat.mod_two_eq_zero_or_one a with h1 | h1 <;> rcases Nat.mod_two_eq_zero_or_one b with h2 | h2 <;> rw [h1, h2] at hp
  · rw [hp, h1, h2, if_neg (by decide), if_neg (by decide), if_neg (by decide)]
  · rw [hp, h1, h2, if_pos (by decide), if_neg (by decide), if_pos rfl, Nat.xor_assoc]
  · rw [hp, h1, h2, if_pos (by decide), if_pos rfl, if_neg (by decide), Nat.xor_assoc, Nat.xor_comm (b / 2), Nat.xor_assoc]
  · rw [hp, h1, h2, if_neg (by decide), if_pos rfl]
    simp only [if_true]
    rw [Nat.xor_assoc, ← Nat.xor_assoc 2197175160, Nat.xor_comm 2197175160 (b / 2), Nat.xor_assoc (b / 2), Nat.xor_self, Nat.xor_zero]
theorem it_xor : ∀ j a b, it j (a ^^^ b) = it j a ^^^ it j b := by
  intro j
  induction j with
  | zero => intro a b; rfl
  | succ j ih => intro a b; rw [it, it, it, ih, st_xor]
theorem it_add : ∀ i j x, it (i + j) x = it i (it j x) := by
  intro i
  induction i with
  | zero => intro j x; rw [Nat.zero_add]; rfl
  | succ i ih => intro j x; rw [Nat.succ_add, it, it, ih]
theorem st_two (y : Nat) : st (2 * y) = y := by unfold st; rw [if_neg (by omega)]; omega
theorem it_shift : ∀ j y, it j (y * 2 ^ j) = y := by
  intro j
  induction j with
  | zero => intro y; rw [Nat.pow_zero, Nat.mul_one]; rfl
  | succ j ih =>
    intro y
    have e : y * 2 ^ (j + 1) = (2 * y) * 2 ^ j := by rw [Nat.pow_succ, Nat.mul_comm (2 ^ j) 2, ← Nat.mul_assoc, Nat.mul_comm y 2]
    rw [it, e, ih, st_two]
theorem st_ne {x : Nat} (h0 : x ≠ 0) (h : x < 4294967296) : st x ≠ 0 := by
  unfold st
  split
  · intro h1
    have h2 : x / 2 = 2197175160 := by
      have h3 := congrArg (· ^^^ 2197175160) h1
      simp only [Nat.xor_assoc, Nat.xor_self, Nat.xor_zero, Nat.zero_xor] at h3
      exact h3
    omega
  · omega
theorem st_lt {x : Nat} (h : x < 4294967296) : st x < 4294967296 := by
  unfold st
  split
  · exact Nat.xor_lt_two_pow (n := 32) (by omega) (by decide)
  · omega
theorem it_ne : ∀ j x, x ≠ 0 → x < 4294967296 → it j x ≠ 0 ∧ it j x < 4294967296 := by
  intro j
  induction j with
  | zero => intro x h0 h; exact ⟨h0, h⟩
  | succ j ih =>
    intro x h0 h
    obtain ⟨h1, h2⟩ := ih x h0 h
    rw [it]
    exact ⟨st_ne h1 h2, st_lt h2⟩
/-- a burst is never lost -/
theorem burst {n f m : Nat} (hm : m ≠ 0) (hm2 : m < 4294967296) (hf : f ≤ n) : it n (m * 2 ^ f) ≠ 0 := by
  have e : n = (n - f) + f := by omega
  rw [e, it_add, show n - f + f = n by omega] at *
  rw [it_shift]
  exact (it_ne _ _ hm hm2).1
/-- the bytes from place k on, d of them, as one number -/
def nm (zs : List Int) (k : Nat) : Nat → Nat
  | 0 => 0
  | d + 1 => (iat zs k).toNat + 256 * nm zs (k + 1) d
theorem low_xor {a b : Nat} (h : a < 256) : a + 256 * b = a ^^^ b * 2 ^ 8 := by
  have h1 := Nat.two_pow_add_eq_or_of_lt (i := 8) (b := a) h b
  have h2 : 2 ^ 8 * b ||| a = a ^^^ b * 2 ^ 8 := by
    apply Nat.eq_of_testBit_eq
    intro i
    rw [Nat.testBit_or, Nat.testBit_xor, Nat.mul_comm (2 ^ 8) b, Nat.testBit_mul_two_pow]
    by_cases hi : 8 ≤ i
    · have : a.testBit i = false := Nat.testBit_lt_two_pow (Nat.lt_of_lt_of_le (show a < 2 ^ 8 from h) (Nat.pow_le_pow_right (n := 2) (by decide) hi))
      rw [this]
      simp
    · have : decide (8 ≤ i) = false := decide_eq_false hi
      rw [this]
      simp
  rw [← h2, ← h1]
  omega
theorem feed {zs : List Int} (hz : ∀ k, 0 ≤ iat zs k ∧ iat zs k ≤ 255) : ∀ d k, it (8 * d) (sk zs k ^^^ nm zs k d) = sk zs (k + d) := by
  intro d
  induction d with
  | zero => intro k; rw [nm, Nat.xor_zero]; rfl
  | succ d ih =>
    intro k
    have hk := hz k
    rw [nm, low_xor (by omega), Nat.mul_succ, it_add, ← Nat.xor_assoc, it_xor 8, it_shift, ← sk, ih (k + 1)]
    congr 1
    omega
/-- two messages of one length that differ by a burst have different registers -/
theorem crc_ne {zs ys : List Int} {n f m : Nat} (hz : ∀ k, 0 ≤ iat zs k ∧ iat zs k ≤ 255) (hy : ∀ k, 0 ≤ iat ys k ∧ iat ys k ≤ 255) (hlz : zs.length = n) (hly : ys.length = n) (hm : m ≠ 0) (hm2 : m < 4294967296) (hf : f ≤ 8 * n) (hd : nm ys 0 n = nm zs 0 n ^^^ m * 2 ^ f) : crc ys ≠ crc zs := by
  have h1 := feed hz n 0
  have h2 := feed hy n 0
  rw [Nat.zero_add] at h1 h2
  have e0 : sk ys 0 = sk zs 0 := rfl
  rw [hd, e0, ← Nat.xor_assoc, it_xor, h1] at h2
  have hb := burst hm hm2 hf
  unfold crc
  rw [hlz, hly, ← h2]
  intro h
  apply hb
  have h3 := congrArg (· ^^^ 4294967295) h
  simp only [Nat.xor_assoc, Nat.xor_self, Nat.xor_zero] at h3
  have h4 := congrArg (sk zs n ^^^ ·) h3
  simp only [← Nat.xor_assoc, Nat.xor_self, Nat.zero_xor] at h4
  exact h4
end Go.Proofs.Ytppgaddjjlcfcaa.Mt
