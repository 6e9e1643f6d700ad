/- Powers of two, and a row of bytes that is written in place. Conditions: the exponent is below 8; the place lies within the row. -/
import Derived.Test.YtppgaddjjlcfcaaDn
import Derived.StillTailTactics
set_option linter.unusedSimpArgs false
set_option linter.unusedVariables false
namespace Go.Proofs.Ytppgaddjjlcfcaa.Wk
open Go.RowKit
open Go.Proofs.Ytppgaddjjlcfcaa.Mt
theorem xor_u8 (a b : Nat) (ha : a < 256) (hb : b < 256) : bits .xor .u8 (a : Int) (b : Int) = ((a ^^^ b : Nat) : Int) := by
  have hx : a ^^^ b < 2 ^ 8 := Nat.xor_lt_two_pow (by omega) (by omega)
  have h1 : (BitVec.ofInt 8 (a : Int)).toNat = a := by rw [BitVec.ofInt_natCast, BitVec.toNat_ofNat]; exact Nat.mod_eq_of_lt (by omega)
  have h2 : (BitVec.ofInt 8 (b : Int)).toNat = b := by rw [BitVec.ofInt_natCast, BitVec.toNat_ofNat]; exact Nat.mod_eq_of_lt (by omega)
  show IntKind.u8.wrap ((BitVec.ofInt 8 (a : Int) ^^^ BitVec.ofInt 8 (b : Int)).toNat : Int) = _
  rw [BitVec.toNat_xor, h1, h2]
  have e : ∀ n : Int, IntKind.u8.wrap n = n % 256 := fun n => by simp [IntKind.wrap, IntKind.bits, IntKind.signed]
  rw [e]
  omega
/-- block g holds the bytes ys -/
def Wr (w : World) (g n : Nat) (ys : List Int) : Prop := ∃ cur, Bx w g 5 cur ∧ ∀ i, i < n → cur[i]? = some (.int .u8 (iat ys i))
theorem Wr.lt {w : World} {g n : Nat} {ys : List Int} (h : Wr w g n ys) : g < w.heap.size := by obtain ⟨_, hb, _⟩ := h; exact hb.lt
theorem Wr.cell {w : World} {g n : Nat} {ys : List Int} (h : Wr w g n ys) {i : Nat} (hi : i < n) : w.cell? ⟨g, i, none⟩ = some (.int .u8 (iat ys i)) := by obtain ⟨_, hb, hc⟩ := h; rw [hb.cell, hc i hi]
theorem Wr.free {w : World} {g n : Nat} {ys : List Int} (h : Wr w g n ys) (i : Nat) : w.frozen? ⟨g, i, none⟩ = false := by obtain ⟨_, hb, _⟩ := h; exact hb.free i
theorem Wr.next {w w' : World} {g n : Nat} {ys : List Int} (h : Wr w g n ys) (hb : Below w.heap.size w w') : Wr w' g n ys := by obtain ⟨cur, hx, hc⟩ := h; exact ⟨cur, hx.next hb, hc⟩
theorem Wr.set {w : World} {g n p : Nat} {ys : List Int} {v : Int} (h : Wr w g n ys) (hl : ys.length = n) (hp : p < n) : Wr (w.setCell ⟨g, p, none⟩ (.int .u8 v)) g n (ys.set p v) := by
  obtain ⟨cur, hx, hc⟩ := h
  refine ⟨_, hx.set p _, fun i hi => ?_⟩
  have hps : p < cur.size := (Array.getElem?_eq_some_iff.1 (hc p hp)).1
  by_cases hi2 : p = i
  · subst hi2
    rw [Array.getElem?_setIfInBounds_self_of_lt hps, iat_set_self (by omega)]
  · rw [Array.getElem?_setIfInBounds_ne hi2, iat_set_ne hi2, hc i hi]
theorem Wr.rk {w : World} {g n : Nat} {ys : List Int} (h : Wr w g n ys) (hl : ys.length = n) (hn : n ≤ 1000000) (hb : ∀ k, 0 ≤ iat ys k ∧ iat ys k ≤ 255) : Rk .u8 w w.heap.size (some ⟨g, 0, none⟩) n ys := ⟨hl, by omega, fun _ => ⟨g, 0, rfl, h.lt, fun i hi => by rw [Nat.zero_add]; exact h.cell hi⟩, fun i => u8_w (hb i)⟩
theorem Ob.wr {base : Nat} {w : World} {v : Value} {l : List Int} (h : Ob base w v l) (h0 : 0 < l.length) : ∃ g c, v = .slice (some ⟨g, 0, none⟩) l.length c ∧ base ≤ g ∧ l.length ≤ c ∧ c ≤ 9223372036854775807 ∧ Wr w g l.length l := by
  rcases h.2 with ⟨hv, h1⟩ | ⟨g, cap, cur, hv, hb, hg, hcap, hmax, _, _⟩
  · omega
  · refine ⟨g, cap, hv, hb, hcap, by unfold maxLen at hmax; omega, cur, hg, fun i hi => ?_⟩
    have hx : Bx w g 5 cur := hg
    rw [← hx.cell]
    have := World.ownsRow.cells (g := g) h (by rw [hv]; rfl) i (.int .u8 (iat l i)) (vk_at .u8 l i hi)
    have e : (⟨g, 0, Option.none⟩ : Addr).add i = ⟨g, i, Option.none⟩ := by unfold Addr.add; by_cases h : i = 0 <;> simp [h]
    rw [e] at this
    exact this
theorem power32 (n p : Nat) (w : World) (hn : n < 8) (hp : p = 2 ^ n) : Calls Try.prog 32 #[.int .i64 (n : Int)] w fun e w' => e = .returned (.int .u8 (p : Int)) ∧ w' = w := by
  have HP := Lib.hid hp
  clear hp
  go_enter Try.func32, Try.ntmps32
  go_wp2_with fail
  go_loopw [3, 4] (fun xv iv wr => ∃ i x : Nat, i ≤ n ∧ iv = .int .i64 i ∧ xv = .int .u8 (x : Int) ∧ Hid (x = 2 ^ i) ∧ wr = w) (fun _ iv _ => n - (intOf iv).toNat)
  case atStart => exact ⟨0, 1, by omega, rfl, rfl, Lib.hid rfl, rfl⟩
  case round =>
    obtain ⟨i, x, hi, rfl, rfl, HX, rfl⟩ := hrel
    by_cases hlt : i < n
    · have hltI : (i : Int) < (n : Int) := by omega
      have W1 : IntKind.i64.wrap ((i : Int) + 1) = (i : Int) + 1 := IntWalk.i64_in _ (by omega)
      have h64 : x ≤ 64 := by rw [HX.out]; exact Nat.le_trans (Nat.pow_le_pow_right (by decide) (show i ≤ 6 by omega)) (by decide)
      obtain ⟨y, hy⟩ : ∃ y, 2 * x = y := ⟨_, rfl⟩
      have W2 : 2 * (x : Int) % 256 = (y : Int) := by omega
      have HY : Hid (y = 2 ^ (i + 1)) := Lib.hid (by rw [← hy, Nat.pow_succ, ← HX.out]; omega)
      clear h64 hy
      go_wp2_with fail
      go_roundw
      case rel => exact ⟨i + 1, y, by omega, by go_num, by rw [W2], HY, by trivial⟩
      case measure => simp [intOf]; omega
    · have hltI : ¬ (i : Int) < (n : Int) := by omega
      obtain rfl : x = p := by rw [HX.out, HP.out, show i = n by omega]
      clear HX HP
      go_wp2_with fail
      go_ret
      exact ⟨rfl, rfl⟩
end Go.Proofs.Ytppgaddjjlcfcaa.Wk
