/- The checksum of bytes, in the layer and in its reference. Conditions: the bytes read as the list; at most 100000 bytes. -/
import Derived.Test.YtppgaddjjlcfcaaCm
set_option linter.unusedSimpArgs false
set_option linter.unusedVariables false
namespace Go.Proofs.Ytppgaddjjlcfcaa.Mt
open Go
theorem wrap_u32 (n : Int) : IntKind.u32.wrap n = n % 4294967296 := by simp [IntKind.wrap, IntKind.bits, IntKind.signed]
theorem xor_u32 (a b : Nat) (ha : a < 4294967296) (hb : b < 4294967296) : bits .xor .u32 (a : Int) (b : Int) = ((a ^^^ b : Nat) : Int) := by
  have hx : a ^^^ b < 2 ^ 32 := Nat.xor_lt_two_pow (by omega) (by omega)
  have h1 : (BitVec.ofInt 32 (a : Int)).toNat = a := by rw [BitVec.ofInt_natCast, BitVec.toNat_ofNat]; exact Nat.mod_eq_of_lt (by omega)
  have h2 : (BitVec.ofInt 32 (b : Int)).toNat = b := by rw [BitVec.ofInt_natCast, BitVec.toNat_ofNat]; exact Nat.mod_eq_of_lt (by omega)
  show IntKind.u32.wrap ((BitVec.ofInt 32 (a : Int) ^^^ BitVec.ofInt 32 (b : Int)).toNat : Int) = _
  rw [BitVec.toNat_xor, h1, h2, wrap_u32]
  omega
theorem and_u32 (a b : Nat) (ha : a < 4294967296) (hb : b < 4294967296) : bits .and .u32 (a : Int) (b : Int) = ((a &&& b : Nat) : Int) := by
  have hx : a &&& b < 2 ^ 32 := Nat.and_lt_two_pow _ (by omega)
  have h1 : (BitVec.ofInt 32 (a : Int)).toNat = a := by rw [BitVec.ofInt_natCast, BitVec.toNat_ofNat]; exact Nat.mod_eq_of_lt (by omega)
  have h2 : (BitVec.ofInt 32 (b : Int)).toNat = b := by rw [BitVec.ofInt_natCast, BitVec.toNat_ofNat]; exact Nat.mod_eq_of_lt (by omega)
  show IntKind.u32.wrap ((BitVec.ofInt 32 (a : Int) &&& BitVec.ofInt 32 (b : Int)).toNat : Int) = _
  rw [BitVec.toNat_and, h1, h2, wrap_u32]
  omega
theorem not_u32 (x : Nat) (hx : x < 4294967296) : x ^^^ 4294967295 = 4294967295 - x := by
  have h : (BitVec.ofNat 32 x ^^^ BitVec.allOnes 32).toNat = 2 ^ 32 - 1 - (BitVec.ofNat 32 x).toNat := by rw [BitVec.xor_allOnes, BitVec.toNat_not]
  have hn : (BitVec.ofNat 32 x).toNat = x := by rw [BitVec.toNat_ofNat]; exact Nat.mod_eq_of_lt (by omega)
  rw [BitVec.toNat_xor, hn, BitVec.toNat_allOnes] at h
  exact h
/-- one step of the register; j steps; the register behind k bytes; the checksum -/
def st (x : Nat) : Nat := if x % 2 = 1 then (x / 2) ^^^ 2197175160 else x / 2
def it : Nat → Nat → Nat
  | 0, x => x
  | j + 1, x => st (it j x)
def sk (zs : List Int) : Nat → Nat
  | 0 => 4294967295
  | k + 1 => it 8 (sk zs k ^^^ (iat zs k).toNat)
def crc (zs : List Int) : Nat := sk zs zs.length ^^^ 4294967295
end Go.Proofs.Ytppgaddjjlcfcaa.Mt
namespace Go.Proofs.Ytppgaddjjlcfcaa.Wk
open Go.RowKit
open Go.Proofs.Ytppgaddjjlcfcaa.Mt
set_option maxHeartbeats 4000000 in
set_option maxRecDepth 100000 in
theorem sum24 (A : Option Addr) (n c : Nat) (zs : List Int) (w : World) (h : Rk .u8 w w.heap.size A n zs) (hn : n ≤ 100000) : Calls Try.prog 24 #[.slice A n c] w fun e w' => e = .returned (.int .i64 ((crc zs : Nat) : Int)) ∧ Below w.heap.size w w' := by
  have HZ := Lib.hid h
  have HLN := Lib.hid h.1
  clear h
  go_enter Try.func24, Try.ntmps24
  go_wp2_with fail
  go_loopw [3, 5, 6, 9, 17] (fun sv _ _ iv _ wr => ∃ i x : Nat, i ≤ n ∧ iv = .int .i64 i ∧ sv = .int .u32 (x : Int) ∧ x < 4294967296 ∧ Hid (x = sk zs i) ∧ wr = w) (fun sv _ _ iv _ _ => n - (intOf iv).toNat)
  case atStart => exact ⟨0, 4294967295, by omega, rfl, rfl, by decide, Lib.hid rfl, rfl⟩
  case round =>
    obtain ⟨i, x, hi, rfl, rfl, hx32, HX, rfl⟩ := hrel
    by_cases hlt : i < n
    · have hltI : (i : Int) < (n : Int) := by omega
      have W1 : IntKind.i64.wrap ((i : Int) + 1) = (i : Int) + 1 := IntWalk.i64_in _ (by omega)
      obtain ⟨b, off, rfl, hbB, hcell⟩ := HZ.out.get hlt
      have hb8 := u8_r (HZ.out.2.2.2 i)
      obtain ⟨a, ha⟩ : ∃ a : Nat, iat zs i = (a : Int) := ⟨(iat zs i).toNat, by omega⟩
      rw [ha] at hcell hb8
      have W3 : IntKind.u32.wrap (a : Int) = (a : Int) := by rw [wrap_u32]; omega
      obtain ⟨z, hz⟩ : ∃ z, x ^^^ a = z := ⟨_, rfl⟩
      have X0 : bits BinOp.xor IntKind.u32 (x : Int) (a : Int) = (z : Int) := by rw [xor_u32 x a hx32 (by omega), hz]
      have hz32 : z < 4294967296 := by rw [← hz]; exact Nat.xor_lt_two_pow (n := 32) hx32 (by omega)
      have HZZ : Hid (sk zs (i + 1) = it 8 z) := Lib.hid (by rw [sk, ← HX.out, ha, Int.toNat_natCast, hz])
      clear ha hz
      go_wp2_with fail
      go_loopw [3, 6, 17] (fun sv _ jv w2 => ∃ j y : Nat, j ≤ 8 ∧ jv = .int .i64 j ∧ sv = .int .u32 (y : Int) ∧ y < 4294967296 ∧ Hid (y = it j z) ∧ w2 = wr) (fun _ _ jv _ => 8 - (intOf jv).toNat)
      case atStart => exact ⟨0, z, by omega, rfl, rfl, hz32, Lib.hid rfl, rfl⟩
      case round =>
        obtain ⟨j, y, hj, rfl, rfl, hy, HY, rfl⟩ := hrel
        by_cases hj8 : j < 8
        · have hjI : (j : Int) < 8 := by omega
          have W2 : IntKind.i64.wrap ((j : Int) + 1) = (j : Int) + 1 := IntWalk.i64_in _ (by omega)
          obtain ⟨q, hq⟩ : ∃ q, y / 2 = q := ⟨_, rfl⟩
          have hq32 : q < 4294967296 := by omega
          have D1 : (y : Int) / 2 = (q : Int) := by omega
          rcases (by omega : y % 2 = 0 ∨ y % 2 = 1) with hr | hr
          · have M0 : bits BinOp.and IntKind.u32 (y : Int) 1 = 0 := by
              have := and_u32 y 1 hy (by decide)
              rw [Nat.and_one_is_mod, hr] at this
              exact this
            have HN : Hid (q = it (j + 1) z) := Lib.hid (by rw [it, ← HY.out]; unfold st; rw [hr, if_neg (by decide), hq])
            clear hq hr
            go_wp2_with fail
            go_roundw
            case rel => exact ⟨j + 1, q, by omega, by go_num, rfl, hq32, HN, by trivial⟩
            case measure => simp [intOf]; omega
          · have M0 : bits BinOp.and IntKind.u32 (y : Int) 1 = 1 := by
              have := and_u32 y 1 hy (by decide)
              rw [Nat.and_one_is_mod, hr] at this
              exact this
            obtain ⟨v, hv⟩ : ∃ v, q ^^^ 2197175160 = v := ⟨_, rfl⟩
            have X1 : bits BinOp.xor IntKind.u32 (q : Int) 2197175160 = (v : Int) := by
              have := xor_u32 q 2197175160 hq32 (by decide)
              rw [hv] at this
              exact this
            have hv32 : v < 4294967296 := by rw [← hv]; exact Nat.xor_lt_two_pow (n := 32) hq32 (by decide)
            have HN : Hid (v = it (j + 1) z) := Lib.hid (by rw [it, ← HY.out]; unfold st; rw [hr, if_pos rfl, hq, hv])
            clear hq hr hv
            go_wp2_with fail
            go_roundw
            case rel => exact ⟨j + 1, v, by omega, by go_num, rfl, hv32, HN, by trivial⟩
            case measure => simp [intOf]; omega
        · have hjI : ¬ (j : Int) < 8 := by omega
          obtain rfl : j = 8 := by omega
          have HN : Hid (y = sk zs (i + 1)) := Lib.hid (by rw [HY.out, ← HZZ.out])
          clear hjI
          go_wp2_with fail
          go_roundw
          case rel => exact ⟨i + 1, y, by omega, by go_num, rfl, hy, HN, by trivial⟩
          case measure => simp [intOf]; omega
    · have hltI : ¬ (i : Int) < (n : Int) := by omega
      obtain rfl : i = n := by omega
      obtain ⟨v, hv⟩ : ∃ v, x ^^^ 4294967295 = v := ⟨_, rfl⟩
      have X1 : bits BinOp.xor IntKind.u32 (x : Int) 4294967295 = (v : Int) := by
        have := xor_u32 x 4294967295 hx32 (by decide)
        rw [hv] at this
        exact this
      have hv32 : v < 4294967296 := by rw [← hv]; exact Nat.xor_lt_two_pow (n := 32) hx32 (by decide)
      have HC : Hid (crc zs = v) := Lib.hid (by unfold crc; rw [HLN.out, ← HX.out, hv])
      have W3 : IntKind.i64.wrap (v : Int) = (v : Int) := IntWalk.i64_in _ (by omega)
      have W4 : wrap64 (v : Int) = (v : Int) := by unfold wrap64; omega
      have U1 : bits BinOp.xor IntKind.u32 IntKind.u32.max (x : Int) = (v : Int) := by
        have := xor_u32 4294967295 x (by decide) hx32
        rw [Nat.xor_comm, hv] at this
        exact this
      clear hv
      go_wp2_with fail
      go_ret
      exact ⟨by rw [HC.out]; rfl, Below.refl _ _⟩
set_option maxHeartbeats 4000000 in
set_option maxRecDepth 100000 in
theorem sum25 (A : Option Addr) (n c : Nat) (zs : List Int) (w : World) (h : Rk .u8 w w.heap.size A n zs) (hn : n ≤ 100000) : Calls Try.prog 25 #[.slice A n c] w fun e w' => e = .returned (.int .i64 ((crc zs : Nat) : Int)) ∧ Below w.heap.size w w' := by
  have HZ := Lib.hid h
  have HLN := Lib.hid h.1
  clear h
  go_enter Try.func25, Try.ntmps25
  go_wp2_with fail
  go_loopw [3, 4, 5, 6] (fun sv iv _ _ wr => ∃ i x : Nat, i ≤ n ∧ iv = .int .i64 i ∧ sv = .int .u32 (x : Int) ∧ x < 4294967296 ∧ Hid (x = sk zs i) ∧ wr = w) (fun sv iv _ _ _ => n - (intOf iv).toNat)
  case atStart => exact ⟨0, 4294967295, by omega, rfl, rfl, by decide, Lib.hid rfl, rfl⟩
  case round =>
    obtain ⟨i, x, hi, rfl, rfl, hx32, HX, rfl⟩ := hrel
    by_cases hlt : i < n
    · have hltI : (i : Int) < (n : Int) := by omega
      have W1 : IntKind.i64.wrap ((i : Int) + 1) = (i : Int) + 1 := IntWalk.i64_in _ (by omega)
      obtain ⟨b, off, rfl, hbB, hcell⟩ := HZ.out.get hlt
      have hb8 := u8_r (HZ.out.2.2.2 i)
      obtain ⟨a, ha⟩ : ∃ a : Nat, iat zs i = (a : Int) := ⟨(iat zs i).toNat, by omega⟩
      rw [ha] at hcell hb8
      have W3 : IntKind.u32.wrap (a : Int) = (a : Int) := by rw [wrap_u32]; omega
      obtain ⟨z, hz⟩ : ∃ z, x ^^^ a = z := ⟨_, rfl⟩
      have X0 : bits BinOp.xor IntKind.u32 (x : Int) (a : Int) = (z : Int) := by rw [xor_u32 x a hx32 (by omega), hz]
      have hz32 : z < 4294967296 := by rw [← hz]; exact Nat.xor_lt_two_pow (n := 32) hx32 (by omega)
      have HZZ : Hid (sk zs (i + 1) = it 8 z) := Lib.hid (by rw [sk, ← HX.out, ha, Int.toNat_natCast, hz])
      clear ha hz
      go_wp2_with fail
      go_loopw [3, 5, 6] (fun sv jv _ w2 => ∃ j y : Nat, j ≤ 8 ∧ jv = .int .i64 j ∧ sv = .int .u32 (y : Int) ∧ y < 4294967296 ∧ Hid (y = it j z) ∧ w2 = wr) (fun _ jv _ _ => 8 - (intOf jv).toNat)
      case atStart => exact ⟨0, z, by omega, rfl, rfl, hz32, Lib.hid rfl, rfl⟩
      case round =>
        obtain ⟨j, y, hj, rfl, rfl, hy, HY, rfl⟩ := hrel
        by_cases hj8 : j < 8
        · have hjI : (j : Int) < 8 := by omega
          have W2 : IntKind.i64.wrap ((j : Int) + 1) = (j : Int) + 1 := IntWalk.i64_in _ (by omega)
          obtain ⟨q, hq⟩ : ∃ q, y / 2 = q := ⟨_, rfl⟩
          have hq32 : q < 4294967296 := by omega
          have D1 : Int.tdiv (y : Int) 2 = (q : Int) := by rw [Int.tdiv_eq_ediv_of_nonneg (by omega)]; omega
          have W5 : IntKind.u32.wrap (q : Int) = (q : Int) := by rw [wrap_u32]; omega
          rcases (by omega : y % 2 = 0 ∨ y % 2 = 1) with hr | hr
          · have M0 : Int.tmod (y : Int) 2 = 0 := by rw [Int.tmod_eq_emod_of_nonneg (by omega)]; omega
            have HN : Hid (q = it (j + 1) z) := Lib.hid (by rw [it, ← HY.out]; unfold st; rw [hr, if_neg (by decide), hq])
            clear hq hr
            go_wp2_with fail
            go_roundw
            case rel => exact ⟨j + 1, q, by omega, by go_num, rfl, hq32, HN, by trivial⟩
            case measure => simp [intOf]; omega
          · have M0 : Int.tmod (y : Int) 2 = 1 := by rw [Int.tmod_eq_emod_of_nonneg (by omega)]; omega
            obtain ⟨v, hv⟩ : ∃ v, q ^^^ 2197175160 = v := ⟨_, rfl⟩
            have X1 : bits BinOp.xor IntKind.u32 (q : Int) 2197175160 = (v : Int) := by
              have := xor_u32 q 2197175160 hq32 (by decide)
              rw [hv] at this
              exact this
            have hv32 : v < 4294967296 := by rw [← hv]; exact Nat.xor_lt_two_pow (n := 32) hq32 (by decide)
            have HN : Hid (v = it (j + 1) z) := Lib.hid (by rw [it, ← HY.out]; unfold st; rw [hr, if_pos rfl, hq, hv])
            clear hq hr hv
            go_wp2_with fail
            go_roundw
            case rel => exact ⟨j + 1, v, by omega, by go_num, rfl, hv32, HN, by trivial⟩
            case measure => simp [intOf]; omega
        · have hjI : ¬ (j : Int) < 8 := by omega
          obtain rfl : j = 8 := by omega
          have HN : Hid (y = sk zs (i + 1)) := Lib.hid (by rw [HY.out, ← HZZ.out])
          clear hjI
          go_wp2_with fail
          go_roundw
          case rel => exact ⟨i + 1, y, by omega, by go_num, rfl, hy, HN, by trivial⟩
          case measure => simp [intOf]; omega
    · have hltI : ¬ (i : Int) < (n : Int) := by omega
      obtain rfl : i = n := by omega
      obtain ⟨v, hv⟩ : ∃ v, x ^^^ 4294967295 = v := ⟨_, rfl⟩
      have X1 : bits BinOp.xor IntKind.u32 (x : Int) 4294967295 = (v : Int) := by
        have := xor_u32 x 4294967295 hx32 (by decide)
        rw [hv] at this
        exact this
      have hv32 : v < 4294967296 := by rw [← hv]; exact Nat.xor_lt_two_pow (n := 32) hx32 (by decide)
      have HC : Hid (crc zs = v) := Lib.hid (by unfold crc; rw [HLN.out, ← HX.out, hv])
      have W3 : IntKind.i64.wrap (v : Int) = (v : Int) := IntWalk.i64_in _ (by omega)
      have W4 : wrap64 (v : Int) = (v : Int) := by unfold wrap64; omega
      clear hv
      go_wp2_with fail
      go_ret
      exact ⟨by rw [HC.out]; rfl, Below.refl _ _⟩
end Go.Proofs.Ytppgaddjjlcfcaa.Wk
