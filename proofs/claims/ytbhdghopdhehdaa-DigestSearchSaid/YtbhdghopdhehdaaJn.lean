/- The join of two digests, in the layer. Condition: both are 64-bit numbers. -/
import Derived.Test.YtbhdghopdhehdaaHsh
set_option linter.unusedSimpArgs false
set_option linter.unusedVariables false
namespace Go.Proofs.Ytbhdghopdhehdaa.Wk
open Go.RowKit
open Go.Proofs.Ytbhdghopdhehdaa.Mt
theorem byt_wrap (x : Int) (k : Nat) : IntKind.u8.wrap (x / pw k) = byt x k := by rw [IntKind.wrap_u8]; rfl
set_option maxRecDepth 100000 in
theorem join13 (a b : Int) (w : World) (ha : 0 ≤ a ∧ a ≤ 18446744073709551615) (hb : 0 ≤ b ∧ b ≤ 18446744073709551615) :
    Calls Try.prog 13 #[.int .u64 a, .int .u64 b] w fun e w' => e = .returned (.int .u64 (jn a b)) ∧ Below w.heap.size w w' := by
  go_enter Try.func13, Try.ntmps13
  go_wp2_with fail
  go_loopw [7] (fun i wr => ∃ k : Nat, k ≤ 8 ∧ i = .int .i64 k ∧ Hid (Below w.heap.size w wr) ∧ Hid (Bx wr w.heap.size 52 (vk .u8 (arr a b k)).toArray)) (fun i _ => 8 - (intOf i).toNat)
  case atStart => exact ⟨0, Nat.zero_le _, rfl, Lib.hid (b1 _ _), Lib.hid (by rw [arr_zero]; exact Bx.new w 52 _)⟩
  case round =>
    obtain ⟨k, hk', rfl, HW, HB⟩ := hrel
    by_cases hlt : k < 8
    · have hltI : (k : Int) < 8 := by omega
      have c1 := HB.out.kcell (i := k) (by rw [arr_len]; omega)
      have f1 := HB.out.free k
      have c2 := HB.out.kcell (i := 8 + k) (by rw [arr_len]; omega)
      have f2 := HB.out.free (8 + k)
      obtain ⟨z1, hz1⟩ : ∃ z, iat (arr a b k) k = z := ⟨_, rfl⟩
      rw [hz1] at c1
      obtain ⟨z2, hz2⟩ : ∃ z, iat (arr a b k) (8 + k) = z := ⟨_, rfl⟩
      rw [hz2] at c2
      clear hz1 hz2
      have HS := Lib.hid (arr_set (a := a) (b := b) hlt)
      have E1 := pw_shift hlt
      have E2 := byt_wrap a k
      have E3 := byt_wrap b k
      go_wp2_with fail
      go_roundw
      case rel => exact ⟨k + 1, by omega, by go_num, Lib.hid ((HW.out.setCell (p := ⟨w.heap.size, k, none⟩) (by show w.heap.size ≤ w.heap.size; omega) _).setCell (p := ⟨w.heap.size, 8 + k, none⟩) (by show w.heap.size ≤ w.heap.size; omega) _), Lib.hid (by have := (HB.out.kput k (byt a k)).kput (8 + k) (byt b k); rw [HS.out] at this; exact this)⟩
      case measure => simp [intOf]; omega
    · have hltI : ¬ (k : Int) < 8 := by omega
      obtain rfl : k = 8 := by omega
      have hb := HB.out
      rw [arr_all] at hb
      have hr := Rk.block hb (by rw [jb_len]; omega) (fun i => u8_w (jb_in a b i))
      rw [jb_len] at hr
      have HR := Lib.hid hr
      clear hb hr HB
      go_wp2_with fail
      refine (hash11 _ 16 16 (jb a b) _ HR.out).mono ?_
      rintro e w2 ⟨rfl, rfl⟩
      go_wp2_with fail
      go_ret
      exact ⟨rfl, HW.out⟩
end Go.Proofs.Ytbhdghopdhehdaa.Wk
