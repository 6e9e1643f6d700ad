/- The digest of bytes, in the layer and in its reference. Condition: the slice reads as bytes. -/
import Derived.Test.YtbhdghopdhehdaaBase
set_option linter.unusedSimpArgs false
set_option linter.unusedVariables false
namespace Go.Proofs.Ytbhdghopdhehdaa.Wk
open Go.RowKit
open Go.Proofs.Ytbhdghopdhehdaa.Mt
set_option maxRecDepth 100000 in
theorem hash11 (A : Option Addr) (n c : Nat) (zs : List Int) (w : World) (h : Rk .u8 w w.heap.size A n zs) :
    Calls Try.prog 11 #[.slice A n c] w fun e w' => e = .returned (.int .u64 (hs zs)) ∧ w = w' := by
  have hn := h.2.1
  have HL := Lib.hid h.1
  have HR := Lib.hid h
  clear h
  go_enter Try.func11, Try.ntmps11
  go_wp2_with fail
  go_loop [3, 8] (fun a i => ∃ k : Nat, k ≤ n ∧ i = .int .i64 k ∧ a = .int .u64 (hk zs k)) (fun _ i => n - (intOf i).toNat)
  case atStart => exact ⟨0, Nat.zero_le _, rfl, rfl⟩
  case round =>
    obtain ⟨k, hk', rfl, rfl⟩ := hrel
    by_cases hlt : k < n
    · have hltI : (k : Int) < (n : Int) := by omega
      obtain ⟨b, off, rfl, _, d1⟩ := HR.out.get hlt
      have hz := u8_r (HR.out.2.2.2 k)
      have hh := hk_in zs k
      have HN := Lib.hid (hk_next zs k)
      obtain ⟨z, hzz⟩ : ∃ z, iat zs k = z := ⟨_, rfl⟩
      rw [hzz] at d1 hz HN
      obtain ⟨y, hyy⟩ : ∃ y, hk zs k = y := ⟨_, rfl⟩
      rw [hyy] at hh HN ⊢
      clear hzz hyy
      have E1 : IntKind.u64.wrap z = z := IntWalk.u64_in _ (by omega)
      have E2 : bits .xor .u64 y z = xr y z := xr_eq hh (by omega)
      have E3 : IntKind.u64.wrap (xr y z * 1099511628211) = hst y z := by rw [IntKind.wrap_u64]; rfl
      go_wp2_with fail
      go_round
      case rel => exact ⟨k + 1, by omega, by go_num, by rw [HN.out]⟩
      case measure => simp [intOf]; omega
    · have hltI : ¬ (k : Int) < (n : Int) := by omega
      obtain rfl : k = n := by omega
      have HE : Hid (hk zs k = hs zs) := Lib.hid (by rw [hs, HL.out])
      rw [HE.out]
      go_wp2_with fail
      go_ret
      exact ⟨rfl, rfl⟩
set_option maxRecDepth 100000 in
theorem hash12 (A : Option Addr) (n c : Nat) (zs : List Int) (w : World) (h : Rk .u8 w w.heap.size A n zs) :
    Calls Try.prog 12 #[.slice A n c] w fun e w' => e = .returned (.int .u64 (hs zs)) ∧ w = w' := by
  have hn := h.2.1
  have HL := Lib.hid h.1
  have HR := Lib.hid h
  clear h
  go_enter Try.func12, Try.ntmps12
  go_wp2_with fail
  go_loop [3, 4] (fun a i => ∃ k : Nat, k ≤ n ∧ i = .int .i64 k ∧ a = .int .u64 (hk zs k)) (fun _ i => n - (intOf i).toNat)
  case atStart => exact ⟨0, Nat.zero_le _, rfl, rfl⟩
  case round =>
    obtain ⟨k, hk', rfl, rfl⟩ := hrel
    by_cases hlt : k < n
    · have hltI : (k : Int) < (n : Int) := by omega
      obtain ⟨b, off, rfl, _, d1⟩ := HR.out.get hlt
      have hz := u8_r (HR.out.2.2.2 k)
      have hh := hk_in zs k
      have HN := Lib.hid (hk_next zs k)
      obtain ⟨z, hzz⟩ : ∃ z, iat zs k = z := ⟨_, rfl⟩
      rw [hzz] at d1 hz HN
      obtain ⟨y, hyy⟩ : ∃ y, hk zs k = y := ⟨_, rfl⟩
      rw [hyy] at hh HN ⊢
      clear hzz hyy
      have E1 : IntKind.u64.wrap z = z := IntWalk.u64_in _ (by omega)
      have E2 : bits .xor .u64 y z = xr y z := xr_eq hh (by omega)
      have E3 : IntKind.u64.wrap (xr y z * 1099511628211) = hst y z := by rw [IntKind.wrap_u64]; rfl
      go_wp2_with fail
      go_round
      case rel => exact ⟨k + 1, by omega, by go_num, by rw [HN.out]⟩
      case measure => simp [intOf]; omega
    · have hltI : ¬ (k : Int) < (n : Int) := by omega
      obtain rfl : k = n := by omega
      have HE : Hid (hk zs k = hs zs) := Lib.hid (by rw [hs, HL.out])
      rw [HE.out]
      go_wp2_with fail
      go_ret
      exact ⟨rfl, rfl⟩
end Go.Proofs.Ytbhdghopdhehdaa.Wk
