/- The number at an offset, in the reference. Conditions: the bytes read as the list; at most 100000 bytes. -/
import Derived.Test.YtppgaddjjlcfcaaCm
set_option linter.unusedSimpArgs false
set_option linter.unusedVariables false
namespace Go.Proofs.Ytppgaddjjlcfcaa.Mt
open Go
theorem nuK_none {zs : List Int} {n a : Nat} (hh : Hi zs a (min 10 (n - a))) : nuK zs n (a : Int) = 0 := by
  unfold nuK
  simp only [Int.toNat_natCast]
  rw [ft_none _ hh]
theorem nuK_some {zs : List Int} {n a k : Nat} (h : a + k < n) (hk : k < 10) (hh : Hi zs a k) (hz : iat zs (a + k) < 128) : nuK zs n (a : Int) = k + 1 := by
  unfold nuK
  simp only [Int.toNat_natCast]
  rw [ft_some hh hz _ (by rw [Nat.lt_min]; omega)]
theorem nu_ev {zs : List Int} {n : Nat} {t : Int} (h : nuE zs n t ≠ 0) : nuV zs n t = 0 ∧ nuN zs n t = 0 := by unfold nuV nuN; rw [if_neg h, if_neg h]; exact ⟨rfl, rfl⟩
end Go.Proofs.Ytppgaddjjlcfcaa.Mt
namespace Go.Proofs.Ytppgaddjjlcfcaa.Wk
open Go.RowKit
open Go.Proofs.Ytppgaddjjlcfcaa.Mt
set_option maxHeartbeats 4000000 in
set_option maxRecDepth 100000 in
theorem groups38 (A : Option Addr) (n c a : Nat) (zs : List Int) (w : World) (h : Rk .u8 w w.heap.size A n zs) (ha : a ≤ n) (hn : n ≤ 100000) : Calls Try.prog 38 #[.slice A n c, .int .i64 (a : Int)] w fun e w' => e = .returned (.int .i64 ((nuK zs n (a : Int) : Nat) : Int)) ∧ Below w.heap.size w w' := by
  have HZ := Lib.hid h
  clear h
  go_enter Try.func38, Try.ntmps38
  go_wp2_with fail
  go_loopw [5] (fun iv wr => ∃ k : Nat, k ≤ 10 ∧ iv = .int .i64 k ∧ Hid (a + k ≤ n) ∧ Hid (Hi zs a k) ∧ wr = w) (fun iv _ => 10 - (intOf iv).toNat)
  case atStart => exact ⟨0, by omega, rfl, Lib.hid ha, Lib.hid (fun j hj => by omega), rfl⟩
  case round =>
    obtain ⟨k, hk, rfl, HA, HH, rfl⟩ := hrel
    have hak := HA.out
    have W1 : IntKind.i64.wrap ((a : Int) + (k : Int)) = (a : Int) + (k : Int) := IntWalk.i64_in _ (by omega)
    have W2 : IntKind.i64.wrap ((k : Int) + 1) = (k : Int) + 1 := IntWalk.i64_in _ (by omega)
    by_cases h10 : k < 10
    · have h10I : (k : Int) < 10 := by omega
      have h10J : decide ((k : Int) < 10) = true := decide_eq_true h10I
      by_cases hend : a + k < n
      · have p1 : (0 : Int) ≤ (a : Int) + (k : Int) := by omega
        have p2 : (a : Int) + (k : Int) < (n : Int) := by omega
        have p3 : decide ((a : Int) + (k : Int) < (n : Int)) = true := decide_eq_true p2
        have T1 : ((a : Int) + (k : Int)).toNat = a + k := by omega
        obtain ⟨b, off, rfl, hbB, hcell⟩ := HZ.out.get (i := a + k) (by omega)
        have hx8 := u8_r (HZ.out.2.2.2 (a + k))
        obtain ⟨x, hx⟩ : ∃ x, iat zs (a + k) = x := ⟨_, rfl⟩
        rw [hx] at hcell hx8
        have HXX := Lib.hid hx
        clear hx
        clear hak
        by_cases h128 : x < 128
        · have HK := Lib.hid (nuK_some hend h10 HH.out (by rw [HXX.out]; exact h128))
          go_wp2_with fail
          go_ret
          exact ⟨by rw [HK.out]; simp, Below.refl _ _⟩
        · have HH2 : Hid (Hi zs a (k + 1)) := Lib.hid (fun j hj => by
            rcases Nat.lt_or_ge j k with h1 | h1
            · exact HH.out j h1
            · obtain rfl : j = k := by omega
              rw [HXX.out]; omega)
          go_wp2_with fail
          go_roundw
          case rel => exact ⟨k + 1, by omega, by go_num, Lib.hid (by omega), HH2, by trivial⟩
          case measure => simp [intOf]; omega
      · have p3 : decide ((a : Int) + (k : Int) < (n : Int)) = false := decide_eq_false (by omega)
        have HK := Lib.hid (nuK_none (n := n) (a := a) (zs := zs) (by rw [Nat.min_eq_right (by omega), show n - a = k by omega]; exact HH.out))
        clear hak
        go_wp2_with fail
        go_ret
        exact ⟨by rw [HK.out]; rfl, Below.refl _ _⟩
    · have h10J : decide ((k : Int) < 10) = false := decide_eq_false (by omega)
      obtain rfl : k = 10 := by omega
      have HK := Lib.hid (nuK_none (n := n) (a := a) (zs := zs) (by rw [Nat.min_eq_left (by omega)]; exact HH.out))
      clear hak
      go_wp2_with fail
      go_ret
      exact ⟨by rw [HK.out]; rfl, Below.refl _ _⟩
end Go.Proofs.Ytppgaddjjlcfcaa.Wk
