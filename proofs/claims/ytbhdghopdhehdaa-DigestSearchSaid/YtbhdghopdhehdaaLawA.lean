/- The walks of DigestHashes, DigestChains, DigestRoots. Conditions: the slices read as lists; the contract of alive is handed in. -/
import Derived.Test.YtbhdghopdhehdaaCha
import Derived.Test.YtbhdghopdhehdaaPf
set_option linter.unusedSimpArgs false
set_option linter.unusedVariables false
namespace Go.Proofs.Ytbhdghopdhehdaa.Wk
open Go.RowKit
open Go.Proofs.Ytbhdghopdhehdaa.Mt
/-- the contract of alive -/
def AliveC : Prop := ∀ w : World, Calls Try.prog 15 #[] w fun e w' => e = .returned (.bool true) ∧ Below w.heap.size w w'
set_option maxHeartbeats 1000000 in
set_option maxRecDepth 100000 in
theorem hashes_law (AL : AliveC) (A : Option Addr) (n c : Nat) (zs : List Int) (x y : Int) (w : World) (h : Rk .u8 w w.heap.size A n zs) (hx : 0 ≤ x ∧ x ≤ 18446744073709551615) (hy : 0 ≤ y ∧ y ≤ 18446744073709551615) :
    Calls Try.prog 3 #[.slice A n c, .int .u64 x, .int .u64 y] w fun e w' => e = .returned (.bool true) ∧ Below w.heap.size w w' := by
  have hn := h.2.1
  have HR := Lib.hid h
  have HAL := Lib.hid AL
  clear h AL
  by_cases h0 : 1000 < n
  · have hI : (1000 : Int) < (n : Int) := by omega
    go_enter Try.func3, Try.ntmps3
    go_wp2_with fail
    go_ret
    exact ⟨rfl, Below.refl _ _⟩
  · have hI : decide ((1000 : Int) < (n : Int)) = false := decide_eq_false (by omega)
    obtain ⟨d, hd⟩ : ∃ d, hs zs = d := ⟨_, rfl⟩
    have HD := Lib.hid hd
    obtain ⟨j, hj⟩ : ∃ j, jn x y = j := ⟨_, rfl⟩
    have HJ := Lib.hid hj
    have e1 : (d == d) = true := by simp
    have e2 : (j == j) = true := by simp
    have HX := Lib.hid hx
    have HY := Lib.hid hy
    clear hd hj
    go_enter Try.func3, Try.ntmps3
    go_wp2_with fail
    refine (hash11 A n c zs _ HR.out).mono ?_
    rintro e w1 ⟨rfl, rfl⟩
    rw [HD.out]
    go_wp2_with fail
    refine (hash12 A n c zs _ HR.out).mono ?_
    rintro e w1 ⟨rfl, rfl⟩
    rw [HD.out]
    go_wp2_with fail
    refine (join13 x y _ HX.out HY.out).mono ?_
    rintro e w1 ⟨rfl, hb⟩
    have HB := Lib.hid hb
    clear hb
    rw [HJ.out]
    go_wp2_with fail
    refine (join14 x y _ HX.out HY.out).mono ?_
    rintro e w2 ⟨rfl, hb⟩
    have HB2 := Lib.hid (upB HB.out hb)
    clear hb HB
    rw [HJ.out]
    go_wp2_with fail
    refine (HAL.out _).mono ?_
    rintro e w3 ⟨rfl, hb⟩
    have HB3 := Lib.hid (upB HB2.out hb)
    clear hb HB2
    go_wp2_with fail
    go_ret
    exact ⟨rfl, HB3.out⟩
theorem Rss.up {w w' : World} {A : Option Addr} {n : Nat} {ls : List (List Int)} (h : Rss w w.heap.size A n ls) (hb : Below w.heap.size w w') : Rss w' w'.heap.size A n ls := by
  refine ⟨h.1, h.2.1, fun h0 => ?_⟩
  obtain ⟨b, off, e, hlt, hc⟩ := h.2.2 h0
  refine ⟨b, off, e, Nat.lt_of_lt_of_le hlt hb.size, fun i hi => ?_⟩
  obtain ⟨Ai, ni, ci, h1, h2⟩ := hc i hi
  exact ⟨Ai, ni, ci, (hb.cell (p := ⟨b, _, none⟩) hlt).trans h1, (h2.below hb (Nat.le_refl _)).wide hb.size⟩
set_option maxHeartbeats 1000000 in
set_option maxRecDepth 100000 in
theorem chains_law (AL : AliveC) (start : Int) (A : Option Addr) (n c : Nat) (ls : List (List Int)) (w : World) (h : Rss w w.heap.size A n ls) (hx : 0 ≤ start ∧ start ≤ 18446744073709551615) :
    Calls Try.prog 4 #[.int .u64 start, .slice A n c] w fun e w' => e = .returned (.bool true) ∧ Below w.heap.size w w' := by
  have hn := h.2.1
  have HL := Lib.hid h.1
  have HR := Lib.hid h
  have HAL := Lib.hid AL
  have HX := Lib.hid hx
  clear h AL
  go_enter Try.func4, Try.ntmps4
  go_wp2_with fail
  refine (few16 A n c ls _ HR.out).mono ?_
  rintro e w1 ⟨rfl, rfl⟩
  by_cases hf : fwS ls = true
  · have hn1 : n ≤ 100 := by
      have h2 := hf
      rw [fwS, HL.out] at h2
      simp at h2
      omega
    rw [hf]
    go_wp2_with fail
    refine (chain18 start A n c ls _ HR.out (by omega) HX.out).mono ?_
    rintro e w1 ⟨A1, c1, rfl, hr, hb⟩
    have H1 := Lib.hid hr
    have HB := Lib.hid hb
    have HR2 : Hid (Rss w1 w1.heap.size A n ls) := Lib.hid (HR.out.up hb)
    clear hr hb
    go_wp2_with fail
    refine (chain19 start A n c ls _ HR2.out (by omega) HX.out).mono ?_
    rintro e w2 ⟨A2, c2, rfl, hr, hb⟩
    have H2 := Lib.hid hr
    have H1' := Lib.hid (H1.out.up hb)
    have HB2 := Lib.hid (upB HB.out hb)
    clear hr hb HB H1
    go_wp2_with fail
    refine (same17 A1 A2 n c1 c2 _ _ H1'.out H2.out).mono ?_
    rintro e w3 ⟨rfl, hb⟩
    have HB3 := Lib.hid (upB HB2.out hb)
    clear hb HB2
    go_wp2_with fail
    refine (HAL.out _).mono ?_
    rintro e w4 ⟨rfl, hb⟩
    have HB4 := Lib.hid (upB HB3.out hb)
    clear hb HB3
    go_wp2_with fail
    go_ret
    exact ⟨rfl, HB4.out⟩
  · have hf : fwS ls = false := by simpa using hf
    rw [hf]
    go_wp2_with fail
    go_ret
    exact ⟨rfl, Below.refl _ _⟩
end Go.Proofs.Ytbhdghopdhehdaa.Wk
