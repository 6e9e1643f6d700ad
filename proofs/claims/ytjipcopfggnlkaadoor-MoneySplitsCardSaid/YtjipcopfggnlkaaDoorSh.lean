/- Show in the layer, walked. Conditions: the number is a machine integer; the table reads as it is laid. -/
import Derived.Test.YtjipcopfggnlkaaDoorFu
import Derived.Laws.IdiomStrings
set_option linter.unusedSimpArgs false
set_option linter.unusedVariables false
namespace Go.Proofs.YtjipcopfggnlkaaDoor.Mt
open Go
def strd (l : List UInt8) : ByteArray := ⟨l.toArray⟩
theorem strd_size (l : List UInt8) : (strd l).size = l.length := by simp [strd, ByteArray.size]
theorem strd_app (a b : List UInt8) : strd a ++ strd b = strd (a ++ b) := by unfold strd; simp [ByteArray.mk_append_mk]
/-- the two digits of the cents -/
def ce (u : Nat) : List UInt8 := [UInt8.ofNat (48 + u / 10 % 10), UInt8.ofNat (48 + u % 10)]
def sg (n : Int) : List UInt8 := if n < 0 then [45] else []
def shL (n : Int) : List UInt8 := sg n ++ Lib.decDigits (n.natAbs / 100) ++ [46] ++ ce n.natAbs
theorem dec_three {r : Nat} (h : r < 100) : Lib.decDigits (100 + r) = 49 :: [UInt8.ofNat (48 + r / 10), UInt8.ofNat (48 + r % 10)] := by
  rw [Lib.decDigits, dif_neg (by omega), Lib.decDigits_two (by omega) (by omega)]
  have e1 : (100 + r) / 10 / 10 = 1 := by omega
  have e2 : (100 + r) / 10 % 10 = r / 10 := by omega
  have e3 : (100 + r) % 10 = r % 10 := by omega
  rw [e1, e2, e3]
  rfl
theorem ce_mod (u : Nat) : ce u = [UInt8.ofNat (48 + u % 100 / 10), UInt8.ofNat (48 + u % 100 % 10)] := by
  unfold ce
  rw [show u / 10 % 10 = u % 100 / 10 by omega, show u % 10 = u % 100 % 10 by omega]
theorem extract_tail (x : UInt8) (l : List UInt8) : (strd (x :: l)).extract 1 (l.length + 1) = strd l := by
  unfold strd
  apply ByteArray.ext
  rw [ByteArray.data_extract]
  simp
theorem nDigits_le {u : Nat} (h : u < 18446744073709551616) : Lib.nDigits u ≤ 20 := by
  rcases Nat.eq_zero_or_pos u with h0 | h0
  · subst h0; rw [Lib.nDigits]; simp
  · have := Lib.numDigits_eq u h0 h; split at this <;> omega
end Go.Proofs.YtjipcopfggnlkaaDoor.Mt
namespace Go.Proofs.YtjipcopfggnlkaaDoor.Wk
open Go.RowKit
open Go.Proofs.YtjipcopfggnlkaaDoor.Mt
set_option maxHeartbeats 2000000 in
theorem show25 (n : Int) (w : World) (hn : In64 n) (ht : Tb w) : Calls Tryd.prog 25 #[.int .i64 n] w fun e w' => e = .returned (.string (strd (shL n))) ∧ Below w.heap.size w w' := by
  have HT := Lib.hid ht
  have HN := Lib.hid hn
  obtain ⟨u, hu⟩ : ∃ u, n.natAbs = u := ⟨_, rfl⟩
  have HU := Lib.hid hu
  have hu64 : u < 18446744073709551616 := by unfold In64 at hn; omega
  obtain ⟨r, hr⟩ : ∃ r, u % 100 = r := ⟨_, rfl⟩
  obtain ⟨q, hq⟩ : ∃ q, u / 100 = q := ⟨_, rfl⟩
  have hr100 : r < 100 := by omega
  have V1 : (u : Int).tmod 100 = (r : Int) := by rw [Int.tmod_eq_emod_of_nonneg (by omega)]; omega
  have V1' : (u : Int) % 100 = (r : Int) := by omega
  have V2 : (u : Int).tdiv 100 = (q : Int) := by rw [Int.tdiv_eq_ediv_of_nonneg (by omega)]; omega
  have V2' : (u : Int) / 100 = (q : Int) := by omega
  obtain ⟨t, htt⟩ : ∃ t, 100 + r = t := ⟨_, rfl⟩
  have V3 : IntKind.u64.wrap (100 + (r : Int)) = (t : Int) := by rw [show 100 + (r : Int) = (t : Int) by omega]; exact u64_in _ (by omega)
  obtain ⟨x, hx⟩ : ∃ x, dec t = x := ⟨_, rfl⟩
  have hxe : x = strd (49 :: [UInt8.ofNat (48 + r / 10), UInt8.ofNat (48 + r % 10)]) := by rw [← hx, ← htt, ← dec_three hr100]; rfl
  have hxs : x.size = 3 := by rw [hxe, strd_size]; rfl
  obtain ⟨z, hz⟩ : ∃ z, x.extract 1 3 = z := ⟨_, rfl⟩
  have hze : z = strd (ce u) := by rw [← hz, hxe, ce_mod, hr]; exact extract_tail 49 [_, _]
  have HX := Lib.hid hx
  have HQ := Lib.hid hq
  have HZE := Lib.hid hze
  obtain ⟨y, hy⟩ : ∃ y, dec q = y := ⟨_, rfl⟩
  have HY := Lib.hid hy
  have ht64 : t < 18446744073709551616 := by omega
  have hq64 : q < 18446744073709551616 := by omega
  have hys : y.size ≤ 20 := by rw [← hy]; show (strd _).size ≤ 20; rw [strd_size, Lib.decDigits_length]; exact nDigits_le (by omega)
  clear hx hxe hze hy hn ht hu hr hq htt
  by_cases h0 : n < 0
  · have d1 : decide (n < 0) = true := decide_eq_true h0
    obtain ⟨a1, ha1⟩ : ∃ a, (⟨#[45]⟩ : ByteArray) ++ y = a := ⟨_, rfl⟩
    obtain ⟨a2, ha2⟩ : ∃ a, a1 ++ (⟨#[46]⟩ : ByteArray) = a := ⟨_, rfl⟩
    obtain ⟨a3, ha3⟩ : ∃ a, a2 ++ z = a := ⟨_, rfl⟩
    have HA3 : Hid (a3 = strd (shL n)) := Lib.hid (by
      rw [← ha3, ← ha2, ← ha1, ← HY.out, HZE.out]
      unfold shL sg
      rw [if_pos h0, HU.out, HQ.out]
      show strd [45] ++ strd (Lib.decDigits q) ++ strd [46] ++ strd (ce u) = _
      rw [strd_app, strd_app, strd_app])
    have hs1 : a1.size ≤ 30 := by rw [← ha1, ByteArray.size_append]; have : (⟨#[45]⟩ : ByteArray).size ≤ 1 := by decide
                                  omega
    have hs2 : a2.size ≤ 40 := by rw [← ha2, ByteArray.size_append]; have : (⟨#[46]⟩ : ByteArray).size = 1 := rfl
                                  omega
    have hs3 : z.size ≤ 10 := by rw [HZE.out, strd_size]; show 2 ≤ 10; omega
    go_enter Tryd.func25, Tryd.ntmps25
    go_wp2_with fail
    refine (size29 n u w HN.out HU.out).mono ?_
    rintro e w1 ⟨rfl, hw⟩
    rw [hw]
    clear hw
    go_wp2_with fail
    refine (fmtU41 t w ht64 HT.out).mono ?_
    rintro e w1 ⟨rfl, hb⟩
    have HB := Lib.hid hb
    have HT1 := Lib.hid (HT.out.next hb)
    rw [HX.out]
    clear hb
    go_wp2_with fail
    refine (fmtU41 q w1 hq64 HT1.out).mono ?_
    rintro e w2 ⟨rfl, hb⟩
    replace HB := Lib.hid (upB HB.out hb)
    rw [HY.out]
    clear hb
    go_wp2_with fail
    go_ret
    rw [← HA3.out]
    exact ⟨rfl, HB.out⟩
  · have d1 : decide (n < 0) = false := decide_eq_false h0
    obtain ⟨a1, ha1⟩ : ∃ a, (⟨#[]⟩ : ByteArray) ++ y = a := ⟨_, rfl⟩
    obtain ⟨a2, ha2⟩ : ∃ a, a1 ++ (⟨#[46]⟩ : ByteArray) = a := ⟨_, rfl⟩
    obtain ⟨a3, ha3⟩ : ∃ a, a2 ++ z = a := ⟨_, rfl⟩
    have HA3 : Hid (a3 = strd (shL n)) := Lib.hid (by
      rw [← ha3, ← ha2, ← ha1, ← HY.out, HZE.out]
      unfold shL sg
      rw [if_neg h0, HU.out, HQ.out]
      show strd [] ++ strd (Lib.decDigits q) ++ strd [46] ++ strd (ce u) = _
      rw [strd_app, strd_app, strd_app])
    have hs1 : a1.size ≤ 30 := by rw [← ha1, ByteArray.size_append]; have : (⟨#[]⟩ : ByteArray).size ≤ 1 := by decide
                                  omega
    have hs2 : a2.size ≤ 40 := by rw [← ha2, ByteArray.size_append]; have : (⟨#[46]⟩ : ByteArray).size = 1 := rfl
                                  omega
    have hs3 : z.size ≤ 10 := by rw [HZE.out, strd_size]; show 2 ≤ 10; omega
    go_enter Tryd.func25, Tryd.ntmps25
    go_wp2_with fail
    refine (size29 n u w HN.out HU.out).mono ?_
    rintro e w1 ⟨rfl, hw⟩
    rw [hw]
    clear hw
    go_wp2_with fail
    refine (fmtU41 t w ht64 HT.out).mono ?_
    rintro e w1 ⟨rfl, hb⟩
    have HB := Lib.hid hb
    have HT1 := Lib.hid (HT.out.next hb)
    rw [HX.out]
    clear hb
    go_wp2_with fail
    refine (fmtU41 q w1 hq64 HT1.out).mono ?_
    rintro e w2 ⟨rfl, hb⟩
    replace HB := Lib.hid (upB HB.out hb)
    rw [HY.out]
    clear hb
    go_wp2_with fail
    go_ret
    rw [← HA3.out]
    exact ⟨rfl, HB.out⟩
end Go.Proofs.YtjipcopfggnlkaaDoor.Wk
