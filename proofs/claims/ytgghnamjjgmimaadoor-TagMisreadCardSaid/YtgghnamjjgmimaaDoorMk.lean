/- A transponder number is made, in the layer and in its reference. Conditions: at most 4096 bytes; the table of powers reads as the program lays it. -/
import Derived.Test.YtgghnamjjgmimaaDoorSr
import Derived.Test.YtgghnamjjgmimaaDoorLaid
import Derived.Lib.LaidTab
import Derived.Lib.SmallJoins
import Derived.Lib.ItoaNum
import Derived.Lib.AppendIntMem
set_option linter.unusedSimpArgs false
set_option linter.unusedVariables false
namespace Go.Proofs.YtgghnamjjgmimaaDoor.Mt
open Go
/-- the last k decimal digits of n -/
def dgl : Nat → Nat → List UInt8
  | _, 0 => []
  | n, k + 1 => dgl (n / 10) k ++ [UInt8.ofNat (48 + n % 10)]
theorem dgl_len : ∀ k n, (dgl n k).length = k := by
  intro k
  induction k with
  | zero => intro n; rfl
  | succ k ih => intro n; rw [dgl, List.length_append, ih]; rfl
theorem dgl_front : ∀ k n, dgl n (k + 1) = UInt8.ofNat (48 + n / 10 ^ k % 10) :: dgl n k := by
  intro k
  induction k with
  | zero => intro n; simp [dgl]
  | succ k ih =>
    intro n
    rw [dgl, ih (n / 10)]
    have : n / 10 / 10 ^ k = n / 10 ^ (k + 1) := by rw [Nat.div_div_eq_div_mul, Nat.pow_succ, Nat.mul_comm]
    rw [this]
    rfl
theorem dec_one {n k : Nat} (h : n < 10 ^ k) : Lib.decDigits (10 ^ k + n) = 49 :: dgl n k := by
  induction k generalizing n with
  | zero =>
    obtain rfl : n = 0 := by simpa using h
    rw [Lib.decDigits, dif_pos (by decide)]
    rfl
  | succ k ih =>
    have hp : 10 ^ (k + 1) = 10 * 10 ^ k := by rw [Nat.pow_succ, Nat.mul_comm]
    have h1 : 0 < 10 ^ k := Nat.pow_pos (by omega)
    rw [Lib.decDigits, dif_neg (by omega)]
    have e1 : (10 ^ (k + 1) + n) / 10 = 10 ^ k + n / 10 := by omega
    have e2 : (10 ^ (k + 1) + n) % 10 = n % 10 := by omega
    rw [e1, e2, ih (by omega)]
    rfl
def strd (l : List UInt8) : ByteArray := ⟨l.toArray⟩
theorem strd_size (l : List UInt8) : (strd l).size = l.length := by simp [strd, ByteArray.size]
theorem lit_one {d : Nat} (h : d < 10) : (ByteArray.mk #[48, 49, 50, 51, 52, 53, 54, 55, 56, 57]).extract d (d + 1) = strd [UInt8.ofNat (48 + d)] := by
  rcases d with _ | _ | _ | _ | _ | _ | _ | _ | _ | _ | d
  all_goals first | rfl | decide | omega
theorem itoa_big {n : Nat} (h : n < 100000000) : Lib.itoa (100000000 + (n : Int)) = 49 :: dgl n 8 := by
  unfold Lib.itoa
  rw [if_neg (by omega)]
  have e : (100000000 + (n : Int)).toNat = 10 ^ 8 + n := by
    have : (10 ^ 8 : Nat) = 100000000 := by decide
    omega
  rw [e, dec_one (by have : (10 ^ 8 : Nat) = 100000000 := by decide
                     omega)]
theorem itoa_one {c : Nat} (h : c < 10) : Lib.itoa (c : Int) = dgl c 1 := by
  unfold Lib.itoa
  rw [if_neg (by omega), Int.toNat_natCast, Lib.decDigits, dif_pos h]
  show _ = [] ++ [UInt8.ofNat (48 + c % 10)]
  rw [Nat.mod_eq_of_lt h]
  rfl
theorem tail_one (x : UInt8) (l : List UInt8) : (ByteArray.mk (x :: l).toArray).extract 1 (l.length + 1) = strd l := by
  rw [ByteArray.extract_mk]
  simp [strd]
/-- the first eleven bytes -/
def bd (ag : ByteArray) (n : Nat) : ByteArray := ag ++ strd (dgl n 8)
def cd (b : ByteArray) : Nat := ((10 - sm b 11 % 10) % 10).toNat
def tagOf (ag : ByteArray) (n : Nat) : ByteArray := bd ag n ++ strd (dgl (cd (bd ag n)) 1)
def Ag (ag : ByteArray) : Prop := ag.size = 3 ∧ Dgs ag 3
instance (ag : ByteArray) : Decidable (Ag ag) := by unfold Ag; infer_instance
def mkS (ag : ByteArray) (n : Int) : ByteArray := if Ag ag then (if n < 0 ∨ 99999999 < n then ⟨#[]⟩ else tagOf ag n.toNat) else ⟨#[]⟩
def mkE (ag : ByteArray) (n : Int) : Int := if Ag ag then (if n < 0 ∨ 99999999 < n then 2 else 0) else 30
theorem bt_left {a b : ByteArray} {i : Nat} (h : i < a.size) : bt (a ++ b) i = bt a i := by
  have h2 : i < (a ++ b).size := by rw [ByteArray.size_append]; omega
  rw [← bt_at h, ← bt_at h2]
  congr 2
  exact ByteArray.getElem_append_left h
theorem bt_right {a b : ByteArray} {i : Nat} : bt (a ++ b) (a.size + i) = bt b i := by
  by_cases h : i < b.size
  · have h2 : a.size + i < (a ++ b).size := by rw [ByteArray.size_append]; omega
    rw [← bt_at h, ← bt_at h2]
    congr 2
    rw [ByteArray.getElem_append_right (by omega)]
    simp
  · unfold bt
    rw [dif_neg h, dif_neg (by rw [ByteArray.size_append]; omega)]
theorem bt_strd {l : List UInt8} {i : Nat} (h : i < l.length) : bt (strd l) i = ((l[i]'h).toNat : Int) := by
  have h2 : i < (strd l).size := by rw [strd_size]; exact h
  rw [← bt_at h2]
  congr 2
theorem sm_congr {a b : ByteArray} : ∀ {k : Nat}, (∀ i, i < k → bt a i = bt b i) → sm a k = sm b k := by
  intro k
  induction k with
  | zero => intro _; rfl
  | succ k ih =>
    intro h
    rw [sm, sm, ih (fun i hi => h i (by omega)), h k (by omega)]
theorem u8_dig (n : Nat) : (UInt8.ofNat (48 + n % 10)).toNat = 48 + n % 10 := by
  rw [UInt8.toNat_ofNat']
  omega
theorem dgl_at : ∀ {k i n : Nat}, i < k → bt (strd (dgl n k)) i = 48 + ((n / 10 ^ (k - 1 - i) % 10 : Nat) : Int) := by
  intro k
  induction k with
  | zero => intro i n h; omega
  | succ k ih =>
    intro i n h
    have hl : i < (dgl n (k + 1)).length := by rw [dgl_len]; exact h
    rw [bt_strd hl]
    have hg : (dgl n (k + 1))[i] = (UInt8.ofNat (48 + n / 10 ^ k % 10) :: dgl n k)[i]'(by rw [List.length_cons, dgl_len]; exact h) := by
      congr 1
      exact dgl_front k n
    rw [hg]
    rcases i with _ | i
    · rw [List.getElem_cons_zero, u8_dig]
      simp
    · have hi : i < k := by omega
      have h2 := ih (n := n) hi
      rw [bt_strd (by rw [dgl_len]; exact hi)] at h2
      rw [List.getElem_cons_succ, h2]
      have : k + 1 - 1 - (i + 1) = k - 1 - i := by omega
      rw [this]
section
variable {ag : ByteArray} {n : Nat}
theorem bd_size (h : Ag ag) : (bd ag n).size = 11 := by unfold bd; rw [ByteArray.size_append, strd_size, dgl_len, h.1]
theorem bd_dgs (h : Ag ag) : Dgs (bd ag n) 11 := fun i hi => by
  rcases Nat.lt_or_ge i 3 with h1 | h1
  · unfold bd; rw [bt_left (by rw [h.1]; exact h1)]; exact h.2 i h1
  · obtain ⟨j, rfl⟩ : ∃ j, i = ag.size + j := ⟨i - 3, by rw [h.1]; omega⟩
    rw [h.1] at hi
    unfold bd; rw [bt_right, dgl_at (by omega)]
    unfold Dg
    omega
theorem cd_lt (b : ByteArray) : cd b < 10 := by unfold cd; omega
theorem tag_size (h : Ag ag) : (tagOf ag n).size = 12 := by unfold tagOf; rw [ByteArray.size_append, bd_size h, strd_size, dgl_len]
theorem tag_at (h : Ag ag) {i : Nat} (hi : i < 11) : bt (tagOf ag n) i = bt (bd ag n) i := by unfold tagOf; exact bt_left (by rw [bd_size h]; exact hi)
theorem tag_last (h : Ag ag) : bt (tagOf ag n) 11 = 48 + (cd (bd ag n) : Int) := by
  have e : tagOf ag n = bd ag n ++ strd (dgl (cd (bd ag n)) 1) := rfl
  have e2 : (11 : Nat) = (bd ag n).size + 0 := by rw [bd_size h]
  rw [e, e2, bt_right, dgl_at (by omega)]
  have := cd_lt (bd ag n)
  simp
  omega
/-- what is made is a transponder number -/
theorem tag_is (h : Ag ag) : Tg (tagOf ag n) := by
  have hl := tag_last (n := n) h
  have hc := cd_lt (bd ag n)
  have hd := bd_dgs (n := n) h
  have hs : sm (tagOf ag n) 11 = sm (bd ag n) 11 := sm_congr fun i hi => tag_at h hi
  refine ⟨tag_size h, fun i hi => ?_, ?_⟩
  · rcases Nat.lt_or_ge i 11 with h1 | h1
    · rw [tag_at h h1]; exact hd i h1
    · obtain rfl : i = 11 := by omega
      rw [hl]; unfold Dg; omega
  · rw [sm, hs, hl]
    have e : lu 11 (48 + (cd (bd ag n) : Int) - 48) = (cd (bd ag n) : Int) := by unfold lu; rw [if_pos (by decide)]; omega
    rw [e]
    have := (sm_in hd).1
    unfold cd
    omega
end
end Go.Proofs.YtgghnamjjgmimaaDoor.Mt
namespace Go.Proofs.YtgghnamjjgmimaaDoor.Wk
open Go.RowKit
open Go.Proofs.YtgghnamjjgmimaaDoor.Mt
/-- the library's table of powers reads as it is laid -/
def Tb (w : World) : Prop := Lib.TabIs Tryd.prog w "internal/strconv.uint64pow10" .u64 Lib.pow10Tab
theorem Tb.next {w w' : World} (h : Tb w) (hb : Below w.heap.size w w') : Tb w' := Joins.tab_stays (show Tryd.prog.globalNamed "internal/strconv.uint64pow10" = some 0 by kernel_rfl) h hb (Nat.le_refl _)
theorem itoa27 (n : Int) (w : World) (h0 : -9223372036854775808 ≤ n) (h1 : n ≤ 9223372036854775807) (ht : Tb w) : Calls Tryd.prog 27 #[.int .i64 n] w fun e w' => e = .returned (.string ⟨(Lib.itoa n).toArray⟩) ∧ Below w.heap.size w w' :=
  (Any.strconv_Itoa Tryd.laysItoa n h0 h1 w ht).mono fun e w' ⟨h1, k, os, h2⟩ => ⟨h1, by subst h2; exact Lib.below_grow _ _ (Nat.le_refl _) _ _⟩
set_option maxHeartbeats 1000000 in
theorem digits28 (n k : Nat) (w : World) (hn : n < 100000000) (hk : k ≤ 8) : Calls Tryd.prog 28 #[.int .i64 n, .int .i64 k] w fun e w' => e = .returned (.string (strd (dgl n k))) ∧ Below w.heap.size w w' := by
  go_enter Tryd.func28, Tryd.ntmps28
  go_wp2_with fail
  go_loopw [0, 5, 6] (fun nv sv iv wr => ∃ (i : Nat) (m : Nat) (u : ByteArray), i ≤ k ∧ m < 100000000 ∧ nv = .int .i64 m ∧ sv = .string u ∧ iv = .int .i64 i ∧ u.size = i ∧ Hid (u = strd (dgl n i)) ∧ Hid (m = n / 10 ^ i) ∧ Hid (Below w.heap.size w wr)) (fun _ _ iv _ => k - (intOf iv).toNat)
  case atStart => exact ⟨0, n, ⟨#[]⟩, Nat.zero_le _, hn, rfl, rfl, rfl, rfl, Lib.hid rfl, Lib.hid (by simp), Lib.hid (Below.refl _ _)⟩
  case round =>
    obtain ⟨i, m, u, hi, hm, rfl, rfl, rfl, hus, HU, HM, HB⟩ := hrel
    by_cases hlt : i < k
    · have hltI : (i : Int) < (k : Int) := by omega
      obtain ⟨d, hd⟩ : ∃ d, m % 10 = d := ⟨_, rfl⟩
      obtain ⟨q, hq⟩ : ∃ q, m / 10 = q := ⟨_, rfl⟩
      have hd10 : d < 10 := by omega
      have e1 : Int.tmod (m : Int) 10 = (d : Int) := by rw [Int.tmod_eq_emod_of_nonneg (by omega)]; omega
      have e2 : Int.tdiv (m : Int) 10 = (q : Int) := by rw [Int.tdiv_eq_ediv_of_nonneg (by omega)]; omega
      have W1 : IntKind.i64.wrap (d : Int) = (d : Int) := IntWalk.i64_in _ (by omega)
      have W2 : IntKind.i64.wrap (q : Int) = (q : Int) := IntWalk.i64_in _ (by omega)
      have W3 : IntKind.i64.wrap ((d : Int) + 1) = (d : Int) + 1 := IntWalk.i64_in _ (by omega)
      have hd0 : (0 : Int) ≤ (d : Int) := by omega
      have hd1 : (d : Int) ≤ (d : Int) + 1 := by omega
      have hd2 : (d : Int) + 1 ≤ 10 := by omega
      have T1 : ((d : Int) + 1).toNat = d + 1 := by omega
      obtain ⟨x, hx⟩ : ∃ x, (ByteArray.mk #[48, 49, 50, 51, 52, 53, 54, 55, 56, 57]).extract d (d + 1) = x := ⟨_, rfl⟩
      have hxe := lit_one hd10
      rw [hx] at hxe
      have hxs : x.size = 1 := by rw [hxe, strd_size]; rfl
      have HUU : Hid (x ++ u = strd (dgl n (i + 1))) := Lib.hid (by
        rw [hxe, HU.out, dgl_front, ← HM.out, hd]
        unfold strd
        rw [ByteArray.mk_append_mk]; rfl)
      have HMM : Hid (q = n / 10 ^ (i + 1)) := Lib.hid (by rw [← hq, HM.out, Nat.div_div_eq_div_mul, Nat.pow_succ])
      have hss : (x ++ u).size = i + 1 := by rw [ByteArray.size_append, hxs, hus]; omega
      have HSS := Lib.hid hss
      have hqq : q < 100000000 := by omega
      clear hxe hd hq hss
      go_wp2_with fail
      go_roundw
      case rel => exact ⟨i + 1, q, x ++ u, by omega, hqq, rfl, rfl, by go_num, HSS.out, HUU, HMM, HB⟩
      case measure => simp [intOf]; omega
    · have hltI : ¬ (i : Int) < (k : Int) := by omega
      have hik : i = k := by omega
      subst hik
      go_wp2_with fail
      go_ret
      exact ⟨by first | (rw [HU.out]; done) | (rw [HU.out]; rfl), HB.out⟩
end Go.Proofs.YtgghnamjjgmimaaDoor.Wk
