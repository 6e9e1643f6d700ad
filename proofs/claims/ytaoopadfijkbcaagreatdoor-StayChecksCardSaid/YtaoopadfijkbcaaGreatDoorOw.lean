/- Numbers as text, both sides. Condition: the table reads as it is laid. -/
import Derived.Test.YtaoopadfijkbcaaGreatDoorLaid
import Derived.Below
import Derived.BigQuiet
import Derived.Deep.AppendLies
import Derived.Deep.Onto
import Derived.Deep.QuietTactic
import Derived.Deep.RegionHeld3
import Derived.Handy
import Derived.IntWalk
import Derived.Laws.AppendOwn
import Derived.Laws.Bits64
import Derived.Laws.OwnMore
import Derived.Laws.RangeAny
import Derived.Laws.Rows
import Derived.Lib.AppendIntMem
import Derived.Lib.Hide
import Derived.Lib.ItoaNum
import Derived.Lib.LaidTab
import Derived.Lib.OthersKept
import Derived.Lib.SmallJoins
import Derived.LoopTactic
import Derived.Outline
import Derived.OwnWalk
import Derived.WalkKit
import Derived.WalkSmall
set_option linter.unusedSimpArgs false
set_option linter.unusedVariables false
set_option linter.unusedSimpArgs false
set_option linter.unusedVariables false
namespace Go.Proofs.YtaoopadfijkbcaaGreatDoor.Om
open Go
end Go.Proofs.YtaoopadfijkbcaaGreatDoor.Om
set_option linter.unusedSimpArgs false
set_option linter.unusedVariables false
namespace Go.Proofs.YtaoopadfijkbcaaGreatDoor.Om
def iat (l : List Int) (i : Nat) : Int := l.getD i 0
end Go.Proofs.YtaoopadfijkbcaaGreatDoor.Om
namespace Go.Proofs.YtaoopadfijkbcaaGreatDoor.Ow
open Go.RowKit
open Go.Proofs.YtaoopadfijkbcaaGreatDoor.Om
def Bx (w : World) (g : Nat) (t : TypeId) (cs : Array Value) : Prop := w.heap[g]? = some (.cells cs t (0, 0))
theorem Bx.lt {w : World} {g : Nat} {t : TypeId} {cs : Array Value} (h : Bx w g t cs) : g < w.heap.size := by
  rcases Nat.lt_or_ge g w.heap.size with hlt | hge
  · exact hlt
  · unfold Bx at h; rw [Array.getElem?_eq_none hge] at h; cases h
theorem Bx.next {w w' : World} {g : Nat} {t : TypeId} {cs : Array Value} (h : Bx w g t cs) (hb : Below w.heap.size w w') : Bx w' g t cs := (hb.block g h.lt).trans h
theorem Bx.cell {w : World} {g : Nat} {t : TypeId} {cs : Array Value} (h : Bx w g t cs) (i : Nat) : w.cell? ⟨g, i, none⟩ = cs[i]? := cell_of_row w g i cs t (0, 0) h
def Rk (k : IntKind) (w : World) (B : Nat) (A : Option Addr) (n : Nat) (zs : List Int) : Prop :=
  zs.length = n ∧ n ≤ 9223372036854775807 ∧ (0 < n → ∃ b off, A = some ⟨b, off, none⟩ ∧ b < B ∧ ∀ i, i < n → w.cell? ⟨b, off + i, none⟩ = some (.int k (iat zs i))) ∧ ∀ i, (Lit.int k (iat zs i)).wf = true
section
variable {k : IntKind} {w w' : World} {B B' : Nat} {A : Option Addr} {n : Nat} {zs : List Int}
end
def vk (k : IntKind) (l : List Int) : List Value := l.map (Value.int k)
theorem vk_at (k : IntKind) (l : List Int) (i : Nat) (h : i < l.length) : (vk k l)[i]? = some (.int k (iat l i)) := by simp [vk, iat, h]
theorem Bx.kcell {k : IntKind} {w : World} {g : Nat} {t : TypeId} {l : List Int} (h : Bx w g t (vk k l).toArray) {i : Nat} (hi : i < l.length) : w.cell? ⟨g, i, none⟩ = some (.int k (iat l i)) := by
  rw [h.cell]; simpa using vk_at k l i hi
theorem Rk.block {k : IntKind} {w : World} {g : Nat} {t : TypeId} {zs : List Int} (h : Bx w g t (vk k zs).toArray) (hl : zs.length ≤ 9223372036854775807) (hw : ∀ i, (Lit.int k (iat zs i)).wf = true) : Rk k w w.heap.size (some ⟨g, 0, none⟩) zs.length zs :=
  ⟨rfl, hl, fun _ => ⟨g, 0, rfl, h.lt, fun i hi => by rw [Nat.zero_add]; exact h.kcell hi⟩, hw⟩
end Go.Proofs.YtaoopadfijkbcaaGreatDoor.Ow
set_option linter.unusedSimpArgs false
set_option linter.unusedVariables false
namespace Go.Proofs.YtaoopadfijkbcaaGreatDoor.Om
open Go
def sat (l : List ByteArray) (i : Nat) : ByteArray := l.getD i ⟨#[]⟩
def vst (l : List ByteArray) : List Go.Value := l.map Go.Value.string
theorem vst_at (l : List ByteArray) (i : Nat) (h : i < l.length) : (vst l)[i]? = some (.string (sat l i)) := by simp [vst, sat, h]
end Go.Proofs.YtaoopadfijkbcaaGreatDoor.Om
namespace Go.Proofs.YtaoopadfijkbcaaGreatDoor.Ow
open Go.RowKit
open Go.Proofs.YtaoopadfijkbcaaGreatDoor.Om
def Rs (w : World) (B : Nat) (A : Option Addr) (n : Nat) (l : List ByteArray) : Prop :=
  l.length = n ∧ n ≤ 9223372036854775807 ∧ (0 < n → ∃ b off, A = some ⟨b, off, none⟩ ∧ b < B ∧ ∀ i, i < n → w.cell? ⟨b, off + i, none⟩ = some (.string (sat l i)))
def Os (base : Nat) (w : World) (v : Value) (l : List ByteArray) : Prop := w.ownsRow base 9 1 v l.length (vst l)
theorem Os.out {base : Nat} {w : World} {v : Value} {l : List ByteArray} (h : Os base w v l) (hl : l.length ≤ 9223372036854775807) : ∃ A c, v = .slice A l.length c ∧ l.length ≤ c ∧ Rs w w.heap.size A l.length l := by
  rcases Nat.eq_zero_or_pos l.length with h0 | h0
  · rcases h.2 with ⟨e, _⟩ | ⟨g, cap, cur, e, _⟩
    · exact ⟨none, 0, by rw [h0]; exact e, by omega, rfl, hl, fun h => by omega⟩
    · exact ⟨_, cap, e, by omega, rfl, hl, fun h => by omega⟩
  · rcases h.2 with ⟨_, h2⟩ | ⟨g, cap, cur, e, hb, hg, hc, hm, hs, ht⟩
    · omega
    · refine ⟨_, cap, e, hc, rfl, hl, fun _ => ⟨g, 0, rfl, (Array.getElem?_eq_some_iff.1 hg).1, fun i hi => ?_⟩⟩
      have h1 := vst_at l i hi
      rw [← ht, List.getElem?_take, if_pos (by omega)] at h1
      have c1 := cell_of_row w g i cur 9 (0, 0) hg
      rw [← Array.getElem?_toList] at c1
      rw [Nat.zero_add]
      exact c1.trans h1
end Go.Proofs.YtaoopadfijkbcaaGreatDoor.Ow
set_option linter.unusedSimpArgs false
set_option linter.unusedVariables false
namespace Go.Proofs.YtaoopadfijkbcaaGreatDoor.Om
open Go
def dgl : Nat → Nat → List UInt8
  | _, 0 => []
  | n, k + 1 => dgl (n / 10) k ++ [UInt8.ofNat (48 + n % 10)]
theorem dgl_front : ∀ k n, dgl n (k + 1) = UInt8.ofNat (48 + n / 10 ^ k % 10) :: dgl n k := by
  intro k
  induction k with
  | zero => intro n; simp [dgl]
  | succ k ih =>
    intro n
    rw [dgl, ih (n / 10)]
    have : n / 10 / 10 ^ k = n / 10 ^ (k + 1) := by rw [Nat.div_div_eq_div_mul, Nat.pow_succ, Nat.mul_comm]
    rw [this]
    rfl
theorem dec_dgl : ∀ (k n : Nat), n / 10 ^ (k + 1) = 0 → n / 10 ^ k ≠ 0 → Lib.decDigits n = dgl n (k + 1) := by
  intro k
  induction k with
  | zero =>
    intro n h1 h2
    have h3 : n < 10 := by omega
    rw [Lib.decDigits, dif_pos h3, dgl, dgl, Nat.mod_eq_of_lt h3]
    rfl
  | succ k ih =>
    intro n h1 h2
    have e1 : n / 10 / 10 ^ (k + 1) = n / 10 ^ (k + 1 + 1) := by rw [Nat.div_div_eq_div_mul, Nat.pow_succ (n := 10) (m := k + 1), Nat.mul_comm]
    have e2 : n / 10 / 10 ^ k = n / 10 ^ (k + 1) := by rw [Nat.div_div_eq_div_mul, Nat.pow_succ (n := 10) (m := k), Nat.mul_comm]
    have h3 : ¬ n < 10 := by
      intro h3
      apply h2
      rw [← e2, Nat.div_eq_of_lt h3]
      simp
    rw [Lib.decDigits, dif_neg h3, ih (n / 10) (by rw [e1]; exact h1) (by rw [e2]; exact h2)]
    rfl
def strd (l : List UInt8) : ByteArray := ⟨l.toArray⟩
theorem dgl_len : ∀ k n, (dgl n k).length = k := by
  intro k
  induction k with
  | zero => intro n; rfl
  | succ k ih => intro n; rw [dgl, List.length_append, ih]; rfl
theorem few {n k : Nat} (hn : n ≤ 9223372036854775808) (h : k = 0 ∨ n / 10 ^ (k - 1) ≠ 0) : k ≤ 20 := by
  rcases h with h | h
  · omega
  · rcases Nat.lt_or_ge (k - 1) 19 with h1 | h1
    · omega
    · have h2 : 10 ^ 19 ≤ 10 ^ (k - 1) := Nat.pow_le_pow_right (by decide) h1
      exact absurd (Nat.div_eq_of_lt (by omega)) h
theorem strd_size (l : List UInt8) : (strd l).size = l.length := by simp [strd, ByteArray.size]
theorem lit_one {d : Nat} (h : d < 10) : (ByteArray.mk #[48, 49, 50, 51, 52, 53, 54, 55, 56, 57]).extract d (d + 1) = strd [UInt8.ofNat (48 + d)] := by
  rcases d with _ | _ | _ | _ | _ | _ | _ | _ | _ | _ | d
  all_goals first | rfl | decide | omega
theorem quo_abs (m : Int) : (Int.tdiv m 10).natAbs = m.natAbs / 10 := by rw [Int.natAbs_tdiv]; rfl
theorem rem_abs (m : Int) : (Int.tmod m 10).natAbs = m.natAbs % 10 := by
  rcases Int.lt_or_le m 0 with h | h
  · obtain ⟨a, rfl⟩ : ∃ a : Nat, m = -(a : Int) := ⟨m.natAbs, by omega⟩
    rw [Int.neg_tmod, Int.natAbs_neg, Int.natAbs_neg, Int.tmod_eq_emod_of_nonneg (by omega)]
    omega
  · rw [Int.tmod_eq_emod_of_nonneg h]
    omega
theorem quo_sgn (m : Int) : (m < 0 → Int.tdiv m 10 ≤ 0) ∧ (0 ≤ m → 0 ≤ Int.tdiv m 10) := by
  constructor
  · intro h
    obtain ⟨a, rfl⟩ : ∃ a : Nat, m = -(a : Int) := ⟨m.natAbs, by omega⟩
    rw [Int.neg_tdiv, Int.tdiv_eq_ediv_of_nonneg (by omega)]
    omega
  · intro h
    rw [Int.tdiv_eq_ediv_of_nonneg h]
    omega
def In64 (n : Int) : Prop := -9223372036854775808 ≤ n ∧ n ≤ 9223372036854775807
def fmt (n : Int) : ByteArray := ⟨(Lib.itoa n).toArray⟩
theorem fmt_zero : fmt 0 = ⟨#[48]⟩ := by
  unfold fmt Lib.itoa
  rw [if_neg (by decide), show (0 : Int).toNat = 0 from rfl, Lib.decDigits, dif_pos (by decide)]
  rfl
theorem fmt_neg {n : Int} (h : n < 0) : fmt n = ⟨#[45]⟩ ++ strd (Lib.decDigits n.natAbs) := by
  unfold fmt Lib.itoa strd
  rw [if_pos h, ByteArray.mk_append_mk]
  rfl
theorem fmt_pos {n : Int} (h : ¬ n < 0) : fmt n = strd (Lib.decDigits n.natAbs) := by
  unfold fmt Lib.itoa strd
  rw [if_neg h]
  congr 3
  omega
end Go.Proofs.YtaoopadfijkbcaaGreatDoor.Om
namespace Go.Proofs.YtaoopadfijkbcaaGreatDoor.Ow
open Go.RowKit
open Go.Proofs.YtaoopadfijkbcaaGreatDoor.Om
def Tb (w : World) : Prop := Lib.TabIs Tryz.prog w "internal/strconv.uint64pow10" .u64 Lib.pow10Tab
theorem Tb.next {w w' : World} (h : Tb w) (hb : Below w.heap.size w w') : Tb w' := Joins.tab_stays (show Tryz.prog.globalNamed "internal/strconv.uint64pow10" = some 3 by kernel_rfl) h hb (Nat.le_refl _)
theorem itoa32 (n : Int) (w : World) (hn : In64 n) (ht : Tb w) : Calls Tryz.prog 66 #[.int .i64 n] w fun e w' => e = .returned (.string (fmt n)) ∧ Below w.heap.size w w' :=
  (Any.strconv_Itoa Tryz.laysItoa n hn.1 hn.2 w ht).mono fun e w' ⟨h1, k, os, h2⟩ => ⟨h1, by subst h2; exact Lib.below_grow _ _ (Nat.le_refl _) _ _⟩
theorem format21 (n : Int) (w : World) (hn : In64 n) (ht : Tb w) : Calls Tryz.prog 34 #[.int .i64 n] w fun e w' => e = .returned (.string (fmt n)) ∧ Below w.heap.size w w' := by
  go_enter Tryz.func34, Tryz.ntmps34
  go_wp2_with fail
  go_at_call 66
  refine (itoa32 n w hn ht).mono ?_
  rintro e w1 ⟨rfl, q1⟩
  have Q1 := Lib.hid q1
  clear q1
  go_wp2_with fail
  go_ret
  exact ⟨rfl, Q1.out⟩
set_option maxHeartbeats 1000000 in
theorem format22 (n : Int) (w : World) (hn : In64 n) : Calls Tryz.prog 35 #[.int .i64 n] w fun e w' => e = .returned (.string (fmt n)) ∧ Below w.heap.size w w' := by
  go_enter Tryz.func35, Tryz.ntmps35
  by_cases hz : n = 0
  · subst hz
    go_wp2_with fail
    go_ret
    exact ⟨by rw [fmt_zero]; rfl, Below.refl _ _⟩
  · have hzb : (n == 0) = false := by simp [hz]
    have HN := Lib.hid hn
    clear hn
    go_wp2_with fail
    clear hzb
    go_loopw [3, 4, 5] (fun sv mv dv wr => ∃ (k : Nat) (m : Int) (u : ByteArray), mv = .int .i64 m ∧ sv = .string u ∧ Hid (u = strd (dgl n.natAbs k)) ∧ Hid (m.natAbs = n.natAbs / 10 ^ k) ∧ Hid (In64 m) ∧ Hid (m ≠ 0 → (m < 0 ↔ n < 0)) ∧ Hid (k = 0 ∨ n.natAbs / 10 ^ (k - 1) ≠ 0) ∧ Hid (Below w.heap.size w wr)) (fun _ mv _ _ => (intOf mv).natAbs)
    case atStart => exact ⟨0, n, ⟨#[]⟩, rfl, rfl, Lib.hid rfl, Lib.hid (by simp), HN, Lib.hid (fun _ => Iff.rfl), Lib.hid (.inl rfl), Lib.hid (Below.refl _ _)⟩
    case round =>
      obtain ⟨k, m, u, rfl, rfl, HU, HM, H6, HS, HK, HB⟩ := hrel
      have hus : u.size ≤ 20 := by
        rw [HU.out, strd_size, dgl_len]
        have := HN.out
        unfold In64 at this
        exact few (by omega) HK.out
      by_cases hm : m = 0
      · subst hm
        have hk : Hid (fmt n = if n < 0 then ⟨#[45]⟩ ++ u else u) := Lib.hid (by
          have h1 := HM.out
          have h2 := HK.out
          rcases h2 with h2 | h2
          · subst h2
            simp at h1
            omega
          · rcases k with _ | k
            · simp at h1
              omega
            · have h3 := dec_dgl k n.natAbs h1.symm h2
              split
              · next h => rw [fmt_neg h, h3, HU.out]
              · next h => rw [fmt_pos h, h3, HU.out])
        by_cases hs : n < 0
        · have HF : Hid (fmt n = ⟨#[45]⟩ ++ u) := Lib.hid (by rw [hk.out, if_pos hs])
          obtain ⟨v, hv⟩ : ∃ v, (ByteArray.mk #[45]) ++ u = v := ⟨_, rfl⟩
          have HV := Lib.hid hv
          have h45 : (ByteArray.mk #[45]).size = 1 := rfl
          clear hz hk
          go_wp2_with fail
          go_ret
          exact ⟨by rw [HF.out, HV.out]; rfl, HB.out⟩
        · have HF : Hid (fmt n = u) := Lib.hid (by rw [hk.out, if_neg hs])
          clear hz hk
          go_wp2_with fail
          go_ret
          exact ⟨by rw [HF.out]; rfl, HB.out⟩
      · have hmb : (m != 0) = true := by simp [hm]
        obtain ⟨x, hx⟩ : ∃ x, Int.tmod m 10 = x := ⟨_, rfl⟩
        obtain ⟨q, hq⟩ : ∃ q, Int.tdiv m 10 = q := ⟨_, rfl⟩
        obtain ⟨y, hy⟩ : ∃ y, x.natAbs = y := ⟨_, rfl⟩
        have hra := rem_abs m
        have hqa := quo_abs m
        have hqs := quo_sgn m
        rw [hx, hy] at hra
        rw [hq] at hqa hqs
        have hi := H6.out
        have hin : In64 q := by unfold In64 at hi ⊢; omega
        have W1 : IntKind.i64.wrap x = x := IntWalk.i64_in _ (by omega)
        have W2 : IntKind.i64.wrap q = q := IntWalk.i64_in _ hin
        have hd10 : y < 10 := by omega
        obtain ⟨z, hzz⟩ : ∃ z, (ByteArray.mk #[48, 49, 50, 51, 52, 53, 54, 55, 56, 57]).extract y (y + 1) = z := ⟨_, rfl⟩
        have hze := lit_one hd10
        rw [hzz] at hze
        have hzs : z.size = 1 := by rw [hze, strd_size]; rfl
        have HUU : Hid (z ++ u = strd (dgl n.natAbs (k + 1))) := Lib.hid (by
          rw [hze, HU.out, dgl_front, ← HM.out, hra]
          unfold strd
          rw [ByteArray.mk_append_mk]; rfl)
        have HMM : Hid (q.natAbs = n.natAbs / 10 ^ (k + 1)) := Lib.hid (by rw [hqa, HM.out, Nat.div_div_eq_div_mul, Nat.pow_succ])
        have HQS : Hid (q ≠ 0 → (q < 0 ↔ n < 0)) := Lib.hid (by have := HS.out hm; omega)
        have HKK : Hid (k + 1 = 0 ∨ n.natAbs / 10 ^ (k + 1 - 1) ≠ 0) := Lib.hid (.inr (by rw [Nat.add_sub_cancel, ← HM.out]; omega))
        have HIN := Lib.hid hin
        have HME : Hid (q.natAbs < m.natAbs) := Lib.hid (by omega)
        clear hra hqa hqs hi hin hze HU HM H6 HS HK HN hz hm
        have hd0 : (0 : Int) ≤ (y : Int) := by omega
        have hd1 : (y : Int) ≤ (y : Int) + 1 := by omega
        have hd2 : (y : Int) + 1 ≤ 10 := by omega
        have T1 : ((y : Int) + 1).toNat = y + 1 := by omega
        have W3 : IntKind.i64.wrap ((y : Int) + 1) = (y : Int) + 1 := IntWalk.i64_in _ (by omega)
        by_cases hneg : x < 0
        · have W4 : IntKind.i64.wrap (-x) = (y : Int) := by rw [IntWalk.i64_in _ (by omega)]; omega
          clear hy
          go_wp2_with fail
          go_roundw
          case rel => exact ⟨k + 1, q, z ++ u, rfl, rfl, HUU, HMM, HIN, HQS, HKK, HB⟩
          case measure => simp [intOf]; exact HME.out
        · obtain rfl : x = (y : Int) := by omega
          clear hy
          go_wp2_with fail
          go_roundw
          case rel => exact ⟨k + 1, q, z ++ u, rfl, rfl, HUU, HMM, HIN, HQS, HKK, HB⟩
          case measure => simp [intOf]; exact HME.out
end Go.Proofs.YtaoopadfijkbcaaGreatDoor.Ow
