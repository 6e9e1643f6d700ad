/- Numbers and strings as text, both sides. Conditions: strings that are not too long; the table reads as it is laid. -/
import Derived.Test.YtglhonnmppclpaaDoorLaid
import Derived.Below
import Derived.BigQuiet
import Derived.Deep.AppendLies
import Derived.Deep.Onto
import Derived.Deep.QuietTactic
import Derived.Deep.RegionHeld3
import Derived.Deep.RegionHeldLaw
import Derived.Handy
import Derived.IntWalk
import Derived.Laws.AppendOwn
import Derived.Laws.Bits64
import Derived.Laws.IdiomStrings
import Derived.Laws.OwnMore
import Derived.Laws.RangeAny
import Derived.Laws.Rows
import Derived.Lib.AppendIntMem
import Derived.Lib.Hide
import Derived.Lib.ItoaNum
import Derived.Lib.LaidTab
import Derived.Lib.OthersKept
import Derived.Lib.SmallJoins
import Derived.LoopTactic
import Derived.Outline
import Derived.OwnWalk
import Derived.WalkKit
import Derived.WalkSmall
set_option linter.unusedSimpArgs false
set_option linter.unusedVariables false
set_option linter.unusedSimpArgs false
set_option linter.unusedVariables false
namespace Go.Proofs.YtglhonnmppclpaaDoor.Om
open Go
def bt (s : ByteArray) (i : Nat) : Int := if h : i < s.size then ((s[i]'h).toNat : Int) else 0
theorem bt_at {s : ByteArray} {i : Nat} (h : i < s.size) : ((s[i]'h).toNat : Int) = bt s i := by unfold bt; rw [dif_pos h]
end Go.Proofs.YtglhonnmppclpaaDoor.Om
set_option linter.unusedSimpArgs false
set_option linter.unusedVariables false
namespace Go.Proofs.YtglhonnmppclpaaDoor.Om
def iat (l : List Int) (i : Nat) : Int := l.getD i 0
end Go.Proofs.YtglhonnmppclpaaDoor.Om
namespace Go.Proofs.YtglhonnmppclpaaDoor.Ow
open Go.RowKit
open Go.Proofs.YtglhonnmppclpaaDoor.Om
theorem b1 (w : World) (o1 : Obj) : Below w.heap.size w (w.alloc o1) := (Below.refl _ _).alloc (Nat.le_refl _) _
theorem fot (b : Bool) : b = false ∨ b = true := by cases b <;> simp
def Bx (w : World) (g : Nat) (t : TypeId) (cs : Array Value) : Prop := w.heap[g]? = some (.cells cs t (0, 0))
theorem Bx.lt {w : World} {g : Nat} {t : TypeId} {cs : Array Value} (h : Bx w g t cs) : g < w.heap.size := by
  rcases Nat.lt_or_ge g w.heap.size with hlt | hge
  · exact hlt
  · unfold Bx at h; rw [Array.getElem?_eq_none hge] at h; cases h
theorem Bx.below {w w' : World} {B g : Nat} {t : TypeId} {cs : Array Value} (h : Bx w g t cs) (hb : Below B w w') (hg : g < B) : Bx w' g t cs := (hb.block g hg).trans h
theorem Bx.next {w w' : World} {g : Nat} {t : TypeId} {cs : Array Value} (h : Bx w g t cs) (hb : Below w.heap.size w w') : Bx w' g t cs := (hb.block g h.lt).trans h
theorem Bx.cell {w : World} {g : Nat} {t : TypeId} {cs : Array Value} (h : Bx w g t cs) (i : Nat) : w.cell? ⟨g, i, none⟩ = cs[i]? := cell_of_row w g i cs t (0, 0) h
theorem Bx.new (w : World) (t : TypeId) (cs : Array Value) : Bx (w.alloc (.cells cs t)) w.heap.size t cs := heap_alloc_new w _
theorem Bx.alloc {w : World} {g : Nat} {t : TypeId} {cs : Array Value} (h : Bx w g t cs) (o : Obj) : Bx (w.alloc o) g t cs := h.next (b1 _ _)
theorem own_below {w w' : World} {base : Nat} {e : TypeId} {size : Nat} {v : Value} {n : Nat} {xs : List Value} (h : w.ownsRow base e size v n xs) (hb : Below w.heap.size w w') : w'.ownsRow base e size v n xs := by
  refine ⟨h.1, ?_⟩
  rcases h.2 with h0 | ⟨g, cap, cur, h1, h2, h3, h4⟩
  · exact .inl h0
  · have hlt : g < w.heap.size := Bx.lt (cs := cur) (t := e) h3
    exact .inr ⟨g, cap, cur, h1, h2, (hb.block g hlt).trans h3, h4⟩
def Rk (k : IntKind) (w : World) (B : Nat) (A : Option Addr) (n : Nat) (zs : List Int) : Prop :=
  zs.length = n ∧ n ≤ 9223372036854775807 ∧ (0 < n → ∃ b off, A = some ⟨b, off, none⟩ ∧ b < B ∧ ∀ i, i < n → w.cell? ⟨b, off + i, none⟩ = some (.int k (iat zs i))) ∧ ∀ i, (Lit.int k (iat zs i)).wf = true
section
variable {k : IntKind} {w w' : World} {B B' : Nat} {A : Option Addr} {n : Nat} {zs : List Int}
theorem Rk.below (h : Rk k w B A n zs) (hb : Below B' w w') (hB : B ≤ B') : Rk k w' B A n zs := by
  refine ⟨h.1, h.2.1, fun hn => ?_, h.2.2.2⟩
  obtain ⟨b, off, e, hlt, hc⟩ := h.2.2.1 hn
  exact ⟨b, off, e, hlt, fun i hi => (hb.cell (p := ⟨b, _, none⟩) (by show b < B'; omega)).trans (hc i hi)⟩
end
def vk (k : IntKind) (l : List Int) : List Value := l.map (Value.int k)
theorem vk_at (k : IntKind) (l : List Int) (i : Nat) (h : i < l.length) : (vk k l)[i]? = some (.int k (iat l i)) := by simp [vk, iat, h]
theorem Bx.kcell {k : IntKind} {w : World} {g : Nat} {t : TypeId} {l : List Int} (h : Bx w g t (vk k l).toArray) {i : Nat} (hi : i < l.length) : w.cell? ⟨g, i, none⟩ = some (.int k (iat l i)) := by
  rw [h.cell]; simpa using vk_at k l i hi
theorem Rk.block {k : IntKind} {w : World} {g : Nat} {t : TypeId} {zs : List Int} (h : Bx w g t (vk k zs).toArray) (hl : zs.length ≤ 9223372036854775807) (hw : ∀ i, (Lit.int k (iat zs i)).wf = true) : Rk k w w.heap.size (some ⟨g, 0, none⟩) zs.length zs :=
  ⟨rfl, hl, fun _ => ⟨g, 0, rfl, h.lt, fun i hi => by rw [Nat.zero_add]; exact h.kcell hi⟩, hw⟩
end Go.Proofs.YtglhonnmppclpaaDoor.Ow
set_option linter.unusedSimpArgs false
set_option linter.unusedVariables false
namespace Go.Proofs.YtglhonnmppclpaaDoor.Om
open Go
def sat (l : List ByteArray) (i : Nat) : ByteArray := l.getD i ⟨#[]⟩
def vst (l : List ByteArray) : List Go.Value := l.map Go.Value.string
theorem vst_at (l : List ByteArray) (i : Nat) (h : i < l.length) : (vst l)[i]? = some (.string (sat l i)) := by simp [vst, sat, h]
end Go.Proofs.YtglhonnmppclpaaDoor.Om
namespace Go.Proofs.YtglhonnmppclpaaDoor.Ow
open Go.RowKit
open Go.Proofs.YtglhonnmppclpaaDoor.Om
def Rs (w : World) (B : Nat) (A : Option Addr) (n : Nat) (l : List ByteArray) : Prop :=
  l.length = n ∧ n ≤ 9223372036854775807 ∧ (0 < n → ∃ b off, A = some ⟨b, off, none⟩ ∧ b < B ∧ ∀ i, i < n → w.cell? ⟨b, off + i, none⟩ = some (.string (sat l i)))
def Os (base : Nat) (w : World) (v : Value) (l : List ByteArray) : Prop := w.ownsRow base 9 1 v l.length (vst l)
theorem Os.nil (base : Nat) (w : World) : Os base w (.slice none 0 0) [] := World.ownsRow_nil _ _ _ _
theorem Os.out {base : Nat} {w : World} {v : Value} {l : List ByteArray} (h : Os base w v l) (hl : l.length ≤ 9223372036854775807) : ∃ A c, v = .slice A l.length c ∧ l.length ≤ c ∧ Rs w w.heap.size A l.length l := by
  rcases Nat.eq_zero_or_pos l.length with h0 | h0
  · rcases h.2 with ⟨e, _⟩ | ⟨g, cap, cur, e, _⟩
    · exact ⟨none, 0, by rw [h0]; exact e, by omega, rfl, hl, fun h => by omega⟩
    · exact ⟨_, cap, e, by omega, rfl, hl, fun h => by omega⟩
  · rcases h.2 with ⟨_, h2⟩ | ⟨g, cap, cur, e, hb, hg, hc, hm, hs, ht⟩
    · omega
    · refine ⟨_, cap, e, hc, rfl, hl, fun _ => ⟨g, 0, rfl, (Array.getElem?_eq_some_iff.1 hg).1, fun i hi => ?_⟩⟩
      have h1 := vst_at l i hi
      rw [← ht, List.getElem?_take, if_pos (by omega)] at h1
      have c1 := cell_of_row w g i cur 9 (0, 0) hg
      rw [← Array.getElem?_toList] at c1
      rw [Nat.zero_add]
      exact c1.trans h1
theorem new_cell (W : World) (x : Value) (t : TypeId) (n : Nat) (h : n = W.heap.size) : ∀ j u, [x][j]? = some u → (W.alloc (.cells #[x] t)).cell? ((⟨n, 0, none⟩ : Addr).add j) = some u := by
  subst h; exact cell_one_new _ _ _
end Go.Proofs.YtglhonnmppclpaaDoor.Ow
set_option linter.unusedSimpArgs false
set_option linter.unusedVariables false
namespace Go.Proofs.YtglhonnmppclpaaDoor.Om
open Go
def dgl : Nat → Nat → List UInt8
  | _, 0 => []
  | n, k + 1 => dgl (n / 10) k ++ [UInt8.ofNat (48 + n % 10)]
theorem dgl_front : ∀ k n, dgl n (k + 1) = UInt8.ofNat (48 + n / 10 ^ k % 10) :: dgl n k := by
  intro k
  induction k with
  | zero => intro n; simp [dgl]
  | succ k ih =>
    intro n
    rw [dgl, ih (n / 10)]
    have : n / 10 / 10 ^ k = n / 10 ^ (k + 1) := by rw [Nat.div_div_eq_div_mul, Nat.pow_succ, Nat.mul_comm]
    rw [this]
    rfl
theorem dec_dgl : ∀ (k n : Nat), n / 10 ^ (k + 1) = 0 → n / 10 ^ k ≠ 0 → Lib.decDigits n = dgl n (k + 1) := by
  intro k
  induction k with
  | zero =>
    intro n h1 h2
    have h3 : n < 10 := by omega
    rw [Lib.decDigits, dif_pos h3, dgl, dgl, Nat.mod_eq_of_lt h3]
    rfl
  | succ k ih =>
    intro n h1 h2
    have e1 : n / 10 / 10 ^ (k + 1) = n / 10 ^ (k + 1 + 1) := by rw [Nat.div_div_eq_div_mul, Nat.pow_succ (n := 10) (m := k + 1), Nat.mul_comm]
    have e2 : n / 10 / 10 ^ k = n / 10 ^ (k + 1) := by rw [Nat.div_div_eq_div_mul, Nat.pow_succ (n := 10) (m := k), Nat.mul_comm]
    have h3 : ¬ n < 10 := by
      intro h3
      apply h2
      rw [← e2, Nat.div_eq_of_lt h3]
      simp
    rw [Lib.decDigits, dif_neg h3, ih (n / 10) (by rw [e1]; exact h1) (by rw [e2]; exact h2)]
    rfl
def strd (l : List UInt8) : ByteArray := ⟨l.toArray⟩
theorem dgl_len : ∀ k n, (dgl n k).length = k := by
  intro k
  induction k with
  | zero => intro n; rfl
  | succ k ih => intro n; rw [dgl, List.length_append, ih]; rfl
theorem few {n k : Nat} (hn : n ≤ 9223372036854775808) (h : k = 0 ∨ n / 10 ^ (k - 1) ≠ 0) : k ≤ 20 := by
  rcases h with h | h
  · omega
  · rcases Nat.lt_or_ge (k - 1) 19 with h1 | h1
    · omega
    · have h2 : 10 ^ 19 ≤ 10 ^ (k - 1) := Nat.pow_le_pow_right (by decide) h1
      exact absurd (Nat.div_eq_of_lt (by omega)) h
theorem strd_size (l : List UInt8) : (strd l).size = l.length := by simp [strd, ByteArray.size]
theorem lit_one {d : Nat} (h : d < 10) : (ByteArray.mk #[48, 49, 50, 51, 52, 53, 54, 55, 56, 57]).extract d (d + 1) = strd [UInt8.ofNat (48 + d)] := by
  rcases d with _ | _ | _ | _ | _ | _ | _ | _ | _ | _ | d
  all_goals first | rfl | decide | omega
theorem quo_abs (m : Int) : (Int.tdiv m 10).natAbs = m.natAbs / 10 := by rw [Int.natAbs_tdiv]; rfl
theorem rem_abs (m : Int) : (Int.tmod m 10).natAbs = m.natAbs % 10 := by
  rcases Int.lt_or_le m 0 with h | h
  · obtain ⟨a, rfl⟩ : ∃ a : Nat, m = -(a : Int) := ⟨m.natAbs, by omega⟩
    rw [Int.neg_tmod, Int.natAbs_neg, Int.natAbs_neg, Int.tmod_eq_emod_of_nonneg (by omega)]
    omega
  · rw [Int.tmod_eq_emod_of_nonneg h]
    omega
theorem quo_sgn (m : Int) : (m < 0 → Int.tdiv m 10 ≤ 0) ∧ (0 ≤ m → 0 ≤ Int.tdiv m 10) := by
  constructor
  · intro h
    obtain ⟨a, rfl⟩ : ∃ a : Nat, m = -(a : Int) := ⟨m.natAbs, by omega⟩
    rw [Int.neg_tdiv, Int.tdiv_eq_ediv_of_nonneg (by omega)]
    omega
  · intro h
    rw [Int.tdiv_eq_ediv_of_nonneg h]
    omega
def In64 (n : Int) : Prop := -9223372036854775808 ≤ n ∧ n ≤ 9223372036854775807
def fmt (n : Int) : ByteArray := ⟨(Lib.itoa n).toArray⟩
theorem fmt_zero : fmt 0 = ⟨#[48]⟩ := by
  unfold fmt Lib.itoa
  rw [if_neg (by decide), show (0 : Int).toNat = 0 from rfl, Lib.decDigits, dif_pos (by decide)]
  rfl
theorem fmt_neg {n : Int} (h : n < 0) : fmt n = ⟨#[45]⟩ ++ strd (Lib.decDigits n.natAbs) := by
  unfold fmt Lib.itoa strd
  rw [if_pos h, ByteArray.mk_append_mk]
  rfl
theorem fmt_pos {n : Int} (h : ¬ n < 0) : fmt n = strd (Lib.decDigits n.natAbs) := by
  unfold fmt Lib.itoa strd
  rw [if_neg h]
  congr 3
  omega
end Go.Proofs.YtglhonnmppclpaaDoor.Om
namespace Go.Proofs.YtglhonnmppclpaaDoor.Ow
open Go.RowKit
open Go.Proofs.YtglhonnmppclpaaDoor.Om
def Tb (w : World) : Prop := Lib.TabIs Tryd.prog w "internal/strconv.uint64pow10" .u64 Lib.pow10Tab
theorem Tb.next {w w' : World} (h : Tb w) (hb : Below w.heap.size w w') : Tb w' := Joins.tab_stays (show Tryd.prog.globalNamed "internal/strconv.uint64pow10" = some 3 by kernel_rfl) h hb (Nat.le_refl _)
theorem itoa32 (n : Int) (w : World) (hn : In64 n) (ht : Tb w) : Calls Tryd.prog 61 #[.int .i64 n] w fun e w' => e = .returned (.string (fmt n)) ∧ Below w.heap.size w w' :=
  (Any.strconv_Itoa Tryd.laysItoa n hn.1 hn.2 w ht).mono fun e w' ⟨h1, k, os, h2⟩ => ⟨h1, by subst h2; exact Lib.below_grow _ _ (Nat.le_refl _) _ _⟩
theorem format21 (n : Int) (w : World) (hn : In64 n) (ht : Tb w) : Calls Tryd.prog 25 #[.int .i64 n] w fun e w' => e = .returned (.string (fmt n)) ∧ Below w.heap.size w w' := by
  go_enter Tryd.func25, Tryd.ntmps25
  go_wp2_with fail
  go_at_call 61
  refine (itoa32 n w hn ht).mono ?_
  rintro e w1 ⟨rfl, q1⟩
  have Q1 := Lib.hid q1
  clear q1
  go_wp2_with fail
  go_ret
  exact ⟨rfl, Q1.out⟩
set_option maxHeartbeats 1000000 in
theorem format22 (n : Int) (w : World) (hn : In64 n) : Calls Tryd.prog 30 #[.int .i64 n] w fun e w' => e = .returned (.string (fmt n)) ∧ Below w.heap.size w w' := by
  go_enter Tryd.func30, Tryd.ntmps30
  by_cases hz : n = 0
  · subst hz
    go_wp2_with fail
    go_ret
    exact ⟨by rw [fmt_zero]; rfl, Below.refl _ _⟩
  · have hzb : (n == 0) = false := by simp [hz]
    have HN := Lib.hid hn
    clear hn
    go_wp2_with fail
    clear hzb
    go_loopw [3, 4, 5] (fun sv mv dv wr => ∃ (k : Nat) (m : Int) (u : ByteArray), mv = .int .i64 m ∧ sv = .string u ∧ Hid (u = strd (dgl n.natAbs k)) ∧ Hid (m.natAbs = n.natAbs / 10 ^ k) ∧ Hid (In64 m) ∧ Hid (m ≠ 0 → (m < 0 ↔ n < 0)) ∧ Hid (k = 0 ∨ n.natAbs / 10 ^ (k - 1) ≠ 0) ∧ Hid (Below w.heap.size w wr)) (fun _ mv _ _ => (intOf mv).natAbs)
    case atStart => exact ⟨0, n, ⟨#[]⟩, rfl, rfl, Lib.hid rfl, Lib.hid (by simp), HN, Lib.hid (fun _ => Iff.rfl), Lib.hid (.inl rfl), Lib.hid (Below.refl _ _)⟩
    case round =>
      obtain ⟨k, m, u, rfl, rfl, HU, HM, H6, HS, HK, HB⟩ := hrel
      have hus : u.size ≤ 20 := by
        rw [HU.out, strd_size, dgl_len]
        have := HN.out
        unfold In64 at this
        exact few (by omega) HK.out
      by_cases hm : m = 0
      · subst hm
        have hk : Hid (fmt n = if n < 0 then ⟨#[45]⟩ ++ u else u) := Lib.hid (by
          have h1 := HM.out
          have h2 := HK.out
          rcases h2 with h2 | h2
          · subst h2
            simp at h1
            omega
          · rcases k with _ | k
            · simp at h1
              omega
            · have h3 := dec_dgl k n.natAbs h1.symm h2
              split
              · next h => rw [fmt_neg h, h3, HU.out]
              · next h => rw [fmt_pos h, h3, HU.out])
        by_cases hs : n < 0
        · have HF : Hid (fmt n = ⟨#[45]⟩ ++ u) := Lib.hid (by rw [hk.out, if_pos hs])
          obtain ⟨v, hv⟩ : ∃ v, (ByteArray.mk #[45]) ++ u = v := ⟨_, rfl⟩
          have HV := Lib.hid hv
          have h45 : (ByteArray.mk #[45]).size = 1 := rfl
          clear hz hk
          go_wp2_with fail
          go_ret
          exact ⟨by rw [HF.out, HV.out]; rfl, HB.out⟩
        · have HF : Hid (fmt n = u) := Lib.hid (by rw [hk.out, if_neg hs])
          clear hz hk
          go_wp2_with fail
          go_ret
          exact ⟨by rw [HF.out]; rfl, HB.out⟩
      · have hmb : (m != 0) = true := by simp [hm]
        obtain ⟨x, hx⟩ : ∃ x, Int.tmod m 10 = x := ⟨_, rfl⟩
        obtain ⟨q, hq⟩ : ∃ q, Int.tdiv m 10 = q := ⟨_, rfl⟩
        obtain ⟨y, hy⟩ : ∃ y, x.natAbs = y := ⟨_, rfl⟩
        have hra := rem_abs m
        have hqa := quo_abs m
        have hqs := quo_sgn m
        rw [hx, hy] at hra
        rw [hq] at hqa hqs
        have hi := H6.out
        have hin : In64 q := by unfold In64 at hi ⊢; omega
        have W1 : IntKind.i64.wrap x = x := IntWalk.i64_in _ (by omega)
        have W2 : IntKind.i64.wrap q = q := IntWalk.i64_in _ hin
        have hd10 : y < 10 := by omega
        obtain ⟨z, hzz⟩ : ∃ z, (ByteArray.mk #[48, 49, 50, 51, 52, 53, 54, 55, 56, 57]).extract y (y + 1) = z := ⟨_, rfl⟩
        have hze := lit_one hd10
        rw [hzz] at hze
        have hzs : z.size = 1 := by rw [hze, strd_size]; rfl
        have HUU : Hid (z ++ u = strd (dgl n.natAbs (k + 1))) := Lib.hid (by
          rw [hze, HU.out, dgl_front, ← HM.out, hra]
          unfold strd
          rw [ByteArray.mk_append_mk]; rfl)
        have HMM : Hid (q.natAbs = n.natAbs / 10 ^ (k + 1)) := Lib.hid (by rw [hqa, HM.out, Nat.div_div_eq_div_mul, Nat.pow_succ])
        have HQS : Hid (q ≠ 0 → (q < 0 ↔ n < 0)) := Lib.hid (by have := HS.out hm; omega)
        have HKK : Hid (k + 1 = 0 ∨ n.natAbs / 10 ^ (k + 1 - 1) ≠ 0) := Lib.hid (.inr (by rw [Nat.add_sub_cancel, ← HM.out]; omega))
        have HIN := Lib.hid hin
        have HME : Hid (q.natAbs < m.natAbs) := Lib.hid (by omega)
        clear hra hqa hqs hi hin hze HU HM H6 HS HK HN hz hm
        have hd0 : (0 : Int) ≤ (y : Int) := by omega
        have hd1 : (y : Int) ≤ (y : Int) + 1 := by omega
        have hd2 : (y : Int) + 1 ≤ 10 := by omega
        have T1 : ((y : Int) + 1).toNat = y + 1 := by omega
        have W3 : IntKind.i64.wrap ((y : Int) + 1) = (y : Int) + 1 := IntWalk.i64_in _ (by omega)
        by_cases hneg : x < 0
        · have W4 : IntKind.i64.wrap (-x) = (y : Int) := by rw [IntWalk.i64_in _ (by omega)]; omega
          clear hy
          go_wp2_with fail
          go_roundw
          case rel => exact ⟨k + 1, q, z ++ u, rfl, rfl, HUU, HMM, HIN, HQS, HKK, HB⟩
          case measure => simp [intOf]; exact HME.out
        · obtain rfl : x = (y : Int) := by omega
          clear hy
          go_wp2_with fail
          go_roundw
          case rel => exact ⟨k + 1, q, z ++ u, rfl, rfl, HUU, HMM, HIN, HQS, HKK, HB⟩
          case measure => simp [intOf]; exact HME.out
end Go.Proofs.YtglhonnmppclpaaDoor.Ow
set_option linter.unusedSimpArgs false
set_option linter.unusedVariables false
namespace Go.Proofs.YtglhonnmppclpaaDoor.Om
def plB (x : Int) : Bool := decide (33 ≤ x ∧ x ≤ 126 ∧ x ≠ 37)
def dgB (x : Int) : Int := if 48 ≤ x ∧ x ≤ 57 then x - 48 else if 65 ≤ x ∧ x ≤ 70 then x - 55 else -1
end Go.Proofs.YtglhonnmppclpaaDoor.Om
namespace Go.Proofs.YtglhonnmppclpaaDoor.Ow
open Go.RowKit
open Go.Proofs.YtglhonnmppclpaaDoor.Om
theorem plain33 (x : Int) (w : World) : Calls Tryd.prog 60 #[.int .u8 x] w fun e w' => e = .returned (.bool (plB x)) ∧ Below w.heap.size w w' := by
  have key : ∀ b, plB x = b → Calls Tryd.prog 60 #[.int .u8 x] w fun e w' => e = .returned (.bool b) ∧ Below w.heap.size w w' := by
    intro b hb
    unfold plB at hb
    go_enter Tryd.func60, Tryd.ntmps60
    by_cases h1 : 32 < x
    · by_cases h2 : x ≤ 126
      · by_cases h3 : x = 37
        · subst h3
          have e5 : b = false := by rw [← hb]; decide
          clear hb
          subst e5
          go_wp2_with fail
          go_ret
          exact ⟨rfl, Below.refl _ _⟩
        · have e3 : (x != 37) = true := by simp [h3]
          have e5 : b = true := by rw [← hb]; exact decide_eq_true (by omega)
          clear hb
          subst e5
          go_wp2_with fail
          go_ret
          exact ⟨rfl, Below.refl _ _⟩
      · have e5 : b = false := by rw [← hb]; exact decide_eq_false (by omega)
        clear hb
        subst e5
        go_wp2_with fail
        go_ret
        exact ⟨rfl, Below.refl _ _⟩
    · have e5 : b = false := by rw [← hb]; exact decide_eq_false (by omega)
      clear hb
      subst e5
      go_wp2_with fail
      go_ret
      exact ⟨rfl, Below.refl _ _⟩
  exact key _ rfl
theorem plain35 (x : Int) (w : World) : Calls Tryd.prog 65 #[.int .u8 x] w fun e w' => e = .returned (.bool (plB x)) ∧ Below w.heap.size w w' := by
  have key : ∀ b, plB x = b → Calls Tryd.prog 65 #[.int .u8 x] w fun e w' => e = .returned (.bool b) ∧ Below w.heap.size w w' := by
    intro b hb
    unfold plB at hb
    go_enter Tryd.func65, Tryd.ntmps65
    by_cases h1 : 33 ≤ x
    · by_cases h2 : x ≤ 126
      · by_cases h3 : x = 37
        · subst h3
          have e5 : b = false := by rw [← hb]; decide
          clear hb
          subst e5
          go_wp2_with fail
          go_ret
          exact ⟨rfl, Below.refl _ _⟩
        · have e3 : (x != 37) = true := by simp [h3]
          have e5 : b = true := by rw [← hb]; exact decide_eq_true (by omega)
          clear hb
          subst e5
          go_wp2_with fail
          go_ret
          exact ⟨rfl, Below.refl _ _⟩
      · have e5 : b = false := by rw [← hb]; exact decide_eq_false (by omega)
        clear hb
        subst e5
        go_wp2_with fail
        go_ret
        exact ⟨rfl, Below.refl _ _⟩
    · have e5 : b = false := by rw [← hb]; exact decide_eq_false (by omega)
      clear hb
      subst e5
      go_wp2_with fail
      go_ret
      exact ⟨rfl, Below.refl _ _⟩
  exact key _ rfl
end Go.Proofs.YtglhonnmppclpaaDoor.Ow
set_option linter.unusedSimpArgs false
set_option linter.unusedVariables false
namespace Go.Proofs.YtglhonnmppclpaaDoor.Om
def EsF (s : ByteArray) : Prop := 3 ≤ s.size ∧ bt s 0 = 37 ∧ 0 ≤ dgB (bt s 1) ∧ 0 ≤ dgB (bt s 2)
instance (s : ByteArray) : Decidable (EsF s) := by unfold EsF; infer_instance
end Go.Proofs.YtglhonnmppclpaaDoor.Om
set_option linter.unusedSimpArgs false
set_option linter.unusedVariables false
namespace Go.Proofs.YtglhonnmppclpaaDoor.Om
open Go
def pl (b : UInt8) : Bool := plB (b.toNat : Int)
def hx (n : Nat) : UInt8 := UInt8.ofNat (if n < 10 then 48 + n else 55 + n)
def e1 (b : UInt8) : List UInt8 := if pl b then [b] else [37, hx (b.toNat / 16), hx (b.toNat % 16)]
def esc : List UInt8 → List UInt8
  | [] => []
  | b :: t => e1 b ++ esc t
theorem esc_app (a b : List UInt8) : esc (a ++ b) = esc a ++ esc b := by
  induction a with
  | nil => rfl
  | cons x t ih => rw [List.cons_append, esc, esc, ih, List.append_assoc]
end Go.Proofs.YtglhonnmppclpaaDoor.Om
set_option linter.unusedSimpArgs false
set_option linter.unusedVariables false
namespace Go.Proofs.YtglhonnmppclpaaDoor.Om
open Go
theorem ba_eq {a b : ByteArray} (h : a.data.toList = b.data.toList) : a = b := by
  apply ByteArray.ext
  exact Array.toList_inj.1 h
theorem bt_list (s : ByteArray) (i : Nat) (h : i < s.data.toList.length) : bt s i = ((s.data.toList[i]'h).toNat : Int) := by
  have h2 : i < s.size := by simpa using h
  rw [← bt_at h2]
  rfl
theorem emp {t : ByteArray} (h : t.size = 0) : t.toList.isEmpty = true := by
  have he : t = { data := #[] } := by
    apply ByteArray.ext
    exact Array.eq_empty_of_size_eq_zero h
  rw [he, ByteArray.toList_eq]; rfl
theorem not_emp {t : ByteArray} (h : t.size ≠ 0) : t.toList.isEmpty = false := by
  cases h1 : t.toList with
  | nil =>
    have h2 := congrArg List.length h1
    rw [ByteArray.toList_eq, Array.length_toList] at h2
    exact absurd h2 h
  | cons => rfl
end Go.Proofs.YtglhonnmppclpaaDoor.Om
set_option linter.unusedSimpArgs false
set_option linter.unusedVariables false
namespace Go.Proofs.YtglhonnmppclpaaDoor.Om
open Go
def ek (s : ByteArray) (k : Nat) : List UInt8 := esc (s.data.toList.take k)
def esS (s : ByteArray) : ByteArray := if s.size = 0 then ⟨#[37]⟩ else strd (ek s s.size)
def by_ (s : ByteArray) (k : Nat) : UInt8 := s.data.toList.getD k 0
theorem by_bt {s : ByteArray} {k : Nat} (h : k < s.size) : ((by_ s k).toNat : Int) = bt s k := by
  have h2 : k < s.data.toList.length := by simpa using h
  rw [bt_list s k h2]
  unfold by_
  rw [List.getD_eq_getElem?_getD, List.getElem?_eq_getElem h2]
  rfl
theorem take_next {s : ByteArray} {k : Nat} (h : k < s.size) : s.data.toList.take (k + 1) = s.data.toList.take k ++ [by_ s k] := by
  have h2 : k < s.data.toList.length := by simpa using h
  rw [List.take_add_one]
  unfold by_
  rw [List.getD_eq_getElem?_getD, List.getElem?_eq_getElem h2]
  rfl
theorem ek_next {s : ByteArray} {k : Nat} (h : k < s.size) : ek s (k + 1) = ek s k ++ e1 (by_ s k) := by
  unfold ek
  rw [take_next h, esc_app, esc, esc, List.append_nil]
theorem e1_len (b : UInt8) : (e1 b).length ≤ 3 := by unfold e1; split <;> simp
theorem esc_len : ∀ (l : List UInt8), (esc l).length ≤ 3 * l.length := by
  intro l
  induction l with
  | nil => exact Nat.zero_le _
  | cons b t ih =>
    rw [esc, List.length_append, List.length_cons]
    have := e1_len b
    omega
theorem ek_len (s : ByteArray) (k : Nat) : (ek s k).length ≤ 3 * k := by
  unfold ek
  have h1 := esc_len (s.data.toList.take k)
  rw [List.length_take] at h1
  omega
theorem strd_app (a b : List UInt8) : strd a ++ strd b = strd (a ++ b) := by
  unfold strd
  rw [ByteArray.mk_append_mk]; first | done | rfl
theorem ext_one {s : ByteArray} {k : Nat} (h : k < s.size) : s.extract k (k + 1) = strd [by_ s k] := by
  apply ba_eq
  have h2 : k < s.data.toList.length := by simpa using h
  unfold strd by_
  rw [ByteArray.data_extract, Array.toList_extract, List.extract_eq_take_drop, List.getD_eq_getElem?_getD, List.getElem?_eq_getElem h2, List.drop_eq_getElem_cons h2]
  simp
theorem hex_one : ∀ n : Fin 16, (ByteArray.mk #[48, 49, 50, 51, 52, 53, 54, 55, 56, 57, 65, 66, 67, 68, 69, 70]).extract n.val (n.val + 1) = strd [hx n.val] := by decide +kernel
theorem hex_one' {n : Nat} (h : n < 16) : (ByteArray.mk #[48, 49, 50, 51, 52, 53, 54, 55, 56, 57, 65, 66, 67, 68, 69, 70]).extract n (n + 1) = strd [hx n] := hex_one ⟨n, h⟩
end Go.Proofs.YtglhonnmppclpaaDoor.Om
namespace Go.Proofs.YtglhonnmppclpaaDoor.Ow
open Go.RowKit
open Go.Proofs.YtglhonnmppclpaaDoor.Om
set_option maxHeartbeats 4000000 in
set_option maxRecDepth 100000 in
theorem escape28 (s : ByteArray) (w : World) (hle : s.size ≤ 100000) : Calls Tryd.prog 29 #[.string s] w fun e w' => e = .returned (.string (esS s)) ∧ Below w.heap.size w w' := by
  go_enter Tryd.func29, Tryd.ntmps29
  by_cases h0 : s.size = 0
  · have e0 := emp h0
    have HE : Hid (esS s = ⟨#[37]⟩) := Lib.hid (if_pos h0)
    clear h0
    go_wp2_with fail
    go_ret
    exact ⟨by rw [HE.out]; rfl, Below.refl _ _⟩
  · have e0 := not_emp h0
    have HE : Hid (esS s = strd (ek s s.size)) := Lib.hid (if_neg h0)
    clear h0
    obtain ⟨n, hn⟩ : ∃ n, s.size = n := ⟨_, rfl⟩
    have hsz : ((s.size : Nat) : Int) = (n : Int) := by omega
    have hnn : n ≤ 100000 := by omega
    have HN := Lib.hid hn
    clear hn hle
    go_wp2_with fail
    clear e0
    go_loopw [3, 4, 5, 6] (fun uv iv _ _ wr => ∃ (k : Nat) (u : ByteArray), k ≤ n ∧ iv = .int .i64 k ∧ uv = .string u ∧ Hid (u = strd (ek s k)) ∧ Hid (Below w.heap.size w wr)) (fun _ iv _ _ _ => n - (intOf iv).toNat)
    case atStart => exact ⟨0, ⟨#[]⟩, Nat.zero_le _, rfl, rfl, Lib.hid rfl, Lib.hid (Below.refl _ _)⟩
    case round =>
      obtain ⟨k, u, hk, rfl, rfl, HU, HB⟩ := hrel
      have hus : u.size ≤ 300000 := by rw [HU.out, strd_size]; have := ek_len s k; omega
      by_cases hlt : k < n
      · have hltI : (k : Int) < (n : Int) := by omega
        have hks : k < s.size := by rw [HN.out]; exact hlt
        have hbb := by_bt hks
        obtain ⟨b, hb⟩ : ∃ b, by_ s k = b := ⟨_, rfl⟩
        obtain ⟨c, hc⟩ : ∃ c, b.toNat = c := ⟨_, rfl⟩
        rw [hb, hc] at hbb
        have gx := (bt_at hks).trans hbb.symm
        have hc2 : c < 256 := by rw [← hc]; exact b.toNat_lt
        have W0 : IntKind.i64.wrap ((k : Int) + 1) = (k : Int) + 1 := IntWalk.i64_in _ (by omega)
        have HEN : Hid (ek s (k + 1) = ek s k ++ e1 b) := Lib.hid (by rw [ek_next hks, hb])
        have HPL : Hid (pl b = plB (c : Int)) := Lib.hid (by unfold pl; rw [hc])
        have HBC := Lib.hid hc
        have HX1 : Hid (s.extract k (k + 1) = strd [b]) := Lib.hid (by rw [ext_one hks, hb])
        clear hb hc hbb
        go_wp2_with fail
        go_at_call 65
        refine (plain35 (c : Int) wr).mono ?_
        rintro e w1 ⟨rfl, q1⟩
        have Q1 := Lib.hid (HB.out.trans (q1.mono HB.out.size))
        clear q1
        rcases fot (plB (c : Int)) with hp | hp
        · rw [hp]
          have HEV : Hid (e1 b = [37, hx (c / 16), hx (c % 16)]) := Lib.hid (by unfold e1; rw [HPL.out, hp, if_neg (by decide), HBC.out])
          obtain ⟨h, hh⟩ : ∃ h, c / 16 = h := ⟨_, rfl⟩
          obtain ⟨l, hl⟩ : ∃ l, c % 16 = l := ⟨_, rfl⟩
          have hh16 : h < 16 := by omega
          have hl16 : l < 16 := by omega
          have T1 : Int.tdiv (c : Int) 16 = (h : Int) := by rw [Int.tdiv_eq_ediv_of_nonneg (by omega)]; omega
          have T2 : Int.tmod (c : Int) 16 = (l : Int) := by rw [Int.tmod_eq_emod_of_nonneg (by omega)]; omega
          rw [hh, hl] at HEV
          have V1 : IntKind.u8.wrap (h : Int) = (h : Int) := IntWalk.u8_in _ (by omega)
          have V2 : IntKind.u8.wrap (l : Int) = (l : Int) := IntWalk.u8_in _ (by omega)
          have W1 : IntKind.i64.wrap (h : Int) = (h : Int) := IntWalk.i64_in _ (by omega)
          have W2 : IntKind.i64.wrap (l : Int) = (l : Int) := IntWalk.i64_in _ (by omega)
          have W3 : IntKind.i64.wrap ((h : Int) + 1) = (h : Int) + 1 := IntWalk.i64_in _ (by omega)
          have W4 : IntKind.i64.wrap ((l : Int) + 1) = (l : Int) + 1 := IntWalk.i64_in _ (by omega)
          have N1 : ((h : Int) + 1).toNat = h + 1 := by omega
          have N2 : ((l : Int) + 1).toNat = l + 1 := by omega
          have i1 : (0 : Int) ≤ (h : Int) := by omega
          have i2 : (h : Int) ≤ (h : Int) + 1 := by omega
          have i3 : (h : Int) + 1 ≤ 16 := by omega
          have i4 : (0 : Int) ≤ (l : Int) := by omega
          have i5 : (l : Int) ≤ (l : Int) + 1 := by omega
          have i6 : (l : Int) + 1 ≤ 16 := by omega
          obtain ⟨y1, hy1⟩ : ∃ y, (ByteArray.mk #[48, 49, 50, 51, 52, 53, 54, 55, 56, 57, 65, 66, 67, 68, 69, 70]).extract h (h + 1) = y := ⟨_, rfl⟩
          obtain ⟨y2, hy2⟩ : ∃ y, (ByteArray.mk #[48, 49, 50, 51, 52, 53, 54, 55, 56, 57, 65, 66, 67, 68, 69, 70]).extract l (l + 1) = y := ⟨_, rfl⟩
          have Y1 : Hid (y1 = strd [hx h]) := Lib.hid (by rw [← hy1, hex_one' hh16])
          have Y2 : Hid (y2 = strd [hx l]) := Lib.hid (by rw [← hy2, hex_one' hl16])
          have s1 : y1.size = 1 := by rw [Y1.out]; rfl
          have s2 : y2.size = 1 := by rw [Y2.out]; rfl
          obtain ⟨v, hv⟩ : ∃ v, u ++ (⟨#[37]⟩ : ByteArray) = v := ⟨_, rfl⟩
          have s37 : (ByteArray.mk #[37]).size = 1 := rfl
          have sv : v.size ≤ 300001 := by rw [← hv, ByteArray.size_append]; omega
          obtain ⟨v2, hv2⟩ : ∃ v2, v ++ y1 = v2 := ⟨_, rfl⟩
          have sv2 : v2.size ≤ 300002 := by rw [← hv2, ByteArray.size_append]; omega
          obtain ⟨v3, hv3⟩ : ∃ v3, v2 ++ y2 = v3 := ⟨_, rfl⟩
          have HF : Hid (v3 = strd (ek s (k + 1))) := Lib.hid (by
            rw [← hv3, ← hv2, ← hv, HU.out, Y1.out, Y2.out, HEN.out, HEV.out]
            show strd _ ++ strd [37] ++ strd _ ++ strd _ = _
            rw [strd_app, strd_app, strd_app]
            simp)
          clear hh hl hp
          go_wp2_with fail
          go_quiet (fail)
          go_wp2_with fail
          go_quiet (fail)
          go_wp2_with fail
          go_roundw
          case rel => exact ⟨k + 1, v3, by omega, by go_num, rfl, HF, Lib.hid (below_drewN Q1.out _)⟩
          case measure => simp [intOf]; omega
        · rw [hp]
          have HEV : Hid (e1 b = [b]) := Lib.hid (by unfold e1; rw [HPL.out, hp]; rfl)
          obtain ⟨z, hz⟩ : ∃ z, s.extract k (k + 1) = z := ⟨_, rfl⟩
          have HZ : Hid (z = strd [b]) := Lib.hid (by rw [← hz, HX1.out])
          have sz : z.size = 1 := by rw [HZ.out]; rfl
          obtain ⟨v, hv⟩ : ∃ v, u ++ z = v := ⟨_, rfl⟩
          have HF : Hid (v = strd (ek s (k + 1))) := Lib.hid (by rw [← hv, HU.out, HZ.out, HEN.out, HEV.out, strd_app])
          have j1 : (k : Int) ≤ (k : Int) + 1 := by omega
          have j2 : (k : Int) + 1 ≤ (n : Int) := by omega
          have j3 : ((k : Int) + 1).toNat = k + 1 := by omega
          clear hp
          go_wp2_with fail
          go_roundw
          case rel => exact ⟨k + 1, v, by omega, by go_num, rfl, HF, Q1⟩
          case measure => simp [intOf]; omega
      · have hltI : ¬ (k : Int) < (n : Int) := by omega
        obtain rfl : k = n := by omega
        have HE2 : Hid (esS s = u) := Lib.hid (by rw [HE.out, HU.out, HN.out])
        go_wp2_with fail
        go_ret
        exact ⟨by rw [HE2.out]; rfl, HB.out⟩
end Go.Proofs.YtglhonnmppclpaaDoor.Ow
set_option linter.unusedSimpArgs false
set_option linter.unusedVariables false
namespace Go.Proofs.YtglhonnmppclpaaDoor.Ow
open Go.RowKit
open Go.Proofs.YtglhonnmppclpaaDoor.Om
theorem step_append_own {P : Program} {ops : Array Oper} {o : Oper} {a : Act} {w : World} {K : Act → World → Prop} {Q : Exit → Act → World → Prop} {E : Prop} (hgd : o.guard = none) (s x : Operand) (t : TypeId)
    (ho : o.op = .call { callee := .builtin .append, args := #[s, x], argTypes := #[t, t] })
    (base : Nat) (e : TypeId) (i : TypeInfo) (z : Value) (size bytes : Nat) (ht : P.underlying t = some (.slice e)) (hi : P.info? e = some i) (hz : i.zero = some z)
    (hsize : i.size = size) (hby : i.bytes = bytes) (hzs : z.cells.size = size) (hsz : 0 < size)
    (v : Value) (n : Nat) (xs : List Value) (hs : a.eval s = v) (hown : w.ownsRow base e size v n xs)
    (ad : Addr) (m c : Nat) (news : List Value) (hx : a.eval x = .slice (some ad) m c) (hl : news.length = m * size) (hc : ∀ j u, news[j]? = some u → w.cell? (ad.add j) = some u) (h1 : ∀ u ∈ news, u.oneCell' = true)
    (h63 : n + m ≤ maxLen) (hbytes : (n + m) * bytes ≤ 140737488355328) (hbase : base ≤ w.heap.size)
    (h : ∀ v' w', w'.ownsRow base e size v' (n + m) (xs ++ news) → w.grownBy w' v.ownBlock → K (a.put o.dst v') w') :
    if Region.wanted o (yielded ops a.tmps) = true then Oper.wp P o a w K Q else E := by
  have hw : Region.wanted o (yielded ops a.tmps) = true := by simp [Region.wanted, hgd]
  rw [if_pos hw]
  obtain ⟨v', w', hr, h2, h3, _⟩ := run_append_own (P := P) w base t o.type e i z size bytes ht hi hz hsize hby hzs hsz v n xs hown ad m c news hl hc h1 h63 hbytes hbase
  unfold Oper.wp execOp
  simp only [ho, resolve, invoke, builtin, Sem.run_bind, Sem.run_pure, Result.andThen_ok, List.map_toArray, List.map_cons, List.map_nil, hs, hx, hr]
  exact h v' w' h2 h3
theorem u8_info : (Tryd.prog.info? 5).map (fun i => (i.zero, i.size, i.bytes)) = some (some (.int .u8 0), 1, 1) := by kernel_rfl
def vbt (l : List UInt8) : List Value := l.map (fun b => .int .u8 (b.toNat : Int))
theorem vbt_app (a b : List UInt8) : vbt (a ++ b) = vbt a ++ vbt b := List.map_append
theorem vbt_at (l : List UInt8) (i : Nat) (h : i < l.length) : (vbt l)[i]? = some (.int .u8 ((l[i]'h).toNat : Int)) := by simp [vbt, h]
def Ob (base : Nat) (w : World) (v : Value) (l : List UInt8) : Prop := w.ownsRow base 5 1 v l.length (vbt l)
theorem Ob.nil (base : Nat) (w : World) : Ob base w (.slice none 0 0) [] := World.ownsRow_nil _ _ _ _
theorem Ob.below {base : Nat} {w w' : World} {v : Value} {l : List UInt8} (h : Ob base w v l) (hb : Below w.heap.size w w') : Ob base w' v l := own_below h hb
theorem Ob.more {base : Nat} {w : World} {v : Value} {l m : List UInt8} {n : Nat} (h : w.ownsRow base 5 1 v n (vbt l ++ vbt m)) (hn : n = (l ++ m).length) : Ob base w v (l ++ m) := by
  subst hn
  unfold Ob
  rw [vbt_app]
  exact h
set_option maxRecDepth 100000 in
theorem Ob.conv {base : Nat} {w : World} {v : Value} {l : List UInt8} (h : Ob base w v l) (hl : 0 < l.length) : ∃ g cap, v = .slice (some ⟨g, 0, none⟩) l.length cap ∧ (convert 86 9 (.slice (some ⟨g, 0, none⟩) l.length cap)).run Tryd.prog w = .ok (.string (strd l)) w := by
  obtain ⟨g, cap, hv, _, _⟩ := World.ownsRow.form h hl
  refine ⟨g, cap, hv, ?_⟩
  subst hv
  exact run_convert_bytes_back (P := Tryd.prog) w 86 9 5 ⟨g, 0, none⟩ cap l Tryd.underlying86 Tryd.underlying5 Tryd.underlying9 (fun j hj => World.ownsRow.cells h (g := g) rfl j _ (vbt_at l j hj))
theorem one_byte (x : Int) : ∀ u ∈ [Value.int .u8 x], u.oneCell' = true := by
  intro u hu; simp at hu; subst hu; rfl
theorem three_bytes (x y z : Int) : ∀ u ∈ [Value.int .u8 x, .int .u8 y, .int .u8 z], u.oneCell' = true := by
  intro u hu; simp at hu; rcases hu with rfl | rfl | rfl <;> rfl
theorem new_cells3 (W : World) (x y z : Value) (t : TypeId) (n : Nat) (h : n = W.heap.size) : ∀ j u, [x, y, z][j]? = some u → (W.alloc (.cells #[x, y, z] t)).cell? ((⟨n, 0, none⟩ : Addr).add j) = some u := by
  subst h
  intro j u hj
  have hb := Bx.new W t #[x, y, z]
  have e : (⟨W.heap.size, 0, none⟩ : Addr).add j = ⟨W.heap.size, j, none⟩ := by unfold Addr.add; by_cases h : j = 0 <;> simp [h]
  rw [e, hb.cell]
  simpa using hj
end Go.Proofs.YtglhonnmppclpaaDoor.Ow
set_option linter.unusedSimpArgs false
set_option linter.unusedVariables false
namespace Go.Proofs.YtglhonnmppclpaaDoor.Ow
open Go.RowKit
open Go.Proofs.YtglhonnmppclpaaDoor.Om
theorem hex_bt : ∀ n : Fin 16, bt ⟨#[48, 49, 50, 51, 52, 53, 54, 55, 56, 57, 65, 66, 67, 68, 69, 70]⟩ n.val = ((hx n.val).toNat : Int) := by decide +kernel
theorem and15 : ∀ n : Fin 256, bits BinOp.and IntKind.u8 (n.val : Int) 15 = ((n.val % 16 : Nat) : Int) := by decide +kernel
set_option maxHeartbeats 4000000 in
set_option maxRecDepth 100000 in
theorem escape27 (s : ByteArray) (w : World) (hle : s.size ≤ 100000) : Calls Tryd.prog 24 #[.string s] w fun e w' => e = .returned (.string (esS s)) ∧ Below w.heap.size w w' := by
  obtain ⟨i0, hi0, hz0, hs0, hb0'⟩ := info_parts u8_info
  go_enter Tryd.func24, Tryd.ntmps24
  by_cases h0 : s.size = 0
  · have e0 := emp h0
    have HE : Hid (esS s = ⟨#[37]⟩) := Lib.hid (if_pos h0)
    clear h0
    go_wp2_with fail
    go_ret
    exact ⟨by rw [HE.out]; rfl, Below.refl _ _⟩
  · have e0 := not_emp h0
    have HE : Hid (esS s = strd (ek s s.size)) := Lib.hid (if_neg h0)
    obtain ⟨n, hn⟩ : ∃ n, s.size = n := ⟨_, rfl⟩
    have hsz : ((s.size : Nat) : Int) = (n : Int) := by omega
    have hnn : n ≤ 100000 := by omega
    have hn0 : 0 < n := by omega
    have HN := Lib.hid hn
    have HB0 := Lib.hid hb0'
    clear hn hle h0
    go_wp2_with (first | (at_make; go_loud (refine wpList_make_own _ rfl _ _ 86 rfl w.heap.size 5 i0 (.int .u8 0) 1 Tryd.underlying86 hi0 hz0 hs0 .i64 .i64 _ n rfl rfl (by first | rfl | exact hsz) (by rw [HB0.out]; omega) (by unfold maxLen; omega) (Nat.le_refl _) ?_; intro w1 hown hgrow)) | fail)
    clear e0
    have HO0 : Hid (Ob w.heap.size w1 (.slice (some ⟨w.heap.size, 0, none⟩) 0 n) (ek s 0)) := Lib.hid hown
    have HB1 : Hid (Below w.heap.size w w1) := Lib.hid ((Below.refl _ _).grown hgrow (Nat.le_refl _) (fun k hk => by cases hk))
    clear hown hgrow
    go_loopw [3, 4, 5, 13] (fun v _ _ iv wr => ∃ (k : Nat), k ≤ n ∧ iv = .int .i64 k ∧ Hid (Ob w.heap.size wr v (ek s k)) ∧ Hid (Below w.heap.size w wr)) (fun _ _ _ iv _ => n - (intOf iv).toNat)
    case atStart => exact ⟨0, Nat.zero_le _, rfl, HO0, HB1⟩
    case round =>
      obtain ⟨k, hk, rfl, HO, HB⟩ := hrel
      clear HO0 HB1
      by_cases hlt : k < n
      · have hltI : (k : Int) < (n : Int) := by omega
        have hks : k < s.size := by rw [HN.out]; exact hlt
        have hbb := by_bt hks
        obtain ⟨b, hb⟩ : ∃ b, by_ s k = b := ⟨_, rfl⟩
        obtain ⟨c, hc⟩ : ∃ c, b.toNat = c := ⟨_, rfl⟩
        rw [hb, hc] at hbb
        have gx := (bt_at hks).trans hbb.symm
        have hc2 : c < 256 := by rw [← hc]; exact b.toNat_lt
        have W0 : IntKind.i64.wrap ((k : Int) + 1) = (k : Int) + 1 := IntWalk.i64_in _ (by omega)
        have HEN : Hid (ek s (k + 1) = ek s k ++ e1 b) := Lib.hid (by rw [ek_next hks, hb])
        have HPL : Hid (pl b = plB (c : Int)) := Lib.hid (by unfold pl; rw [hc])
        have HBC := Lib.hid hc
        clear hb hc hbb
        go_wp2_with fail
        go_at_call 60
        refine (plain33 (c : Int) wr).mono ?_
        rintro e w1 ⟨rfl, q1⟩
        have hgw : w.heap.size ≤ w1.heap.size := Nat.le_trans HB.out.size q1.size
        have HO1 := Lib.hid (HO.out.below q1)
        have Q1 := Lib.hid (HB.out.trans (q1.mono HB.out.size))
        have C4 : Hid ((ek s k).length + 1 ≤ maxLen) := Lib.hid (by have := ek_len s k; unfold maxLen; omega)
        have C5 : Hid (((ek s k).length + 1) * 1 ≤ 140737488355328) := Lib.hid (by have := ek_len s k; omega)
        have D4 : Hid ((ek s k).length + 3 ≤ maxLen) := Lib.hid (by have := ek_len s k; unfold maxLen; omega)
        have D5 : Hid (((ek s k).length + 3) * 1 ≤ 140737488355328) := Lib.hid (by have := ek_len s k; omega)
        clear q1
        rcases fot (plB (c : Int)) with hp | hp
        · rw [hp]
          have HEV : Hid (e1 b = [37, hx (c / 16), hx (c % 16)]) := Lib.hid (by unfold e1; rw [HPL.out, hp, if_neg (by decide), HBC.out])
          obtain ⟨h, hh⟩ : ∃ h, c / 16 = h := ⟨_, rfl⟩
          obtain ⟨l, hl⟩ : ∃ l, c % 16 = l := ⟨_, rfl⟩
          have hh16 : h < 16 := by omega
          have hl16 : l < 16 := by omega
          have T1 : (c : Int) / 16 = (h : Int) := by omega
          have T2 : bits BinOp.and IntKind.u8 (c : Int) 15 = (l : Int) := by have := and15 ⟨c, hc2⟩; rw [hl] at this; exact this
          rw [hh, hl] at HEV
          obtain ⟨x1, hx1⟩ : ∃ x, hx h = x := ⟨_, rfl⟩
          obtain ⟨x2, hx2⟩ : ∃ x, hx l = x := ⟨_, rfl⟩
          rw [hx1, hx2] at HEV
          have k1 : h < (ByteArray.mk #[48, 49, 50, 51, 52, 53, 54, 55, 56, 57, 65, 66, 67, 68, 69, 70]).size := hh16
          have k2 : l < (ByteArray.mk #[48, 49, 50, 51, 52, 53, 54, 55, 56, 57, 65, 66, 67, 68, 69, 70]).size := hl16
          have g1 := (bt_at k1).trans (hex_bt ⟨h, hh16⟩)
          have g2 := (bt_at k2).trans (hex_bt ⟨l, hl16⟩)
          simp only [hx1] at g1
          simp only [hx2] at g2
          have j1 : (h : Int) < 16 := by omega
          have j2 : (l : Int) < 16 := by omega
          clear hh hl hp hx1 hx2
          go_wp2_with fail
          have HOd : Hid ((w1.drew.alloc (.cells #[.int .u8 37, .int .u8 ((x1.toNat : Nat) : Int), .int .u8 ((x2.toNat : Nat) : Int)] 5)).ownsRow w.heap.size 5 1 _ (ek s k).length (vbt (ek s k))) := Lib.hid (World.ownsRow.alloc (World.ownsRow.drew HO1.out) _)
          have HGW : Hid (w.heap.size ≤ (w1.drew.alloc (.cells #[.int .u8 37, .int .u8 ((x1.toNat : Nat) : Int), .int .u8 ((x2.toNat : Nat) : Int)] 5)).heap.size) := Lib.hid (by simp; omega)
          first | (go_region_held_law (fun w' => True) (trivial) (first
            | (refine step_append_own rfl (.tmp 25) (.tmp 32) 86 rfl w.heap.size 5 i0 (.int .u8 0) 1 1 Tryd.underlying86 hi0 hz0 hs0 HB0.out rfl (by omega) _ _ _ (by first | (simp [Act.eval, Act.put]; done) | (simp [Act.eval, Act.put]; rfl)) HOd.out ⟨_, 0, none⟩ 3 3 [.int .u8 37, .int .u8 ((x1.toNat : Nat) : Int), .int .u8 ((x2.toNat : Nat) : Int)] (by first | (simp [Act.eval, Act.put]; done) | (simp [Act.eval, Act.put]; rfl)) rfl (new_cells3 _ _ _ _ _ _ (by simp)) (three_bytes _ _ _) D4.out D5.out HGW.out ?_; intro v' w9 hown hgrow))) | fail
          all_goals
            have HO9 : Hid (Ob w.heap.size w9 v' (ek s (k + 1))) := Lib.hid (by
              rw [HEN.out, HEV.out]
              exact Ob.more (m := [37, x1, x2]) (n := (ek s k).length + 3) hown (by simp))
            have HB9 : Hid (Below w.heap.size w w9) := Lib.hid ((Q1.out.alloc Q1.out.size (.cells #[.int .u8 37, .int .u8 ((x1.toNat : Nat) : Int), .int .u8 ((x2.toNat : Nat) : Int)] 5)).drew.grown hgrow (by simp; omega) (fun k hk => by have := (World.ownsRow.lt HO1.out k hk).1; omega))
            clear hown hgrow HOd HGW
            go_wp2_with fail
            exact ⟨⟨k + 1, by omega, by go_num, HO9, HB9⟩, by simp [intOf]; omega⟩
        · rw [hp]
          have HEV : Hid (e1 b = [b]) := Lib.hid (by unfold e1; rw [HPL.out, hp]; rfl)
          clear hp
          go_wp2_with (first | (go_loud (at_builtin; refine wpList_append_own _ rfl _ _ 86 rfl w.heap.size 5 i0 (.int .u8 0) 1 1 Tryd.underlying86 hi0 hz0 hs0 HB0.out rfl (by omega) _ _ _ rfl (World.ownsRow.alloc HO1.out _) ⟨_, 0, none⟩ 1 1 [.int .u8 (c : Int)] rfl rfl (new_cell _ _ _ _ (by simp)) (one_byte _) C4.out C5.out (by simp; omega) ?_)) | fail)
          intro v' w9 hown hgrow _
          have HO9 : Hid (Ob w.heap.size w9 v' (ek s (k + 1))) := Lib.hid (by rw [HEN.out, HEV.out]; refine Ob.more (m := [b]) (n := (ek s k).length + 1) ?_ (by simp); rw [← HBC.out] at hown; exact hown)
          have HB9 : Hid (Below w.heap.size w w9) := Lib.hid ((Q1.out.alloc Q1.out.size (.cells #[.int .u8 (c : Int)] 5)).grown hgrow (by simp; omega) (fun k hk => by have := (World.ownsRow.lt HO1.out k hk).1; omega))
          clear hown hgrow
          go_wp2_with fail
          go_roundw
          case rel => exact ⟨k + 1, by omega, by go_num, HO9, HB9⟩
          case measure => simp [intOf]; omega
      · have hltI : ¬ (k : Int) < (n : Int) := by omega
        obtain rfl : k = n := by omega
        have hl0 : 0 < (ek s k).length := by
          have hb := by_bt (s := s) (k := k - 1) (by rw [HN.out]; omega)
          have := ek_next (s := s) (k := k - 1) (by rw [HN.out]; omega)
          rw [show k - 1 + 1 = k by omega] at this
          rw [this, List.length_append]
          have : 0 < (e1 (by_ s (k - 1))).length := by unfold e1; split <;> simp
          omega
        obtain ⟨g, cap, rfl, hcv⟩ := HO.out.conv hl0
        have HE2 : Hid (esS s = strd (ek s k)) := Lib.hid (by rw [HE.out, HN.out])
        clear hl0
        go_wp2_with fail
        go_ret
        exact ⟨by rw [HE2.out]; rfl, HB.out⟩
end Go.Proofs.YtglhonnmppclpaaDoor.Ow
set_option linter.unusedSimpArgs false
set_option linter.unusedVariables false
namespace Go.Proofs.YtglhonnmppclpaaDoor.Om
open Go
def js (l : List ByteArray) : Nat → ByteArray
  | 0 => ⟨#[]⟩
  | k + 1 => (if 0 < k then js l k ++ ⟨#[32]⟩ else js l k) ++ sat l k
theorem js_zero (l : List ByteArray) : js l 0 = ⟨#[]⟩ := rfl
theorem js_one (l : List ByteArray) : js l 1 = sat l 0 := by
  show (if 0 < 0 then _ else (⟨#[]⟩ : ByteArray)) ++ sat l 0 = _
  rw [if_neg (by decide)]
  exact ByteArray.empty_append
theorem js_next (l : List ByteArray) {k : Nat} (h : 0 < k) : js l (k + 1) = js l k ++ ⟨#[32]⟩ ++ sat l k := by
  show (if 0 < k then _ else _) ++ _ = _
  rw [if_pos h]
theorem js_step (l : List ByteArray) (k : Nat) : (js l k).size + (if k = 0 then 0 else 1) ≤ (js l (k + 1)).size := by
  rcases k with _ | k
  · have h0 : (js l 0).size = 0 := rfl
    rw [if_pos rfl, h0]
    exact Nat.zero_le _
  · have e := congrArg ByteArray.size (js_next l (k := k + 1) (by omega))
    rw [ByteArray.size_append, ByteArray.size_append] at e
    have h1 : (ByteArray.mk #[32]).size = 1 := rfl
    rw [if_neg (by omega)]
    omega
theorem js_mono (l : List ByteArray) {k j : Nat} (h : k ≤ j) : (js l k).size ≤ (js l j).size := by
  obtain ⟨d, rfl⟩ : ∃ d, j = k + d := ⟨j - k, by omega⟩
  induction d with
  | zero => exact Nat.le_refl _
  | succ d ih =>
    have h1 := ih (by omega)
    have h2 := js_step l (k + d)
    rw [Nat.add_assoc] at h2
    exact Nat.le_trans h1 (Nat.le_trans (Nat.le_add_right _ _) h2)
theorem js_many (l : List ByteArray) : ∀ k, k ≤ (js l k).size + 1 := by
  intro k
  induction k with
  | zero => omega
  | succ k ih =>
    have h2 := js_step l k
    split at h2
    · subst k; omega
    · omega
theorem ba_app (a b : ByteArray) : a ++ b = ⟨(a.data.toList ++ b.data.toList).toArray⟩ := by
  apply ByteArray.ext
  rw [ByteArray.data_append]
  simp
theorem js_join (l : List ByteArray) : ∀ k, k ≤ l.length → js l k = ⟨(Lib.join ((l.take k).map (·.data.toList)) [32]).toArray⟩ := by
  intro k
  induction k with
  | zero => intro _; simp [js_zero, Lib.join_nil]
  | succ k ih =>
    intro hk
    have h1 := ih (by omega)
    have ht : l.take (k + 1) = l.take k ++ [sat l k] := by
      rw [List.take_add_one]
      simp [sat, show k < l.length by omega]
    rw [ht, List.map_append]
    rcases Nat.eq_zero_or_pos k with h0 | h0
    · subst h0
      rw [js_one]
      simp [Lib.join_one]
    · rw [js_next l h0, h1]
      match hx : l.take k with
      | [] =>
        have := congrArg List.length hx
        rw [List.length_take, List.length_nil] at this
        omega
      | a :: r =>
        rw [List.map_cons, List.cons_append, Lib.join_cons, Lib.join_cons]
        rw [ba_app, ba_app]
        simp [Lib.joinTail]
end Go.Proofs.YtglhonnmppclpaaDoor.Om
namespace Go.Proofs.YtglhonnmppclpaaDoor.Ow
open Go.RowKit
open Go.Proofs.YtglhonnmppclpaaDoor.Om
theorem join37 (A : Option Addr) (n c : Nat) (l : List ByteArray) (w : World) (h : Rs w w.heap.size A n l) (hc : n ≤ c) (hs : (js l n).size ≤ 1000000) : Calls Tryd.prog 48 #[.slice A n c, .string ⟨#[32]⟩] w fun e w' => e = .returned (.string (js l n)) ∧ Below w.heap.size w w' := by
  rcases Nat.eq_zero_or_pos n with h0 | h0
  · subst h0
    exact (Any.strings_Join_none Tryd.laysJoin Tryd.joinExtra A c ⟨#[32]⟩ w).mono fun e w' ⟨he, hw⟩ => ⟨he, hw ▸ Below.refl _ _⟩
  · obtain ⟨b, off, rfl, hb, hcell⟩ := h.2.2 h0
    have hl := h.1
    have hj := js_join l n (by omega)
    rw [List.take_of_length_le (show l.length ≤ n by omega)] at hj
    have hm := js_many l n
    subst hl
    have hsz : (Lib.join (l.map (·.data.toList)) [32]).length = (js l l.length).size := by rw [hj]; simp [ByteArray.size]
    refine (Any.strings_Join Tryd.laysJoin Tryd.joinExtra b off c l ⟨#[32]⟩ w (fun j x hx => ?_) hb (by omega) hc ?_).mono fun e w' ⟨he, hw⟩ => ⟨?_, hw⟩
    · have hjl := (List.getElem?_eq_some_iff.1 hx).1
      rw [hcell j hjl]
      have : sat l j = x := by unfold sat; rw [List.getD_eq_getElem?_getD, hx]; rfl
      rw [this]
    · show (Lib.join (l.map (·.data.toList)) [32]).length ≤ _
      rw [hsz]; omega
    · rw [he, hj]
theorem join29 (A : Option Addr) (n c : Nat) (l : List ByteArray) (w : World) (h : Rs w w.heap.size A n l) (hc : n ≤ c) (hs : (js l n).size ≤ 1000000) : Calls Tryd.prog 59 #[.slice A n c] w fun e w' => e = .returned (.string (js l n)) ∧ Below w.heap.size w w' := by
  go_enter Tryd.func59, Tryd.ntmps59
  go_wp2_with fail
  go_at_call 48
  refine (join37 A n c l w h hc hs).mono ?_
  rintro e w1 ⟨rfl, q1⟩
  have Q1 := Lib.hid q1
  clear q1
  go_wp2_with fail
  go_ret
  exact ⟨rfl, Q1.out⟩
end Go.Proofs.YtglhonnmppclpaaDoor.Ow
