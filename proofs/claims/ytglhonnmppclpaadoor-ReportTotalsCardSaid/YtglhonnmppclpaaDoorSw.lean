/- An amount as text, both sides. Conditions: machine integers; the table reads as it is laid. -/
import Derived.Test.YtglhonnmppclpaaDoorLaid
import Derived.Below
import Derived.BigQuiet
import Derived.ChangeSame
import Derived.Deep.AppendLies
import Derived.Deep.CutRange
import Derived.Deep.Fields
import Derived.Deep.Onto
import Derived.Deep.OwnRows
import Derived.Deep.QuietTactic
import Derived.Deep.RegionHeld3
import Derived.Deep.Slices
import Derived.IntWalk
import Derived.LaidMore
import Derived.Laws.AppendOwn
import Derived.Laws.Bits64
import Derived.Laws.IdiomStrings
import Derived.Laws.OwnMore
import Derived.Laws.Rows
import Derived.Lib.AppendIntMem
import Derived.Lib.Hide
import Derived.Lib.IndexLaws
import Derived.Lib.LaidTab
import Derived.Lib.SmallJoins
import Derived.LoopTactic
import Derived.MakeChecks
import Derived.OpenShut
import Derived.Outline
import Derived.OwnWalk
import Derived.ProofKit
import Derived.StillTailTactics
import Derived.Stop.Joined
import Derived.Stop.LaidErr
import Derived.WalkKit
import Derived.WalkSmall
set_option linter.unusedSimpArgs false
set_option linter.unusedVariables false
set_option linter.unusedSimpArgs false
set_option linter.unusedVariables false
namespace Go.Proofs.YtglhonnmppclpaaDoor.Pm
def iat (l : List Int) (i : Nat) : Int := l.getD i 0
end Go.Proofs.YtglhonnmppclpaaDoor.Pm
namespace Go.Proofs.YtglhonnmppclpaaDoor.Pw
open Go.RowKit
open Go.Proofs.YtglhonnmppclpaaDoor.Pm
theorem b1 (w : World) (o1 : Obj) : Below w.heap.size w (w.alloc o1) := (Below.refl _ _).alloc (Nat.le_refl _) _
theorem upB {w W w' : World} (h : Below w.heap.size w W) (hb : Below W.heap.size W w') : Below w.heap.size w w' := h.trans (hb.mono h.size)
def Bx (w : World) (g : Nat) (t : TypeId) (cs : Array Value) : Prop := w.heap[g]? = some (.cells cs t (0, 0))
theorem Bx.lt {w : World} {g : Nat} {t : TypeId} {cs : Array Value} (h : Bx w g t cs) : g < w.heap.size := by
  rcases Nat.lt_or_ge g w.heap.size with hlt | hge
  · exact hlt
  · unfold Bx at h; rw [Array.getElem?_eq_none hge] at h; cases h
theorem Bx.next {w w' : World} {g : Nat} {t : TypeId} {cs : Array Value} (h : Bx w g t cs) (hb : Below w.heap.size w w') : Bx w' g t cs := (hb.block g h.lt).trans h
theorem Bx.cell {w : World} {g : Nat} {t : TypeId} {cs : Array Value} (h : Bx w g t cs) (i : Nat) : w.cell? ⟨g, i, none⟩ = cs[i]? := cell_of_row w g i cs t (0, 0) h
theorem Bx.new (w : World) (t : TypeId) (cs : Array Value) : Bx (w.alloc (.cells cs t)) w.heap.size t cs := heap_alloc_new w _
theorem Bx.alloc {w : World} {g : Nat} {t : TypeId} {cs : Array Value} (h : Bx w g t cs) (o : Obj) : Bx (w.alloc o) g t cs := h.next (b1 _ _)
def Rk (k : IntKind) (w : World) (B : Nat) (A : Option Addr) (n : Nat) (zs : List Int) : Prop :=
  zs.length = n ∧ n ≤ 9223372036854775807 ∧ (0 < n → ∃ b off, A = some ⟨b, off, none⟩ ∧ b < B ∧ ∀ i, i < n → w.cell? ⟨b, off + i, none⟩ = some (.int k (iat zs i))) ∧ ∀ i, (Lit.int k (iat zs i)).wf = true
section
variable {k : IntKind} {w w' : World} {B B' : Nat} {A : Option Addr} {n : Nat} {zs : List Int}
end
def vk (k : IntKind) (l : List Int) : List Value := l.map (Value.int k)
theorem vk_at (k : IntKind) (l : List Int) (i : Nat) (h : i < l.length) : (vk k l)[i]? = some (.int k (iat l i)) := by simp [vk, iat, h]
theorem Bx.kcell {k : IntKind} {w : World} {g : Nat} {t : TypeId} {l : List Int} (h : Bx w g t (vk k l).toArray) {i : Nat} (hi : i < l.length) : w.cell? ⟨g, i, none⟩ = some (.int k (iat l i)) := by
  rw [h.cell]; simpa using vk_at k l i hi
theorem Rk.block {k : IntKind} {w : World} {g : Nat} {t : TypeId} {zs : List Int} (h : Bx w g t (vk k zs).toArray) (hl : zs.length ≤ 9223372036854775807) (hw : ∀ i, (Lit.int k (iat zs i)).wf = true) : Rk k w w.heap.size (some ⟨g, 0, none⟩) zs.length zs :=
  ⟨rfl, hl, fun _ => ⟨g, 0, rfl, h.lt, fun i hi => by rw [Nat.zero_add]; exact h.kcell hi⟩, hw⟩
end Go.Proofs.YtglhonnmppclpaaDoor.Pw
set_option linter.unusedSimpArgs false
set_option linter.unusedVariables false
namespace Go.Proofs.YtglhonnmppclpaaDoor.Pm
open Go
end Go.Proofs.YtglhonnmppclpaaDoor.Pm
set_option linter.unusedSimpArgs false
set_option linter.unusedVariables false
namespace Go.Proofs.YtglhonnmppclpaaDoor.Pw
open Go.RowKit
open Go.Proofs.YtglhonnmppclpaaDoor.Pm
theorem u64_in (a : Nat) (h : a < 18446744073709551616) : IntKind.u64.wrap (a : Int) = (a : Int) := by rw [IntKind.wrap_u64]; omega
end Go.Proofs.YtglhonnmppclpaaDoor.Pw
set_option linter.unusedSimpArgs false
set_option linter.unusedVariables false
namespace Go.Proofs.YtglhonnmppclpaaDoor.Pm
open Go
def In64 (x : Int) : Prop := -9223372036854775808 ≤ x ∧ x ≤ 9223372036854775807
end Go.Proofs.YtglhonnmppclpaaDoor.Pm
set_option linter.unusedSimpArgs false
set_option linter.unusedVariables false
namespace Go.Proofs.YtglhonnmppclpaaDoor.Pw
open Go.RowKit
open Go.Proofs.YtglhonnmppclpaaDoor.Pm
theorem size29 (n : Int) (k : Nat) (w : World) (hn : In64 n) (hk : n.natAbs = k) : Calls Tryd.prog 62 #[.int .i64 n] w fun e w' => e = .returned (.int .u64 (k : Int)) ∧ w' = w := by
  unfold In64 at hn
  go_enter Tryd.func62, Tryd.ntmps62
  by_cases h0 : n < 0
  · obtain ⟨a, ha⟩ : ∃ a, IntKind.u64.wrap n = a := ⟨_, rfl⟩
    have W2 : IntKind.u64.wrap (-a) = (k : Int) := by rw [← ha, IntKind.wrap_u64, IntKind.wrap_u64]; omega
    go_wp2_with fail
    go_ret
    exact ⟨rfl, rfl⟩
  · have W1 : IntKind.u64.wrap n = (k : Int) := by rw [IntKind.wrap_u64]; omega
    go_wp2_with fail
    go_ret
    exact ⟨rfl, rfl⟩
end Go.Proofs.YtglhonnmppclpaaDoor.Pw
set_option linter.unusedSimpArgs false
set_option linter.unusedVariables false
namespace Go.Proofs.YtglhonnmppclpaaDoor.Pw
open Go.RowKit
open Go.Proofs.YtglhonnmppclpaaDoor.Pm
end Go.Proofs.YtglhonnmppclpaaDoor.Pw
set_option linter.unusedSimpArgs false
set_option linter.unusedVariables false
namespace Go.Proofs.YtglhonnmppclpaaDoor.Pw
open Go.RowKit
open Go.Proofs.YtglhonnmppclpaaDoor.Pm
end Go.Proofs.YtglhonnmppclpaaDoor.Pw
set_option linter.unusedSimpArgs false
set_option linter.unusedVariables false
namespace Go.Proofs.YtglhonnmppclpaaDoor.Pm
end Go.Proofs.YtglhonnmppclpaaDoor.Pm
namespace Go.Proofs.YtglhonnmppclpaaDoor.Pw
open Go.RowKit
open Go.Proofs.YtglhonnmppclpaaDoor.Pm
end Go.Proofs.YtglhonnmppclpaaDoor.Pw
set_option linter.unusedSimpArgs false
set_option linter.unusedVariables false
namespace Go.Proofs.YtglhonnmppclpaaDoor.Pw
open Go.RowKit Go.Sort Go.Lib
open Go.Proofs.YtglhonnmppclpaaDoor.Pm
def Tb (w : World) : Prop := Lib.TabIs Tryd.prog w "internal/strconv.uint64pow10" .u64 Lib.pow10Tab
theorem Tb.next {w w' : World} (h : Tb w) (hb : Below w.heap.size w w') : Tb w' := Joins.tab_stays (show Tryd.prog.globalNamed "internal/strconv.uint64pow10" = some 3 by kernel_rfl) h hb (Nat.le_refl _)
def dec (u : Nat) : ByteArray := ⟨(Lib.decDigits u).toArray⟩
theorem fmtU51_small (i : Nat) (w : World) (h : i < 100) : Calls Tryd.prog 87 #[.int .u64 (i : Int), .int .i64 10] w fun e w' => e = .returned (.string (dec i)) ∧ w' = w := by
  have hI : (i : Int) < 100 := by omega
  have W1 : IntKind.i64.wrap (i : Int) = (i : Int) := IntWalk.i64_in _ (by omega)
  go_enter Tryd.func87, Tryd.ntmps87
  go_wp2_with fail
  refine (Any.internal_strconv_small Tryd.laysSmall i h w).mono ?_
  rintro e w1 ⟨rfl, hw⟩
  rw [hw]
  clear hw
  go_wp2_with fail
  go_ret
  exact ⟨rfl, rfl⟩
set_option maxHeartbeats 6400000 in
set_option maxRecDepth 100000 in
theorem fmtU51_big (u : Nat) (w : World) (hb : 100 ≤ u) (hu64 : u < 18446744073709551616) (ht : Tb w) : Calls Tryd.prog 87 #[.int .u64 (u : Int), .int .i64 10] w fun e w' => e = .returned (.string (dec u)) ∧ Below w.heap.size w w' := by
  have hI : ¬ (u : Int) < 100 := by omega
  have hu1 : 1 ≤ u := by omega
  have hnd20 : Lib.nDigits u ≤ 20 := by have := Lib.numDigits_eq u hu1 hu64; split at this <;> omega
  have hal : Tryd.prog.arrayLen 160 = 24 := by kernel_rfl
  have hsl1 : ∀ W, (Instr.sliceAt 160 (.pointer (some ⟨w.heap.size, 0, none⟩)) none (some (.int .i64 (Lib.nDigits u : Int))) none).run Tryd.prog W = .ok (.slice (some ⟨w.heap.size, 0, none⟩) (Lib.nDigits u) 24) W := fun W => by
    rw [run_sliceAt_array_h W 160 ⟨w.heap.size, 0, none⟩ (by kernel_rfl) .i64 (Lib.nDigits u : Int) (by omega) (by rw [hal]; omega)]
    go_simp
  have hH0 := Lib.holds_zero0 w 160 (Lib.nDigits u) (by omega)
  have hfmt := Any.internal_strconv_formatBase10 Tryd.laysTen w.heap.size 0 24 u (Array.replicate (Lib.nDigits u) 0) (w.alloc (.cells Lib.zeros24 160)) hH0 (by rw [Array.size_replicate]; exact Lib.lt_pow_nDigits u) hu64 (by rw [Array.size_replicate]; omega)
  rw [Array.size_replicate] at hfmt
  have HH0 := Lib.hid hH0
  clear hH0 hal
  go_enter Tryd.func87, Tryd.ntmps87
  go_wp2_with fail
  refine (Any.internal_strconv_numDigits Tryd.laysNum u hu1 hu64 _ (Lib.tabIs_alloc ht _)).mono ?_
  rintro e w' ⟨rfl, hw⟩
  rw [hw]
  clear hw
  go_wp2_with fail
  refine hfmt.mono ?_
  rintro e w1 ⟨rfl, k, v', dk, rfl, hF⟩
  have hcv : (convert 86 9 (.slice (some ⟨w.heap.size, 0, none⟩) (Lib.nDigits u) 24)).run Tryd.prog ((putRow (fun (b : UInt8) => Value.int .u8 (b.toNat : Int)) (w.alloc (.cells Lib.zeros24 160)) w.heap.size 0 dk).drewN k) = .ok (.string (dec u)) ((putRow (fun (b : UInt8) => Value.int .u8 (b.toNat : Int)) (w.alloc (.cells Lib.zeros24 160)) w.heap.size 0 dk).drewN k) := by
    have h := run_convert_bytes_back (P := Tryd.prog) ((putRow (fun (b : UInt8) => Value.int .u8 (b.toNat : Int)) (w.alloc (.cells Lib.zeros24 160)) w.heap.size 0 dk).drewN k) 86 9 5 ⟨w.heap.size, 0, none⟩ 24 (Lib.decDigits u) Tryd.underlying86 Tryd.underlying5 Tryd.underlying9 (fun j hj => by
      rw [Lib.row_is_numeral hF j hj, Lib.add_plain, World.cell?_drewN]
      exact cell?_putRow (fun (b : UInt8) => Value.int .u8 (b.toNat : Int)) _ w.heap.size 0 _ dk HH0.out (by rw [hF.size, Array.size_replicate]) j (by rw [hF.size]; rw [Lib.decDigits_length] at hj; exact hj))
    rw [Lib.decDigits_length] at h
    exact h
  have HBL : Hid (Below w.heap.size w ((putRow (fun (b : UInt8) => Value.int .u8 (b.toNat : Int)) (w.alloc (.cells Lib.zeros24 160)) w.heap.size 0 dk).drewN k)) := Lib.hid (by
    obtain ⟨os, eo⟩ := Lib.fin_at w (.cells Lib.zeros24 160) dk k 0
    rw [eo]
    exact Lib.below_grow _ _ (Nat.le_refl _) k os)
  go_wp2_with fail
  go_ret
  exact ⟨rfl, HBL.out⟩
theorem fmtU41 (u : Nat) (w : World) (hu64 : u < 18446744073709551616) (ht : Tb w) : Calls Tryd.prog 63 #[.int .u64 (u : Int), .int .i64 10] w fun e w' => e = .returned (.string (dec u)) ∧ Below w.heap.size w w' := by
  go_enter Tryd.func63, Tryd.ntmps63
  go_wp2_with fail
  by_cases h : u < 100
  · refine (fmtU51_small u w h).mono ?_
    rintro e w1 ⟨rfl, hw⟩
    rw [hw]
    clear hw
    go_wp2_with fail
    go_ret
    exact ⟨rfl, Below.refl _ _⟩
  · refine (fmtU51_big u w (by omega) hu64 ht).mono ?_
    rintro e w1 ⟨rfl, hb⟩
    have HB := Lib.hid hb
    clear hb
    go_wp2_with fail
    go_ret
    exact ⟨rfl, HB.out⟩
end Go.Proofs.YtglhonnmppclpaaDoor.Pw
set_option linter.unusedSimpArgs false
set_option linter.unusedVariables false
namespace Go.Proofs.YtglhonnmppclpaaDoor.Pm
open Go
def strd (l : List UInt8) : ByteArray := ⟨l.toArray⟩
theorem strd_size (l : List UInt8) : (strd l).size = l.length := by simp [strd, ByteArray.size]
theorem strd_app (a b : List UInt8) : strd a ++ strd b = strd (a ++ b) := by unfold strd; simp [ByteArray.mk_append_mk]
def ce (u : Nat) : List UInt8 := [UInt8.ofNat (48 + u / 10 % 10), UInt8.ofNat (48 + u % 10)]
def sg (n : Int) : List UInt8 := if n < 0 then [45] else []
def shL (n : Int) : List UInt8 := sg n ++ Lib.decDigits (n.natAbs / 100) ++ [46] ++ ce n.natAbs
theorem dec_three {r : Nat} (h : r < 100) : Lib.decDigits (100 + r) = 49 :: [UInt8.ofNat (48 + r / 10), UInt8.ofNat (48 + r % 10)] := by
  rw [Lib.decDigits, dif_neg (by omega), Lib.decDigits_two (by omega) (by omega)]
  have e1 : (100 + r) / 10 / 10 = 1 := by omega
  have e2 : (100 + r) / 10 % 10 = r / 10 := by omega
  have e3 : (100 + r) % 10 = r % 10 := by omega
  rw [e1, e2, e3]
  rfl
theorem ce_mod (u : Nat) : ce u = [UInt8.ofNat (48 + u % 100 / 10), UInt8.ofNat (48 + u % 100 % 10)] := by
  unfold ce
  rw [show u / 10 % 10 = u % 100 / 10 by omega, show u % 10 = u % 100 % 10 by omega]
theorem extract_tail (x : UInt8) (l : List UInt8) : (strd (x :: l)).extract 1 (l.length + 1) = strd l := by
  unfold strd
  apply ByteArray.ext
  rw [ByteArray.data_extract]
  simp
theorem nDigits_le {u : Nat} (h : u < 18446744073709551616) : Lib.nDigits u ≤ 20 := by
  rcases Nat.eq_zero_or_pos u with h0 | h0
  · subst h0; rw [Lib.nDigits]; simp
  · have := Lib.numDigits_eq u h0 h; split at this <;> omega
end Go.Proofs.YtglhonnmppclpaaDoor.Pm
namespace Go.Proofs.YtglhonnmppclpaaDoor.Pw
open Go.RowKit
open Go.Proofs.YtglhonnmppclpaaDoor.Pm
set_option maxHeartbeats 2000000 in
theorem show25 (n : Int) (w : World) (hn : In64 n) (ht : Tb w) : Calls Tryd.prog 26 #[.int .i64 n] w fun e w' => e = .returned (.string (strd (shL n))) ∧ Below w.heap.size w w' := by
  have HT := Lib.hid ht
  have HN := Lib.hid hn
  obtain ⟨u, hu⟩ : ∃ u, n.natAbs = u := ⟨_, rfl⟩
  have HU := Lib.hid hu
  have hu64 : u < 18446744073709551616 := by unfold In64 at hn; omega
  obtain ⟨r, hr⟩ : ∃ r, u % 100 = r := ⟨_, rfl⟩
  obtain ⟨q, hq⟩ : ∃ q, u / 100 = q := ⟨_, rfl⟩
  have hr100 : r < 100 := by omega
  have V1 : (u : Int).tmod 100 = (r : Int) := by rw [Int.tmod_eq_emod_of_nonneg (by omega)]; omega
  have V1' : (u : Int) % 100 = (r : Int) := by omega
  have V2 : (u : Int).tdiv 100 = (q : Int) := by rw [Int.tdiv_eq_ediv_of_nonneg (by omega)]; omega
  have V2' : (u : Int) / 100 = (q : Int) := by omega
  obtain ⟨t, htt⟩ : ∃ t, 100 + r = t := ⟨_, rfl⟩
  have V3 : IntKind.u64.wrap (100 + (r : Int)) = (t : Int) := by rw [show 100 + (r : Int) = (t : Int) by omega]; exact u64_in _ (by omega)
  obtain ⟨x, hx⟩ : ∃ x, dec t = x := ⟨_, rfl⟩
  have hxe : x = strd (49 :: [UInt8.ofNat (48 + r / 10), UInt8.ofNat (48 + r % 10)]) := by rw [← hx, ← htt, ← dec_three hr100]; rfl
  have hxs : x.size = 3 := by rw [hxe, strd_size]; rfl
  obtain ⟨z, hz⟩ : ∃ z, x.extract 1 3 = z := ⟨_, rfl⟩
  have hze : z = strd (ce u) := by rw [← hz, hxe, ce_mod, hr]; exact extract_tail 49 [_, _]
  have HX := Lib.hid hx
  have HQ := Lib.hid hq
  have HZE := Lib.hid hze
  obtain ⟨y, hy⟩ : ∃ y, dec q = y := ⟨_, rfl⟩
  have HY := Lib.hid hy
  have ht64 : t < 18446744073709551616 := by omega
  have hq64 : q < 18446744073709551616 := by omega
  have hys : y.size ≤ 20 := by rw [← hy]; show (strd _).size ≤ 20; rw [strd_size, Lib.decDigits_length]; exact nDigits_le (by omega)
  clear hx hxe hze hy hn ht hu hr hq htt
  by_cases h0 : n < 0
  · have d1 : decide (n < 0) = true := decide_eq_true h0
    obtain ⟨a1, ha1⟩ : ∃ a, (⟨#[45]⟩ : ByteArray) ++ y = a := ⟨_, rfl⟩
    obtain ⟨a2, ha2⟩ : ∃ a, a1 ++ (⟨#[46]⟩ : ByteArray) = a := ⟨_, rfl⟩
    obtain ⟨a3, ha3⟩ : ∃ a, a2 ++ z = a := ⟨_, rfl⟩
    have HA3 : Hid (a3 = strd (shL n)) := Lib.hid (by
      rw [← ha3, ← ha2, ← ha1, ← HY.out, HZE.out]
      unfold shL sg
      rw [if_pos h0, HU.out, HQ.out]
      show strd [45] ++ strd (Lib.decDigits q) ++ strd [46] ++ strd (ce u) = _
      rw [strd_app, strd_app, strd_app])
    have hs1 : a1.size ≤ 30 := by rw [← ha1, ByteArray.size_append]; have : (⟨#[45]⟩ : ByteArray).size ≤ 1 := by decide
                                  omega
    have hs2 : a2.size ≤ 40 := by rw [← ha2, ByteArray.size_append]; have : (⟨#[46]⟩ : ByteArray).size = 1 := rfl
                                  omega
    have hs3 : z.size ≤ 10 := by rw [HZE.out, strd_size]; show 2 ≤ 10; omega
    go_enter Tryd.func26, Tryd.ntmps26
    go_wp2_with fail
    refine (size29 n u w HN.out HU.out).mono ?_
    rintro e w1 ⟨rfl, hw⟩
    rw [hw]
    clear hw
    go_wp2_with fail
    refine (fmtU41 t w ht64 HT.out).mono ?_
    rintro e w1 ⟨rfl, hb⟩
    have HB := Lib.hid hb
    have HT1 := Lib.hid (HT.out.next hb)
    rw [HX.out]
    clear hb
    go_wp2_with fail
    refine (fmtU41 q w1 hq64 HT1.out).mono ?_
    rintro e w2 ⟨rfl, hb⟩
    replace HB := Lib.hid (upB HB.out hb)
    rw [HY.out]
    clear hb
    go_wp2_with fail
    go_ret
    rw [← HA3.out]
    exact ⟨rfl, HB.out⟩
  · have d1 : decide (n < 0) = false := decide_eq_false h0
    obtain ⟨a1, ha1⟩ : ∃ a, (⟨#[]⟩ : ByteArray) ++ y = a := ⟨_, rfl⟩
    obtain ⟨a2, ha2⟩ : ∃ a, a1 ++ (⟨#[46]⟩ : ByteArray) = a := ⟨_, rfl⟩
    obtain ⟨a3, ha3⟩ : ∃ a, a2 ++ z = a := ⟨_, rfl⟩
    have HA3 : Hid (a3 = strd (shL n)) := Lib.hid (by
      rw [← ha3, ← ha2, ← ha1, ← HY.out, HZE.out]
      unfold shL sg
      rw [if_neg h0, HU.out, HQ.out]
      show strd [] ++ strd (Lib.decDigits q) ++ strd [46] ++ strd (ce u) = _
      rw [strd_app, strd_app, strd_app])
    have hs1 : a1.size ≤ 30 := by rw [← ha1, ByteArray.size_append]; have : (⟨#[]⟩ : ByteArray).size ≤ 1 := by decide
                                  omega
    have hs2 : a2.size ≤ 40 := by rw [← ha2, ByteArray.size_append]; have : (⟨#[46]⟩ : ByteArray).size = 1 := rfl
                                  omega
    have hs3 : z.size ≤ 10 := by rw [HZE.out, strd_size]; show 2 ≤ 10; omega
    go_enter Tryd.func26, Tryd.ntmps26
    go_wp2_with fail
    refine (size29 n u w HN.out HU.out).mono ?_
    rintro e w1 ⟨rfl, hw⟩
    rw [hw]
    clear hw
    go_wp2_with fail
    refine (fmtU41 t w ht64 HT.out).mono ?_
    rintro e w1 ⟨rfl, hb⟩
    have HB := Lib.hid hb
    have HT1 := Lib.hid (HT.out.next hb)
    rw [HX.out]
    clear hb
    go_wp2_with fail
    refine (fmtU41 q w1 hq64 HT1.out).mono ?_
    rintro e w2 ⟨rfl, hb⟩
    replace HB := Lib.hid (upB HB.out hb)
    rw [HY.out]
    clear hb
    go_wp2_with fail
    go_ret
    rw [← HA3.out]
    exact ⟨rfl, HB.out⟩
end Go.Proofs.YtglhonnmppclpaaDoor.Pw
set_option linter.unusedSimpArgs false
set_option linter.unusedVariables false
namespace Go.Proofs.YtglhonnmppclpaaDoor.Pm
open Go
end Go.Proofs.YtglhonnmppclpaaDoor.Pm
set_option linter.unusedSimpArgs false
set_option linter.unusedVariables false
namespace Go.Proofs.YtglhonnmppclpaaDoor.Pw
open Go.RowKit
open Go.Proofs.YtglhonnmppclpaaDoor.Pm
end Go.Proofs.YtglhonnmppclpaaDoor.Pw
set_option linter.unusedSimpArgs false
set_option linter.unusedVariables false
namespace Go.Proofs.YtglhonnmppclpaaDoor.Pw
open Go.RowKit
open Go.Proofs.YtglhonnmppclpaaDoor.Pm
end Go.Proofs.YtglhonnmppclpaaDoor.Pw
set_option linter.unusedSimpArgs false
set_option linter.unusedVariables false
namespace Go.Proofs.YtglhonnmppclpaaDoor.Pm
open Go
end Go.Proofs.YtglhonnmppclpaaDoor.Pm
namespace Go.Proofs.YtglhonnmppclpaaDoor.Pw
open Go.RowKit
open Go.Proofs.YtglhonnmppclpaaDoor.Pm
end Go.Proofs.YtglhonnmppclpaaDoor.Pw
set_option linter.unusedSimpArgs false
set_option linter.unusedVariables false
namespace Go.Proofs.YtglhonnmppclpaaDoor.Pm
open Go
end Go.Proofs.YtglhonnmppclpaaDoor.Pm
set_option linter.unusedSimpArgs false
set_option linter.unusedVariables false
namespace Go.Proofs.YtglhonnmppclpaaDoor.Pw
open Go.RowKit Go.Shelf Go.Lib Go.Sort
open Go.Proofs.YtglhonnmppclpaaDoor.Pm
end Go.Proofs.YtglhonnmppclpaaDoor.Pw
set_option linter.unusedSimpArgs false
set_option linter.unusedVariables false
namespace Go.Proofs.YtglhonnmppclpaaDoor.Pw
open Go.RowKit Go.Shelf Go.Lib Go.Sort
open Go.Proofs.YtglhonnmppclpaaDoor.Pm
structure Ex (g : Nat) (w w' : World) : Prop where
  os : w'.os = w.os
  tape : w'.tape = w.tape
  output : w'.output = w.output
  size : w.heap.size ≤ w'.heap.size
  block : ∀ k, k < w.heap.size → k ≠ g → w'.heap[k]? = w.heap[k]?
theorem Ex.cell {g : Nat} {w w' : World} (h : Ex g w w') {p : Addr} (hp : p.block < w.heap.size) (hne : p.block ≠ g) : w'.cell? p = w.cell? p := by
  unfold World.cell?
  rw [h.block _ hp hne]
end Go.Proofs.YtglhonnmppclpaaDoor.Pw
set_option linter.unusedSimpArgs false
set_option linter.unusedVariables false
namespace Go.Proofs.YtglhonnmppclpaaDoor.Pm
open Go
end Go.Proofs.YtglhonnmppclpaaDoor.Pm
namespace Go.Proofs.YtglhonnmppclpaaDoor.Pw
open Go.RowKit Go.Deep
open Go.Proofs.YtglhonnmppclpaaDoor.Pm
end Go.Proofs.YtglhonnmppclpaaDoor.Pw
set_option linter.unusedSimpArgs false
set_option linter.unusedVariables false
namespace Go.Proofs.YtglhonnmppclpaaDoor.Pm
open Go
end Go.Proofs.YtglhonnmppclpaaDoor.Pm
namespace Go.Proofs.YtglhonnmppclpaaDoor.Pw
open Go.RowKit
open Go.Proofs.YtglhonnmppclpaaDoor.Pm
end Go.Proofs.YtglhonnmppclpaaDoor.Pw
set_option linter.unusedSimpArgs false
set_option linter.unusedVariables false
namespace Go.Proofs.YtglhonnmppclpaaDoor.Pw
open Go.RowKit Go.ChangeShapes Go.WideShapes Go.Deep Go.Joins
open Go.Proofs.YtglhonnmppclpaaDoor.Pm
section
variable {H : Type} {enc : TypeId × Value → H} {w : World} {base : Nat} {spare : Nat → Bool} {held : Bool}
end
end Go.Proofs.YtglhonnmppclpaaDoor.Pw
set_option linter.unusedSimpArgs false
set_option linter.unusedVariables false
namespace Go.Proofs.YtglhonnmppclpaaDoor.Pm
open Go
end Go.Proofs.YtglhonnmppclpaaDoor.Pm
set_option linter.unusedSimpArgs false
set_option linter.unusedVariables false
namespace Go.Proofs.YtglhonnmppclpaaDoor.Pm
open Go
end Go.Proofs.YtglhonnmppclpaaDoor.Pm
namespace Go.Proofs.YtglhonnmppclpaaDoor.Pw
open Go.RowKit
open Go.Proofs.YtglhonnmppclpaaDoor.Pm
theorem size33 (n : Int) (k : Nat) (w : World) (hn : In64 n) (hk : n.natAbs = k) : Calls Tryd.prog 66 #[.int .i64 n] w fun e w' => e = .returned (.int .u64 (k : Int)) ∧ w' = w := by
  unfold In64 at hn
  go_enter Tryd.func66, Tryd.ntmps66
  by_cases h0 : n < 0
  · obtain ⟨a, ha⟩ : ∃ a, n + 1 = a := ⟨_, rfl⟩
    obtain ⟨b, hb⟩ : ∃ b, -a = b := ⟨_, rfl⟩
    have W1 : IntKind.i64.wrap (n + 1) = a := by rw [ha]; exact IntWalk.i64_in _ (by omega)
    have W2 : IntKind.i64.wrap (-a) = b := by rw [hb]; exact IntWalk.i64_in _ (by omega)
    have W3 : IntKind.u64.wrap b = b := by rw [IntKind.wrap_u64]; omega
    have W4 : IntKind.u64.wrap (b + 1) = (k : Int) := by rw [IntKind.wrap_u64]; omega
    clear ha hb hk hn
    go_wp2_with fail
    go_ret
    exact ⟨rfl, rfl⟩
  · have W1 : IntKind.u64.wrap n = (k : Int) := by rw [IntKind.wrap_u64]; omega
    clear hk hn
    go_wp2_with fail
    go_ret
    exact ⟨rfl, rfl⟩
end Go.Proofs.YtglhonnmppclpaaDoor.Pw
set_option linter.unusedSimpArgs false
set_option linter.unusedVariables false
namespace Go.Proofs.YtglhonnmppclpaaDoor.Pm
open Go
theorem byte_num {d : Nat} (h : d < 10) : (UInt8.ofNat (48 + d)).toNat = 48 + d := by rw [UInt8.toNat_ofNat']; exact Nat.mod_eq_of_lt (by omega)
end Go.Proofs.YtglhonnmppclpaaDoor.Pm
set_option linter.unusedSimpArgs false
set_option linter.unusedVariables false
namespace Go.Proofs.YtglhonnmppclpaaDoor.Pw
open Go.RowKit
open Go.Proofs.YtglhonnmppclpaaDoor.Pm
theorem conv1 {w : World} {g d : Nat} {x : Int} (hd : d < 10) (hx : x = 48 + (d : Int)) (h : Bx w g 5 #[.int .u8 x]) : (convert 86 9 (.slice (some ⟨g, 0, none⟩) 1 1)).run Tryd.prog w = .ok (.string (strd [UInt8.ofNat (48 + d)])) w :=
  run_convert_bytes_back (P := Tryd.prog) w 86 9 5 ⟨g, 0, none⟩ 1 [UInt8.ofNat (48 + d)] Tryd.underlying86 Tryd.underlying5 Tryd.underlying9 (fun j hj => by
    have hj0 : j = 0 := by simpa using hj
    subst hj0
    have e : (⟨g, 0, none⟩ : Addr).add 0 = ⟨g, 0, none⟩ := by simp [Addr.add]
    rw [e, h.cell]
    show some (Value.int .u8 x) = some (.int .u8 ((UInt8.ofNat (48 + d)).toNat : Int))
    rw [byte_num hd, hx]
    rfl)
theorem dec_ten {u : Nat} (h : ¬ u < 10) : dec (u / 10) ++ strd [UInt8.ofNat (48 + u % 10)] = dec u := by
  show strd (Lib.decDigits (u / 10)) ++ _ = strd (Lib.decDigits u)
  rw [strd_app]
  conv => rhs; rw [Lib.decDigits, dif_neg h]
theorem dec_size {u : Nat} (h : u < 18446744073709551616) : (dec u).size ≤ 20 := by
  show (strd _).size ≤ 20
  rw [strd_size, Lib.decDigits_length]
  exact nDigits_le h
set_option maxHeartbeats 8000000 in
set_option maxRecDepth 100000 in
theorem digits42 : ∀ (m u : Nat), u ≤ m → u < 18446744073709551616 → ∀ w : World, Calls Tryd.prog 67 #[.int .u64 (u : Int)] w fun e w' => e = .returned (.string (dec u)) ∧ Below w.heap.size w w' := by
  intro m
  induction m with
  | zero =>
    intro u hu h64 w
    obtain rfl : u = 0 := by omega
    have hc := conv1 (d := 0) (by decide) (by simp) (Bx.new w 5 #[.int .u8 48])
    have hde : strd [UInt8.ofNat (48 + 0)] = dec 0 := by show _ = strd (Lib.decDigits 0); rw [Lib.decDigits_one (by decide)]
    rw [hde] at hc
    have HB := Lib.hid (b1 w (.cells #[.int .u8 48] 5))
    clear hde
    go_enter Tryd.func67, Tryd.ntmps67
    go_wp2_with fail
    go_ret
    exact ⟨rfl, HB.out⟩
  | succ m ih =>
    intro u hu h64 w
    by_cases h10 : u < 10
    · have hI : (u : Int) < 10 := by omega
      obtain ⟨x, hx⟩ : ∃ x, 48 + (u : Int) = x := ⟨_, rfl⟩
      have W1 : IntKind.u64.wrap (48 + (u : Int)) = x := by rw [hx, IntKind.wrap_u64]; omega
      have W2 : IntKind.u8.wrap x = x := by simp [IntKind.wrap, IntKind.bits, IntKind.signed]; omega
      have hc := conv1 (d := u) h10 hx.symm (Bx.new w 5 #[.int .u8 x])
      have hde : strd [UInt8.ofNat (48 + u)] = dec u := by show _ = strd (Lib.decDigits u); rw [Lib.decDigits_one h10]
      rw [hde] at hc
      have HB := Lib.hid (b1 w (.cells #[.int .u8 x] 5))
      clear hde hx ih
      go_enter Tryd.func67, Tryd.ntmps67
      go_wp2_with fail
      go_ret
      exact ⟨rfl, HB.out⟩
    · have hI : ¬ (u : Int) < 10 := by omega
      obtain ⟨q, hq⟩ : ∃ q, u / 10 = q := ⟨_, rfl⟩
      obtain ⟨d, hd⟩ : ∃ q, u % 10 = q := ⟨_, rfl⟩
      have hd10 : d < 10 := by omega
      obtain ⟨x, hx⟩ : ∃ x, 48 + (d : Int) = x := ⟨_, rfl⟩
      have W0 : (u : Int).tdiv 10 = (q : Int) := by rw [Int.tdiv_eq_ediv_of_nonneg (by omega)]; omega
      have W0' : IntKind.u64.wrap (q : Int) = (q : Int) := u64_in _ (by omega)
      have W00 : (u : Int) / 10 = (q : Int) := by omega
      have W3 : (u : Int).tmod 10 = (d : Int) := by rw [Int.tmod_eq_emod_of_nonneg (by omega)]; omega
      have W33 : (u : Int) % 10 = (d : Int) := by omega
      have W1 : IntKind.u64.wrap (48 + (d : Int)) = x := by rw [hx, IntKind.wrap_u64]; omega
      have W2 : IntKind.u8.wrap x = x := by simp [IntKind.wrap, IntKind.bits, IntKind.signed]; omega
      obtain ⟨z, hz⟩ : ∃ z, strd [UInt8.ofNat (48 + d)] = z := ⟨_, rfl⟩
      have hC : ∀ (W : World) (g : Nat), Bx W g 5 #[.int .u8 x] → (convert 86 9 (.slice (some ⟨g, 0, none⟩) 1 1)).run Tryd.prog W = .ok (.string z) W := by
        intro W g h
        rw [← hz]
        exact conv1 hd10 hx.symm h
      have HC := Lib.hid hC
      have hC1 := fun W : World => HC.out _ _ (Bx.new W 5 #[.int .u8 x])
      have hC2 := fun W : World => HC.out _ _ ((Bx.new W 5 #[.int .u8 x]).next (Below.refl _ _).drew)
      have HI := Lib.hid (fun W : World => ih q (by omega) (by omega) W)
      obtain ⟨y, hy⟩ : ∃ y, dec q = y := ⟨_, rfl⟩
      rw [hy] at HI
      have hyz : y ++ z = dec u := by rw [← hy, ← hz, ← hq, ← hd]; exact dec_ten h10
      obtain ⟨o, ho⟩ : ∃ o, dec u = o := ⟨_, rfl⟩
      rw [ho] at hyz ⊢
      have hys : y.size ≤ 20 := by rw [← hy]; exact dec_size (by omega)
      have hzs : z.size = 1 := by rw [← hz]; rfl
      have HQ := Lib.hid hq
      clear hx hz hy ho hq hd ih hC hd10 h10 hu h64
      go_enter Tryd.func67, Tryd.ntmps67
      go_wp2_with fail
      go_region_with (go_at_call 67; refine (HI.out _).mono ?_; rintro e w' ⟨rfl, hb⟩; first | (have hC3 := HC.out w' w.heap.size ((Bx.new w 5 #[.int .u8 x]).next hb); have HBQ := Lib.hid (upB (b1 w (.cells #[.int .u8 x] 5)) hb); clear hb) | (have hC3 := HC.out w' w.heap.size (((Bx.new w 5 #[.int .u8 x]).next (Below.refl _ _).drew).next hb); have HBQ := Lib.hid (upB (upB (b1 w (.cells #[.int .u8 x] 5)) (Below.refl _ _).drew) hb); clear hb) | (have HBQ : Hid (Below w.heap.size w w') := Lib.hid hb; clear hb) | (have HBQ : Hid (Below w.heap.size w w') := Lib.hid (upB (Below.refl _ _).drew hb); clear hb))
      all_goals go_wp2_with fail
      all_goals go_ret
      all_goals (exact ⟨rfl, by first | exact HBQ.out | exact HBQ.out.drew | exact upB HBQ.out (b1 _ _) | exact upB HBQ.out (b1 _ _).drew | exact (upB HBQ.out (b1 _ _)).drew | exact upB HBQ.out ((Below.refl _ _).drew.alloc (Nat.le_refl _) _)⟩)
theorem dec_dig {d : Nat} (h : d < 10) : dec d = strd [UInt8.ofNat (48 + d)] := by show strd (Lib.decDigits d) = _; rw [Lib.decDigits_one h]
set_option maxHeartbeats 4000000 in
set_option maxRecDepth 100000 in
theorem show26 (n : Int) (w : World) (hn : In64 n) : Calls Tryd.prog 31 #[.int .i64 n] w fun e w' => e = .returned (.string (strd (shL n))) ∧ Below w.heap.size w w' := by
  have HN := Lib.hid hn
  obtain ⟨u, hu⟩ : ∃ u, n.natAbs = u := ⟨_, rfl⟩
  have HU := Lib.hid hu
  have hu64 : u < 18446744073709551616 := by unfold In64 at hn; omega
  obtain ⟨q, hq⟩ : ∃ r, u / 100 = r := ⟨_, rfl⟩
  obtain ⟨t, ht⟩ : ∃ r, u / 10 = r := ⟨_, rfl⟩
  obtain ⟨a, ha⟩ : ∃ r, t % 10 = r := ⟨_, rfl⟩
  obtain ⟨b, hb⟩ : ∃ r, u % 10 = r := ⟨_, rfl⟩
  have V1 : (u : Int).tdiv 100 = (q : Int) := by rw [Int.tdiv_eq_ediv_of_nonneg (by omega)]; omega
  have V2 : (u : Int).tdiv 10 = (t : Int) := by rw [Int.tdiv_eq_ediv_of_nonneg (by omega)]; omega
  have V3 : (t : Int).tmod 10 = (a : Int) := by rw [Int.tmod_eq_emod_of_nonneg (by omega)]; omega
  have V4 : (u : Int).tmod 10 = (b : Int) := by rw [Int.tmod_eq_emod_of_nonneg (by omega)]; omega
  have V1' : (u : Int) / 100 = (q : Int) := by omega
  have V2' : (u : Int) / 10 = (t : Int) := by omega
  have V3' : (t : Int) % 10 = (a : Int) := by omega
  have V4' : (u : Int) % 10 = (b : Int) := by omega
  have X1 : IntKind.u64.wrap (q : Int) = (q : Int) := u64_in _ (by omega)
  have X2 : IntKind.u64.wrap (t : Int) = (t : Int) := u64_in _ (by omega)
  obtain ⟨y1, hy1⟩ : ∃ y, dec q = y := ⟨_, rfl⟩
  obtain ⟨y2, hy2⟩ : ∃ y, dec a = y := ⟨_, rfl⟩
  obtain ⟨y3, hy3⟩ : ∃ y, dec b = y := ⟨_, rfl⟩
  obtain ⟨s1, hs1⟩ : ∃ s, y1 ++ (⟨#[46]⟩ : ByteArray) = s := ⟨_, rfl⟩
  obtain ⟨s2, hs2⟩ : ∃ s, s1 ++ y2 = s := ⟨_, rfl⟩
  obtain ⟨s3, hs3⟩ : ∃ s, s2 ++ y3 = s := ⟨_, rfl⟩
  obtain ⟨s4, hs4⟩ : ∃ s, (⟨#[45]⟩ : ByteArray) ++ s3 = s := ⟨_, rfl⟩
  have e3 : s3 = strd (Lib.decDigits q ++ [46] ++ ce u) := by
    rw [← hs3, ← hs2, ← hs1, ← hy1, ← hy2, ← hy3, dec_dig (show a < 10 by omega), dec_dig (show b < 10 by omega)]
    show strd (Lib.decDigits q) ++ strd [46] ++ strd _ ++ strd _ = _
    rw [strd_app, strd_app, strd_app]
    unfold ce
    rw [← ha, ← ht, ← hb]
    simp
  have HA : Hid ((if n < 0 then s4 else s3) = strd (shL n)) := Lib.hid (by
    unfold shL sg
    rw [hu, hq]
    by_cases h0 : n < 0
    · rw [if_pos h0, if_pos h0, ← hs4, e3]
      show strd [45] ++ strd _ = _
      rw [strd_app]
      simp
    · rw [if_neg h0, if_neg h0, e3]
      simp)
  have l1 : y1.size ≤ 20 := by rw [← hy1]; exact dec_size (by omega)
  have l2 : y2.size ≤ 20 := by rw [← hy2]; exact dec_size (by omega)
  have l3 : y3.size ≤ 20 := by rw [← hy3]; exact dec_size (by omega)
  have l46 : (⟨#[46]⟩ : ByteArray).size = 1 := rfl
  have l45 : (⟨#[45]⟩ : ByteArray).size = 1 := rfl
  have l4 : s1.size ≤ 30 := by rw [← hs1, ByteArray.size_append]; omega
  have l5 : s2.size ≤ 50 := by rw [← hs2, ByteArray.size_append]; omega
  have l6 : s3.size ≤ 70 := by rw [← hs3, ByteArray.size_append]; omega
  have H1 := Lib.hid (fun W : World => digits42 q q (Nat.le_refl _) (by omega) W)
  have H2 := Lib.hid (fun W : World => digits42 a a (Nat.le_refl _) (by omega) W)
  have H3 := Lib.hid (fun W : World => digits42 b b (Nat.le_refl _) (by omega) W)
  rw [hy1] at H1
  rw [hy2] at H2
  rw [hy3] at H3
  clear hn hu hq ht ha hb hy1 hy2 hy3 e3 hu64
  go_enter Tryd.func31, Tryd.ntmps31
  go_wp2_with fail
  refine (size33 n u w HN.out HU.out).mono ?_
  rintro e w1 ⟨rfl, hw⟩
  rw [hw]
  clear hw
  go_wp2_with fail
  refine (H1.out w).mono ?_
  rintro e w1 ⟨rfl, hb⟩
  have HB := Lib.hid hb
  clear hb
  go_wp2_with fail
  refine (H2.out w1).mono ?_
  rintro e w2 ⟨rfl, hb⟩
  replace HB := Lib.hid (upB HB.out hb)
  clear hb
  go_wp2_with fail
  refine (H3.out w2).mono ?_
  rintro e w3 ⟨rfl, hb⟩
  replace HB := Lib.hid (upB HB.out hb)
  clear hb
  by_cases h0 : n < 0
  · have d1 : decide (n < 0) = true := decide_eq_true h0
    rw [if_pos h0] at HA
    clear h0
    go_wp2_with fail
    go_ret
    rw [← HA.out]
    exact ⟨rfl, HB.out⟩
  · have d1 : decide (n < 0) = false := decide_eq_false h0
    rw [if_neg h0] at HA
    clear h0
    go_wp2_with fail
    go_ret
    rw [← HA.out]
    exact ⟨rfl, HB.out⟩
end Go.Proofs.YtglhonnmppclpaaDoor.Pw
