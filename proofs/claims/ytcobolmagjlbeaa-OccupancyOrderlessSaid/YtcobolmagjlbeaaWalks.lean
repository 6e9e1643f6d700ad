/- Contracts of the occupancy layer's small functions. Conditions: the slices read as lists. -/
import Derived.Test.YtcobolmagjlbeaaProg
import Derived.Test.YtcobolmagjlbeaaMath
import Derived.WalkKit
import Derived.OwnWalk
import Derived.Lib.Hide
import Derived.Outline
import Derived.LoopTactic
import Derived.Below
import Derived.Laws.OwnMore
import Derived.Deep.QuietTactic
import Derived.BigQuiet
import Derived.WalkSmall
import Derived.Laws.Rows
import Derived.IntWalk
namespace Go.Proofs.Ytcobolmagjlbeaa.Wk
open Go.RowKit
open Go.Proofs.Ytcobolmagjlbeaa.Mt
/-- a slice value of n numbers reads as the list zs -/
def Ri (w : World) (B : Nat) (A : Option Addr) (n : Nat) (zs : List Int) : Prop :=
  zs.length = n ∧ n ≤ 9223372036854775807 ∧ (0 < n → ∃ b off, A = some ⟨b, off, none⟩ ∧ b < B ∧ ∀ i, i < n → w.cell? ⟨b, off + i, none⟩ = some (.int .i64 (at_ zs i)))
theorem Ri.below {w w' : World} {B B' : Nat} {A : Option Addr} {n : Nat} {zs : List Int} (h : Ri w B A n zs) (hb : Below B' w w') (hB : B ≤ B') : Ri w' B A n zs := by
  refine ⟨h.1, h.2.1, fun hn => ?_⟩
  obtain ⟨b, off, e, hlt, hc⟩ := h.2.2 hn
  exact ⟨b, off, e, hlt, fun i hi => (hb.cell (p := ⟨b, _, none⟩) (by show b < B'; omega)).trans (hc i hi)⟩
theorem Ri.get {w : World} {B : Nat} {A : Option Addr} {n : Nat} {zs : List Int} (h : Ri w B A n zs) {i : Nat} (hi : i < n) : ∃ b off, A = some ⟨b, off, none⟩ ∧ b < B ∧ w.cell? ⟨b, off + i, none⟩ = some (.int .i64 (at_ zs i)) := by
  obtain ⟨b, off, e, hb, hc⟩ := h.2.2 (by omega)
  exact ⟨b, off, e, hb, hc i hi⟩
theorem Ri.two {w : World} {B b off : Nat} {n : Nat} {zs : List Int} (h : Ri w B (some ⟨b, off, none⟩) n zs) {i : Nat} (hi : i < n) : w.cell? ⟨b, off + i, none⟩ = some (.int .i64 (at_ zs i)) := by
  obtain ⟨b', off', e, hb, hc⟩ := h.2.2 (by omega)
  injection e with e
  injection e with e1 e2
  subst e1 e2
  exact hc i hi
theorem Ri.up {w w' : World} {A : Option Addr} {n : Nat} {zs : List Int} (h : Ri w w.heap.size A n zs) (hb : Below w.heap.size w w') : Ri w' w'.heap.size A n zs := by
  have h2 := h.below hb (Nat.le_refl _)
  exact ⟨h2.1, h2.2.1, fun h => by obtain ⟨b, off, e, hb', hc⟩ := h2.2.2 h; exact ⟨b, off, e, Nat.lt_of_lt_of_le hb' hb.size, hc⟩⟩
theorem b1 (w : World) (o1 : Obj) : Below w.heap.size w (w.alloc o1) := (Below.refl _ _).alloc (Nat.le_refl _) _
theorem upB {w W w' : World} (h : Below w.heap.size w W) (hb : Below W.heap.size W w') : Below w.heap.size w w' := h.trans (hb.mono h.size)
def tim (n : Int) : Bool := decide (0 ≤ n ∧ n < 68719476736)
theorem time_any (n : Int) (w : World) : Calls Try.prog 26 #[.int .i64 n] w fun e w' => e = .returned (.bool (tim n)) ∧ w = w' := by
  by_cases h1 : 0 ≤ n <;> by_cases h2 : n < 68719476736
  all_goals
    go_enter Try.func26, Try.ntmps26
    go_wp2
    go_ret
    exact ⟨by simp [tim, h1, h2], rfl⟩
theorem Time_any (n : Int) (w : World) : Calls Try.prog 28 #[.int .i64 n] w fun e w' => e = .returned (.bool (tim n)) ∧ w = w' := by
  by_cases h1 : 0 ≤ n <;> by_cases h2 : n < 68719476736
  all_goals
    go_enter Try.func28, Try.ntmps28
    go_wp2
    go_ret
    exact ⟨by simp [tim, h1, h2], rfl⟩
/-- the level after a period, for any scale -/
theorem next_any (p : Int) (A1 A2 A3 : Option Addr) (n1 n2 n3 c1 c2 c3 : Nat) (up dn : List Int) (level count : Int) (w : World) (h1 : Ri w w.heap.size A1 n1 up) (h2 : Ri w w.heap.size A2 n2 dn) (h12 : n1 ≤ n2) (pt : List Int) :
    Calls Try.prog 25 #[.agg #[.int .i64 p, .slice A1 n1 c1, .slice A2 n2 c2, .slice A3 n3 c3], .int .i64 level, .int .i64 count] w fun e w' => e = .returned (.int .i64 (nx ⟨p, up, dn, pt⟩ level count)) ∧ Below w.heap.size w w' := by
  have hn := h1.2.1
  have H1 := Lib.hid (h1.up (b1 w (.cells #[.int .i64 p, .slice A1 n1 c1, .slice A2 n2 c2, .slice A3 n3 c3] 24)))
  have H2 := Lib.hid (h2.up (b1 w (.cells #[.int .i64 p, .slice A1 n1 c1, .slice A2 n2 c2, .slice A3 n3 c3] 24)))
  obtain ⟨lv, hlv⟩ : ∃ lv, clamp n1 level = lv := ⟨_, rfl⟩
  obtain ⟨u, hu⟩ : ∃ u, upto up count n1 = u := ⟨_, rfl⟩
  have hul : u ≤ n1 := by rw [← hu]; exact upto_le _ _ _
  have hll : lv ≤ n1 := by rw [← hlv]; exact clamp_le _ _
  have HU := Lib.hid hu
  have HN : Hid (nx ⟨p, up, dn, pt⟩ level count = if lv < u then u else down dn count lv) := Lib.hid (by
    have e : up.length = n1 := h1.1
    simp only [nx, e, hlv, hu])
  clear h1 h2 hu
  by_cases h0 : level < 0
  · have hlv0 : lv = 0 := by rw [← hlv, clamp, if_pos h0]
    subst hlv0
    clear hlv
    go_enter Try.func25, Try.ntmps25
    go_wp2_with fail
    go_loop [7, 19] (fun g i => ∃ k : Nat, k ≤ n1 ∧ i = .int .i64 k ∧ g = .int .i64 (upto up count k : Nat)) (fun _ i => n1 - (intOf i).toNat)
    case atStart => exact ⟨0, Nat.zero_le _, rfl, rfl⟩
    case round =>
      obtain ⟨k, hk, rfl, rfl⟩ := hrel
      by_cases hlt : k < n1
      · obtain ⟨bb, off, rfl, _, d1⟩ := H1.out.get hlt
        by_cases hc : at_ up k ≤ count
        · have HH := Lib.hid (upto_yes hc)
          go_wp2_with fail
          go_round
          case rel => exact ⟨k + 1, by omega, by go_num, by rw [HH.out]; go_num⟩
          case measure => simp [intOf]; omega
        · have HH := Lib.hid (upto_no hc)
          go_wp2_with fail
          go_round
          case rel => exact ⟨k + 1, by omega, by go_num, by rw [HH.out]⟩
          case measure => simp [intOf]; omega
      · have hkn : k = n1 := by omega
        subst hkn
        rw [HU.out]
        clear hlt hk
        by_cases hcmp : 0 < u
        · have HX : Hid (nx ⟨p, up, dn, pt⟩ level count = u) := Lib.hid (by rw [HN.out, if_pos hcmp])
          have hci : ((0 : Nat) : Int) < (u : Int) := by omega
          go_wp2_with fail
          go_ret
          exact ⟨by rw [HX.out]; rfl, b1 _ _⟩
        · have HX : Hid (down dn count 0 = nx ⟨p, up, dn, pt⟩ level count) := Lib.hid (by rw [HN.out, if_neg hcmp])
          have hci : ¬ ((0 : Nat) : Int) < (u : Int) := by omega
          go_wp2_with fail
          go_loop [1] (fun l => ∃ j : Nat, j ≤ 0 ∧ l = .int .i64 j ∧ Hid (down dn count j = down dn count 0)) (fun l => (intOf l).toNat)
          case atStart => exact ⟨0, Nat.le_refl _, rfl, Lib.hid rfl⟩
          case round =>
            obtain ⟨j, hj, rfl, HJ⟩ := hrel
            by_cases hj0 : j = 0
            · have HZ : Hid (down dn count j = j) := Lib.hid (by rw [hj0]; rfl)
              have hg1 : decide ((0 : Int) < (j : Int)) = false := decide_eq_false (by omega)
              have hg2 : decide (0 < j) = false := decide_eq_false (by omega)
              clear hj0
              go_wp2_with fail
              go_ret
              exact ⟨by rw [← HX.out, ← HJ.out, HZ.out]; rfl, b1 _ _⟩
            · omega
  · by_cases h3 : (n1 : Int) < level
    · have hlv0 : lv = n1 := by rw [← hlv, clamp, if_neg h0, if_pos h3]
      subst hlv0
      clear hlv
      go_enter Try.func25, Try.ntmps25
      go_wp2_with fail
      go_loop [7, 19] (fun g i => ∃ k : Nat, k ≤ lv ∧ i = .int .i64 k ∧ g = .int .i64 (upto up count k : Nat)) (fun _ i => lv - (intOf i).toNat)
      case atStart => exact ⟨0, Nat.zero_le _, rfl, rfl⟩
      case round =>
        obtain ⟨k, hk, rfl, rfl⟩ := hrel
        by_cases hlt : k < lv
        · obtain ⟨bb, off, rfl, _, d1⟩ := H1.out.get hlt
          by_cases hc : at_ up k ≤ count
          · have HH := Lib.hid (upto_yes hc)
            go_wp2_with fail
            go_round
            case rel => exact ⟨k + 1, by omega, by go_num, by rw [HH.out]; go_num⟩
            case measure => simp [intOf]; omega
          · have HH := Lib.hid (upto_no hc)
            go_wp2_with fail
            go_round
            case rel => exact ⟨k + 1, by omega, by go_num, by rw [HH.out]⟩
            case measure => simp [intOf]; omega
        · have hkn : k = lv := by omega
          subst hkn
          rw [HU.out]
          clear hlt hk
          by_cases hcmp : k < u
          · have HX : Hid (nx ⟨p, up, dn, pt⟩ level count = u) := Lib.hid (by rw [HN.out, if_pos hcmp])
            have hci : (k : Int) < (u : Int) := by omega
            go_wp2_with fail
            go_ret
            exact ⟨by rw [HX.out]; rfl, b1 _ _⟩
          · have HX : Hid (down dn count k = nx ⟨p, up, dn, pt⟩ level count) := Lib.hid (by rw [HN.out, if_neg hcmp])
            have hci : ¬ (k : Int) < (u : Int) := by omega
            go_wp2_with fail
            go_loop [1] (fun l => ∃ j : Nat, j ≤ k ∧ l = .int .i64 j ∧ Hid (down dn count j = down dn count k)) (fun l => (intOf l).toNat)
            case atStart => exact ⟨k, Nat.le_refl _, rfl, Lib.hid rfl⟩
            case round =>
              obtain ⟨j, hj, rfl, HJ⟩ := hrel
              by_cases hj0 : j = 0
              · have HZ : Hid (down dn count j = j) := Lib.hid (by rw [hj0]; rfl)
                have hg1 : decide ((0 : Int) < (j : Int)) = false := decide_eq_false (by omega)
                have hg2 : decide (0 < j) = false := decide_eq_false (by omega)
                clear hj0
                go_wp2_with fail
                go_ret
                exact ⟨by rw [← HX.out, ← HJ.out, HZ.out]; rfl, b1 _ _⟩
              · obtain ⟨i, rfl⟩ : ∃ i, j = i + 1 := ⟨j - 1, by omega⟩
                obtain ⟨bb, off, rfl, _, d1⟩ := H2.out.get (i := i) (by omega)
                have hi2 : i < n2 := by omega
                by_cases hc : count < at_ dn i
                · have HH := Lib.hid (down_yes hc)
                  go_wp2_with fail
                  go_round
                  case rel => exact ⟨i, by omega, by go_num, Lib.hid (by rw [← HH.out, HJ.out])⟩
                  case measure => simp [intOf]
                · have HH := Lib.hid (down_no hc)
                  go_wp2_with fail
                  go_ret
                  exact ⟨by rw [← HX.out, ← HJ.out, HH.out]; rfl, b1 _ _⟩
    · have hlv0 : level = (lv : Int) := by have h7 : clamp n1 level = level.toNat := by { rw [clamp, if_neg h0, if_neg h3] }; omega
      subst hlv0
      clear hlv
      go_enter Try.func25, Try.ntmps25
      go_wp2_with fail
      go_loop [7, 19] (fun g i => ∃ k : Nat, k ≤ n1 ∧ i = .int .i64 k ∧ g = .int .i64 (upto up count k : Nat)) (fun _ i => n1 - (intOf i).toNat)
      case atStart => exact ⟨0, Nat.zero_le _, rfl, rfl⟩
      case round =>
        obtain ⟨k, hk, rfl, rfl⟩ := hrel
        by_cases hlt : k < n1
        · obtain ⟨bb, off, rfl, _, d1⟩ := H1.out.get hlt
          by_cases hc : at_ up k ≤ count
          · have HH := Lib.hid (upto_yes hc)
            go_wp2_with fail
            go_round
            case rel => exact ⟨k + 1, by omega, by go_num, by rw [HH.out]; go_num⟩
            case measure => simp [intOf]; omega
          · have HH := Lib.hid (upto_no hc)
            go_wp2_with fail
            go_round
            case rel => exact ⟨k + 1, by omega, by go_num, by rw [HH.out]⟩
            case measure => simp [intOf]; omega
        · have hkn : k = n1 := by omega
          subst hkn
          rw [HU.out]
          clear hlt hk
          by_cases hcmp : lv < u
          · have HX : Hid (nx ⟨p, up, dn, pt⟩ (lv : Int) count = u) := Lib.hid (by rw [HN.out, if_pos hcmp])
            have hci : (lv : Int) < (u : Int) := by omega
            go_wp2_with fail
            go_ret
            exact ⟨by rw [HX.out]; rfl, b1 _ _⟩
          · have HX : Hid (down dn count lv = nx ⟨p, up, dn, pt⟩ (lv : Int) count) := Lib.hid (by rw [HN.out, if_neg hcmp])
            have hci : ¬ (lv : Int) < (u : Int) := by omega
            go_wp2_with fail
            go_loop [1] (fun l => ∃ j : Nat, j ≤ lv ∧ l = .int .i64 j ∧ Hid (down dn count j = down dn count lv)) (fun l => (intOf l).toNat)
            case atStart => exact ⟨lv, Nat.le_refl _, rfl, Lib.hid rfl⟩
            case round =>
              obtain ⟨j, hj, rfl, HJ⟩ := hrel
              by_cases hj0 : j = 0
              · have HZ : Hid (down dn count j = j) := Lib.hid (by rw [hj0]; rfl)
                have hg1 : decide ((0 : Int) < (j : Int)) = false := decide_eq_false (by omega)
                have hg2 : decide (0 < j) = false := decide_eq_false (by omega)
                clear hj0
                go_wp2_with fail
                go_ret
                exact ⟨by rw [← HX.out, ← HJ.out, HZ.out]; rfl, b1 _ _⟩
              · obtain ⟨i, rfl⟩ : ∃ i, j = i + 1 := ⟨j - 1, by omega⟩
                obtain ⟨bb, off, rfl, _, d1⟩ := H2.out.get (i := i) (by omega)
                have hi2 : i < n2 := by omega
                by_cases hc : count < at_ dn i
                · have HH := Lib.hid (down_yes hc)
                  go_wp2_with fail
                  go_round
                  case rel => exact ⟨i, by omega, by go_num, Lib.hid (by rw [← HH.out, HJ.out])⟩
                  case measure => simp [intOf]
                · have HH := Lib.hid (down_no hc)
                  go_wp2_with fail
                  go_ret
                  exact ⟨by rw [← HX.out, ← HJ.out, HH.out]; rfl, b1 _ _⟩
end Go.Proofs.Ytcobolmagjlbeaa.Wk
