/- Days and dates, both sides. Conditions: the table of months reads as it is laid. -/
import Derived.Test.YtaapmifdglaehaaDoorProg
import Derived.Below
import Derived.BigQuiet
import Derived.Deep.AppendLies
import Derived.Deep.Onto
import Derived.Deep.QuietTactic
import Derived.Deep.RegionHeld3
import Derived.IntWalk
import Derived.Laws.AppendOwn
import Derived.Laws.OwnMore
import Derived.Laws.Rows
import Derived.Lib.Hide
import Derived.Lib.RabinKarpLaws
import Derived.LoopTactic
import Derived.Outline
import Derived.OwnWalk
import Derived.WalkKit
import Derived.WalkSmall
set_option linter.unusedSimpArgs false
set_option linter.unusedVariables false
namespace Go.Proofs.YtaapmifdglaehaaDoor.Cm
def isT (t : Int) : Bool := decide (0 ≤ t ∧ t < 68719476736)
def isD (d : Int) : Bool := decide (0 ≤ d ∧ d < 795364)
def lp (y : Int) : Bool := (decide (y % 4 = 0) && decide (y % 100 ≠ 0)) || decide (y % 400 = 0)
def ml (y m : Int) : Int := if m = 2 then (if lp y = true then 29 else 28) else if m = 4 ∨ m = 6 ∨ m = 9 ∨ m = 11 then 30 else 31
def yl (y : Int) : Int := if lp y = true then 366 else 365
def ys (y : Int) : Int := (y - 2001) * 365 + (y - 2001) / 4 - (y - 2001) / 100 + (y - 2001) / 400
theorem ys_step (y : Int) : ys (y + 1) = ys y + yl y := by
  unfold ys yl lp
  by_cases h4 : y % 4 = 0 <;> by_cases h100 : y % 100 = 0 <;> by_cases h400 : y % 400 = 0 <;> simp [h4, h100, h400] <;> omega
theorem yl_hi (y : Int) : yl y ≤ 366 := by unfold yl; split <;> omega
theorem ys_mono (a b : Int) (h : a ≤ b) : ys a ≤ ys b := by unfold ys; omega
def yr (d : Int) : Int :=
  let r := d % 146097
  let c := min (r / 36524) 3
  let s := r - c * 36524
  let q := s % 1461
  2001 + d / 146097 * 400 + 100 * c + 4 * (s / 1461) + min (q / 365) 3
theorem yr_in (d : Int) (h : 0 ≤ d) : ys (yr d) ≤ d ∧ d < ys (yr d + 1) := by
  unfold ys yr
  simp only
  obtain ⟨a, r, rfl, h1, h2, h3⟩ : ∃ a r, d = 146097 * a + r ∧ 0 ≤ r ∧ r < 146097 ∧ 0 ≤ a := ⟨d / 146097, d % 146097, by omega, by omega, by omega, by omega⟩
  have e1 : (146097 * a + r) % 146097 = r := by omega
  have e2 : (146097 * a + r) / 146097 = a := by omega
  rw [e1, e2]
  obtain ⟨c, s, hc, h4, h5, h6, h7, h8⟩ : ∃ c s, c = min (r / 36524) 3 ∧ r = 36524 * c + s ∧ 0 ≤ c ∧ c ≤ 3 ∧ 0 ≤ s ∧ (s < 36524 ∨ (c = 3 ∧ s < 36525)) := ⟨_, r - 36524 * min (r / 36524) 3, rfl, by omega, by omega, by omega, by omega, by omega⟩
  rw [← hc]
  have e3 : r - c * 36524 = s := by omega
  rw [e3]
  obtain ⟨f, q, rfl, h9, h10, h11, h12⟩ : ∃ f q, s = 1461 * f + q ∧ 0 ≤ q ∧ q < 1461 ∧ 0 ≤ f ∧ f ≤ 24 := ⟨s / 1461, s % 1461, by omega, by omega, by omega, by omega, by omega⟩
  have e4 : (1461 * f + q) % 1461 = q := by omega
  have e5 : (1461 * f + q) / 1461 = f := by omega
  rw [e4, e5]
  obtain ⟨g, hg, h13, h14, h15⟩ : ∃ g, g = min (q / 365) 3 ∧ 0 ≤ g ∧ g ≤ 3 ∧ (365 * g ≤ q ∧ (q < 365 * g + 365 ∨ g = 3)) := ⟨_, rfl, by omega, by omega, by omega⟩
  rw [← hg]
  have e6 : (2001 + a * 400 + 100 * c + 4 * f + g - 2001) = 400 * a + 100 * c + 4 * f + g := by omega
  have e7 : (2001 + a * 400 + 100 * c + 4 * f + g + 1 - 2001) = 400 * a + 100 * c + 4 * f + g + 1 := by omega
  rw [e6, e7]
  have b1 : (400 * a + 100 * c + 4 * f + g) / 4 = 100 * a + 25 * c + f := by omega
  have b2 : (400 * a + 100 * c + 4 * f + g) / 100 = 4 * a + c := by omega
  have b3 : (400 * a + 100 * c + 4 * f + g) / 400 = a := by omega
  rw [b1, b2, b3]
  have b5 : (400 * a + 100 * c + 4 * f + g + 1) / 100 = 4 * a + c + (if f = 24 ∧ g = 3 then 1 else 0) := by split <;> omega
  have b4 : (400 * a + 100 * c + 4 * f + g + 1) / 4 = 100 * a + 25 * c + f + (if g = 3 then 1 else 0) := by split <;> omega
  have b6 : (400 * a + 100 * c + 4 * f + g + 1) / 400 = a + (if c = 3 ∧ f = 24 ∧ g = 3 then 1 else 0) := by split <;> omega
  rw [b4, b5, b6]
  split <;> split <;> split <;> omega
theorem yr_rem (d : Int) (h : 0 ≤ d) : (d % 146097 - min (d % 146097 / 36524) 3 * 36524) % 1461 - min ((d % 146097 - min (d % 146097 / 36524) 3 * 36524) % 1461 / 365) 3 * 365 = d - ys (yr d) := by
  unfold ys yr
  simp only
  obtain ⟨a, r, rfl, h1, h2, h3⟩ : ∃ a r, d = 146097 * a + r ∧ 0 ≤ r ∧ r < 146097 ∧ 0 ≤ a := ⟨d / 146097, d % 146097, by omega, by omega, by omega, by omega⟩
  have e1 : (146097 * a + r) % 146097 = r := by omega
  have e2 : (146097 * a + r) / 146097 = a := by omega
  rw [e1, e2]
  obtain ⟨c, s, hc, h4, h5, h6, h7, h8⟩ : ∃ c s, c = min (r / 36524) 3 ∧ r = 36524 * c + s ∧ 0 ≤ c ∧ c ≤ 3 ∧ 0 ≤ s ∧ (s < 36524 ∨ (c = 3 ∧ s < 36525)) := ⟨_, r - 36524 * min (r / 36524) 3, rfl, by omega, by omega, by omega, by omega, by omega⟩
  rw [← hc]
  have e3 : r - c * 36524 = s := by omega
  rw [e3]
  obtain ⟨f, q, rfl, h9, h10, h11, h12⟩ : ∃ f q, s = 1461 * f + q ∧ 0 ≤ q ∧ q < 1461 ∧ 0 ≤ f ∧ f ≤ 24 := ⟨s / 1461, s % 1461, by omega, by omega, by omega, by omega, by omega⟩
  have e4 : (1461 * f + q) % 1461 = q := by omega
  have e5 : (1461 * f + q) / 1461 = f := by omega
  rw [e4, e5]
  obtain ⟨g, hg, h13, h14, h15⟩ : ∃ g, g = min (q / 365) 3 ∧ 0 ≤ g ∧ g ≤ 3 ∧ (365 * g ≤ q ∧ (q < 365 * g + 365 ∨ g = 3)) := ⟨_, rfl, by omega, by omega, by omega⟩
  rw [← hg]
  have e6 : (2001 + a * 400 + 100 * c + 4 * f + g - 2001) = 400 * a + 100 * c + 4 * f + g := by omega
  rw [e6]
  have b1 : (400 * a + 100 * c + 4 * f + g) / 4 = 100 * a + 25 * c + f := by omega
  have b2 : (400 * a + 100 * c + 4 * f + g) / 100 = 4 * a + c := by omega
  have b3 : (400 * a + 100 * c + 4 * f + g) / 400 = a := by omega
  rw [b1, b2, b3]
  omega
theorem yr_lo (d : Int) (h : 0 ≤ d) : 2001 ≤ yr d := by simp only [yr]; omega
theorem yr_eq {d y : Int} (h0 : 0 ≤ d) (h1 : ys y ≤ d) (h2 : d < ys (y + 1)) : yr d = y := by
  obtain ⟨h3, h4⟩ := yr_in d h0
  rcases Int.lt_or_lt_of_ne (a := yr d) (b := y) |> fun f => (by by_cases e : yr d = y; exact .inl e; exact .inr (f e) : yr d = y ∨ (yr d < y ∨ y < yr d)) with e | e | e
  · exact e
  · have := ys_mono (yr d + 1) y (by omega); omega
  · have := ys_mono (y + 1) (yr d) (by omega); omega
def tab (m : Nat) : Int := [0, 0, 31, 59, 90, 120, 151, 181, 212, 243, 273, 304, 334, 365].getD m 0
def cum (y : Int) (m : Nat) : Int := tab m + if 3 ≤ m ∧ lp y = true then 1 else 0
theorem m12 {m : Nat} (h1 : 1 ≤ m) (h2 : m ≤ 12) : m = 1 ∨ m = 2 ∨ m = 3 ∨ m = 4 ∨ m = 5 ∨ m = 6 ∨ m = 7 ∨ m = 8 ∨ m = 9 ∨ m = 10 ∨ m = 11 ∨ m = 12 := by omega
theorem cum_step (y : Int) {m : Nat} (h1 : 1 ≤ m) (h2 : m ≤ 12) : cum y (m + 1) = cum y m + ml y (m : Int) := by
  rcases m12 h1 h2 with rfl | rfl | rfl | rfl | rfl | rfl | rfl | rfl | rfl | rfl | rfl | rfl <;> simp [cum, tab, ml] <;> split <;> omega
theorem cum_one (y : Int) : cum y 1 = 0 := by simp [cum, tab]
theorem cum_end (y : Int) : cum y 13 = yl y := by simp [cum, tab, yl]; split <;> omega
theorem ml_lo (y m : Int) : 28 ≤ ml y m := by unfold ml; split; split <;> omega; split <;> omega
theorem ml_hi (y m : Int) : ml y m ≤ 31 := by unfold ml; split; split <;> omega; split <;> omega
theorem cum_mono (y : Int) : ∀ {b a : Nat}, 1 ≤ a → a ≤ b → b ≤ 13 → cum y a ≤ cum y b := by
  intro b
  induction b with
  | zero => intro a h1 h2 _; omega
  | succ b ih =>
    intro a h1 h2 h3
    rcases Nat.lt_or_ge a (b + 1) with h | h
    · have e := cum_step y (m := b) (by omega) (by omega)
      have := ml_lo y (b : Int)
      have := ih h1 (by omega) (by omega)
      omega
    · have : a = b + 1 := by omega
      subst this; omega
def mo (y r : Int) : Nat := ((List.range 12).find? fun k => decide (r < cum y (k + 2))).getD 0 + 1
theorem mo_eq {y r : Int} {m : Nat} (h1 : 1 ≤ m) (h2 : m ≤ 12) (h3 : cum y m ≤ r) (h4 : r < cum y (m + 1)) : mo y r = m := by
  have hlow : ∀ k, k + 1 < m → ¬ r < cum y (k + 2) := fun k hk h => by have := cum_mono y (a := k + 2) (b := m) (by omega) (by omega) (by omega); omega
  have hhit : r < cum y ((m - 1) + 2) := by rw [show m - 1 + 2 = m + 1 by omega]; exact h4
  have : (List.range 12).find? (fun k => decide (r < cum y (k + 2))) = some (m - 1) := by
    rw [List.find?_range_eq_some]
    exact ⟨by simpa using hhit, by simp; omega, fun j hj => by have := hlow j (by omega); simpa using this⟩
  unfold mo
  rw [this]; simp; omega
def dateS (d : Int) : Int × Int × Int :=
  if isD d = true then (yr d, (mo (yr d) (d - ys (yr d)) : Nat), d - ys (yr d) - cum (yr d) (mo (yr d) (d - ys (yr d))) + 1) else (0, 0, 0)
theorem date_eq {d y : Int} {m : Nat} (hd : isD d = true) (hy : ys y ≤ d) (hm1 : 1 ≤ m) (hm2 : m ≤ 12) (h3 : cum y m ≤ d - ys y) (h4 : d - ys y < cum y (m + 1)) : dateS d = (y, (m : Int), d - ys y - cum y m + 1) := by
  have h0 : 0 ≤ d := by simp [isD] at hd; omega
  have e : yr d = y := yr_eq h0 hy (by rw [ys_step]; have := cum_mono y (a := m + 1) (b := 13) (by omega) (by omega) (by omega); rw [cum_end] at this; omega)
  unfold dateS
  rw [if_pos hd, e, mo_eq hm1 hm2 h3 h4]
end Go.Proofs.YtaapmifdglaehaaDoor.Cm
namespace Go.Proofs.YtaapmifdglaehaaDoor.Cw
open Go.RowKit
open Go.Proofs.YtaapmifdglaehaaDoor.Cm
theorem b1 (w : World) (o1 : Obj) : Below w.heap.size w (w.alloc o1) := (Below.refl _ _).alloc (Nat.le_refl _) _
theorem fot (b : Bool) : b = false ∨ b = true := by cases b <;> simp
def Bx (w : World) (g : Nat) (t : TypeId) (cs : Array Value) : Prop := w.heap[g]? = some (.cells cs t (0, 0))
theorem Bx.lt {w : World} {g : Nat} {t : TypeId} {cs : Array Value} (h : Bx w g t cs) : g < w.heap.size := by
  rcases Nat.lt_or_ge g w.heap.size with hlt | hge
  · exact hlt
  · unfold Bx at h; rw [Array.getElem?_eq_none hge] at h; cases h
theorem Bx.next {w w' : World} {g : Nat} {t : TypeId} {cs : Array Value} (h : Bx w g t cs) (hb : Below w.heap.size w w') : Bx w' g t cs := (hb.block g h.lt).trans h
theorem Bx.cell {w : World} {g : Nat} {t : TypeId} {cs : Array Value} (h : Bx w g t cs) (i : Nat) : w.cell? ⟨g, i, none⟩ = cs[i]? := cell_of_row w g i cs t (0, 0) h
theorem Bx.alloc {w : World} {g : Nat} {t : TypeId} {cs : Array Value} (h : Bx w g t cs) (o : Obj) : Bx (w.alloc o) g t cs := h.next (b1 _ _)
def iat (l : List Int) (i : Nat) : Int := l.getD i 0
def Ri (w : World) (B : Nat) (A : Option Addr) (n : Nat) (zs : List Int) : Prop :=
  zs.length = n ∧ n ≤ 9223372036854775807 ∧ (0 < n → ∃ b off, A = some ⟨b, off, none⟩ ∧ b < B ∧ ∀ i, i < n → w.cell? ⟨b, off + i, none⟩ = some (.int .i64 (iat zs i)))
theorem Ri.none (w : World) (B : Nat) : Ri w B none 0 [] := ⟨rfl, by omega, fun h => by omega⟩
end Go.Proofs.YtaapmifdglaehaaDoor.Cw
namespace Go.Proofs.YtaapmifdglaehaaDoor.Cm
def dayS (t : Int) : Int := if isT t = true then t / 86400 else -1
theorem isT_iff (t : Int) : isT t = true ↔ 0 ≤ t ∧ t < 68719476736 := by simp [isT]
theorem isD_iff (t : Int) : isD t = true ↔ 0 ≤ t ∧ t < 795364 := by simp [isD]
end Go.Proofs.YtaapmifdglaehaaDoor.Cm
namespace Go.Proofs.YtaapmifdglaehaaDoor.Cw
open Go.RowKit
open Go.Proofs.YtaapmifdglaehaaDoor.Cm
theorem isTime_any (n : Int) (w : World) : Calls Tryd.prog 54 #[.int .i64 n] w fun e w' => e = .returned (.bool (isT n)) ∧ w = w' := by
  by_cases h1 : 0 ≤ n <;> by_cases h2 : n < 68719476736
  all_goals
    go_enter Tryd.func54, Tryd.ntmps54
    go_wp2
    go_ret
    exact ⟨by simp [isT, h1, h2], rfl⟩
theorem validDay_any (n : Int) (w : World) : Calls Tryd.prog 83 #[.int .i64 n] w fun e w' => e = .returned (.bool (isD n)) ∧ w = w' := by
  by_cases h1 : 0 ≤ n <;> by_cases h2 : n < 795364
  all_goals
    go_enter Tryd.func83, Tryd.ntmps83
    go_wp2
    go_ret
    exact ⟨by simp [isD, h1, h2], rfl⟩
theorem day_any (n : Int) (w : World) : Calls Tryd.prog 30 #[.int .i64 n] w fun e w' => e = .returned (.int .i64 (dayS n)) ∧ w = w' := by
  rcases fot (isT n) with h | h
  · have HS : Hid (dayS n = -1) := Lib.hid (by simp [dayS, h])
    have H := Lib.hid h
    clear h
    go_enter Tryd.func30, Tryd.ntmps30
    go_wp2_with fail
    refine (isTime_any _ _).mono ?_
    rintro e w' ⟨rfl, rfl⟩
    rw [H.out]
    go_wp2_with fail
    go_ret
    exact ⟨by rw [HS.out]; rfl, rfl⟩
  · obtain ⟨h1, h2⟩ := (isT_iff n).1 h
    have HS := Lib.hid (show dayS n = _ by unfold dayS; rw [if_pos h])
    have H := Lib.hid h
    clear h
    go_enter Tryd.func30, Tryd.ntmps30
    go_wp2_with fail
    refine (isTime_any _ _).mono ?_
    rintro e w' ⟨rfl, rfl⟩
    rw [H.out]
    go_wp2_with fail
    go_ret
    exact ⟨by rw [HS.out]; rfl, rfl⟩
end Go.Proofs.YtaapmifdglaehaaDoor.Cw
namespace Go.Proofs.YtaapmifdglaehaaDoor.Cm
def md (i : Nat) : Int := [31, 28, 31, 30, 31, 30, 31, 31, 30, 31, 30, 31].getD i 0
end Go.Proofs.YtaapmifdglaehaaDoor.Cm
namespace Go.Proofs.YtaapmifdglaehaaDoor.Cw
open Go.RowKit
open Go.Proofs.YtaapmifdglaehaaDoor.Cm
def Md (w : World) : Prop := 0 < w.heap.size ∧ ∀ i, i < 12 → w.cell? ⟨0, i, none⟩ = some (.int .i64 (md i))
theorem Md.next {w w' : World} (h : Md w) (hb : Below w.heap.size w w') : Md w' := ⟨Nat.lt_of_lt_of_le h.1 hb.size, fun i hi => (hb.cell (p := ⟨0, i, none⟩) h.1).trans (h.2 i hi)⟩
theorem leap_any (y : Int) (w : World) (h0 : 0 ≤ y) (h1 : y ≤ 10000) : Calls Tryd.prog 86 #[.int .i64 y] w fun e w' => e = .returned (.bool (lp y)) ∧ w = w' := by
  by_cases c4 : y % 4 = 0 <;> by_cases c100 : y % 100 = 0 <;> by_cases c400 : y % 400 = 0
  all_goals
    have HS := Lib.hid (show lp y = _ by simp only [lp, c4, c100, c400, ne_eq, not_true, not_false_eq_true, decide_true, decide_false, Bool.and_true, Bool.and_false, Bool.or_true, Bool.or_false, Bool.true_and, Bool.false_and]; rfl)
    first | have k4 : (y % 4 == 0) = true := beq_iff_eq.2 c4 | have k4 : (y % 4 == 0) = false := beq_eq_false_iff_ne.2 c4
    first | have k100 : (y % 100 != 0) = false := by simp [c100] | have k100 : (y % 100 != 0) = true := by simp [c100]
    first | have k400 : (y % 400 == 0) = true := beq_iff_eq.2 c400 | have k400 : (y % 400 == 0) = false := beq_eq_false_iff_ne.2 c400
    clear c4 c100 c400
    go_enter Tryd.func86, Tryd.ntmps86
    go_wp2_with fail
    go_ret
    exact ⟨by rw [HS.out]; rfl, rfl⟩
set_option maxHeartbeats 1000000 in
theorem mlen_any (y : Int) (m : Nat) (w : World) (hM : Md w) (h0 : 0 ≤ y) (h1 : y ≤ 10000) (h2 : 1 ≤ m) (h3 : m ≤ 12) : Calls Tryd.prog 84 #[.int .i64 y, .int .i64 m] w fun e w' => e = .returned (.int .i64 (ml y m)) ∧ w = w' := by
  have hc := hM.2 (m - 1) (by omega)
  clear hM
  obtain ⟨L, hL⟩ : ∃ L, ml y (m : Int) = L := ⟨_, rfl⟩
  rw [hL]
  rcases fot (lp y) with h | h <;> rcases m12 h2 h3 with rfl | rfl | rfl | rfl | rfl | rfl | rfl | rfl | rfl | rfl | rfl | rfl
  all_goals
    have H := Lib.hid h
    simp [ml, h] at hL
    subst hL
    simp [md] at hc
    clear h h2 h3
    go_enter Tryd.func84, Tryd.ntmps84
    go_wp2_with (go_at_call 86; refine (leap_any _ _ h0 h1).mono ?_; rintro e w' ⟨rfl, rfl⟩; rw [H.out])
    go_ret
    exact ⟨rfl, rfl⟩
end Go.Proofs.YtaapmifdglaehaaDoor.Cw
namespace Go.Proofs.YtaapmifdglaehaaDoor.Cw
open Go.RowKit
open Go.Proofs.YtaapmifdglaehaaDoor.Cm
set_option maxHeartbeats 4000000 in
set_option maxRecDepth 100000 in
theorem date_any (n : Int) (w : World) (hM : Md w) : Calls Tryd.prog 76 #[.int .i64 n] w fun e w' => e = .returned (.tuple #[.int .i64 (dateS n).1, .int .i64 (dateS n).2.1, .int .i64 (dateS n).2.2]) ∧ w = w' := by
  have HM := Lib.hid hM
  clear hM
  rcases fot (isD n) with h | h
  · have HS : Hid (dateS n = (0, 0, 0)) := Lib.hid (by simp [dateS, h])
    have H := Lib.hid h
    clear h
    go_enter Tryd.func76, Tryd.ntmps76
    go_wp2_with fail
    refine (validDay_any _ _).mono ?_
    rintro e w' ⟨rfl, rfl⟩
    rw [H.out]
    go_wp2_with fail
    go_ret3
    exact ⟨by rw [HS.out]; rfl, rfl⟩
  · have HD := Lib.hid h
    obtain ⟨hn0, hn1⟩ := (isD_iff n).1 h
    obtain ⟨hy1, hy2⟩ := yr_in n hn0
    have hy3 := yr_lo n hn0
    have HYR := Lib.hid (show yr n = _ from rfl)
    obtain ⟨y, hy⟩ : ∃ y, yr n = y := ⟨_, rfl⟩
    have hy4 : y ≤ 4178 := by rw [hy] at hy1; unfold ys at hy1; omega
    have HYE := Lib.hid hy
    rw [hy] at hy1 hy2 hy3
    rw [ys_step] at hy2
    have l3 := yl_hi y
    have HY1 := Lib.hid hy1
    have HY2 := Lib.hid hy2
    clear h hy HYR hy1 hy2
    go_enter Tryd.func76, Tryd.ntmps76
    go_wp2_with fail
    refine (validDay_any _ _).mono ?_
    rintro e w' ⟨rfl, rfl⟩
    rw [HD.out]
    go_wp2_with fail
    have ey := HYE.out
    unfold yr at ey
    simp only at ey
    have er := yr_rem n hn0
    rw [HYE.out] at er
    rw [ey, er]
    have a1 := HY1.out
    have a2 := HY2.out
    clear ey er
    go_loop [0, 7] (fun dd mm => ∃ m : Nat, 1 ≤ m ∧ m ≤ 12 ∧ mm = .int .i64 m ∧ ∃ r : Int, dd = .int .i64 r ∧ 0 ≤ r ∧ r ≤ 366 ∧ Hid (r = n - ys y - cum y m ∧ r < yl y - cum y m)) (fun _ mm => 13 - (intOf mm).toNat)
    case atStart => exact ⟨1, by omega, by omega, rfl, _, rfl, by omega, by omega, Lib.hid (by rw [cum_one]; omega)⟩
    case round =>
      clear a1 a2
      obtain ⟨m, hm1, hm2, rfl, r, rfl, hr0, hr1, HR⟩ := hrel
      have hs := cum_step y hm1 hm2
      have l1 := ml_lo y (m : Int)
      have l2 := ml_hi y (m : Int)
      by_cases hc : ml y (m : Int) ≤ r
      · have hm3 : m < 12 := by
          rcases Nat.lt_or_ge m 12 with h | h
          · exact h
          · have e : m = 12 := by omega
            subst e
            have e13 : cum y (12 + 1) = yl y := cum_end y
            have := HR.out
            omega
        have HR2 : Hid (r - ml y (m : Int) = n - ys y - cum y (m + 1) ∧ r - ml y (m : Int) < yl y - cum y (m + 1)) := Lib.hid (by have := HR.out; omega)
        clear hs
        go_wp2_with (go_at_call 84; refine (mlen_any _ _ _ HM.out (by omega) (by omega) (by omega) (by omega)).mono ?_; rintro e w' ⟨rfl, rfl⟩)
        go_round
        case rel => exact ⟨m + 1, by omega, by omega, by go_num, _, rfl, by omega, by omega, HR2⟩
        case measure => simp [intOf]; omega
      · have HS : Hid (dateS n = (y, (m : Int), r + 1)) := Lib.hid (by
          have hr := HR.out
          rw [date_eq HD.out HY1.out hm1 hm2 (by omega) (by omega)]
          simp only [Prod.mk.injEq, true_and]; omega)
        clear hs
        go_wp2_with (go_at_call 84; refine (mlen_any _ _ _ HM.out (by omega) (by omega) (by omega) (by omega)).mono ?_; rintro e w' ⟨rfl, rfl⟩)
        go_ret3
        exact ⟨by rw [HS.out]; rfl, rfl⟩
end Go.Proofs.YtaapmifdglaehaaDoor.Cw
