/- Plain mathematics of the calendar: the Lean functions that both sides compute. No condition. -/
import Derived.Lib.Hide
set_option linter.unusedSimpArgs false
set_option linter.unusedVariables false
namespace Go.Proofs.YtfpndiacbpinpaaDoor.Mt
def isT (t : Int) : Bool := decide (0 ≤ t ∧ t < 68719476736)
def isD (d : Int) : Bool := decide (0 ≤ d ∧ d < 795364)
def lp (y : Int) : Bool := (decide (y % 4 = 0) && decide (y % 100 ≠ 0)) || decide (y % 400 = 0)
/-- the length of a month -/
def ml (y m : Int) : Int := if m = 2 then (if lp y = true then 29 else 28) else if m = 4 ∨ m = 6 ∨ m = 9 ∨ m = 11 then 30 else 31
/-- the length of a year -/
def yl (y : Int) : Int := if lp y = true then 366 else 365
/-- the days before a year -/
def ys (y : Int) : Int := (y - 2001) * 365 + (y - 2001) / 4 - (y - 2001) / 100 + (y - 2001) / 400
theorem ys_step (y : Int) : ys (y + 1) = ys y + yl y := by
  unfold ys yl lp
  by_cases h4 : y % 4 = 0 <;> by_cases h100 : y % 100 = 0 <;> by_cases h400 : y % 400 = 0 <;> simp [h4, h100, h400] <;> omega
theorem yl_lo (y : Int) : 365 ≤ yl y := by unfold yl; split <;> omega
theorem yl_hi (y : Int) : yl y ≤ 366 := by unfold yl; split <;> omega
theorem ys_mono (a b : Int) (h : a ≤ b) : ys a ≤ ys b := by unfold ys; omega
theorem ys_first : ys 2001 = 0 := by decide
/-- the year of a day, as it is reckoned -/
def yr (d : Int) : Int :=
  let r := d % 146097
  let c := min (r / 36524) 3
  let s := r - c * 36524
  let q := s % 1461
  2001 + d / 146097 * 400 + 100 * c + 4 * (s / 1461) + min (q / 365) 3
theorem yr_in (d : Int) (h : 0 ≤ d) : ys (yr d) ≤ d ∧ d < ys (yr d + 1) := by
  unfold ys yr
  simp only
  obtain ⟨a, r, rfl, h1, h2, h3⟩ : ∃ a r, d = 146097 * a + r ∧ 0 ≤ r ∧ r < 146097 ∧ 0 ≤ a := ⟨d / 146097, d % 146097, by omega, by omega, by omega, by omega⟩
  have e1 : (146097 * a + r) % 146097 = r := by omega
  have e2 : (146097 * a + r) / 146097 = a := by omega
  rw [e1, e2]
  obtain ⟨c, s, hc, h4, h5, h6, h7, h8⟩ : ∃ c s, c = min (r / 36524) 3 ∧ r = 36524 * c + s ∧ 0 ≤ c ∧ c ≤ 3 ∧ 0 ≤ s ∧ (s < 36524 ∨ (c = 3 ∧ s < 36525)) := ⟨_, r - 36524 * min (r / 36524) 3, rfl, by omega, by omega, by omega, by omega, by omega⟩
  rw [← hc]
  have e3 : r - c * 36524 = s := by omega
  rw [e3]
  obtain ⟨f, q, rfl, h9, h10, h11, h12⟩ : ∃ f q, s = 1461 * f + q ∧ 0 ≤ q ∧ q < 1461 ∧ 0 ≤ f ∧ f ≤ 24 := ⟨s / 1461, s % 1461, by omega, by omega, by omega, by omega, by omega⟩
  have e4 : (1461 * f + q) % 1461 = q := by omega
  have e5 : (1461 * f + q) / 1461 = f := by omega
  rw [e4, e5]
  obtain ⟨g, hg, h13, h14, h15⟩ : ∃ g, g = min (q / 365) 3 ∧ 0 ≤ g ∧ g ≤ 3 ∧ (365 * g ≤ q ∧ (q < 365 * g + 365 ∨ g = 3)) := ⟨_, rfl, by omega, by omega, by omega⟩
  rw [← hg]
  have e6 : (2001 + a * 400 + 100 * c + 4 * f + g - 2001) = 400 * a + 100 * c + 4 * f + g := by omega
  have e7 : (2001 + a * 400 + 100 * c + 4 * f + g + 1 - 2001) = 400 * a + 100 * c + 4 * f + g + 1 := by omega
  rw [e6, e7]
  have b1 : (400 * a + 100 * c + 4 * f + g) / 4 = 100 * a + 25 * c + f := by omega
  have b2 : (400 * a + 100 * c + 4 * f + g) / 100 = 4 * a + c := by omega
  have b3 : (400 * a + 100 * c + 4 * f + g) / 400 = a := by omega
  rw [b1, b2, b3]
  have b5 : (400 * a + 100 * c + 4 * f + g + 1) / 100 = 4 * a + c + (if f = 24 ∧ g = 3 then 1 else 0) := by split <;> omega
  have b4 : (400 * a + 100 * c + 4 * f + g + 1) / 4 = 100 * a + 25 * c + f + (if g = 3 then 1 else 0) := by split <;> omega
  have b6 : (400 * a + 100 * c + 4 * f + g + 1) / 400 = a + (if c = 3 ∧ f = 24 ∧ g = 3 then 1 else 0) := by split <;> omega
  rw [b4, b5, b6]
  split <;> split <;> split <;> omega
theorem yr_rem (d : Int) (h : 0 ≤ d) : (d % 146097 - min (d % 146097 / 36524) 3 * 36524) % 1461 - min ((d % 146097 - min (d % 146097 / 36524) 3 * 36524) % 1461 / 365) 3 * 365 = d - ys (yr d) := by
  unfold ys yr
  simp only
  obtain ⟨a, r, rfl, h1, h2, h3⟩ : ∃ a r, d = 146097 * a + r ∧ 0 ≤ r ∧ r < 146097 ∧ 0 ≤ a := ⟨d / 146097, d % 146097, by omega, by omega, by omega, by omega⟩
  have e1 : (146097 * a + r) % 146097 = r := by omega
  have e2 : (146097 * a + r) / 146097 = a := by omega
  rw [e1, e2]
  obtain ⟨c, s, hc, h4, h5, h6, h7, h8⟩ : ∃ c s, c = min (r / 36524) 3 ∧ r = 36524 * c + s ∧ 0 ≤ c ∧ c ≤ 3 ∧ 0 ≤ s ∧ (s < 36524 ∨ (c = 3 ∧ s < 36525)) := ⟨_, r - 36524 * min (r / 36524) 3, rfl, by omega, by omega, by omega, by omega, by omega⟩
  rw [← hc]
  have e3 : r - c * 36524 = s := by omega
  rw [e3]
  obtain ⟨f, q, rfl, h9, h10, h11, h12⟩ : ∃ f q, s = 1461 * f + q ∧ 0 ≤ q ∧ q < 1461 ∧ 0 ≤ f ∧ f ≤ 24 := ⟨s / 1461, s % 1461, by omega, by omega, by omega, by omega, by omega⟩
  have e4 : (1461 * f + q) % 1461 = q := by omega
  have e5 : (1461 * f + q) / 1461 = f := by omega
  rw [e4, e5]
  obtain ⟨g, hg, h13, h14, h15⟩ : ∃ g, g = min (q / 365) 3 ∧ 0 ≤ g ∧ g ≤ 3 ∧ (365 * g ≤ q ∧ (q < 365 * g + 365 ∨ g = 3)) := ⟨_, rfl, by omega, by omega, by omega⟩
  rw [← hg]
  have e6 : (2001 + a * 400 + 100 * c + 4 * f + g - 2001) = 400 * a + 100 * c + 4 * f + g := by omega
  rw [e6]
  have b1 : (400 * a + 100 * c + 4 * f + g) / 4 = 100 * a + 25 * c + f := by omega
  have b2 : (400 * a + 100 * c + 4 * f + g) / 100 = 4 * a + c := by omega
  have b3 : (400 * a + 100 * c + 4 * f + g) / 400 = a := by omega
  rw [b1, b2, b3]
  omega
theorem yr_lo (d : Int) (h : 0 ≤ d) : 2001 ≤ yr d := by simp only [yr]; omega
theorem yr_eq {d y : Int} (h0 : 0 ≤ d) (h1 : ys y ≤ d) (h2 : d < ys (y + 1)) : yr d = y := by
  obtain ⟨h3, h4⟩ := yr_in d h0
  rcases Int.lt_or_lt_of_ne (a := yr d) (b := y) |> fun f => (by by_cases e : yr d = y; exact .inl e; exact .inr (f e) : yr d = y ∨ (yr d < y ∨ y < yr d)) with e | e | e
  · exact e
  · have := ys_mono (yr d + 1) y (by omega); omega
  · have := ys_mono (y + 1) (yr d) (by omega); omega
def tab (m : Nat) : Int := [0, 0, 31, 59, 90, 120, 151, 181, 212, 243, 273, 304, 334, 365].getD m 0
/-- the days of a year before a month -/
def cum (y : Int) (m : Nat) : Int := tab m + if 3 ≤ m ∧ lp y = true then 1 else 0
theorem m12 {m : Nat} (h1 : 1 ≤ m) (h2 : m ≤ 12) : m = 1 ∨ m = 2 ∨ m = 3 ∨ m = 4 ∨ m = 5 ∨ m = 6 ∨ m = 7 ∨ m = 8 ∨ m = 9 ∨ m = 10 ∨ m = 11 ∨ m = 12 := by omega
theorem cum_step (y : Int) {m : Nat} (h1 : 1 ≤ m) (h2 : m ≤ 12) : cum y (m + 1) = cum y m + ml y (m : Int) := by
  rcases m12 h1 h2 with rfl | rfl | rfl | rfl | rfl | rfl | rfl | rfl | rfl | rfl | rfl | rfl <;> simp [cum, tab, ml] <;> split <;> omega
theorem cum_one (y : Int) : cum y 1 = 0 := by simp [cum, tab]
theorem cum_end (y : Int) : cum y 13 = yl y := by simp [cum, tab, yl]; split <;> omega
theorem ml_lo (y m : Int) : 28 ≤ ml y m := by unfold ml; split; split <;> omega; split <;> omega
theorem ml_hi (y m : Int) : ml y m ≤ 31 := by unfold ml; split; split <;> omega; split <;> omega
theorem cum_lo (y : Int) {m : Nat} (h1 : 1 ≤ m) (h2 : m ≤ 13) : 0 ≤ cum y m ∧ cum y m ≤ 366 := by
  rcases (show m ≤ 12 ∨ m = 13 by omega) with h | rfl
  · rcases m12 h1 h with rfl | rfl | rfl | rfl | rfl | rfl | rfl | rfl | rfl | rfl | rfl | rfl <;> simp [cum, tab] <;> (try split) <;> omega
  · simp [cum, tab]; split <;> omega
theorem cum_mono (y : Int) : ∀ {b a : Nat}, 1 ≤ a → a ≤ b → b ≤ 13 → cum y a ≤ cum y b := by
  intro b
  induction b with
  | zero => intro a h1 h2 _; omega
  | succ b ih =>
    intro a h1 h2 h3
    rcases Nat.lt_or_ge a (b + 1) with h | h
    · have e := cum_step y (m := b) (by omega) (by omega)
      have := ml_lo y (b : Int)
      have := ih h1 (by omega) (by omega)
      omega
    · have : a = b + 1 := by omega
      subst this; omega
/-- the month of a day of a year -/
def mo (y r : Int) : Nat := ((List.range 12).find? fun k => decide (r < cum y (k + 2))).getD 0 + 1
theorem mo_eq {y r : Int} {m : Nat} (h1 : 1 ≤ m) (h2 : m ≤ 12) (h3 : cum y m ≤ r) (h4 : r < cum y (m + 1)) : mo y r = m := by
  have hlow : ∀ k, k + 1 < m → ¬ r < cum y (k + 2) := fun k hk h => by have := cum_mono y (a := k + 2) (b := m) (by omega) (by omega) (by omega); omega
  have hhit : r < cum y ((m - 1) + 2) := by rw [show m - 1 + 2 = m + 1 by omega]; exact h4
  have : (List.range 12).find? (fun k => decide (r < cum y (k + 2))) = some (m - 1) := by
    rw [List.find?_range_eq_some]
    exact ⟨by simpa using hhit, by simp; omega, fun j hj => by have := hlow j (by omega); simpa using this⟩
  unfold mo
  rw [this]; simp; omega
/-- the date of a day -/
def dateS (d : Int) : Int × Int × Int :=
  if isD d = true then (yr d, (mo (yr d) (d - ys (yr d)) : Nat), d - ys (yr d) - cum (yr d) (mo (yr d) (d - ys (yr d))) + 1) else (0, 0, 0)
theorem date_eq {d y : Int} {m : Nat} (hd : isD d = true) (hy : ys y ≤ d) (hm1 : 1 ≤ m) (hm2 : m ≤ 12) (h3 : cum y m ≤ d - ys y) (h4 : d - ys y < cum y (m + 1)) : dateS d = (y, (m : Int), d - ys y - cum y m + 1) := by
  have h0 : 0 ≤ d := by simp [isD] at hd; omega
  have e : yr d = y := yr_eq h0 hy (by rw [ys_step]; have := cum_mono y (a := m + 1) (b := 13) (by omega) (by omega) (by omega); rw [cum_end] at this; omega)
  unfold dateS
  rw [if_pos hd, e, mo_eq hm1 hm2 h3 h4]
theorem mo_in {y r : Int} (h0 : 0 ≤ r) (h1 : r < yl y) : ∃ m, 1 ≤ m ∧ m ≤ 12 ∧ cum y m ≤ r ∧ r < cum y (m + 1) := by
  have key : ∀ n : Nat, n ≤ 12 → r < cum y (n + 1) → ∃ m, 1 ≤ m ∧ m ≤ n ∧ cum y m ≤ r ∧ r < cum y (m + 1) := by
    intro n
    induction n with
    | zero => intro _ h; rw [cum_one] at h; omega
    | succ n ih =>
      intro hn h
      by_cases hc : r < cum y (n + 1)
      · obtain ⟨m, a, b, c, d⟩ := ih (by omega) hc
        exact ⟨m, a, by omega, c, d⟩
      · exact ⟨n + 1, by omega, by omega, by omega, h⟩
  exact key 12 (by omega) (by rw [cum_end]; exact h1)
/-- the day of a date, and its error -/
def dayOfS (y m d : Int) : Int × Int :=
  if y < 2001 ∨ 9999 < y then (0, 12) else if m < 1 ∨ 12 < m ∨ d < 1 ∨ ml y m < d then (0, 1)
  else if isD (ys y + cum y m.toNat + d - 1) = true then (ys y + cum y m.toNat + d - 1, 0) else (0, 12)
example : dateS 1154 = (2004, 2, 29) := by decide
example : dayOfS 2004 2 29 = (1154, 0) := by decide
example : dayOfS 2004 2 30 = (0, 1) := by decide
theorem date_back {d : Int} (hd : isD d = true) : ∃ (y : Int) (m : Nat), dateS d = (y, (m : Int), d - ys y - cum y m + 1) ∧ 2001 ≤ y ∧ y ≤ 4178 ∧ 1 ≤ m ∧ m ≤ 12 ∧ ys y ≤ d ∧ cum y m ≤ d - ys y ∧ d - ys y < cum y (m + 1) := by
  have hb : 0 ≤ d ∧ d < 795364 := by simpa [isD] using hd
  obtain ⟨h1, h2⟩ := yr_in d hb.1
  obtain ⟨y, hy⟩ : ∃ y, yr d = y := ⟨_, rfl⟩
  rw [hy] at h1 h2
  rw [ys_step] at h2
  obtain ⟨m, a, b, c, e⟩ := mo_in (y := y) (r := d - ys y) (by omega) (by omega)
  refine ⟨y, m, date_eq hd h1 a b c e, ?_, ?_, a, b, h1, c, e⟩
  · rw [← hy]; exact yr_lo d hb.1
  · unfold ys at h1; omega
theorem dayOf_date {d : Int} (hd : isD d = true) : dayOfS (dateS d).1 (dateS d).2.1 (dateS d).2.2 = (d, 0) := by
  obtain ⟨y, m, e, h1, h2, h3, h4, h5, h6, h7⟩ := date_back hd
  rw [e]
  have hs := cum_step y h3 h4
  unfold dayOfS
  simp only
  rw [if_neg (by omega), if_neg (by omega), show ((m : Int)).toNat = m by omega, show ys y + cum y m + (d - ys y - cum y m + 1) - 1 = d by omega, if_pos hd]
/-- the next day -/
theorem date_next {d y m x y2 m2 x2 : Int} (hd : isD d = true) (hd2 : isD (d + 1) = true) (ea : dateS d = (y, m, x)) (eb : dateS (d + 1) = (y2, m2, x2)) :
    ((y2 = y ∧ m2 = m ∧ x2 = x + 1) ∨ (y2 = y ∧ m2 = m + 1 ∧ x2 = 1 ∧ 28 ≤ x) ∨ (y2 = y + 1 ∧ m = 12 ∧ x = 31 ∧ m2 = 1 ∧ x2 = 1)) ∧ x2 ≤ 31 ∧ m2 ≤ 12 := by
  obtain ⟨y', m', e, h1, h2, h3, h4, h5, h6, h7⟩ := date_back hd
  have hs := cum_step y' h3 h4
  have l1 := ml_lo y' (m' : Int)
  have l2 := ml_hi y' (m' : Int)
  rw [ea] at e
  simp only [Prod.mk.injEq] at e
  obtain ⟨rfl, rfl, rfl⟩ := e
  by_cases c1 : d + 1 - ys y < cum y (m' + 1)
  · have e2 := date_eq hd2 (by omega) h3 h4 (by omega) c1
    rw [eb] at e2; simp only [Prod.mk.injEq] at e2; omega
  · by_cases c2 : m' < 12
    · have hs2 := cum_step y (m := m' + 1) (by omega) (by omega)
      have l3 := ml_lo y ((m' + 1 : Nat) : Int)
      have e2 := date_eq hd2 (y := y) (m := m' + 1) (by omega) (by omega) (by omega) (by omega) (by omega)
      rw [eb] at e2; simp only [Prod.mk.injEq] at e2; omega
    · have : m' = 12 := by omega
      subst this
      have e13 : cum y (12 + 1) = yl y := cum_end y
      have st := ys_step y
      have c1' := cum_one (y + 1)
      have hs2 := cum_step (y + 1) (m := 1) (by omega) (by omega)
      have l3 := ml_lo (y + 1) ((1 : Nat) : Int)
      have e2 := date_eq hd2 (y := y + 1) (m := 1) (by omega) (by omega) (by omega) (by omega) (by omega)
      have hc : ml y ((12 : Nat) : Int) = 31 := by simp [ml]
      rw [eb] at e2; simp only [Prod.mk.injEq] at e2; omega
end Go.Proofs.YtfpndiacbpinpaaDoor.Mt
