/- Business days counted one by one; the walk of ClockSteps. Conditions: the table of months reads as the text lays it; the slice reads as a list. -/
import Derived.Test.YtfpndiacbpinpaaDoorLawA
set_option linter.unusedSimpArgs false
set_option linter.unusedVariables false
namespace Go.Proofs.YtfpndiacbpinpaaDoor.Mt
theorem lt_split {cal : List Int} : ∀ (f : Nat) (x : Int) (n : Nat) (a : Int), ltf cal f x n = some a → x ≤ a ∧ a ≤ x + f ∧ ltf cal f x (n + 1) = ltf cal (f - (a - x).toNat) a 1 := by
  intro f
  induction f with
  | zero =>
    intro x n a h
    unfold ltf at h
    split at h
    · rename_i h0; subst h0; injection h with h; subst h; exact ⟨by omega, by omega, by simp⟩
    · cases h
  | succ f ih =>
    intro x n a h
    rcases Nat.eq_zero_or_pos n with rfl | hn
    · rw [lt_zero] at h; injection h with h; subst h; exact ⟨by omega, by omega, by simp⟩
    · rcases (show bd cal (x + 1) = false ∨ bd cal (x + 1) = true by cases bd cal (x + 1) <;> simp) with hb | hb
      · rw [lt_miss (by omega) hn hb] at h
        obtain ⟨h1, h2, h3⟩ := ih (x + 1) n a h
        refine ⟨by omega, by omega, ?_⟩
        rw [lt_miss (by omega) (by omega) hb, show f + 1 - 1 = f by omega, h3]
        congr 1; omega
      · rw [lt_hit (by omega) hn hb] at h
        obtain ⟨h1, h2, h3⟩ := ih (x + 1) (n - 1) a h
        refine ⟨by omega, by omega, ?_⟩
        rw [lt_hit (by omega) (by omega) hb, show f + 1 - 1 = f by omega, show n + 1 - 1 = n - 1 + 1 by omega, h3]
        congr 1; omega
theorem lt_none {cal : List Int} : ∀ (f : Nat) (x : Int) (n : Nat), ltf cal f x n = none → ltf cal f x (n + 1) = none := by
  intro f
  induction f with
  | zero => intro x n h; exact lt_end rfl (by omega)
  | succ f ih =>
    intro x n h
    rcases Nat.eq_zero_or_pos n with rfl | hn
    · rw [lt_zero] at h; cases h
    · rcases (show bd cal (x + 1) = false ∨ bd cal (x + 1) = true by cases bd cal (x + 1) <;> simp) with hb | hb
      · rw [lt_miss (by omega) hn hb] at h
        rw [lt_miss (by omega) (by omega) hb]
        exact ih _ _ h
      · rw [lt_hit (by omega) hn hb] at h
        rw [lt_hit (by omega) (by omega) hb]
        have := ih _ _ h
        rw [show n + 1 - 1 = n - 1 + 1 by omega]; exact this
theorem lt_last {cal : List Int} : ∀ (f : Nat) (x b : Int), ltf cal f x 1 = some b → x < b ∧ b ≤ x + f ∧ bd cal b = true := by
  intro f
  induction f with
  | zero => intro x b h; rw [lt_end rfl (by omega)] at h; cases h
  | succ f ih =>
    intro x b h
    rcases (show bd cal (x + 1) = false ∨ bd cal (x + 1) = true by cases bd cal (x + 1) <;> simp) with hb | hb
    · rw [lt_miss (by omega) (by omega) hb] at h
      obtain ⟨h1, h2, h3⟩ := ih _ _ h
      exact ⟨by omega, by omega, h3⟩
    · rw [lt_hit (by omega) (by omega) hb, lt_zero] at h
      injection h with h; subst h
      exact ⟨by omega, by omega, hb⟩
theorem la_bad {cal : List Int} {day n : Int} (h0 : 0 ≤ n) (h1 : n < 4096) (h : (laterS cal day n).2 ≠ 0) : (laterS cal day n).1 = 0 ∧ laterS cal day (n + 1) = laterS cal day n := by
  rcases (show isD day = false ∨ isD day = true by cases isD day <;> simp) with hd | hd
  · rw [la_time hd, la_time hd]; exact ⟨rfl, rfl⟩
  · obtain ⟨n, rfl⟩ : ∃ k : Nat, n = (k : Int) := ⟨n.toNat, by omega⟩
    rw [la_ok hd (by omega)] at h ⊢
    rw [show ((n : Int) + 1) = ((n + 1 : Nat) : Int) by omega, la_ok hd (by omega)]
    cases e : ltf cal (fu day) day n with
    | some a => rw [e] at h; simp [laterO] at h
    | none => rw [lt_none _ _ _ e]; exact ⟨rfl, rfl⟩
theorem la_good {cal : List Int} {day n : Int} (h0 : 0 ≤ n) (h1 : n < 4096) (h : (laterS cal day n).2 = 0) :
    laterS cal day (n + 1) = laterS cal (laterS cal day n).1 1 ∧ ((laterS cal day (n + 1)).2 = 0 → (laterS cal day n).1 < (laterS cal day (n + 1)).1 ∧ (isD (laterS cal day (n + 1)).1 && bd cal (laterS cal day (n + 1)).1) = true) := by
  rcases (show isD day = false ∨ isD day = true by cases isD day <;> simp) with hd | hd
  · rw [la_time hd] at h; simp at h
  · obtain ⟨n, rfl⟩ : ∃ k : Nat, n = (k : Int) := ⟨n.toNat, by omega⟩
    obtain ⟨d0, d1⟩ := (isD_iff day).1 hd
    rw [la_ok hd (by omega)] at h ⊢
    rw [show ((n : Int) + 1) = ((n + 1 : Nat) : Int) by omega, la_ok hd (by omega)]
    cases e : ltf cal (fu day) day n with
    | none => rw [e] at h; simp [laterO] at h
    | some a =>
      obtain ⟨s1, s2, s3⟩ := lt_split _ _ _ _ e
      have hfd : (fu day : Int) = 795363 - day := by unfold fu; omega
      have ha : isD a = true := (isD_iff a).2 ⟨by omega, by omega⟩
      have hfa : fu day - (a - day).toNat = fu a := by unfold fu; omega
      rw [hfa] at s3
      have e1 : laterS cal (laterO (some a)).1 1 = laterO (ltf cal (fu a) a 1) := la_ok (n := 1) ha (by omega)
      rw [e1, s3]
      refine ⟨rfl, fun h2 => ?_⟩
      cases e2 : ltf cal (fu a) a 1 with
      | none => rw [e2] at h2; simp [laterO] at h2
      | some b =>
        obtain ⟨t1, t2, t3⟩ := lt_last _ _ _ e2
        have hfa2 : (fu a : Int) = 795363 - a := by unfold fu; omega
        have hb : isD b = true := (isD_iff b).2 ⟨by omega, by omega⟩
        exact ⟨t1, by simp only [laterO]; rw [hb, t3]; rfl⟩
end Go.Proofs.YtfpndiacbpinpaaDoor.Mt
namespace Go.Proofs.YtfpndiacbpinpaaDoor.Wk
open Go.RowKit
open Go.Proofs.YtfpndiacbpinpaaDoor.Mt
structure Kl (w0 wr : World) (A : Option Addr) (m : Nat) (cal : List Int) : Prop where
  bel : Below w0.heap.size w0 wr
  md : Md wr
  ri : Ri wr wr.heap.size A m cal
theorem Kl.next {w0 wr w1 : World} {A : Option Addr} {m : Nat} {cal : List Int} (h : Kl w0 wr A m cal) (hb : Below wr.heap.size wr w1) : Kl w0 w1 A m cal := ⟨upB h.bel hb, h.md.next hb, h.ri.up hb⟩
set_option maxHeartbeats 4000000 in
set_option maxRecDepth 100000 in
theorem steps_law (A : Option Addr) (m c : Nat) (cal : List Int) (day n : Int) (w : World) (hM : Md w) (h : Ri w w.heap.size A m cal) (hrg : ∀ i, -9223372036854775808 ≤ iat cal i ∧ iat cal i ≤ 9223372036854775807) :
    Calls Tryd.prog 12 #[.slice A m c, .int .i64 day, .int .i64 n] w fun e w' => e = .returned (.bool true) ∧ Below w.heap.size w w' := by
  have HK : Hid (Kl w w A m cal) := Lib.hid ⟨Below.refl _ _, hM, h⟩
  have HRG := Lib.hid hrg
  have hm := h.2.1
  clear hM h hrg
  by_cases hl : 60 < m
  · have hlI : (60 : Int) < (m : Int) := by omega
    go_enter Tryd.func12, Tryd.ntmps12
    go_wp2_with (first | (go_at_call 19; refine (awake_any _ HK.out.md).mono ?_; rintro e w3 ⟨rfl, hb⟩; replace HK := Lib.hid (HK.out.next hb); clear hb))
    go_ret
    exact ⟨rfl, HK.out.bel⟩
  have hlI : ¬ (60 : Int) < (m : Int) := by omega
  have hlI' : decide ((60 : Int) < (m : Int)) = false := decide_eq_false hlI
  by_cases q1 : n < 0
  · skip
    go_enter Tryd.func12, Tryd.ntmps12
    go_wp2_with (first | (go_at_call 19; refine (awake_any _ HK.out.md).mono ?_; rintro e w3 ⟨rfl, hb⟩; replace HK := Lib.hid (HK.out.next hb); clear hb))
    go_ret
    exact ⟨rfl, HK.out.bel⟩
  by_cases q2 : 4096 ≤ n
  · skip
    go_enter Tryd.func12, Tryd.ntmps12
    go_wp2_with (first | (go_at_call 19; refine (awake_any _ HK.out.md).mono ?_; rintro e w3 ⟨rfl, hb⟩; replace HK := Lib.hid (HK.out.next hb); clear hb))
    go_ret
    exact ⟨rfl, HK.out.bel⟩
  have q1' : decide (n < 0) = false := decide_eq_false q1
  have q2' : decide (4096 ≤ n) = false := decide_eq_false q2
  have hA1 := later_code cal day n
  have hB1 := later_code cal day (n + 1)
  have hbad := la_bad (cal := cal) (day := day) (n := n) (by omega) (by omega)
  have hgood := la_good (cal := cal) (day := day) (n := n) (by omega) (by omega)
  obtain ⟨⟨a, e1⟩, hA⟩ : ∃ p, laterS cal day n = p := ⟨_, rfl⟩
  obtain ⟨⟨b, e2⟩, hB⟩ : ∃ p, laterS cal day (n + 1) = p := ⟨_, rfl⟩
  rw [hA, hB] at hbad hgood
  rw [hA] at hA1
  rw [hB] at hB1
  simp only at hA1 hB1 hbad hgood
  have HA := Lib.hid hA
  have HB := Lib.hid hB
  clear hA hB
  obtain ⟨u1, u2⟩ := hA1
  obtain ⟨u3, u4⟩ := hB1
  by_cases he : e1 = 0
  · subst he
    obtain ⟨g1, g2⟩ := hgood rfl
    have HC := Lib.hid g1.symm
    clear hbad hgood g1
    have gb : (b == b) = true := by simp
    have gb2 : (b != b) = false := by simp
    have ge : (e2 == e2) = true := by simp
    have ge2 : (e2 != e2) = false := by simp
    by_cases he2 : e2 = 0
    · obtain ⟨g3, g4⟩ := g2 he2
      subst he2
      have HU := Lib.hid g4
      clear g2 g4
      have g3' : decide (a < b) = true := decide_eq_true g3
      go_enter Tryd.func12, Tryd.ntmps12
      go_wp2_with fail
      refine (later_any _ _ _ cal _ _ _ HK.out.ri HRG.out).mono ?_
      rintro e w1 ⟨rfl, hb⟩
      rw [HA.out]
      replace HK := Lib.hid (HK.out.next hb)
      clear hb
      go_wp2_with fail
      refine (later_any _ _ _ cal _ _ _ HK.out.ri HRG.out).mono ?_
      rintro e w1 ⟨rfl, hb⟩
      rw [HB.out]
      replace HK := Lib.hid (HK.out.next hb)
      clear hb
      go_wp2_with fail
      refine (later_any _ _ _ cal _ _ _ HK.out.ri HRG.out).mono ?_
      rintro e w1 ⟨rfl, hb⟩
      rw [HC.out]
      replace HK := Lib.hid (HK.out.next hb)
      clear hb
      go_wp2_with (first | (go_at_call 31; refine (Bus_any _ _ _ _ _ _ HK.out.ri).mono ?_; rintro e w' ⟨rfl, rfl⟩; rw [HU.out]) | (go_at_call 19; refine (awake_any _ HK.out.md).mono ?_; rintro e w3 ⟨rfl, hb⟩; replace HK := Lib.hid (HK.out.next hb); clear hb))
      go_ret
      exact ⟨rfl, HK.out.bel⟩
    · have g5 : (e2 != 0) = true := by simp [he2]
      have g6 : (e2 == 0) = false := by simp [he2]
      clear g2 he2
      go_enter Tryd.func12, Tryd.ntmps12
      go_wp2_with fail
      refine (later_any _ _ _ cal _ _ _ HK.out.ri HRG.out).mono ?_
      rintro e w1 ⟨rfl, hb⟩
      rw [HA.out]
      replace HK := Lib.hid (HK.out.next hb)
      clear hb
      go_wp2_with fail
      refine (later_any _ _ _ cal _ _ _ HK.out.ri HRG.out).mono ?_
      rintro e w1 ⟨rfl, hb⟩
      rw [HB.out]
      replace HK := Lib.hid (HK.out.next hb)
      clear hb
      go_wp2_with fail
      refine (later_any _ _ _ cal _ _ _ HK.out.ri HRG.out).mono ?_
      rintro e w1 ⟨rfl, hb⟩
      rw [HC.out]
      replace HK := Lib.hid (HK.out.next hb)
      clear hb
      go_wp2_with (first | (go_at_call 19; refine (awake_any _ HK.out.md).mono ?_; rintro e w3 ⟨rfl, hb⟩; replace HK := Lib.hid (HK.out.next hb); clear hb))
      go_ret
      exact ⟨rfl, HK.out.bel⟩
  · obtain ⟨g1, g2⟩ := hbad he
    simp only [Prod.mk.injEq] at g2
    obtain ⟨g3, g4⟩ := g2
    subst g4
    rw [g1] at g3 HA
    subst g3
    clear hbad hgood g1
    have g5 : (e2 != 0) = true := by simp [he]
    have g6 : (e2 == 0) = false := by simp [he]
    have ge : (e2 == e2) = true := by simp
    clear he
    go_enter Tryd.func12, Tryd.ntmps12
    go_wp2_with fail
    refine (later_any _ _ _ cal _ _ _ HK.out.ri HRG.out).mono ?_
    rintro e w1 ⟨rfl, hb⟩
    rw [HA.out]
    replace HK := Lib.hid (HK.out.next hb)
    clear hb
    go_wp2_with fail
    refine (later_any _ _ _ cal _ _ _ HK.out.ri HRG.out).mono ?_
    rintro e w1 ⟨rfl, hb⟩
    rw [HB.out]
    replace HK := Lib.hid (HK.out.next hb)
    clear hb
    go_wp2_with (first | (go_at_call 19; refine (awake_any _ HK.out.md).mono ?_; rintro e w3 ⟨rfl, hb⟩; replace HK := Lib.hid (HK.out.next hb); clear hb))
    go_ret
    exact ⟨rfl, HK.out.bel⟩
end Go.Proofs.YtfpndiacbpinpaaDoor.Wk
