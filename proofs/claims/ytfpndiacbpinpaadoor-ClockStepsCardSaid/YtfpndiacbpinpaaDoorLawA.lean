/- The walks of ClockDays, ClockDates, ClockDayOf, ClockLater, ClockSpans and ClockDateBack. Conditions: the table of months reads as the text lays it; slices read as lists. -/
import Derived.Test.YtfpndiacbpinpaaDoorAwk
set_option linter.unusedSimpArgs false
set_option linter.unusedVariables false
namespace Go.Proofs.YtfpndiacbpinpaaDoor.Mt
theorem dayOf_code (y m d : Int) : 0 ≤ (dayOfS y m d).2 ∧ (dayOfS y m d).2 ≤ 12 := by
  unfold dayOfS; split; simp; split; simp; split <;> simp
theorem later_code (cal : List Int) (day n : Int) : 0 ≤ (laterS cal day n).2 ∧ (laterS cal day n).2 ≤ 12 := by
  unfold laterS; split; simp; split; simp
  cases ltf cal (fu day) day n.toNat <;> simp [laterO]
theorem spans_code (d f t a b : Int) : 0 ≤ (spansS d f t a b).2 ∧ (spansS d f t a b).2 ≤ 12 := by
  unfold spansS; split; simp; split; simp; split <;> simp
end Go.Proofs.YtfpndiacbpinpaaDoor.Mt
namespace Go.Proofs.YtfpndiacbpinpaaDoor.Wk
open Go.RowKit
open Go.Proofs.YtfpndiacbpinpaaDoor.Mt
theorem days_law (t day : Int) (w : World) (hM : Md w) : Calls Tryd.prog 3 #[.int .i64 t, .int .i64 day] w fun e w' => e = .returned (.bool true) ∧ Below w.heap.size w w' := by
  have HM := Lib.hid hM
  clear hM
  go_enter Tryd.func3, Tryd.ntmps3
  go_wp2_with (first | (go_at_call 13; refine (day_any _ _).mono ?_; rintro e w' ⟨rfl, rfl⟩) | (go_at_call 14; refine (Day_any _ _).mono ?_; rintro e w' ⟨rfl, rfl⟩) | (go_at_call 15; refine (min_any _ _).mono ?_; rintro e w' ⟨rfl, rfl⟩) | (go_at_call 16; refine (Min_any _ _).mono ?_; rintro e w' ⟨rfl, rfl⟩) | (go_at_call 17; refine (wd_any _ _).mono ?_; rintro e w' ⟨rfl, rfl⟩) | (go_at_call 18; refine (Wd_any _ _).mono ?_; rintro e w' ⟨rfl, rfl⟩) | (go_at_call 19; refine (awake_any _ HM.out).mono ?_; rintro e w1 ⟨rfl, hb⟩))
  go_ret
  exact ⟨rfl, hb⟩
theorem dates_law (day : Int) (w : World) (hM : Md w) : Calls Tryd.prog 4 #[.int .i64 day] w fun e w' => e = .returned (.bool true) ∧ Below w.heap.size w w' := by
  have HM := Lib.hid hM
  clear hM
  go_enter Tryd.func4, Tryd.ntmps4
  go_wp2_with (first | (go_at_call 20; refine (date_any _ _ HM.out).mono ?_; rintro e w' ⟨rfl, rfl⟩) | (go_at_call 21; refine (Date_any _ _).mono ?_; rintro e w' ⟨rfl, rfl⟩) | (go_at_call 19; refine (awake_any _ HM.out).mono ?_; rintro e w1 ⟨rfl, hb⟩))
  go_ret
  exact ⟨rfl, hb⟩
theorem dayOf_law (y m d : Int) (w : World) (hM : Md w) : Calls Tryd.prog 5 #[.int .i64 y, .int .i64 m, .int .i64 d] w fun e w' => e = .returned (.bool true) ∧ Below w.heap.size w w' := by
  have HM := Lib.hid hM
  have hc := dayOf_code y m d
  obtain ⟨⟨x, c⟩, hx⟩ : ∃ p, dayOfS y m d = p := ⟨_, rfl⟩
  rw [hx] at hc
  obtain ⟨c0, c1⟩ := hc
  simp only at c0 c1
  have HX := Lib.hid hx
  clear hM hx
  go_enter Tryd.func5, Tryd.ntmps5
  go_wp2_with (first | (go_at_call 22; refine (dayOf_any _ _ _ _ HM.out).mono ?_; rintro e w' ⟨rfl, rfl⟩; rw [HX.out]) | (go_at_call 23; refine (DayOf_any _ _ _ _).mono ?_; rintro e w' ⟨rfl, rfl⟩; rw [HX.out]) | (go_at_call 19; refine (awake_any _ HM.out).mono ?_; rintro e w1 ⟨rfl, hb⟩))
  go_ret
  exact ⟨rfl, hb⟩
set_option maxHeartbeats 1000000 in
theorem later_law (A : Option Addr) (m c : Nat) (cal : List Int) (day n : Int) (w : World) (hM : Md w) (h : Ri w w.heap.size A m cal) (hrg : ∀ i, -9223372036854775808 ≤ iat cal i ∧ iat cal i ≤ 9223372036854775807) :
    Calls Tryd.prog 8 #[.slice A m c, .int .i64 day, .int .i64 n] w fun e w' => e = .returned (.bool true) ∧ Below w.heap.size w w' := by
  have HM := Lib.hid hM
  have HRG := Lib.hid hrg
  have HR := Lib.hid h
  have hm := h.2.1
  have hc := later_code cal day n
  obtain ⟨⟨x, cd⟩, hx⟩ : ∃ p, laterS cal day n = p := ⟨_, rfl⟩
  rw [hx] at hc
  obtain ⟨c0, c1⟩ := hc
  simp only at c0 c1
  have HX := Lib.hid hx
  clear hM hx hrg h
  by_cases hl : 60 < m
  · have hlI : (60 : Int) < (m : Int) := by omega
    go_enter Tryd.func8, Tryd.ntmps8
    go_wp2_with (first | (go_at_call 19; refine (awake_any _ HM.out).mono ?_; rintro e w1 ⟨rfl, hb⟩))
    go_ret
    exact ⟨rfl, hb⟩
  · have hlI : ¬ (60 : Int) < (m : Int) := by omega
    go_enter Tryd.func8, Tryd.ntmps8
    go_wp2_with fail
    refine (later_any _ _ _ cal _ _ _ HR.out HRG.out).mono ?_
    rintro e w1 ⟨rfl, hb⟩
    rw [HX.out]
    replace HM := Lib.hid (HM.out.next hb)
    have HB1 := Lib.hid hb
    replace HR := Lib.hid (HR.out.up hb)
    clear hb
    go_wp2_with fail
    refine (Later_any _ _ _ cal _ _ _ HR.out).mono ?_
    rintro e w2 ⟨rfl, hb⟩
    rw [HX.out]
    replace HM := Lib.hid (HM.out.next hb)
    replace HB1 := Lib.hid (upB HB1.out hb)
    clear hb
    go_wp2_with fail
    refine (awake_any _ HM.out).mono ?_
    rintro e w3 ⟨rfl, hb⟩
    go_wp2_with fail
    go_ret
    exact ⟨rfl, upB HB1.out hb⟩
structure Km (w0 wr : World) (cw ci : Array Value) : Prop where
  bel : Below w0.heap.size w0 wr
  bw : Bx wr w0.heap.size 35 cw
  bi : Bx wr (w0.heap.size + 1) 38 ci
  md : Md wr
theorem Km.next {w0 wr w1 : World} {cw ci : Array Value} (h : Km w0 wr cw ci) (hb : Below wr.heap.size wr w1) : Km w0 w1 cw ci := ⟨upB h.bel hb, h.bw.next hb, h.bi.next hb, h.md.next hb⟩
theorem Km.start {w : World} (hM : Md w) (cw ci : Array Value) : Km w ((w.alloc (.cells cw 35)).alloc (.cells ci 38)) cw ci :=
  ⟨(b1 _ _).alloc (by simp) _, (Bx.new _ _ _).alloc _, Bx.newAt (by simp), (hM.next (b1 _ _)).next (b1 _ _)⟩
set_option maxHeartbeats 1000000 in
theorem spans_law (d f t a b : Int) (w : World) (hM : Md w) : Calls Tryd.prog 7 #[.agg #[.int .i64 d, .int .i64 f, .int .i64 t], .agg #[.int .i64 a, .int .i64 b]] w fun e w' => e = .returned (.bool true) ∧ Below w.heap.size w w' := by
  have HK := Lib.hid (Km.start hM #[.int .i64 d, .int .i64 f, .int .i64 t] #[.int .i64 a, .int .i64 b])
  have hc := spans_code d f t a b
  obtain ⟨⟨l, cd⟩, hx⟩ : ∃ p, spansS d f t a b = p := ⟨_, rfl⟩
  rw [hx] at hc
  obtain ⟨c0, c1⟩ := hc
  simp only at c0 c1
  have HX := Lib.hid hx
  clear hM hx
  go_enter Tryd.func7, Tryd.ntmps7
  go_wp2_with fail
  refine (spans_any _ _ _ _ _ _).mono ?_
  rintro e w1 ⟨⟨A, n, c, rfl, hR⟩, hb⟩
  rw [HX.out] at hR ⊢
  replace HK := Lib.hid (HK.out.next hb)
  have HA := Lib.hid hR
  clear hb hR
  obtain ⟨x0, x1, x2⟩ := HK.out.bw.cells3
  obtain ⟨y0, y1⟩ := HK.out.bi.cells2
  go_wp2_with fail
  clear x0 x1 x2 y0 y1
  refine (Spans_any _ _ _ _ _ _).mono ?_
  rintro e w2 ⟨⟨B, m, c', rfl, hR⟩, hb⟩
  rw [HX.out] at hR ⊢
  replace HK := Lib.hid (HK.out.next hb)
  replace HA := Lib.hid (HA.out.up hb)
  have HB := Lib.hid hR
  clear hb hR
  go_wp2_with fail
  refine (Same_any _ _ _ _ _ _ l l _ HA.out HB.out).mono ?_
  rintro e w3 ⟨rfl, hb⟩
  replace HK := Lib.hid (HK.out.next hb)
  clear hb
  rw [show decide (l = l) = true by simp]
  go_wp2_with fail
  refine (awake_any _ HK.out.md).mono ?_
  rintro e w4 ⟨rfl, hb⟩
  go_wp2_with fail
  go_ret
  exact ⟨rfl, upB HK.out.bel hb⟩
set_option maxHeartbeats 4000000 in
set_option maxRecDepth 100000 in
theorem back_law (day : Int) (w : World) (hM : Md w) : Calls Tryd.prog 9 #[.int .i64 day] w fun e w' => e = .returned (.bool true) ∧ Below w.heap.size w w' := by
  have HM := Lib.hid hM
  clear hM
  by_cases q1 : day < 0
  · go_enter Tryd.func9, Tryd.ntmps9
    go_wp2_with (first | (go_at_call 19; refine (awake_any _ HM.out).mono ?_; rintro e w1 ⟨rfl, hb⟩))
    go_ret
    exact ⟨rfl, hb⟩
  · by_cases q2 : 795363 ≤ day
    · go_enter Tryd.func9, Tryd.ntmps9
      go_wp2_with (first | (go_at_call 19; refine (awake_any _ HM.out).mono ?_; rintro e w1 ⟨rfl, hb⟩))
      go_ret
      exact ⟨rfl, hb⟩
    · have hd : isD day = true := (isD_iff _).2 ⟨by omega, by omega⟩
      have hd2 : isD (day + 1) = true := (isD_iff _).2 ⟨by omega, by omega⟩
      have hof := dayOf_date hd
      obtain ⟨y', m', e1, u1, u2, u3, u4, u5, u6, u7⟩ := date_back hd
      have hml := ml_hi y' (m' : Int)
      have hcs := cum_step y' u3 u4
      obtain ⟨⟨y, m, x⟩, ha⟩ : ∃ p, dateS day = p := ⟨_, rfl⟩
      obtain ⟨⟨y2, m2, x2⟩, hb2⟩ : ∃ p, dateS (day + 1) = p := ⟨_, rfl⟩
      have hbnd : 2001 ≤ y ∧ y ≤ 4178 ∧ 1 ≤ m ∧ m ≤ 12 ∧ 1 ≤ x ∧ x ≤ 31 := by
        rw [ha] at e1
        simp only [Prod.mk.injEq] at e1
        omega
      have hnx := date_next hd hd2 ha hb2
      rw [ha] at hof
      have HA := Lib.hid ha
      have HB := Lib.hid hb2
      have HO : Hid (dayOfS y m x = (day, 0)) := Lib.hid hof
      clear hd hd2 hof e1 u1 u2 u3 u4 u5 u6 u7 hml hcs ha hb2
      obtain ⟨v1, v2, v3, v4, v5, v6⟩ := hbnd
      obtain ⟨hn, hn2, hn3⟩ := hnx
      have gd : (day == day) = true := by simp
      have gd2 : (day != day) = false := by simp
      rcases hn with ⟨rfl, rfl, rfl⟩ | ⟨rfl, rfl, rfl, h28⟩ | ⟨rfl, rfl, rfl, rfl, rfl⟩
      · have f1 : (m2 == m2 + 1) = false := beq_eq_false_iff_ne.2 (by omega)
        have f2 : (y2 == y2 + 1) = false := beq_eq_false_iff_ne.2 (by omega)
        go_enter Tryd.func9, Tryd.ntmps9
        go_wp2_with fail
        refine (date_any _ _ HM.out).mono ?_
        rintro e w' ⟨rfl, rfl⟩
        rw [HA.out]
        go_wp2_with fail
        refine (dayOf_any _ _ _ _ HM.out).mono ?_
        rintro e w' ⟨rfl, rfl⟩
        rw [HO.out]
        go_wp2_with fail
        refine (date_any _ _ HM.out).mono ?_
        rintro e w' ⟨rfl, rfl⟩
        rw [HB.out]
        go_wp2_with (first | (go_at_call 19; refine (awake_any _ HM.out).mono ?_; rintro e w1 ⟨rfl, hb⟩))
        go_ret
        exact ⟨rfl, hb⟩
      · have f1 : (m + 1 == m) = false := beq_eq_false_iff_ne.2 (by omega)
        have f2 : (y2 == y2 + 1) = false := beq_eq_false_iff_ne.2 (by omega)
        go_enter Tryd.func9, Tryd.ntmps9
        go_wp2_with fail
        refine (date_any _ _ HM.out).mono ?_
        rintro e w' ⟨rfl, rfl⟩
        rw [HA.out]
        go_wp2_with fail
        refine (dayOf_any _ _ _ _ HM.out).mono ?_
        rintro e w' ⟨rfl, rfl⟩
        rw [HO.out]
        go_wp2_with fail
        refine (date_any _ _ HM.out).mono ?_
        rintro e w' ⟨rfl, rfl⟩
        rw [HB.out]
        go_wp2_with (first | (go_at_call 19; refine (awake_any _ HM.out).mono ?_; rintro e w1 ⟨rfl, hb⟩))
        go_ret
        exact ⟨rfl, hb⟩
      · have f1 : (y + 1 == y) = false := beq_eq_false_iff_ne.2 (by omega)
        go_enter Tryd.func9, Tryd.ntmps9
        go_wp2_with fail
        refine (date_any _ _ HM.out).mono ?_
        rintro e w' ⟨rfl, rfl⟩
        rw [HA.out]
        go_wp2_with fail
        refine (dayOf_any _ _ _ _ HM.out).mono ?_
        rintro e w' ⟨rfl, rfl⟩
        rw [HO.out]
        go_wp2_with fail
        refine (date_any _ _ HM.out).mono ?_
        rintro e w' ⟨rfl, rfl⟩
        rw [HB.out]
        go_wp2_with (first | (go_at_call 19; refine (awake_any _ HM.out).mono ?_; rintro e w1 ⟨rfl, hb⟩))
        go_ret
        exact ⟨rfl, hb⟩
end Go.Proofs.YtfpndiacbpinpaaDoor.Wk
