/- SameIntervals, and the examples of the chapter. Condition: the table of months reads as the text lays it. -/
import Derived.Test.YtfpndiacbpinpaaDoorLat
set_option linter.unusedSimpArgs false
set_option linter.unusedVariables false
namespace Go.Proofs.YtfpndiacbpinpaaDoor.Wk
open Go.RowKit
open Go.Proofs.YtfpndiacbpinpaaDoor.Mt
theorem pat_ext {a b : List (Int × Int)} (hl : a.length = b.length) (h : ∀ j, j < a.length → pat a j = pat b j) : a = b := by
  apply List.ext_getElem hl
  intro i h1 h2
  have := h i h1
  simpa [pat, h1, h2] using this
theorem Ri.lit (w : World) (xs : List Int) (t : TypeId) (hl : xs.length ≤ 9223372036854775807) : Ri (w.alloc (.cells (xs.map (Value.int .i64)).toArray t)) (w.alloc (.cells (xs.map (Value.int .i64)).toArray t)).heap.size (some ⟨w.heap.size, 0, Option.none⟩) xs.length xs := by
  refine ⟨rfl, hl, fun _ => ⟨w.heap.size, 0, rfl, by simp, fun i hi => ?_⟩⟩
  have hB := (Bx.new w t (xs.map (Value.int .i64)).toArray).cell (0 + i)
  rw [hB]
  simp [iat, hi]
theorem Rv.lit (w : World) (l : List (Int × Int)) (t : TypeId) (hl : l.length ≤ 9223372036854775807) : Rv (w.alloc (.cells (flat l).toArray t)) (w.alloc (.cells (flat l).toArray t)).heap.size (some ⟨w.heap.size, 0, Option.none⟩) l.length l := by
  refine ⟨rfl, hl, fun _ => ⟨w.heap.size, 0, rfl, by simp, fun i hi => ?_⟩⟩
  have hB := (Bx.new w t (flat l).toArray)
  have := flat_at l i hi
  rw [hB.cell, hB.cell]
  simpa using this
set_option maxHeartbeats 2000000 in
theorem Same_any (A B : Option Addr) (n m c c2 : Nat) (a b : List (Int × Int)) (w : World) (ha : Rv w w.heap.size A n a) (hb : Rv w w.heap.size B m b) :
    Calls Tryd.prog 28 #[.slice A n c, .slice B m c2] w fun e w' => e = .returned (.bool (decide (a = b))) ∧ Below w.heap.size w w' := by
  have hn := ha.2.1
  have hm := hb.2.1
  have HLA := Lib.hid ha.1
  have HLB := Lib.hid hb.1
  have HA := Lib.hid ha
  have HB := Lib.hid hb
  clear ha hb
  by_cases hnm : n = m
  · subst hnm
    go_enter Tryd.func28, Tryd.ntmps28
    go_wp2_with fail
    go_loopw [5] (fun i wr => ∃ k : Nat, k ≤ n ∧ i = .int .i64 k ∧ Hid (Below w.heap.size w wr) ∧ Hid (∀ j, j < k → pat a j = pat b j)) (fun i _ => n - (intOf i).toNat)
    case atStart => exact ⟨0, Nat.zero_le _, rfl, Lib.hid (Below.refl _ _), Lib.hid (fun j hj => by omega)⟩
    case round =>
      obtain ⟨k, hk, rfl, HBL, H⟩ := hrel
      by_cases hlt : k < n
      · have hltI : (k : Int) < (n : Int) := by omega
        obtain ⟨b1, o1, rfl, _, x1, x2⟩ := (HA.out.up HBL.out).get hlt
        obtain ⟨b2, o2, rfl, _, y1, y2⟩ := (HB.out.up HBL.out).get hlt
        obtain ⟨⟨p1, p2⟩, hp⟩ : ∃ p, pat a k = p := ⟨_, rfl⟩
        obtain ⟨⟨q1, q2⟩, hq⟩ : ∃ p, pat b k = p := ⟨_, rfl⟩
        rw [hp] at x1 x2
        rw [hq] at y1 y2
        have HP := Lib.hid hp
        have HQ := Lib.hid hq
        clear hp hq
        simp only at x1 x2 y1 y2
        by_cases e1 : p1 = q1
        · have g1 : (p1 != q1) = false := by simp [e1]
          by_cases e2 : p2 = q2
          · have g2 : (p2 != q2) = false := by simp [e2]
            have HX : Hid (∀ j, j < k + 1 → pat a j = pat b j) := Lib.hid (fun j hj => by
              rcases Nat.lt_or_ge j k with h1 | h1
              · exact H.out j h1
              · have : j = k := by omega
                subst this; rw [HP.out, HQ.out, e1, e2])
            clear e1 e2
            go_wp2_with fail
            go_quiet (fail)
            go_wp2_with fail
            go_roundw
            case rel => exact ⟨k + 1, by omega, by go_num, Lib.hid (below_drewN HBL.out _), HX⟩
            case measure => simp [intOf]; omega
          · have g2 : (p2 != q2) = true := by simp [e2]
            have HX : Hid (decide (a = b) = false) := Lib.hid (by
              simp only [decide_eq_false_iff_not]; intro h; subst h
              have := HP.out.symm.trans HQ.out
              simp at this; exact e2 this.2)
            clear e1 e2
            go_wp2_with fail
            go_quiet (fail)
            go_wp2_with fail
            go_ret
            exact ⟨by rw [HX.out]; rfl, below_drewN HBL.out _⟩
        · have g1 : (p1 != q1) = true := by simp [e1]
          have HX : Hid (decide (a = b) = false) := Lib.hid (by
              simp only [decide_eq_false_iff_not]; intro h; subst h
              have := HP.out.symm.trans HQ.out
              simp at this; exact e1 this.1)
          clear e1
          go_wp2_with fail
          go_quiet (fail)
          go_wp2_with fail
          go_ret
          exact ⟨by rw [HX.out]; rfl, below_drewN HBL.out _⟩
      · have hltI : ¬ (k : Int) < (n : Int) := by omega
        have HX : Hid (decide (a = b) = true) := Lib.hid (by
          simp only [decide_eq_true_eq]
          exact pat_ext (HLA.out.trans HLB.out.symm) (fun j hj => H.out j (by have := HLA.out; omega)))
        go_wp2_with fail
        go_ret
        exact ⟨by rw [HX.out]; rfl, HBL.out⟩
  · have g : ((n : Int) != (m : Int)) = true := by simp; omega
    have HX : Hid (decide (a = b) = false) := Lib.hid (by
      simp only [decide_eq_false_iff_not]; intro h; subst h; exact hnm (HLA.out.symm.trans HLB.out))
    clear hnm
    go_enter Tryd.func28, Tryd.ntmps28
    go_wp2_with fail
    go_ret
    exact ⟨by rw [HX.out]; rfl, Below.refl _ _⟩
set_option maxRecDepth 100000 in
theorem ex_spans : spansS 1 60 120 5000 700000 = ([(5000, 7200), (608400, 612000)], 0) := by decide
theorem ex_later : laterS [4] 3 1 = (7, 0) := by
  rw [show (1 : Int) = ((1 : Nat) : Int) by rfl, la_ok (by decide) (by omega)]
  have f0 : fu 3 = 795360 := rfl
  rw [f0, lt_miss (by omega) (by omega) (by decide), lt_miss (by omega) (by omega) (by decide), lt_miss (by omega) (by omega) (by decide), lt_hit (by omega) (by omega) (by decide), lt_zero]
  rfl
set_option maxHeartbeats 1000000 in
set_option maxRecDepth 100000 in
theorem awake_any (w : World) (hM : Md w) : Calls Tryd.prog 19 #[] w fun e w' => e = .returned (.bool true) ∧ Below w.heap.size w w' := by
  have HK := Lib.hid (Kb.start w 35 #[.int .i64 1, .int .i64 60, .int .i64 120])
  have HM := Lib.hid (hM.next (b1 w (.cells #[.int .i64 1, .int .i64 60, .int .i64 120] 35)))
  clear hM
  go_enter Tryd.func19, Tryd.ntmps19
  go_wp2_with fail
  refine (date_any _ _ HM.out).mono ?_
  rintro e w' ⟨rfl, rfl⟩
  rw [show dateS 1154 = (2004, 2, 29) by decide]
  go_wp2_with fail
  refine (dayOf_any _ _ _ _ HM.out).mono ?_
  rintro e w' ⟨rfl, rfl⟩
  rw [show dayOfS 2004 2 29 = (1154, 0) by decide]
  go_wp2_with fail
  refine (spans_any _ _ _ _ _ _).mono ?_
  rintro e w1 ⟨⟨A, n, c, rfl, hR⟩, hb⟩
  rw [ex_spans] at hR ⊢
  replace HK := Lib.hid (HK.out.next hb)
  replace HM := Lib.hid (HM.out.next hb)
  obtain rfl : 2 = n := hR.1
  have HV := Lib.hid hR
  clear hb hR
  go_wp2_with fail
  replace HV := Lib.hid (HV.out.up (b1 w1 (.cells #[.int .i64 4] 3)))
  replace HK := Lib.hid (HK.out.next (b1 w1 (.cells #[.int .i64 4] 3)))
  replace HM := Lib.hid (HM.out.next (b1 w1 (.cells #[.int .i64 4] 3)))
  refine (later_any _ _ _ [4] _ _ _ (Ri.lit w1 [4] 3 (by simp)) (fun i => by rcases i with _ | i <;> simp [iat])).mono ?_
  rintro e w2 ⟨rfl, hb⟩
  rw [ex_later]
  replace HK := Lib.hid (HK.out.next hb)
  replace HM := Lib.hid (HM.out.next hb)
  replace HV := Lib.hid (HV.out.up hb)
  clear hb
  go_wp2_with fail
  refine (dayOf_any _ _ _ _ HM.out).mono ?_
  rintro e w' ⟨rfl, rfl⟩
  rw [show dayOfS 2004 2 30 = (0, 1) by decide]
  go_wp2_with fail
  refine (day_any _ _).mono ?_
  rintro e w' ⟨rfl, rfl⟩
  rw [show dayS 86400 = 1 by decide]
  go_wp2_with fail
  refine (day_any _ _).mono ?_
  rintro e w' ⟨rfl, rfl⟩
  rw [show dayS (-1) = -1 by decide]
  go_wp2_with fail
  refine (min_any _ _).mono ?_
  rintro e w' ⟨rfl, rfl⟩
  rw [show minS 86399 = 1439 by decide]
  go_wp2_with fail
  refine (wd_any _ _).mono ?_
  rintro e w' ⟨rfl, rfl⟩
  rw [show wdS 8 = 1 by decide]
  obtain ⟨c0, c1, c2⟩ := HK.out.bx.cells3
  go_wp2_with fail
  clear c0 c1 c2
  refine (in_any _ _ _ _ _).mono ?_
  rintro e w3 ⟨rfl, hb⟩
  rw [show inS 1 60 120 3600 = true by decide]
  replace HK := Lib.hid (HK.out.next hb)
  replace HV := Lib.hid (HV.out.up hb)
  clear hb
  obtain ⟨c0, c1, c2⟩ := HK.out.bx.cells3
  go_wp2_with fail
  clear c0 c1 c2
  refine (in_any _ _ _ _ _).mono ?_
  rintro e w4 ⟨rfl, hb⟩
  rw [show inS 1 60 120 7200 = false by decide]
  replace HK := Lib.hid (HK.out.next hb)
  replace HV := Lib.hid (HV.out.up hb)
  clear hb
  go_wp2_with fail
  refine (Same_any _ _ _ _ _ _ [(5000, 7200), (608400, 612000)] [(5000, 7200), (608400, 612000)] _ (HV.out.up (b1 w4 _)) (Rv.lit w4 _ 38 (by simp))).mono ?_
  rintro e w5 ⟨rfl, hb⟩
  replace HK := Lib.hid (HK.out.next ((b1 w4 _).trans (hb.mono (by simp))))
  rw [show decide ([((5000 : Int), (7200 : Int)), (608400, 612000)] = [(5000, 7200), (608400, 612000)]) = true by decide]
  go_wp2_with fail
  go_ret
  exact ⟨rfl, HK.out.bel⟩
end Go.Proofs.YtfpndiacbpinpaaDoor.Wk
