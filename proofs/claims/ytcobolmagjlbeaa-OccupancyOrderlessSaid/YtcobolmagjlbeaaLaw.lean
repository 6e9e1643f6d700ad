/- The walks of OccupancyChecks, OccupancyLevels, OccupancyCounts, OccupancyAts. Conditions: the slices read as lists; no time is greater than an int. -/
import Derived.Test.YtcobolmagjlbeaaAwk
import Derived.Test.YtcobolmagjlbeaaAtr
import Derived.Deep.RegionHeld3
namespace Go.Proofs.Ytcobolmagjlbeaa.Wk
open Go.RowKit
open Go.Proofs.Ytcobolmagjlbeaa.Mt
theorem Bx.cells2 {w : World} {g : Nat} {t : TypeId} {a b : Value} (h : Bx w g t #[a, b]) : w.cell? ⟨g, 0, none⟩ = some a ∧ w.cell? ⟨g, 1, none⟩ = some b := ⟨(h.cell 0).trans rfl, (h.cell 1).trans rfl⟩

set_option maxHeartbeats 4000000 in
set_option maxRecDepth 100000 in
theorem checks_law (p : Int) (A1 A2 A3 : Option Addr) (n1 n2 n3 c1 c2 c3 : Nat) (up dn pt : List Int) (level : Int) (w : World) (h1 : Ri w w.heap.size A1 n1 up) (h2 : Ri w w.heap.size A2 n2 dn) (h3 : Ri w w.heap.size A3 n3 pt) :
    Calls Try.prog 3 #[.agg #[.int .i64 p, .slice A1 n1 c1, .slice A2 n2 c2, .slice A3 n3 c3], .int .i64 level] w fun e w' => e = .returned (.bool true) ∧ Below w.heap.size w w' := by
  obtain ⟨A, m, ts, ht⟩ : ∃ A m ts, Ri w w.heap.size A m ts := ⟨_, _, _, Ri.none _ _⟩
  obtain ⟨ch, hch⟩ : ∃ x, chS ⟨p, up, dn, pt⟩ = x := ⟨_, rfl⟩
  have Hch := Lib.hid hch
  have ech : (ch == ch) = true := by simp
  clear hch
  obtain ⟨pl, hpl⟩ : ∃ x, ptS ⟨p, up, dn, pt⟩ level = x := ⟨_, rfl⟩
  have Hpl := Lib.hid hpl
  have epl : (pl == pl) = true := by simp
  clear hpl
  have HK := Lib.hid (Kp.start (p := p) (c1 := c1) (c2 := c2) (c3 := c3) h1 h2 h3 ht)
  clear h1 h2 h3 ht
  go_enter Try.func3, Try.ntmps3
  go_wp2_with fail
  refine (great_any p A1 A2 A3 n1 n2 n3 c1 c2 c3 _).mono ?_
  rintro e w1 ⟨rfl, hb⟩
  replace HK := Lib.hid (HK.out.next hb)
  clear hb
  rcases (show decide (20 < n1 ∨ 20 < n2 ∨ 20 < n3) = true ∨ decide (20 < n1 ∨ 20 < n2 ∨ 20 < n3) = false by cases decide (20 < n1 ∨ 20 < n2 ∨ 20 < n3) <;> simp) with hg | hg
  · rw [hg]
    go_wp2_with fail
    refine (awake_any _).mono ?_
    rintro e w2 ⟨rfl, hb⟩
    replace HK := Lib.hid (HK.out.next hb)
    go_wp2_with fail
    go_ret
    exact ⟨rfl, HK.out.bel⟩
  · rw [hg]
    have hc4 := HK.out.bx.cells4
    go_wp2_with fail
    replace HK := Lib.hid (HK.out.next (Below.refl w1.heap.size w1).drew)
    clear hc4
    go_region_held3 (fun w' => Hid (Kp w p A1 A2 A3 n1 n2 n3 c1 c2 c3 up dn pt A m ts w') ∧ w'.cell? ⟨w.heap.size, 0, none⟩ = some (.int .i64 p) ∧ w'.cell? ⟨w.heap.size, 1, none⟩ = some (.slice A1 n1 c1) ∧ w'.cell? ⟨w.heap.size, 2, none⟩ = some (.slice A2 n2 c2) ∧ w'.cell? ⟨w.heap.size, 3, none⟩ = some (.slice A3 n3 c3)) (first | exact HK.out.c | assumption)
      (first
        | (go_at_call 12; refine (check_any p A1 A2 A3 n1 n2 n3 c1 c2 c3 up dn pt _ HK.out.r1 HK.out.r2 HK.out.r3).mono ?_; rintro e wn ⟨rfl, hb⟩; rw [Hch.out]; replace HK := Lib.hid (HK.out.next hb); clear hb)
        | (go_at_call 13; refine (Check_any p A1 A2 A3 n1 n2 n3 c1 c2 c3 up dn pt _ HK.out.r1 HK.out.r2 HK.out.r3).mono ?_; rintro e wn ⟨rfl, hb⟩; rw [Hch.out]; replace HK := Lib.hid (HK.out.next hb); clear hb)
        | (go_at_call 14; refine (part_any p A1 A2 A3 n1 n2 n3 c1 c2 c3 up dn pt level _ HK.out.r1 HK.out.r2 HK.out.r3).mono ?_; rintro e wn ⟨rfl, hb⟩; rw [Hpl.out]; replace HK := Lib.hid (HK.out.next hb); clear hb)
        | (go_at_call 15; refine (Part_any p A1 A2 A3 n1 n2 n3 c1 c2 c3 up dn pt level _ HK.out.r1 HK.out.r2 HK.out.r3).mono ?_; rintro e wn ⟨rfl, hb⟩; rw [Hpl.out]; replace HK := Lib.hid (HK.out.next hb); clear hb)
        | (go_at_call 11; refine (awake_any _).mono ?_; rintro e wn ⟨rfl, hb⟩; replace HK := Lib.hid (HK.out.next hb); clear hb))
    all_goals go_wp2_with fail
    all_goals go_ret
    all_goals exact ⟨rfl, HK.out.bel⟩

set_option maxHeartbeats 4000000 in
set_option maxRecDepth 100000 in
theorem levels_law (p : Int) (A1 A2 A3 : Option Addr) (n1 n2 n3 c1 c2 c3 : Nat) (up dn pt : List Int) (A : Option Addr) (m c : Nat) (ts : List Int) (level count : Int) (w : World) (h1 : Ri w w.heap.size A1 n1 up) (h2 : Ri w w.heap.size A2 n2 dn) (h3 : Ri w w.heap.size A3 n3 pt) (ht : Ri w w.heap.size A m ts) :
    Calls Try.prog 4 #[.agg #[.int .i64 p, .slice A1 n1 c1, .slice A2 n2 c2, .slice A3 n3 c3], .slice A m c, .int .i64 level, .int .i64 count] w fun e w' => e = .returned (.bool true) ∧ Below w.heap.size w w' := by
  obtain ⟨nl, hnl⟩ : ∃ x, nxS ⟨p, up, dn, pt⟩ level count = x := ⟨_, rfl⟩
  have Hnl := Lib.hid hnl
  have enl : (nl == nl) = true := by simp
  clear hnl
  have HK := Lib.hid (Kp.start (p := p) (c1 := c1) (c2 := c2) (c3 := c3) h1 h2 h3 ht)
  clear h1 h2 h3 ht
  go_enter Try.func4, Try.ntmps4
  go_wp2_with fail
  refine (great_any p A1 A2 A3 n1 n2 n3 c1 c2 c3 _).mono ?_
  rintro e w1 ⟨rfl, hb⟩
  replace HK := Lib.hid (HK.out.next hb)
  clear hb
  rcases (show decide (20 < n1 ∨ 20 < n2 ∨ 20 < n3) = true ∨ decide (20 < n1 ∨ 20 < n2 ∨ 20 < n3) = false by cases decide (20 < n1 ∨ 20 < n2 ∨ 20 < n3) <;> simp) with hg | hg
  · rw [hg]
    go_wp2_with fail
    refine (awake_any _).mono ?_
    rintro e w2 ⟨rfl, hb⟩
    replace HK := Lib.hid (HK.out.next hb)
    go_wp2_with fail
    go_ret
    exact ⟨rfl, HK.out.bel⟩
  · rw [hg]
    by_cases hl : 200 < m
    · have hlI : (200 : Int) < (m : Int) := by omega
      go_wp2_with fail
      refine (awake_any _).mono ?_
      rintro e w2 ⟨rfl, hb⟩
      replace HK := Lib.hid (HK.out.next hb)
      go_wp2_with fail
      go_ret
      exact ⟨rfl, HK.out.bel⟩
    · have hlI : ¬ (200 : Int) < (m : Int) := by omega
      have hc4 := HK.out.bx.cells4
      go_wp2_with fail
      replace HK := Lib.hid (HK.out.next (Below.refl w1.heap.size w1).drew)
      clear hc4
      have hm : m ≤ 1048576 := by omega
      go_region_held3 (fun w' => Hid (Kp w p A1 A2 A3 n1 n2 n3 c1 c2 c3 up dn pt A m ts w') ∧ w'.cell? ⟨w.heap.size, 0, none⟩ = some (.int .i64 p) ∧ w'.cell? ⟨w.heap.size, 1, none⟩ = some (.slice A1 n1 c1) ∧ w'.cell? ⟨w.heap.size, 2, none⟩ = some (.slice A2 n2 c2) ∧ w'.cell? ⟨w.heap.size, 3, none⟩ = some (.slice A3 n3 c3)) (first | exact HK.out.c | assumption)
        (first
          | (go_at_call 16; refine (next16 p A1 A2 A3 n1 n2 n3 c1 c2 c3 up dn pt level count _ HK.out.r1 HK.out.r2 HK.out.r3).mono ?_; rintro e wn ⟨rfl, hb⟩; rw [Hnl.out]; replace HK := Lib.hid (HK.out.next hb); clear hb)
          | (go_at_call 17; refine (next17 p A1 A2 A3 n1 n2 n3 c1 c2 c3 up dn pt level count _ HK.out.r1 HK.out.r2 HK.out.r3).mono ?_; rintro e wn ⟨rfl, hb⟩; rw [Hnl.out]; replace HK := Lib.hid (HK.out.next hb); clear hb)
          | (go_at_call 19; refine (levels19 p A1 A2 A3 n1 n2 n3 c1 c2 c3 up dn pt A m c ts _ HK.out.r1 HK.out.r2 HK.out.r3 HK.out.rt hm).mono ?_; rintro e wn ⟨⟨_, _, _, rfl, hR⟩, hb⟩; obtain rfl := hR.1; have HL1 := Lib.hid hR; (try replace HL2 := Lib.hid (HL2.out.up hb)); clear hR; replace HK := Lib.hid (HK.out.next hb); clear hb)
          | (go_at_call 20; refine (levels20 p A1 A2 A3 n1 n2 n3 c1 c2 c3 up dn pt A m c ts _ HK.out.r1 HK.out.r2 HK.out.r3 HK.out.rt hm).mono ?_; rintro e wn ⟨⟨_, _, _, rfl, hR⟩, hb⟩; obtain rfl := hR.1; have HL2 := Lib.hid hR; (try replace HL1 := Lib.hid (HL1.out.up hb)); clear hR; replace HK := Lib.hid (HK.out.next hb); clear hb)
          | (go_at_call 18; refine (same_any _ _ _ _ _ _ _ HL1.out HL2.out).mono ?_; rintro e wn ⟨rfl, hb⟩; replace HK := Lib.hid (HK.out.next hb); clear hb)
          | (go_at_call 11; refine (awake_any _).mono ?_; rintro e wn ⟨rfl, hb⟩; replace HK := Lib.hid (HK.out.next hb); clear hb))
      all_goals go_wp2_with fail
      all_goals go_ret
      all_goals exact ⟨rfl, HK.out.bel⟩

set_option maxHeartbeats 4000000 in
set_option maxRecDepth 100000 in
theorem counts_law (p : Int) (A1 A2 A3 : Option Addr) (n1 n2 n3 c1 c2 c3 : Nat) (up dn pt : List Int) (A : Option Addr) (m c : Nat) (ts : List Int) (f n : Int) (w : World) (h1 : Ri w w.heap.size A1 n1 up) (h2 : Ri w w.heap.size A2 n2 dn) (h3 : Ri w w.heap.size A3 n3 pt) (ht : Ri w w.heap.size A m ts) (hR0 : ∀ i, at_ ts i ≤ 9223372036854775807) :
    Calls Try.prog 5 #[.agg #[.int .i64 p, .slice A1 n1 c1, .slice A2 n2 c2, .slice A3 n3 c3], .slice A m c, .agg #[.int .i64 f, .int .i64 n]] w fun e w' => e = .returned (.bool true) ∧ Below w.heap.size w w' := by
  have HR := Lib.hid hR0
  have HK := Lib.hid (Kp.start (p := p) (c1 := c1) (c2 := c2) (c3 := c3) h1 h2 h3 ht)
  have HX : Hid (Bx ((w.alloc (.cells #[.int .i64 p, .slice A1 n1 c1, .slice A2 n2 c2, .slice A3 n3 c3] 24)).alloc (.cells #[.int .i64 f, .int .i64 n] 37)) (w.heap.size + 1) 37 #[.int .i64 f, .int .i64 n]) := Lib.hid (Bx.newAt (by simp))
  replace HK := Lib.hid (HK.out.next (b1 (w.alloc (.cells #[.int .i64 p, .slice A1 n1 c1, .slice A2 n2 c2, .slice A3 n3 c3] 24)) (.cells #[.int .i64 f, .int .i64 n] 37)))
  clear h1 h2 h3 ht
  go_enter Try.func5, Try.ntmps5
  go_wp2_with fail
  refine (great_any p A1 A2 A3 n1 n2 n3 c1 c2 c3 _).mono ?_
  rintro e w1 ⟨rfl, hb⟩
  replace HK := Lib.hid (HK.out.next hb)
  replace HX := Lib.hid (HX.out.next hb)
  clear hb
  rcases (show decide (20 < n1 ∨ 20 < n2 ∨ 20 < n3) = true ∨ decide (20 < n1 ∨ 20 < n2 ∨ 20 < n3) = false by cases decide (20 < n1 ∨ 20 < n2 ∨ 20 < n3) <;> simp) with hg | hg
  · rw [hg]
    go_wp2_with fail
    refine (awake_any _).mono ?_
    rintro e w2 ⟨rfl, hb⟩
    replace HK := Lib.hid (HK.out.next hb)
    go_wp2_with fail
    go_ret
    exact ⟨rfl, HK.out.bel⟩
  · rw [hg]
    by_cases hl : 200 < m
    · have hlI : (200 : Int) < (m : Int) := by omega
      go_wp2_with fail
      refine (awake_any _).mono ?_
      rintro e w2 ⟨rfl, hb⟩
      replace HK := Lib.hid (HK.out.next hb)
      go_wp2_with fail
      go_ret
      exact ⟨rfl, HK.out.bel⟩
    · have hlI : ¬ (200 : Int) < (m : Int) := by omega
      have hc4 := HK.out.bx.cells4
      obtain ⟨x0, x1⟩ := HX.out.cells2
      go_wp2_with fail
      replace HK := Lib.hid (HK.out.next (Below.refl w1.heap.size w1).drew)
      replace HX := Lib.hid (HX.out.next (Below.refl w1.heap.size w1).drew)
      clear hc4
      go_region_held3 (fun w' => (Hid (Kp w p A1 A2 A3 n1 n2 n3 c1 c2 c3 up dn pt A m ts w') ∧ w'.cell? ⟨w.heap.size, 0, none⟩ = some (.int .i64 p) ∧ w'.cell? ⟨w.heap.size, 1, none⟩ = some (.slice A1 n1 c1) ∧ w'.cell? ⟨w.heap.size, 2, none⟩ = some (.slice A2 n2 c2) ∧ w'.cell? ⟨w.heap.size, 3, none⟩ = some (.slice A3 n3 c3)) ∧ w'.cell? ⟨w.heap.size + 1, 0, none⟩ = some (.int .i64 f) ∧ w'.cell? ⟨w.heap.size + 1, 1, none⟩ = some (.int .i64 n)) (first | exact ⟨HK.out.c, HX.out.cells2⟩ | assumption)
        (first
          | (go_at_call 21; refine (counts21 p A1 A2 A3 n1 n2 n3 c1 c2 c3 up dn pt A m c ts f n _ HK.out.r1 HK.out.r2 HK.out.r3 HK.out.rt HR.out).mono ?_; rintro e wn ⟨⟨_, _, _, rfl, hR⟩, hb⟩; replace HX := Lib.hid (HX.out.next hb); obtain rfl := hR.1; have HL1 := Lib.hid hR; (try replace HL2 := Lib.hid (HL2.out.up hb)); clear hR; replace HK := Lib.hid (HK.out.next hb); clear hb)
          | (go_at_call 22; refine (counts22 p A1 A2 A3 n1 n2 n3 c1 c2 c3 up dn pt A m c ts f n _ HK.out.r1 HK.out.r2 HK.out.r3 HK.out.rt HR.out).mono ?_; rintro e wn ⟨⟨_, _, _, rfl, hR⟩, hb⟩; replace HX := Lib.hid (HX.out.next hb); obtain rfl := hR.1; have HL2 := Lib.hid hR; (try replace HL1 := Lib.hid (HL1.out.up hb)); clear hR; replace HK := Lib.hid (HK.out.next hb); clear hb)
          | (go_at_call 18; refine (same_any _ _ _ _ _ _ _ HL1.out HL2.out).mono ?_; rintro e wn ⟨rfl, hb⟩; replace HX := Lib.hid (HX.out.next hb); replace HK := Lib.hid (HK.out.next hb); clear hb)
          | (go_at_call 11; refine (awake_any _).mono ?_; rintro e wn ⟨rfl, hb⟩; replace HX := Lib.hid (HX.out.next hb); replace HK := Lib.hid (HK.out.next hb); clear hb))
      all_goals go_wp2_with fail
      all_goals go_ret
      all_goals exact ⟨rfl, HK.out.bel⟩

set_option maxHeartbeats 4000000 in
set_option maxRecDepth 100000 in
theorem ats_law (p : Int) (A1 A2 A3 : Option Addr) (n1 n2 n3 c1 c2 c3 : Nat) (up dn pt : List Int) (A : Option Addr) (m c : Nat) (ts : List Int) (t : Int) (w : World) (h1 : Ri w w.heap.size A1 n1 up) (h2 : Ri w w.heap.size A2 n2 dn) (h3 : Ri w w.heap.size A3 n3 pt) (ht : Ri w w.heap.size A m ts) (hR0 : ∀ i, at_ ts i ≤ 9223372036854775807) :
    Calls Try.prog 6 #[.agg #[.int .i64 p, .slice A1 n1 c1, .slice A2 n2 c2, .slice A3 n3 c3], .slice A m c, .int .i64 t] w fun e w' => e = .returned (.bool true) ∧ Below w.heap.size w w' := by
  have HR := Lib.hid hR0
  obtain ⟨al, hal⟩ : ∃ x, aS ⟨p, up, dn, pt⟩ ts t = x := ⟨_, rfl⟩
  have Hal := Lib.hid hal
  have eal : (al == al) = true := by simp
  clear hal
  have HK := Lib.hid (Kp.start (p := p) (c1 := c1) (c2 := c2) (c3 := c3) h1 h2 h3 ht)
  clear h1 h2 h3 ht
  go_enter Try.func6, Try.ntmps6
  go_wp2_with fail
  refine (great_any p A1 A2 A3 n1 n2 n3 c1 c2 c3 _).mono ?_
  rintro e w1 ⟨rfl, hb⟩
  replace HK := Lib.hid (HK.out.next hb)
  clear hb
  rcases (show decide (20 < n1 ∨ 20 < n2 ∨ 20 < n3) = true ∨ decide (20 < n1 ∨ 20 < n2 ∨ 20 < n3) = false by cases decide (20 < n1 ∨ 20 < n2 ∨ 20 < n3) <;> simp) with hg | hg
  · rw [hg]
    go_wp2_with fail
    refine (awake_any _).mono ?_
    rintro e w2 ⟨rfl, hb⟩
    replace HK := Lib.hid (HK.out.next hb)
    go_wp2_with fail
    go_ret
    exact ⟨rfl, HK.out.bel⟩
  · rw [hg]
    by_cases hl : 200 < m
    · have hlI : (200 : Int) < (m : Int) := by omega
      go_wp2_with fail
      refine (awake_any _).mono ?_
      rintro e w2 ⟨rfl, hb⟩
      replace HK := Lib.hid (HK.out.next hb)
      go_wp2_with fail
      go_ret
      exact ⟨rfl, HK.out.bel⟩
    · have hlI : ¬ (200 : Int) < (m : Int) := by omega
      have hc4 := HK.out.bx.cells4
      go_wp2_with fail
      replace HK := Lib.hid (HK.out.next (Below.refl w1.heap.size w1).drew)
      clear hc4
      go_region_held3 (fun w' => Hid (Kp w p A1 A2 A3 n1 n2 n3 c1 c2 c3 up dn pt A m ts w') ∧ w'.cell? ⟨w.heap.size, 0, none⟩ = some (.int .i64 p) ∧ w'.cell? ⟨w.heap.size, 1, none⟩ = some (.slice A1 n1 c1) ∧ w'.cell? ⟨w.heap.size, 2, none⟩ = some (.slice A2 n2 c2) ∧ w'.cell? ⟨w.heap.size, 3, none⟩ = some (.slice A3 n3 c3)) (first | exact HK.out.c | assumption)
        (first
          | (go_at_call 23; refine (at23 p A1 A2 A3 n1 n2 n3 c1 c2 c3 up dn pt A m c ts t _ HK.out.r1 HK.out.r2 HK.out.r3 HK.out.rt HR.out).mono ?_; rintro e wn ⟨rfl, hb⟩; rw [Hal.out]; replace HK := Lib.hid (HK.out.next hb); clear hb)
          | (go_at_call 24; refine (at24 p A1 A2 A3 n1 n2 n3 c1 c2 c3 up dn pt A m c ts t _ HK.out.r1 HK.out.r2 HK.out.r3 HK.out.rt HR.out).mono ?_; rintro e wn ⟨rfl, hb⟩; rw [Hal.out]; replace HK := Lib.hid (HK.out.next hb); clear hb)
          | (go_at_call 11; refine (awake_any _).mono ?_; rintro e wn ⟨rfl, hb⟩; replace HK := Lib.hid (HK.out.next hb); clear hb))
      all_goals go_wp2_with fail
      all_goals go_ret
      all_goals exact ⟨rfl, HK.out.bel⟩
end Go.Proofs.Ytcobolmagjlbeaa.Wk
