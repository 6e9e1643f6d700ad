/- The walks of OccupancyOrder and OccupancyHysteresis. Conditions: the slices read as lists. -/
import Derived.Test.YtcobolmagjlbeaaOmath
import Derived.Deep.RegionHeld3
namespace Go.Proofs.Ytcobolmagjlbeaa.Wk
open Go.RowKit
open Go.Proofs.Ytcobolmagjlbeaa.Mt

set_option maxHeartbeats 4000000 in
set_option maxRecDepth 100000 in
theorem order_law (p : Int) (A1 A2 A3 : Option Addr) (n1 n2 n3 c1 c2 c3 : Nat) (up dn pt : List Int) (l more cnt add : Int) (w : World) (h1 : Ri w w.heap.size A1 n1 up) (h2 : Ri w w.heap.size A2 n2 dn) (h3 : Ri w w.heap.size A3 n3 pt) :
    Calls Try.prog 7 #[.agg #[.int .i64 p, .slice A1 n1 c1, .slice A2 n2 c2, .slice A3 n3 c3], .agg #[.int .i64 l, .int .i64 more, .int .i64 cnt, .int .i64 add]] w fun e w' => e = .returned (.bool true) ∧ Below w.heap.size w w' := by
  obtain ⟨A, m, ts, ht⟩ : ∃ A m ts, Ri w w.heap.size A m ts := ⟨_, _, _, Ri.none _ _⟩
  have HL1 := Lib.hid h1.1
  have HK := Lib.hid (Kp.start (p := p) (c1 := c1) (c2 := c2) (c3 := c3) h1 h2 h3 ht)
  have HX : Hid (Bx ((w.alloc (.cells #[.int .i64 p, .slice A1 n1 c1, .slice A2 n2 c2, .slice A3 n3 c3] 24)).alloc (.cells #[.int .i64 l, .int .i64 more, .int .i64 cnt, .int .i64 add] 43)) (w.heap.size + 1) 43 #[.int .i64 l, .int .i64 more, .int .i64 cnt, .int .i64 add]) := Lib.hid (Bx.newAt (by simp))
  replace HK := Lib.hid (HK.out.next (b1 (w.alloc (.cells #[.int .i64 p, .slice A1 n1 c1, .slice A2 n2 c2, .slice A3 n3 c3] 24)) (.cells #[.int .i64 l, .int .i64 more, .int .i64 cnt, .int .i64 add] 43)))
  obtain ⟨ch, hch⟩ : ∃ ch, chS ⟨p, up, dn, pt⟩ = ch := ⟨_, rfl⟩
  have HC := Lib.hid hch
  clear h1 h2 h3 ht hch
  go_enter Try.func7, Try.ntmps7
  go_wp2_with fail
  refine (great_any p A1 A2 A3 n1 n2 n3 c1 c2 c3 _).mono ?_
  rintro e w1 ⟨rfl, hb⟩
  replace HK := Lib.hid (HK.out.next hb)
  replace HX := Lib.hid (HX.out.next hb)
  clear hb
  rcases (show decide (20 < n1 ∨ 20 < n2 ∨ 20 < n3) = true ∨ decide (20 < n1 ∨ 20 < n2 ∨ 20 < n3) = false by cases decide (20 < n1 ∨ 20 < n2 ∨ 20 < n3) <;> simp) with hg | hg
  · rw [hg]
    go_wp2_with fail
    refine (awake_any _).mono ?_
    rintro e wz ⟨rfl, hb⟩
    replace HK := Lib.hid (HK.out.next hb)
    go_wp2_with fail
    go_ret
    exact ⟨rfl, HK.out.bel⟩
  · rw [hg]
    obtain ⟨c0, c1', c2', c3'⟩ := HK.out.bx.cells4
    go_wp2_with fail
    clear c0 c1' c2' c3'
    refine (check_any p A1 A2 A3 n1 n2 n3 c1 c2 c3 up dn pt _ HK.out.r1 HK.out.r2 HK.out.r3).mono ?_
    rintro e w2 ⟨rfl, hb⟩
    replace HK := Lib.hid (HK.out.next hb)
    replace HX := Lib.hid (HX.out.next hb)
    clear hb
    rw [HC.out]
    by_cases hc : ch = 0
    · subst hc
      obtain ⟨c0, c1', c2', c3'⟩ := HK.out.bx.cells4
      obtain ⟨x0, x1, x2, x3⟩ := HX.out.cells4
      by_cases q0 : l < 0
      · go_wp2_with fail
        refine (awake_any _).mono ?_
        rintro e wz ⟨rfl, hb⟩
        replace HK := Lib.hid (HK.out.next hb)
        go_wp2_with fail
        go_ret
        exact ⟨rfl, HK.out.bel⟩
      · have q0' : decide (l < 0) = false := decide_eq_false q0
        by_cases q1 : (n1 : Int) < l
        · go_wp2_with fail
          refine (awake_any _).mono ?_
          rintro e wz ⟨rfl, hb⟩
          replace HK := Lib.hid (HK.out.next hb)
          go_wp2_with fail
          go_ret
          exact ⟨rfl, HK.out.bel⟩
        · have q1' : decide ((n1 : Int) < l) = false := decide_eq_false q1
          by_cases q2 : more < l
          · go_wp2_with fail
            refine (awake_any _).mono ?_
            rintro e wz ⟨rfl, hb⟩
            replace HK := Lib.hid (HK.out.next hb)
            go_wp2_with fail
            go_ret
            exact ⟨rfl, HK.out.bel⟩
          · have q2' : decide (more < l) = false := decide_eq_false q2
            by_cases q3 : (n1 : Int) < more
            · go_wp2_with fail
              refine (awake_any _).mono ?_
              rintro e wz ⟨rfl, hb⟩
              replace HK := Lib.hid (HK.out.next hb)
              go_wp2_with fail
              go_ret
              exact ⟨rfl, HK.out.bel⟩
            · have q3' : decide ((n1 : Int) < more) = false := decide_eq_false q3
              by_cases q4 : cnt < 0
              · go_wp2_with fail
                refine (awake_any _).mono ?_
                rintro e wz ⟨rfl, hb⟩
                replace HK := Lib.hid (HK.out.next hb)
                go_wp2_with fail
                go_ret
                exact ⟨rfl, HK.out.bel⟩
              · have q4' : decide (cnt < 0) = false := decide_eq_false q4
                by_cases q5 : 2147483648 < cnt
                · go_wp2_with fail
                  refine (awake_any _).mono ?_
                  rintro e wz ⟨rfl, hb⟩
                  replace HK := Lib.hid (HK.out.next hb)
                  go_wp2_with fail
                  go_ret
                  exact ⟨rfl, HK.out.bel⟩
                · have q5' : decide (2147483648 < cnt) = false := decide_eq_false q5
                  by_cases q6 : add < 0
                  · go_wp2_with fail
                    refine (awake_any _).mono ?_
                    rintro e wz ⟨rfl, hb⟩
                    replace HK := Lib.hid (HK.out.next hb)
                    go_wp2_with fail
                    go_ret
                    exact ⟨rfl, HK.out.bel⟩
                  · have q6' : decide (add < 0) = false := decide_eq_false q6
                    by_cases q7 : 2147483648 < add
                    · go_wp2_with fail
                      refine (awake_any _).mono ?_
                      rintro e wz ⟨rfl, hb⟩
                      replace HK := Lib.hid (HK.out.next hb)
                      go_wp2_with fail
                      go_ret
                      exact ⟨rfl, HK.out.bel⟩
                    · have q7' : decide (2147483648 < add) = false := decide_eq_false q7
                      obtain ⟨a, ha⟩ : ∃ a, nxS ⟨p, up, dn, pt⟩ l cnt = a := ⟨_, rfl⟩
                      obtain ⟨b, hb⟩ : ∃ b, nxS ⟨p, up, dn, pt⟩ more cnt = b := ⟨_, rfl⟩
                      obtain ⟨d, hd⟩ : ∃ d, nxS ⟨p, up, dn, pt⟩ l (cnt + add) = d := ⟨_, rfl⟩
                      have hfacts : (0 ≤ a ∧ a ≤ (n1 : Int)) ∧ (a ≤ b ∧ b ≤ (n1 : Int)) ∧ (a ≤ d ∧ d ≤ (n1 : Int)) := by
                        obtain ⟨x, rfl⟩ : ∃ x : Nat, l = (x : Int) := ⟨l.toNat, by omega⟩
                        obtain ⟨y, rfl⟩ : ∃ y : Nat, more = (y : Int) := ⟨more.toNat, by omega⟩
                        have hl := HL1.out
                        have g1 := nx_le (s := ⟨p, up, dn, pt⟩) (x : Int) cnt
                        have g2 := nx_le (s := ⟨p, up, dn, pt⟩) (y : Int) cnt
                        have g3 := nx_le (s := ⟨p, up, dn, pt⟩) (x : Int) (cnt + add)
                        have g4 := nx_mono (s := ⟨p, up, dn, pt⟩) HC.out (l := x) (l' := y) (by omega) (by show y ≤ up.length; omega) (Int.le_refl cnt)
                        have g5 := nx_mono (s := ⟨p, up, dn, pt⟩) HC.out (l := x) (l' := x) (Nat.le_refl _) (by show x ≤ up.length; omega) (c := cnt) (c' := cnt + add) (by omega)
                        simp only [nxS, HC.out] at ha hb hd
                        simp only at g1 g2 g3
                        simp at ha hb hd
                        omega
                      obtain ⟨⟨f1, f2⟩, ⟨f3, f4⟩, f5, f6⟩ := hfacts
                      have E1 := IntWalk.i64_in (cnt + add) (by omega)
                      have Ha := Lib.hid ha
                      have Hb := Lib.hid hb
                      have Hd := Lib.hid hd
                      clear ha hb hd
                      go_wp2_with fail
                      replace HK := Lib.hid (HK.out.next (Below.refl w2.heap.size w2).drew)
                      replace HX := Lib.hid (HX.out.next (Below.refl w2.heap.size w2).drew)
                      clear c0 c1' c2' c3' x0 x1 x2 x3
                      go_region_held3 (fun w' => (Hid (Kp w p A1 A2 A3 n1 n2 n3 c1 c2 c3 up dn pt A m ts w') ∧ w'.cell? ⟨w.heap.size, 0, none⟩ = some (.int .i64 p) ∧ w'.cell? ⟨w.heap.size, 1, none⟩ = some (.slice A1 n1 c1) ∧ w'.cell? ⟨w.heap.size, 2, none⟩ = some (.slice A2 n2 c2) ∧ w'.cell? ⟨w.heap.size, 3, none⟩ = some (.slice A3 n3 c3)) ∧ w'.cell? ⟨w.heap.size + 1, 0, none⟩ = some (.int .i64 l) ∧ w'.cell? ⟨w.heap.size + 1, 1, none⟩ = some (.int .i64 more) ∧ w'.cell? ⟨w.heap.size + 1, 2, none⟩ = some (.int .i64 cnt) ∧ w'.cell? ⟨w.heap.size + 1, 3, none⟩ = some (.int .i64 add)) (first | exact ⟨HK.out.c, HX.out.cells4⟩ | assumption)
                        (first
                          | (go_at_call 16; refine (next16 p A1 A2 A3 n1 n2 n3 c1 c2 c3 up dn pt _ _ _ HK.out.r1 HK.out.r2 HK.out.r3).mono ?_; rintro e wn ⟨rfl, hb⟩; replace HX := Lib.hid (HX.out.next hb); (first | rw [Ha.out] | rw [Hb.out] | rw [Hd.out]); replace HK := Lib.hid (HK.out.next hb); clear hb))
                      all_goals obtain ⟨c0, c1', c2', c3'⟩ := HK.out.bx.cells4
                      all_goals go_wp2_with fail
                      all_goals refine (awake_any _).mono ?_
                      all_goals rintro e wz ⟨rfl, hb⟩
                      all_goals replace HK := Lib.hid (HK.out.next hb)
                      all_goals go_wp2_with fail
                      all_goals go_ret
                      all_goals exact ⟨rfl, HK.out.bel⟩
    · have e1 : (ch == 0) = false := by simp [hc]
      have e2 : (ch != 0) = true := by simp [hc]
      clear hc
      go_wp2_with fail
      refine (awake_any _).mono ?_
      rintro e wz ⟨rfl, hb⟩
      replace HK := Lib.hid (HK.out.next hb)
      go_wp2_with fail
      go_ret
      exact ⟨rfl, HK.out.bel⟩
end Go.Proofs.Ytcobolmagjlbeaa.Wk
