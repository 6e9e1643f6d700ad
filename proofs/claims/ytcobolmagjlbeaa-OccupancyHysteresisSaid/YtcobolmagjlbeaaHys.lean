/- The walks of OccupancyOrder and OccupancyHysteresis. Conditions: the slices read as lists. -/
import Derived.Test.YtcobolmagjlbeaaOmath
import Derived.Deep.RegionHeld3
namespace Go.Proofs.Ytcobolmagjlbeaa.Wk
open Go.RowKit
open Go.Proofs.Ytcobolmagjlbeaa.Mt

set_option maxHeartbeats 4000000 in
set_option maxRecDepth 100000 in
theorem hyst_law (p : Int) (A1 A2 A3 : Option Addr) (n1 n2 n3 c1 c2 c3 : Nat) (up dn pt : List Int) (A : Option Addr) (m c : Nat) (ts : List Int) (i : Int) (w : World) (h1 : Ri w w.heap.size A1 n1 up) (h2 : Ri w w.heap.size A2 n2 dn) (h3 : Ri w w.heap.size A3 n3 pt) (ht : Ri w w.heap.size A m ts) :
    Calls Try.prog 8 #[.agg #[.int .i64 p, .slice A1 n1 c1, .slice A2 n2 c2, .slice A3 n3 c3], .slice A m c, .int .i64 i] w fun e w' => e = .returned (.bool true) ∧ Below w.heap.size w w' := by
  have HL1 := Lib.hid h1.1
  have hl2 : dn.length = n2 := h2.1
  have HK := Lib.hid (Kp.start (p := p) (c1 := c1) (c2 := c2) (c3 := c3) h1 h2 h3 ht)
  obtain ⟨ch, hch⟩ : ∃ ch, chS ⟨p, up, dn, pt⟩ = ch := ⟨_, rfl⟩
  have HC := Lib.hid hch
  have HN : Hid (ch = 0 → n2 = n1 ∧ n1 ≤ 8) := Lib.hid (fun h => by have := ch_eq (s := ⟨p, up, dn, pt⟩) (hch.trans h); have e1 := HL1.out; simp only at this; omega)
  clear h1 h2 h3 ht hch hl2
  go_enter Try.func8, Try.ntmps8
  go_wp2_with fail
  refine (great_any p A1 A2 A3 n1 n2 n3 c1 c2 c3 _).mono ?_
  rintro e w1 ⟨rfl, hb⟩
  replace HK := Lib.hid (HK.out.next hb)
  clear hb
  rcases (show decide (20 < n1 ∨ 20 < n2 ∨ 20 < n3) = true ∨ decide (20 < n1 ∨ 20 < n2 ∨ 20 < n3) = false by cases decide (20 < n1 ∨ 20 < n2 ∨ 20 < n3) <;> simp) with hg | hg
  · rw [hg]
    go_wp2_with fail
    refine (awake_any _).mono ?_
    rintro e wz ⟨rfl, hb⟩
    replace HK := Lib.hid (HK.out.next hb)
    go_wp2_with fail
    go_ret
    exact ⟨rfl, HK.out.bel⟩
  · rw [hg]
    by_cases hl : 200 < m
    · have hlI : (200 : Int) < (m : Int) := by omega
      go_wp2_with fail
      refine (awake_any _).mono ?_
      rintro e wz ⟨rfl, hb⟩
      replace HK := Lib.hid (HK.out.next hb)
      go_wp2_with fail
      go_ret
      exact ⟨rfl, HK.out.bel⟩
    · have hlI : ¬ (200 : Int) < (m : Int) := by omega
      obtain ⟨c0, c1', c2', c3'⟩ := HK.out.bx.cells4
      go_wp2_with fail
      clear c0 c1' c2' c3'
      refine (check_any p A1 A2 A3 n1 n2 n3 c1 c2 c3 up dn pt _ HK.out.r1 HK.out.r2 HK.out.r3).mono ?_
      rintro e w2 ⟨rfl, hb⟩
      replace HK := Lib.hid (HK.out.next hb)
      clear hb
      rw [HC.out]
      by_cases hc : ch = 0
      · subst hc
        have hnn : n2 ≤ n1 ∧ n1 ≤ n2 ∧ n1 ≤ 8 := by have := HN.out rfl; omega
        clear HN
        obtain ⟨c0, c1', c2', c3'⟩ := HK.out.bx.cells4
        by_cases q0 : i < 1
        · go_wp2_with fail
          refine (awake_any _).mono ?_
          rintro e wz ⟨rfl, hb⟩
          replace HK := Lib.hid (HK.out.next hb)
          go_wp2_with fail
          go_ret
          exact ⟨rfl, HK.out.bel⟩
        · have q0' : decide (i < 1) = false := decide_eq_false q0
          by_cases q1 : (n1 : Int) < i
          · go_wp2_with fail
            refine (awake_any _).mono ?_
            rintro e wz ⟨rfl, hb⟩
            replace HK := Lib.hid (HK.out.next hb)
            go_wp2_with fail
            go_ret
            exact ⟨rfl, HK.out.bel⟩
          · have q1' : decide ((n1 : Int) < i) = false := decide_eq_false q1
            have hm2 : m ≤ 1048576 := by omega
            go_wp2_with fail
            clear c0 c1' c2' c3'
            refine (levels19 p A1 A2 A3 n1 n2 n3 c1 c2 c3 up dn pt A m c ts _ HK.out.r1 HK.out.r2 HK.out.r3 HK.out.rt hm2).mono ?_
            rintro e w3 ⟨⟨A', k0, c', rfl, hR⟩, hb⟩
            replace HK := Lib.hid (HK.out.next hb)
            have hlv : lvS ⟨p, up, dn, pt⟩ ts = lvk ⟨p, up, dn, pt⟩ ts m m := by have := HK.out.rt.1; simp only [lvS, HC.out, this]; simp
            rw [hlv] at hR
            obtain rfl : m = k0 := by rw [← hR.1, lvk_len]
            have HL := Lib.hid hR
            clear hb hR hlv
            obtain ⟨i0, rfl⟩ : ∃ i0 : Nat, i = (i0 : Int) + 1 := ⟨(i - 1).toNat, by omega⟩
            have hi0 : i0 < n1 := by omega
            have hi0d : i0 < n2 := by omega
            have em1 : ((m : Int) == (m : Int)) = true := by simp
            have em2 : ((m : Int) != (m : Int)) = false := by simp
            rcases (show m = 0 ∨ 0 < m by omega) with hm0 | hm0
            · subst hm0
              go_wp2_with fail
              go_loopw [8] (fun i wr => i = .int .i64 1 ∧ Hid (Kp w p A1 A2 A3 n1 n2 n3 c1 c2 c3 up dn pt A 0 ts wr)) (fun i _ => (intOf i).toNat)
              case atStart => exact ⟨rfl, HK⟩
              case round =>
                clear HK
                obtain ⟨rfl, HK⟩ := hrel
                go_wp2_with fail
                refine (awake_any _).mono ?_
                rintro e wz ⟨rfl, hb⟩
                replace HK := Lib.hid (HK.out.next hb)
                go_wp2_with fail
                go_ret
                exact ⟨rfl, HK.out.bel⟩
            · obtain ⟨b', o', hA', _, d0⟩ := HL.out.get hm0
              subst hA'
              rw [lvk_at _ _ hm0 hm0] at d0
              have d0' : w3.cell? ⟨b', o' + 0, none⟩ = some (.int .i64 0) := d0
              have d0'' : w3.cell? ⟨b', o', none⟩ = some (.int .i64 0) := d0
              have hmI : decide ((0 : Int) < (m : Int)) = true := decide_eq_true (by omega)
              have hmN : decide (0 < m) = true := decide_eq_true hm0
              clear d0
              go_wp2_with fail
              clear em1 em2 d0' d0''
              go_loopw [8] (fun i wr => ∃ j : Nat, 1 ≤ j ∧ j ≤ m + 1 ∧ i = .int .i64 j ∧ Hid (Kp w p A1 A2 A3 n1 n2 n3 c1 c2 c3 up dn pt A m ts wr) ∧ Hid (Ri wr wr.heap.size (some ⟨b', o', none⟩) m (lvk ⟨p, up, dn, pt⟩ ts m m))) (fun i _ => m + 1 - (intOf i).toNat)
              case atStart => exact ⟨1, Nat.le_refl _, by omega, rfl, HK, HL⟩
              case round =>
                clear HK HL
                obtain ⟨j0, hj1, hj, rfl, HK, HL⟩ := hrel
                by_cases hlt : j0 < m
                · obtain ⟨j, rfl⟩ : ∃ j, j0 = j + 1 := ⟨j0 - 1, by omega⟩
                  have hltI : (j : Int) + 1 < (m : Int) := by omega
                  have hltJ : (j : Int) < (m : Int) := by omega
                  have l1 := HL.out.two (i := j) (by omega)
                  have l2 := HL.out.two (i := j + 1) hlt
                  rw [lvk_at _ _ (by omega) (by omega)] at l1 l2
                  obtain ⟨bb, off, hAb, _, l3⟩ := HK.out.rt.get (i := j) (by omega)
                  obtain ⟨bu, ou, hAu, _, l4⟩ := HK.out.r1.get (i := i0) hi0
                  obtain ⟨bd, od, hAd, _, l5⟩ := HK.out.r2.get (i := i0) hi0d
                  obtain ⟨c0, c1', c2', c3'⟩ := HK.out.bx.cells4
                  have hi0I : (i0 : Int) < (n1 : Int) := by omega
                  have hi0J : (i0 : Int) < (n2 : Int) := by omega
                  obtain ⟨x, hx, hxn⟩ := lv_in ⟨p, up, dn, pt⟩ ts j
                  have hnext : lv ⟨p, up, dn, pt⟩ ts (j + 1) = ((nx ⟨p, up, dn, pt⟩ (lv ⟨p, up, dn, pt⟩ ts j) (at_ ts j) : Nat) : Int) := rfl
                  rw [hx] at hnext l1
                  rw [hnext] at l2
                  obtain ⟨y, hy⟩ : ∃ y, nx ⟨p, up, dn, pt⟩ (x : Int) (at_ ts j) = y := ⟨_, rfl⟩
                  rw [hy] at l2 hnext
                  have HY := Lib.hid hy
                  simp only at hxn
                  have HS : Hid (i0 + 1 ≤ x → at_ dn i0 ≤ at_ ts j → i0 + 1 ≤ y) := Lib.hid (fun a b => by have := nx_stay (s := ⟨p, up, dn, pt⟩) HC.out (l := x) (i := i0) hxn a b; rw [hy] at this; exact this)
                  have HT : Hid (x < i0 + 1 → at_ ts j < at_ up i0 → y < i0 + 1) := Lib.hid (fun a b => by have := nx_keep (s := ⟨p, up, dn, pt⟩) HC.out (l := x) (i := i0) hxn a (by show i0 < up.length; rw [HL1.out]; exact hi0) b; rw [hy] at this; exact this)
                  clear hx hnext hy hxn
                  subst hAb hAu hAd
                  have E1 := IntWalk.i64_in ((j : Int) + 1 - 1) (by omega)
                  rw [show (j : Int) + 1 - 1 = (j : Int) by omega] at E1
                  have E2 := IntWalk.i64_in ((i0 : Int) + 1 - 1) (by omega)
                  rw [show (i0 : Int) + 1 - 1 = (i0 : Int) by omega] at E2
                  by_cases g1 : i0 + 1 ≤ x
                  · have k1 : decide ((i0 : Int) + 1 ≤ (x : Int)) = true := decide_eq_true (by omega)
                    have k2 : decide ((x : Int) < (i0 : Int) + 1) = false := decide_eq_false (by omega)
                    by_cases g2 : at_ dn i0 ≤ at_ ts j
                    · have k3 : decide (at_ dn i0 ≤ at_ ts j) = true := decide_eq_true g2
                      have hres := HS.out g1 g2
                      have k4 : decide ((y : Int) < (i0 : Int) + 1) = false := decide_eq_false (by omega)
                      clear g1 g2 hres
                      go_wp2_with fail
                      go_quiet (fail)
                      go_wp2_with fail
                      go_roundw
                      case rel => exact ⟨j + 1 + 1, by omega, by omega, by go_num, Lib.hid (HK.out.next (below_drewN (Below.refl _ _) _)), Lib.hid (HL.out.up (below_drewN (Below.refl _ _) _))⟩
                      case measure => simp [intOf]; omega
                    · have k3 : decide (at_ dn i0 ≤ at_ ts j) = false := decide_eq_false g2
                      clear g1 g2
                      go_wp2_with fail
                      go_quiet (fail)
                      go_wp2_with fail
                      go_roundw
                      case rel => exact ⟨j + 1 + 1, by omega, by omega, by go_num, Lib.hid (HK.out.next (below_drewN (Below.refl _ _) _)), Lib.hid (HL.out.up (below_drewN (Below.refl _ _) _))⟩
                      case measure => simp [intOf]; omega
                  · have k1 : decide ((i0 : Int) + 1 ≤ (x : Int)) = false := decide_eq_false (by omega)
                    have k2 : decide ((x : Int) < (i0 : Int) + 1) = true := decide_eq_true (by omega)
                    by_cases g2 : at_ ts j < at_ up i0
                    · have k3 : decide (at_ ts j < at_ up i0) = true := decide_eq_true g2
                      have hres := HT.out (by omega) g2
                      have k4 : decide ((i0 : Int) + 1 ≤ (y : Int)) = false := decide_eq_false (by omega)
                      clear g1 g2 hres
                      go_wp2_with fail
                      go_quiet (fail)
                      go_wp2_with fail
                      go_roundw
                      case rel => exact ⟨j + 1 + 1, by omega, by omega, by go_num, Lib.hid (HK.out.next (below_drewN (Below.refl _ _) _)), Lib.hid (HL.out.up (below_drewN (Below.refl _ _) _))⟩
                      case measure => simp [intOf]; omega
                    · have k3 : decide (at_ ts j < at_ up i0) = false := decide_eq_false g2
                      clear g1 g2
                      go_wp2_with fail
                      go_quiet (fail)
                      go_wp2_with fail
                      go_roundw
                      case rel => exact ⟨j + 1 + 1, by omega, by omega, by go_num, Lib.hid (HK.out.next (below_drewN (Below.refl _ _) _)), Lib.hid (HL.out.up (below_drewN (Below.refl _ _) _))⟩
                      case measure => simp [intOf]; omega
                · have hltI : ¬ (j0 : Int) < (m : Int) := by omega
                  go_wp2_with fail
                  refine (awake_any _).mono ?_
                  rintro e wz ⟨rfl, hb⟩
                  replace HK := Lib.hid (HK.out.next hb)
                  go_wp2_with fail
                  go_ret
                  exact ⟨rfl, HK.out.bel⟩
      · have e1 : (ch == 0) = false := by simp [hc]
        have e2 : (ch != 0) = true := by simp [hc]
        clear hc
        go_wp2_with fail
        refine (awake_any _).mono ?_
        rintro e wz ⟨rfl, hb⟩
        replace HK := Lib.hid (HK.out.next hb)
        go_wp2_with fail
        go_ret
        exact ⟨rfl, HK.out.bel⟩
end Go.Proofs.Ytcobolmagjlbeaa.Wk
