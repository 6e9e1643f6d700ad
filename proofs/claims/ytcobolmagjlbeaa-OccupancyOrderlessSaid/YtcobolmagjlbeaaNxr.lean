/- The contract of the reference's Next. Conditions: the slices read as lists. -/
import Derived.Test.YtcobolmagjlbeaaSm
namespace Go.Proofs.Ytcobolmagjlbeaa.Wk
open Go.RowKit
open Go.Proofs.Ytcobolmagjlbeaa.Mt

set_option maxHeartbeats 4000000 in
set_option maxRecDepth 100000 in
theorem next17 (p : Int) (A1 A2 A3 : Option Addr) (n1 n2 n3 c1 c2 c3 : Nat) (up dn pt : List Int) (level count : Int) (w : World) (h1 : Ri w w.heap.size A1 n1 up) (h2 : Ri w w.heap.size A2 n2 dn) (h3 : Ri w w.heap.size A3 n3 pt) :
    Calls Try.prog 17 #[.agg #[.int .i64 p, .slice A1 n1 c1, .slice A2 n2 c2, .slice A3 n3 c3], .int .i64 level, .int .i64 count] w fun e w' => e = .returned (.int .i64 (nxS ⟨p, up, dn, pt⟩ level count)) ∧ Below w.heap.size w w' := by
  have hl1 : up.length = n1 := h1.1
  have hl2 : dn.length = n2 := h2.1
  have hn1 := h1.2.1
  have hn3 := h3.2.1
  have hA0 := b1 w (.cells #[.int .i64 p, .slice A1 n1 c1, .slice A2 n2 c2, .slice A3 n3 c3] 24)
  have HBx := Lib.hid (Bx.new w 24 #[.int .i64 p, .slice A1 n1 c1, .slice A2 n2 c2, .slice A3 n3 c3])
  have H1 := Lib.hid (h1.up hA0)
  have H2 := Lib.hid (h2.up hA0)
  have H3 := Lib.hid (h3.up hA0)
  obtain ⟨ch, hch⟩ : ∃ ch, chS ⟨p, up, dn, pt⟩ = ch := ⟨_, rfl⟩
  obtain ⟨lv, hlv⟩ : ∃ lv, clamp n1 level = lv := ⟨_, rfl⟩
  obtain ⟨u, hu⟩ : ∃ u, upto up count n1 = u := ⟨_, rfl⟩
  have hul : u ≤ n1 := by rw [← hu]; exact upto_le _ _ _
  have hll : lv ≤ n1 := by rw [← hlv]; exact clamp_le _ _
  have HU := Lib.hid hu
  have HN : Hid (nx ⟨p, up, dn, pt⟩ level count = if lv < u then u else down dn count lv) := Lib.hid (by simp only [nx, hl1, hlv, hu])
  have HP : Hid (nxS ⟨p, up, dn, pt⟩ level count = if ch ≠ 0 then 0 else ((nx ⟨p, up, dn, pt⟩ level count : Nat) : Int)) := Lib.hid (by simp only [nxS, hch])
  have HL : Hid (ch = 0 → n1 ≤ n2 ∧ n1 ≤ 8) := Lib.hid (fun h => by have := ch_eq (s := ⟨p, up, dn, pt⟩) (hch.trans h); simp only at this; omega)
  have HC := Lib.hid hch
  clear h1 h2 h3 hl1 hl2 hch hu
  by_cases hc : ch = 0
  · have HE : Hid (nxS ⟨p, up, dn, pt⟩ level count = ((nx ⟨p, up, dn, pt⟩ level count : Nat) : Int)) := Lib.hid (by rw [HP.out]; simp [hc])
    have hln : n1 ≤ n2 := (HL.out hc).1
    have hn8 : n1 ≤ 8 := (HL.out hc).2
    by_cases h0 : level < 0
    · have hlv0 : lv = 0 := by rw [← hlv, clamp, if_pos h0]
      subst hlv0
      clear hlv
      go_enter Try.func17, Try.ntmps17
      go_wp2_with fail
      refine (Check_any p A1 A2 A3 n1 n2 n3 c1 c2 c3 up dn pt _ H1.out H2.out H3.out).mono ?_
      rintro e w1 ⟨rfl, hb1⟩
      have hA1 := upB hA0 hb1
      obtain ⟨b0, b1', b2, b3⟩ := (HBx.out.next hb1).cells4
      rw [HC.out, hc]
      have H1' := Lib.hid (H1.out.up hb1)
      have H2' := Lib.hid (H2.out.up hb1)
      go_wp2_with fail
      go_loop [8, 9] (fun g i => ∃ k : Nat, k ≤ n1 ∧ i = .int .i64 ((k : Int) + 1) ∧ g = .int .i64 (upto up count k : Nat)) (fun _ i => n1 + 1 - (intOf i).toNat)
      case atStart => exact ⟨0, Nat.zero_le _, rfl, rfl⟩
      case round =>
        obtain ⟨k, hk, rfl, rfl⟩ := hrel
        by_cases hlt : k < n1
        · obtain ⟨bb, off, rfl, _, d1⟩ := H1'.out.get hlt
          have hlI : (k : Int) + 1 ≤ (n1 : Int) := by omega
          by_cases hc2 : at_ up k ≤ count
          · have HH := Lib.hid (upto_yes hc2)
            go_wp2_with fail
            go_round
            case rel => exact ⟨k + 1, by omega, by go_num, by rw [HH.out]; go_num⟩
            case measure => simp [intOf]; omega
          · have HH := Lib.hid (upto_no hc2)
            go_wp2_with fail
            go_round
            case rel => exact ⟨k + 1, by omega, by go_num, by rw [HH.out]⟩
            case measure => simp [intOf]; omega
        · have hlI : ¬ (k : Int) + 1 ≤ (n1 : Int) := by omega
          have HUk : Hid (upto up count k = u) := Lib.hid (by have : k = n1 := by { omega }; rw [this]; exact HU.out)
          rw [HUk.out]
          clear hlt hk
          by_cases hcmp : 0 < u
          · have HX : Hid (nx ⟨p, up, dn, pt⟩ level count = u) := Lib.hid (by rw [HN.out, if_pos hcmp])
            have hci : ((0 : Nat) : Int) < (u : Int) := by omega
            go_wp2_with fail
            go_ret
            exact ⟨by rw [HE.out, HX.out]; rfl, hA1⟩
          · have HX : Hid (down dn count 0 = nx ⟨p, up, dn, pt⟩ level count) := Lib.hid (by rw [HN.out, if_neg hcmp])
            have hci : ¬ ((0 : Nat) : Int) < (u : Int) := by omega
            go_wp2_with fail
            go_loop [7] (fun l => ∃ j : Nat, j ≤ 0 ∧ l = .int .i64 j ∧ Hid (down dn count j = down dn count 0)) (fun l => (intOf l).toNat)
            case atStart => exact ⟨0, Nat.le_refl _, rfl, Lib.hid rfl⟩
            case round =>
              obtain ⟨j, hj, rfl, HJ⟩ := hrel
              by_cases hj0 : j = 0
              · have HZ : Hid (down dn count j = j) := Lib.hid (by rw [hj0]; rfl)
                have hg1 : decide ((0 : Int) < (j : Int)) = false := decide_eq_false (by omega)
                have hg2 : decide (0 < j) = false := decide_eq_false (by omega)
                clear hj0
                go_wp2_with fail
                go_ret
                exact ⟨by rw [HE.out, ← HX.out, ← HJ.out, HZ.out]; rfl, hA1⟩
              · omega
    · by_cases h3 : (n1 : Int) < level
      · have hlv0 : lv = n1 := by rw [← hlv, clamp, if_neg h0, if_pos h3]
        subst hlv0
        clear hlv
        go_enter Try.func17, Try.ntmps17
        go_wp2_with fail
        refine (Check_any p A1 A2 A3 lv n2 n3 c1 c2 c3 up dn pt _ H1.out H2.out H3.out).mono ?_
        rintro e w1 ⟨rfl, hb1⟩
        have hA1 := upB hA0 hb1
        obtain ⟨b0, b1', b2, b3⟩ := (HBx.out.next hb1).cells4
        rw [HC.out, hc]
        have H1' := Lib.hid (H1.out.up hb1)
        have H2' := Lib.hid (H2.out.up hb1)
        go_wp2_with fail
        go_loop [8, 9] (fun g i => ∃ k : Nat, k ≤ lv ∧ i = .int .i64 ((k : Int) + 1) ∧ g = .int .i64 (upto up count k : Nat)) (fun _ i => lv + 1 - (intOf i).toNat)
        case atStart => exact ⟨0, Nat.zero_le _, rfl, rfl⟩
        case round =>
          obtain ⟨k, hk, rfl, rfl⟩ := hrel
          by_cases hlt : k < lv
          · obtain ⟨bb, off, rfl, _, d1⟩ := H1'.out.get hlt
            have hlI : (k : Int) + 1 ≤ (lv : Int) := by omega
            by_cases hc2 : at_ up k ≤ count
            · have HH := Lib.hid (upto_yes hc2)
              go_wp2_with fail
              go_round
              case rel => exact ⟨k + 1, by omega, by go_num, by rw [HH.out]; go_num⟩
              case measure => simp [intOf]; omega
            · have HH := Lib.hid (upto_no hc2)
              go_wp2_with fail
              go_round
              case rel => exact ⟨k + 1, by omega, by go_num, by rw [HH.out]⟩
              case measure => simp [intOf]; omega
          · have hlI : ¬ (k : Int) + 1 ≤ (lv : Int) := by omega
            have HUk : Hid (upto up count k = u) := Lib.hid (by have : k = lv := by { omega }; rw [this]; exact HU.out)
            rw [HUk.out]
            clear hlt hk
            by_cases hcmp : lv < u
            · omega
            · have HX : Hid (down dn count lv = nx ⟨p, up, dn, pt⟩ level count) := Lib.hid (by rw [HN.out, if_neg hcmp])
              have hci : ¬ ((lv : Nat) : Int) < (u : Int) := by omega
              go_wp2_with fail
              go_loop [7] (fun l => ∃ j : Nat, j ≤ lv ∧ l = .int .i64 j ∧ Hid (down dn count j = down dn count lv)) (fun l => (intOf l).toNat)
              case atStart => exact ⟨lv, Nat.le_refl _, rfl, Lib.hid rfl⟩
              case round =>
                obtain ⟨j, hj, rfl, HJ⟩ := hrel
                by_cases hj0 : j = 0
                · have HZ : Hid (down dn count j = j) := Lib.hid (by rw [hj0]; rfl)
                  have hg1 : decide ((0 : Int) < (j : Int)) = false := decide_eq_false (by omega)
                  have hg2 : decide (0 < j) = false := decide_eq_false (by omega)
                  clear hj0
                  go_wp2_with fail
                  go_ret
                  exact ⟨by rw [HE.out, ← HX.out, ← HJ.out, HZ.out]; rfl, hA1⟩
                · obtain ⟨i, rfl⟩ : ∃ i, j = i + 1 := ⟨j - 1, by omega⟩
                  obtain ⟨bb, off, rfl, _, d1⟩ := H2'.out.get (i := i) (by omega)
                  have hi2 : i < n2 := by omega
                  by_cases hc2 : count < at_ dn i
                  · have HH := Lib.hid (down_yes hc2)
                    go_wp2_with fail
                    go_round
                    case rel => exact ⟨i, by omega, by go_num, Lib.hid (by rw [← HH.out, HJ.out])⟩
                    case measure => simp [intOf]
                  · have HH := Lib.hid (down_no hc2)
                    go_wp2_with fail
                    go_ret
                    exact ⟨by rw [HE.out, ← HX.out, ← HJ.out, HH.out]; rfl, hA1⟩
      · have hlv0 : level = (lv : Int) := by have h7 : clamp n1 level = level.toNat := by { rw [clamp, if_neg h0, if_neg h3] }; omega
        subst hlv0
        clear hlv
        go_enter Try.func17, Try.ntmps17
        go_wp2_with fail
        refine (Check_any p A1 A2 A3 n1 n2 n3 c1 c2 c3 up dn pt _ H1.out H2.out H3.out).mono ?_
        rintro e w1 ⟨rfl, hb1⟩
        have hA1 := upB hA0 hb1
        obtain ⟨b0, b1', b2, b3⟩ := (HBx.out.next hb1).cells4
        rw [HC.out, hc]
        have H1' := Lib.hid (H1.out.up hb1)
        have H2' := Lib.hid (H2.out.up hb1)
        go_wp2_with fail
        go_loop [8, 9] (fun g i => ∃ k : Nat, k ≤ n1 ∧ i = .int .i64 ((k : Int) + 1) ∧ g = .int .i64 (upto up count k : Nat)) (fun _ i => n1 + 1 - (intOf i).toNat)
        case atStart => exact ⟨0, Nat.zero_le _, rfl, rfl⟩
        case round =>
          obtain ⟨k, hk, rfl, rfl⟩ := hrel
          by_cases hlt : k < n1
          · obtain ⟨bb, off, rfl, _, d1⟩ := H1'.out.get hlt
            have hlI : (k : Int) + 1 ≤ (n1 : Int) := by omega
            by_cases hc2 : at_ up k ≤ count
            · have HH := Lib.hid (upto_yes hc2)
              go_wp2_with fail
              go_round
              case rel => exact ⟨k + 1, by omega, by go_num, by rw [HH.out]; go_num⟩
              case measure => simp [intOf]; omega
            · have HH := Lib.hid (upto_no hc2)
              go_wp2_with fail
              go_round
              case rel => exact ⟨k + 1, by omega, by go_num, by rw [HH.out]⟩
              case measure => simp [intOf]; omega
          · have hlI : ¬ (k : Int) + 1 ≤ (n1 : Int) := by omega
            have HUk : Hid (upto up count k = u) := Lib.hid (by have : k = n1 := by { omega }; rw [this]; exact HU.out)
            rw [HUk.out]
            clear hlt hk
            by_cases hcmp : lv < u
            · have HX : Hid (nx ⟨p, up, dn, pt⟩ (lv : Int) count = u) := Lib.hid (by rw [HN.out, if_pos hcmp])
              have hci : ((lv : Nat) : Int) < (u : Int) := by omega
              go_wp2_with fail
              go_ret
              exact ⟨by rw [HE.out, HX.out]; rfl, hA1⟩
            · have HX : Hid (down dn count lv = nx ⟨p, up, dn, pt⟩ (lv : Int) count) := Lib.hid (by rw [HN.out, if_neg hcmp])
              have hci : ¬ ((lv : Nat) : Int) < (u : Int) := by omega
              go_wp2_with fail
              go_loop [7] (fun l => ∃ j : Nat, j ≤ lv ∧ l = .int .i64 j ∧ Hid (down dn count j = down dn count lv)) (fun l => (intOf l).toNat)
              case atStart => exact ⟨lv, Nat.le_refl _, rfl, Lib.hid rfl⟩
              case round =>
                obtain ⟨j, hj, rfl, HJ⟩ := hrel
                by_cases hj0 : j = 0
                · have HZ : Hid (down dn count j = j) := Lib.hid (by rw [hj0]; rfl)
                  have hg1 : decide ((0 : Int) < (j : Int)) = false := decide_eq_false (by omega)
                  have hg2 : decide (0 < j) = false := decide_eq_false (by omega)
                  clear hj0
                  go_wp2_with fail
                  go_ret
                  exact ⟨by rw [HE.out, ← HX.out, ← HJ.out, HZ.out]; rfl, hA1⟩
                · obtain ⟨i, rfl⟩ : ∃ i, j = i + 1 := ⟨j - 1, by omega⟩
                  obtain ⟨bb, off, rfl, _, d1⟩ := H2'.out.get (i := i) (by omega)
                  have hi2 : i < n2 := by omega
                  by_cases hc2 : count < at_ dn i
                  · have HH := Lib.hid (down_yes hc2)
                    go_wp2_with fail
                    go_round
                    case rel => exact ⟨i, by omega, by go_num, Lib.hid (by rw [← HH.out, HJ.out])⟩
                    case measure => simp [intOf]
                  · have HH := Lib.hid (down_no hc2)
                    go_wp2_with fail
                    go_ret
                    exact ⟨by rw [HE.out, ← HX.out, ← HJ.out, HH.out]; rfl, hA1⟩
  · have HE : Hid (nxS ⟨p, up, dn, pt⟩ level count = 0) := Lib.hid (by rw [HP.out, if_pos hc])
    have e1 : (ch == 0) = false := by simp [hc]
    have e2 : (ch != 0) = true := by simp [hc]
    go_enter Try.func17, Try.ntmps17
    go_wp2_with fail
    refine (Check_any p A1 A2 A3 n1 n2 n3 c1 c2 c3 up dn pt _ H1.out H2.out H3.out).mono ?_
    rintro e w1 ⟨rfl, hb1⟩
    have hA1 := upB hA0 hb1
    obtain ⟨b0, b1', b2, b3⟩ := (HBx.out.next hb1).cells4
    rw [HC.out]
    clear hc
    go_wp2_with fail
    go_ret
    exact ⟨by rw [HE.out]; rfl, hA1⟩
end Go.Proofs.Ytcobolmagjlbeaa.Wk
