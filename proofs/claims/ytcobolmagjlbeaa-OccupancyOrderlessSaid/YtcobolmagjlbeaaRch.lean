/- The contract of the reference's Check. Conditions: the slices read as lists. -/
import Derived.Test.YtcobolmagjlbeaaChk
namespace Go.Proofs.Ytcobolmagjlbeaa.Wk
open Go.RowKit
open Go.Proofs.Ytcobolmagjlbeaa.Mt

set_option maxHeartbeats 4000000 in
set_option maxRecDepth 100000 in
theorem Check_any (p : Int) (A1 A2 A3 : Option Addr) (n1 n2 n3 c1 c2 c3 : Nat) (up dn pt : List Int) (w : World) (h1 : Ri w w.heap.size A1 n1 up) (h2 : Ri w w.heap.size A2 n2 dn) (h3 : Ri w w.heap.size A3 n3 pt) :
    Calls Try.prog 13 #[.agg #[.int .i64 p, .slice A1 n1 c1, .slice A2 n2 c2, .slice A3 n3 c3]] w fun e w' => e = .returned (.int .i64 (chS ⟨p, up, dn, pt⟩)) ∧ Below w.heap.size w w' := by
  have hn := h1.2.1
  have hl1 : up.length = n1 := h1.1
  have hl2 : dn.length = n2 := h2.1
  have hl3 : pt.length = n3 := h3.1
  have hA0 := b1 w (.cells #[.int .i64 p, .slice A1 n1 c1, .slice A2 n2 c2, .slice A3 n3 c3] 24)
  have HBx := Lib.hid (Bx.new w 24 #[.int .i64 p, .slice A1 n1 c1, .slice A2 n2 c2, .slice A3 n3 c3])
  have H1 := Lib.hid (h1.up hA0)
  have H2 := Lib.hid (h2.up hA0)
  have H3 := Lib.hid (h3.up hA0)
  clear h1 h2 h3
  by_cases g8 : 8 < n1
  · have HH := Lib.hid (ch_long (s := ⟨p, up, dn, pt⟩) (by simp only; omega))
    clear hl1 hl2 hl3
    go_enter Try.func13, Try.ntmps13
    go_wp2_with fail
    go_ret
    exact ⟨by rw [HH.out]; rfl, hA0⟩
  · by_cases g1 : p < 1
    · have HH := Lib.hid (ch_arg (s := ⟨p, up, dn, pt⟩) (by simp only; omega) (by simp only; omega))
      clear hl1 hl2 hl3
      go_enter Try.func13, Try.ntmps13
      go_wp2_with fail
      go_ret
      exact ⟨by rw [HH.out]; rfl, hA0⟩
    · by_cases g2 : 86400 < p
      · have HH := Lib.hid (ch_arg (s := ⟨p, up, dn, pt⟩) (by simp only; omega) (by simp only; omega))
        clear hl1 hl2 hl3
        go_enter Try.func13, Try.ntmps13
        go_wp2_with fail
        go_ret
        exact ⟨by rw [HH.out]; rfl, hA0⟩
      · by_cases g3 : n2 = n1
        · subst g3
          by_cases g4 : n3 = n2 + 1
          · subst g4
            have HC1 : Hid (fb (bad ⟨p, up, dn, pt⟩) 0 (n2 - 0) ≠ 0 → chS ⟨p, up, dn, pt⟩ = fb (bad ⟨p, up, dn, pt⟩) 0 (n2 - 0)) := Lib.hid (fun h => by have := ch_one (s := ⟨p, up, dn, pt⟩) (by simp only; omega) (by simp only; omega) (by simp only [hl1]; exact h); simp only [hl1] at this; exact this)
            have HC2 : Hid (fb (bad ⟨p, up, dn, pt⟩) 0 (n2 - 0) = 0 → chS ⟨p, up, dn, pt⟩ = fb (bad2 ⟨p, up, dn, pt⟩) 0 (n2 + 1 - 0)) := Lib.hid (fun h => by have := ch_two (s := ⟨p, up, dn, pt⟩) (by simp only; omega) (by simp only; omega) (by simp only [hl1]; exact h); simp only [hl3] at this; exact this)
            have e1 : ((n2 : Int) == (n2 : Int)) = true := by simp
            have e2 : ((n2 : Int) != (n2 : Int)) = false := by simp
            have e3 : ((n2 : Int) + 1 == (n2 : Int) + 1) = true := by simp
            have e4 : ((n2 : Int) + 1 != (n2 : Int) + 1) = false := by simp
            have g8' : decide ((8 : Int) < (n2 : Int)) = false := by simp; omega
            have g1' : decide (p < 1) = false := decide_eq_false g1
            have g2' : decide (86400 < p) = false := decide_eq_false g2
            clear hl1 hl2 hl3
            go_enter Try.func13, Try.ntmps13
            go_wp2_with fail
            clear e1 e2 e3 e4
            go_loopw [3] (fun i wr => ∃ k : Nat, k ≤ n2 ∧ i = .int .i64 k ∧ Below (w.alloc (.cells #[.int .i64 p, .slice A1 n2 c1, .slice A2 n2 c2, .slice A3 (n2 + 1) c3] 24)).heap.size (w.alloc (.cells #[.int .i64 p, .slice A1 n2 c1, .slice A2 n2 c2, .slice A3 (n2 + 1) c3] 24)) wr ∧ Hid (fb (bad ⟨p, up, dn, pt⟩) k (n2 - k) = fb (bad ⟨p, up, dn, pt⟩) 0 (n2 - 0))) (fun i _ => n2 - (intOf i).toNat)
            case atStart => exact ⟨0, Nat.zero_le _, rfl, Below.refl _ _, Lib.hid rfl⟩
            case round =>
              obtain ⟨k, hk, rfl, hb, HB⟩ := hrel
              have hA1 := upB hA0 hb
              obtain ⟨b0, b1', b2, b3⟩ := (HBx.out.next hb).cells4
              by_cases hlt : k < n2
              · obtain ⟨bu, ou, rfl, _, d1⟩ := (H1.out.up hb).get hlt
                obtain ⟨bd, od, rfl, _, d2⟩ := (H2.out.up hb).get hlt
                have hltI : (k : Int) < (n2 : Int) := by omega
                by_cases hA : at_ dn k < 0 ∨ at_ up k ≤ at_ dn k ∨ 2147483648 < at_ up k
                · have HE : Hid (chS ⟨p, up, dn, pt⟩ = 1) := Lib.hid (by have h7 := bad_arg (s := ⟨p, up, dn, pt⟩) hA; have h8 : fb (bad ⟨p, up, dn, pt⟩) 0 (n2 - 0) = 1 := by { rw [← HB.out, fb_hit hlt (by rw [h7]; omega), h7] }; rw [HC1.out (by rw [h8]; omega), h8])
                  by_cases q1 : at_ dn k < 0
                  · clear hA
                    go_wp2_with fail
                    go_quiet (fail)
                    go_wp2_with fail
                    go_ret
                    exact ⟨by rw [HE.out]; rfl, below_drewN hA1 _⟩
                  · have q1' : decide (at_ dn k < 0) = false := decide_eq_false q1
                    by_cases q2 : at_ up k ≤ at_ dn k
                    · clear hA
                      go_wp2_with fail
                      go_quiet (fail)
                      go_wp2_with fail
                      go_ret
                      exact ⟨by rw [HE.out]; rfl, below_drewN hA1 _⟩
                    · have q2' : decide (at_ up k ≤ at_ dn k) = false := decide_eq_false q2
                      have q3 : 2147483648 < at_ up k := by omega
                      clear hA
                      go_wp2_with fail
                      go_quiet (fail)
                      go_wp2_with fail
                      go_ret
                      exact ⟨by rw [HE.out]; rfl, below_drewN hA1 _⟩
                · have q1' : decide (at_ dn k < 0) = false := decide_eq_false (by omega)
                  have q2' : decide (at_ up k ≤ at_ dn k) = false := decide_eq_false (by omega)
                  have q3' : decide (2147483648 < at_ up k) = false := decide_eq_false (by omega)
                  by_cases hO : 0 < k ∧ (at_ up k ≤ at_ up (k - 1) ∨ at_ dn k ≤ at_ dn (k - 1))
                  · have HE : Hid (chS ⟨p, up, dn, pt⟩ = 15) := Lib.hid (by have h7 := bad_order (s := ⟨p, up, dn, pt⟩) hA hO; have h8 : fb (bad ⟨p, up, dn, pt⟩) 0 (n2 - 0) = 15 := by { rw [← HB.out, fb_hit hlt (by rw [h7]; omega), h7] }; rw [HC1.out (by rw [h8]; omega), h8])
                    obtain ⟨j, rfl⟩ : ∃ j, k = j + 1 := ⟨k - 1, by omega⟩
                    have d3 := (H1.out.up hb).two (i := j) (by omega)
                    have d4 := (H2.out.up hb).two (i := j) (by omega)
                    have hO2 : at_ up (j + 1) ≤ at_ up j ∨ at_ dn (j + 1) ≤ at_ dn j := hO.2
                    have E1 := Lib.hid (IntWalk.i64_in ((j : Int) + 1 - 1) (by omega))
                    have E2 : Hid ((j : Int) + 1 - 1 = j) := Lib.hid (by omega)
                    have hgd : decide ((0 : Int) < (j : Int) + 1) = true := decide_eq_true (by omega)
                    have hln : (j : Int) < (n2 : Int) := by omega
                    clear hO hA
                    by_cases q4 : at_ up (j + 1) ≤ at_ up j
                    · clear hO2
                      go_wp2_with fail
                      go_quiet (fail)
                      go_wp2_with fail
                      have e1 := E1.out
                      rw [E2.out] at e1
                      go_quiet (fail)
                      clear e1
                      go_wp2_with fail
                      go_ret
                      exact ⟨by rw [HE.out]; rfl, below_drewN (below_drewN hA1 _) _⟩
                    · have q4' : decide (at_ up (j + 1) ≤ at_ up j) = false := decide_eq_false q4
                      have q5 : at_ dn (j + 1) ≤ at_ dn j := by omega
                      clear hO2
                      go_wp2_with fail
                      go_quiet (fail)
                      go_wp2_with fail
                      have e1 := E1.out
                      rw [E2.out] at e1
                      go_quiet (fail)
                      clear e1
                      go_wp2_with fail
                      go_ret
                      exact ⟨by rw [HE.out]; rfl, below_drewN (below_drewN hA1 _) _⟩
                  · have HB2 : Hid (fb (bad ⟨p, up, dn, pt⟩) (k + 1) (n2 - (k + 1)) = fb (bad ⟨p, up, dn, pt⟩) 0 (n2 - 0)) := Lib.hid (by rw [fb_step hlt (bad_ok (s := ⟨p, up, dn, pt⟩) hA hO), HB.out])
                    by_cases hk0 : k = 0
                    · have hgd : decide ((0 : Int) < (k : Int)) = false := decide_eq_false (by omega)
                      have hgn : decide (0 < k) = false := decide_eq_false (by omega)
                      clear hO hA hk0
                      go_wp2_with fail
                      go_quiet (fail)
                      go_wp2_with fail
                      go_quiet (fail)
                      go_wp2_with fail
                      go_roundw
                      case rel => exact ⟨k + 1, by omega, by go_num, below_drewN hb _, HB2⟩
                      case measure => simp [intOf]; omega
                    · obtain ⟨j, rfl⟩ : ∃ j, k = j + 1 := ⟨k - 1, by omega⟩
                      have d3 := (H1.out.up hb).two (i := j) (by omega)
                      have d4 := (H2.out.up hb).two (i := j) (by omega)
                      have q4' : decide (at_ up (j + 1) ≤ at_ up j) = false := decide_eq_false (fun h => hO ⟨by omega, .inl h⟩)
                      have q5' : decide (at_ dn (j + 1) ≤ at_ dn j) = false := decide_eq_false (fun h => hO ⟨by omega, .inr h⟩)
                      have E1 := Lib.hid (IntWalk.i64_in ((j : Int) + 1 - 1) (by omega))
                      have E2 : Hid ((j : Int) + 1 - 1 = j) := Lib.hid (by omega)
                      have hgd : decide ((0 : Int) < (j : Int) + 1) = true := decide_eq_true (by omega)
                      have hln : (j : Int) < (n2 : Int) := by omega
                      clear hO hA hk0
                      go_wp2_with fail
                      go_quiet (fail)
                      go_wp2_with fail
                      have e1 := E1.out
                      rw [E2.out] at e1
                      go_quiet (fail)
                      clear e1
                      go_wp2_with fail
                      go_roundw
                      case rel => exact ⟨j + 1 + 1, by omega, by go_num, below_drewN hb _, HB2⟩
                      case measure => simp [intOf]; omega
              · have HZ : Hid (fb (bad2 ⟨p, up, dn, pt⟩) 0 (n2 + 1 - 0) = chS ⟨p, up, dn, pt⟩) := Lib.hid (HC2.out (by rw [← HB.out, fb_end (by omega)])).symm
                obtain ⟨wo, rfl⟩ : ∃ wo : World, wo = wr := ⟨_, rfl⟩
                go_wp2_with fail
                go_loopw [4] (fun i wr => ∃ k2 : Nat, k2 ≤ n2 + 1 ∧ i = .int .i64 k2 ∧ Below wo.heap.size wo wr ∧ Hid (fb (bad2 ⟨p, up, dn, pt⟩) k2 (n2 + 1 - k2) = chS ⟨p, up, dn, pt⟩)) (fun i _ => n2 + 1 - (intOf i).toNat)
                case atStart => exact ⟨0, Nat.zero_le _, rfl, Below.refl _ _, HZ⟩
                case round =>
                  obtain ⟨k2, hk2, rfl, hb2, HB2⟩ := hrel
                  have hA2 := upB hA1 hb2
                  obtain ⟨f0, f1, f2, f3⟩ := ((HBx.out.next hb).next hb2).cells4
                  by_cases hlt2 : k2 < n2 + 1
                  · obtain ⟨bp, op, rfl, _, d5⟩ := ((H3.out.up hb).up hb2).get hlt2
                    have hlt2I : (k2 : Int) < (n2 : Int) + 1 := by omega
                    by_cases hP : at_ pt k2 < 0 ∨ 10000 < at_ pt k2
                    · have HE : Hid (chS ⟨p, up, dn, pt⟩ = 1) := Lib.hid (by have h7 := bad2_arg (s := ⟨p, up, dn, pt⟩) hP; rw [← HB2.out, fb_hit hlt2 (by rw [h7]; omega), h7])
                      by_cases q1 : at_ pt k2 < 0
                      · clear hP
                        go_wp2_with fail
                        go_ret
                        exact ⟨by rw [HE.out]; rfl, hA2⟩
                      · have q1' : decide (at_ pt k2 < 0) = false := decide_eq_false q1
                        have q2 : 10000 < at_ pt k2 := by omega
                        clear hP
                        go_wp2_with fail
                        go_ret
                        exact ⟨by rw [HE.out]; rfl, hA2⟩
                    · have HB3 : Hid (fb (bad2 ⟨p, up, dn, pt⟩) (k2 + 1) (n2 + 1 - (k2 + 1)) = chS ⟨p, up, dn, pt⟩) := Lib.hid (by rw [fb_step hlt2 (bad2_ok (s := ⟨p, up, dn, pt⟩) hP), HB2.out])
                      have q1' : decide (at_ pt k2 < 0) = false := decide_eq_false (by omega)
                      have q2' : decide (10000 < at_ pt k2) = false := decide_eq_false (by omega)
                      clear hP
                      go_wp2_with fail
                      go_roundw
                      case rel => exact ⟨k2 + 1, by omega, by go_num, hb2, HB3⟩
                      case measure => simp [intOf]; omega
                  · have HE : Hid (chS ⟨p, up, dn, pt⟩ = 0) := Lib.hid (by rw [← HB2.out, fb_end (by omega)])
                    go_wp2_with fail
                    go_ret
                    exact ⟨by rw [HE.out]; rfl, hA2⟩
          · have HH := Lib.hid (ch_arg (s := ⟨p, up, dn, pt⟩) (by simp only; omega) (by simp only; omega))
            have e1 : ((n2 : Int) == (n2 : Int)) = true := by simp
            have e2 : ((n2 : Int) != (n2 : Int)) = false := by simp
            have e3 : ((n3 : Int) == (n2 : Int) + 1) = false := by simp; omega
            have e4 : ((n3 : Int) != (n2 : Int) + 1) = true := by simp; omega
            clear hl1 hl2 hl3 g4
            go_enter Try.func13, Try.ntmps13
            go_wp2_with fail
            go_ret
            exact ⟨by rw [HH.out]; rfl, hA0⟩
        · have HH := Lib.hid (ch_arg (s := ⟨p, up, dn, pt⟩) (by simp only; omega) (by simp only; omega))
          have e1 : ((n2 : Int) == (n1 : Int)) = false := by simp; omega
          have e2 : ((n2 : Int) != (n1 : Int)) = true := by simp; omega
          clear hl1 hl2 hl3 g3
          go_enter Try.func13, Try.ntmps13
          go_wp2_with fail
          go_ret
          exact ⟨by rw [HH.out]; rfl, hA0⟩
end Go.Proofs.Ytcobolmagjlbeaa.Wk
