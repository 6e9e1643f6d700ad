/- The contract of the reference's Check, over any rules. Conditions: the slice reads as the list of rules. -/
import Derived.Test.YtmclbcfcbocnhaaChk
set_option linter.unusedSimpArgs false
set_option linter.unusedVariables false
namespace Go.Proofs.Ytmclbcfcbocnhaa.Wk
open Go.RowKit
open Go.Proofs.Ytmclbcfcbocnhaa.Mt

theorem Known_yes (c : Int) (w : World) (h : 1 ≤ c ∧ c ≤ 9) : Calls Try.prog 21 #[.int .i64 c] w fun e w' => e = .returned (.bool true) ∧ w = w' :=
  (Known_any c w).mono fun e w' ⟨h1, h2⟩ => ⟨by rw [h1, decide_eq_true h], h2⟩
theorem Known_no (c : Int) (w : World) (h : ¬ (1 ≤ c ∧ c ≤ 9)) : Calls Try.prog 21 #[.int .i64 c] w fun e w' => e = .returned (.bool false) ∧ w = w' :=
  (Known_any c w).mono fun e w' ⟨h1, h2⟩ => ⟨by rw [h1, decide_eq_false h], h2⟩

theorem saw_yes {rs : List Rule} {k j : Nat} (h : j < k) (e : (at_ rs j).2.2 = (at_ rs k).2.2) : saw rs k (at_ rs k).2.2 = true := by
  simp only [saw, decide_eq_true_eq]; exact ⟨j, h, e⟩
theorem saw_no {rs : List Rule} {k : Nat} {c : Int} (h : ∀ j, j < k → (at_ rs j).2.2 ≠ c) : saw rs k c = false := by
  simp only [saw, decide_eq_false_iff_not]; rintro ⟨i, hi, e⟩; exact h i hi e

theorem Rl.at_ {w : World} {B b off n : Nat} {rs : List Rule} (h : Rl w B (some ⟨b, off, none⟩) n rs) {i : Nat} (hi : i < n) :
    w.cell? ⟨b, off + i * 3, none⟩ = some (.int .i64 (at_ rs i).1) ∧ w.cell? ⟨b, off + i * 3 + 1, none⟩ = some (.int .i64 (at_ rs i).2.1) ∧ w.cell? ⟨b, off + i * 3 + 2, none⟩ = some (.int .i64 (at_ rs i).2.2) := by
  obtain ⟨b', off', e, _, hc⟩ := h.2.2 (by omega)
  injection e with e
  injection e with e1 e2
  subst e1 e2
  exact hc i hi

set_option maxRecDepth 100000 in
theorem Check_any (A : Option Addr) (n c : Nat) (rs : List Rule) (w : World) (h : Rl w w.heap.size A n rs) :
    Calls Try.prog 11 #[.slice A n c] w fun e w' => e = .returned (.int .i64 (chS rs)) ∧ Below w.heap.size w w' := by
  have hn := h.2.1
  have HL := Lib.hid h.1
  have HR := Lib.hid h
  clear h
  by_cases h9 : 9 < n
  · have HC : Hid (chS rs = 3) := Lib.hid (ch_long (by rw [HL.out]; exact h9))
    go_enter Try.func11, Try.ntmps11
    go_wp2
    go_ret
    exact ⟨by rw [HC.out]; rfl, Below.refl _ _⟩
  · have HC : Hid (chS rs = fb (bad rs) 0 (n - 0)) := Lib.hid (by rw [ch_short (by rw [HL.out]; exact h9), HL.out])
    have h9' : decide ((9 : Int) < (n : Int)) = false := by simp; omega
    go_enter Try.func11, Try.ntmps11
    go_wp2
    go_loopw [3] (fun i wr => ∃ k : Nat, k ≤ n ∧ i = .int .i64 k ∧ Below w.heap.size w wr ∧ Hid (fb (bad rs) k (n - k) = chS rs)) (fun i _ => n - (intOf i).toNat)
    case atStart => exact ⟨0, Nat.zero_le _, rfl, Below.refl _ _, Lib.hid HC.out.symm⟩
    case round =>
      obtain ⟨k, hk, rfl, hb, HB⟩ := hrel
      obtain ⟨wo, rfl⟩ : ∃ wo : World, wo = wr := ⟨_, rfl⟩
      by_cases hlt : k < n
      · obtain ⟨b, off, rfl, hbB, hc⟩ := (HR.out.below hb (Nat.le_refl _)).2.2 (by omega)
        obtain ⟨c1, c2, c3⟩ := hc k hlt
        have hltI : (k : Int) < (n : Int) := by omega
        have hlen : k < rs.length := by rw [HL.out]; omega
        by_cases hA : (at_ rs k).1 < 1 ∨ (at_ rs k).2.1 < (at_ rs k).1 ∨ 20 < (at_ rs k).2.1
        · have HE : Hid (chS rs = 1) := Lib.hid (by rw [← HB.out, fb_hit hlt (by rw [bad_arg hA]; omega), bad_arg hA])
          clear hc
          by_cases g1 : (at_ rs k).1 < 1
          · clear hA
            go_wp2
            go_quiet (fail)
            go_wp2
            go_ret
            exact ⟨by rw [HE.out]; rfl, below_drewN hb _⟩
          · have g1' : decide ((at_ rs k).1 < 1) = false := decide_eq_false g1
            by_cases g2 : (at_ rs k).2.1 < (at_ rs k).1
            · clear hA
              go_wp2
              go_quiet (fail)
              go_wp2
              go_ret
              exact ⟨by rw [HE.out]; rfl, below_drewN hb _⟩
            · have g2' : decide ((at_ rs k).2.1 < (at_ rs k).1) = false := decide_eq_false g2
              have g3 : 20 < (at_ rs k).2.1 := by omega
              clear hA
              go_wp2
              go_quiet (fail)
              go_wp2
              go_ret
              exact ⟨by rw [HE.out]; rfl, below_drewN hb _⟩
        · have g1 : ¬ (at_ rs k).1 < 1 := by omega
          have g2 : ¬ (at_ rs k).2.1 < (at_ rs k).1 := by omega
          have g3 : ¬ 20 < (at_ rs k).2.1 := by omega
          have g1' : decide ((at_ rs k).1 < 1) = false := decide_eq_false g1
          have g2' : decide ((at_ rs k).2.1 < (at_ rs k).1) = false := decide_eq_false g2
          have g3' : decide (20 < (at_ rs k).2.1) = false := decide_eq_false g3
          by_cases hK : 1 ≤ (at_ rs k).2.2 ∧ (at_ rs k).2.2 ≤ 9
          · by_cases hO : 0 < k ∧ (at_ rs k).1 ≤ (at_ rs (k - 1)).2.1
            · have HE : Hid (chS rs = 15) := Lib.hid (by rw [← HB.out, fb_hit hlt (by rw [bad_order hA hK hO]; omega), bad_order hA hK hO])
              obtain ⟨j, rfl⟩ : ∃ j, k = j + 1 := ⟨k - 1, by omega⟩
              obtain ⟨_, c4, _⟩ := hc j (by omega)
              have hO2 : (at_ rs (j + 1)).1 ≤ (at_ rs j).2.1 := hO.2
              have KK := Lib.hid hK
              have e1 : IntKind.i64.wrap ((j : Int) + 1 - 1) = (j : Int) := by rw [IntWalk.i64_in _ (by omega), Int.add_sub_cancel]
              have E1 := Lib.hid e1
              have hgd : decide ((0 : Int) < (j : Int) + 1) = true := decide_eq_true (by omega)
              have hln : (j : Int) < (n : Int) := by omega
              clear hc hA hO hK e1
              go_wp2
              go_quiet (fail)
              go_wp2_with (go_at_call 21; refine (Known_yes _ _ KK.out).mono ?_; rintro e w' ⟨rfl, rfl⟩)
              have e1 := E1.out
              go_quiet (fail)
              clear e1
              go_wp2
              go_ret
              exact ⟨by rw [HE.out]; rfl, below_drewN (below_drewN hb _) _⟩
            · have HB1 : Hid (saw rs k (at_ rs k).2.2 = true → chS rs = 9) := Lib.hid (fun hs => by
                have h0 := bad_last hA hK hO
                rw [if_pos hs] at h0
                rw [← HB.out, fb_hit hlt (by rw [h0]; omega), h0])
              have HB2 : Hid (saw rs k (at_ rs k).2.2 = false → fb (bad rs) (k + 1) (n - (k + 1)) = chS rs) := Lib.hid (fun hs => by
                have h0 := bad_last hA hK hO
                rw [if_neg (by rw [hs]; simp)] at h0
                rw [fb_step hlt h0, HB.out])
              have KK := Lib.hid hK
              by_cases hk0 : k = 0
              · have hgd : decide ((0 : Int) < (k : Int)) = false := by simp; omega
                have hgn : decide (0 < k) = false := by simp; omega
                clear hc hA hO hK hk0
                go_wp2
                go_quiet (fail)
                go_wp2_with (go_at_call 21; refine (Known_yes _ _ KK.out).mono ?_; rintro e w' ⟨rfl, rfl⟩)
                go_quiet (fail)
                go_wp2
                go_loopw [4] (fun i wr => ∃ jj : Nat, jj ≤ k ∧ i = .int .i64 jj ∧ Below w.heap.size w wr ∧ Hid (∀ i, i < jj → (at_ rs i).2.2 ≠ (at_ rs (k)).2.2)) (fun i _ => (k) - (intOf i).toNat)
                case atStart => exact ⟨0, Nat.zero_le _, rfl, below_drewN (below_drewN hb _) _, Lib.hid (fun i hi => by omega)⟩
                case round =>
                  obtain ⟨j2, hj, rfl, hb2, HA⟩ := hrel
                  obtain ⟨_, _, d3⟩ := (HR.out.below hb2 (Nat.le_refl _)).at_ hlt
                  by_cases hjk : j2 < k
                  · obtain ⟨_, _, d4⟩ := (HR.out.below hb2 (Nat.le_refl _)).at_ (i := j2) (by omega)
                    have hj2n : (j2 : Int) < (n : Int) := by omega
                    by_cases he : (at_ rs j2).2.2 = (at_ rs (k)).2.2
                    · have HE := Lib.hid (HB1.out (saw_yes hjk he))
                      have gg : ((at_ rs j2).2.2 == (at_ rs (k)).2.2) = true := by simpa using he
                      clear he
                      go_wp2
                      go_quiet (fail)
                      go_wp2
                      go_ret
                      exact ⟨by rw [HE.out]; rfl, below_drewN hb2 _⟩
                    · have HX : Hid (∀ i, i < j2 + 1 → (at_ rs i).2.2 ≠ (at_ rs (k)).2.2) := Lib.hid (by
                        intro i hi
                        rcases Nat.lt_or_ge i j2 with h1 | h1
                        · exact HA.out i h1
                        · have : i = j2 := by omega
                          subst this; exact he)
                      have gg : ((at_ rs j2).2.2 == (at_ rs (k)).2.2) = false := by simpa using he
                      clear he
                      go_wp2
                      go_quiet (fail)
                      go_wp2
                      go_roundw
                      case rel => exact ⟨j2 + 1, by omega, by go_num, below_drewN hb2 _, HX⟩
                      case measure => simp [intOf]; omega
                  · have hjk2 : k = j2 := by omega
                    have HX := Lib.hid (HB2.out (saw_no (by intro i hi; exact HA.out i (by omega))))
                    subst hjk2
                    go_wp2
                    go_roundw
                    case rel => exact ⟨k + 1, by omega, by go_num, hb2, HX⟩
                    case measure => simp [intOf]; omega
              · obtain ⟨j, rfl⟩ : ∃ j, k = j + 1 := ⟨k - 1, by omega⟩
                obtain ⟨_, c4, _⟩ := hc j (by omega)
                have hO2 : ¬ (at_ rs (j + 1)).1 ≤ (at_ rs j).2.1 := by
                  intro h; exact hO ⟨by omega, h⟩
                have e1 : IntKind.i64.wrap ((j : Int) + 1 - 1) = (j : Int) := by rw [IntWalk.i64_in _ (by omega), Int.add_sub_cancel]
                have E1 := Lib.hid e1
                have hgd : decide ((0 : Int) < (j : Int) + 1) = true := decide_eq_true (by omega)
                have hln : (j : Int) < (n : Int) := by omega
                clear hc hA hO hK hk0 e1
                go_wp2
                go_quiet (fail)
                go_wp2_with (go_at_call 21; refine (Known_yes _ _ KK.out).mono ?_; rintro e w' ⟨rfl, rfl⟩)
                have e1 := E1.out
                go_quiet (fail)
                clear e1
                go_wp2
                go_loopw [4] (fun i wr => ∃ jj : Nat, jj ≤ j + 1 ∧ i = .int .i64 jj ∧ Below w.heap.size w wr ∧ Hid (∀ i, i < jj → (at_ rs i).2.2 ≠ (at_ rs (j + 1)).2.2)) (fun i _ => (j + 1) - (intOf i).toNat)
                case atStart => exact ⟨0, Nat.zero_le _, rfl, below_drewN (below_drewN hb _) _, Lib.hid (fun i hi => by omega)⟩
                case round =>
                  obtain ⟨j2, hj, rfl, hb2, HA⟩ := hrel
                  obtain ⟨_, _, d3⟩ := (HR.out.below hb2 (Nat.le_refl _)).at_ hlt
                  by_cases hjk : j2 < j + 1
                  · obtain ⟨_, _, d4⟩ := (HR.out.below hb2 (Nat.le_refl _)).at_ (i := j2) (by omega)
                    have hj2n : (j2 : Int) < (n : Int) := by omega
                    by_cases he : (at_ rs j2).2.2 = (at_ rs (j + 1)).2.2
                    · have HE := Lib.hid (HB1.out (saw_yes hjk he))
                      have gg : ((at_ rs j2).2.2 == (at_ rs (j + 1)).2.2) = true := by simpa using he
                      clear he
                      go_wp2
                      go_quiet (fail)
                      go_wp2
                      go_ret
                      exact ⟨by rw [HE.out]; rfl, below_drewN hb2 _⟩
                    · have HX : Hid (∀ i, i < j2 + 1 → (at_ rs i).2.2 ≠ (at_ rs (j + 1)).2.2) := Lib.hid (by
                        intro i hi
                        rcases Nat.lt_or_ge i j2 with h1 | h1
                        · exact HA.out i h1
                        · have : i = j2 := by omega
                          subst this; exact he)
                      have gg : ((at_ rs j2).2.2 == (at_ rs (j + 1)).2.2) = false := by simpa using he
                      clear he
                      go_wp2
                      go_quiet (fail)
                      go_wp2
                      go_roundw
                      case rel => exact ⟨j2 + 1, by omega, by go_num, below_drewN hb2 _, HX⟩
                      case measure => simp [intOf]; omega
                  · have hjk2 : j + 1 = j2 := by omega
                    have HX := Lib.hid (HB2.out (saw_no (by intro i hi; exact HA.out i (by omega))))
                    subst hjk2
                    go_wp2
                    go_roundw
                    case rel => exact ⟨j + 1 + 1, by omega, by go_num, hb2, HX⟩
                    case measure => simp [intOf]; omega
          · have HE : Hid (chS rs = 20) := Lib.hid (by rw [← HB.out, fb_hit hlt (by rw [bad_class hA hK]; omega), bad_class hA hK])
            have KK := Lib.hid hK
            clear hc hA hK
            go_wp2
            go_quiet (fail)
            go_wp2_with (go_at_call 21; refine (Known_no _ _ KK.out).mono ?_; rintro e w' ⟨rfl, rfl⟩)
            go_ret
            exact ⟨by rw [HE.out]; rfl, below_drewN hb _⟩
      · have HE : Hid (chS rs = 0) := Lib.hid (by rw [← HB.out, fb_end (by omega)])
        go_wp2
        go_ret
        exact ⟨by rw [HE.out]; rfl, hb⟩
end Go.Proofs.Ytmclbcfcbocnhaa.Wk
