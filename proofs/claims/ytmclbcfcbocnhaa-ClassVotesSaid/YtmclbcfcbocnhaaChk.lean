/- The contracts of class.Check and of its reference, over any rules. Conditions: the slice reads as the list of rules. -/
import Derived.Test.YtmclbcfcbocnhaaMaj
import Derived.IntWalk
set_option linter.unusedSimpArgs false
set_option linter.unusedVariables false
namespace Go.Proofs.Ytmclbcfcbocnhaa.Wk
open Go.RowKit
open Go.Proofs.Ytmclbcfcbocnhaa.Mt

theorem known_yesI (c : Int) (w : World) (h : 1 ≤ c ∧ c ≤ 9) : Calls Try.prog 20 #[.int .i64 c] w fun e w' => e = .returned (.bool true) ∧ w = w' :=
  (known_any c w).mono fun e w' ⟨h1, h2⟩ => ⟨by rw [h1, decide_eq_true h], h2⟩

theorem seen_set {w : World} {g : Nat} {rs : List Rule} {k d : Nat} (h : Ten w g 45 (fun j => .bool (saw rs k j))) (e : (at_ rs k).2.2 = (d : Int)) :
    Ten (w.setCell ⟨g, d, none⟩ (.bool true)) g 45 (fun j => .bool (saw rs (k + 1) j)) := by
  refine (h.set_ d _).congr fun j _ => ?_
  by_cases hj : j = d
  · subst hj
    simp only [if_true]
    rw [← e, saw_same]
  · simp only [if_neg hj]
    rw [saw_other (by rw [e]; omega)]

theorem Ten.drewN {w : World} {g : Nat} {t : TypeId} {f : Nat → Value} (h : Ten w g t f) (m : Nat) : Ten (w.drewN m) g t f := h

theorem check_any (A : Option Addr) (n c : Nat) (rs : List Rule) (w : World) (h : Rl w w.heap.size A n rs) :
    Calls Try.prog 10 #[.slice A n c] w fun e w' => e = .returned (.int .i64 (chS rs)) ∧ Below w.heap.size w w' := by
  have hn := h.2.1
  have HL := Lib.hid h.1
  have HR := Lib.hid h
  clear h
  by_cases h9 : 9 < n
  · have HC : Hid (chS rs = 3) := Lib.hid (ch_long (by rw [HL.out]; exact h9))
    go_enter Try.func10, Try.ntmps10
    go_wp2
    go_ret
    exact ⟨by rw [HC.out]; rfl, Below.refl _ _⟩
  · have HC : Hid (chS rs = fb (bad rs) 0 (n - 0)) := Lib.hid (by rw [ch_short (by rw [HL.out]; exact h9), HL.out])
    have h9' : decide ((9 : Int) < (n : Int)) = false := by simp; omega
    go_enter Try.func10, Try.ntmps10
    go_wp2
    go_loopw [11] (fun i wr => ∃ k : Nat, k ≤ n ∧ i = .int .i64 k ∧ Below w.heap.size w wr ∧ Hid (Ten wr w.heap.size 45 (fun j => .bool (saw rs k j))) ∧ Hid (fb (bad rs) k (n - k) = chS rs)) (fun i _ => n - (intOf i).toNat)
    case atStart => exact ⟨0, Nat.zero_le _, rfl, (Below.refl _ _).alloc (Nat.le_refl _) _, Lib.hid (Ten.new _ _ _ _ (by simp [saw_zero]; rfl)), Lib.hid HC.out.symm⟩
    case round =>
      obtain ⟨k, hk, rfl, hb, H, HB⟩ := hrel
      by_cases hlt : k < n
      · obtain ⟨b, off, rfl, hbB, hc⟩ := (HR.out.below hb (Nat.le_refl _)).2.2 (by omega)
        obtain ⟨c1, c2, c3⟩ := hc k hlt
        have hlen : k < rs.length := by rw [HL.out]; omega
        by_cases hA : (at_ rs k).1 < 1 ∨ (at_ rs k).2.1 < (at_ rs k).1 ∨ 20 < (at_ rs k).2.1
        · have HE : Hid (chS rs = 1) := Lib.hid (by rw [← HB.out, fb_hit hlt (by rw [bad_arg hA]; omega), bad_arg hA])
          clear hc
          by_cases g1 : (at_ rs k).1 < 1
          · clear hA
            go_wp2
            go_ret
            exact ⟨by rw [HE.out]; rfl, hb.alloc hb.size _⟩
          · by_cases g2 : (at_ rs k).2.1 < (at_ rs k).1
            · clear hA
              go_wp2
              go_ret
              exact ⟨by rw [HE.out]; rfl, hb.alloc hb.size _⟩
            · have g3 : 20 < (at_ rs k).2.1 := by omega
              clear hA
              go_wp2
              go_ret
              exact ⟨by rw [HE.out]; rfl, hb.alloc hb.size _⟩
        · have g1 : ¬ (at_ rs k).1 < 1 := by omega
          have g2 : ¬ (at_ rs k).2.1 < (at_ rs k).1 := by omega
          have g3 : ¬ 20 < (at_ rs k).2.1 := by omega
          by_cases hK : 1 ≤ (at_ rs k).2.2 ∧ (at_ rs k).2.2 ≤ 9
          · by_cases hO : 0 < k ∧ (at_ rs k).1 ≤ (at_ rs (k - 1)).2.1
            · have HE : Hid (chS rs = 15) := Lib.hid (by rw [← HB.out, fb_hit hlt (by rw [bad_order hA hK hO]; omega), bad_order hA hK hO])
              obtain ⟨j, rfl⟩ : ∃ j, k = j + 1 := ⟨k - 1, by omega⟩
              obtain ⟨_, c4, _⟩ := hc j (by omega)
              have hO2 : (at_ rs (j + 1)).1 ≤ (at_ rs j).2.1 := hO.2
              have KK := Lib.hid hK
              clear hc hA hO hK
              go_wp2_with (go_at_call 20; refine (known_yesI _ _ KK.out).mono ?_; rintro e w' ⟨rfl, rfl⟩)
              have hbw : b < wr.heap.size := Nat.lt_of_lt_of_le hbB hb.size
              have e1 : IntKind.i64.wrap ((j : Int) + 1 - 1) = (j : Int) := by rw [IntWalk.i64_in _ (by omega)]; simp
              have hgd : decide ((0 : Int) < (j : Int) + 1) = true := decide_eq_true (by omega)
              have hln : (j : Int) < (n : Int) := by omega
              go_quiet (fail)
              clear e1
              go_wp2
              go_ret
              exact ⟨by rw [HE.out]; rfl, below_drewN (hb.alloc hb.size _) _⟩
            · obtain ⟨d, hd⟩ : ∃ d : Nat, (at_ rs k).2.2 = (d : Int) := ⟨(at_ rs k).2.2.toNat, by omega⟩
              have hd9 : 1 ≤ d ∧ d ≤ 9 := by omega
              have hd1 : (1 : Int) ≤ (d : Int) := by omega
              have hd2 : (d : Int) ≤ 9 := by omega
              have hd3 : d < 10 := by omega
              have HS := Lib.hid hd
              have HB1 : Hid (saw rs k d = true → chS rs = 9) := Lib.hid (fun hs => by
                have h0 := bad_last hA hK hO
                rw [hd, if_pos hs] at h0
                rw [← HB.out, fb_hit hlt (by rw [h0]; omega), h0])
              have HB2 : Hid (saw rs k d = false → fb (bad rs) (k + 1) (n - (k + 1)) = chS rs) := Lib.hid (fun hs => by
                have h0 := bad_last hA hK hO
                rw [hd, if_neg (by rw [hs]; simp)] at h0
                rw [fb_step hlt h0, HB.out])
              have c5 := H.out.cell hd3
              have c6 := H.out.frozen d
              have hbw : b < wr.heap.size := Nat.lt_of_lt_of_le hbB hb.size
              have hNw : w.heap.size < wr.heap.size := H.out.lt
              rw [hd] at c3
              by_cases hk0 : k = 0
              · have hgd : decide ((0 : Int) < (k : Int)) = false := by simp; omega
                have hgn : decide (0 < k) = false := by simp; omega
                clear hc hA hO hK hk0 hd
                cases hs : saw rs k d
                · have HX := Lib.hid (HB2.out hs)
                  rw [hs] at c5
                  clear hs
                  go_wp2_with (go_at_call 20; refine (known_yes _ _ hd9).mono ?_; rintro e w' ⟨rfl, rfl⟩)
                  go_quiet (fail)
                  go_wp2
                  go_roundw
                  case rel => exact ⟨k + 1, by omega, by go_num, (below_drewN (hb.alloc hb.size _) _).setCell (Nat.le_refl _) _, Lib.hid (seen_set ((H.out.alloc _).drewN _) HS.out), HX⟩
                  case measure => simp [intOf]; omega
                · have HX := Lib.hid (HB1.out hs)
                  rw [hs] at c5
                  clear hs
                  go_wp2_with (go_at_call 20; refine (known_yes _ _ hd9).mono ?_; rintro e w' ⟨rfl, rfl⟩)
                  go_quiet (fail)
                  go_wp2
                  go_ret
                  exact ⟨by rw [HX.out]; rfl, below_drewN (hb.alloc hb.size _) _⟩
              · obtain ⟨j, rfl⟩ : ∃ j, k = j + 1 := ⟨k - 1, by omega⟩
                obtain ⟨_, c4, _⟩ := hc j (by omega)
                have hO2 : ¬ (at_ rs (j + 1)).1 ≤ (at_ rs j).2.1 := by
                  intro h; exact hO ⟨by omega, h⟩
                have e1 : IntKind.i64.wrap ((j : Int) + 1 - 1) = (j : Int) := by rw [IntWalk.i64_in _ (by omega), Int.add_sub_cancel]
                have hgd : decide ((0 : Int) < (j : Int) + 1) = true := decide_eq_true (by omega)
                have hln : (j : Int) < (n : Int) := by omega
                have E1 := Lib.hid e1
                clear hc hA hO hK hk0 hd e1
                cases hs : saw rs (j + 1) d
                · have HX := Lib.hid (HB2.out hs)
                  rw [hs] at c5
                  clear hs
                  go_wp2_with (go_at_call 20; refine (known_yes _ _ hd9).mono ?_; rintro e w' ⟨rfl, rfl⟩)
                  have e1 := E1.out
                  go_quiet (fail)
                  clear e1
                  go_wp2
                  go_roundw
                  case rel => exact ⟨j + 1 + 1, by omega, by go_num, (below_drewN (hb.alloc hb.size _) _).setCell (Nat.le_refl _) _, Lib.hid (seen_set ((H.out.alloc _).drewN _) HS.out), HX⟩
                  case measure => simp [intOf]; omega
                · have HX := Lib.hid (HB1.out hs)
                  rw [hs] at c5
                  clear hs
                  go_wp2_with (go_at_call 20; refine (known_yes _ _ hd9).mono ?_; rintro e w' ⟨rfl, rfl⟩)
                  have e1 := E1.out
                  go_quiet (fail)
                  clear e1
                  go_wp2
                  go_ret
                  exact ⟨by rw [HX.out]; rfl, below_drewN (hb.alloc hb.size _) _⟩
          · have HE : Hid (chS rs = 20) := Lib.hid (by rw [← HB.out, fb_hit hlt (by rw [bad_class hA hK]; omega), bad_class hA hK])
            have KK := Lib.hid hK
            clear hc hA hK
            go_wp2_with (go_at_call 20; refine (known_no _ _ KK.out).mono ?_; rintro e w' ⟨rfl, rfl⟩)
            go_ret
            exact ⟨by rw [HE.out]; rfl, hb.alloc hb.size _⟩
      · have HE : Hid (chS rs = 0) := Lib.hid (by rw [← HB.out, fb_end (by omega)])
        go_wp2
        go_ret
        exact ⟨by rw [HE.out]; rfl, hb⟩
end Go.Proofs.Ytmclbcfcbocnhaa.Wk
