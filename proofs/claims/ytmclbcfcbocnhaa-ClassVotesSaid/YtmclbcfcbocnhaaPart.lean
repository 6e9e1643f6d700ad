/- The walk of the law ClassPartition. Conditions: the slice reads as a list of rules. -/
import Derived.Test.YtmclbcfcbocnhaaLaw
import Derived.Test.YtmclbcfcbocnhaaPmath
set_option linter.unusedSimpArgs false
set_option linter.unusedVariables false
namespace Go.Proofs.Ytmclbcfcbocnhaa.Wk
open Go.RowKit
open Go.Proofs.Ytmclbcfcbocnhaa.Mt

set_option maxHeartbeats 1000000 in
set_option maxRecDepth 100000 in
theorem partition_law (A : Option Addr) (n c : Nat) (rs : List Rule) (w : World) (h : Rl w w.heap.size A n rs) :
    Calls Try.prog 7 #[.slice A n c] w fun e w' => e = .returned (.bool true) ∧ Below w.heap.size w w' := by
  have hn := h.2.1
  have HR := Lib.hid h
  clear h
  by_cases h30 : 30 < n
  · go_enter Try.func7, Try.ntmps7
    go_wp2_with (refine (awake_any _).mono ?_; rintro e w1 ⟨rfl, hb1⟩)
    go_ret
    exact ⟨rfl, hb1⟩
  · have h30' : decide ((30 : Int) < (n : Int)) = false := by simp; omega
    by_cases hv : chS rs = 0
    · have HV := Lib.hid hv
      clear hv
      go_enter Try.func7, Try.ntmps7
      go_wp2_with fail
      refine (check_any A n c rs _ HR.out).mono ?_
      rintro e w1 ⟨he, hb1⟩
      rw [HV.out] at he
      subst he
      go_wp2_with fail
      go_loopw [3] (fun i wr => ∃ x : Nat, x ≤ 22 ∧ i = .int .i64 x ∧ Below w.heap.size w wr) (fun i _ => 22 - (intOf i).toNat)
      case atStart => exact ⟨0, by omega, rfl, hb1⟩
      case round =>
        obtain ⟨x, hx, rfl, hb⟩ := hrel
        obtain ⟨wo, rfl⟩ : ∃ wo : World, wo = wr := ⟨_, rfl⟩
        clear hb1
        by_cases hlt : x < 22
        · rcases of_two HV.out x with ⟨d, hd1, hd9, ho⟩ | ho
          · have HO := Lib.hid ho
            clear ho
            go_wp2_with fail
            refine (of_any A n c x rs _ (HR.out.up hb)).mono ?_
            rintro e w2 ⟨he, hb2⟩
            rw [HO.out] at he
            subst he
            have hB2 := hb.trans (hb2.mono hb.size)
            clear hb2 hb
            go_wp2_with fail
            go_loopw [6, 7] (fun s i wr => ∃ k : Nat, 1 ≤ k ∧ k ≤ 10 ∧ i = .int .i64 k ∧ s = .int .i64 (if d < k then 1 else 0) ∧ Below w.heap.size w wr) (fun _ i _ => 10 - (intOf i).toNat)
            case atStart => exact ⟨1, by omega, by omega, rfl, by rw [if_neg (by omega)], hB2⟩
            case round =>
              obtain ⟨k, hk1, hk, rfl, rfl, hb3⟩ := hrel
              clear hB2
              by_cases hlk : k < 10
              · obtain ⟨⟨s, t, u⟩, hr⟩ : ∃ z, raS (k : Int) rs = z := ⟨_, rfl⟩
                have HP := partn HV.out x (k : Int)
                rw [hr, HO.out] at HP
                have HQ := Lib.hid hr
                clear hr
                by_cases hdk : d = k
                · subst hdk
                  obtain ⟨hu, hs, ht⟩ := HP.2 rfl
                  simp only at hu hs ht
                  subst hu
                  have hns : ¬ (x : Int) < s := by omega
                  have hnt : ¬ t < (x : Int) := by omega
                  rw [if_neg (by omega)]
                  clear HP hs ht
                  go_wp2_with fail
                  refine (range_any A n c d rs _ (HR.out.up hb3)).mono ?_
                  rintro e w4 ⟨he, hb4⟩
                  rw [HQ.out] at he
                  subst he
                  have hB4 := hb3.trans (hb4.mono hb3.size)
                  clear hb4 hb3
                  go_wp2_with fail
                  go_roundw
                  case rel => exact ⟨d + 1, by omega, by omega, by go_num, by rw [if_pos (by omega)], hB4⟩
                  case measure => simp [intOf]; omega
                · have hne : ((d : Int) == (k : Int)) = false := by simp; omega
                  have hni : ¬ (u = true ∧ s ≤ (x : Int) ∧ (x : Int) ≤ t) := by
                    intro hh
                    have := HP.1 hh
                    injection this with h1 h2
                    omega
                  have HI : Hid ((if d < k then (1 : Int) else 0) = if d < k + 1 then 1 else 0) := Lib.hid (by
                    by_cases h : d < k
                    · rw [if_pos h, if_pos (by omega)]
                    · rw [if_neg h, if_neg (by omega)])
                  obtain ⟨z, hz⟩ : ∃ z : Int, (if d < k then (1 : Int) else 0) = z := ⟨_, rfl⟩
                  rw [hz] at HI
                  rw [hz]
                  clear hz HP hdk
                  cases u
                  · clear hni
                    go_wp2_with fail
                    refine (range_any A n c k rs _ (HR.out.up hb3)).mono ?_
                    rintro e w4 ⟨he, hb4⟩
                    rw [HQ.out] at he
                    subst he
                    have hB4 := hb3.trans (hb4.mono hb3.size)
                    clear hb4 hb3
                    go_wp2_with fail
                    go_roundw
                    case rel => exact ⟨k + 1, by omega, by omega, by go_num, by rw [HI.out], hB4⟩
                    case measure => simp [intOf]; omega
                  · by_cases hxs : (x : Int) < s
                    · clear hni
                      go_wp2_with fail
                      refine (range_any A n c k rs _ (HR.out.up hb3)).mono ?_
                      rintro e w4 ⟨he, hb4⟩
                      rw [HQ.out] at he
                      subst he
                      have hB4 := hb3.trans (hb4.mono hb3.size)
                      clear hb4 hb3
                      go_wp2_with fail
                      go_roundw
                      case rel => exact ⟨k + 1, by omega, by omega, by go_num, by rw [HI.out], hB4⟩
                      case measure => simp [intOf]; omega
                    · have hxt : t < (x : Int) := by
                        rcases Int.lt_or_le t (x : Int) with h | h
                        · exact h
                        · exact absurd ⟨rfl, by omega, h⟩ hni
                      clear hni
                      go_wp2_with fail
                      refine (range_any A n c k rs _ (HR.out.up hb3)).mono ?_
                      rintro e w4 ⟨he, hb4⟩
                      rw [HQ.out] at he
                      subst he
                      have hB4 := hb3.trans (hb4.mono hb3.size)
                      clear hb4 hb3
                      go_wp2_with fail
                      go_roundw
                      case rel => exact ⟨k + 1, by omega, by omega, by go_num, by rw [HI.out], hB4⟩
                      case measure => simp [intOf]; omega
              · have hk10 : k = 10 := by omega
                subst hk10
                rw [if_pos (by omega)]
                go_wp2_with fail
                go_roundw
                case rel => exact ⟨x + 1, by omega, by go_num, hb3⟩
                case measure => simp [intOf]; omega
          · have HO := Lib.hid ho
            clear ho
            go_wp2_with fail
            refine (of_any A n c x rs _ (HR.out.up hb)).mono ?_
            rintro e w2 ⟨he, hb2⟩
            rw [HO.out] at he
            subst he
            have hB2 := hb.trans (hb2.mono hb.size)
            clear hb2 hb
            go_wp2_with fail
            go_loopw [6, 7] (fun s i wr => ∃ k : Nat, 1 ≤ k ∧ k ≤ 10 ∧ i = .int .i64 k ∧ s = .int .i64 0 ∧ Below w.heap.size w wr) (fun _ i _ => 10 - (intOf i).toNat)
            case atStart => exact ⟨1, by omega, by omega, rfl, rfl, hB2⟩
            case round =>
              obtain ⟨k, hk1, hk, rfl, rfl, hb3⟩ := hrel
              clear hB2
              by_cases hlk : k < 10
              · obtain ⟨⟨s, t, u⟩, hr⟩ : ∃ z, raS (k : Int) rs = z := ⟨_, rfl⟩
                have HP := partn HV.out x (k : Int)
                rw [hr, HO.out] at HP
                have HQ := Lib.hid hr
                clear hr
                have hni : ¬ (u = true ∧ s ≤ (x : Int) ∧ (x : Int) ≤ t) := by
                  intro hh
                  have := HP.1 hh
                  injection this with h1 h2
                  omega
                clear HP
                cases u
                · clear hni
                  go_wp2_with fail
                  refine (range_any A n c k rs _ (HR.out.up hb3)).mono ?_
                  rintro e w4 ⟨he, hb4⟩
                  rw [HQ.out] at he
                  subst he
                  have hB4 := hb3.trans (hb4.mono hb3.size)
                  clear hb4 hb3
                  go_wp2_with fail
                  go_roundw
                  case rel => exact ⟨k + 1, by omega, by omega, by go_num, rfl, hB4⟩
                  case measure => simp [intOf]; omega
                · by_cases hxs : (x : Int) < s
                  · clear hni
                    go_wp2_with fail
                    refine (range_any A n c k rs _ (HR.out.up hb3)).mono ?_
                    rintro e w4 ⟨he, hb4⟩
                    rw [HQ.out] at he
                    subst he
                    have hB4 := hb3.trans (hb4.mono hb3.size)
                    clear hb4 hb3
                    go_wp2_with fail
                    go_roundw
                    case rel => exact ⟨k + 1, by omega, by omega, by go_num, rfl, hB4⟩
                    case measure => simp [intOf]; omega
                  · have hxt : t < (x : Int) := by
                      rcases Int.lt_or_le t (x : Int) with h | h
                      · exact h
                      · exact absurd ⟨rfl, by omega, h⟩ hni
                    clear hni
                    go_wp2_with fail
                    refine (range_any A n c k rs _ (HR.out.up hb3)).mono ?_
                    rintro e w4 ⟨he, hb4⟩
                    rw [HQ.out] at he
                    subst he
                    have hB4 := hb3.trans (hb4.mono hb3.size)
                    clear hb4 hb3
                    go_wp2_with fail
                    go_roundw
                    case rel => exact ⟨k + 1, by omega, by omega, by go_num, rfl, hB4⟩
                    case measure => simp [intOf]; omega
              · have hk10 : k = 10 := by omega
                subst hk10
                go_wp2_with fail
                go_roundw
                case rel => exact ⟨x + 1, by omega, by go_num, hb3⟩
                case measure => simp [intOf]; omega
        · go_wp2_with (refine (awake_any _).mono ?_; rintro e w5 ⟨rfl, hb5⟩)
          go_ret
          exact ⟨rfl, hb.trans (hb5.mono hb.size)⟩
    · have hv' : (chS rs == 0) = false := by simpa using hv
      obtain ⟨z, hz⟩ : ∃ z, chS rs = z := ⟨_, rfl⟩
      rw [hz] at hv' hv
      have HV := Lib.hid hz
      clear hz hv
      go_enter Try.func7, Try.ntmps7
      go_wp2_with fail
      refine (check_any A n c rs _ HR.out).mono ?_
      rintro e w1 ⟨he, hb1⟩
      rw [HV.out] at he
      subst he
      go_wp2_with (refine (awake_any _).mono ?_; rintro e w2 ⟨rfl, hb2⟩)
      go_ret
      exact ⟨rfl, hb1.trans (hb2.mono hb1.size)⟩
end Go.Proofs.Ytmclbcfcbocnhaa.Wk
