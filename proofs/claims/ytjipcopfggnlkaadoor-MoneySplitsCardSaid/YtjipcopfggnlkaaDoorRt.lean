/- Ratio in the layer, walked. Conditions: the numbers are machine integers. -/
import Derived.Test.YtjipcopfggnlkaaDoorRa
set_option linter.unusedSimpArgs false
set_option linter.unusedVariables false
namespace Go.Proofs.YtjipcopfggnlkaaDoor.Wk
open Go.RowKit
open Go.Proofs.YtjipcopfggnlkaaDoor.Mt
theorem q_big {hi lo d : Nat} (hd : 0 < d) (h : d ≤ hi) : 18446744073709551616 ≤ (hi * 18446744073709551616 + lo) / d := by
  rw [Nat.le_div_iff_mul_le hd, Nat.mul_comm]
  exact Nat.le_trans (Nat.mul_le_mul_right _ h) (Nat.le_add_right _ _)
theorem q_small {hi lo d : Nat} (h : hi < d) (hlo : lo < 18446744073709551616) : (hi * 18446744073709551616 + lo) / d < 18446744073709551616 := by
  rw [Nat.div_lt_iff_lt_mul (Nat.lt_of_le_of_lt (Nat.zero_le _) h), Nat.mul_comm _ d]
  have h1 : hi * 18446744073709551616 + lo < hi * 18446744073709551616 + 18446744073709551616 := Nat.add_lt_add_left hlo _
  rw [← Nat.succ_mul] at h1
  exact Nat.lt_of_lt_of_le h1 (Nat.mul_le_mul_right _ h)
set_option maxHeartbeats 8000000 in
set_option maxRecDepth 100000 in
theorem ratio18 (n num den mode E V : Int) (w : World) (hn : In64 n) (hnum : In64 num) (hden : In64 den) (hE : raE n num den mode = E) (hV : raV n num den mode = V) : Calls Tryd.prog 18 #[.int .i64 n, .int .i64 num, .int .i64 den, .int .i64 mode] w fun e w' => e = .returned (.tuple #[.int .i64 V, .int .i64 E]) ∧ Below w.heap.size w w' := by
  have HE := Lib.hid hE
  have HV := Lib.hid hV
  have HN := Lib.hid hn
  have HNUM := Lib.hid hnum
  have HDEN := Lib.hid hden
  clear hE hV hn hnum hden
  go_enter Tryd.func18, Tryd.ntmps18
  go_wp2_with fail
  refine (fits16 n w).mono ?_
  rintro e w1 ⟨rfl, hw⟩
  rw [hw]
  clear hw
  rcases fot (fitB n) with hf | hf
  · obtain rfl : (13 : Int) = E := (ra_fit hf).symm.trans HE.out
    obtain rfl : (0 : Int) = V := (ra_no (by rw [HE.out]; decide)).symm.trans HV.out
    rw [hf]
    go_wp2_with fail
    go_ret2
    exact ⟨rfl, Below.refl _ _⟩
  · rw [hf]
    by_cases hm : mode ≠ 1 ∧ mode ≠ 2 ∧ mode ≠ 3
    · obtain rfl : (1 : Int) = E := (ra_mode hf hm).symm.trans HE.out
      obtain rfl : (0 : Int) = V := (ra_no (by rw [HE.out]; decide)).symm.trans HV.out
      have m1 : (mode != 1) = true := by simp [hm.1]
      have m2 : (mode != 2) = true := by simp [hm.2.1]
      have m3 : (mode != 3) = true := by simp [hm.2.2]
      go_wp2_with fail
      go_ret2
      exact ⟨rfl, Below.refl _ _⟩
    · have HF := Lib.hid hf
      have hm' : mode = 1 ∨ mode = 2 ∨ mode = 3 := by omega
      clear hm hf
      rcases hm' with rfl | rfl | rfl
      · as_aux_lemma =>
          by_cases hd : den = 0
          · obtain rfl : (14 : Int) = E := (ra_zero HF.out (by omega) hd).symm.trans HE.out
            obtain rfl : (0 : Int) = V := (ra_no (by rw [HE.out]; decide)).symm.trans HV.out
            have hd1 : (den == 0) = true := by simp [hd]
            go_wp2_with fail
            go_ret2
            exact ⟨rfl, Below.refl _ _⟩
          · have hd1 : (den == 0) = false := by simp [hd]
            have HD0 := Lib.hid hd
            obtain ⟨d, hdd⟩ : ∃ d, den.natAbs = d := ⟨_, rfl⟩
            obtain ⟨a, ha⟩ : ∃ a, n.natAbs = a := ⟨_, rfl⟩
            obtain ⟨b, hb⟩ : ∃ b, num.natAbs = b := ⟨_, rfl⟩
            have hdpos : 0 < d := by omega
            have hd64 : d < 18446744073709551616 := by have := HDEN.out; unfold In64 at this; omega
            have hbl : b < 18446744073709551616 := by have := HNUM.out; unfold In64 at this; omega
            have hal : a ≤ 1125899906842624 := by have := (fit_iff n).1 HF.out; omega
            have HDD := Lib.hid hdd
            have HA := Lib.hid ha
            have HBB := Lib.hid hb
            clear hd hdd ha hb
            go_wp2_with fail
            refine (size29 den d w HDEN.out HDD.out).mono ?_
            rintro e w2 ⟨rfl, hw⟩
            rw [hw]
            clear hw hd1
            go_wp2_with fail
            refine (size29 n a w HN.out HA.out).mono ?_
            rintro e w2 ⟨rfl, hw⟩
            rw [hw]
            clear hw
            go_wp2_with fail
            refine (size29 num b w HNUM.out HBB.out).mono ?_
            rintro e w2 ⟨rfl, hw⟩
            rw [hw]
            clear hw
            go_wp2_with fail
            refine (Any.bits_Mul64 Tryd.laysMul a b (by omega) hbl w).mono ?_
            rintro e w2 ⟨rfl, hw⟩
            rw [hw]
            clear hw
            obtain ⟨hi, hhi⟩ : ∃ x, a * b / 18446744073709551616 = x := ⟨_, rfl⟩
            obtain ⟨lo, hlo⟩ : ∃ x, a * b % 18446744073709551616 = x := ⟨_, rfl⟩
            obtain ⟨Q, hQ⟩ : ∃ x, a * b / d = x := ⟨_, rfl⟩
            obtain ⟨R, hR⟩ : ∃ x, a * b % d = x := ⟨_, rfl⟩
            have hlo64 : lo < 18446744073709551616 := by rw [← hlo]; exact Nat.mod_lt _ (by decide)
            have hab : hi * 18446744073709551616 + lo = a * b := by rw [← hhi, ← hlo, Nat.mul_comm]; exact Nat.div_add_mod _ _
            have HQ : Hid ((hi * 18446744073709551616 + lo) / d = Q) := Lib.hid (by rw [hab]; exact hQ)
            have HR : Hid ((hi * 18446744073709551616 + lo) % d = R) := Lib.hid (by rw [hab]; exact hR)
            have hRd : R < d := by rw [← hR]; exact Nat.mod_lt _ hdpos
            rw [hhi, hlo]
            by_cases hbig : d ≤ hi
            · have hbI : (d : Int) ≤ (hi : Int) := by omega
              have hQb : 18446744073709551616 ≤ Q := by rw [← HQ.out]; exact q_big hdpos hbig
              obtain rfl : (13 : Int) = E := (ra_big HF.out (by omega) HD0.out (by unfold raQ; rw [HA.out, HBB.out, HDD.out, hQ]; omega)).symm.trans HE.out
              obtain rfl : (0 : Int) = V := (ra_no (by rw [HE.out]; decide)).symm.trans HV.out
              clear hhi hlo hQ hR hab hQb hlo64
              go_wp2_with fail
              go_ret2
              exact ⟨rfl, Below.refl _ _⟩
            · have hbI : ¬ (d : Int) ≤ (hi : Int) := by omega
              have hQ64 : Q < 18446744073709551616 := by rw [← HQ.out]; exact q_small (by omega) hlo64
              have HQA : Hid (n.natAbs * num.natAbs / den.natAbs = Q ∧ n.natAbs * num.natAbs % den.natAbs = R) := Lib.hid (by rw [HA.out, HBB.out, HDD.out]; exact ⟨hQ, hR⟩)
              clear hhi hlo hQ hR hab
              go_wp2_with fail
              refine (div31 hi lo d Q R w (by omega) hlo64 hd64 HQ.out HR.out).mono ?_
              rintro e w2 ⟨rfl, hb⟩
              have HB := Lib.hid hb
              clear hb hbI hbig
              by_cases hqm : 1125899906842624 < Q
              · have hqI : (1125899906842624 : Int) < (Q : Int) := by omega
                obtain rfl : (13 : Int) = E := (ra_big HF.out (by omega) HD0.out (by unfold raQ; rw [HQA.out.1]; omega)).symm.trans HE.out
                obtain rfl : (0 : Int) = V := (ra_no (by rw [HE.out]; decide)).symm.trans HV.out
                go_wp2_with fail
                go_ret2
                exact ⟨rfl, HB.out⟩
              · have hqI : ¬ (1125899906842624 : Int) < (Q : Int) := by omega
                have W1 : IntKind.i64.wrap (Q : Int) = (Q : Int) := IntWalk.i64_in _ (by omega)
                go_wp2_with fail
                clear hqI
                refine (away32 Q R d _ w2 hQ64 hRd hd64).mono ?_
                rintro e w3 ⟨rfl, hw⟩
                rw [hw]
                clear hw
                have HAW : Hid (∀ m : Int, raQ n num den m = Q + (if awB Q R d m then 1 else 0)) := Lib.hid (fun m => by unfold raQ; rw [HQA.out.1, HQA.out.2, HDD.out])
                rcases fot (awB Q R d 1) with haw | haw
                · rw [haw]
                  have HRQ : Hid (raQ n num den 1 = Q) := Lib.hid (by rw [HAW.out, haw]; rfl)
                  clear haw
                  go_wp2_with fail
                  refine (fits16 (Q : Int) w2).mono ?_
                  rintro e w4 ⟨rfl, hw⟩
                  rw [hw]
                  clear hw
                  rcases fot (fitB (Q : Int)) with hg | hg
                  · obtain rfl : (13 : Int) = E := (ra_big HF.out (by omega) HD0.out (by rw [HRQ.out]; have := (fit_no _).1 hg; omega)).symm.trans HE.out
                    obtain rfl : (0 : Int) = V := (ra_no (by rw [HE.out]; decide)).symm.trans HV.out
                    rw [hg]
                    go_wp2_with fail
                    go_ret2
                    exact ⟨rfl, HB.out⟩
                  · have hok := ra_ok (mode := 1) HF.out (by omega) HD0.out (by rw [HRQ.out]; have := (fit_iff _).1 hg; omega)
                    obtain rfl : (0 : Int) = E := hok.1.symm.trans HE.out
                    have hv := hok.2.symm.trans HV.out
                    rw [HRQ.out] at hv
                    have W9 : IntKind.i64.wrap (-(Q : Int)) = -(Q : Int) := IntWalk.i64_in _ (by omega)
                    rw [hg]
                    clear hok hg
                    rcases fot (decide (n < 0)) with d1 | d1 <;> rcases fot (decide (num < 0)) with d2 | d2 <;> rcases fot (decide (den < 0)) with d3 | d3
                    all_goals
                      first
                      | (have hs : neB n num den = false := (by unfold neB; rw [d1, d2, d3]; rfl)
                         rw [hs] at hv
                         obtain rfl : (Q : Int) = V := hv
                         clear hs
                         go_wp2_with fail
                         go_ret2
                         exact ⟨rfl, HB.out⟩)
                      | (have hs : neB n num den = true := (by unfold neB; rw [d1, d2, d3]; rfl)
                         rw [hs] at hv
                         obtain rfl : -(Q : Int) = V := hv
                         clear hs
                         go_wp2_with fail
                         go_ret2
                         exact ⟨rfl, HB.out⟩)
                · rw [haw]
                  have HRQ : Hid (raQ n num den 1 = Q + 1) := Lib.hid (by rw [HAW.out, haw]; rfl)
                  obtain ⟨Q1, hQ1⟩ : ∃ x, Q + 1 = x := ⟨_, rfl⟩
                  rw [hQ1] at HRQ
                  have W2 : IntKind.i64.wrap ((Q : Int) + 1) = (Q1 : Int) := by rw [IntWalk.i64_in _ (by omega)]; omega
                  have hQ1b : Q1 ≤ 1125899906842625 := by omega
                  clear hQ1
                  clear haw
                  go_wp2_with fail
                  refine (fits16 (Q1 : Int) w2).mono ?_
                  rintro e w4 ⟨rfl, hw⟩
                  rw [hw]
                  clear hw
                  rcases fot (fitB (Q1 : Int)) with hg | hg
                  · obtain rfl : (13 : Int) = E := (ra_big HF.out (by omega) HD0.out (by rw [HRQ.out]; have := (fit_no _).1 hg; omega)).symm.trans HE.out
                    obtain rfl : (0 : Int) = V := (ra_no (by rw [HE.out]; decide)).symm.trans HV.out
                    rw [hg]
                    go_wp2_with fail
                    go_ret2
                    exact ⟨rfl, HB.out⟩
                  · have hok := ra_ok (mode := 1) HF.out (by omega) HD0.out (by rw [HRQ.out]; have := (fit_iff _).1 hg; omega)
                    obtain rfl : (0 : Int) = E := hok.1.symm.trans HE.out
                    have hv := hok.2.symm.trans HV.out
                    rw [HRQ.out] at hv
                    have W9 : IntKind.i64.wrap (-(Q1 : Int)) = -(Q1 : Int) := IntWalk.i64_in _ (by omega)
                    rw [hg]
                    clear hok hg
                    rcases fot (decide (n < 0)) with d1 | d1 <;> rcases fot (decide (num < 0)) with d2 | d2 <;> rcases fot (decide (den < 0)) with d3 | d3
                    all_goals
                      first
                      | (have hs : neB n num den = false := (by unfold neB; rw [d1, d2, d3]; rfl)
                         rw [hs] at hv
                         obtain rfl : (Q1 : Int) = V := hv
                         clear hs
                         go_wp2_with fail
                         go_ret2
                         exact ⟨rfl, HB.out⟩)
                      | (have hs : neB n num den = true := (by unfold neB; rw [d1, d2, d3]; rfl)
                         rw [hs] at hv
                         obtain rfl : -(Q1 : Int) = V := hv
                         clear hs
                         go_wp2_with fail
                         go_ret2
                         exact ⟨rfl, HB.out⟩)
      · as_aux_lemma =>
          by_cases hd : den = 0
          · obtain rfl : (14 : Int) = E := (ra_zero HF.out (by omega) hd).symm.trans HE.out
            obtain rfl : (0 : Int) = V := (ra_no (by rw [HE.out]; decide)).symm.trans HV.out
            have hd1 : (den == 0) = true := by simp [hd]
            go_wp2_with fail
            go_ret2
            exact ⟨rfl, Below.refl _ _⟩
          · have hd1 : (den == 0) = false := by simp [hd]
            have HD0 := Lib.hid hd
            obtain ⟨d, hdd⟩ : ∃ d, den.natAbs = d := ⟨_, rfl⟩
            obtain ⟨a, ha⟩ : ∃ a, n.natAbs = a := ⟨_, rfl⟩
            obtain ⟨b, hb⟩ : ∃ b, num.natAbs = b := ⟨_, rfl⟩
            have hdpos : 0 < d := by omega
            have hd64 : d < 18446744073709551616 := by have := HDEN.out; unfold In64 at this; omega
            have hbl : b < 18446744073709551616 := by have := HNUM.out; unfold In64 at this; omega
            have hal : a ≤ 1125899906842624 := by have := (fit_iff n).1 HF.out; omega
            have HDD := Lib.hid hdd
            have HA := Lib.hid ha
            have HBB := Lib.hid hb
            clear hd hdd ha hb
            go_wp2_with fail
            refine (size29 den d w HDEN.out HDD.out).mono ?_
            rintro e w2 ⟨rfl, hw⟩
            rw [hw]
            clear hw hd1
            go_wp2_with fail
            refine (size29 n a w HN.out HA.out).mono ?_
            rintro e w2 ⟨rfl, hw⟩
            rw [hw]
            clear hw
            go_wp2_with fail
            refine (size29 num b w HNUM.out HBB.out).mono ?_
            rintro e w2 ⟨rfl, hw⟩
            rw [hw]
            clear hw
            go_wp2_with fail
            refine (Any.bits_Mul64 Tryd.laysMul a b (by omega) hbl w).mono ?_
            rintro e w2 ⟨rfl, hw⟩
            rw [hw]
            clear hw
            obtain ⟨hi, hhi⟩ : ∃ x, a * b / 18446744073709551616 = x := ⟨_, rfl⟩
            obtain ⟨lo, hlo⟩ : ∃ x, a * b % 18446744073709551616 = x := ⟨_, rfl⟩
            obtain ⟨Q, hQ⟩ : ∃ x, a * b / d = x := ⟨_, rfl⟩
            obtain ⟨R, hR⟩ : ∃ x, a * b % d = x := ⟨_, rfl⟩
            have hlo64 : lo < 18446744073709551616 := by rw [← hlo]; exact Nat.mod_lt _ (by decide)
            have hab : hi * 18446744073709551616 + lo = a * b := by rw [← hhi, ← hlo, Nat.mul_comm]; exact Nat.div_add_mod _ _
            have HQ : Hid ((hi * 18446744073709551616 + lo) / d = Q) := Lib.hid (by rw [hab]; exact hQ)
            have HR : Hid ((hi * 18446744073709551616 + lo) % d = R) := Lib.hid (by rw [hab]; exact hR)
            have hRd : R < d := by rw [← hR]; exact Nat.mod_lt _ hdpos
            rw [hhi, hlo]
            by_cases hbig : d ≤ hi
            · have hbI : (d : Int) ≤ (hi : Int) := by omega
              have hQb : 18446744073709551616 ≤ Q := by rw [← HQ.out]; exact q_big hdpos hbig
              obtain rfl : (13 : Int) = E := (ra_big HF.out (by omega) HD0.out (by unfold raQ; rw [HA.out, HBB.out, HDD.out, hQ]; omega)).symm.trans HE.out
              obtain rfl : (0 : Int) = V := (ra_no (by rw [HE.out]; decide)).symm.trans HV.out
              clear hhi hlo hQ hR hab hQb hlo64
              go_wp2_with fail
              go_ret2
              exact ⟨rfl, Below.refl _ _⟩
            · have hbI : ¬ (d : Int) ≤ (hi : Int) := by omega
              have hQ64 : Q < 18446744073709551616 := by rw [← HQ.out]; exact q_small (by omega) hlo64
              have HQA : Hid (n.natAbs * num.natAbs / den.natAbs = Q ∧ n.natAbs * num.natAbs % den.natAbs = R) := Lib.hid (by rw [HA.out, HBB.out, HDD.out]; exact ⟨hQ, hR⟩)
              clear hhi hlo hQ hR hab
              go_wp2_with fail
              refine (div31 hi lo d Q R w (by omega) hlo64 hd64 HQ.out HR.out).mono ?_
              rintro e w2 ⟨rfl, hb⟩
              have HB := Lib.hid hb
              clear hb hbI hbig
              by_cases hqm : 1125899906842624 < Q
              · have hqI : (1125899906842624 : Int) < (Q : Int) := by omega
                obtain rfl : (13 : Int) = E := (ra_big HF.out (by omega) HD0.out (by unfold raQ; rw [HQA.out.1]; omega)).symm.trans HE.out
                obtain rfl : (0 : Int) = V := (ra_no (by rw [HE.out]; decide)).symm.trans HV.out
                go_wp2_with fail
                go_ret2
                exact ⟨rfl, HB.out⟩
              · have hqI : ¬ (1125899906842624 : Int) < (Q : Int) := by omega
                have W1 : IntKind.i64.wrap (Q : Int) = (Q : Int) := IntWalk.i64_in _ (by omega)
                go_wp2_with fail
                clear hqI
                refine (away32 Q R d _ w2 hQ64 hRd hd64).mono ?_
                rintro e w3 ⟨rfl, hw⟩
                rw [hw]
                clear hw
                have HAW : Hid (∀ m : Int, raQ n num den m = Q + (if awB Q R d m then 1 else 0)) := Lib.hid (fun m => by unfold raQ; rw [HQA.out.1, HQA.out.2, HDD.out])
                rcases fot (awB Q R d 2) with haw | haw
                · rw [haw]
                  have HRQ : Hid (raQ n num den 2 = Q) := Lib.hid (by rw [HAW.out, haw]; rfl)
                  clear haw
                  go_wp2_with fail
                  refine (fits16 (Q : Int) w2).mono ?_
                  rintro e w4 ⟨rfl, hw⟩
                  rw [hw]
                  clear hw
                  rcases fot (fitB (Q : Int)) with hg | hg
                  · obtain rfl : (13 : Int) = E := (ra_big HF.out (by omega) HD0.out (by rw [HRQ.out]; have := (fit_no _).1 hg; omega)).symm.trans HE.out
                    obtain rfl : (0 : Int) = V := (ra_no (by rw [HE.out]; decide)).symm.trans HV.out
                    rw [hg]
                    go_wp2_with fail
                    go_ret2
                    exact ⟨rfl, HB.out⟩
                  · have hok := ra_ok (mode := 2) HF.out (by omega) HD0.out (by rw [HRQ.out]; have := (fit_iff _).1 hg; omega)
                    obtain rfl : (0 : Int) = E := hok.1.symm.trans HE.out
                    have hv := hok.2.symm.trans HV.out
                    rw [HRQ.out] at hv
                    have W9 : IntKind.i64.wrap (-(Q : Int)) = -(Q : Int) := IntWalk.i64_in _ (by omega)
                    rw [hg]
                    clear hok hg
                    rcases fot (decide (n < 0)) with d1 | d1 <;> rcases fot (decide (num < 0)) with d2 | d2 <;> rcases fot (decide (den < 0)) with d3 | d3
                    all_goals
                      first
                      | (have hs : neB n num den = false := (by unfold neB; rw [d1, d2, d3]; rfl)
                         rw [hs] at hv
                         obtain rfl : (Q : Int) = V := hv
                         clear hs
                         go_wp2_with fail
                         go_ret2
                         exact ⟨rfl, HB.out⟩)
                      | (have hs : neB n num den = true := (by unfold neB; rw [d1, d2, d3]; rfl)
                         rw [hs] at hv
                         obtain rfl : -(Q : Int) = V := hv
                         clear hs
                         go_wp2_with fail
                         go_ret2
                         exact ⟨rfl, HB.out⟩)
                · rw [haw]
                  have HRQ : Hid (raQ n num den 2 = Q + 1) := Lib.hid (by rw [HAW.out, haw]; rfl)
                  obtain ⟨Q1, hQ1⟩ : ∃ x, Q + 1 = x := ⟨_, rfl⟩
                  rw [hQ1] at HRQ
                  have W2 : IntKind.i64.wrap ((Q : Int) + 1) = (Q1 : Int) := by rw [IntWalk.i64_in _ (by omega)]; omega
                  have hQ1b : Q1 ≤ 1125899906842625 := by omega
                  clear hQ1
                  clear haw
                  go_wp2_with fail
                  refine (fits16 (Q1 : Int) w2).mono ?_
                  rintro e w4 ⟨rfl, hw⟩
                  rw [hw]
                  clear hw
                  rcases fot (fitB (Q1 : Int)) with hg | hg
                  · obtain rfl : (13 : Int) = E := (ra_big HF.out (by omega) HD0.out (by rw [HRQ.out]; have := (fit_no _).1 hg; omega)).symm.trans HE.out
                    obtain rfl : (0 : Int) = V := (ra_no (by rw [HE.out]; decide)).symm.trans HV.out
                    rw [hg]
                    go_wp2_with fail
                    go_ret2
                    exact ⟨rfl, HB.out⟩
                  · have hok := ra_ok (mode := 2) HF.out (by omega) HD0.out (by rw [HRQ.out]; have := (fit_iff _).1 hg; omega)
                    obtain rfl : (0 : Int) = E := hok.1.symm.trans HE.out
                    have hv := hok.2.symm.trans HV.out
                    rw [HRQ.out] at hv
                    have W9 : IntKind.i64.wrap (-(Q1 : Int)) = -(Q1 : Int) := IntWalk.i64_in _ (by omega)
                    rw [hg]
                    clear hok hg
                    rcases fot (decide (n < 0)) with d1 | d1 <;> rcases fot (decide (num < 0)) with d2 | d2 <;> rcases fot (decide (den < 0)) with d3 | d3
                    all_goals
                      first
                      | (have hs : neB n num den = false := (by unfold neB; rw [d1, d2, d3]; rfl)
                         rw [hs] at hv
                         obtain rfl : (Q1 : Int) = V := hv
                         clear hs
                         go_wp2_with fail
                         go_ret2
                         exact ⟨rfl, HB.out⟩)
                      | (have hs : neB n num den = true := (by unfold neB; rw [d1, d2, d3]; rfl)
                         rw [hs] at hv
                         obtain rfl : -(Q1 : Int) = V := hv
                         clear hs
                         go_wp2_with fail
                         go_ret2
                         exact ⟨rfl, HB.out⟩)
      · as_aux_lemma =>
          by_cases hd : den = 0
          · obtain rfl : (14 : Int) = E := (ra_zero HF.out (by omega) hd).symm.trans HE.out
            obtain rfl : (0 : Int) = V := (ra_no (by rw [HE.out]; decide)).symm.trans HV.out
            have hd1 : (den == 0) = true := by simp [hd]
            go_wp2_with fail
            go_ret2
            exact ⟨rfl, Below.refl _ _⟩
          · have hd1 : (den == 0) = false := by simp [hd]
            have HD0 := Lib.hid hd
            obtain ⟨d, hdd⟩ : ∃ d, den.natAbs = d := ⟨_, rfl⟩
            obtain ⟨a, ha⟩ : ∃ a, n.natAbs = a := ⟨_, rfl⟩
            obtain ⟨b, hb⟩ : ∃ b, num.natAbs = b := ⟨_, rfl⟩
            have hdpos : 0 < d := by omega
            have hd64 : d < 18446744073709551616 := by have := HDEN.out; unfold In64 at this; omega
            have hbl : b < 18446744073709551616 := by have := HNUM.out; unfold In64 at this; omega
            have hal : a ≤ 1125899906842624 := by have := (fit_iff n).1 HF.out; omega
            have HDD := Lib.hid hdd
            have HA := Lib.hid ha
            have HBB := Lib.hid hb
            clear hd hdd ha hb
            go_wp2_with fail
            refine (size29 den d w HDEN.out HDD.out).mono ?_
            rintro e w2 ⟨rfl, hw⟩
            rw [hw]
            clear hw hd1
            go_wp2_with fail
            refine (size29 n a w HN.out HA.out).mono ?_
            rintro e w2 ⟨rfl, hw⟩
            rw [hw]
            clear hw
            go_wp2_with fail
            refine (size29 num b w HNUM.out HBB.out).mono ?_
            rintro e w2 ⟨rfl, hw⟩
            rw [hw]
            clear hw
            go_wp2_with fail
            refine (Any.bits_Mul64 Tryd.laysMul a b (by omega) hbl w).mono ?_
            rintro e w2 ⟨rfl, hw⟩
            rw [hw]
            clear hw
            obtain ⟨hi, hhi⟩ : ∃ x, a * b / 18446744073709551616 = x := ⟨_, rfl⟩
            obtain ⟨lo, hlo⟩ : ∃ x, a * b % 18446744073709551616 = x := ⟨_, rfl⟩
            obtain ⟨Q, hQ⟩ : ∃ x, a * b / d = x := ⟨_, rfl⟩
            obtain ⟨R, hR⟩ : ∃ x, a * b % d = x := ⟨_, rfl⟩
            have hlo64 : lo < 18446744073709551616 := by rw [← hlo]; exact Nat.mod_lt _ (by decide)
            have hab : hi * 18446744073709551616 + lo = a * b := by rw [← hhi, ← hlo, Nat.mul_comm]; exact Nat.div_add_mod _ _
            have HQ : Hid ((hi * 18446744073709551616 + lo) / d = Q) := Lib.hid (by rw [hab]; exact hQ)
            have HR : Hid ((hi * 18446744073709551616 + lo) % d = R) := Lib.hid (by rw [hab]; exact hR)
            have hRd : R < d := by rw [← hR]; exact Nat.mod_lt _ hdpos
            rw [hhi, hlo]
            by_cases hbig : d ≤ hi
            · have hbI : (d : Int) ≤ (hi : Int) := by omega
              have hQb : 18446744073709551616 ≤ Q := by rw [← HQ.out]; exact q_big hdpos hbig
              obtain rfl : (13 : Int) = E := (ra_big HF.out (by omega) HD0.out (by unfold raQ; rw [HA.out, HBB.out, HDD.out, hQ]; omega)).symm.trans HE.out
              obtain rfl : (0 : Int) = V := (ra_no (by rw [HE.out]; decide)).symm.trans HV.out
              clear hhi hlo hQ hR hab hQb hlo64
              go_wp2_with fail
              go_ret2
              exact ⟨rfl, Below.refl _ _⟩
            · have hbI : ¬ (d : Int) ≤ (hi : Int) := by omega
              have hQ64 : Q < 18446744073709551616 := by rw [← HQ.out]; exact q_small (by omega) hlo64
              have HQA : Hid (n.natAbs * num.natAbs / den.natAbs = Q ∧ n.natAbs * num.natAbs % den.natAbs = R) := Lib.hid (by rw [HA.out, HBB.out, HDD.out]; exact ⟨hQ, hR⟩)
              clear hhi hlo hQ hR hab
              go_wp2_with fail
              refine (div31 hi lo d Q R w (by omega) hlo64 hd64 HQ.out HR.out).mono ?_
              rintro e w2 ⟨rfl, hb⟩
              have HB := Lib.hid hb
              clear hb hbI hbig
              by_cases hqm : 1125899906842624 < Q
              · have hqI : (1125899906842624 : Int) < (Q : Int) := by omega
                obtain rfl : (13 : Int) = E := (ra_big HF.out (by omega) HD0.out (by unfold raQ; rw [HQA.out.1]; omega)).symm.trans HE.out
                obtain rfl : (0 : Int) = V := (ra_no (by rw [HE.out]; decide)).symm.trans HV.out
                go_wp2_with fail
                go_ret2
                exact ⟨rfl, HB.out⟩
              · have hqI : ¬ (1125899906842624 : Int) < (Q : Int) := by omega
                have W1 : IntKind.i64.wrap (Q : Int) = (Q : Int) := IntWalk.i64_in _ (by omega)
                go_wp2_with fail
                clear hqI
                refine (away32 Q R d _ w2 hQ64 hRd hd64).mono ?_
                rintro e w3 ⟨rfl, hw⟩
                rw [hw]
                clear hw
                have HAW : Hid (∀ m : Int, raQ n num den m = Q + (if awB Q R d m then 1 else 0)) := Lib.hid (fun m => by unfold raQ; rw [HQA.out.1, HQA.out.2, HDD.out])
                rcases fot (awB Q R d 3) with haw | haw
                · rw [haw]
                  have HRQ : Hid (raQ n num den 3 = Q) := Lib.hid (by rw [HAW.out, haw]; rfl)
                  clear haw
                  go_wp2_with fail
                  refine (fits16 (Q : Int) w2).mono ?_
                  rintro e w4 ⟨rfl, hw⟩
                  rw [hw]
                  clear hw
                  rcases fot (fitB (Q : Int)) with hg | hg
                  · obtain rfl : (13 : Int) = E := (ra_big HF.out (by omega) HD0.out (by rw [HRQ.out]; have := (fit_no _).1 hg; omega)).symm.trans HE.out
                    obtain rfl : (0 : Int) = V := (ra_no (by rw [HE.out]; decide)).symm.trans HV.out
                    rw [hg]
                    go_wp2_with fail
                    go_ret2
                    exact ⟨rfl, HB.out⟩
                  · have hok := ra_ok (mode := 3) HF.out (by omega) HD0.out (by rw [HRQ.out]; have := (fit_iff _).1 hg; omega)
                    obtain rfl : (0 : Int) = E := hok.1.symm.trans HE.out
                    have hv := hok.2.symm.trans HV.out
                    rw [HRQ.out] at hv
                    have W9 : IntKind.i64.wrap (-(Q : Int)) = -(Q : Int) := IntWalk.i64_in _ (by omega)
                    rw [hg]
                    clear hok hg
                    rcases fot (decide (n < 0)) with d1 | d1 <;> rcases fot (decide (num < 0)) with d2 | d2 <;> rcases fot (decide (den < 0)) with d3 | d3
                    all_goals
                      first
                      | (have hs : neB n num den = false := (by unfold neB; rw [d1, d2, d3]; rfl)
                         rw [hs] at hv
                         obtain rfl : (Q : Int) = V := hv
                         clear hs
                         go_wp2_with fail
                         go_ret2
                         exact ⟨rfl, HB.out⟩)
                      | (have hs : neB n num den = true := (by unfold neB; rw [d1, d2, d3]; rfl)
                         rw [hs] at hv
                         obtain rfl : -(Q : Int) = V := hv
                         clear hs
                         go_wp2_with fail
                         go_ret2
                         exact ⟨rfl, HB.out⟩)
                · rw [haw]
                  have HRQ : Hid (raQ n num den 3 = Q + 1) := Lib.hid (by rw [HAW.out, haw]; rfl)
                  obtain ⟨Q1, hQ1⟩ : ∃ x, Q + 1 = x := ⟨_, rfl⟩
                  rw [hQ1] at HRQ
                  have W2 : IntKind.i64.wrap ((Q : Int) + 1) = (Q1 : Int) := by rw [IntWalk.i64_in _ (by omega)]; omega
                  have hQ1b : Q1 ≤ 1125899906842625 := by omega
                  clear hQ1
                  clear haw
                  go_wp2_with fail
                  refine (fits16 (Q1 : Int) w2).mono ?_
                  rintro e w4 ⟨rfl, hw⟩
                  rw [hw]
                  clear hw
                  rcases fot (fitB (Q1 : Int)) with hg | hg
                  · obtain rfl : (13 : Int) = E := (ra_big HF.out (by omega) HD0.out (by rw [HRQ.out]; have := (fit_no _).1 hg; omega)).symm.trans HE.out
                    obtain rfl : (0 : Int) = V := (ra_no (by rw [HE.out]; decide)).symm.trans HV.out
                    rw [hg]
                    go_wp2_with fail
                    go_ret2
                    exact ⟨rfl, HB.out⟩
                  · have hok := ra_ok (mode := 3) HF.out (by omega) HD0.out (by rw [HRQ.out]; have := (fit_iff _).1 hg; omega)
                    obtain rfl : (0 : Int) = E := hok.1.symm.trans HE.out
                    have hv := hok.2.symm.trans HV.out
                    rw [HRQ.out] at hv
                    have W9 : IntKind.i64.wrap (-(Q1 : Int)) = -(Q1 : Int) := IntWalk.i64_in _ (by omega)
                    rw [hg]
                    clear hok hg
                    rcases fot (decide (n < 0)) with d1 | d1 <;> rcases fot (decide (num < 0)) with d2 | d2 <;> rcases fot (decide (den < 0)) with d3 | d3
                    all_goals
                      first
                      | (have hs : neB n num den = false := (by unfold neB; rw [d1, d2, d3]; rfl)
                         rw [hs] at hv
                         obtain rfl : (Q1 : Int) = V := hv
                         clear hs
                         go_wp2_with fail
                         go_ret2
                         exact ⟨rfl, HB.out⟩)
                      | (have hs : neB n num den = true := (by unfold neB; rw [d1, d2, d3]; rfl)
                         rw [hs] at hv
                         obtain rfl : -(Q1 : Int) = V := hv
                         clear hs
                         go_wp2_with fail
                         go_ret2
                         exact ⟨rfl, HB.out⟩)
end Go.Proofs.YtjipcopfggnlkaaDoor.Wk
