/- The law of the roundings, walked. Conditions: the arguments are machine integers; the table reads as it is laid. -/
import Derived.Test.YtjipcopfggnlkaaDoorRx
import Derived.Deep.CutRange
import Derived.Deep.CutBlock
set_option linter.unusedSimpArgs false
set_option linter.unusedVariables false
namespace Go.Proofs.YtjipcopfggnlkaaDoor.Wk
open Go.RowKit
open Go.Proofs.YtjipcopfggnlkaaDoor.Mt
theorem opp27 (a e b f : Int) (w : World) (hb : fitB b = true) (h1 : a = -b) (h2 : e = f) : Calls Tryd.prog 27 #[.int .i64 a, .int .i64 e, .int .i64 b, .int .i64 f] w fun x w' => x = .returned (.bool true) ∧ w' = w := by
  have h := (fit_iff b).1 hb
  have W1 : IntKind.i64.wrap (-b) = a := by rw [h1]; exact IntWalk.i64_in _ (by omega)
  have g1 : (a == a) = true := by simp
  have g2 : (f == f) = true := by simp
  subst h2
  clear h1 hb
  go_enter Tryd.func27, Tryd.ntmps27
  go_wp2_with fail
  go_ret
  exact ⟨rfl, rfl⟩
def smlB (num den : Int) : Bool := decide (-4096 ≤ num) && decide (num ≤ 4096) && decide (-4096 ≤ den) && decide (den ≤ 4096)
set_option maxHeartbeats 8000000 in
set_option maxRecDepth 100000 in
theorem rounds_law (n num den : Int) (w : World) (hn : In64 n) (hnum : In64 num) (hden : In64 den) (ht : Tb w) : Calls Tryd.prog 7 #[.int .i64 n, .int .i64 num, .int .i64 den] w fun e w' => e = .returned (.bool true) ∧ Below w.heap.size w w' := by
  have HT := Lib.hid ht
  have HNUM := Lib.hid hnum
  have HDEN := Lib.hid hden
  have HN := Lib.hid hn
  clear hn hnum hden ht
  by_cases h1 : n < -1125899906842624
  · have d1 : decide (n < -1125899906842624) = true := decide_eq_true h1
    go_enter Tryd.func7, Tryd.ntmps7
    go_wp2_with fail
    refine (awake11 w HT.out).mono ?_
    rintro e w1 ⟨rfl, hb⟩
    have HB := Lib.hid hb
    clear hb
    go_wp2_with fail
    go_ret
    exact ⟨rfl, HB.out⟩
  by_cases h2 : (1125899906842624 : Int) < n
  · have d1 : decide (n < -1125899906842624) = false := decide_eq_false h1
    have d2 : decide ((1125899906842624 : Int) < n) = true := decide_eq_true h2
    go_enter Tryd.func7, Tryd.ntmps7
    go_wp2_with fail
    refine (awake11 w HT.out).mono ?_
    rintro e w1 ⟨rfl, hb⟩
    have HB := Lib.hid hb
    clear hb
    go_wp2_with fail
    go_ret
    exact ⟨rfl, HB.out⟩
  have d1 : decide (n < -1125899906842624) = false := decide_eq_false h1
  have d2 : decide ((1125899906842624 : Int) < n) = false := decide_eq_false h2
  have hf : fitB n = true := (fit_iff n).2 ⟨by omega, by omega⟩
  by_cases h3 : num = -9223372036854775808
  · have d3 : (num == -9223372036854775808) = true := by simp [h3]
    go_enter Tryd.func7, Tryd.ntmps7
    go_wp2_with fail
    refine (awake11 w HT.out).mono ?_
    rintro e w1 ⟨rfl, hb⟩
    have HB := Lib.hid hb
    clear hb
    go_wp2_with fail
    go_ret
    exact ⟨rfl, HB.out⟩
  have d3 : (num == -9223372036854775808) = false := by simp [h3]
  by_cases h4 : den = -9223372036854775808
  · have d4 : (den == -9223372036854775808) = true := by simp [h4]
    go_enter Tryd.func7, Tryd.ntmps7
    go_wp2_with fail
    refine (awake11 w HT.out).mono ?_
    rintro e w1 ⟨rfl, hb⟩
    have HB := Lib.hid hb
    clear hb
    go_wp2_with fail
    go_ret
    exact ⟨rfl, HB.out⟩
  have d4 : (den == -9223372036854775808) = false := by simp [h4]
  by_cases h5 : den = 0
  · have d5 : (den == 0) = true := by simp [h5]
    go_enter Tryd.func7, Tryd.ntmps7
    go_wp2_with fail
    refine (awake11 w HT.out).mono ?_
    rintro e w1 ⟨rfl, hb⟩
    have HB := Lib.hid hb
    clear hb
    go_wp2_with fail
    go_ret
    exact ⟨rfl, HB.out⟩
  have d5 : (den == 0) = false := by simp [h5]
  have H3 := Lib.hid (ra_three (num := num) hf h5)
  have HF := Lib.hid hf
  have H5 := Lib.hid h5
  have h3' := h3
  have HN3 : Hid (num ≠ -9223372036854775808) := Lib.hid h3
  have HN4 : Hid (den ≠ -9223372036854775808) := Lib.hid h4
  clear hf h1 h2 h3 h4 h5 h3'
  go_enter Tryd.func7, Tryd.ntmps7
  go_wp2_with fail
  refine (ratio18 n num den 1 _ _ w HN.out HNUM.out HDEN.out rfl rfl).mono ?_
  rintro e w1 ⟨rfl, hb⟩
  have HB := Lib.hid hb
  clear hb
  obtain ⟨a, ha⟩ : ∃ a, raV n num den 1 = a := ⟨_, rfl⟩
  obtain ⟨A, hA⟩ : ∃ a, raE n num den 1 = a := ⟨_, rfl⟩
  rw [ha, hA]
  have HVA := Lib.hid ha
  have HEA := Lib.hid hA
  rw [ha, hA] at H3
  clear ha hA
  go_wp2_with fail
  refine (ratio18 n num den 2 _ _ w1 HN.out HNUM.out HDEN.out rfl rfl).mono ?_
  rintro e w2 ⟨rfl, hb⟩
  replace HB := Lib.hid (upB HB.out hb)
  clear hb
  obtain ⟨b, hb⟩ : ∃ a, raV n num den 2 = a := ⟨_, rfl⟩
  obtain ⟨B, hB⟩ : ∃ a, raE n num den 2 = a := ⟨_, rfl⟩
  rw [hb, hB]
  rw [hb, hB] at H3
  clear hb hB
  go_wp2_with fail
  refine (ratio18 n num den 3 _ _ w2 HN.out HNUM.out HDEN.out rfl rfl).mono ?_
  rintro e w3 ⟨rfl, hb⟩
  replace HB := Lib.hid (upB HB.out hb)
  clear hb
  obtain ⟨c, hc⟩ : ∃ a, raV n num den 3 = a := ⟨_, rfl⟩
  obtain ⟨C, hC⟩ : ∃ a, raE n num den 3 = a := ⟨_, rfl⟩
  rw [hc, hC]
  rw [hc, hC] at H3
  clear hc hC
  clear d1 d2 d3 d4 d5
  rcases H3.out with ⟨rfl, rfl, rfl⟩ | ⟨rfl, hfa, hrest⟩
  · go_wp2_with fail
    refine (awake11 w3 (HT.out.next HB.out)).mono ?_
    rintro e w4 ⟨rfl, hb⟩
    replace HB := Lib.hid (upB HB.out hb)
    clear hb
    go_wp2_with fail
    go_ret
    exact ⟨rfl, HB.out⟩
  · have HR := Lib.hid hrest
    have HFA := Lib.hid hfa
    have hfa2 := (fit_iff a).1 hfa
    have d1 : decide (a < -1125899906842624) = false := decide_eq_false (by omega)
    have d2 : decide ((1125899906842624 : Int) < a) = false := decide_eq_false (by omega)
    clear hrest H3 hfa hfa2
    go_upto_region 8 with fail
    go_cut [116] from 81 to 116 (fun s wx => s = .bool false ∧ wx = w3)
    case first =>
      have hfa2 := (fit_iff a).1 HFA.out
      rcases HR.out with rfl | ⟨rfl, rfl, l1, l2, l3⟩
      · clear hfa2
        go_wp2_with fail
        go_meet
        exact ⟨rfl, rfl⟩
      · have W1 : IntKind.i64.wrap (a - 1) = a - 1 := IntWalk.i64_in _ (by omega)
        have W2 : IntKind.i64.wrap (a + 1) = a + 1 := IntWalk.i64_in _ (by omega)
        have d3 : decide (b < a - 1) = false := decide_eq_false (by omega)
        have d4 : decide (a + 1 < b) = false := decide_eq_false (by omega)
        by_cases hca : c = a
        · have d5 : (c != a) = false := by simp [hca]
          clear hfa2 l1 l2 l3 hca
          go_wp2_with fail
          go_meet
          exact ⟨rfl, rfl⟩
        · have hcb : c = b := by omega
          have d5 : (c != a) = true := by simp [hca]
          have d6 : (c != b) = false := by simp [hcb]
          clear hfa2 l1 l2 l3 hca hcb
          go_wp2_with fail
          go_meet
          exact ⟨rfl, rfl⟩
    case rest =>
    obtain ⟨rfl, rfl⟩ := hcut
    clear d1 d2
    obtain ⟨sm, hsm⟩ : ∃ b, smlB num den = b := ⟨_, rfl⟩
    have HSM := Lib.hid hsm
    clear hsm
    go_upto_region 10 with fail
    go_cut [130] from 117 to 130 (fun s wx => s = .bool sm ∧ wx = wc)
    case first =>
      by_cases k1 : -4096 ≤ num
      · have d1 : decide (-4096 ≤ num) = true := decide_eq_true k1
        by_cases k2 : num ≤ 4096
        · have d2 : decide (num ≤ 4096) = true := decide_eq_true k2
          by_cases k3 : -4096 ≤ den
          · have d3 : decide (-4096 ≤ den) = true := decide_eq_true k3
            have e : sm = decide (den ≤ 4096) := by rw [← HSM.out]; unfold smlB; rw [d1, d2, d3]; rfl
            subst e
            clear k1 k2 k3
            go_wp2_with fail
            go_meet
            exact ⟨rfl, rfl⟩
          · have d3 : decide (-4096 ≤ den) = false := decide_eq_false k3
            have e : sm = false := by rw [← HSM.out]; unfold smlB; rw [d1, d2, d3]; rfl
            subst e
            clear k1 k2 k3
            go_wp2_with fail
            go_meet
            exact ⟨rfl, rfl⟩
        · have d2 : decide (num ≤ 4096) = false := decide_eq_false k2
          have e : sm = false := by rw [← HSM.out]; unfold smlB; rw [d1, d2]; rfl
          subst e
          clear k1 k2
          go_wp2_with fail
          go_meet
          exact ⟨rfl, rfl⟩
      · have d1 : decide (-4096 ≤ num) = false := decide_eq_false k1
        have e : sm = false := by rw [← HSM.out]; unfold smlB; rw [d1]; rfl
        subst e
        clear k1
        go_wp2_with fail
        go_meet
        exact ⟨rfl, rfl⟩
    case rest =>
    obtain ⟨rfl, rfl⟩ := hcut
    have HRS := Lib.hid (ra_rest (num := num) HF.out H5.out HEA.out)
    rw [HVA.out] at HRS
    go_upto_if 130 with fail
    go_cut [] from 131 to 160 (fun wx => wx = wc)
    case first =>
      rcases fot sm with rfl | rfl
      · go_wp2_with fail
        go_meet
        rfl
      · have hk : (-4096 ≤ num ∧ num ≤ 4096) ∧ (-4096 ≤ den ∧ den ≤ 4096) := by
          have := HSM.out
          unfold smlB at this
          simp at this
          omega
        obtain ⟨P, hP⟩ : ∃ P, n * num = P := ⟨_, rfl⟩
        obtain ⟨T, hT⟩ : ∃ T, a * den = T := ⟨_, rfl⟩
        obtain ⟨r, hr⟩ : ∃ r, n.natAbs * num.natAbs % den.natAbs = r := ⟨_, rfl⟩
        obtain ⟨X, hX⟩ : ∃ X, sgn (decide (n < 0) != decide (num < 0)) r = X := ⟨_, rfl⟩
        have hrd : r < den.natAbs := by rw [← hr]; exact Nat.mod_lt _ (by have := H5.out; omega)
        have hPT := HRS.out
        rw [hP, hT, hr, hX] at hPT
        have l1 := mul_small HF.out hk.1
        have l2 := mul_small HFA.out hk.2
        rw [hP] at l1
        rw [hT] at l2
        have W1 : IntKind.i64.wrap (n * num) = P := by rw [hP]; exact IntWalk.i64_in _ (by omega)
        have W2 : IntKind.i64.wrap (a * den) = T := by rw [hT]; exact IntWalk.i64_in _ (by omega)
        have hX2 : -(r : Int) ≤ X ∧ X ≤ (r : Int) := by rw [← hX]; unfold sgn; split <;> omega
        have W3 : IntKind.i64.wrap (P - T) = X := by rw [hPT]; exact IntWalk.i64_in _ (by clear hPT; omega)
        obtain ⟨Y, hY⟩ : ∃ Y, -X = Y := ⟨_, rfl⟩
        have W4 : IntKind.i64.wrap (-X) = Y := by rw [← hY]; exact IntWalk.i64_in _ (by clear hPT; omega)
        obtain ⟨dd, hdd⟩ : ∃ Y, -den = Y := ⟨_, rfl⟩
        have W5 : IntKind.i64.wrap (-den) = dd := by rw [← hdd]; exact IntWalk.i64_in _ (by omega)
        clear HRS hP hT hr
        obtain ⟨mx, hmx⟩ : ∃ m, max X Y = m := ⟨_, rfl⟩
        obtain ⟨md, hmd⟩ : ∃ m, max den dd = m := ⟨_, rfl⟩
        have hlt : mx < md := by clear hPT W1 W2 W3 W4 W5; omega
        have HX := Lib.hid hX
        clear hPT l1 l2 hY hdd hX2 hk hrd
        by_cases hX0 : X = 0
        · subst hX0
          clear hX
          have hx0 : ((0 : Int) != 0) = false := rfl
          go_wp2_with fail
          go_meet
          rfl
        · have hx0 : (X != 0) = true := by simp [hX0]
          have hr0 : 0 < r := by
            rcases Nat.eq_zero_or_pos r with h0 | h0
            · exfalso; apply hX0; rw [← hX, h0]; unfold sgn; split <;> rfl
            · exact h0
          have HR0 := Lib.hid hr0
          clear hX hX0 hr0
          by_cases hn0 : n < 0
          · have dn : decide (n < 0) = true := decide_eq_true hn0
            by_cases hm0 : num < 0
            · have dm : decide (num < 0) = true := decide_eq_true hm0
              have dx : decide (X < 0) = false := decide_eq_false (by have := HX.out; have := HR0.out; rw [dn, dm] at *; simp [sgn] at *; omega)
              clear hn0 hm0
              go_wp2_with fail
              go_meet
              rfl
            · have dm : decide (num < 0) = false := decide_eq_false hm0
              have dx : decide (X < 0) = true := decide_eq_true (by have := HX.out; have := HR0.out; rw [dn, dm] at *; simp [sgn] at *; omega)
              clear hn0 hm0
              go_wp2_with fail
              go_meet
              rfl
          · have dn : decide (n < 0) = false := decide_eq_false hn0
            by_cases hm0 : num < 0
            · have dm : decide (num < 0) = true := decide_eq_true hm0
              have dx : decide (X < 0) = true := decide_eq_true (by have := HX.out; have := HR0.out; rw [dn, dm] at *; simp [sgn] at *; omega)
              clear hn0 hm0
              go_wp2_with fail
              go_meet
              rfl
            · have dm : decide (num < 0) = false := decide_eq_false hm0
              have dx : decide (X < 0) = false := decide_eq_false (by have := HX.out; have := HR0.out; rw [dn, dm] at *; simp [sgn] at *; omega)
              clear hn0 hm0
              go_wp2_with fail
              go_meet
              rfl
    case rest =>
    obtain rfl := hcut
    clear HRS HSM HVA HEA HFA HR
    have HK := Lib.hid (rk_three wc 1 2 3 (in_small (by decide)) (in_small (by decide)) (in_small (by decide)))
    obtain ⟨W, hW⟩ : ∃ W, wc.alloc (.cells #[.int .i64 1, .int .i64 2, .int .i64 3] 3) = W := ⟨_, rfl⟩
    replace HB := Lib.hid (upB HB.out (b1 wc (.cells #[.int .i64 1, .int .i64 2, .int .i64 3] 3)))
    rw [hW] at HB HK
    obtain ⟨g, hg⟩ : ∃ g, wc.heap.size = g := ⟨_, rfl⟩
    rw [hg] at HK
    go_wp2_with fail
    clear hW hg
    go_loopw [15, 16, 17, 18, 19, 20, 21, 22, 23, 163] (fun _ _ _ _ _ _ _ _ _ iv wr => ∃ i : Nat, i ≤ 3 ∧ iv = .int .i64 i ∧ Hid (Below w.heap.size w wr) ∧ Hid (Rk .i64 wr wr.heap.size (some ⟨g, 0, none⟩) 3 [1, 2, 3])) (fun _ _ _ _ _ _ _ _ _ iv _ => 3 - (intOf iv).toNat)
    case atStart => exact ⟨0, by omega, rfl, HB, HK⟩
    case round =>
      obtain ⟨i, hi, rfl, HB, HK⟩ := hrel
      by_cases hlt : i < 3
      · have hltI : (i : Int) < 3 := by omega
        have W1 : IntKind.i64.wrap ((i : Int) + 1) = (i : Int) + 1 := IntWalk.i64_in _ (by omega)
        obtain ⟨b', off', e0, hb1, hc1⟩ := HK.out.get hlt
        cases e0
        rw [Nat.zero_add] at hc1
        obtain ⟨m, hm⟩ : ∃ m, iat [1, 2, 3] i = m := ⟨_, rfl⟩
        have hm3 : m = 1 ∨ m = 2 ∨ m = 3 := by
          rw [← hm]
          rcases (by omega : i = 0 ∨ i = 1 ∨ i = 2) with rfl | rfl | rfl
          · exact .inl rfl
          · exact .inr (.inl rfl)
          · exact .inr (.inr rfl)
        rw [hm] at hc1
        obtain ⟨⟨s1, s2⟩, ⟨s3, s4⟩, s5, s6⟩ := ra_signs (num := num) HF.out hm3 H5.out
        have F1 := raV_fit (num := num) (fit_neg HF.out) hm3 H5.out
        have F2 := raV_fit (num := -num) HF.out hm3 H5.out
        have F3 := raV_fit (num := num) (den := -den) HF.out hm3 (by have := H5.out; omega)
        obtain ⟨n1, hn1⟩ : ∃ x, -n = x := ⟨_, rfl⟩
        obtain ⟨m1, hm1⟩ : ∃ x, -num = x := ⟨_, rfl⟩
        obtain ⟨e1, he1⟩ : ∃ x, -den = x := ⟨_, rfl⟩
        rw [hn1] at s1 s2 F1
        rw [hm1] at s3 s4 F2
        rw [he1] at s5 s6 F3
        have I1 : In64 n1 := by have := HN.out; have := (fit_iff n).1 HF.out; unfold In64 at *; omega
        have I2 : In64 m1 := by have := HNUM.out; have := HN3.out; unfold In64 at *; omega
        have I3 : In64 e1 := by have := HDEN.out; have := HN4.out; unfold In64 at *; omega
        have V1 : IntKind.i64.wrap (-n) = n1 := by rw [hn1]; exact IntWalk.i64_in _ (by unfold In64 at I1; omega)
        have V2 : IntKind.i64.wrap (-num) = m1 := by rw [hm1]; exact IntWalk.i64_in _ (by unfold In64 at I2; omega)
        have V3 : IntKind.i64.wrap (-den) = e1 := by rw [he1]; exact IntWalk.i64_in _ (by unfold In64 at I3; omega)
        have J1 := Lib.hid I1
        have J2 := Lib.hid I2
        have J3 := Lib.hid I3
        have L1 := Lib.hid F1
        have L2 := Lib.hid F2
        have L3 := Lib.hid F3
        have S1 := Lib.hid s1
        have S2 := Lib.hid s2
        have S3 := Lib.hid s3
        have S4 := Lib.hid s4
        have S5 := Lib.hid s5
        have S6 := Lib.hid s6
        clear s1 s2 s3 s4 s5 s6 F1 F2 F3 I1 I2 I3 hn1 hm1 he1 hm hm3
        go_wp2_with fail
        refine (ratio18 n num den m _ _ _ HN.out HNUM.out HDEN.out rfl rfl).mono ?_
        rintro e v1 ⟨rfl, hb⟩
        replace HB := Lib.hid (upB HB.out hb)
        replace HK := Lib.hid (HK.out.up hb)
        clear hb
        go_wp2_with fail
        refine (ratio18 n1 num den m _ _ _ J1.out HNUM.out HDEN.out rfl rfl).mono ?_
        rintro e v2 ⟨rfl, hb⟩
        replace HB := Lib.hid (upB HB.out hb)
        replace HK := Lib.hid (HK.out.up hb)
        clear hb
        go_wp2_with fail
        refine (ratio18 n m1 den m _ _ _ HN.out J2.out HDEN.out rfl rfl).mono ?_
        rintro e v3 ⟨rfl, hb⟩
        replace HB := Lib.hid (upB HB.out hb)
        replace HK := Lib.hid (HK.out.up hb)
        clear hb
        go_wp2_with fail
        refine (ratio18 n num e1 m _ _ _ HN.out HNUM.out J3.out rfl rfl).mono ?_
        rintro e v4 ⟨rfl, hb⟩
        replace HB := Lib.hid (upB HB.out hb)
        replace HK := Lib.hid (HK.out.up hb)
        clear hb
        obtain ⟨X0, hX0⟩ : ∃ x, raV n num den m = x := ⟨_, rfl⟩
        obtain ⟨X1, hX1⟩ : ∃ x, raV n1 num den m = x := ⟨_, rfl⟩
        obtain ⟨X2, hX2⟩ : ∃ x, raV n m1 den m = x := ⟨_, rfl⟩
        obtain ⟨X3, hX3⟩ : ∃ x, raV n num e1 m = x := ⟨_, rfl⟩
        obtain ⟨Y0, hY0⟩ : ∃ x, raE n num den m = x := ⟨_, rfl⟩
        obtain ⟨Y1, hY1⟩ : ∃ x, raE n1 num den m = x := ⟨_, rfl⟩
        obtain ⟨Y2, hY2⟩ : ∃ x, raE n m1 den m = x := ⟨_, rfl⟩
        obtain ⟨Y3, hY3⟩ : ∃ x, raE n num e1 m = x := ⟨_, rfl⟩
        rw [hX0, hX1, hX2, hX3, hY0, hY1, hY2, hY3]
        rw [hX1] at L1
        rw [hX2] at L2
        rw [hX3] at L3
        rw [hY0, hY1] at S1
        rw [hY0, hY2] at S3
        rw [hY0, hY3] at S5
        rw [hX0, hX1] at S2
        rw [hX0, hX2] at S4
        rw [hX0, hX3] at S6
        clear hX0 hX1 hX2 hX3 hY0 hY1 hY2 hY3
        go_wp2_with fail
        refine (opp27 X0 Y0 X1 Y1 _ L1.out S2.out S1.out.symm).mono ?_
        rintro e v5 ⟨rfl, hw⟩
        rw [hw]
        clear hw
        go_wp2_with fail
        refine (opp27 X0 Y0 X2 Y2 _ L2.out S4.out S3.out.symm).mono ?_
        rintro e v5 ⟨rfl, hw⟩
        rw [hw]
        clear hw
        go_wp2_with fail
        refine (opp27 X0 Y0 X3 Y3 _ L3.out S6.out S5.out.symm).mono ?_
        rintro e v5 ⟨rfl, hw⟩
        rw [hw]
        clear hw
        go_wp2_with fail
        go_roundw
        case rel => exact ⟨i + 1, by omega, by go_num, HB, HK⟩
        case measure => simp [intOf]; omega
      · have hltI : ¬ (i : Int) < 3 := by omega
        go_wp2_with fail
        refine (awake11 _ (HT.out.next HB.out)).mono ?_
        rintro e v4 ⟨rfl, hb⟩
        replace HB := Lib.hid (upB HB.out hb)
        clear hb
        go_wp2_with fail
        go_ret
        exact ⟨rfl, HB.out⟩
end Go.Proofs.YtjipcopfggnlkaaDoor.Wk
