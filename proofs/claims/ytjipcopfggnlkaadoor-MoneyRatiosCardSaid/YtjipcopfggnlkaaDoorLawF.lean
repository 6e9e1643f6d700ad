/- The law of the ratios: the reference's ratio, the struct that is read, walked. Conditions: the numbers are machine integers; the table reads as it is laid. -/
import Derived.Test.YtjipcopfggnlkaaDoorDd
import Derived.Deep.CutRange
set_option linter.unusedSimpArgs false
set_option linter.unusedVariables false
namespace Go.Proofs.YtjipcopfggnlkaaDoor.Wk
open Go.RowKit
open Go.Proofs.YtjipcopfggnlkaaDoor.Mt
section
open Go.ChangeShapes Go.WideShapes Go.Deep Go.Joins
variable {H : Type} {enc : TypeId × Value → H} {w : World} {base : Nat} {spare : Nat → Bool} {held : Bool}
theorem cells34 : Tryd.prog.cellsOf 34 = 4 := by kernel_rfl
set_option maxRecDepth 100000 in
theorem Open_fr {r : Reach} {b0 : Nat} {v : Value} {d : DataW H} {p : List MemPlace} (hv : Value.okWide Tryd.prog w r b0 34 v) (h : DataW.Trod enc Tryd.prog w base spare held 34 v d p) :
    ∃ x : Int × Int × Int × Int, v = .agg #[.int .i64 x.1, .int .i64 x.2.1, .int .i64 x.2.2.1, .int .i64 x.2.2.2] ∧ Mt.In64 x.1 ∧ Mt.In64 x.2.1 ∧ Mt.In64 x.2.2.1 ∧ Mt.In64 x.2.2.2 := by
  obtain ⟨v0, v1, v2, v3, y0, y1, y2, y3, m, rfl, _, _, h0, h1, h2, h3⟩ := open_agg4 Tryd.underlying34 (by kernel_rfl) cells34 hv h
  obtain ⟨a, e0, _, w0⟩ := DataW.trod_int Tryd.underlying3 h0
  obtain ⟨b, e1, _, w1⟩ := DataW.trod_int Tryd.underlying3 h1
  obtain ⟨c, e2, _, w2⟩ := DataW.trod_int Tryd.underlying3 h2
  obtain ⟨e, e3, _, w3⟩ := DataW.trod_int Tryd.underlying3 h3
  injection e0 with e0
  injection e1 with e1
  injection e2 with e2
  injection e3 with e3
  subst e0 e1 e2 e3
  exact ⟨(a, b, c, e), rfl, i64_r w0, i64_r w1, i64_r w2, i64_r w3⟩
end
set_option maxHeartbeats 8000000 in
set_option maxRecDepth 100000 in
theorem ratio19 (n num den mode E V : Int) (w : World) (hn : In64 n) (hnum : In64 num) (hden : In64 den) (hE : raE n num den mode = E) (hV : raV n num den mode = V) : Calls Tryd.prog 19 #[.int .i64 n, .int .i64 num, .int .i64 den, .int .i64 mode] w fun e w' => e = .returned (.tuple #[.int .i64 V, .int .i64 E]) ∧ Below w.heap.size w w' := by
  have HE := Lib.hid hE
  have HV := Lib.hid hV
  have HN := Lib.hid hn
  have HNUM := Lib.hid hnum
  have HDEN := Lib.hid hden
  clear hE hV hn hnum hden
  rcases fot (fitB n) with hf | hf
  · obtain rfl : (13 : Int) = E := (ra_fit hf).symm.trans HE.out
    obtain rfl : (0 : Int) = V := (ra_no (by rw [ra_fit hf]; decide)).symm.trans HV.out
    have HF := Lib.hid hf
    clear hf
    go_enter Tryd.func19, Tryd.ntmps19
    go_wp2_with fail
    refine (fits17 n w).mono ?_
    rintro e w1 ⟨rfl, hw⟩
    rw [hw, HF.out]
    clear hw
    go_wp2_with fail
    go_ret2
    exact ⟨rfl, Below.refl _ _⟩
  have HF := Lib.hid hf
  by_cases hm1 : mode < 1
  · have e1 := ra_mode (num := num) (den := den) (mode := mode) hf (by omega)
    obtain rfl : (1 : Int) = E := e1.symm.trans HE.out
    obtain rfl : (0 : Int) = V := (ra_no (by rw [e1]; decide)).symm.trans HV.out
    have d1 : decide (mode < 1) = true := decide_eq_true hm1
    clear hf e1
    go_enter Tryd.func19, Tryd.ntmps19
    go_wp2_with fail
    refine (fits17 n w).mono ?_
    rintro e w1 ⟨rfl, hw⟩
    rw [hw, HF.out]
    clear hw
    go_wp2_with fail
    go_ret2
    exact ⟨rfl, Below.refl _ _⟩
  have d1 : decide (mode < 1) = false := decide_eq_false hm1
  by_cases hm2 : 3 < mode
  · have e1 := ra_mode (num := num) (den := den) (mode := mode) hf (by omega)
    obtain rfl : (1 : Int) = E := e1.symm.trans HE.out
    obtain rfl : (0 : Int) = V := (ra_no (by rw [e1]; decide)).symm.trans HV.out
    have d2 : decide (3 < mode) = true := decide_eq_true hm2
    clear hf e1
    go_enter Tryd.func19, Tryd.ntmps19
    go_wp2_with fail
    refine (fits17 n w).mono ?_
    rintro e w1 ⟨rfl, hw⟩
    rw [hw, HF.out]
    clear hw
    go_wp2_with fail
    go_ret2
    exact ⟨rfl, Below.refl _ _⟩
  have d2 : decide (3 < mode) = false := decide_eq_false hm2
  have hm : mode = 1 ∨ mode = 2 ∨ mode = 3 := by omega
  by_cases hd : den = 0
  · have e1 := ra_zero (num := num) (den := den) (mode := mode) hf (m_ok hm) hd
    obtain rfl : (14 : Int) = E := e1.symm.trans HE.out
    obtain rfl : (0 : Int) = V := (ra_no (by rw [e1]; decide)).symm.trans HV.out
    have d3 : (den == 0) = true := by simp [hd]
    clear hf e1 hd hm1 hm2 hm
    go_enter Tryd.func19, Tryd.ntmps19
    go_wp2_with fail
    refine (fits17 n w).mono ?_
    rintro e w1 ⟨rfl, hw⟩
    rw [hw, HF.out]
    clear hw
    go_wp2_with fail
    go_ret2
    exact ⟨rfl, Below.refl _ _⟩
  have d3 : (den == 0) = false := by simp [hd]
  obtain ⟨a, hna⟩ : ∃ a, n.natAbs = a := ⟨_, rfl⟩
  obtain ⟨b, hnb⟩ : ∃ a, num.natAbs = a := ⟨_, rfl⟩
  obtain ⟨d, hnd⟩ : ∃ a, den.natAbs = a := ⟨_, rfl⟩
  have ha50 : a ≤ 1125899906842624 := by have := (fit_iff n).1 hf; omega
  have hb63 : b ≤ 9223372036854775808 := by have := HNUM.out; unfold In64 at this; omega
  have hd63 : d ≤ 9223372036854775808 := by have := HDEN.out; unfold In64 at this; omega
  have hd0 : 0 < d := by omega
  have HA := Lib.hid hna
  have HB := Lib.hid hnb
  have HD := Lib.hid hnd
  have HDV := Lib.hid (fun u => divide34 a b d u ha50 hb63 hd0 hd63)
  have hcases := ra_cases (num := num) hf hm hd
  have hraQ : raQ n num den mode = a * b / d + (if awB (a * b / d) (a * b % d) d mode then 1 else 0) := by unfold raQ; rw [hna, hnb, hnd]
  have hr : a * b % d < d := Nat.mod_lt _ hd0
  obtain ⟨Q, hQ⟩ : ∃ Q, a * b / d = Q := ⟨_, rfl⟩
  obtain ⟨R, hR⟩ : ∃ Q, a * b % d = Q := ⟨_, rfl⟩
  obtain ⟨bo, hbo⟩ : ∃ bo, awB Q R d mode = bo := ⟨_, rfl⟩
  rw [hQ, hR, hbo] at hraQ
  rw [hR] at hr
  rw [hQ, hR] at HDV
  have HBO := Lib.hid hbo
  have HRAQ := Lib.hid hraQ
  have HCASES := Lib.hid hcases
  have HR := Lib.hid hr
  have HD63 := Lib.hid hd63
  clear hf hna hnb hnd ha50 hb63 hd63 hd0 hcases hraQ hQ hR hbo hr hd hm1 hm2
  go_enter Tryd.func19, Tryd.ntmps19
  go_wp2_with fail
  refine (fits17 n w).mono ?_
  rintro e w1 ⟨rfl, hw⟩
  rw [hw, HF.out]
  clear hw
  go_wp2_with fail
  refine (size33 den d w HDEN.out HD.out).mono ?_
  rintro e w1 ⟨rfl, hw⟩
  rw [hw]
  clear hw
  go_wp2_with fail
  refine (size33 n a w HN.out HA.out).mono ?_
  rintro e w1 ⟨rfl, hw⟩
  rw [hw]
  clear hw
  go_wp2_with fail
  refine (size33 num b w HNUM.out HB.out).mono ?_
  rintro e w1 ⟨rfl, hw⟩
  rw [hw]
  clear hw
  go_wp2_with fail
  refine (HDV.out w).mono ?_
  rintro e w1 ⟨⟨rfl, hbig⟩ | ⟨rfl, hsm⟩, hb⟩
  · obtain ⟨rfl, rfl⟩ : (13 : Int) = E ∧ (0 : Int) = V := by
      rcases HCASES.out with ⟨c1, c2, c3⟩ | ⟨c1, c2, c3⟩
      · exact ⟨c2.symm.trans HE.out, c3.symm.trans HV.out⟩
      · exfalso
        have := HRAQ.out
        omega
    have HBB := Lib.hid hb
    clear hb hbig
    go_wp2_with fail
    go_ret2
    exact ⟨rfl, HBB.out⟩
  · have HBB := Lib.hid hb
    have HSM := Lib.hid hsm
    clear hb d1 d2 d3
    go_upto_region 11 with fail
    go_cut [68] from 40 to 68 (fun s wx => s = .bool bo ∧ wx = w1)
    case first =>
      by_cases h2 : mode = 2
      · have HB2 : Hid (bo = decide (0 < R)) := Lib.hid (by rw [← HBO.out]; unfold awB; rw [if_pos h2])
        subst h2
        by_cases h9 : 0 < R
        · obtain rfl : bo = true := by rw [HB2.out, decide_eq_true h9]
          have d1 : decide ((0 : Int) < (R : Int)) = true := decide_eq_true (by omega)
          have d1' : decide (0 < R) = true := decide_eq_true h9
          clear hsm hm
          go_wp2_with fail
          go_meet
          exact ⟨rfl, rfl⟩
        · obtain rfl : bo = false := by rw [HB2.out, decide_eq_false h9]
          obtain rfl : R = 0 := by omega
          clear h9 hsm hm
          go_wp2_with fail
          go_meet
          exact ⟨rfl, rfl⟩
      · have e2 : (mode == 2) = false := by simp [h2]
        by_cases h3 : mode = 3
        · have HB3 : Hid (bo = (decide (d - R < R) || (decide (R = d - R) && decide (Q % 2 = 1)))) := Lib.hid (by rw [← HBO.out]; unfold awB; rw [if_neg h2, if_pos h3])
          subst h3
          obtain ⟨t, ht⟩ : ∃ t, d - R = t := ⟨_, rfl⟩
          rw [ht] at HB3
          have hr := HR.out
          have hd63 := HD63.out
          have W1 : IntKind.u64.wrap ((d : Int) - (R : Int)) = (t : Int) := by rw [show (d : Int) - (R : Int) = (t : Int) by omega]; exact u64_in _ (by omega)
          clear ht h2 hr hd63 hsm hm
          by_cases g1 : t < R
          · have gI : (t : Int) < (R : Int) := by omega
            have gd : decide ((t : Int) < (R : Int)) = true := decide_eq_true gI
            obtain rfl : bo = true := by rw [HB3.out, decide_eq_true g1, Bool.true_or]
            go_wp2_with fail
            go_meet
            exact ⟨rfl, rfl⟩
          · have gI : ¬ (t : Int) < (R : Int) := by omega
            have gd : decide ((t : Int) < (R : Int)) = false := decide_eq_false gI
            by_cases g2 : R = t
            · have HB4 : Hid (bo = decide (Q % 2 = 1)) := Lib.hid (by rw [HB3.out, decide_eq_false g1, decide_eq_true g2, Bool.false_or, Bool.true_and])
              subst g2
              have ge : ((R : Int) == (R : Int)) = true := by simp
              rcases (by omega : Q % 2 = 0 ∨ Q % 2 = 1) with g3 | g3
              · obtain rfl : bo = false := by rw [HB4.out, g3]; rfl
                have V3 : (Q : Int).tmod 2 = 0 := by rw [Int.tmod_eq_emod_of_nonneg (by omega)]; omega
                have V3' : (Q : Int) % 2 = 0 := by omega
                clear g3
                go_wp2_with fail
                go_meet
                exact ⟨rfl, rfl⟩
              · obtain rfl : bo = true := by rw [HB4.out, g3]; rfl
                have V3 : (Q : Int).tmod 2 = 1 := by rw [Int.tmod_eq_emod_of_nonneg (by omega)]; omega
                have V3' : (Q : Int) % 2 = 1 := by omega
                clear g3
                go_wp2_with fail
                go_meet
                exact ⟨rfl, rfl⟩
            · obtain rfl : bo = false := by rw [HB3.out, decide_eq_false g1, decide_eq_false g2, Bool.false_or, Bool.false_and]
              have ge : ((R : Int) == (t : Int)) = false := by simp; omega
              go_wp2_with fail
              go_meet
              exact ⟨rfl, rfl⟩
        · have e3 : (mode == 3) = false := by simp [h3]
          obtain rfl : bo = false := by rw [← HBO.out]; unfold awB; rw [if_neg h2, if_neg h3]
          clear hsm hm
          go_wp2_with fail
          go_meet
          exact ⟨rfl, rfl⟩
    case rest =>
    obtain ⟨rfl, rfl⟩ := hcut
    obtain ⟨K, hK⟩ : ∃ K, Q + (if bo then 1 else 0) = K := ⟨_, rfl⟩
    rw [hK] at HRAQ
    rw [HRAQ.out] at HCASES
    have HK := Lib.hid hK
    obtain ⟨b1, hb1⟩ : ∃ x, decide (n < 0) = x := ⟨_, rfl⟩
    obtain ⟨b2, hb2⟩ : ∃ x, decide (num < 0) = x := ⟨_, rfl⟩
    obtain ⟨b3, hb3⟩ : ∃ x, decide (den < 0) = x := ⟨_, rfl⟩
    have HNE : Hid (neB n num den = ((b1 != b2) != b3)) := Lib.hid (by unfold neB; rw [hb1, hb2, hb3])
    rw [HNE.out] at HCASES
    have hKQ : bo = false ∧ Q = K ∨ bo = true ∧ Q + 1 = K := by
      cases bo
      · left; exact ⟨rfl, hK⟩
      · right; exact ⟨rfl, hK⟩
    clear hK hsm hm
    by_cases hbg : 1125899906842624 < K
    · have hbI : (1125899906842624 : Int) < (K : Int) := by omega
      obtain ⟨rfl, rfl⟩ : (13 : Int) = E ∧ (0 : Int) = V := by
        rcases HCASES.out with ⟨c1, c2, c3⟩ | ⟨c1, c2, c3⟩
        · exact ⟨c2.symm.trans HE.out, c3.symm.trans HV.out⟩
        · omega
      rcases hKQ with ⟨rfl, rfl⟩ | ⟨rfl, hq⟩
      · clear hbg
        go_wp2_with fail
        go_ret2
        exact ⟨rfl, HBB.out⟩
      · have W1 : IntKind.u64.wrap ((Q : Int) + 1) = (K : Int) := by rw [show (Q : Int) + 1 = (K : Int) by omega]; exact u64_in _ (by have := HSM.out; omega)
        clear hbg hq
        go_wp2_with fail
        go_ret2
        exact ⟨rfl, HBB.out⟩
    · have hbI : ¬ (1125899906842624 : Int) < (K : Int) := by omega
      obtain ⟨rfl, hVK⟩ : (0 : Int) = E ∧ sgn ((b1 != b2) != b3) K = V := by
        rcases HCASES.out with ⟨c1, c2, c3⟩ | ⟨c1, c2, c3⟩
        · omega
        · exact ⟨c2.symm.trans HE.out, c3.symm.trans HV.out⟩
      have X1 : IntKind.i64.wrap (K : Int) = (K : Int) := IntWalk.i64_in _ (by omega)
      have X2 : IntKind.i64.wrap (-(K : Int)) = -(K : Int) := IntWalk.i64_in _ (by omega)
      have HVK := Lib.hid hVK
      clear hVK
      rcases hKQ with ⟨rfl, rfl⟩ | ⟨rfl, hq⟩
      · clear hbg
        rcases fot b1 with rfl | rfl <;> rcases fot b2 with rfl | rfl <;> rcases fot b3 with rfl | rfl <;> (
          go_wp2_with fail
          go_ret2
          rw [← HVK.out]
          exact ⟨rfl, HBB.out⟩)
      · have W1 : IntKind.u64.wrap ((Q : Int) + 1) = (K : Int) := by rw [show (Q : Int) + 1 = (K : Int) by omega]; exact u64_in _ (by have := HSM.out; omega)
        clear hbg hq
        rcases fot b1 with rfl | rfl <;> rcases fot b2 with rfl | rfl <;> rcases fot b3 with rfl | rfl <;> (
          go_wp2_with fail
          go_ret2
          rw [← HVK.out]
          exact ⟨rfl, HBB.out⟩)
set_option maxHeartbeats 2000000 in
theorem ratios_law (x : Int × Int × Int × Int) (w : World) (h : In64 x.1 ∧ In64 x.2.1 ∧ In64 x.2.2.1 ∧ In64 x.2.2.2) (ht : Tb w) : Calls Tryd.prog 4 #[.agg #[.int .i64 x.1, .int .i64 x.2.1, .int .i64 x.2.2.1, .int .i64 x.2.2.2]] w fun e w' => e = .returned (.bool true) ∧ Below w.heap.size w w' := by
  obtain ⟨n, num, den, mode⟩ := x
  obtain ⟨h1, h2, h3, h4⟩ := h
  dsimp only at h1 h2 h3 h4 ⊢
  have HT := Lib.hid ht
  have H1 := Lib.hid h1
  have H2 := Lib.hid h2
  have H3 := Lib.hid h3
  obtain ⟨V, hV⟩ : ∃ V, raV n num den mode = V := ⟨_, rfl⟩
  obtain ⟨E, hE⟩ : ∃ E, raE n num den mode = E := ⟨_, rfl⟩
  have HV := Lib.hid hV
  have HE := Lib.hid hE
  have e1 : (V == V) = true := by simp
  have e2 : (E == E) = true := by simp
  clear ht h1 h2 h3 h4 hV hE
  have HBX := Lib.hid (Bx.new w 34 #[.int .i64 n, .int .i64 num, .int .i64 den, .int .i64 mode])
  have HB := Lib.hid (b1 w (.cells #[.int .i64 n, .int .i64 num, .int .i64 den, .int .i64 mode] 34))
  go_enter Tryd.func4, Tryd.ntmps4
  go_wp2_with fail
  refine (ratio18 n num den mode E V _ H1.out H2.out H3.out HE.out HV.out).mono ?_
  rintro e w1 ⟨rfl, hb⟩
  replace HB := Lib.hid (upB HB.out hb)
  replace HBX := Lib.hid (HBX.out.next hb)
  have hgl := HBX.out.lt
  obtain ⟨k1, k2, k3, k4⟩ := HBX.out.cells4
  clear hb
  go_wp2_with fail
  refine (ratio19 n num den mode E V _ H1.out H2.out H3.out HE.out HV.out).mono ?_
  rintro e w2 ⟨rfl, hb⟩
  replace HB := Lib.hid (upB HB.out hb)
  clear hb k1 k2 k3 k4 hgl
  go_wp2_with fail
  refine (awake11 w2 (HT.out.next HB.out)).mono ?_
  rintro e w3 ⟨rfl, hb⟩
  replace HB := Lib.hid (upB HB.out hb)
  clear hb
  go_wp2_with fail
  go_ret
  exact ⟨rfl, HB.out⟩
end Go.Proofs.YtjipcopfggnlkaaDoor.Wk
