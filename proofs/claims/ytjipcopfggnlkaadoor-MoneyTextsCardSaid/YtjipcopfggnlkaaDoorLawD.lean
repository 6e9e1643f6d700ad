/- The law of amounts and their format, walked. Conditions: the arguments read as they are; the table reads as it is laid. -/
import Derived.Test.YtjipcopfggnlkaaDoorBk
set_option linter.unusedSimpArgs false
set_option linter.unusedVariables false
namespace Go.Proofs.YtjipcopfggnlkaaDoor.Wk
open Go.RowKit
open Go.Proofs.YtjipcopfggnlkaaDoor.Mt
theorem pa_show (n : Int) : (fitB n = true → paE (shL n) = 0 ∧ paV (shL n) = n) ∧ (fitB n = false → paE (shL n) = 13 ∧ paV (shL n) = 0) := by
  obtain ⟨h1, h2, h3⟩ := show_facts n
  constructor
  · intro h
    have hf := (fit_iff n).1 h
    obtain ⟨e1, e2⟩ := pa_ok h1 (by rw [h2]; omega)
    refine ⟨e1, ?_⟩
    rw [e2, h2]
    by_cases h0 : n < 0
    · rw [if_pos (h3.2 h0)]; omega
    · rw [if_neg (fun h => h0 (h3.1 h))]; omega
  · intro h
    have hf := (fit_no n).1 h
    exact pa_big h1 (by rw [h2]; omega)
theorem pa_three (l : List UInt8) : (paE l = 5 ∧ paV l = 0) ∨ (paE l = 13 ∧ paV l = 0) ∨ (paE l = 0 ∧ fitB (paV l) = true ∧ shL (paV l) = l) := by
  rcases fot (amB l) with h | h
  · exact .inl (pa_no h)
  · by_cases hb : 1125899906842624 < nv l
    · exact .inr (.inl (pa_big h hb))
    · obtain ⟨e1, e2⟩ := pa_ok h (by omega)
      refine .inr (.inr ⟨e1, ?_, ?_⟩)
      · rw [e2, fit_iff]
        split <;> omega
      · rw [e2]; exact parse_show h
theorem shL_len {n : Int} (h : In64 n) : (shL n).length ≤ 40 := by
  have h1 : (Lib.decDigits (n.natAbs / 100)).length ≤ 20 := by rw [Lib.decDigits_length]; exact nDigits_le (by unfold In64 at h; omega)
  have h2 : (sg n).length ≤ 1 := by unfold sg; split <;> decide
  have h3 : (ce n.natAbs).length = 2 := rfl
  unfold shL
  simp only [List.length_append, List.length_cons, List.length_nil]
  omega
set_option maxHeartbeats 4000000 in
set_option maxRecDepth 100000 in
theorem back_law (n : Int) (s : ByteArray) (w : World) (hn : In64 n) (ht : Tb w) : Calls Tryd.prog 9 #[.int .i64 n, .string s] w fun e w' => e = .returned (.bool true) ∧ Below w.heap.size w w' := by
  have HT := Lib.hid ht
  have HN := Lib.hid hn
  clear hn ht
  by_cases hbig : 2000 < s.size
  · have d1 : decide ((2000 : Int) < (s.size : Int)) = true := decide_eq_true (by omega)
    go_enter Tryd.func9, Tryd.ntmps9
    go_wp2_with fail
    refine (awake11 w HT.out).mono ?_
    rintro e w1 ⟨rfl, hb⟩
    have HB := Lib.hid hb
    clear hb
    go_wp2_with fail
    go_ret
    exact ⟨rfl, HB.out⟩
  · have d1 : decide ((2000 : Int) < (s.size : Int)) = false := decide_eq_false (by omega)
    go_enter Tryd.func9, Tryd.ntmps9
    go_wp2_with fail
    refine (show25 n w HN.out HT.out).mono ?_
    rintro e w1 ⟨rfl, hb⟩
    have HB := Lib.hid hb
    obtain ⟨X, hX⟩ : ∃ X, strd (shL n) = X := ⟨_, rfl⟩
    rw [hX]
    have HX := Lib.hid hX
    clear hb hX
    go_wp2_with fail
    refine (parse23 X (shL n) w1 (by rw [← HX.out, strd_size]; have := shL_len HN.out; omega) (by rw [← HX.out, strd_list])).mono ?_
    rintro e w2 ⟨rfl, hb⟩
    replace HB := Lib.hid (upB HB.out hb)
    clear hb
    obtain ⟨E, hE⟩ : ∃ E, paE s.data.toList = E := ⟨_, rfl⟩
    obtain ⟨V, hV⟩ : ∃ V, paV s.data.toList = V := ⟨_, rfl⟩
    have h3 := pa_three s.data.toList
    rw [hE, hV] at h3
    have HE := Lib.hid hE
    have HV := Lib.hid hV
    clear hE hV
    have hsz : s.size ≤ 1000000 := by omega
    have HSZ := Lib.hid hsz
    have H3 := Lib.hid h3
    clear h3 hsz
    rcases fot (fitB n) with hf | hf
    · obtain ⟨e1, e2⟩ := (pa_show n).2 hf
      rw [e1, e2]
      have hc := (fit_no n).1 hf
      clear e1 e2 hf
      rcases (by omega : n < -1125899906842624 ∨ (-1125899906842624 ≤ n ∧ 1125899906842624 < n)) with hc | ⟨hc, hc2⟩
      · have g1 : decide ((-1125899906842624 : Int) ≤ n) = false := decide_eq_false (by omega)
        go_wp2_with fail
        refine (parse23 s s.data.toList w2 HSZ.out rfl).mono ?_
        rintro e w3 ⟨rfl, hb⟩
        replace HB := Lib.hid (upB HB.out hb)
        clear hb
        rw [HE.out, HV.out]
        rcases H3.out with ⟨rfl, rfl⟩ | ⟨rfl, rfl⟩ | ⟨rfl, hfv, hsv⟩
        · go_wp2_with fail
          refine (awake11 w3 (HT.out.next HB.out)).mono ?_
          rintro e w4 ⟨rfl, hb⟩
          replace HB := Lib.hid (upB HB.out hb)
          clear hb
          go_wp2_with fail
          go_ret
          exact ⟨rfl, HB.out⟩
        · go_wp2_with fail
          refine (awake11 w3 (HT.out.next HB.out)).mono ?_
          rintro e w4 ⟨rfl, hb⟩
          replace HB := Lib.hid (upB HB.out hb)
          clear hb
          go_wp2_with fail
          go_ret
          exact ⟨rfl, HB.out⟩
        · have HFV := Lib.hid hfv
          have HSV := Lib.hid hsv
          clear hfv hsv
          go_wp2_with fail
          refine (show25 V w3 (by have := (fit_iff V).1 HFV.out; unfold In64; omega) (HT.out.next HB.out)).mono ?_
          rintro e w4 ⟨rfl, hb⟩
          replace HB := Lib.hid (upB HB.out hb)
          clear hb
          rw [HSV.out, strd_of]
          have es : (s.toList == s.toList) = true := by simp
          go_wp2_with fail
          refine (awake11 w4 (HT.out.next HB.out)).mono ?_
          rintro e w5 ⟨rfl, hb⟩
          replace HB := Lib.hid (upB HB.out hb)
          clear hb
          go_wp2_with fail
          go_ret
          exact ⟨rfl, HB.out⟩
      · have g1 : decide ((-1125899906842624 : Int) ≤ n) = true := decide_eq_true (by omega)
        have g2 : decide (n ≤ (1125899906842624 : Int)) = false := decide_eq_false (by omega)
        go_wp2_with fail
        refine (parse23 s s.data.toList w2 HSZ.out rfl).mono ?_
        rintro e w3 ⟨rfl, hb⟩
        replace HB := Lib.hid (upB HB.out hb)
        clear hb
        rw [HE.out, HV.out]
        rcases H3.out with ⟨rfl, rfl⟩ | ⟨rfl, rfl⟩ | ⟨rfl, hfv, hsv⟩
        · go_wp2_with fail
          refine (awake11 w3 (HT.out.next HB.out)).mono ?_
          rintro e w4 ⟨rfl, hb⟩
          replace HB := Lib.hid (upB HB.out hb)
          clear hb
          go_wp2_with fail
          go_ret
          exact ⟨rfl, HB.out⟩
        · go_wp2_with fail
          refine (awake11 w3 (HT.out.next HB.out)).mono ?_
          rintro e w4 ⟨rfl, hb⟩
          replace HB := Lib.hid (upB HB.out hb)
          clear hb
          go_wp2_with fail
          go_ret
          exact ⟨rfl, HB.out⟩
        · have HFV := Lib.hid hfv
          have HSV := Lib.hid hsv
          clear hfv hsv
          go_wp2_with fail
          refine (show25 V w3 (by have := (fit_iff V).1 HFV.out; unfold In64; omega) (HT.out.next HB.out)).mono ?_
          rintro e w4 ⟨rfl, hb⟩
          replace HB := Lib.hid (upB HB.out hb)
          clear hb
          rw [HSV.out, strd_of]
          have es : (s.toList == s.toList) = true := by simp
          go_wp2_with fail
          refine (awake11 w4 (HT.out.next HB.out)).mono ?_
          rintro e w5 ⟨rfl, hb⟩
          replace HB := Lib.hid (upB HB.out hb)
          clear hb
          go_wp2_with fail
          go_ret
          exact ⟨rfl, HB.out⟩
    · obtain ⟨e1, e2⟩ := (pa_show n).1 hf
      rw [e1, e2]
      have hc := (fit_iff n).1 hf
      have g1 : decide ((-1125899906842624 : Int) ≤ n) = true := decide_eq_true hc.1
      have g2 : decide (n ≤ (1125899906842624 : Int)) = true := decide_eq_true hc.2
      have g3 : (n != n) = false := by simp
      clear e1 e2 hf hc
      go_wp2_with fail
      refine (parse23 s s.data.toList w2 HSZ.out rfl).mono ?_
      rintro e w3 ⟨rfl, hb⟩
      replace HB := Lib.hid (upB HB.out hb)
      clear hb
      rw [HE.out, HV.out]
      rcases H3.out with ⟨rfl, rfl⟩ | ⟨rfl, rfl⟩ | ⟨rfl, hfv, hsv⟩
      · go_wp2_with fail
        refine (awake11 w3 (HT.out.next HB.out)).mono ?_
        rintro e w4 ⟨rfl, hb⟩
        replace HB := Lib.hid (upB HB.out hb)
        clear hb
        go_wp2_with fail
        go_ret
        exact ⟨rfl, HB.out⟩
      · go_wp2_with fail
        refine (awake11 w3 (HT.out.next HB.out)).mono ?_
        rintro e w4 ⟨rfl, hb⟩
        replace HB := Lib.hid (upB HB.out hb)
        clear hb
        go_wp2_with fail
        go_ret
        exact ⟨rfl, HB.out⟩
      · have HFV := Lib.hid hfv
        have HSV := Lib.hid hsv
        clear hfv hsv
        go_wp2_with fail
        refine (show25 V w3 (by have := (fit_iff V).1 HFV.out; unfold In64; omega) (HT.out.next HB.out)).mono ?_
        rintro e w4 ⟨rfl, hb⟩
        replace HB := Lib.hid (upB HB.out hb)
        clear hb
        rw [HSV.out, strd_of]
        have es : (s.toList == s.toList) = true := by simp
        go_wp2_with fail
        refine (awake11 w4 (HT.out.next HB.out)).mono ?_
        rintro e w5 ⟨rfl, hb⟩
        replace HB := Lib.hid (upB HB.out hb)
        clear hb
        go_wp2_with fail
        go_ret
        exact ⟨rfl, HB.out⟩
end Go.Proofs.YtjipcopfggnlkaaDoor.Wk
