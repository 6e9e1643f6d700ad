/- The contract of Spans in the reference. No condition. -/
import Derived.Test.YtfpndiacbpinpaaDoorSpm
import Derived.Test.YtfpndiacbpinpaaDoorSp
set_option linter.unusedSimpArgs false
set_option linter.unusedVariables false
namespace Go.Proofs.YtfpndiacbpinpaaDoor.Wk
open Go.RowKit
open Go.Proofs.YtfpndiacbpinpaaDoor.Mt
theorem Day_q (t : Int) (w : World) (h0 : 0 ≤ t) (h1 : t < 68719476736) : Calls Tryd.prog 14 #[.int .i64 t] w fun e w' => e = .returned (.int .i64 (t / 86400)) ∧ w' = w :=
  (Day_any t w).mono fun e w' ⟨h2, h3⟩ => ⟨by rw [h2, dayS_in ((isT_iff t).2 ⟨h0, h1⟩)], h3.symm⟩
set_option maxHeartbeats 8000000 in
set_option maxRecDepth 100000 in
theorem Spans_any (d f t a b : Int) (w : World) : Calls Tryd.prog 27 #[.agg #[.int .i64 d, .int .i64 f, .int .i64 t], .agg #[.int .i64 a, .int .i64 b]] w (SpR (spansS d f t a b) w) := by
  have HR := Lib.hid (Ro.start w #[.int .i64 d, .int .i64 f, .int .i64 t] #[.int .i64 a, .int .i64 b])
  obtain ⟨i0, hi0, hz0, hs0, hb0'⟩ := info_parts ivl_info
  rcases fot (vi a b) with hv | hv
  · have HS := Lib.hid (sp_time (d := d) (f := f) (t := t) hv)
    have HV := Lib.hid hv
    clear hv
    go_enter Tryd.func27, Tryd.ntmps27
    go_wp2_with fail
    refine (Vint_any a b _).mono ?_
    rintro e w0 ⟨rfl, hb⟩
    rw [HV.out]
    replace HR := Lib.hid (HR.out.next hb)
    clear hb
    go_wp2_with fail
    go_ret2
    exact SpR.nil HS.out HR.out.bel
  have HV := Lib.hid hv
  obtain ⟨g1, g2, g3⟩ := (vi_iff a b).1 hv
  have hF0 : 0 ≤ a / 86400 ∧ a / 86400 ≤ 795364 := by omega
  have hL0 : a / 86400 ≤ (b - 1) / 86400 ∧ (b - 1) / 86400 ≤ 795364 := by omega
  obtain ⟨F, hF⟩ : ∃ F, a / 86400 = F := ⟨_, rfl⟩
  obtain ⟨L, hL⟩ : ∃ L, (b - 1) / 86400 = L := ⟨_, rfl⟩
  have HW2 := Lib.hid (IntWalk.i64_in (b - 1) (by omega))
  have HW1 : Hid (IntKind.i64.wrap (a.tdiv 86400) = F) := Lib.hid (by rw [Int.tdiv_eq_ediv_of_nonneg (by omega), IntWalk.i64_in _ (by omega)]; exact hF)
  have HW3 : Hid (IntKind.i64.wrap ((b - 1).tdiv 86400) = L) := Lib.hid (by rw [Int.tdiv_eq_ediv_of_nonneg (by omega), IntWalk.i64_in _ (by omega)]; exact hL)
  have HF := Lib.hid hF
  have HLL := Lib.hid hL
  rw [hF] at hF0 hL0
  rw [hL] at hL0
  by_cases q4 : 366 ≤ L - F
  · have HS := Lib.hid (sp_limit (d := d) (f := f) (t := t) hv (by rw [hF, hL]; exact q4))
    clear hF hL hv
    go_enter Tryd.func27, Tryd.ntmps27
    go_wp2_with fail
    refine (Vint_any a b _).mono ?_
    rintro e w0 ⟨rfl, hb⟩
    rw [HV.out]
    replace HR := Lib.hid (HR.out.next hb)
    clear hb
    replace HR := Lib.hid (HR.out.next (Below.refl w0.heap.size w0).drew)
    obtain ⟨e0, e1⟩ := HR.out.bi.cells2
    go_wp2_with fail
    first | (go_region_held3 (fun w' => w'.cell? ⟨w.heap.size + 1, 0, none⟩ = some (.int .i64 a) ∧ w'.cell? ⟨w.heap.size + 1, 1, none⟩ = some (.int .i64 b)) (first | exact ⟨e0, e1⟩ | assumption) (fail)) | fail
    clear e0 e1
    rw [HW2.out, HW1.out, HW3.out]
    go_wp2_with fail
    go_ret2
    exact SpR.nil HS.out HR.out.bel
  rcases fot (vw d f t) with hw | hw
  · have HS := Lib.hid (sp_none hv (by rw [hF, hL]; exact q4) hw)
    have HW := Lib.hid hw
    clear hF hL hv hw
    go_enter Tryd.func27, Tryd.ntmps27
    go_wp2_with fail
    refine (Vint_any a b _).mono ?_
    rintro e w0 ⟨rfl, hb⟩
    rw [HV.out]
    replace HR := Lib.hid (HR.out.next hb)
    clear hb
    replace HR := Lib.hid (HR.out.next (Below.refl w0.heap.size w0).drew)
    obtain ⟨e0, e1⟩ := HR.out.bi.cells2
    go_wp2_with fail
    first | (go_region_held3 (fun w' => w'.cell? ⟨w.heap.size + 1, 0, none⟩ = some (.int .i64 a) ∧ w'.cell? ⟨w.heap.size + 1, 1, none⟩ = some (.int .i64 b)) (first | exact ⟨e0, e1⟩ | assumption) (fail)) | fail
    clear e0 e1
    rw [HW2.out, HW1.out, HW3.out]
    obtain ⟨c0, c1, c2⟩ := HR.out.bw.cells3
    go_wp2_with fail
    refine (Vwin_any d f t _).mono ?_
    rintro e w1 ⟨rfl, hb⟩
    rw [HW.out]
    replace HR := Lib.hid (HR.out.next hb)
    clear hb c0 c1 c2
    go_wp2_with fail
    go_ret2
    exact SpR.nil HS.out HR.out.bel
  · have HS := Lib.hid (sp_ok hv (by rw [hF, hL]; exact q4) hw hF hL)
    have HW := Lib.hid hw
    obtain ⟨v1, v2, v3, v4, v5⟩ := (vw_iff d f t).1 hw
    clear hF hL hv hw
    go_enter Tryd.func27, Tryd.ntmps27
    go_wp2_with fail
    refine (Vint_any a b _).mono ?_
    rintro e w0 ⟨rfl, hb⟩
    rw [HV.out]
    replace HR := Lib.hid (HR.out.next hb)
    clear hb
    replace HR := Lib.hid (HR.out.next (Below.refl w0.heap.size w0).drew)
    obtain ⟨e0, e1⟩ := HR.out.bi.cells2
    go_wp2_with fail
    first | (go_region_held3 (fun w' => w'.cell? ⟨w.heap.size + 1, 0, none⟩ = some (.int .i64 a) ∧ w'.cell? ⟨w.heap.size + 1, 1, none⟩ = some (.int .i64 b)) (first | exact ⟨e0, e1⟩ | assumption) (fail)) | fail
    clear e0 e1
    rw [HW2.out, HW1.out, HW3.out]
    obtain ⟨c0, c1, c2⟩ := HR.out.bw.cells3
    go_wp2_with fail
    refine (Vwin_any d f t _).mono ?_
    rintro e w1 ⟨rfl, hb⟩
    rw [HW.out]
    replace HR := Lib.hid (HR.out.next hb)
    clear hb c0 c1 c2
    go_wp2_with fail
    go_loopw [8, 9] (fun v yy wr => ∃ k : Nat, k ≤ (L - F + 1).toNat ∧ yy = .int .i64 (F + (k : Int)) ∧ Hid (Ro w wr #[.int .i64 d, .int .i64 f, .int .i64 t] #[.int .i64 a, .int .i64 b] v (spn d f t a b F k))) (fun _ yy _ => (L + 1 - intOf yy).toNat)
    case atStart => exact ⟨0, Nat.zero_le _, congrArg _ (by simp), HR⟩
    case round =>
      clear HR
      obtain ⟨k, hk, rfl, HR⟩ := hrel
      obtain ⟨l, hl⟩ : ∃ l, spn d f t a b F k = l := ⟨_, rfl⟩
      have HLN : Hid (l.length ≤ k) := Lib.hid (by rw [← hl]; exact spn_len _ _ _ _ _ _ _)
      rw [hl] at HR
      have HL := Lib.hid hl
      clear hl
      by_cases hlt : (k : Int) < L - F + 1
      · obtain ⟨y, hy⟩ : ∃ y, F + (k : Int) = y := ⟨_, rfl⟩
        have HY := Lib.hid hy
        have hyL : y ≤ L := by omega
        rw [hy]
        have hy0 : 0 ≤ y := by omega
        have hy1 : y ≤ 795364 := by omega
        obtain ⟨fr, hfr⟩ : ∃ fr, frm f a y = fr := ⟨_, rfl⟩
        obtain ⟨to, hto⟩ : ∃ to, tot t b y = to := ⟨_, rfl⟩
        obtain ⟨bb, hbb⟩ : ∃ bb, bt d (y % 7) = bb := ⟨_, rfl⟩
        have HSK : Hid (¬ (bb = true ∧ fr < to) → spn d f t a b F (k + 1) = l) := Lib.hid (fun h => spn_skip HY.out HL.out (by rw [hbb, hfr, hto]; exact h))
        have HPU : Hid (bb = true ∧ fr < to → spn d f t a b F (k + 1) = push l fr to) := Lib.hid (fun h => by rw [spn_push HY.out HL.out (by rw [hbb, hfr, hto]; exact h), hfr, hto])
        have HBB := Lib.hid hbb
        clear hbb
        clear hy
        have HFR := Lib.hid hfr
        have HTO := Lib.hid hto
        clear hfr hto
        obtain ⟨c0, c1, c2⟩ := HR.out.bw.cells3
        obtain ⟨e0, e1⟩ := HR.out.bi.cells2
        go_wp2_with fail
        refine (set_any _ _ _ (by omega) (by omega) (by omega) (by omega)).mono ?_
        rintro e w2 ⟨rfl, rfl⟩
        rw [HBB.out]
        rcases fot bb with rfl | rfl
        · have HX := Lib.hid (HSK.out (by simp))
          clear c0 c1 c2 e0 e1
          go_wp2_with fail
          go_roundw
          case rel => exact ⟨k + 1, by omega, congrArg _ (by have := HY.out; omega), Lib.hid (by rw [HX.out]; exact HR.out)⟩
          case measure => simp [intOf]; omega
        · clear c0 c1 c2 e0 e1
          replace HR := Lib.hid (HR.out.next (Below.refl wr.heap.size wr).drew)
          obtain ⟨c0, c1, c2⟩ := HR.out.bw.cells3
          obtain ⟨e0, e1⟩ := HR.out.bi.cells2
          go_wp2_with fail
          first | (go_region_held3 (fun w' => w'.cell? ⟨w.heap.size, 1, none⟩ = some (.int .i64 f) ∧ w'.cell? ⟨w.heap.size, 2, none⟩ = some (.int .i64 t)) (first | exact ⟨c1, c2⟩ | assumption) (fail)) | fail
          rw [IntWalk.i64_in (y * 86400) (by omega), IntWalk.i64_in (f * 60) (by omega), IntWalk.i64_in (t * 60) (by omega), IntWalk.i64_in (y * 86400 + f * 60) (by omega), IntWalk.i64_in (y * 86400 + t * 60) (by omega)]
          by_cases qa : y * 86400 + f * 60 < a
          · have hfa : a = fr := by rw [← HFR.out]; unfold frm; omega
            subst hfa
            by_cases qb : b < y * 86400 + t * 60
            · have hta : b = to := by rw [← HTO.out]; unfold tot; omega
              subst hta
              by_cases q5 : a < b
              · have q5' : decide (b ≤ a) = false := decide_eq_false (by omega)
                have HP := Lib.hid (HPU.out (by first | exact ⟨rfl, q5⟩ | exact ⟨trivial, q5⟩))
                clear q5
                rcases snoc_cases l with rfl | ⟨l, p, rfl⟩
                · obtain rfl := HR.out.nl rfl
                  have HX : Hid (spn d f t a b F (k + 1) = [] ++ [(a, b)]) := Lib.hid (by rw [HP.out, push_nil]; rfl)
                  have H3 : Hid (([] : List (Int × Int)).length + 1 ≤ maxLen) := Lib.hid (by unfold maxLen; simp; try omega)
                  have H4 : Hid ((([] : List (Int × Int)).length + 1) * 16 ≤ 140737488355328) := Lib.hid (by simp; try omega)
                  go_wp2_with (at_builtin; refine wpList_append_own _ rfl _ _ 39 rfl (w.heap.size + 2) 38 i0 (.agg #[.int .i64 0, .int .i64 0]) 2 16 Tryd.underlying39 hi0 hz0 hs0 hb0' rfl (by omega) _ _ _ rfl (HR.out.ow.alloc _) ⟨_, 0, none⟩ 1 1 [.int .i64 a, .int .i64 b] rfl rfl (new_cells _ _ _ _) (two_one _ _) H3.out H4.out (HR.out.base _) ?_)
                  intro v' w9 hown hgrow _
                  have HR9 := Lib.hid (HR.out.app (by first | exact hown | (rw [List.length_append]; exact hown)) hgrow)
                  clear hown hgrow
                  go_wp2_with fail
                  go_roundw
                  case rel => exact ⟨k + 1, by omega, congrArg _ (by have := HY.out; omega), Lib.hid (by rw [HX.out]; exact HR9.out)⟩
                  case measure => simp [intOf]; omega
                · obtain ⟨g, cap, rfl, hgb, hgl, hcell, hfree⟩ := HR.out.form
                  have hll : l.length < 366 := by have := HLN.out; simp at this; omega
                  have hi1 : decide ((0 : Int) < (l.length : Int) + 1) = true := decide_eq_true (by omega)
                  by_cases hj : p.2 = a
                  · have HX : Hid (spn d f t a b F (k + 1) = l ++ [(p.1, b)]) := Lib.hid (by rw [HP.out, push_join hj])
                    have hj' : (p.2 == a) = true := by simp [hj]
                    clear hj
                    go_wp2_with fail
                    replace HR := Lib.hid (HR.out.stored (b := b) hgb)
                    go_roundw
                    case rel => exact ⟨k + 1, by omega, congrArg _ (by have := HY.out; omega), Lib.hid (by rw [HX.out]; exact HR.out)⟩
                    case measure => simp [intOf]; omega
                  · have HX : Hid (spn d f t a b F (k + 1) = l ++ [p] ++ [(a, b)]) := Lib.hid (by rw [HP.out, push_more hj])
                    have hj' : (p.2 == a) = false := by simp [hj]
                    clear hj
                    have H3 : Hid ((l ++ [p]).length + 1 ≤ maxLen) := Lib.hid (by unfold maxLen; simp; try omega)
                    have H4 : Hid (((l ++ [p]).length + 1) * 16 ≤ 140737488355328) := Lib.hid (by simp; try omega)
                    go_wp2_with (at_builtin; refine wpList_append_own _ rfl _ _ 39 rfl (w.heap.size + 2) 38 i0 (.agg #[.int .i64 0, .int .i64 0]) 2 16 Tryd.underlying39 hi0 hz0 hs0 hb0' rfl (by omega) _ _ _ rfl (HR.out.ow.alloc _) ⟨_, 0, none⟩ 1 1 [.int .i64 a, .int .i64 b] rfl rfl (new_cells _ _ _ _) (two_one _ _) H3.out H4.out (HR.out.base _) ?_)
                    intro v' w9 hown hgrow _
                    have HR9 := Lib.hid (HR.out.app (by first | exact hown | (rw [List.length_append]; exact hown)) hgrow)
                    clear hown hgrow
                    go_wp2_with fail
                    go_roundw
                    case rel => exact ⟨k + 1, by omega, congrArg _ (by have := HY.out; omega), Lib.hid (by rw [HX.out]; exact HR9.out)⟩
                    case measure => simp [intOf]; omega
              · have q5' : decide (b ≤ a) = true := decide_eq_true (by omega)
                have HX := Lib.hid (HSK.out (fun h => q5 h.2))
                clear q5
                go_wp2_with fail
                go_roundw
                case rel => exact ⟨k + 1, by omega, congrArg _ (by have := HY.out; omega), Lib.hid (by rw [HX.out]; exact HR.out)⟩
                case measure => simp [intOf]; omega
            · have hta : (y * 86400 + t * 60) = to := by rw [← HTO.out]; unfold tot; omega
              subst hta
              by_cases q5 : a < (y * 86400 + t * 60)
              · have q5' : decide ((y * 86400 + t * 60) ≤ a) = false := decide_eq_false (by omega)
                have HP := Lib.hid (HPU.out (by first | exact ⟨rfl, q5⟩ | exact ⟨trivial, q5⟩))
                clear q5
                rcases snoc_cases l with rfl | ⟨l, p, rfl⟩
                · obtain rfl := HR.out.nl rfl
                  have HX : Hid (spn d f t a b F (k + 1) = [] ++ [(a, (y * 86400 + t * 60))]) := Lib.hid (by rw [HP.out, push_nil]; rfl)
                  have H3 : Hid (([] : List (Int × Int)).length + 1 ≤ maxLen) := Lib.hid (by unfold maxLen; simp; try omega)
                  have H4 : Hid ((([] : List (Int × Int)).length + 1) * 16 ≤ 140737488355328) := Lib.hid (by simp; try omega)
                  go_wp2_with (at_builtin; refine wpList_append_own _ rfl _ _ 39 rfl (w.heap.size + 2) 38 i0 (.agg #[.int .i64 0, .int .i64 0]) 2 16 Tryd.underlying39 hi0 hz0 hs0 hb0' rfl (by omega) _ _ _ rfl (HR.out.ow.alloc _) ⟨_, 0, none⟩ 1 1 [.int .i64 a, .int .i64 (y * 86400 + t * 60)] rfl rfl (new_cells _ _ _ _) (two_one _ _) H3.out H4.out (HR.out.base _) ?_)
                  intro v' w9 hown hgrow _
                  have HR9 := Lib.hid (HR.out.app (by first | exact hown | (rw [List.length_append]; exact hown)) hgrow)
                  clear hown hgrow
                  go_wp2_with fail
                  go_roundw
                  case rel => exact ⟨k + 1, by omega, congrArg _ (by have := HY.out; omega), Lib.hid (by rw [HX.out]; exact HR9.out)⟩
                  case measure => simp [intOf]; omega
                · obtain ⟨g, cap, rfl, hgb, hgl, hcell, hfree⟩ := HR.out.form
                  have hll : l.length < 366 := by have := HLN.out; simp at this; omega
                  have hi1 : decide ((0 : Int) < (l.length : Int) + 1) = true := decide_eq_true (by omega)
                  by_cases hj : p.2 = a
                  · have HX : Hid (spn d f t a b F (k + 1) = l ++ [(p.1, (y * 86400 + t * 60))]) := Lib.hid (by rw [HP.out, push_join hj])
                    have hj' : (p.2 == a) = true := by simp [hj]
                    clear hj
                    go_wp2_with fail
                    replace HR := Lib.hid (HR.out.stored (b := (y * 86400 + t * 60)) hgb)
                    go_roundw
                    case rel => exact ⟨k + 1, by omega, congrArg _ (by have := HY.out; omega), Lib.hid (by rw [HX.out]; exact HR.out)⟩
                    case measure => simp [intOf]; omega
                  · have HX : Hid (spn d f t a b F (k + 1) = l ++ [p] ++ [(a, (y * 86400 + t * 60))]) := Lib.hid (by rw [HP.out, push_more hj])
                    have hj' : (p.2 == a) = false := by simp [hj]
                    clear hj
                    have H3 : Hid ((l ++ [p]).length + 1 ≤ maxLen) := Lib.hid (by unfold maxLen; simp; try omega)
                    have H4 : Hid (((l ++ [p]).length + 1) * 16 ≤ 140737488355328) := Lib.hid (by simp; try omega)
                    go_wp2_with (at_builtin; refine wpList_append_own _ rfl _ _ 39 rfl (w.heap.size + 2) 38 i0 (.agg #[.int .i64 0, .int .i64 0]) 2 16 Tryd.underlying39 hi0 hz0 hs0 hb0' rfl (by omega) _ _ _ rfl (HR.out.ow.alloc _) ⟨_, 0, none⟩ 1 1 [.int .i64 a, .int .i64 (y * 86400 + t * 60)] rfl rfl (new_cells _ _ _ _) (two_one _ _) H3.out H4.out (HR.out.base _) ?_)
                    intro v' w9 hown hgrow _
                    have HR9 := Lib.hid (HR.out.app (by first | exact hown | (rw [List.length_append]; exact hown)) hgrow)
                    clear hown hgrow
                    go_wp2_with fail
                    go_roundw
                    case rel => exact ⟨k + 1, by omega, congrArg _ (by have := HY.out; omega), Lib.hid (by rw [HX.out]; exact HR9.out)⟩
                    case measure => simp [intOf]; omega
              · have q5' : decide ((y * 86400 + t * 60) ≤ a) = true := decide_eq_true (by omega)
                have HX := Lib.hid (HSK.out (fun h => q5 h.2))
                clear q5
                go_wp2_with fail
                go_roundw
                case rel => exact ⟨k + 1, by omega, congrArg _ (by have := HY.out; omega), Lib.hid (by rw [HX.out]; exact HR.out)⟩
                case measure => simp [intOf]; omega
          · have hfa : (y * 86400 + f * 60) = fr := by rw [← HFR.out]; unfold frm; omega
            subst hfa
            by_cases qb : b < y * 86400 + t * 60
            · have hta : b = to := by rw [← HTO.out]; unfold tot; omega
              subst hta
              by_cases q5 : (y * 86400 + f * 60) < b
              · have q5' : decide (b ≤ (y * 86400 + f * 60)) = false := decide_eq_false (by omega)
                have HP := Lib.hid (HPU.out (by first | exact ⟨rfl, q5⟩ | exact ⟨trivial, q5⟩))
                clear q5
                rcases snoc_cases l with rfl | ⟨l, p, rfl⟩
                · obtain rfl := HR.out.nl rfl
                  have HX : Hid (spn d f t a b F (k + 1) = [] ++ [((y * 86400 + f * 60), b)]) := Lib.hid (by rw [HP.out, push_nil]; rfl)
                  have H3 : Hid (([] : List (Int × Int)).length + 1 ≤ maxLen) := Lib.hid (by unfold maxLen; simp; try omega)
                  have H4 : Hid ((([] : List (Int × Int)).length + 1) * 16 ≤ 140737488355328) := Lib.hid (by simp; try omega)
                  go_wp2_with (at_builtin; refine wpList_append_own _ rfl _ _ 39 rfl (w.heap.size + 2) 38 i0 (.agg #[.int .i64 0, .int .i64 0]) 2 16 Tryd.underlying39 hi0 hz0 hs0 hb0' rfl (by omega) _ _ _ rfl (HR.out.ow.alloc _) ⟨_, 0, none⟩ 1 1 [.int .i64 (y * 86400 + f * 60), .int .i64 b] rfl rfl (new_cells _ _ _ _) (two_one _ _) H3.out H4.out (HR.out.base _) ?_)
                  intro v' w9 hown hgrow _
                  have HR9 := Lib.hid (HR.out.app (by first | exact hown | (rw [List.length_append]; exact hown)) hgrow)
                  clear hown hgrow
                  go_wp2_with fail
                  go_roundw
                  case rel => exact ⟨k + 1, by omega, congrArg _ (by have := HY.out; omega), Lib.hid (by rw [HX.out]; exact HR9.out)⟩
                  case measure => simp [intOf]; omega
                · obtain ⟨g, cap, rfl, hgb, hgl, hcell, hfree⟩ := HR.out.form
                  have hll : l.length < 366 := by have := HLN.out; simp at this; omega
                  have hi1 : decide ((0 : Int) < (l.length : Int) + 1) = true := decide_eq_true (by omega)
                  by_cases hj : p.2 = (y * 86400 + f * 60)
                  · have HX : Hid (spn d f t a b F (k + 1) = l ++ [(p.1, b)]) := Lib.hid (by rw [HP.out, push_join hj])
                    have hj' : (p.2 == (y * 86400 + f * 60)) = true := by simp [hj]
                    clear hj
                    go_wp2_with fail
                    replace HR := Lib.hid (HR.out.stored (b := b) hgb)
                    go_roundw
                    case rel => exact ⟨k + 1, by omega, congrArg _ (by have := HY.out; omega), Lib.hid (by rw [HX.out]; exact HR.out)⟩
                    case measure => simp [intOf]; omega
                  · have HX : Hid (spn d f t a b F (k + 1) = l ++ [p] ++ [((y * 86400 + f * 60), b)]) := Lib.hid (by rw [HP.out, push_more hj])
                    have hj' : (p.2 == (y * 86400 + f * 60)) = false := by simp [hj]
                    clear hj
                    have H3 : Hid ((l ++ [p]).length + 1 ≤ maxLen) := Lib.hid (by unfold maxLen; simp; try omega)
                    have H4 : Hid (((l ++ [p]).length + 1) * 16 ≤ 140737488355328) := Lib.hid (by simp; try omega)
                    go_wp2_with (at_builtin; refine wpList_append_own _ rfl _ _ 39 rfl (w.heap.size + 2) 38 i0 (.agg #[.int .i64 0, .int .i64 0]) 2 16 Tryd.underlying39 hi0 hz0 hs0 hb0' rfl (by omega) _ _ _ rfl (HR.out.ow.alloc _) ⟨_, 0, none⟩ 1 1 [.int .i64 (y * 86400 + f * 60), .int .i64 b] rfl rfl (new_cells _ _ _ _) (two_one _ _) H3.out H4.out (HR.out.base _) ?_)
                    intro v' w9 hown hgrow _
                    have HR9 := Lib.hid (HR.out.app (by first | exact hown | (rw [List.length_append]; exact hown)) hgrow)
                    clear hown hgrow
                    go_wp2_with fail
                    go_roundw
                    case rel => exact ⟨k + 1, by omega, congrArg _ (by have := HY.out; omega), Lib.hid (by rw [HX.out]; exact HR9.out)⟩
                    case measure => simp [intOf]; omega
              · have q5' : decide (b ≤ (y * 86400 + f * 60)) = true := decide_eq_true (by omega)
                have HX := Lib.hid (HSK.out (fun h => q5 h.2))
                clear q5
                go_wp2_with fail
                go_roundw
                case rel => exact ⟨k + 1, by omega, congrArg _ (by have := HY.out; omega), Lib.hid (by rw [HX.out]; exact HR.out)⟩
                case measure => simp [intOf]; omega
            · have hta : (y * 86400 + t * 60) = to := by rw [← HTO.out]; unfold tot; omega
              subst hta
              by_cases q5 : (y * 86400 + f * 60) < (y * 86400 + t * 60)
              · have q5' : decide ((y * 86400 + t * 60) ≤ (y * 86400 + f * 60)) = false := decide_eq_false (by omega)
                have HP := Lib.hid (HPU.out (by first | exact ⟨rfl, q5⟩ | exact ⟨trivial, q5⟩))
                clear q5
                rcases snoc_cases l with rfl | ⟨l, p, rfl⟩
                · obtain rfl := HR.out.nl rfl
                  have HX : Hid (spn d f t a b F (k + 1) = [] ++ [((y * 86400 + f * 60), (y * 86400 + t * 60))]) := Lib.hid (by rw [HP.out, push_nil]; rfl)
                  have H3 : Hid (([] : List (Int × Int)).length + 1 ≤ maxLen) := Lib.hid (by unfold maxLen; simp; try omega)
                  have H4 : Hid ((([] : List (Int × Int)).length + 1) * 16 ≤ 140737488355328) := Lib.hid (by simp; try omega)
                  go_wp2_with (at_builtin; refine wpList_append_own _ rfl _ _ 39 rfl (w.heap.size + 2) 38 i0 (.agg #[.int .i64 0, .int .i64 0]) 2 16 Tryd.underlying39 hi0 hz0 hs0 hb0' rfl (by omega) _ _ _ rfl (HR.out.ow.alloc _) ⟨_, 0, none⟩ 1 1 [.int .i64 (y * 86400 + f * 60), .int .i64 (y * 86400 + t * 60)] rfl rfl (new_cells _ _ _ _) (two_one _ _) H3.out H4.out (HR.out.base _) ?_)
                  intro v' w9 hown hgrow _
                  have HR9 := Lib.hid (HR.out.app (by first | exact hown | (rw [List.length_append]; exact hown)) hgrow)
                  clear hown hgrow
                  go_wp2_with fail
                  go_roundw
                  case rel => exact ⟨k + 1, by omega, congrArg _ (by have := HY.out; omega), Lib.hid (by rw [HX.out]; exact HR9.out)⟩
                  case measure => simp [intOf]; omega
                · obtain ⟨g, cap, rfl, hgb, hgl, hcell, hfree⟩ := HR.out.form
                  have hll : l.length < 366 := by have := HLN.out; simp at this; omega
                  have hi1 : decide ((0 : Int) < (l.length : Int) + 1) = true := decide_eq_true (by omega)
                  by_cases hj : p.2 = (y * 86400 + f * 60)
                  · have HX : Hid (spn d f t a b F (k + 1) = l ++ [(p.1, (y * 86400 + t * 60))]) := Lib.hid (by rw [HP.out, push_join hj])
                    have hj' : (p.2 == (y * 86400 + f * 60)) = true := by simp [hj]
                    clear hj
                    go_wp2_with fail
                    replace HR := Lib.hid (HR.out.stored (b := (y * 86400 + t * 60)) hgb)
                    go_roundw
                    case rel => exact ⟨k + 1, by omega, congrArg _ (by have := HY.out; omega), Lib.hid (by rw [HX.out]; exact HR.out)⟩
                    case measure => simp [intOf]; omega
                  · have HX : Hid (spn d f t a b F (k + 1) = l ++ [p] ++ [((y * 86400 + f * 60), (y * 86400 + t * 60))]) := Lib.hid (by rw [HP.out, push_more hj])
                    have hj' : (p.2 == (y * 86400 + f * 60)) = false := by simp [hj]
                    clear hj
                    have H3 : Hid ((l ++ [p]).length + 1 ≤ maxLen) := Lib.hid (by unfold maxLen; simp; try omega)
                    have H4 : Hid (((l ++ [p]).length + 1) * 16 ≤ 140737488355328) := Lib.hid (by simp; try omega)
                    go_wp2_with (at_builtin; refine wpList_append_own _ rfl _ _ 39 rfl (w.heap.size + 2) 38 i0 (.agg #[.int .i64 0, .int .i64 0]) 2 16 Tryd.underlying39 hi0 hz0 hs0 hb0' rfl (by omega) _ _ _ rfl (HR.out.ow.alloc _) ⟨_, 0, none⟩ 1 1 [.int .i64 (y * 86400 + f * 60), .int .i64 (y * 86400 + t * 60)] rfl rfl (new_cells _ _ _ _) (two_one _ _) H3.out H4.out (HR.out.base _) ?_)
                    intro v' w9 hown hgrow _
                    have HR9 := Lib.hid (HR.out.app (by first | exact hown | (rw [List.length_append]; exact hown)) hgrow)
                    clear hown hgrow
                    go_wp2_with fail
                    go_roundw
                    case rel => exact ⟨k + 1, by omega, congrArg _ (by have := HY.out; omega), Lib.hid (by rw [HX.out]; exact HR9.out)⟩
                    case measure => simp [intOf]; omega
              · exact absurd (by omega) q5
      · have hyL : ¬ F + (k : Int) ≤ L := by omega
        have HE : Hid ((spansS d f t a b).1 = l ∧ (spansS d f t a b).2 = 0) := Lib.hid (by rw [HS.out]; refine ⟨?_, rfl⟩; rw [← HL.out, show k = (L - F + 1).toNat by omega])
        have hll : l.length ≤ 9223372036854775807 := by have := HLN.out; omega
        obtain ⟨A, n, c, hv', hRv⟩ := Rv.of_own HR.out.ow hll
        subst hv'
        have HV := Lib.hid hRv
        clear hRv
        go_wp2_with fail
        go_ret2
        exact SpR.own HE.out.1 HE.out.2 HV.out HR.out.bel
end Go.Proofs.YtfpndiacbpinpaaDoor.Wk
