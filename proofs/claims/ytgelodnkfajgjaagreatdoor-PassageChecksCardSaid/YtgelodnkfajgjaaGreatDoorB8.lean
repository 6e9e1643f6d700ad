/- The check of a passage, both sides, and the law. Conditions: as each theorem names them. -/
import Derived.Lib.ItoaLen
import Derived.Test.YtgelodnkfajgjaaGreatDoorAl6
import Derived.Test.YtgelodnkfajgjaaGreatDoorB7
set_option linter.unusedSimpArgs false
set_option linter.unusedVariables false
namespace Go.Proofs.YtgelodnkfajgjaaGreatDoor.Wk
open Go Go.RowKit Go.Shelf Go.Lib Go.Proofs.YtgelodnkfajgjaaGreatDoor Go.Proofs.YtgelodnkfajgjaaGreatDoor.Pm Go.Proofs.YtgelodnkfajgjaaGreatDoor.Av
set_option maxHeartbeats 4000000 in
set_option maxRecDepth 100000 in
theorem pckC (p : Psg) (n : Nwk) (hz : szP p) (hn : 0 < p.src.length → -9223372036854775808 ≤ (ix p.src 0).seq ∧ (ix p.src 0).seq ≤ 9223372036854775807) : CtrK Tryz.prog K2 7 [.ag (ePsg p), .ag (eNwk n)] (.d (.fl (.int .i64 (pck p n)))) := by
  have hzt := hz.t
  have hzl := hz.l
  refine ctrK (n := 87) (rs := #[.tmp 4]) (L := [(0, .d (.ag (ePsg p))), (1, .d (.ag (eNwk n)))]) Tryz.func7 rfl rfl rfl rfl rfl (fun w0 U0 hG => ?_)
  refine a_rseq ?_
  refine rg_nam (d := 2) (v := .pt 101 0) (m := 101) (nw := [(101, .bx 24 (ePsg p))]) rfl (og rfl (of_eff (op_box 101 rfl rfl rfl rfl) rfl)) rfl ?_
  refine rg_nam (d := 3) (v := .pt 102 0) (m := 102) (nw := [(102, .bx 32 (eNwk n))]) rfl (og rfl (of_eff (op_box 102 rfl rfl rfl rfl) rfl)) rfl ?_
  refine rg_put (d := 4) (v := .d (.fl (.int .i64 0))) rfl (og rfl (op_assign rfl rfl rfl)) ?_
  refine rg_done rfl ?_
  refine a_seq ?_
  refine a_rseq ?_
  refine rg_put (d := 9) (v := .d (.ag (eNwk n))) rfl (og rfl (of_eff (s_load_pts rfl Tryz.underlying32 rfl ti32 rfl rfl rfl rfl) rfl)) ?_
  refine rg_put (d := 10) (v := .pt 101 1) rfl (og rfl (of_eff (s_field_pt rfl Tryz.underlying24 rfl ti9 rfl rfl rfl) rfl)) ?_
  refine rg_put (d := 11) (v := .d (.fl (.string p.point))) rfl (og rfl (op_load_pt rfl Tryz.underlying9 rfl rfl rfl rfl rfl)) ?_
  refine rg_put (d := 12) (v := .tu [.ag (ePnt ((gfE n p.point).1)), .fl (.bool ((gfE n p.point).2))]) rfl (og rfl (op_call rfl Tryz.func26 nm26 rfl (.cons rfl (.d _) (.cons rfl (.d _) .nil)) (gfC n p.point) rfl)) ?_
  refine rg_put (d := 8) (v := .tu [.ag (ePnt ((gfE n p.point).1)), .fl (.bool ((gfE n p.point).2))]) rfl (og rfl (op_move rfl rfl rfl)) ?_
  refine rg_put (d := 13) (v := .d (.ag (ePnt ((gfE n p.point).1)))) rfl (og rfl (op_extract rfl rfl rfl rfl)) ?_
  refine rg_put (d := 14) (v := .d (.fl (.bool ((gfE n p.point).2)))) rfl (og rfl (op_extract rfl rfl rfl rfl)) ?_
  refine rg_nam (d := 5) (v := .pt 103 0) (m := 103) (nw := [(103, .bx 29 ([.fl (.string (⟨#[]⟩)), .fl (.int .i64 0), .fl (.string (⟨#[]⟩))]))]) rfl (og rfl (of_eff (s_alloc 103 rfl ti29 (by kernel_rfl) rfl) rfl)) rfl ?_
  refine rg_sto (nw := [(103, .bx 29 ((ePnt ((gfE n p.point).1))))]) rfl (og rfl (of_eff (s_store rfl rfl ti29 rfl rfl rfl rfl rfl rfl) rfl)) ?_
  refine rg_put (d := 6) (v := .d (.fl (.bool ((gfE n p.point).2)))) rfl (og rfl (op_assign rfl rfl rfl)) ?_
  refine rg_done rfl ?_
  refine a_rseq ?_
  refine rg_put (d := 15) (v := .d (.fl (.bool ((gfE n p.point).2)))) rfl (og rfl (op_move rfl rfl rfl)) ?_
  refine rg_put (d := 16) (v := .d (.fl (.bool ((!((gfE n p.point).2)))))) rfl (og rfl (op_un rfl rfl (u_not _) rfl)) ?_
  refine rg_done rfl ?_
  refine a_cond rfl (fun h1 => ?_) (fun h1 => ?_)
  · skip
    have h2 := t_not h1
    refine a_rseq ?_
    refine rg_put (d := 4) (v := .d (.fl (.int .i64 16))) rfl (og rfl (op_assign rfl rfl rfl)) ?_
    refine rg_done rfl ?_
    refine a_ret ?_
    show ∃ ds, ResL _ _ _ ds ∧ RV.of ds = _
    refine ⟨[.fl (.int .i64 16)], (.cons (.tmp rfl (.d _)) .nil), ?_⟩
    have hu : pck p n = 16 := by unfold pck; simp only [h1, h2, Bool.true_or, Bool.false_or, Bool.or_true, Bool.or_false, Bool.not_true, Bool.not_false, cond_true, cond_false, Bool.true_and, Bool.false_and, Bool.and_true, Bool.and_false] <;> rfl
    rw [hu]; rfl
  · skip
    have h3 := f_not h1
    refine a_skip ?_
    show A _ _ _ _ _ _ _
    refine a_seq ?_
    refine a_block ?_
    refine a_rseq ?_
    refine rg_put (d := 18) (v := .pt 101 2) rfl (og rfl (of_eff (s_field_pt rfl Tryz.underlying24 rfl ti3 rfl rfl rfl) rfl)) ?_
    refine rg_put (d := 19) (v := .d (.fl (.int .i64 p.time))) rfl (og rfl (op_load_pt rfl Tryz.underlying3 rfl rfl rfl rfl rfl)) ?_
    refine rg_put (d := 20) (v := .d (.fl (.bool ((decide (p.time < 0)))))) rfl (og rfl (op_bin rfl rfl rfl (b_lss _ _ _ _) rfl)) ?_
    refine rg_put (d := 21) (v := .d (.fl (.bool ((decide (p.time < 0)))))) rfl (og rfl (op_move rfl rfl rfl)) ?_
    rcases fot ((decide (p.time < 0))) with h4 | h4
    · skip
      have h5 := f_dec h4
      refine rg_put (d := 22) (v := .pt 101 2) rfl (oy rfl rfl rfl h4 (of_eff (s_field_pt rfl Tryz.underlying24 rfl ti3 rfl rfl rfl) rfl)) ?_
      refine rg_put (d := 23) (v := .d (.fl (.int .i64 p.time))) rfl (oy rfl rfl rfl h4 (op_load_pt rfl Tryz.underlying3 rfl rfl rfl rfl rfl)) ?_
      refine rg_put (d := 24) (v := .d (.fl (.bool ((decide (68719476736 ≤ p.time)))))) rfl (oy rfl rfl rfl h4 (op_bin rfl rfl rfl (b_geq _ _ _ _) rfl)) ?_
      refine rg_put (d := 25) (v := .d (.fl (.bool ((decide (68719476736 ≤ p.time)))))) rfl (og rfl (op_pick rfl rfl (by rw [h4]; rfl) rfl)) ?_
      refine rg_put (d := 17) (v := .d (.fl (.bool ((decide (68719476736 ≤ p.time)))))) rfl (og rfl (op_assign rfl rfl rfl)) ?_
      refine rg_done rfl ?_
      refine a_cond rfl (fun h6 => ?_) (fun h6 => ?_)
      · skip
        have h7 := t_dec h6
        refine a_rseq ?_
        refine rg_put (d := 4) (v := .d (.fl (.int .i64 12))) rfl (og rfl (op_assign rfl rfl rfl)) ?_
        refine rg_done rfl ?_
        refine a_ret ?_
        show ∃ ds, ResL _ _ _ ds ∧ RV.of ds = _
        refine ⟨[.fl (.int .i64 12)], (.cons (.tmp rfl (.d _)) .nil), ?_⟩
        have gT : isT p.time = false := isT_n (by omega)
        have hu : pck p n = 12 := by unfold pck; simp only [gT, h1, h3, h4, h6, Bool.true_or, Bool.false_or, Bool.or_true, Bool.or_false, Bool.not_true, Bool.not_false, cond_true, cond_false, Bool.true_and, Bool.false_and, Bool.and_true, Bool.and_false] <;> rfl
        rw [hu]; rfl
      · skip
        have h8 := f_dec h6
        refine a_rseq ?_
        refine rg_put (d := 27) (v := .pt 101 3) rfl (og rfl (of_eff (s_field_pt rfl Tryz.underlying24 rfl ti9 rfl rfl rfl) rfl)) ?_
        refine rg_put (d := 28) (v := .d (.fl (.string p.tag))) rfl (og rfl (op_load_pt rfl Tryz.underlying9 rfl rfl rfl rfl rfl)) ?_
        refine rg_put (d := 29) (v := .d (.fl (.bool ((sEq p.tag (⟨#[]⟩)))))) rfl (og rfl (op_bin rfl rfl rfl (b_seq _ _ _) rfl)) ?_
        refine rg_put (d := 30) (v := .d (.fl (.bool ((sEq p.tag (⟨#[]⟩)))))) rfl (og rfl (op_move rfl rfl rfl)) ?_
        rcases fot ((sEq p.tag (⟨#[]⟩))) with h9 | h9
        · skip
          refine rg_put (d := 31) (v := .d (.fl undef)) rfl (on rfl rfl rfl h9) ?_
          refine rg_put (d := 32) (v := .d (.fl undef)) rfl (on rfl rfl rfl h9) ?_
          refine rg_put (d := 33) (v := .d (.fl undef)) rfl (on rfl rfl rfl h9) ?_
          refine rg_put (d := 34) (v := .d (.fl (.bool false))) rfl (og rfl (op_pick rfl rfl (by rw [h9]; rfl) rfl)) ?_
          refine rg_put (d := 26) (v := .d (.fl (.bool false))) rfl (og rfl (op_assign rfl rfl rfl)) ?_
          refine rg_done rfl ?_
          refine a_condF rfl rfl ?_
          refine a_rseq ?_
          refine rg_put (d := 36) (v := .pt 101 3) rfl (og rfl (of_eff (s_field_pt rfl Tryz.underlying24 rfl ti9 rfl rfl rfl) rfl)) ?_
          refine rg_put (d := 37) (v := .d (.fl (.string p.tag))) rfl (og rfl (op_load_pt rfl Tryz.underlying9 rfl rfl rfl rfl rfl)) ?_
          refine rg_put (d := 38) (v := .d (.fl (.bool ((!(sEq p.tag (⟨#[]⟩))))))) rfl (og rfl (op_bin rfl rfl rfl (b_sne _ _ _) rfl)) ?_
          refine rg_put (d := 39) (v := .d (.fl (.bool ((!(sEq p.tag (⟨#[]⟩))))))) rfl (og rfl (op_move rfl rfl rfl)) ?_
          refine rg_put (d := 40) (v := .pt 101 3) rfl (oy rfl rfl rfl (not_t' h9) (of_eff (s_field_pt rfl Tryz.underlying24 rfl ti9 rfl rfl rfl) rfl)) ?_
          refine rg_put (d := 41) (v := .d (.fl (.string p.tag))) rfl (oy rfl rfl rfl (not_t' h9) (op_load_pt rfl Tryz.underlying9 rfl rfl rfl rfl rfl)) ?_
          refine rg_put (d := 42) (v := .d (.fl (.int .i64 (Tm.ck p.tag)))) rfl (oy rfl rfl rfl (not_t' h9) (op_call rfl Tryz.func27 nm27 rfl (.cons rfl (.d _) .nil) (tagC27 p.tag) rfl)) ?_
          refine rg_put (d := 43) (v := .d (.fl (.bool (((Tm.ck p.tag) != 0))))) rfl (oy rfl rfl rfl (not_t' h9) (op_bin rfl rfl rfl (b_neq _ _ _ _) rfl)) ?_
          refine rg_put (d := 44) (v := .d (.fl (.bool (((Tm.ck p.tag) != 0))))) rfl (og rfl (op_pick rfl rfl (by rw [(not_t' h9)]; rfl) rfl)) ?_
          refine rg_put (d := 35) (v := .d (.fl (.bool (((Tm.ck p.tag) != 0))))) rfl (og rfl (op_assign rfl rfl rfl)) ?_
          refine rg_done rfl ?_
          refine a_cond rfl (fun h10 => ?_) (fun h10 => ?_)
          · skip
            have h11 := t_bne h10
            refine a_rseq ?_
            refine rg_put (d := 45) (v := .pt 101 3) rfl (og rfl (of_eff (s_field_pt rfl Tryz.underlying24 rfl ti9 rfl rfl rfl) rfl)) ?_
            refine rg_put (d := 46) (v := .d (.fl (.string p.tag))) rfl (og rfl (op_load_pt rfl Tryz.underlying9 rfl rfl rfl rfl rfl)) ?_
            refine rg_put (d := 47) (v := .d (.fl (.int .i64 (Tm.ck p.tag)))) rfl (og rfl (op_call rfl Tryz.func27 nm27 rfl (.cons rfl (.d _) .nil) (tagC27 p.tag) rfl)) ?_
            refine rg_put (d := 4) (v := .d (.fl (.int .i64 (Tm.ck p.tag)))) rfl (og rfl (op_assign rfl rfl rfl)) ?_
            refine rg_done rfl ?_
            refine a_ret ?_
            show ∃ ds, ResL _ _ _ ds ∧ RV.of ds = _
            refine ⟨[.fl (.int .i64 (Tm.ck p.tag))], (.cons (.tmp rfl (.d _)) .nil), ?_⟩
            have gT : isT p.time = true := isT_y (by omega)
            have hu : pck p n = (Tm.ck p.tag) := by unfold pck; simp only [gT, h1, h3, h4, h6, h9, h10, Bool.true_or, Bool.false_or, Bool.or_true, Bool.or_false, Bool.not_true, Bool.not_false, cond_true, cond_false, Bool.true_and, Bool.false_and, Bool.and_true, Bool.and_false] <;> rfl
            rw [hu]; rfl
          · skip
            have h12 := f_bne h10
            refine a_rseq ?_
            refine rg_put (d := 49) (v := .pt 101 4) rfl (og rfl (of_eff (s_field_pt rfl Tryz.underlying24 rfl ti9 rfl rfl rfl) rfl)) ?_
            refine rg_put (d := 50) (v := .d (.fl (.string p.plate))) rfl (og rfl (op_load_pt rfl Tryz.underlying9 rfl rfl rfl rfl rfl)) ?_
            refine rg_put (d := 51) (v := .d (.fl (.bool ((!(sEq p.plate (⟨#[]⟩))))))) rfl (og rfl (op_bin rfl rfl rfl (b_sne _ _ _) rfl)) ?_
            refine rg_put (d := 52) (v := .d (.fl (.bool ((!(sEq p.plate (⟨#[]⟩))))))) rfl (og rfl (op_move rfl rfl rfl)) ?_
            rcases fot ((!(sEq p.plate (⟨#[]⟩)))) with h13 | h13
            · skip
              have h14 := f_not h13
              refine rg_put (d := 53) (v := .d (.fl undef)) rfl (on rfl rfl rfl h13) ?_
              refine rg_put (d := 54) (v := .d (.fl undef)) rfl (on rfl rfl rfl h13) ?_
              refine rg_put (d := 55) (v := .d (.fl undef)) rfl (on rfl rfl rfl h13) ?_
              refine rg_put (d := 56) (v := .d (.fl undef)) rfl (on rfl rfl rfl h13) ?_
              refine rg_put (d := 57) (v := .d (.fl (.bool false))) rfl (og rfl (op_pick rfl rfl (by rw [h13]; rfl) rfl)) ?_
              refine rg_put (d := 48) (v := .d (.fl (.bool false))) rfl (og rfl (op_assign rfl rfl rfl)) ?_
              refine rg_done rfl ?_
              refine a_condF rfl rfl ?_
              refine a_rseq ?_
              refine rg_put (d := 59) (v := .pt 101 5) rfl (og rfl (of_eff (s_field_pt rfl Tryz.underlying24 rfl ti3 rfl rfl rfl) rfl)) ?_
              refine rg_put (d := 60) (v := .d (.fl (.int .i64 p.cls))) rfl (og rfl (op_load_pt rfl Tryz.underlying3 rfl rfl rfl rfl rfl)) ?_
              refine rg_put (d := 61) (v := .d (.fl (.bool ((decide (p.cls < 0)))))) rfl (og rfl (op_bin rfl rfl rfl (b_lss _ _ _ _) rfl)) ?_
              refine rg_put (d := 62) (v := .d (.fl (.bool ((decide (p.cls < 0)))))) rfl (og rfl (op_move rfl rfl rfl)) ?_
              rcases fot ((decide (p.cls < 0))) with h15 | h15
              · skip
                have h16 := f_dec h15
                refine rg_put (d := 63) (v := .pt 101 5) rfl (oy rfl rfl rfl h15 (of_eff (s_field_pt rfl Tryz.underlying24 rfl ti3 rfl rfl rfl) rfl)) ?_
                refine rg_put (d := 64) (v := .d (.fl (.int .i64 p.cls))) rfl (oy rfl rfl rfl h15 (op_load_pt rfl Tryz.underlying3 rfl rfl rfl rfl rfl)) ?_
                refine rg_put (d := 65) (v := .d (.fl (.bool ((decide (9 < p.cls)))))) rfl (oy rfl rfl rfl h15 (op_bin rfl rfl rfl (b_gtr _ _ _ _) rfl)) ?_
                refine rg_put (d := 66) (v := .d (.fl (.bool ((decide (9 < p.cls)))))) rfl (og rfl (op_pick rfl rfl (by rw [h15]; rfl) rfl)) ?_
                refine rg_put (d := 58) (v := .d (.fl (.bool ((decide (9 < p.cls)))))) rfl (og rfl (op_assign rfl rfl rfl)) ?_
                refine rg_done rfl ?_
                refine a_cond rfl (fun h17 => ?_) (fun h17 => ?_)
                · skip
                  have h18 := t_dec h17
                  refine a_rseq ?_
                  refine rg_put (d := 4) (v := .d (.fl (.int .i64 20))) rfl (og rfl (op_assign rfl rfl rfl)) ?_
                  refine rg_done rfl ?_
                  refine a_ret ?_
                  show ∃ ds, ResL _ _ _ ds ∧ RV.of ds = _
                  refine ⟨[.fl (.int .i64 20)], (.cons (.tmp rfl (.d _)) .nil), ?_⟩
                  have gT : isT p.time = true := isT_y (by omega)
                  have hu : pck p n = 20 := by unfold pck; simp only [gT, h1, h3, h4, h6, h9, h10, h13, h14, h15, h17, Bool.true_or, Bool.false_or, Bool.or_true, Bool.or_false, Bool.not_true, Bool.not_false, cond_true, cond_false, Bool.true_and, Bool.false_and, Bool.and_true, Bool.and_false] <;> rfl
                  rw [hu]; rfl
                · skip
                  have h19 := f_dec h17
                  refine a_rseq ?_
                  refine rg_put (d := 68) (v := .pt 101 6) rfl (og rfl (of_eff (s_field_pt rfl Tryz.underlying24 rfl ti3 rfl rfl rfl) rfl)) ?_
                  refine rg_put (d := 69) (v := .d (.fl (.int .i64 p.score))) rfl (og rfl (op_load_pt rfl Tryz.underlying3 rfl rfl rfl rfl rfl)) ?_
                  refine rg_put (d := 70) (v := .d (.fl (.bool ((decide (p.score < 0)))))) rfl (og rfl (op_bin rfl rfl rfl (b_lss _ _ _ _) rfl)) ?_
                  refine rg_put (d := 71) (v := .d (.fl (.bool ((decide (p.score < 0)))))) rfl (og rfl (op_move rfl rfl rfl)) ?_
                  rcases fot ((decide (p.score < 0))) with h20 | h20
                  · skip
                    have h21 := f_dec h20
                    refine rg_put (d := 72) (v := .pt 101 6) rfl (oy rfl rfl rfl h20 (of_eff (s_field_pt rfl Tryz.underlying24 rfl ti3 rfl rfl rfl) rfl)) ?_
                    refine rg_put (d := 73) (v := .d (.fl (.int .i64 p.score))) rfl (oy rfl rfl rfl h20 (op_load_pt rfl Tryz.underlying3 rfl rfl rfl rfl rfl)) ?_
                    refine rg_put (d := 74) (v := .d (.fl (.bool ((decide (1000 < p.score)))))) rfl (oy rfl rfl rfl h20 (op_bin rfl rfl rfl (b_gtr _ _ _ _) rfl)) ?_
                    refine rg_put (d := 75) (v := .d (.fl (.bool ((decide (1000 < p.score)))))) rfl (og rfl (op_pick rfl rfl (by rw [h20]; rfl) rfl)) ?_
                    refine rg_put (d := 67) (v := .d (.fl (.bool ((decide (1000 < p.score)))))) rfl (og rfl (op_assign rfl rfl rfl)) ?_
                    refine rg_done rfl ?_
                    refine a_cond rfl (fun h22 => ?_) (fun h22 => ?_)
                    · skip
                      have h23 := t_dec h22
                      refine a_rseq ?_
                      refine rg_put (d := 4) (v := .d (.fl (.int .i64 1))) rfl (og rfl (op_assign rfl rfl rfl)) ?_
                      refine rg_done rfl ?_
                      refine a_ret ?_
                      show ∃ ds, ResL _ _ _ ds ∧ RV.of ds = _
                      refine ⟨[.fl (.int .i64 1)], (.cons (.tmp rfl (.d _)) .nil), ?_⟩
                      have gT : isT p.time = true := isT_y (by omega)
                      have hu : pck p n = 1 := by unfold pck; simp only [gT, h1, h3, h4, h6, h9, h10, h13, h14, h15, h17, h20, h22, Bool.true_or, Bool.false_or, Bool.or_true, Bool.or_false, Bool.not_true, Bool.not_false, cond_true, cond_false, Bool.true_and, Bool.false_and, Bool.and_true, Bool.and_false] <;> rfl
                      rw [hu]; rfl
                    · skip
                      have h24 := f_dec h22
                      refine a_skip ?_
                      show A _ _ _ _ _ _ _
                      refine a_seq ?_
                      refine a_rseq ?_
                      refine rg_put (d := 76) (v := .pt 101 7) rfl (og rfl (of_eff (s_field_pt rfl Tryz.underlying24 rfl ti22 rfl rfl rfl) rfl)) ?_
                      refine rg_put (d := 77) (v := .d (.sl 2 (List.map eSrc p.src))) rfl (og rfl (op_load_pt rfl Tryz.underlying22 rfl rfl rfl rfl rfl)) ?_
                      refine rg_put (d := 78) (v := .d (.fl (.int .i64 (csE p.src)))) rfl (og rfl (op_call rfl Tryz.func29 nm29 rfl (.cons rfl (.d _) .nil) (csC p.src) rfl)) ?_
                      refine rg_put (d := 7) (v := .d (.fl (.int .i64 (csE p.src)))) rfl (og rfl (op_assign rfl rfl rfl)) ?_
                      refine rg_done rfl ?_
                      refine a_rseq ?_
                      refine rg_put (d := 79) (v := .d (.fl (.int .i64 (csE p.src)))) rfl (og rfl (op_move rfl rfl rfl)) ?_
                      refine rg_put (d := 80) (v := .d (.fl (.bool (((csE p.src) != 0))))) rfl (og rfl (op_bin rfl rfl rfl (b_neq _ _ _ _) rfl)) ?_
                      refine rg_done rfl ?_
                      refine a_cond rfl (fun h25 => ?_) (fun h25 => ?_)
                      · skip
                        have h26 := t_bne h25
                        refine a_rseq ?_
                        refine rg_put (d := 81) (v := .d (.fl (.int .i64 (csE p.src)))) rfl (og rfl (op_move rfl rfl rfl)) ?_
                        refine rg_put (d := 4) (v := .d (.fl (.int .i64 (csE p.src)))) rfl (og rfl (op_assign rfl rfl rfl)) ?_
                        refine rg_done rfl ?_
                        refine a_ret ?_
                        show ∃ ds, ResL _ _ _ ds ∧ RV.of ds = _
                        refine ⟨[.fl (.int .i64 (csE p.src))], (.cons (.tmp rfl (.d _)) .nil), ?_⟩
                        have gT : isT p.time = true := isT_y (by omega)
                        have hu : pck p n = (csE p.src) := by unfold pck; simp only [gT, h1, h3, h4, h6, h9, h10, h13, h14, h15, h17, h20, h22, h25, Bool.true_or, Bool.false_or, Bool.or_true, Bool.or_false, Bool.not_true, Bool.not_false, cond_true, cond_false, Bool.true_and, Bool.false_and, Bool.and_true, Bool.and_false] <;> rfl
                        rw [hu]; rfl
                      · skip
                        have h27 := f_bne h25
                        refine a_skip ?_
                        show A _ _ _ _ _ _ _
                        refine a_seq ?_
                        refine a_dseq (by kernel_rfl) ?_
                        refine dr_put (d := 82) (v := .pt 101 0) rfl (og rfl (of_eff (s_field_pt rfl Tryz.underlying24 rfl ti9 rfl rfl rfl) rfl)) ?_
                        refine dr_put (d := 83) (v := .d (.fl (.string p.id))) rfl (og rfl (op_load_pt rfl Tryz.underlying9 rfl rfl rfl rfl rfl)) ?_
                        refine dr_put (d := 84) (v := .d (.ag (ePsg p))) rfl (og rfl (of_eff (s_load_pts rfl Tryz.underlying24 rfl ti24 rfl rfl rfl rfl) rfl)) ?_
                        refine dr_put (d := 85) (v := .d (.fl (.string (idS p)))) rfl (og rfl (op_callK k2st hG rfl Tryz.func9 nm9 rfl (.cons rfl (.d _) .nil) (idC p hz hn) rfl)) ?_
                        refine dr_put (d := 86) (v := .d (.fl (.bool ((!(sEq p.id (idS p))))))) rfl (og rfl (op_bin rfl rfl rfl (b_sne _ _ _) rfl)) ?_
                        refine dr_done rfl (by kernel_rfl) (by kernel_rfl) ?_
                        refine a_cond rfl (fun h28 => ?_) (fun h28 => ?_)
                        · skip
                          have h29 := t_not h28
                          refine a_rseq ?_
                          refine rg_put (d := 4) (v := .d (.fl (.int .i64 6))) rfl (og rfl (op_assign rfl rfl rfl)) ?_
                          refine rg_done rfl ?_
                          refine a_ret ?_
                          show ∃ ds, ResL _ _ _ ds ∧ RV.of ds = _
                          refine ⟨[.fl (.int .i64 6)], (.cons (.tmp rfl (.d _)) .nil), ?_⟩
                          have gT : isT p.time = true := isT_y (by omega)
                          have hu : pck p n = 6 := by unfold pck; simp only [gT, h1, h3, h4, h6, h9, h10, h13, h14, h15, h17, h20, h22, h25, h28, h29, Bool.true_or, Bool.false_or, Bool.or_true, Bool.or_false, Bool.not_true, Bool.not_false, cond_true, cond_false, Bool.true_and, Bool.false_and, Bool.and_true, Bool.and_false] <;> rfl
                          rw [hu]; rfl
                        · skip
                          have h30 := f_not h28
                          refine a_skip ?_
                          show A _ _ _ _ _ _ _
                          refine a_rseq ?_
                          refine rg_put (d := 4) (v := .d (.fl (.int .i64 0))) rfl (og rfl (op_assign rfl rfl rfl)) ?_
                          refine rg_done rfl ?_
                          refine a_ret ?_
                          show ∃ ds, ResL _ _ _ ds ∧ RV.of ds = _
                          refine ⟨[.fl (.int .i64 0)], (.cons (.tmp rfl (.d _)) .nil), ?_⟩
                          have gT : isT p.time = true := isT_y (by omega)
                          have hu : pck p n = 0 := by unfold pck; simp only [gT, h1, h3, h4, h6, h9, h10, h13, h14, h15, h17, h20, h22, h25, h28, h30, Bool.true_or, Bool.false_or, Bool.or_true, Bool.or_false, Bool.not_true, Bool.not_false, cond_true, cond_false, Bool.true_and, Bool.false_and, Bool.and_true, Bool.and_false] <;> rfl
                          rw [hu]; rfl
                  · skip
                    have h31 := t_dec h20
                    refine rg_put (d := 72) (v := .d (.fl undef)) rfl (on rfl rfl rfl h20) ?_
                    refine rg_put (d := 73) (v := .d (.fl undef)) rfl (on rfl rfl rfl h20) ?_
                    refine rg_put (d := 74) (v := .d (.fl undef)) rfl (on rfl rfl rfl h20) ?_
                    refine rg_put (d := 75) (v := .d (.fl (.bool true))) rfl (og rfl (op_pick rfl rfl (by rw [h20]; rfl) rfl)) ?_
                    refine rg_put (d := 67) (v := .d (.fl (.bool true))) rfl (og rfl (op_assign rfl rfl rfl)) ?_
                    refine rg_done rfl ?_
                    refine a_condK rfl rfl ?_
                    refine a_rseq ?_
                    refine rg_put (d := 4) (v := .d (.fl (.int .i64 1))) rfl (og rfl (op_assign rfl rfl rfl)) ?_
                    refine rg_done rfl ?_
                    refine a_ret ?_
                    show ∃ ds, ResL _ _ _ ds ∧ RV.of ds = _
                    refine ⟨[.fl (.int .i64 1)], (.cons (.tmp rfl (.d _)) .nil), ?_⟩
                    have gT : isT p.time = true := isT_y (by omega)
                    have hu : pck p n = 1 := by unfold pck; simp only [gT, h1, h3, h4, h6, h9, h10, h13, h14, h15, h17, h20, Bool.true_or, Bool.false_or, Bool.or_true, Bool.or_false, Bool.not_true, Bool.not_false, cond_true, cond_false, Bool.true_and, Bool.false_and, Bool.and_true, Bool.and_false] <;> rfl
                    rw [hu]; rfl
              · skip
                have h32 := t_dec h15
                refine rg_put (d := 63) (v := .d (.fl undef)) rfl (on rfl rfl rfl h15) ?_
                refine rg_put (d := 64) (v := .d (.fl undef)) rfl (on rfl rfl rfl h15) ?_
                refine rg_put (d := 65) (v := .d (.fl undef)) rfl (on rfl rfl rfl h15) ?_
                refine rg_put (d := 66) (v := .d (.fl (.bool true))) rfl (og rfl (op_pick rfl rfl (by rw [h15]; rfl) rfl)) ?_
                refine rg_put (d := 58) (v := .d (.fl (.bool true))) rfl (og rfl (op_assign rfl rfl rfl)) ?_
                refine rg_done rfl ?_
                refine a_condK rfl rfl ?_
                refine a_rseq ?_
                refine rg_put (d := 4) (v := .d (.fl (.int .i64 20))) rfl (og rfl (op_assign rfl rfl rfl)) ?_
                refine rg_done rfl ?_
                refine a_ret ?_
                show ∃ ds, ResL _ _ _ ds ∧ RV.of ds = _
                refine ⟨[.fl (.int .i64 20)], (.cons (.tmp rfl (.d _)) .nil), ?_⟩
                have gT : isT p.time = true := isT_y (by omega)
                have hu : pck p n = 20 := by unfold pck; simp only [gT, h1, h3, h4, h6, h9, h10, h13, h14, h15, Bool.true_or, Bool.false_or, Bool.or_true, Bool.or_false, Bool.not_true, Bool.not_false, cond_true, cond_false, Bool.true_and, Bool.false_and, Bool.and_true, Bool.and_false] <;> rfl
                rw [hu]; rfl
            · skip
              have h33 := t_not h13
              refine rg_put (d := 53) (v := .pt 101 4) rfl (oy rfl rfl rfl h13 (of_eff (s_field_pt rfl Tryz.underlying24 rfl ti9 rfl rfl rfl) rfl)) ?_
              refine rg_put (d := 54) (v := .d (.fl (.string p.plate))) rfl (oy rfl rfl rfl h13 (op_load_pt rfl Tryz.underlying9 rfl rfl rfl rfl rfl)) ?_
              refine rg_put (d := 55) (v := .d (.fl (.bool (nrmB p.plate)))) rfl (oy rfl rfl rfl h13 (op_callK k2st hG rfl Tryz.func28 nm28 rfl (.cons rfl (.d _) .nil) ((nrmC p.plate (by omega))) rfl)) ?_
              refine rg_put (d := 56) (v := .d (.fl (.bool ((!(nrmB p.plate)))))) rfl (oy rfl rfl rfl h13 (op_un rfl rfl (u_not _) rfl)) ?_
              refine rg_put (d := 57) (v := .d (.fl (.bool ((!(nrmB p.plate)))))) rfl (og rfl (op_pick rfl rfl (by rw [h13]; rfl) rfl)) ?_
              refine rg_put (d := 48) (v := .d (.fl (.bool ((!(nrmB p.plate)))))) rfl (og rfl (op_assign rfl rfl rfl)) ?_
              refine rg_done rfl ?_
              refine a_cond rfl (fun h34 => ?_) (fun h34 => ?_)
              · skip
                have h35 := t_not h34
                refine a_rseq ?_
                refine rg_put (d := 4) (v := .d (.fl (.int .i64 19))) rfl (og rfl (op_assign rfl rfl rfl)) ?_
                refine rg_done rfl ?_
                refine a_ret ?_
                show ∃ ds, ResL _ _ _ ds ∧ RV.of ds = _
                refine ⟨[.fl (.int .i64 19)], (.cons (.tmp rfl (.d _)) .nil), ?_⟩
                have gT : isT p.time = true := isT_y (by omega)
                have hu : pck p n = 19 := by unfold pck; simp only [gT, h1, h3, h4, h6, h9, h10, h13, h33, h34, h35, Bool.true_or, Bool.false_or, Bool.or_true, Bool.or_false, Bool.not_true, Bool.not_false, cond_true, cond_false, Bool.true_and, Bool.false_and, Bool.and_true, Bool.and_false] <;> rfl
                rw [hu]; rfl
              · skip
                have h36 := f_not h34
                refine a_rseq ?_
                refine rg_put (d := 59) (v := .pt 101 5) rfl (og rfl (of_eff (s_field_pt rfl Tryz.underlying24 rfl ti3 rfl rfl rfl) rfl)) ?_
                refine rg_put (d := 60) (v := .d (.fl (.int .i64 p.cls))) rfl (og rfl (op_load_pt rfl Tryz.underlying3 rfl rfl rfl rfl rfl)) ?_
                refine rg_put (d := 61) (v := .d (.fl (.bool ((decide (p.cls < 0)))))) rfl (og rfl (op_bin rfl rfl rfl (b_lss _ _ _ _) rfl)) ?_
                refine rg_put (d := 62) (v := .d (.fl (.bool ((decide (p.cls < 0)))))) rfl (og rfl (op_move rfl rfl rfl)) ?_
                rcases fot ((decide (p.cls < 0))) with h37 | h37
                · skip
                  have h38 := f_dec h37
                  refine rg_put (d := 63) (v := .pt 101 5) rfl (oy rfl rfl rfl h37 (of_eff (s_field_pt rfl Tryz.underlying24 rfl ti3 rfl rfl rfl) rfl)) ?_
                  refine rg_put (d := 64) (v := .d (.fl (.int .i64 p.cls))) rfl (oy rfl rfl rfl h37 (op_load_pt rfl Tryz.underlying3 rfl rfl rfl rfl rfl)) ?_
                  refine rg_put (d := 65) (v := .d (.fl (.bool ((decide (9 < p.cls)))))) rfl (oy rfl rfl rfl h37 (op_bin rfl rfl rfl (b_gtr _ _ _ _) rfl)) ?_
                  refine rg_put (d := 66) (v := .d (.fl (.bool ((decide (9 < p.cls)))))) rfl (og rfl (op_pick rfl rfl (by rw [h37]; rfl) rfl)) ?_
                  refine rg_put (d := 58) (v := .d (.fl (.bool ((decide (9 < p.cls)))))) rfl (og rfl (op_assign rfl rfl rfl)) ?_
                  refine rg_done rfl ?_
                  refine a_cond rfl (fun h39 => ?_) (fun h39 => ?_)
                  · skip
                    have h40 := t_dec h39
                    refine a_rseq ?_
                    refine rg_put (d := 4) (v := .d (.fl (.int .i64 20))) rfl (og rfl (op_assign rfl rfl rfl)) ?_
                    refine rg_done rfl ?_
                    refine a_ret ?_
                    show ∃ ds, ResL _ _ _ ds ∧ RV.of ds = _
                    refine ⟨[.fl (.int .i64 20)], (.cons (.tmp rfl (.d _)) .nil), ?_⟩
                    have gT : isT p.time = true := isT_y (by omega)
                    have hu : pck p n = 20 := by unfold pck; simp only [gT, h1, h3, h4, h6, h9, h10, h13, h33, h34, h36, h37, h39, Bool.true_or, Bool.false_or, Bool.or_true, Bool.or_false, Bool.not_true, Bool.not_false, cond_true, cond_false, Bool.true_and, Bool.false_and, Bool.and_true, Bool.and_false] <;> rfl
                    rw [hu]; rfl
                  · skip
                    have h41 := f_dec h39
                    refine a_rseq ?_
                    refine rg_put (d := 68) (v := .pt 101 6) rfl (og rfl (of_eff (s_field_pt rfl Tryz.underlying24 rfl ti3 rfl rfl rfl) rfl)) ?_
                    refine rg_put (d := 69) (v := .d (.fl (.int .i64 p.score))) rfl (og rfl (op_load_pt rfl Tryz.underlying3 rfl rfl rfl rfl rfl)) ?_
                    refine rg_put (d := 70) (v := .d (.fl (.bool ((decide (p.score < 0)))))) rfl (og rfl (op_bin rfl rfl rfl (b_lss _ _ _ _) rfl)) ?_
                    refine rg_put (d := 71) (v := .d (.fl (.bool ((decide (p.score < 0)))))) rfl (og rfl (op_move rfl rfl rfl)) ?_
                    rcases fot ((decide (p.score < 0))) with h42 | h42
                    · skip
                      have h43 := f_dec h42
                      refine rg_put (d := 72) (v := .pt 101 6) rfl (oy rfl rfl rfl h42 (of_eff (s_field_pt rfl Tryz.underlying24 rfl ti3 rfl rfl rfl) rfl)) ?_
                      refine rg_put (d := 73) (v := .d (.fl (.int .i64 p.score))) rfl (oy rfl rfl rfl h42 (op_load_pt rfl Tryz.underlying3 rfl rfl rfl rfl rfl)) ?_
                      refine rg_put (d := 74) (v := .d (.fl (.bool ((decide (1000 < p.score)))))) rfl (oy rfl rfl rfl h42 (op_bin rfl rfl rfl (b_gtr _ _ _ _) rfl)) ?_
                      refine rg_put (d := 75) (v := .d (.fl (.bool ((decide (1000 < p.score)))))) rfl (og rfl (op_pick rfl rfl (by rw [h42]; rfl) rfl)) ?_
                      refine rg_put (d := 67) (v := .d (.fl (.bool ((decide (1000 < p.score)))))) rfl (og rfl (op_assign rfl rfl rfl)) ?_
                      refine rg_done rfl ?_
                      refine a_cond rfl (fun h44 => ?_) (fun h44 => ?_)
                      · skip
                        have h45 := t_dec h44
                        refine a_rseq ?_
                        refine rg_put (d := 4) (v := .d (.fl (.int .i64 1))) rfl (og rfl (op_assign rfl rfl rfl)) ?_
                        refine rg_done rfl ?_
                        refine a_ret ?_
                        show ∃ ds, ResL _ _ _ ds ∧ RV.of ds = _
                        refine ⟨[.fl (.int .i64 1)], (.cons (.tmp rfl (.d _)) .nil), ?_⟩
                        have gT : isT p.time = true := isT_y (by omega)
                        have hu : pck p n = 1 := by unfold pck; simp only [gT, h1, h3, h4, h6, h9, h10, h13, h33, h34, h36, h37, h39, h42, h44, Bool.true_or, Bool.false_or, Bool.or_true, Bool.or_false, Bool.not_true, Bool.not_false, cond_true, cond_false, Bool.true_and, Bool.false_and, Bool.and_true, Bool.and_false] <;> rfl
                        rw [hu]; rfl
                      · skip
                        have h46 := f_dec h44
                        refine a_skip ?_
                        show A _ _ _ _ _ _ _
                        refine a_seq ?_
                        refine a_rseq ?_
                        refine rg_put (d := 76) (v := .pt 101 7) rfl (og rfl (of_eff (s_field_pt rfl Tryz.underlying24 rfl ti22 rfl rfl rfl) rfl)) ?_
                        refine rg_put (d := 77) (v := .d (.sl 2 (List.map eSrc p.src))) rfl (og rfl (op_load_pt rfl Tryz.underlying22 rfl rfl rfl rfl rfl)) ?_
                        refine rg_put (d := 78) (v := .d (.fl (.int .i64 (csE p.src)))) rfl (og rfl (op_call rfl Tryz.func29 nm29 rfl (.cons rfl (.d _) .nil) (csC p.src) rfl)) ?_
                        refine rg_put (d := 7) (v := .d (.fl (.int .i64 (csE p.src)))) rfl (og rfl (op_assign rfl rfl rfl)) ?_
                        refine rg_done rfl ?_
                        refine a_rseq ?_
                        refine rg_put (d := 79) (v := .d (.fl (.int .i64 (csE p.src)))) rfl (og rfl (op_move rfl rfl rfl)) ?_
                        refine rg_put (d := 80) (v := .d (.fl (.bool (((csE p.src) != 0))))) rfl (og rfl (op_bin rfl rfl rfl (b_neq _ _ _ _) rfl)) ?_
                        refine rg_done rfl ?_
                        refine a_cond rfl (fun h47 => ?_) (fun h47 => ?_)
                        · skip
                          have h48 := t_bne h47
                          refine a_rseq ?_
                          refine rg_put (d := 81) (v := .d (.fl (.int .i64 (csE p.src)))) rfl (og rfl (op_move rfl rfl rfl)) ?_
                          refine rg_put (d := 4) (v := .d (.fl (.int .i64 (csE p.src)))) rfl (og rfl (op_assign rfl rfl rfl)) ?_
                          refine rg_done rfl ?_
                          refine a_ret ?_
                          show ∃ ds, ResL _ _ _ ds ∧ RV.of ds = _
                          refine ⟨[.fl (.int .i64 (csE p.src))], (.cons (.tmp rfl (.d _)) .nil), ?_⟩
                          have gT : isT p.time = true := isT_y (by omega)
                          have hu : pck p n = (csE p.src) := by unfold pck; simp only [gT, h1, h3, h4, h6, h9, h10, h13, h33, h34, h36, h37, h39, h42, h44, h47, Bool.true_or, Bool.false_or, Bool.or_true, Bool.or_false, Bool.not_true, Bool.not_false, cond_true, cond_false, Bool.true_and, Bool.false_and, Bool.and_true, Bool.and_false] <;> rfl
                          rw [hu]; rfl
                        · skip
                          have h49 := f_bne h47
                          refine a_skip ?_
                          show A _ _ _ _ _ _ _
                          refine a_seq ?_
                          refine a_dseq (by kernel_rfl) ?_
                          refine dr_put (d := 82) (v := .pt 101 0) rfl (og rfl (of_eff (s_field_pt rfl Tryz.underlying24 rfl ti9 rfl rfl rfl) rfl)) ?_
                          refine dr_put (d := 83) (v := .d (.fl (.string p.id))) rfl (og rfl (op_load_pt rfl Tryz.underlying9 rfl rfl rfl rfl rfl)) ?_
                          refine dr_put (d := 84) (v := .d (.ag (ePsg p))) rfl (og rfl (of_eff (s_load_pts rfl Tryz.underlying24 rfl ti24 rfl rfl rfl rfl) rfl)) ?_
                          refine dr_put (d := 85) (v := .d (.fl (.string (idS p)))) rfl (og rfl (op_callK k2st hG rfl Tryz.func9 nm9 rfl (.cons rfl (.d _) .nil) (idC p hz hn) rfl)) ?_
                          refine dr_put (d := 86) (v := .d (.fl (.bool ((!(sEq p.id (idS p))))))) rfl (og rfl (op_bin rfl rfl rfl (b_sne _ _ _) rfl)) ?_
                          refine dr_done rfl (by kernel_rfl) (by kernel_rfl) ?_
                          refine a_cond rfl (fun h50 => ?_) (fun h50 => ?_)
                          · skip
                            have h51 := t_not h50
                            refine a_rseq ?_
                            refine rg_put (d := 4) (v := .d (.fl (.int .i64 6))) rfl (og rfl (op_assign rfl rfl rfl)) ?_
                            refine rg_done rfl ?_
                            refine a_ret ?_
                            show ∃ ds, ResL _ _ _ ds ∧ RV.of ds = _
                            refine ⟨[.fl (.int .i64 6)], (.cons (.tmp rfl (.d _)) .nil), ?_⟩
                            have gT : isT p.time = true := isT_y (by omega)
                            have hu : pck p n = 6 := by unfold pck; simp only [gT, h1, h3, h4, h6, h9, h10, h13, h33, h34, h36, h37, h39, h42, h44, h47, h50, h51, Bool.true_or, Bool.false_or, Bool.or_true, Bool.or_false, Bool.not_true, Bool.not_false, cond_true, cond_false, Bool.true_and, Bool.false_and, Bool.and_true, Bool.and_false] <;> rfl
                            rw [hu]; rfl
                          · skip
                            have h52 := f_not h50
                            refine a_skip ?_
                            show A _ _ _ _ _ _ _
                            refine a_rseq ?_
                            refine rg_put (d := 4) (v := .d (.fl (.int .i64 0))) rfl (og rfl (op_assign rfl rfl rfl)) ?_
                            refine rg_done rfl ?_
                            refine a_ret ?_
                            show ∃ ds, ResL _ _ _ ds ∧ RV.of ds = _
                            refine ⟨[.fl (.int .i64 0)], (.cons (.tmp rfl (.d _)) .nil), ?_⟩
                            have gT : isT p.time = true := isT_y (by omega)
                            have hu : pck p n = 0 := by unfold pck; simp only [gT, h1, h3, h4, h6, h9, h10, h13, h33, h34, h36, h37, h39, h42, h44, h47, h50, h52, Bool.true_or, Bool.false_or, Bool.or_true, Bool.or_false, Bool.not_true, Bool.not_false, cond_true, cond_false, Bool.true_and, Bool.false_and, Bool.and_true, Bool.and_false] <;> rfl
                            rw [hu]; rfl
                    · skip
                      have h53 := t_dec h42
                      refine rg_put (d := 72) (v := .d (.fl undef)) rfl (on rfl rfl rfl h42) ?_
                      refine rg_put (d := 73) (v := .d (.fl undef)) rfl (on rfl rfl rfl h42) ?_
                      refine rg_put (d := 74) (v := .d (.fl undef)) rfl (on rfl rfl rfl h42) ?_
                      refine rg_put (d := 75) (v := .d (.fl (.bool true))) rfl (og rfl (op_pick rfl rfl (by rw [h42]; rfl) rfl)) ?_
                      refine rg_put (d := 67) (v := .d (.fl (.bool true))) rfl (og rfl (op_assign rfl rfl rfl)) ?_
                      refine rg_done rfl ?_
                      refine a_condK rfl rfl ?_
                      refine a_rseq ?_
                      refine rg_put (d := 4) (v := .d (.fl (.int .i64 1))) rfl (og rfl (op_assign rfl rfl rfl)) ?_
                      refine rg_done rfl ?_
                      refine a_ret ?_
                      show ∃ ds, ResL _ _ _ ds ∧ RV.of ds = _
                      refine ⟨[.fl (.int .i64 1)], (.cons (.tmp rfl (.d _)) .nil), ?_⟩
                      have gT : isT p.time = true := isT_y (by omega)
                      have hu : pck p n = 1 := by unfold pck; simp only [gT, h1, h3, h4, h6, h9, h10, h13, h33, h34, h36, h37, h39, h42, Bool.true_or, Bool.false_or, Bool.or_true, Bool.or_false, Bool.not_true, Bool.not_false, cond_true, cond_false, Bool.true_and, Bool.false_and, Bool.and_true, Bool.and_false] <;> rfl
                      rw [hu]; rfl
                · skip
                  have h54 := t_dec h37
                  refine rg_put (d := 63) (v := .d (.fl undef)) rfl (on rfl rfl rfl h37) ?_
                  refine rg_put (d := 64) (v := .d (.fl undef)) rfl (on rfl rfl rfl h37) ?_
                  refine rg_put (d := 65) (v := .d (.fl undef)) rfl (on rfl rfl rfl h37) ?_
                  refine rg_put (d := 66) (v := .d (.fl (.bool true))) rfl (og rfl (op_pick rfl rfl (by rw [h37]; rfl) rfl)) ?_
                  refine rg_put (d := 58) (v := .d (.fl (.bool true))) rfl (og rfl (op_assign rfl rfl rfl)) ?_
                  refine rg_done rfl ?_
                  refine a_condK rfl rfl ?_
                  refine a_rseq ?_
                  refine rg_put (d := 4) (v := .d (.fl (.int .i64 20))) rfl (og rfl (op_assign rfl rfl rfl)) ?_
                  refine rg_done rfl ?_
                  refine a_ret ?_
                  show ∃ ds, ResL _ _ _ ds ∧ RV.of ds = _
                  refine ⟨[.fl (.int .i64 20)], (.cons (.tmp rfl (.d _)) .nil), ?_⟩
                  have gT : isT p.time = true := isT_y (by omega)
                  have hu : pck p n = 20 := by unfold pck; simp only [gT, h1, h3, h4, h6, h9, h10, h13, h33, h34, h36, h37, Bool.true_or, Bool.false_or, Bool.or_true, Bool.or_false, Bool.not_true, Bool.not_false, cond_true, cond_false, Bool.true_and, Bool.false_and, Bool.and_true, Bool.and_false] <;> rfl
                  rw [hu]; rfl
        · skip
          refine rg_put (d := 31) (v := .pt 101 4) rfl (oy rfl rfl rfl h9 (of_eff (s_field_pt rfl Tryz.underlying24 rfl ti9 rfl rfl rfl) rfl)) ?_
          refine rg_put (d := 32) (v := .d (.fl (.string p.plate))) rfl (oy rfl rfl rfl h9 (op_load_pt rfl Tryz.underlying9 rfl rfl rfl rfl rfl)) ?_
          refine rg_put (d := 33) (v := .d (.fl (.bool ((sEq p.plate (⟨#[]⟩)))))) rfl (oy rfl rfl rfl h9 (op_bin rfl rfl rfl (b_seq _ _ _) rfl)) ?_
          refine rg_put (d := 34) (v := .d (.fl (.bool ((sEq p.plate (⟨#[]⟩)))))) rfl (og rfl (op_pick rfl rfl (by rw [h9]; rfl) rfl)) ?_
          refine rg_put (d := 26) (v := .d (.fl (.bool ((sEq p.plate (⟨#[]⟩)))))) rfl (og rfl (op_assign rfl rfl rfl)) ?_
          refine rg_done rfl ?_
          refine a_cond rfl (fun h55 => ?_) (fun h55 => ?_)
          · skip
            refine a_rseq ?_
            refine rg_put (d := 4) (v := .d (.fl (.int .i64 1))) rfl (og rfl (op_assign rfl rfl rfl)) ?_
            refine rg_done rfl ?_
            refine a_ret ?_
            show ∃ ds, ResL _ _ _ ds ∧ RV.of ds = _
            refine ⟨[.fl (.int .i64 1)], (.cons (.tmp rfl (.d _)) .nil), ?_⟩
            have gT : isT p.time = true := isT_y (by omega)
            have hu : pck p n = 1 := by unfold pck; simp only [gT, h1, h3, h4, h6, h9, h55, Bool.true_or, Bool.false_or, Bool.or_true, Bool.or_false, Bool.not_true, Bool.not_false, cond_true, cond_false, Bool.true_and, Bool.false_and, Bool.and_true, Bool.and_false] <;> rfl
            rw [hu]; rfl
          · skip
            refine a_rseq ?_
            refine rg_put (d := 36) (v := .pt 101 3) rfl (og rfl (of_eff (s_field_pt rfl Tryz.underlying24 rfl ti9 rfl rfl rfl) rfl)) ?_
            refine rg_put (d := 37) (v := .d (.fl (.string p.tag))) rfl (og rfl (op_load_pt rfl Tryz.underlying9 rfl rfl rfl rfl rfl)) ?_
            refine rg_put (d := 38) (v := .d (.fl (.bool ((!(sEq p.tag (⟨#[]⟩))))))) rfl (og rfl (op_bin rfl rfl rfl (b_sne _ _ _) rfl)) ?_
            refine rg_put (d := 39) (v := .d (.fl (.bool ((!(sEq p.tag (⟨#[]⟩))))))) rfl (og rfl (op_move rfl rfl rfl)) ?_
            refine rg_put (d := 40) (v := .d (.fl undef)) rfl (on rfl rfl rfl (not_f h9)) ?_
            refine rg_put (d := 41) (v := .d (.fl undef)) rfl (on rfl rfl rfl (not_f h9)) ?_
            refine rg_put (d := 42) (v := .d (.fl undef)) rfl (on rfl rfl rfl (not_f h9)) ?_
            refine rg_put (d := 43) (v := .d (.fl undef)) rfl (on rfl rfl rfl (not_f h9)) ?_
            refine rg_put (d := 44) (v := .d (.fl (.bool false))) rfl (og rfl (op_pick rfl rfl (by rw [(not_f h9)]; rfl) rfl)) ?_
            refine rg_put (d := 35) (v := .d (.fl (.bool false))) rfl (og rfl (op_assign rfl rfl rfl)) ?_
            refine rg_done rfl ?_
            refine a_condF rfl rfl ?_
            refine a_rseq ?_
            refine rg_put (d := 49) (v := .pt 101 4) rfl (og rfl (of_eff (s_field_pt rfl Tryz.underlying24 rfl ti9 rfl rfl rfl) rfl)) ?_
            refine rg_put (d := 50) (v := .d (.fl (.string p.plate))) rfl (og rfl (op_load_pt rfl Tryz.underlying9 rfl rfl rfl rfl rfl)) ?_
            refine rg_put (d := 51) (v := .d (.fl (.bool ((!(sEq p.plate (⟨#[]⟩))))))) rfl (og rfl (op_bin rfl rfl rfl (b_sne _ _ _) rfl)) ?_
            refine rg_put (d := 52) (v := .d (.fl (.bool ((!(sEq p.plate (⟨#[]⟩))))))) rfl (og rfl (op_move rfl rfl rfl)) ?_
            refine rg_put (d := 53) (v := .pt 101 4) rfl (oy rfl rfl rfl (not_t' h55) (of_eff (s_field_pt rfl Tryz.underlying24 rfl ti9 rfl rfl rfl) rfl)) ?_
            refine rg_put (d := 54) (v := .d (.fl (.string p.plate))) rfl (oy rfl rfl rfl (not_t' h55) (op_load_pt rfl Tryz.underlying9 rfl rfl rfl rfl rfl)) ?_
            refine rg_put (d := 55) (v := .d (.fl (.bool (nrmB p.plate)))) rfl (oy rfl rfl rfl (not_t' h55) (op_callK k2st hG rfl Tryz.func28 nm28 rfl (.cons rfl (.d _) .nil) ((nrmC p.plate (by omega))) rfl)) ?_
            refine rg_put (d := 56) (v := .d (.fl (.bool ((!(nrmB p.plate)))))) rfl (oy rfl rfl rfl (not_t' h55) (op_un rfl rfl (u_not _) rfl)) ?_
            refine rg_put (d := 57) (v := .d (.fl (.bool ((!(nrmB p.plate)))))) rfl (og rfl (op_pick rfl rfl (by rw [(not_t' h55)]; rfl) rfl)) ?_
            refine rg_put (d := 48) (v := .d (.fl (.bool ((!(nrmB p.plate)))))) rfl (og rfl (op_assign rfl rfl rfl)) ?_
            refine rg_done rfl ?_
            refine a_cond rfl (fun h56 => ?_) (fun h56 => ?_)
            · skip
              have h57 := t_not h56
              refine a_rseq ?_
              refine rg_put (d := 4) (v := .d (.fl (.int .i64 19))) rfl (og rfl (op_assign rfl rfl rfl)) ?_
              refine rg_done rfl ?_
              refine a_ret ?_
              show ∃ ds, ResL _ _ _ ds ∧ RV.of ds = _
              refine ⟨[.fl (.int .i64 19)], (.cons (.tmp rfl (.d _)) .nil), ?_⟩
              have gT : isT p.time = true := isT_y (by omega)
              have hu : pck p n = 19 := by unfold pck; simp only [gT, h1, h3, h4, h6, h9, h55, h56, h57, Bool.true_or, Bool.false_or, Bool.or_true, Bool.or_false, Bool.not_true, Bool.not_false, cond_true, cond_false, Bool.true_and, Bool.false_and, Bool.and_true, Bool.and_false] <;> rfl
              rw [hu]; rfl
            · skip
              have h58 := f_not h56
              refine a_rseq ?_
              refine rg_put (d := 59) (v := .pt 101 5) rfl (og rfl (of_eff (s_field_pt rfl Tryz.underlying24 rfl ti3 rfl rfl rfl) rfl)) ?_
              refine rg_put (d := 60) (v := .d (.fl (.int .i64 p.cls))) rfl (og rfl (op_load_pt rfl Tryz.underlying3 rfl rfl rfl rfl rfl)) ?_
              refine rg_put (d := 61) (v := .d (.fl (.bool ((decide (p.cls < 0)))))) rfl (og rfl (op_bin rfl rfl rfl (b_lss _ _ _ _) rfl)) ?_
              refine rg_put (d := 62) (v := .d (.fl (.bool ((decide (p.cls < 0)))))) rfl (og rfl (op_move rfl rfl rfl)) ?_
              rcases fot ((decide (p.cls < 0))) with h59 | h59
              · skip
                have h60 := f_dec h59
                refine rg_put (d := 63) (v := .pt 101 5) rfl (oy rfl rfl rfl h59 (of_eff (s_field_pt rfl Tryz.underlying24 rfl ti3 rfl rfl rfl) rfl)) ?_
                refine rg_put (d := 64) (v := .d (.fl (.int .i64 p.cls))) rfl (oy rfl rfl rfl h59 (op_load_pt rfl Tryz.underlying3 rfl rfl rfl rfl rfl)) ?_
                refine rg_put (d := 65) (v := .d (.fl (.bool ((decide (9 < p.cls)))))) rfl (oy rfl rfl rfl h59 (op_bin rfl rfl rfl (b_gtr _ _ _ _) rfl)) ?_
                refine rg_put (d := 66) (v := .d (.fl (.bool ((decide (9 < p.cls)))))) rfl (og rfl (op_pick rfl rfl (by rw [h59]; rfl) rfl)) ?_
                refine rg_put (d := 58) (v := .d (.fl (.bool ((decide (9 < p.cls)))))) rfl (og rfl (op_assign rfl rfl rfl)) ?_
                refine rg_done rfl ?_
                refine a_cond rfl (fun h61 => ?_) (fun h61 => ?_)
                · skip
                  have h62 := t_dec h61
                  refine a_rseq ?_
                  refine rg_put (d := 4) (v := .d (.fl (.int .i64 20))) rfl (og rfl (op_assign rfl rfl rfl)) ?_
                  refine rg_done rfl ?_
                  refine a_ret ?_
                  show ∃ ds, ResL _ _ _ ds ∧ RV.of ds = _
                  refine ⟨[.fl (.int .i64 20)], (.cons (.tmp rfl (.d _)) .nil), ?_⟩
                  have gT : isT p.time = true := isT_y (by omega)
                  have hu : pck p n = 20 := by unfold pck; simp only [gT, h1, h3, h4, h6, h9, h55, h56, h58, h59, h61, Bool.true_or, Bool.false_or, Bool.or_true, Bool.or_false, Bool.not_true, Bool.not_false, cond_true, cond_false, Bool.true_and, Bool.false_and, Bool.and_true, Bool.and_false] <;> rfl
                  rw [hu]; rfl
                · skip
                  have h63 := f_dec h61
                  refine a_rseq ?_
                  refine rg_put (d := 68) (v := .pt 101 6) rfl (og rfl (of_eff (s_field_pt rfl Tryz.underlying24 rfl ti3 rfl rfl rfl) rfl)) ?_
                  refine rg_put (d := 69) (v := .d (.fl (.int .i64 p.score))) rfl (og rfl (op_load_pt rfl Tryz.underlying3 rfl rfl rfl rfl rfl)) ?_
                  refine rg_put (d := 70) (v := .d (.fl (.bool ((decide (p.score < 0)))))) rfl (og rfl (op_bin rfl rfl rfl (b_lss _ _ _ _) rfl)) ?_
                  refine rg_put (d := 71) (v := .d (.fl (.bool ((decide (p.score < 0)))))) rfl (og rfl (op_move rfl rfl rfl)) ?_
                  rcases fot ((decide (p.score < 0))) with h64 | h64
                  · skip
                    have h65 := f_dec h64
                    refine rg_put (d := 72) (v := .pt 101 6) rfl (oy rfl rfl rfl h64 (of_eff (s_field_pt rfl Tryz.underlying24 rfl ti3 rfl rfl rfl) rfl)) ?_
                    refine rg_put (d := 73) (v := .d (.fl (.int .i64 p.score))) rfl (oy rfl rfl rfl h64 (op_load_pt rfl Tryz.underlying3 rfl rfl rfl rfl rfl)) ?_
                    refine rg_put (d := 74) (v := .d (.fl (.bool ((decide (1000 < p.score)))))) rfl (oy rfl rfl rfl h64 (op_bin rfl rfl rfl (b_gtr _ _ _ _) rfl)) ?_
                    refine rg_put (d := 75) (v := .d (.fl (.bool ((decide (1000 < p.score)))))) rfl (og rfl (op_pick rfl rfl (by rw [h64]; rfl) rfl)) ?_
                    refine rg_put (d := 67) (v := .d (.fl (.bool ((decide (1000 < p.score)))))) rfl (og rfl (op_assign rfl rfl rfl)) ?_
                    refine rg_done rfl ?_
                    refine a_cond rfl (fun h66 => ?_) (fun h66 => ?_)
                    · skip
                      have h67 := t_dec h66
                      refine a_rseq ?_
                      refine rg_put (d := 4) (v := .d (.fl (.int .i64 1))) rfl (og rfl (op_assign rfl rfl rfl)) ?_
                      refine rg_done rfl ?_
                      refine a_ret ?_
                      show ∃ ds, ResL _ _ _ ds ∧ RV.of ds = _
                      refine ⟨[.fl (.int .i64 1)], (.cons (.tmp rfl (.d _)) .nil), ?_⟩
                      have gT : isT p.time = true := isT_y (by omega)
                      have hu : pck p n = 1 := by unfold pck; simp only [gT, h1, h3, h4, h6, h9, h55, h56, h58, h59, h61, h64, h66, Bool.true_or, Bool.false_or, Bool.or_true, Bool.or_false, Bool.not_true, Bool.not_false, cond_true, cond_false, Bool.true_and, Bool.false_and, Bool.and_true, Bool.and_false] <;> rfl
                      rw [hu]; rfl
                    · skip
                      have h68 := f_dec h66
                      refine a_skip ?_
                      show A _ _ _ _ _ _ _
                      refine a_seq ?_
                      refine a_rseq ?_
                      refine rg_put (d := 76) (v := .pt 101 7) rfl (og rfl (of_eff (s_field_pt rfl Tryz.underlying24 rfl ti22 rfl rfl rfl) rfl)) ?_
                      refine rg_put (d := 77) (v := .d (.sl 2 (List.map eSrc p.src))) rfl (og rfl (op_load_pt rfl Tryz.underlying22 rfl rfl rfl rfl rfl)) ?_
                      refine rg_put (d := 78) (v := .d (.fl (.int .i64 (csE p.src)))) rfl (og rfl (op_call rfl Tryz.func29 nm29 rfl (.cons rfl (.d _) .nil) (csC p.src) rfl)) ?_
                      refine rg_put (d := 7) (v := .d (.fl (.int .i64 (csE p.src)))) rfl (og rfl (op_assign rfl rfl rfl)) ?_
                      refine rg_done rfl ?_
                      refine a_rseq ?_
                      refine rg_put (d := 79) (v := .d (.fl (.int .i64 (csE p.src)))) rfl (og rfl (op_move rfl rfl rfl)) ?_
                      refine rg_put (d := 80) (v := .d (.fl (.bool (((csE p.src) != 0))))) rfl (og rfl (op_bin rfl rfl rfl (b_neq _ _ _ _) rfl)) ?_
                      refine rg_done rfl ?_
                      refine a_cond rfl (fun h69 => ?_) (fun h69 => ?_)
                      · skip
                        have h70 := t_bne h69
                        refine a_rseq ?_
                        refine rg_put (d := 81) (v := .d (.fl (.int .i64 (csE p.src)))) rfl (og rfl (op_move rfl rfl rfl)) ?_
                        refine rg_put (d := 4) (v := .d (.fl (.int .i64 (csE p.src)))) rfl (og rfl (op_assign rfl rfl rfl)) ?_
                        refine rg_done rfl ?_
                        refine a_ret ?_
                        show ∃ ds, ResL _ _ _ ds ∧ RV.of ds = _
                        refine ⟨[.fl (.int .i64 (csE p.src))], (.cons (.tmp rfl (.d _)) .nil), ?_⟩
                        have gT : isT p.time = true := isT_y (by omega)
                        have hu : pck p n = (csE p.src) := by unfold pck; simp only [gT, h1, h3, h4, h6, h9, h55, h56, h58, h59, h61, h64, h66, h69, Bool.true_or, Bool.false_or, Bool.or_true, Bool.or_false, Bool.not_true, Bool.not_false, cond_true, cond_false, Bool.true_and, Bool.false_and, Bool.and_true, Bool.and_false] <;> rfl
                        rw [hu]; rfl
                      · skip
                        have h71 := f_bne h69
                        refine a_skip ?_
                        show A _ _ _ _ _ _ _
                        refine a_seq ?_
                        refine a_dseq (by kernel_rfl) ?_
                        refine dr_put (d := 82) (v := .pt 101 0) rfl (og rfl (of_eff (s_field_pt rfl Tryz.underlying24 rfl ti9 rfl rfl rfl) rfl)) ?_
                        refine dr_put (d := 83) (v := .d (.fl (.string p.id))) rfl (og rfl (op_load_pt rfl Tryz.underlying9 rfl rfl rfl rfl rfl)) ?_
                        refine dr_put (d := 84) (v := .d (.ag (ePsg p))) rfl (og rfl (of_eff (s_load_pts rfl Tryz.underlying24 rfl ti24 rfl rfl rfl rfl) rfl)) ?_
                        refine dr_put (d := 85) (v := .d (.fl (.string (idS p)))) rfl (og rfl (op_callK k2st hG rfl Tryz.func9 nm9 rfl (.cons rfl (.d _) .nil) (idC p hz hn) rfl)) ?_
                        refine dr_put (d := 86) (v := .d (.fl (.bool ((!(sEq p.id (idS p))))))) rfl (og rfl (op_bin rfl rfl rfl (b_sne _ _ _) rfl)) ?_
                        refine dr_done rfl (by kernel_rfl) (by kernel_rfl) ?_
                        refine a_cond rfl (fun h72 => ?_) (fun h72 => ?_)
                        · skip
                          have h73 := t_not h72
                          refine a_rseq ?_
                          refine rg_put (d := 4) (v := .d (.fl (.int .i64 6))) rfl (og rfl (op_assign rfl rfl rfl)) ?_
                          refine rg_done rfl ?_
                          refine a_ret ?_
                          show ∃ ds, ResL _ _ _ ds ∧ RV.of ds = _
                          refine ⟨[.fl (.int .i64 6)], (.cons (.tmp rfl (.d _)) .nil), ?_⟩
                          have gT : isT p.time = true := isT_y (by omega)
                          have hu : pck p n = 6 := by unfold pck; simp only [gT, h1, h3, h4, h6, h9, h55, h56, h58, h59, h61, h64, h66, h69, h72, h73, Bool.true_or, Bool.false_or, Bool.or_true, Bool.or_false, Bool.not_true, Bool.not_false, cond_true, cond_false, Bool.true_and, Bool.false_and, Bool.and_true, Bool.and_false] <;> rfl
                          rw [hu]; rfl
                        · skip
                          have h74 := f_not h72
                          refine a_skip ?_
                          show A _ _ _ _ _ _ _
                          refine a_rseq ?_
                          refine rg_put (d := 4) (v := .d (.fl (.int .i64 0))) rfl (og rfl (op_assign rfl rfl rfl)) ?_
                          refine rg_done rfl ?_
                          refine a_ret ?_
                          show ∃ ds, ResL _ _ _ ds ∧ RV.of ds = _
                          refine ⟨[.fl (.int .i64 0)], (.cons (.tmp rfl (.d _)) .nil), ?_⟩
                          have gT : isT p.time = true := isT_y (by omega)
                          have hu : pck p n = 0 := by unfold pck; simp only [gT, h1, h3, h4, h6, h9, h55, h56, h58, h59, h61, h64, h66, h69, h72, h74, Bool.true_or, Bool.false_or, Bool.or_true, Bool.or_false, Bool.not_true, Bool.not_false, cond_true, cond_false, Bool.true_and, Bool.false_and, Bool.and_true, Bool.and_false] <;> rfl
                          rw [hu]; rfl
                  · skip
                    have h75 := t_dec h64
                    refine rg_put (d := 72) (v := .d (.fl undef)) rfl (on rfl rfl rfl h64) ?_
                    refine rg_put (d := 73) (v := .d (.fl undef)) rfl (on rfl rfl rfl h64) ?_
                    refine rg_put (d := 74) (v := .d (.fl undef)) rfl (on rfl rfl rfl h64) ?_
                    refine rg_put (d := 75) (v := .d (.fl (.bool true))) rfl (og rfl (op_pick rfl rfl (by rw [h64]; rfl) rfl)) ?_
                    refine rg_put (d := 67) (v := .d (.fl (.bool true))) rfl (og rfl (op_assign rfl rfl rfl)) ?_
                    refine rg_done rfl ?_
                    refine a_condK rfl rfl ?_
                    refine a_rseq ?_
                    refine rg_put (d := 4) (v := .d (.fl (.int .i64 1))) rfl (og rfl (op_assign rfl rfl rfl)) ?_
                    refine rg_done rfl ?_
                    refine a_ret ?_
                    show ∃ ds, ResL _ _ _ ds ∧ RV.of ds = _
                    refine ⟨[.fl (.int .i64 1)], (.cons (.tmp rfl (.d _)) .nil), ?_⟩
                    have gT : isT p.time = true := isT_y (by omega)
                    have hu : pck p n = 1 := by unfold pck; simp only [gT, h1, h3, h4, h6, h9, h55, h56, h58, h59, h61, h64, Bool.true_or, Bool.false_or, Bool.or_true, Bool.or_false, Bool.not_true, Bool.not_false, cond_true, cond_false, Bool.true_and, Bool.false_and, Bool.and_true, Bool.and_false] <;> rfl
                    rw [hu]; rfl
              · skip
                have h76 := t_dec h59
                refine rg_put (d := 63) (v := .d (.fl undef)) rfl (on rfl rfl rfl h59) ?_
                refine rg_put (d := 64) (v := .d (.fl undef)) rfl (on rfl rfl rfl h59) ?_
                refine rg_put (d := 65) (v := .d (.fl undef)) rfl (on rfl rfl rfl h59) ?_
                refine rg_put (d := 66) (v := .d (.fl (.bool true))) rfl (og rfl (op_pick rfl rfl (by rw [h59]; rfl) rfl)) ?_
                refine rg_put (d := 58) (v := .d (.fl (.bool true))) rfl (og rfl (op_assign rfl rfl rfl)) ?_
                refine rg_done rfl ?_
                refine a_condK rfl rfl ?_
                refine a_rseq ?_
                refine rg_put (d := 4) (v := .d (.fl (.int .i64 20))) rfl (og rfl (op_assign rfl rfl rfl)) ?_
                refine rg_done rfl ?_
                refine a_ret ?_
                show ∃ ds, ResL _ _ _ ds ∧ RV.of ds = _
                refine ⟨[.fl (.int .i64 20)], (.cons (.tmp rfl (.d _)) .nil), ?_⟩
                have gT : isT p.time = true := isT_y (by omega)
                have hu : pck p n = 20 := by unfold pck; simp only [gT, h1, h3, h4, h6, h9, h55, h56, h58, h59, Bool.true_or, Bool.false_or, Bool.or_true, Bool.or_false, Bool.not_true, Bool.not_false, cond_true, cond_false, Bool.true_and, Bool.false_and, Bool.and_true, Bool.and_false] <;> rfl
                rw [hu]; rfl
    · skip
      have h77 := t_dec h4
      refine rg_put (d := 22) (v := .d (.fl undef)) rfl (on rfl rfl rfl h4) ?_
      refine rg_put (d := 23) (v := .d (.fl undef)) rfl (on rfl rfl rfl h4) ?_
      refine rg_put (d := 24) (v := .d (.fl undef)) rfl (on rfl rfl rfl h4) ?_
      refine rg_put (d := 25) (v := .d (.fl (.bool true))) rfl (og rfl (op_pick rfl rfl (by rw [h4]; rfl) rfl)) ?_
      refine rg_put (d := 17) (v := .d (.fl (.bool true))) rfl (og rfl (op_assign rfl rfl rfl)) ?_
      refine rg_done rfl ?_
      refine a_condK rfl rfl ?_
      refine a_rseq ?_
      refine rg_put (d := 4) (v := .d (.fl (.int .i64 12))) rfl (og rfl (op_assign rfl rfl rfl)) ?_
      refine rg_done rfl ?_
      refine a_ret ?_
      show ∃ ds, ResL _ _ _ ds ∧ RV.of ds = _
      refine ⟨[.fl (.int .i64 12)], (.cons (.tmp rfl (.d _)) .nil), ?_⟩
      have gT : isT p.time = false := isT_n (by omega)
      have hu : pck p n = 12 := by unfold pck; simp only [gT, h1, h3, h4, Bool.true_or, Bool.false_or, Bool.or_true, Bool.or_false, Bool.not_true, Bool.not_false, cond_true, cond_false, Bool.true_and, Bool.false_and, Bool.and_true, Bool.and_false] <;> rfl
      rw [hu]; rfl
set_option maxHeartbeats 4000000 in
set_option maxRecDepth 100000 in
theorem isTC (t : Int) : Ctr Tryz.prog 31 [.fl (.int .i64 t)] (.d (.fl (.bool (isT t)))) := by
  refine ctr (n := 9) (rs := #[.tmp 2]) (L := [(0, .d (.fl (.int .i64 t)))]) Tryz.func31 rfl rfl rfl rfl rfl (fun w0 U0 => ?_)
  refine a_rseq ?_
  refine rg_put (d := 2) (v := .d (.fl (.bool false))) rfl (og rfl (op_assign rfl rfl rfl)) ?_
  refine rg_done rfl ?_
  refine a_rseq ?_
  refine rg_put (d := 3) (v := .d (.fl (.int .i64 t))) rfl (og rfl (op_move rfl rfl rfl)) ?_
  refine rg_put (d := 4) (v := .d (.fl (.bool ((decide (0 ≤ t)))))) rfl (og rfl (op_bin rfl rfl rfl (b_geq _ _ _ _) rfl)) ?_
  refine rg_put (d := 5) (v := .d (.fl (.bool ((decide (0 ≤ t)))))) rfl (og rfl (op_move rfl rfl rfl)) ?_
  rcases fot ((decide (0 ≤ t))) with h1 | h1
  · skip
    have h2 := f_dec h1
    refine rg_put (d := 6) (v := .d (.fl undef)) rfl (on rfl rfl rfl h1) ?_
    refine rg_put (d := 7) (v := .d (.fl undef)) rfl (on rfl rfl rfl h1) ?_
    refine rg_put (d := 8) (v := .d (.fl (.bool false))) rfl (og rfl (op_pick rfl rfl (by rw [h1]; rfl) rfl)) ?_
    refine rg_put (d := 2) (v := .d (.fl (.bool false))) rfl (og rfl (op_assign rfl rfl rfl)) ?_
    refine rg_done rfl ?_
    refine a_ret ?_
    show ∃ ds, ResL _ _ _ ds ∧ RV.of ds = _
    refine ⟨[.fl (.bool false)], (.cons (.tmp rfl (.d _)) .nil), ?_⟩
    first
      | (have hu : isT t = false := by
          unfold isT; simp only [h1, Bool.true_or, Bool.false_or, Bool.or_true, Bool.or_false, Bool.not_true, Bool.not_false, cond_true, cond_false, Bool.true_and, Bool.false_and, Bool.and_true, Bool.and_false] <;> rfl
         rw [hu]; rfl)
      | (exfalso; omega)
  · skip
    have h3 := t_dec h1
    refine rg_put (d := 6) (v := .d (.fl (.int .i64 t))) rfl (oy rfl rfl rfl h1 (op_move rfl rfl rfl)) ?_
    refine rg_put (d := 7) (v := .d (.fl (.bool ((decide (t < 68719476736)))))) rfl (oy rfl rfl rfl h1 (op_bin rfl rfl rfl (b_lss _ _ _ _) rfl)) ?_
    refine rg_put (d := 8) (v := .d (.fl (.bool ((decide (t < 68719476736)))))) rfl (og rfl (op_pick rfl rfl (by rw [h1]; rfl) rfl)) ?_
    refine rg_put (d := 2) (v := .d (.fl (.bool ((decide (t < 68719476736)))))) rfl (og rfl (op_assign rfl rfl rfl)) ?_
    refine rg_done rfl ?_
    refine a_ret ?_
    show ∃ ds, ResL _ _ _ ds ∧ RV.of ds = _
    refine ⟨[.fl (.bool ((decide (t < 68719476736))))], (.cons (.tmp rfl (.d _)) .nil), ?_⟩
    first
      | (have hu : isT t = (decide (t < 68719476736)) := by
          unfold isT; simp only [h1, Bool.true_or, Bool.false_or, Bool.or_true, Bool.or_false, Bool.not_true, Bool.not_false, cond_true, cond_false, Bool.true_and, Bool.false_and, Bool.and_true, Bool.and_false] <;> rfl
         rw [hu]; rfl)
      | (exfalso; omega)
set_option maxHeartbeats 4000000 in
set_option maxRecDepth 100000 in
theorem pckR (p : Psg) (n : Nwk) (hz : szP p) (hn : 0 < p.src.length → -9223372036854775808 ≤ (ix p.src 0).seq ∧ (ix p.src 0).seq ≤ 9223372036854775807) : Ctr Tryz.prog 8 [.ag (ePsg p), .ag (eNwk n)] (.d (.fl (.int .i64 (pck p n)))) := by
  have hzt := hz.t
  have hzl := hz.l
  have hzn := hz.n
  refine ctr (n := 108) (rs := #[.tmp 4]) (L := [(0, .d (.ag (ePsg p))), (1, .d (.ag (eNwk n)))]) Tryz.func8 rfl rfl rfl rfl rfl (fun w0 U0 => ?_)
  refine a_rseq ?_
  refine rg_nam (d := 2) (v := .pt 101 0) (m := 101) (nw := [(101, .bx 24 (ePsg p))]) rfl (og rfl (of_eff (op_box 101 rfl rfl rfl rfl) rfl)) rfl ?_
  refine rg_nam (d := 3) (v := .pt 102 0) (m := 102) (nw := [(102, .bx 32 (eNwk n))]) rfl (og rfl (of_eff (op_box 102 rfl rfl rfl rfl) rfl)) rfl ?_
  refine rg_put (d := 4) (v := .d (.fl (.int .i64 0))) rfl (og rfl (op_assign rfl rfl rfl)) ?_
  refine rg_done rfl ?_
  refine a_rseq ?_
  refine rg_put (d := 12) (v := .d (.ag (eNwk n))) rfl (og rfl (of_eff (s_load_pts rfl Tryz.underlying32 rfl ti32 rfl rfl rfl rfl) rfl)) ?_
  refine rg_put (d := 13) (v := .pt 101 1) rfl (og rfl (of_eff (s_field_pt rfl Tryz.underlying24 rfl ti9 rfl rfl rfl) rfl)) ?_
  refine rg_put (d := 14) (v := .d (.fl (.string p.point))) rfl (og rfl (op_load_pt rfl Tryz.underlying9 rfl rfl rfl rfl rfl)) ?_
  refine rg_put (d := 15) (v := .tu [.ag (ePnt ((gfE n p.point).1)), .fl (.bool ((gfE n p.point).2))]) rfl (og rfl (op_call rfl Tryz.func30 nm30 rfl (.cons rfl (.d _) (.cons rfl (.d _) .nil)) (gfR n p.point) rfl)) ?_
  refine rg_put (d := 11) (v := .tu [.ag (ePnt ((gfE n p.point).1)), .fl (.bool ((gfE n p.point).2))]) rfl (og rfl (op_move rfl rfl rfl)) ?_
  refine rg_put (d := 16) (v := .d (.ag (ePnt ((gfE n p.point).1)))) rfl (og rfl (op_extract rfl rfl rfl rfl)) ?_
  refine rg_put (d := 17) (v := .d (.fl (.bool ((gfE n p.point).2)))) rfl (og rfl (op_extract rfl rfl rfl rfl)) ?_
  refine rg_nam (d := 5) (v := .pt 103 0) (m := 103) (nw := [(103, .bx 29 ([.fl (.string (⟨#[]⟩)), .fl (.int .i64 0), .fl (.string (⟨#[]⟩))]))]) rfl (og rfl (of_eff (s_alloc 103 rfl ti29 (by kernel_rfl) rfl) rfl)) rfl ?_
  refine rg_sto (nw := [(103, .bx 29 ((ePnt ((gfE n p.point).1))))]) rfl (og rfl (of_eff (s_store rfl rfl ti29 rfl rfl rfl rfl rfl rfl) rfl)) ?_
  refine rg_put (d := 6) (v := .d (.fl (.bool ((gfE n p.point).2)))) rfl (og rfl (op_assign rfl rfl rfl)) ?_
  refine rg_done rfl ?_
  refine a_seq ?_
  refine a_rseq ?_
  refine rg_put (d := 18) (v := .d (.fl (.bool ((gfE n p.point).2)))) rfl (og rfl (op_move rfl rfl rfl)) ?_
  refine rg_put (d := 19) (v := .d (.fl (.bool ((!((gfE n p.point).2)))))) rfl (og rfl (op_un rfl rfl (u_not _) rfl)) ?_
  refine rg_done rfl ?_
  refine a_cond rfl (fun h1 => ?_) (fun h1 => ?_)
  · skip
    have h2 := t_not h1
    refine a_rseq ?_
    refine rg_put (d := 4) (v := .d (.fl (.int .i64 16))) rfl (og rfl (op_assign rfl rfl rfl)) ?_
    refine rg_done rfl ?_
    refine a_ret ?_
    show ∃ ds, ResL _ _ _ ds ∧ RV.of ds = _
    refine ⟨[.fl (.int .i64 16)], (.cons (.tmp rfl (.d _)) .nil), ?_⟩
    have hu : pck p n = 16 := by unfold pck; simp only [h1, h2, Bool.true_or, Bool.false_or, Bool.or_true, Bool.or_false, Bool.not_true, Bool.not_false, cond_true, cond_false, Bool.true_and, Bool.false_and, Bool.and_true, Bool.and_false] <;> rfl
    rw [hu]; rfl
  · skip
    have h3 := f_not h1
    refine a_skip ?_
    show A _ _ _ _ _ _ _
    refine a_seq ?_
    refine a_rseq ?_
    refine rg_put (d := 20) (v := .pt 101 2) rfl (og rfl (of_eff (s_field_pt rfl Tryz.underlying24 rfl ti3 rfl rfl rfl) rfl)) ?_
    refine rg_put (d := 21) (v := .d (.fl (.int .i64 p.time))) rfl (og rfl (op_load_pt rfl Tryz.underlying3 rfl rfl rfl rfl rfl)) ?_
    refine rg_put (d := 22) (v := .d (.fl (.bool (isT p.time)))) rfl (og rfl (op_call rfl Tryz.func31 nm31 rfl (.cons rfl (.d _) .nil) (isTC p.time) rfl)) ?_
    refine rg_put (d := 23) (v := .d (.fl (.bool ((!(isT p.time)))))) rfl (og rfl (op_un rfl rfl (u_not _) rfl)) ?_
    refine rg_done rfl ?_
    refine a_cond rfl (fun h4 => ?_) (fun h4 => ?_)
    · skip
      have h5 := t_not h4
      refine a_rseq ?_
      refine rg_put (d := 4) (v := .d (.fl (.int .i64 12))) rfl (og rfl (op_assign rfl rfl rfl)) ?_
      refine rg_done rfl ?_
      refine a_ret ?_
      show ∃ ds, ResL _ _ _ ds ∧ RV.of ds = _
      refine ⟨[.fl (.int .i64 12)], (.cons (.tmp rfl (.d _)) .nil), ?_⟩
      have hu : pck p n = 12 := by unfold pck; simp only [h1, h3, h4, h5, Bool.true_or, Bool.false_or, Bool.or_true, Bool.or_false, Bool.not_true, Bool.not_false, cond_true, cond_false, Bool.true_and, Bool.false_and, Bool.and_true, Bool.and_false] <;> rfl
      rw [hu]; rfl
    · skip
      have h6 := f_not h4
      refine a_skip ?_
      show A _ _ _ _ _ _ _
      refine a_seq ?_
      refine a_rseq ?_
      refine rg_put (d := 24) (v := .pt 101 3) rfl (og rfl (of_eff (s_field_pt rfl Tryz.underlying24 rfl ti9 rfl rfl rfl) rfl)) ?_
      refine rg_put (d := 25) (v := .d (.fl (.string p.tag))) rfl (og rfl (op_load_pt rfl Tryz.underlying9 rfl rfl rfl rfl rfl)) ?_
      refine rg_put (d := 26) (v := .d (.fl (.bool ((sEq p.tag (⟨#[]⟩)))))) rfl (og rfl (op_bin rfl rfl rfl (b_seq _ _ _) rfl)) ?_
      refine rg_put (d := 27) (v := .d (.fl (.bool ((sEq p.tag (⟨#[]⟩)))))) rfl (og rfl (op_move rfl rfl rfl)) ?_
      rcases fot ((sEq p.tag (⟨#[]⟩))) with h7 | h7
      · skip
        refine rg_put (d := 28) (v := .d (.fl undef)) rfl (on rfl rfl rfl h7) ?_
        refine rg_put (d := 29) (v := .d (.fl undef)) rfl (on rfl rfl rfl h7) ?_
        refine rg_put (d := 30) (v := .d (.fl undef)) rfl (on rfl rfl rfl h7) ?_
        refine rg_put (d := 31) (v := .d (.fl (.bool false))) rfl (og rfl (op_pick rfl rfl (by rw [h7]; rfl) rfl)) ?_
        refine rg_done rfl ?_
        refine a_condF rfl rfl ?_
        refine a_skip ?_
        show A _ _ _ _ _ _ _
        refine a_seq ?_
        refine a_rseq ?_
        refine rg_put (d := 32) (v := .pt 101 3) rfl (og rfl (of_eff (s_field_pt rfl Tryz.underlying24 rfl ti9 rfl rfl rfl) rfl)) ?_
        refine rg_put (d := 33) (v := .d (.fl (.string p.tag))) rfl (og rfl (op_load_pt rfl Tryz.underlying9 rfl rfl rfl rfl rfl)) ?_
        refine rg_put (d := 34) (v := .d (.fl (.bool ((!(sEq p.tag (⟨#[]⟩))))))) rfl (og rfl (op_bin rfl rfl rfl (b_sne _ _ _) rfl)) ?_
        refine rg_put (d := 35) (v := .d (.fl (.bool ((!(sEq p.tag (⟨#[]⟩))))))) rfl (og rfl (op_move rfl rfl rfl)) ?_
        refine rg_put (d := 36) (v := .pt 101 3) rfl (oy rfl rfl rfl (not_t' h7) (of_eff (s_field_pt rfl Tryz.underlying24 rfl ti9 rfl rfl rfl) rfl)) ?_
        refine rg_put (d := 37) (v := .d (.fl (.string p.tag))) rfl (oy rfl rfl rfl (not_t' h7) (op_load_pt rfl Tryz.underlying9 rfl rfl rfl rfl rfl)) ?_
        refine rg_put (d := 38) (v := .d (.fl (.int .i64 (Tm.ck p.tag)))) rfl (oy rfl rfl rfl (not_t' h7) (op_call rfl Tryz.func32 nm32 rfl (.cons rfl (.d _) .nil) (tagC32 p.tag) rfl)) ?_
        refine rg_put (d := 39) (v := .d (.fl (.bool (((Tm.ck p.tag) != 0))))) rfl (oy rfl rfl rfl (not_t' h7) (op_bin rfl rfl rfl (b_neq _ _ _ _) rfl)) ?_
        refine rg_put (d := 40) (v := .d (.fl (.bool (((Tm.ck p.tag) != 0))))) rfl (og rfl (op_pick rfl rfl (by rw [(not_t' h7)]; rfl) rfl)) ?_
        refine rg_done rfl ?_
        refine a_cond rfl (fun h8 => ?_) (fun h8 => ?_)
        · skip
          have h9 := t_bne h8
          refine a_rseq ?_
          refine rg_put (d := 41) (v := .pt 101 3) rfl (og rfl (of_eff (s_field_pt rfl Tryz.underlying24 rfl ti9 rfl rfl rfl) rfl)) ?_
          refine rg_put (d := 42) (v := .d (.fl (.string p.tag))) rfl (og rfl (op_load_pt rfl Tryz.underlying9 rfl rfl rfl rfl rfl)) ?_
          refine rg_put (d := 43) (v := .d (.fl (.int .i64 (Tm.ck p.tag)))) rfl (og rfl (op_call rfl Tryz.func32 nm32 rfl (.cons rfl (.d _) .nil) (tagC32 p.tag) rfl)) ?_
          refine rg_put (d := 4) (v := .d (.fl (.int .i64 (Tm.ck p.tag)))) rfl (og rfl (op_assign rfl rfl rfl)) ?_
          refine rg_done rfl ?_
          refine a_ret ?_
          show ∃ ds, ResL _ _ _ ds ∧ RV.of ds = _
          refine ⟨[.fl (.int .i64 (Tm.ck p.tag))], (.cons (.tmp rfl (.d _)) .nil), ?_⟩
          have hu : pck p n = (Tm.ck p.tag) := by unfold pck; simp only [h1, h3, h4, h6, h7, h8, Bool.true_or, Bool.false_or, Bool.or_true, Bool.or_false, Bool.not_true, Bool.not_false, cond_true, cond_false, Bool.true_and, Bool.false_and, Bool.and_true, Bool.and_false] <;> rfl
          rw [hu]; rfl
        · skip
          have h10 := f_bne h8
          refine a_skip ?_
          show A _ _ _ _ _ _ _
          refine a_rseq ?_
          refine rg_put (d := 45) (v := .pt 101 4) rfl (og rfl (of_eff (s_field_pt rfl Tryz.underlying24 rfl ti9 rfl rfl rfl) rfl)) ?_
          refine rg_put (d := 46) (v := .d (.fl (.string p.plate))) rfl (og rfl (op_load_pt rfl Tryz.underlying9 rfl rfl rfl rfl rfl)) ?_
          refine rg_put (d := 47) (v := .tu [.fl (.string (nmS p.plate)), .fl (.int .i64 (nmI p.plate))]) rfl (og rfl (op_call rfl Tryz.func33 nm33 rfl (.cons rfl (.d _) .nil) (norR p.plate (by omega)) rfl)) ?_
          refine rg_put (d := 44) (v := .tu [.fl (.string (nmS p.plate)), .fl (.int .i64 (nmI p.plate))]) rfl (og rfl (op_move rfl rfl rfl)) ?_
          refine rg_put (d := 48) (v := .d (.fl (.string (nmS p.plate)))) rfl (og rfl (op_extract rfl rfl rfl rfl)) ?_
          refine rg_put (d := 49) (v := .d (.fl (.int .i64 (nmI p.plate)))) rfl (og rfl (op_extract rfl rfl rfl rfl)) ?_
          refine rg_put (d := 7) (v := .d (.fl (.string (nmS p.plate)))) rfl (og rfl (op_assign rfl rfl rfl)) ?_
          refine rg_put (d := 8) (v := .d (.fl (.int .i64 (nmI p.plate)))) rfl (og rfl (op_assign rfl rfl rfl)) ?_
          refine rg_done rfl ?_
          refine a_seq ?_
          refine a_rseq ?_
          refine rg_put (d := 50) (v := .pt 101 4) rfl (og rfl (of_eff (s_field_pt rfl Tryz.underlying24 rfl ti9 rfl rfl rfl) rfl)) ?_
          refine rg_put (d := 51) (v := .d (.fl (.string p.plate))) rfl (og rfl (op_load_pt rfl Tryz.underlying9 rfl rfl rfl rfl rfl)) ?_
          refine rg_put (d := 52) (v := .d (.fl (.bool ((!(sEq p.plate (⟨#[]⟩))))))) rfl (og rfl (op_bin rfl rfl rfl (b_sne _ _ _) rfl)) ?_
          refine rg_put (d := 53) (v := .d (.fl (.bool ((!(sEq p.plate (⟨#[]⟩))))))) rfl (og rfl (op_move rfl rfl rfl)) ?_
          rcases fot ((!(sEq p.plate (⟨#[]⟩)))) with h11 | h11
          · skip
            have h12 := f_not h11
            refine rg_put (d := 54) (v := .d (.fl undef)) rfl (on rfl rfl rfl h11) ?_
            refine rg_put (d := 55) (v := .d (.fl undef)) rfl (on rfl rfl rfl h11) ?_
            refine rg_put (d := 56) (v := .d (.fl undef)) rfl (on rfl rfl rfl h11) ?_
            refine rg_put (d := 57) (v := .d (.fl undef)) rfl (ou rfl rfl rfl) ?_
            refine rg_put (d := 58) (v := .d (.fl undef)) rfl (ou rfl rfl rfl) ?_
            refine rg_put (d := 59) (v := .d (.fl undef)) rfl (ou rfl rfl rfl) ?_
            refine rg_put (d := 60) (v := .d (.fl undef)) rfl (ou rfl rfl rfl) ?_
            refine rg_put (d := 61) (v := .d (.fl undef)) rfl (on rfl rfl rfl h11) ?_
            refine rg_put (d := 62) (v := .d (.fl (.bool false))) rfl (og rfl (op_pick rfl rfl (by rw [h11]; rfl) rfl)) ?_
            refine rg_done rfl ?_
            refine a_condF rfl rfl ?_
            refine a_skip ?_
            show A _ _ _ _ _ _ _
            refine a_seq ?_
            refine a_rseq ?_
            refine rg_put (d := 63) (v := .pt 101 5) rfl (og rfl (of_eff (s_field_pt rfl Tryz.underlying24 rfl ti3 rfl rfl rfl) rfl)) ?_
            refine rg_put (d := 64) (v := .d (.fl (.int .i64 p.cls))) rfl (og rfl (op_load_pt rfl Tryz.underlying3 rfl rfl rfl rfl rfl)) ?_
            refine rg_put (d := 65) (v := .d (.fl (.bool ((decide (p.cls < 0)))))) rfl (og rfl (op_bin rfl rfl rfl (b_lss _ _ _ _) rfl)) ?_
            refine rg_put (d := 66) (v := .d (.fl (.bool ((decide (p.cls < 0)))))) rfl (og rfl (op_move rfl rfl rfl)) ?_
            rcases fot ((decide (p.cls < 0))) with h13 | h13
            · skip
              have h14 := f_dec h13
              refine rg_put (d := 67) (v := .pt 101 5) rfl (oy rfl rfl rfl h13 (of_eff (s_field_pt rfl Tryz.underlying24 rfl ti3 rfl rfl rfl) rfl)) ?_
              refine rg_put (d := 68) (v := .d (.fl (.int .i64 p.cls))) rfl (oy rfl rfl rfl h13 (op_load_pt rfl Tryz.underlying3 rfl rfl rfl rfl rfl)) ?_
              refine rg_put (d := 69) (v := .d (.fl (.bool ((decide (9 < p.cls)))))) rfl (oy rfl rfl rfl h13 (op_bin rfl rfl rfl (b_gtr _ _ _ _) rfl)) ?_
              refine rg_put (d := 70) (v := .d (.fl (.bool ((decide (9 < p.cls)))))) rfl (og rfl (op_pick rfl rfl (by rw [h13]; rfl) rfl)) ?_
              refine rg_done rfl ?_
              refine a_cond rfl (fun h15 => ?_) (fun h15 => ?_)
              · skip
                have h16 := t_dec h15
                refine a_rseq ?_
                refine rg_put (d := 4) (v := .d (.fl (.int .i64 20))) rfl (og rfl (op_assign rfl rfl rfl)) ?_
                refine rg_done rfl ?_
                refine a_ret ?_
                show ∃ ds, ResL _ _ _ ds ∧ RV.of ds = _
                refine ⟨[.fl (.int .i64 20)], (.cons (.tmp rfl (.d _)) .nil), ?_⟩
                have hu : pck p n = 20 := by unfold pck; simp only [h1, h3, h4, h6, h7, h8, h11, h12, h13, h15, Bool.true_or, Bool.false_or, Bool.or_true, Bool.or_false, Bool.not_true, Bool.not_false, cond_true, cond_false, Bool.true_and, Bool.false_and, Bool.and_true, Bool.and_false] <;> rfl
                rw [hu]; rfl
              · skip
                have h17 := f_dec h15
                refine a_skip ?_
                show A _ _ _ _ _ _ _
                refine a_seq ?_
                refine a_rseq ?_
                refine rg_put (d := 71) (v := .pt 101 6) rfl (og rfl (of_eff (s_field_pt rfl Tryz.underlying24 rfl ti3 rfl rfl rfl) rfl)) ?_
                refine rg_put (d := 72) (v := .d (.fl (.int .i64 p.score))) rfl (og rfl (op_load_pt rfl Tryz.underlying3 rfl rfl rfl rfl rfl)) ?_
                refine rg_put (d := 73) (v := .d (.fl (.bool ((decide (p.score < 0)))))) rfl (og rfl (op_bin rfl rfl rfl (b_lss _ _ _ _) rfl)) ?_
                refine rg_put (d := 74) (v := .d (.fl (.bool ((decide (p.score < 0)))))) rfl (og rfl (op_move rfl rfl rfl)) ?_
                rcases fot ((decide (p.score < 0))) with h18 | h18
                · skip
                  have h19 := f_dec h18
                  refine rg_put (d := 75) (v := .pt 101 6) rfl (oy rfl rfl rfl h18 (of_eff (s_field_pt rfl Tryz.underlying24 rfl ti3 rfl rfl rfl) rfl)) ?_
                  refine rg_put (d := 76) (v := .d (.fl (.int .i64 p.score))) rfl (oy rfl rfl rfl h18 (op_load_pt rfl Tryz.underlying3 rfl rfl rfl rfl rfl)) ?_
                  refine rg_put (d := 77) (v := .d (.fl (.bool ((decide (1000 < p.score)))))) rfl (oy rfl rfl rfl h18 (op_bin rfl rfl rfl (b_gtr _ _ _ _) rfl)) ?_
                  refine rg_put (d := 78) (v := .d (.fl (.bool ((decide (1000 < p.score)))))) rfl (og rfl (op_pick rfl rfl (by rw [h18]; rfl) rfl)) ?_
                  refine rg_done rfl ?_
                  refine a_cond rfl (fun h20 => ?_) (fun h20 => ?_)
                  · skip
                    have h21 := t_dec h20
                    refine a_rseq ?_
                    refine rg_put (d := 4) (v := .d (.fl (.int .i64 1))) rfl (og rfl (op_assign rfl rfl rfl)) ?_
                    refine rg_done rfl ?_
                    refine a_ret ?_
                    show ∃ ds, ResL _ _ _ ds ∧ RV.of ds = _
                    refine ⟨[.fl (.int .i64 1)], (.cons (.tmp rfl (.d _)) .nil), ?_⟩
                    have hu : pck p n = 1 := by unfold pck; simp only [h1, h3, h4, h6, h7, h8, h11, h12, h13, h15, h18, h20, Bool.true_or, Bool.false_or, Bool.or_true, Bool.or_false, Bool.not_true, Bool.not_false, cond_true, cond_false, Bool.true_and, Bool.false_and, Bool.and_true, Bool.and_false] <;> rfl
                    rw [hu]; rfl
                  · skip
                    have h22 := f_dec h20
                    refine a_skip ?_
                    show A _ _ _ _ _ _ _
                    refine a_seq ?_
                    refine a_rseq ?_
                    refine rg_put (d := 79) (v := .pt 101 7) rfl (og rfl (of_eff (s_field_pt rfl Tryz.underlying24 rfl ti22 rfl rfl rfl) rfl)) ?_
                    refine rg_put (d := 80) (v := .d (.sl 2 (List.map eSrc p.src))) rfl (og rfl (op_load_pt rfl Tryz.underlying22 rfl rfl rfl rfl rfl)) ?_
                    refine rg_put (d := 81) (v := .d (.fl (.int .i64 (p.src.length : Int)))) rfl (og rfl (s_len rfl Tryz.underlying22 rfl rfl)) ?_
                    refine rg_put (d := 82) (v := .d (.fl (.bool ((decide ((p.src.length : Int) < 1)))))) rfl (og rfl (op_bin rfl rfl rfl (b_lss _ _ _ _) rfl)) ?_
                    refine rg_put (d := 83) (v := .d (.fl (.bool ((decide ((p.src.length : Int) < 1)))))) rfl (og rfl (op_move rfl rfl rfl)) ?_
                    rcases fot ((decide ((p.src.length : Int) < 1))) with h23 | h23
                    · skip
                      have h24 := f_dec h23
                      refine rg_put (d := 84) (v := .pt 101 7) rfl (oy rfl rfl rfl h23 (of_eff (s_field_pt rfl Tryz.underlying24 rfl ti22 rfl rfl rfl) rfl)) ?_
                      refine rg_put (d := 85) (v := .d (.sl 2 (List.map eSrc p.src))) rfl (oy rfl rfl rfl h23 (op_load_pt rfl Tryz.underlying22 rfl rfl rfl rfl rfl)) ?_
                      refine rg_put (d := 86) (v := .d (.fl (.int .i64 (p.src.length : Int)))) rfl (oy rfl rfl rfl h23 (s_len rfl Tryz.underlying22 rfl rfl)) ?_
                      refine rg_put (d := 87) (v := .d (.fl (.bool ((decide (24 < (p.src.length : Int))))))) rfl (oy rfl rfl rfl h23 (op_bin rfl rfl rfl (b_gtr _ _ _ _) rfl)) ?_
                      refine rg_put (d := 88) (v := .d (.fl (.bool ((decide (24 < (p.src.length : Int))))))) rfl (og rfl (op_pick rfl rfl (by rw [h23]; rfl) rfl)) ?_
                      refine rg_done rfl ?_
                      refine a_cond rfl (fun h25 => ?_) (fun h25 => ?_)
                      · skip
                        have h26 := t_dec h25
                        refine a_rseq ?_
                        refine rg_put (d := 4) (v := .d (.fl (.int .i64 3))) rfl (og rfl (op_assign rfl rfl rfl)) ?_
                        refine rg_done rfl ?_
                        refine a_ret ?_
                        show ∃ ds, ResL _ _ _ ds ∧ RV.of ds = _
                        refine ⟨[.fl (.int .i64 3)], (.cons (.tmp rfl (.d _)) .nil), ?_⟩
                        have hlim : (decide ((p.src.length : Int) < 1) || decide (24 < (p.src.length : Int))) = true := by simp only [h1, h3, h4, h6, h7, h8, h11, h12, h13, h15, h18, h20, h23, h25, Bool.true_or, Bool.false_or, Bool.or_true, Bool.or_false, Bool.not_true, Bool.not_false, cond_true, cond_false, Bool.true_and, Bool.false_and, Bool.and_true, Bool.and_false]
                        have gS := cs_l hlim
                        have gS2 : (csE p.src != 0) = true := by rw [gS]; rfl
                        have hu : pck p n = 3 := by unfold pck; simp only [gS2, gS, h1, h3, h4, h6, h7, h8, h11, h12, h13, h15, h18, h20, h23, h25, Bool.true_or, Bool.false_or, Bool.or_true, Bool.or_false, Bool.not_true, Bool.not_false, cond_true, cond_false, Bool.true_and, Bool.false_and, Bool.and_true, Bool.and_false] <;> rfl
                        rw [hu]; rfl
                      · skip
                        have h27 := f_dec h25
                        refine a_skip ?_
                        show A _ _ _ _ _ _ _
                        refine a_seq ?_
                        refine a_rseq ?_
                        refine rg_put (d := 9) (v := .d (.fl (.int .i64 0))) rfl (og rfl (op_assign rfl rfl rfl)) ?_
                        refine rg_done rfl ?_
                        refine a_block ?_
                        refine a_loop (ι := Nat) (fun k => SS [(0, .d (.ag (ePsg p))), (1, .d (.ag (eNwk n))), (2, .pt 101 0), (3, .pt 102 0), (6, .d (.fl (.bool ((gfE n p.point).2)))), (7, .d (.fl (.string (nmS p.plate)))), (8, .d (.fl (.int .i64 (nmI p.plate)))), (19, .d (.fl (.bool ((!((gfE n p.point).2)))))), (23, .d (.fl (.bool ((!(isT p.time)))))), (31, .d (.fl (.bool false))), (40, .d (.fl (.bool (((Tm.ck p.tag) != 0))))), (62, .d (.fl (.bool false))), (70, .d (.fl (.bool ((decide (9 < p.cls)))))), (78, .d (.fl (.bool ((decide (1000 < p.score)))))), (88, .d (.fl (.bool ((decide (24 < (p.src.length : Int))))))), (9, .d (.fl (.int .i64 (k : Int))))] [(101, .bx 24 (ePsg p)), (102, .bx 32 (eNwk n))]) (fun k => k ≤ p.src.length ∧ srE p.src = fe (sr1 p.src) k (p.src.length - k)) (fun k => p.src.length - k) 0 (⟨by omega, rfl⟩) (imp_forget rfl ⟨rfl, rfl, rfl, rfl, rfl, rfl, rfl, rfl, rfl, rfl, rfl, rfl, rfl, rfl, rfl, (by first | rfl | exact ci (by omega) | exact ci (by simp) | exact cd (by simp) | simp), trivial⟩ ⟨rfl, rfl, trivial⟩) (fun k hok => ?_)
                        obtain ⟨hk, hc⟩ := hok
                        refine a_seq ?_
                        refine a_rseq ?_
                        refine rg_put (d := 89) (v := .d (.fl (.int .i64 (k : Int)))) rfl (og rfl (op_move rfl rfl rfl)) ?_
                        refine rg_put (d := 90) (v := .pt 101 7) rfl (og rfl (of_eff (s_field_pt rfl Tryz.underlying24 rfl ti22 rfl rfl rfl) rfl)) ?_
                        refine rg_put (d := 91) (v := .d (.sl 2 (List.map eSrc p.src))) rfl (og rfl (op_load_pt rfl Tryz.underlying22 rfl rfl rfl rfl rfl)) ?_
                        refine rg_put (d := 92) (v := .d (.fl (.int .i64 (p.src.length : Int)))) rfl (og rfl (s_len rfl Tryz.underlying22 rfl rfl)) ?_
                        refine rg_put (d := 93) (v := .d (.fl (.bool ((decide ((k : Int) < (p.src.length : Int))))))) rfl (og rfl (op_bin rfl rfl rfl (b_lss _ _ _ _) rfl)) ?_
                        refine rg_done rfl ?_
                        refine a_cond rfl (fun h28 => ?_) (fun h28 => ?_)
                        · skip
                          have h29 := t_dec h28
                          refine a_skip ?_
                          show A _ _ _ _ _ _ _
                          refine a_seq ?_
                          refine a_block ?_
                          refine a_rseq ?_
                          refine rg_put (d := 96) (v := .pt 101 7) rfl (og rfl (of_eff (s_field_pt rfl Tryz.underlying24 rfl ti22 rfl rfl rfl) rfl)) ?_
                          refine rg_put (d := 97) (v := .d (.sl 2 (List.map eSrc p.src))) rfl (og rfl (op_load_pt rfl Tryz.underlying22 rfl rfl rfl rfl rfl)) ?_
                          refine rg_put (d := 98) (v := .d (.fl (.int .i64 (k : Int)))) rfl (og rfl (op_move rfl rfl rfl)) ?_
                          refine rg_put (d := 99) (v := .d (.fl (.int .i64 (sr1 p.src k)))) rfl (og rfl (op_call rfl Tryz.func34 nm34 rfl (.cons rfl (.d _) (.cons rfl (.d _) .nil)) (srR p.src k (by omega) (by omega) hz.d) rfl)) ?_
                          refine rg_put (d := 10) (v := .d (.fl (.int .i64 (sr1 p.src k)))) rfl (og rfl (op_assign rfl rfl rfl)) ?_
                          refine rg_done rfl ?_
                          refine a_rseq ?_
                          refine rg_put (d := 100) (v := .d (.fl (.int .i64 (sr1 p.src k)))) rfl (og rfl (op_move rfl rfl rfl)) ?_
                          refine rg_put (d := 101) (v := .d (.fl (.bool (((sr1 p.src k) != 0))))) rfl (og rfl (op_bin rfl rfl rfl (b_neq _ _ _ _) rfl)) ?_
                          refine rg_done rfl ?_
                          refine a_cond rfl (fun h30 => ?_) (fun h30 => ?_)
                          · skip
                            have h31 := t_bne h30
                            refine a_rseq ?_
                            refine rg_put (d := 102) (v := .d (.fl (.int .i64 (sr1 p.src k)))) rfl (og rfl (op_move rfl rfl rfl)) ?_
                            refine rg_put (d := 4) (v := .d (.fl (.int .i64 (sr1 p.src k)))) rfl (og rfl (op_assign rfl rfl rfl)) ?_
                            refine rg_done rfl ?_
                            refine a_ret ?_
                            show ∃ ds, ResL _ _ _ ds ∧ RV.of ds = _
                            refine ⟨[.fl (.int .i64 (sr1 p.src k))], (.cons (.tmp rfl (.d _)) .nil), ?_⟩
                            have hlim : (decide ((p.src.length : Int) < 1) || decide (24 < (p.src.length : Int))) = false := by simp only [h1, h3, h4, h6, h7, h8, h11, h12, h13, h15, h18, h20, h23, h25, h28, h30, Bool.true_or, Bool.false_or, Bool.or_true, Bool.or_false, Bool.not_true, Bool.not_false, cond_true, cond_false, Bool.true_and, Bool.false_and, Bool.and_true, Bool.and_false]
                            have gS : csE p.src = sr1 p.src k := by rw [cs_s hlim]; exact fe_yes (by omega) hc rfl (t_bne h30)
                            have gS2 : (csE p.src != 0) = true := by rw [gS]; exact h30
                            have hu : pck p n = (sr1 p.src k) := by unfold pck; simp only [gS2, gS, h1, h3, h4, h6, h7, h8, h11, h12, h13, h15, h18, h20, h23, h25, h28, h30, Bool.true_or, Bool.false_or, Bool.or_true, Bool.or_false, Bool.not_true, Bool.not_false, cond_true, cond_false, Bool.true_and, Bool.false_and, Bool.and_true, Bool.and_false] <;> rfl
                            rw [hu]; rfl
                          · skip
                            have h32 := f_bne h30
                            refine a_skip ?_
                            show A _ _ _ _ _ _ _
                            refine a_region ?_
                            refine rg_put (d := 94) (v := .d (.fl (.int .i64 (k : Int)))) rfl (og rfl (op_move rfl rfl rfl)) ?_
                            refine rg_put (d := 95) (v := .d (.fl (.int .i64 (((k : Int) + 1))))) rfl (og rfl (op_bin rfl rfl rfl (fun x y w => b_add64 _ _ _ x y w (by omega)) rfl)) ?_
                            refine rg_put (d := 9) (v := .d (.fl (.int .i64 (((k : Int) + 1))))) rfl (og rfl (op_assign rfl rfl rfl)) ?_
                            refine rg_done rfl ?_
                            have hb : sr1 p.src k = 0 := f_bne h30
                            show ∃ i, _ ∧ _ ∧ Imp _ _ _ _ _
                            refine ⟨k + 1, ⟨by omega, fe_no (by omega) hc hb⟩, by omega, imp_forget rfl ⟨rfl, rfl, rfl, rfl, rfl, rfl, rfl, rfl, rfl, rfl, rfl, rfl, rfl, rfl, rfl, (by first | rfl | exact ci (by omega) | exact ci (by simp) | exact cd (by simp) | simp), trivial⟩ ⟨rfl, rfl, trivial⟩⟩
                        · skip
                          have h33 := f_dec h28
                          refine a_exit ?_
                          show A _ _ _ _ _ _ _
                          refine a_seq ?_
                          refine a_dseq (by kernel_rfl) ?_
                          refine dr_put (d := 103) (v := .pt 101 0) rfl (og rfl (of_eff (s_field_pt rfl Tryz.underlying24 rfl ti9 rfl rfl rfl) rfl)) ?_
                          refine dr_put (d := 104) (v := .d (.fl (.string p.id))) rfl (og rfl (op_load_pt rfl Tryz.underlying9 rfl rfl rfl rfl rfl)) ?_
                          refine dr_put (d := 105) (v := .d (.ag (ePsg p))) rfl (og rfl (of_eff (s_load_pts rfl Tryz.underlying24 rfl ti24 rfl rfl rfl rfl) rfl)) ?_
                          refine dr_put (d := 106) (v := .d (.fl (.string (idS p)))) rfl (og rfl (op_call rfl Tryz.func10 nm10 rfl (.cons rfl (.d _) .nil) (idR p hz hn) rfl)) ?_
                          refine dr_put (d := 107) (v := .d (.fl (.bool ((!(sEq p.id (idS p))))))) rfl (og rfl (op_bin rfl rfl rfl (b_sne _ _ _) rfl)) ?_
                          refine dr_done rfl (by kernel_rfl) (by kernel_rfl) ?_
                          refine a_cond rfl (fun h34 => ?_) (fun h34 => ?_)
                          · skip
                            have h35 := t_not h34
                            refine a_rseq ?_
                            refine rg_put (d := 4) (v := .d (.fl (.int .i64 6))) rfl (og rfl (op_assign rfl rfl rfl)) ?_
                            refine rg_done rfl ?_
                            refine a_ret ?_
                            show ∃ ds, ResL _ _ _ ds ∧ RV.of ds = _
                            refine ⟨[.fl (.int .i64 6)], (.cons (.tmp rfl (.d _)) .nil), ?_⟩
                            have hlim : (decide ((p.src.length : Int) < 1) || decide (24 < (p.src.length : Int))) = false := by simp only [h1, h3, h4, h6, h7, h8, h11, h12, h13, h15, h18, h20, h23, h25, h28, h34, h35, Bool.true_or, Bool.false_or, Bool.or_true, Bool.or_false, Bool.not_true, Bool.not_false, cond_true, cond_false, Bool.true_and, Bool.false_and, Bool.and_true, Bool.and_false]
                            have gS : csE p.src = 0 := by rw [cs_s hlim]; rw [fe_end (by omega)] at hc; exact hc
                            have gS2 : (csE p.src != 0) = false := by rw [gS]; rfl
                            have hu : pck p n = 6 := by unfold pck; simp only [gS2, h1, h3, h4, h6, h7, h8, h11, h12, h13, h15, h18, h20, h23, h25, h28, h34, h35, Bool.true_or, Bool.false_or, Bool.or_true, Bool.or_false, Bool.not_true, Bool.not_false, cond_true, cond_false, Bool.true_and, Bool.false_and, Bool.and_true, Bool.and_false] <;> rfl
                            rw [hu]; rfl
                          · skip
                            have h36 := f_not h34
                            refine a_skip ?_
                            show A _ _ _ _ _ _ _
                            refine a_rseq ?_
                            refine rg_put (d := 4) (v := .d (.fl (.int .i64 0))) rfl (og rfl (op_assign rfl rfl rfl)) ?_
                            refine rg_done rfl ?_
                            refine a_ret ?_
                            show ∃ ds, ResL _ _ _ ds ∧ RV.of ds = _
                            refine ⟨[.fl (.int .i64 0)], (.cons (.tmp rfl (.d _)) .nil), ?_⟩
                            have hlim : (decide ((p.src.length : Int) < 1) || decide (24 < (p.src.length : Int))) = false := by simp only [h1, h3, h4, h6, h7, h8, h11, h12, h13, h15, h18, h20, h23, h25, h28, h34, h36, Bool.true_or, Bool.false_or, Bool.or_true, Bool.or_false, Bool.not_true, Bool.not_false, cond_true, cond_false, Bool.true_and, Bool.false_and, Bool.and_true, Bool.and_false]
                            have gS : csE p.src = 0 := by rw [cs_s hlim]; rw [fe_end (by omega)] at hc; exact hc
                            have gS2 : (csE p.src != 0) = false := by rw [gS]; rfl
                            have hu : pck p n = 0 := by unfold pck; simp only [gS2, h1, h3, h4, h6, h7, h8, h11, h12, h13, h15, h18, h20, h23, h25, h28, h34, h36, Bool.true_or, Bool.false_or, Bool.or_true, Bool.or_false, Bool.not_true, Bool.not_false, cond_true, cond_false, Bool.true_and, Bool.false_and, Bool.and_true, Bool.and_false] <;> rfl
                            rw [hu]; rfl
                    · skip
                      have h37 := t_dec h23
                      refine rg_put (d := 84) (v := .d (.fl undef)) rfl (on rfl rfl rfl h23) ?_
                      refine rg_put (d := 85) (v := .d (.fl undef)) rfl (on rfl rfl rfl h23) ?_
                      refine rg_put (d := 86) (v := .d (.fl undef)) rfl (on rfl rfl rfl h23) ?_
                      refine rg_put (d := 87) (v := .d (.fl undef)) rfl (on rfl rfl rfl h23) ?_
                      refine rg_put (d := 88) (v := .d (.fl (.bool true))) rfl (og rfl (op_pick rfl rfl (by rw [h23]; rfl) rfl)) ?_
                      refine rg_done rfl ?_
                      refine a_condK rfl rfl ?_
                      refine a_rseq ?_
                      refine rg_put (d := 4) (v := .d (.fl (.int .i64 3))) rfl (og rfl (op_assign rfl rfl rfl)) ?_
                      refine rg_done rfl ?_
                      refine a_ret ?_
                      show ∃ ds, ResL _ _ _ ds ∧ RV.of ds = _
                      refine ⟨[.fl (.int .i64 3)], (.cons (.tmp rfl (.d _)) .nil), ?_⟩
                      have hlim : (decide ((p.src.length : Int) < 1) || decide (24 < (p.src.length : Int))) = true := by simp only [h1, h3, h4, h6, h7, h8, h11, h12, h13, h15, h18, h20, h23, Bool.true_or, Bool.false_or, Bool.or_true, Bool.or_false, Bool.not_true, Bool.not_false, cond_true, cond_false, Bool.true_and, Bool.false_and, Bool.and_true, Bool.and_false]
                      have gS := cs_l hlim
                      have gS2 : (csE p.src != 0) = true := by rw [gS]; rfl
                      have hu : pck p n = 3 := by unfold pck; simp only [gS2, gS, h1, h3, h4, h6, h7, h8, h11, h12, h13, h15, h18, h20, h23, Bool.true_or, Bool.false_or, Bool.or_true, Bool.or_false, Bool.not_true, Bool.not_false, cond_true, cond_false, Bool.true_and, Bool.false_and, Bool.and_true, Bool.and_false] <;> rfl
                      rw [hu]; rfl
                · skip
                  have h38 := t_dec h18
                  refine rg_put (d := 75) (v := .d (.fl undef)) rfl (on rfl rfl rfl h18) ?_
                  refine rg_put (d := 76) (v := .d (.fl undef)) rfl (on rfl rfl rfl h18) ?_
                  refine rg_put (d := 77) (v := .d (.fl undef)) rfl (on rfl rfl rfl h18) ?_
                  refine rg_put (d := 78) (v := .d (.fl (.bool true))) rfl (og rfl (op_pick rfl rfl (by rw [h18]; rfl) rfl)) ?_
                  refine rg_done rfl ?_
                  refine a_condK rfl rfl ?_
                  refine a_rseq ?_
                  refine rg_put (d := 4) (v := .d (.fl (.int .i64 1))) rfl (og rfl (op_assign rfl rfl rfl)) ?_
                  refine rg_done rfl ?_
                  refine a_ret ?_
                  show ∃ ds, ResL _ _ _ ds ∧ RV.of ds = _
                  refine ⟨[.fl (.int .i64 1)], (.cons (.tmp rfl (.d _)) .nil), ?_⟩
                  have hu : pck p n = 1 := by unfold pck; simp only [h1, h3, h4, h6, h7, h8, h11, h12, h13, h15, h18, Bool.true_or, Bool.false_or, Bool.or_true, Bool.or_false, Bool.not_true, Bool.not_false, cond_true, cond_false, Bool.true_and, Bool.false_and, Bool.and_true, Bool.and_false] <;> rfl
                  rw [hu]; rfl
            · skip
              have h39 := t_dec h13
              refine rg_put (d := 67) (v := .d (.fl undef)) rfl (on rfl rfl rfl h13) ?_
              refine rg_put (d := 68) (v := .d (.fl undef)) rfl (on rfl rfl rfl h13) ?_
              refine rg_put (d := 69) (v := .d (.fl undef)) rfl (on rfl rfl rfl h13) ?_
              refine rg_put (d := 70) (v := .d (.fl (.bool true))) rfl (og rfl (op_pick rfl rfl (by rw [h13]; rfl) rfl)) ?_
              refine rg_done rfl ?_
              refine a_condK rfl rfl ?_
              refine a_rseq ?_
              refine rg_put (d := 4) (v := .d (.fl (.int .i64 20))) rfl (og rfl (op_assign rfl rfl rfl)) ?_
              refine rg_done rfl ?_
              refine a_ret ?_
              show ∃ ds, ResL _ _ _ ds ∧ RV.of ds = _
              refine ⟨[.fl (.int .i64 20)], (.cons (.tmp rfl (.d _)) .nil), ?_⟩
              have hu : pck p n = 20 := by unfold pck; simp only [h1, h3, h4, h6, h7, h8, h11, h12, h13, Bool.true_or, Bool.false_or, Bool.or_true, Bool.or_false, Bool.not_true, Bool.not_false, cond_true, cond_false, Bool.true_and, Bool.false_and, Bool.and_true, Bool.and_false] <;> rfl
              rw [hu]; rfl
          · skip
            have h40 := t_not h11
            refine rg_put (d := 54) (v := .d (.fl (.int .i64 (nmI p.plate)))) rfl (oy rfl rfl rfl h11 (op_move rfl rfl rfl)) ?_
            refine rg_put (d := 55) (v := .d (.fl (.bool (((nmI p.plate) != 0))))) rfl (oy rfl rfl rfl h11 (op_bin rfl rfl rfl (b_neq _ _ _ _) rfl)) ?_
            refine rg_put (d := 56) (v := .d (.fl (.bool (((nmI p.plate) != 0))))) rfl (oy rfl rfl rfl h11 (op_move rfl rfl rfl)) ?_
            rcases fot (((nmI p.plate) != 0)) with h41 | h41
            · skip
              have h42 := f_bne h41
              refine rg_put (d := 57) (v := .d (.fl (.string (nmS p.plate)))) rfl (oy rfl rfl rfl h41 (op_move rfl rfl rfl)) ?_
              refine rg_put (d := 58) (v := .pt 101 4) rfl (oy rfl rfl rfl h41 (of_eff (s_field_pt rfl Tryz.underlying24 rfl ti9 rfl rfl rfl) rfl)) ?_
              refine rg_put (d := 59) (v := .d (.fl (.string p.plate))) rfl (oy rfl rfl rfl h41 (op_load_pt rfl Tryz.underlying9 rfl rfl rfl rfl rfl)) ?_
              refine rg_put (d := 60) (v := .d (.fl (.bool ((!(sEq (nmS p.plate) p.plate)))))) rfl (oy rfl rfl rfl h41 (op_bin rfl rfl rfl (b_sne _ _ _) rfl)) ?_
              refine rg_put (d := 61) (v := .d (.fl (.bool ((!(sEq (nmS p.plate) p.plate)))))) rfl (oy rfl rfl rfl h11 (op_pick rfl rfl (by rw [h41]; rfl) rfl)) ?_
              refine rg_put (d := 62) (v := .d (.fl (.bool ((!(sEq (nmS p.plate) p.plate)))))) rfl (og rfl (op_pick rfl rfl (by rw [h11]; rfl) rfl)) ?_
              refine rg_done rfl ?_
              refine a_cond rfl (fun h43 => ?_) (fun h43 => ?_)
              · skip
                have h44 := t_not h43
                refine a_rseq ?_
                refine rg_put (d := 4) (v := .d (.fl (.int .i64 19))) rfl (og rfl (op_assign rfl rfl rfl)) ?_
                refine rg_done rfl ?_
                refine a_ret ?_
                show ∃ ds, ResL _ _ _ ds ∧ RV.of ds = _
                refine ⟨[.fl (.int .i64 19)], (.cons (.tmp rfl (.d _)) .nil), ?_⟩
                have gg0 := bneb h41
                have gN : nrmB p.plate = false := by unfold nrmB; simp only [gg0, h1, h3, h4, h6, h7, h8, h11, h40, h41, h43, h44, Bool.true_or, Bool.false_or, Bool.or_true, Bool.or_false, Bool.not_true, Bool.not_false, cond_true, cond_false, Bool.true_and, Bool.false_and, Bool.and_true, Bool.and_false]
                have hu : pck p n = 19 := by unfold pck; simp only [gN, h1, h3, h4, h6, h7, h8, h11, h40, h41, h43, h44, Bool.true_or, Bool.false_or, Bool.or_true, Bool.or_false, Bool.not_true, Bool.not_false, cond_true, cond_false, Bool.true_and, Bool.false_and, Bool.and_true, Bool.and_false] <;> rfl
                rw [hu]; rfl
              · skip
                have h45 := f_not h43
                refine a_skip ?_
                show A _ _ _ _ _ _ _
                refine a_seq ?_
                refine a_rseq ?_
                refine rg_put (d := 63) (v := .pt 101 5) rfl (og rfl (of_eff (s_field_pt rfl Tryz.underlying24 rfl ti3 rfl rfl rfl) rfl)) ?_
                refine rg_put (d := 64) (v := .d (.fl (.int .i64 p.cls))) rfl (og rfl (op_load_pt rfl Tryz.underlying3 rfl rfl rfl rfl rfl)) ?_
                refine rg_put (d := 65) (v := .d (.fl (.bool ((decide (p.cls < 0)))))) rfl (og rfl (op_bin rfl rfl rfl (b_lss _ _ _ _) rfl)) ?_
                refine rg_put (d := 66) (v := .d (.fl (.bool ((decide (p.cls < 0)))))) rfl (og rfl (op_move rfl rfl rfl)) ?_
                rcases fot ((decide (p.cls < 0))) with h46 | h46
                · skip
                  have h47 := f_dec h46
                  refine rg_put (d := 67) (v := .pt 101 5) rfl (oy rfl rfl rfl h46 (of_eff (s_field_pt rfl Tryz.underlying24 rfl ti3 rfl rfl rfl) rfl)) ?_
                  refine rg_put (d := 68) (v := .d (.fl (.int .i64 p.cls))) rfl (oy rfl rfl rfl h46 (op_load_pt rfl Tryz.underlying3 rfl rfl rfl rfl rfl)) ?_
                  refine rg_put (d := 69) (v := .d (.fl (.bool ((decide (9 < p.cls)))))) rfl (oy rfl rfl rfl h46 (op_bin rfl rfl rfl (b_gtr _ _ _ _) rfl)) ?_
                  refine rg_put (d := 70) (v := .d (.fl (.bool ((decide (9 < p.cls)))))) rfl (og rfl (op_pick rfl rfl (by rw [h46]; rfl) rfl)) ?_
                  refine rg_done rfl ?_
                  refine a_cond rfl (fun h48 => ?_) (fun h48 => ?_)
                  · skip
                    have h49 := t_dec h48
                    refine a_rseq ?_
                    refine rg_put (d := 4) (v := .d (.fl (.int .i64 20))) rfl (og rfl (op_assign rfl rfl rfl)) ?_
                    refine rg_done rfl ?_
                    refine a_ret ?_
                    show ∃ ds, ResL _ _ _ ds ∧ RV.of ds = _
                    refine ⟨[.fl (.int .i64 20)], (.cons (.tmp rfl (.d _)) .nil), ?_⟩
                    have gg0 := bneb h41
                    have gN : nrmB p.plate = true := by unfold nrmB; simp only [gg0, h1, h3, h4, h6, h7, h8, h11, h40, h41, h43, h45, h46, h48, Bool.true_or, Bool.false_or, Bool.or_true, Bool.or_false, Bool.not_true, Bool.not_false, cond_true, cond_false, Bool.true_and, Bool.false_and, Bool.and_true, Bool.and_false]
                    have hu : pck p n = 20 := by unfold pck; simp only [gN, h1, h3, h4, h6, h7, h8, h11, h40, h41, h43, h45, h46, h48, Bool.true_or, Bool.false_or, Bool.or_true, Bool.or_false, Bool.not_true, Bool.not_false, cond_true, cond_false, Bool.true_and, Bool.false_and, Bool.and_true, Bool.and_false] <;> rfl
                    rw [hu]; rfl
                  · skip
                    have h50 := f_dec h48
                    refine a_skip ?_
                    show A _ _ _ _ _ _ _
                    refine a_seq ?_
                    refine a_rseq ?_
                    refine rg_put (d := 71) (v := .pt 101 6) rfl (og rfl (of_eff (s_field_pt rfl Tryz.underlying24 rfl ti3 rfl rfl rfl) rfl)) ?_
                    refine rg_put (d := 72) (v := .d (.fl (.int .i64 p.score))) rfl (og rfl (op_load_pt rfl Tryz.underlying3 rfl rfl rfl rfl rfl)) ?_
                    refine rg_put (d := 73) (v := .d (.fl (.bool ((decide (p.score < 0)))))) rfl (og rfl (op_bin rfl rfl rfl (b_lss _ _ _ _) rfl)) ?_
                    refine rg_put (d := 74) (v := .d (.fl (.bool ((decide (p.score < 0)))))) rfl (og rfl (op_move rfl rfl rfl)) ?_
                    rcases fot ((decide (p.score < 0))) with h51 | h51
                    · skip
                      have h52 := f_dec h51
                      refine rg_put (d := 75) (v := .pt 101 6) rfl (oy rfl rfl rfl h51 (of_eff (s_field_pt rfl Tryz.underlying24 rfl ti3 rfl rfl rfl) rfl)) ?_
                      refine rg_put (d := 76) (v := .d (.fl (.int .i64 p.score))) rfl (oy rfl rfl rfl h51 (op_load_pt rfl Tryz.underlying3 rfl rfl rfl rfl rfl)) ?_
                      refine rg_put (d := 77) (v := .d (.fl (.bool ((decide (1000 < p.score)))))) rfl (oy rfl rfl rfl h51 (op_bin rfl rfl rfl (b_gtr _ _ _ _) rfl)) ?_
                      refine rg_put (d := 78) (v := .d (.fl (.bool ((decide (1000 < p.score)))))) rfl (og rfl (op_pick rfl rfl (by rw [h51]; rfl) rfl)) ?_
                      refine rg_done rfl ?_
                      refine a_cond rfl (fun h53 => ?_) (fun h53 => ?_)
                      · skip
                        have h54 := t_dec h53
                        refine a_rseq ?_
                        refine rg_put (d := 4) (v := .d (.fl (.int .i64 1))) rfl (og rfl (op_assign rfl rfl rfl)) ?_
                        refine rg_done rfl ?_
                        refine a_ret ?_
                        show ∃ ds, ResL _ _ _ ds ∧ RV.of ds = _
                        refine ⟨[.fl (.int .i64 1)], (.cons (.tmp rfl (.d _)) .nil), ?_⟩
                        have gg0 := bneb h41
                        have gN : nrmB p.plate = true := by unfold nrmB; simp only [gg0, h1, h3, h4, h6, h7, h8, h11, h40, h41, h43, h45, h46, h48, h51, h53, Bool.true_or, Bool.false_or, Bool.or_true, Bool.or_false, Bool.not_true, Bool.not_false, cond_true, cond_false, Bool.true_and, Bool.false_and, Bool.and_true, Bool.and_false]
                        have hu : pck p n = 1 := by unfold pck; simp only [gN, h1, h3, h4, h6, h7, h8, h11, h40, h41, h43, h45, h46, h48, h51, h53, Bool.true_or, Bool.false_or, Bool.or_true, Bool.or_false, Bool.not_true, Bool.not_false, cond_true, cond_false, Bool.true_and, Bool.false_and, Bool.and_true, Bool.and_false] <;> rfl
                        rw [hu]; rfl
                      · skip
                        have h55 := f_dec h53
                        refine a_skip ?_
                        show A _ _ _ _ _ _ _
                        refine a_seq ?_
                        refine a_rseq ?_
                        refine rg_put (d := 79) (v := .pt 101 7) rfl (og rfl (of_eff (s_field_pt rfl Tryz.underlying24 rfl ti22 rfl rfl rfl) rfl)) ?_
                        refine rg_put (d := 80) (v := .d (.sl 2 (List.map eSrc p.src))) rfl (og rfl (op_load_pt rfl Tryz.underlying22 rfl rfl rfl rfl rfl)) ?_
                        refine rg_put (d := 81) (v := .d (.fl (.int .i64 (p.src.length : Int)))) rfl (og rfl (s_len rfl Tryz.underlying22 rfl rfl)) ?_
                        refine rg_put (d := 82) (v := .d (.fl (.bool ((decide ((p.src.length : Int) < 1)))))) rfl (og rfl (op_bin rfl rfl rfl (b_lss _ _ _ _) rfl)) ?_
                        refine rg_put (d := 83) (v := .d (.fl (.bool ((decide ((p.src.length : Int) < 1)))))) rfl (og rfl (op_move rfl rfl rfl)) ?_
                        rcases fot ((decide ((p.src.length : Int) < 1))) with h56 | h56
                        · skip
                          have h57 := f_dec h56
                          refine rg_put (d := 84) (v := .pt 101 7) rfl (oy rfl rfl rfl h56 (of_eff (s_field_pt rfl Tryz.underlying24 rfl ti22 rfl rfl rfl) rfl)) ?_
                          refine rg_put (d := 85) (v := .d (.sl 2 (List.map eSrc p.src))) rfl (oy rfl rfl rfl h56 (op_load_pt rfl Tryz.underlying22 rfl rfl rfl rfl rfl)) ?_
                          refine rg_put (d := 86) (v := .d (.fl (.int .i64 (p.src.length : Int)))) rfl (oy rfl rfl rfl h56 (s_len rfl Tryz.underlying22 rfl rfl)) ?_
                          refine rg_put (d := 87) (v := .d (.fl (.bool ((decide (24 < (p.src.length : Int))))))) rfl (oy rfl rfl rfl h56 (op_bin rfl rfl rfl (b_gtr _ _ _ _) rfl)) ?_
                          refine rg_put (d := 88) (v := .d (.fl (.bool ((decide (24 < (p.src.length : Int))))))) rfl (og rfl (op_pick rfl rfl (by rw [h56]; rfl) rfl)) ?_
                          refine rg_done rfl ?_
                          refine a_cond rfl (fun h58 => ?_) (fun h58 => ?_)
                          · skip
                            have h59 := t_dec h58
                            refine a_rseq ?_
                            refine rg_put (d := 4) (v := .d (.fl (.int .i64 3))) rfl (og rfl (op_assign rfl rfl rfl)) ?_
                            refine rg_done rfl ?_
                            refine a_ret ?_
                            show ∃ ds, ResL _ _ _ ds ∧ RV.of ds = _
                            refine ⟨[.fl (.int .i64 3)], (.cons (.tmp rfl (.d _)) .nil), ?_⟩
                            have gg0 := bneb h41
                            have gN : nrmB p.plate = true := by unfold nrmB; simp only [gg0, h1, h3, h4, h6, h7, h8, h11, h40, h41, h43, h45, h46, h48, h51, h53, h56, h58, Bool.true_or, Bool.false_or, Bool.or_true, Bool.or_false, Bool.not_true, Bool.not_false, cond_true, cond_false, Bool.true_and, Bool.false_and, Bool.and_true, Bool.and_false]
                            have hlim : (decide ((p.src.length : Int) < 1) || decide (24 < (p.src.length : Int))) = true := by simp only [h1, h3, h4, h6, h7, h8, h11, h40, h41, h43, h45, h46, h48, h51, h53, h56, h58, Bool.true_or, Bool.false_or, Bool.or_true, Bool.or_false, Bool.not_true, Bool.not_false, cond_true, cond_false, Bool.true_and, Bool.false_and, Bool.and_true, Bool.and_false]
                            have gS := cs_l hlim
                            have gS2 : (csE p.src != 0) = true := by rw [gS]; rfl
                            have hu : pck p n = 3 := by unfold pck; simp only [gN, gS2, gS, h1, h3, h4, h6, h7, h8, h11, h40, h41, h43, h45, h46, h48, h51, h53, h56, h58, Bool.true_or, Bool.false_or, Bool.or_true, Bool.or_false, Bool.not_true, Bool.not_false, cond_true, cond_false, Bool.true_and, Bool.false_and, Bool.and_true, Bool.and_false] <;> rfl
                            rw [hu]; rfl
                          · skip
                            have h60 := f_dec h58
                            refine a_skip ?_
                            show A _ _ _ _ _ _ _
                            refine a_seq ?_
                            refine a_rseq ?_
                            refine rg_put (d := 9) (v := .d (.fl (.int .i64 0))) rfl (og rfl (op_assign rfl rfl rfl)) ?_
                            refine rg_done rfl ?_
                            refine a_block ?_
                            refine a_loop (ι := Nat) (fun k => SS [(0, .d (.ag (ePsg p))), (1, .d (.ag (eNwk n))), (2, .pt 101 0), (3, .pt 102 0), (6, .d (.fl (.bool ((gfE n p.point).2)))), (7, .d (.fl (.string (nmS p.plate)))), (8, .d (.fl (.int .i64 (nmI p.plate)))), (19, .d (.fl (.bool ((!((gfE n p.point).2)))))), (23, .d (.fl (.bool ((!(isT p.time)))))), (31, .d (.fl (.bool false))), (40, .d (.fl (.bool (((Tm.ck p.tag) != 0))))), (62, .d (.fl (.bool ((!(sEq (nmS p.plate) p.plate)))))), (70, .d (.fl (.bool ((decide (9 < p.cls)))))), (78, .d (.fl (.bool ((decide (1000 < p.score)))))), (88, .d (.fl (.bool ((decide (24 < (p.src.length : Int))))))), (9, .d (.fl (.int .i64 (k : Int))))] [(101, .bx 24 (ePsg p)), (102, .bx 32 (eNwk n))]) (fun k => k ≤ p.src.length ∧ srE p.src = fe (sr1 p.src) k (p.src.length - k)) (fun k => p.src.length - k) 0 (⟨by omega, rfl⟩) (imp_forget rfl ⟨rfl, rfl, rfl, rfl, rfl, rfl, rfl, rfl, rfl, rfl, rfl, rfl, rfl, rfl, rfl, (by first | rfl | exact ci (by omega) | exact ci (by simp) | exact cd (by simp) | simp), trivial⟩ ⟨rfl, rfl, trivial⟩) (fun k hok => ?_)
                            obtain ⟨hk, hc⟩ := hok
                            refine a_seq ?_
                            refine a_rseq ?_
                            refine rg_put (d := 89) (v := .d (.fl (.int .i64 (k : Int)))) rfl (og rfl (op_move rfl rfl rfl)) ?_
                            refine rg_put (d := 90) (v := .pt 101 7) rfl (og rfl (of_eff (s_field_pt rfl Tryz.underlying24 rfl ti22 rfl rfl rfl) rfl)) ?_
                            refine rg_put (d := 91) (v := .d (.sl 2 (List.map eSrc p.src))) rfl (og rfl (op_load_pt rfl Tryz.underlying22 rfl rfl rfl rfl rfl)) ?_
                            refine rg_put (d := 92) (v := .d (.fl (.int .i64 (p.src.length : Int)))) rfl (og rfl (s_len rfl Tryz.underlying22 rfl rfl)) ?_
                            refine rg_put (d := 93) (v := .d (.fl (.bool ((decide ((k : Int) < (p.src.length : Int))))))) rfl (og rfl (op_bin rfl rfl rfl (b_lss _ _ _ _) rfl)) ?_
                            refine rg_done rfl ?_
                            refine a_cond rfl (fun h61 => ?_) (fun h61 => ?_)
                            · skip
                              have h62 := t_dec h61
                              refine a_skip ?_
                              show A _ _ _ _ _ _ _
                              refine a_seq ?_
                              refine a_block ?_
                              refine a_rseq ?_
                              refine rg_put (d := 96) (v := .pt 101 7) rfl (og rfl (of_eff (s_field_pt rfl Tryz.underlying24 rfl ti22 rfl rfl rfl) rfl)) ?_
                              refine rg_put (d := 97) (v := .d (.sl 2 (List.map eSrc p.src))) rfl (og rfl (op_load_pt rfl Tryz.underlying22 rfl rfl rfl rfl rfl)) ?_
                              refine rg_put (d := 98) (v := .d (.fl (.int .i64 (k : Int)))) rfl (og rfl (op_move rfl rfl rfl)) ?_
                              refine rg_put (d := 99) (v := .d (.fl (.int .i64 (sr1 p.src k)))) rfl (og rfl (op_call rfl Tryz.func34 nm34 rfl (.cons rfl (.d _) (.cons rfl (.d _) .nil)) (srR p.src k (by omega) (by omega) hz.d) rfl)) ?_
                              refine rg_put (d := 10) (v := .d (.fl (.int .i64 (sr1 p.src k)))) rfl (og rfl (op_assign rfl rfl rfl)) ?_
                              refine rg_done rfl ?_
                              refine a_rseq ?_
                              refine rg_put (d := 100) (v := .d (.fl (.int .i64 (sr1 p.src k)))) rfl (og rfl (op_move rfl rfl rfl)) ?_
                              refine rg_put (d := 101) (v := .d (.fl (.bool (((sr1 p.src k) != 0))))) rfl (og rfl (op_bin rfl rfl rfl (b_neq _ _ _ _) rfl)) ?_
                              refine rg_done rfl ?_
                              refine a_cond rfl (fun h63 => ?_) (fun h63 => ?_)
                              · skip
                                have h64 := t_bne h63
                                refine a_rseq ?_
                                refine rg_put (d := 102) (v := .d (.fl (.int .i64 (sr1 p.src k)))) rfl (og rfl (op_move rfl rfl rfl)) ?_
                                refine rg_put (d := 4) (v := .d (.fl (.int .i64 (sr1 p.src k)))) rfl (og rfl (op_assign rfl rfl rfl)) ?_
                                refine rg_done rfl ?_
                                refine a_ret ?_
                                show ∃ ds, ResL _ _ _ ds ∧ RV.of ds = _
                                refine ⟨[.fl (.int .i64 (sr1 p.src k))], (.cons (.tmp rfl (.d _)) .nil), ?_⟩
                                have gg0 := bneb h41
                                have gN : nrmB p.plate = true := by unfold nrmB; simp only [gg0, h1, h3, h4, h6, h7, h8, h11, h40, h41, h43, h45, h46, h48, h51, h53, h56, h58, h61, h63, Bool.true_or, Bool.false_or, Bool.or_true, Bool.or_false, Bool.not_true, Bool.not_false, cond_true, cond_false, Bool.true_and, Bool.false_and, Bool.and_true, Bool.and_false]
                                have hlim : (decide ((p.src.length : Int) < 1) || decide (24 < (p.src.length : Int))) = false := by simp only [h1, h3, h4, h6, h7, h8, h11, h40, h41, h43, h45, h46, h48, h51, h53, h56, h58, h61, h63, Bool.true_or, Bool.false_or, Bool.or_true, Bool.or_false, Bool.not_true, Bool.not_false, cond_true, cond_false, Bool.true_and, Bool.false_and, Bool.and_true, Bool.and_false]
                                have gS : csE p.src = sr1 p.src k := by rw [cs_s hlim]; exact fe_yes (by omega) hc rfl (t_bne h63)
                                have gS2 : (csE p.src != 0) = true := by rw [gS]; exact h63
                                have hu : pck p n = (sr1 p.src k) := by unfold pck; simp only [gN, gS2, gS, h1, h3, h4, h6, h7, h8, h11, h40, h41, h43, h45, h46, h48, h51, h53, h56, h58, h61, h63, Bool.true_or, Bool.false_or, Bool.or_true, Bool.or_false, Bool.not_true, Bool.not_false, cond_true, cond_false, Bool.true_and, Bool.false_and, Bool.and_true, Bool.and_false] <;> rfl
                                rw [hu]; rfl
                              · skip
                                have h65 := f_bne h63
                                refine a_skip ?_
                                show A _ _ _ _ _ _ _
                                refine a_region ?_
                                refine rg_put (d := 94) (v := .d (.fl (.int .i64 (k : Int)))) rfl (og rfl (op_move rfl rfl rfl)) ?_
                                refine rg_put (d := 95) (v := .d (.fl (.int .i64 (((k : Int) + 1))))) rfl (og rfl (op_bin rfl rfl rfl (fun x y w => b_add64 _ _ _ x y w (by omega)) rfl)) ?_
                                refine rg_put (d := 9) (v := .d (.fl (.int .i64 (((k : Int) + 1))))) rfl (og rfl (op_assign rfl rfl rfl)) ?_
                                refine rg_done rfl ?_
                                have hb : sr1 p.src k = 0 := f_bne h63
                                show ∃ i, _ ∧ _ ∧ Imp _ _ _ _ _
                                refine ⟨k + 1, ⟨by omega, fe_no (by omega) hc hb⟩, by omega, imp_forget rfl ⟨rfl, rfl, rfl, rfl, rfl, rfl, rfl, rfl, rfl, rfl, rfl, rfl, rfl, rfl, rfl, (by first | rfl | exact ci (by omega) | exact ci (by simp) | exact cd (by simp) | simp), trivial⟩ ⟨rfl, rfl, trivial⟩⟩
                            · skip
                              have h66 := f_dec h61
                              refine a_exit ?_
                              show A _ _ _ _ _ _ _
                              refine a_seq ?_
                              refine a_dseq (by kernel_rfl) ?_
                              refine dr_put (d := 103) (v := .pt 101 0) rfl (og rfl (of_eff (s_field_pt rfl Tryz.underlying24 rfl ti9 rfl rfl rfl) rfl)) ?_
                              refine dr_put (d := 104) (v := .d (.fl (.string p.id))) rfl (og rfl (op_load_pt rfl Tryz.underlying9 rfl rfl rfl rfl rfl)) ?_
                              refine dr_put (d := 105) (v := .d (.ag (ePsg p))) rfl (og rfl (of_eff (s_load_pts rfl Tryz.underlying24 rfl ti24 rfl rfl rfl rfl) rfl)) ?_
                              refine dr_put (d := 106) (v := .d (.fl (.string (idS p)))) rfl (og rfl (op_call rfl Tryz.func10 nm10 rfl (.cons rfl (.d _) .nil) (idR p hz hn) rfl)) ?_
                              refine dr_put (d := 107) (v := .d (.fl (.bool ((!(sEq p.id (idS p))))))) rfl (og rfl (op_bin rfl rfl rfl (b_sne _ _ _) rfl)) ?_
                              refine dr_done rfl (by kernel_rfl) (by kernel_rfl) ?_
                              refine a_cond rfl (fun h67 => ?_) (fun h67 => ?_)
                              · skip
                                have h68 := t_not h67
                                refine a_rseq ?_
                                refine rg_put (d := 4) (v := .d (.fl (.int .i64 6))) rfl (og rfl (op_assign rfl rfl rfl)) ?_
                                refine rg_done rfl ?_
                                refine a_ret ?_
                                show ∃ ds, ResL _ _ _ ds ∧ RV.of ds = _
                                refine ⟨[.fl (.int .i64 6)], (.cons (.tmp rfl (.d _)) .nil), ?_⟩
                                have gg0 := bneb h41
                                have gN : nrmB p.plate = true := by unfold nrmB; simp only [gg0, h1, h3, h4, h6, h7, h8, h11, h40, h41, h43, h45, h46, h48, h51, h53, h56, h58, h61, h67, h68, Bool.true_or, Bool.false_or, Bool.or_true, Bool.or_false, Bool.not_true, Bool.not_false, cond_true, cond_false, Bool.true_and, Bool.false_and, Bool.and_true, Bool.and_false]
                                have hlim : (decide ((p.src.length : Int) < 1) || decide (24 < (p.src.length : Int))) = false := by simp only [h1, h3, h4, h6, h7, h8, h11, h40, h41, h43, h45, h46, h48, h51, h53, h56, h58, h61, h67, h68, Bool.true_or, Bool.false_or, Bool.or_true, Bool.or_false, Bool.not_true, Bool.not_false, cond_true, cond_false, Bool.true_and, Bool.false_and, Bool.and_true, Bool.and_false]
                                have gS : csE p.src = 0 := by rw [cs_s hlim]; rw [fe_end (by omega)] at hc; exact hc
                                have gS2 : (csE p.src != 0) = false := by rw [gS]; rfl
                                have hu : pck p n = 6 := by unfold pck; simp only [gN, gS2, h1, h3, h4, h6, h7, h8, h11, h40, h41, h43, h45, h46, h48, h51, h53, h56, h58, h61, h67, h68, Bool.true_or, Bool.false_or, Bool.or_true, Bool.or_false, Bool.not_true, Bool.not_false, cond_true, cond_false, Bool.true_and, Bool.false_and, Bool.and_true, Bool.and_false] <;> rfl
                                rw [hu]; rfl
                              · skip
                                have h69 := f_not h67
                                refine a_skip ?_
                                show A _ _ _ _ _ _ _
                                refine a_rseq ?_
                                refine rg_put (d := 4) (v := .d (.fl (.int .i64 0))) rfl (og rfl (op_assign rfl rfl rfl)) ?_
                                refine rg_done rfl ?_
                                refine a_ret ?_
                                show ∃ ds, ResL _ _ _ ds ∧ RV.of ds = _
                                refine ⟨[.fl (.int .i64 0)], (.cons (.tmp rfl (.d _)) .nil), ?_⟩
                                have gg0 := bneb h41
                                have gN : nrmB p.plate = true := by unfold nrmB; simp only [gg0, h1, h3, h4, h6, h7, h8, h11, h40, h41, h43, h45, h46, h48, h51, h53, h56, h58, h61, h67, h69, Bool.true_or, Bool.false_or, Bool.or_true, Bool.or_false, Bool.not_true, Bool.not_false, cond_true, cond_false, Bool.true_and, Bool.false_and, Bool.and_true, Bool.and_false]
                                have hlim : (decide ((p.src.length : Int) < 1) || decide (24 < (p.src.length : Int))) = false := by simp only [h1, h3, h4, h6, h7, h8, h11, h40, h41, h43, h45, h46, h48, h51, h53, h56, h58, h61, h67, h69, Bool.true_or, Bool.false_or, Bool.or_true, Bool.or_false, Bool.not_true, Bool.not_false, cond_true, cond_false, Bool.true_and, Bool.false_and, Bool.and_true, Bool.and_false]
                                have gS : csE p.src = 0 := by rw [cs_s hlim]; rw [fe_end (by omega)] at hc; exact hc
                                have gS2 : (csE p.src != 0) = false := by rw [gS]; rfl
                                have hu : pck p n = 0 := by unfold pck; simp only [gN, gS2, h1, h3, h4, h6, h7, h8, h11, h40, h41, h43, h45, h46, h48, h51, h53, h56, h58, h61, h67, h69, Bool.true_or, Bool.false_or, Bool.or_true, Bool.or_false, Bool.not_true, Bool.not_false, cond_true, cond_false, Bool.true_and, Bool.false_and, Bool.and_true, Bool.and_false] <;> rfl
                                rw [hu]; rfl
                        · skip
                          have h70 := t_dec h56
                          refine rg_put (d := 84) (v := .d (.fl undef)) rfl (on rfl rfl rfl h56) ?_
                          refine rg_put (d := 85) (v := .d (.fl undef)) rfl (on rfl rfl rfl h56) ?_
                          refine rg_put (d := 86) (v := .d (.fl undef)) rfl (on rfl rfl rfl h56) ?_
                          refine rg_put (d := 87) (v := .d (.fl undef)) rfl (on rfl rfl rfl h56) ?_
                          refine rg_put (d := 88) (v := .d (.fl (.bool true))) rfl (og rfl (op_pick rfl rfl (by rw [h56]; rfl) rfl)) ?_
                          refine rg_done rfl ?_
                          refine a_condK rfl rfl ?_
                          refine a_rseq ?_
                          refine rg_put (d := 4) (v := .d (.fl (.int .i64 3))) rfl (og rfl (op_assign rfl rfl rfl)) ?_
                          refine rg_done rfl ?_
                          refine a_ret ?_
                          show ∃ ds, ResL _ _ _ ds ∧ RV.of ds = _
                          refine ⟨[.fl (.int .i64 3)], (.cons (.tmp rfl (.d _)) .nil), ?_⟩
                          have gg0 := bneb h41
                          have gN : nrmB p.plate = true := by unfold nrmB; simp only [gg0, h1, h3, h4, h6, h7, h8, h11, h40, h41, h43, h45, h46, h48, h51, h53, h56, Bool.true_or, Bool.false_or, Bool.or_true, Bool.or_false, Bool.not_true, Bool.not_false, cond_true, cond_false, Bool.true_and, Bool.false_and, Bool.and_true, Bool.and_false]
                          have hlim : (decide ((p.src.length : Int) < 1) || decide (24 < (p.src.length : Int))) = true := by simp only [h1, h3, h4, h6, h7, h8, h11, h40, h41, h43, h45, h46, h48, h51, h53, h56, Bool.true_or, Bool.false_or, Bool.or_true, Bool.or_false, Bool.not_true, Bool.not_false, cond_true, cond_false, Bool.true_and, Bool.false_and, Bool.and_true, Bool.and_false]
                          have gS := cs_l hlim
                          have gS2 : (csE p.src != 0) = true := by rw [gS]; rfl
                          have hu : pck p n = 3 := by unfold pck; simp only [gN, gS2, gS, h1, h3, h4, h6, h7, h8, h11, h40, h41, h43, h45, h46, h48, h51, h53, h56, Bool.true_or, Bool.false_or, Bool.or_true, Bool.or_false, Bool.not_true, Bool.not_false, cond_true, cond_false, Bool.true_and, Bool.false_and, Bool.and_true, Bool.and_false] <;> rfl
                          rw [hu]; rfl
                    · skip
                      have h71 := t_dec h51
                      refine rg_put (d := 75) (v := .d (.fl undef)) rfl (on rfl rfl rfl h51) ?_
                      refine rg_put (d := 76) (v := .d (.fl undef)) rfl (on rfl rfl rfl h51) ?_
                      refine rg_put (d := 77) (v := .d (.fl undef)) rfl (on rfl rfl rfl h51) ?_
                      refine rg_put (d := 78) (v := .d (.fl (.bool true))) rfl (og rfl (op_pick rfl rfl (by rw [h51]; rfl) rfl)) ?_
                      refine rg_done rfl ?_
                      refine a_condK rfl rfl ?_
                      refine a_rseq ?_
                      refine rg_put (d := 4) (v := .d (.fl (.int .i64 1))) rfl (og rfl (op_assign rfl rfl rfl)) ?_
                      refine rg_done rfl ?_
                      refine a_ret ?_
                      show ∃ ds, ResL _ _ _ ds ∧ RV.of ds = _
                      refine ⟨[.fl (.int .i64 1)], (.cons (.tmp rfl (.d _)) .nil), ?_⟩
                      have gg0 := bneb h41
                      have gN : nrmB p.plate = true := by unfold nrmB; simp only [gg0, h1, h3, h4, h6, h7, h8, h11, h40, h41, h43, h45, h46, h48, h51, Bool.true_or, Bool.false_or, Bool.or_true, Bool.or_false, Bool.not_true, Bool.not_false, cond_true, cond_false, Bool.true_and, Bool.false_and, Bool.and_true, Bool.and_false]
                      have hu : pck p n = 1 := by unfold pck; simp only [gN, h1, h3, h4, h6, h7, h8, h11, h40, h41, h43, h45, h46, h48, h51, Bool.true_or, Bool.false_or, Bool.or_true, Bool.or_false, Bool.not_true, Bool.not_false, cond_true, cond_false, Bool.true_and, Bool.false_and, Bool.and_true, Bool.and_false] <;> rfl
                      rw [hu]; rfl
                · skip
                  have h72 := t_dec h46
                  refine rg_put (d := 67) (v := .d (.fl undef)) rfl (on rfl rfl rfl h46) ?_
                  refine rg_put (d := 68) (v := .d (.fl undef)) rfl (on rfl rfl rfl h46) ?_
                  refine rg_put (d := 69) (v := .d (.fl undef)) rfl (on rfl rfl rfl h46) ?_
                  refine rg_put (d := 70) (v := .d (.fl (.bool true))) rfl (og rfl (op_pick rfl rfl (by rw [h46]; rfl) rfl)) ?_
                  refine rg_done rfl ?_
                  refine a_condK rfl rfl ?_
                  refine a_rseq ?_
                  refine rg_put (d := 4) (v := .d (.fl (.int .i64 20))) rfl (og rfl (op_assign rfl rfl rfl)) ?_
                  refine rg_done rfl ?_
                  refine a_ret ?_
                  show ∃ ds, ResL _ _ _ ds ∧ RV.of ds = _
                  refine ⟨[.fl (.int .i64 20)], (.cons (.tmp rfl (.d _)) .nil), ?_⟩
                  have gg0 := bneb h41
                  have gN : nrmB p.plate = true := by unfold nrmB; simp only [gg0, h1, h3, h4, h6, h7, h8, h11, h40, h41, h43, h45, h46, Bool.true_or, Bool.false_or, Bool.or_true, Bool.or_false, Bool.not_true, Bool.not_false, cond_true, cond_false, Bool.true_and, Bool.false_and, Bool.and_true, Bool.and_false]
                  have hu : pck p n = 20 := by unfold pck; simp only [gN, h1, h3, h4, h6, h7, h8, h11, h40, h41, h43, h45, h46, Bool.true_or, Bool.false_or, Bool.or_true, Bool.or_false, Bool.not_true, Bool.not_false, cond_true, cond_false, Bool.true_and, Bool.false_and, Bool.and_true, Bool.and_false] <;> rfl
                  rw [hu]; rfl
            · skip
              have h73 := t_bne h41
              refine rg_put (d := 57) (v := .d (.fl undef)) rfl (on rfl rfl rfl h41) ?_
              refine rg_put (d := 58) (v := .d (.fl undef)) rfl (on rfl rfl rfl h41) ?_
              refine rg_put (d := 59) (v := .d (.fl undef)) rfl (on rfl rfl rfl h41) ?_
              refine rg_put (d := 60) (v := .d (.fl undef)) rfl (on rfl rfl rfl h41) ?_
              refine rg_put (d := 61) (v := .d (.fl (.bool true))) rfl (oy rfl rfl rfl h11 (op_pick rfl rfl (by rw [h41]; rfl) rfl)) ?_
              refine rg_put (d := 62) (v := .d (.fl (.bool true))) rfl (og rfl (op_pick rfl rfl (by rw [h11]; rfl) rfl)) ?_
              refine rg_done rfl ?_
              refine a_condK rfl rfl ?_
              refine a_rseq ?_
              refine rg_put (d := 4) (v := .d (.fl (.int .i64 19))) rfl (og rfl (op_assign rfl rfl rfl)) ?_
              refine rg_done rfl ?_
              refine a_ret ?_
              show ∃ ds, ResL _ _ _ ds ∧ RV.of ds = _
              refine ⟨[.fl (.int .i64 19)], (.cons (.tmp rfl (.d _)) .nil), ?_⟩
              have gg0 := bneb h41
              have gN : nrmB p.plate = false := by unfold nrmB; simp only [gg0, h1, h3, h4, h6, h7, h8, h11, h40, h41, Bool.true_or, Bool.false_or, Bool.or_true, Bool.or_false, Bool.not_true, Bool.not_false, cond_true, cond_false, Bool.true_and, Bool.false_and, Bool.and_true, Bool.and_false]
              have hu : pck p n = 19 := by unfold pck; simp only [gN, h1, h3, h4, h6, h7, h8, h11, h40, h41, Bool.true_or, Bool.false_or, Bool.or_true, Bool.or_false, Bool.not_true, Bool.not_false, cond_true, cond_false, Bool.true_and, Bool.false_and, Bool.and_true, Bool.and_false] <;> rfl
              rw [hu]; rfl
      · skip
        refine rg_put (d := 28) (v := .pt 101 4) rfl (oy rfl rfl rfl h7 (of_eff (s_field_pt rfl Tryz.underlying24 rfl ti9 rfl rfl rfl) rfl)) ?_
        refine rg_put (d := 29) (v := .d (.fl (.string p.plate))) rfl (oy rfl rfl rfl h7 (op_load_pt rfl Tryz.underlying9 rfl rfl rfl rfl rfl)) ?_
        refine rg_put (d := 30) (v := .d (.fl (.bool ((sEq p.plate (⟨#[]⟩)))))) rfl (oy rfl rfl rfl h7 (op_bin rfl rfl rfl (b_seq _ _ _) rfl)) ?_
        refine rg_put (d := 31) (v := .d (.fl (.bool ((sEq p.plate (⟨#[]⟩)))))) rfl (og rfl (op_pick rfl rfl (by rw [h7]; rfl) rfl)) ?_
        refine rg_done rfl ?_
        refine a_cond rfl (fun h74 => ?_) (fun h74 => ?_)
        · skip
          refine a_rseq ?_
          refine rg_put (d := 4) (v := .d (.fl (.int .i64 1))) rfl (og rfl (op_assign rfl rfl rfl)) ?_
          refine rg_done rfl ?_
          refine a_ret ?_
          show ∃ ds, ResL _ _ _ ds ∧ RV.of ds = _
          refine ⟨[.fl (.int .i64 1)], (.cons (.tmp rfl (.d _)) .nil), ?_⟩
          have hu : pck p n = 1 := by unfold pck; simp only [h1, h3, h4, h6, h7, h74, Bool.true_or, Bool.false_or, Bool.or_true, Bool.or_false, Bool.not_true, Bool.not_false, cond_true, cond_false, Bool.true_and, Bool.false_and, Bool.and_true, Bool.and_false] <;> rfl
          rw [hu]; rfl
        · skip
          refine a_skip ?_
          show A _ _ _ _ _ _ _
          refine a_seq ?_
          refine a_rseq ?_
          refine rg_put (d := 32) (v := .pt 101 3) rfl (og rfl (of_eff (s_field_pt rfl Tryz.underlying24 rfl ti9 rfl rfl rfl) rfl)) ?_
          refine rg_put (d := 33) (v := .d (.fl (.string p.tag))) rfl (og rfl (op_load_pt rfl Tryz.underlying9 rfl rfl rfl rfl rfl)) ?_
          refine rg_put (d := 34) (v := .d (.fl (.bool ((!(sEq p.tag (⟨#[]⟩))))))) rfl (og rfl (op_bin rfl rfl rfl (b_sne _ _ _) rfl)) ?_
          refine rg_put (d := 35) (v := .d (.fl (.bool ((!(sEq p.tag (⟨#[]⟩))))))) rfl (og rfl (op_move rfl rfl rfl)) ?_
          refine rg_put (d := 36) (v := .d (.fl undef)) rfl (on rfl rfl rfl (not_f h7)) ?_
          refine rg_put (d := 37) (v := .d (.fl undef)) rfl (on rfl rfl rfl (not_f h7)) ?_
          refine rg_put (d := 38) (v := .d (.fl undef)) rfl (on rfl rfl rfl (not_f h7)) ?_
          refine rg_put (d := 39) (v := .d (.fl undef)) rfl (on rfl rfl rfl (not_f h7)) ?_
          refine rg_put (d := 40) (v := .d (.fl (.bool false))) rfl (og rfl (op_pick rfl rfl (by rw [(not_f h7)]; rfl) rfl)) ?_
          refine rg_done rfl ?_
          refine a_condF rfl rfl ?_
          refine a_skip ?_
          show A _ _ _ _ _ _ _
          refine a_rseq ?_
          refine rg_put (d := 45) (v := .pt 101 4) rfl (og rfl (of_eff (s_field_pt rfl Tryz.underlying24 rfl ti9 rfl rfl rfl) rfl)) ?_
          refine rg_put (d := 46) (v := .d (.fl (.string p.plate))) rfl (og rfl (op_load_pt rfl Tryz.underlying9 rfl rfl rfl rfl rfl)) ?_
          refine rg_put (d := 47) (v := .tu [.fl (.string (nmS p.plate)), .fl (.int .i64 (nmI p.plate))]) rfl (og rfl (op_call rfl Tryz.func33 nm33 rfl (.cons rfl (.d _) .nil) (norR p.plate (by omega)) rfl)) ?_
          refine rg_put (d := 44) (v := .tu [.fl (.string (nmS p.plate)), .fl (.int .i64 (nmI p.plate))]) rfl (og rfl (op_move rfl rfl rfl)) ?_
          refine rg_put (d := 48) (v := .d (.fl (.string (nmS p.plate)))) rfl (og rfl (op_extract rfl rfl rfl rfl)) ?_
          refine rg_put (d := 49) (v := .d (.fl (.int .i64 (nmI p.plate)))) rfl (og rfl (op_extract rfl rfl rfl rfl)) ?_
          refine rg_put (d := 7) (v := .d (.fl (.string (nmS p.plate)))) rfl (og rfl (op_assign rfl rfl rfl)) ?_
          refine rg_put (d := 8) (v := .d (.fl (.int .i64 (nmI p.plate)))) rfl (og rfl (op_assign rfl rfl rfl)) ?_
          refine rg_done rfl ?_
          refine a_seq ?_
          refine a_rseq ?_
          refine rg_put (d := 50) (v := .pt 101 4) rfl (og rfl (of_eff (s_field_pt rfl Tryz.underlying24 rfl ti9 rfl rfl rfl) rfl)) ?_
          refine rg_put (d := 51) (v := .d (.fl (.string p.plate))) rfl (og rfl (op_load_pt rfl Tryz.underlying9 rfl rfl rfl rfl rfl)) ?_
          refine rg_put (d := 52) (v := .d (.fl (.bool ((!(sEq p.plate (⟨#[]⟩))))))) rfl (og rfl (op_bin rfl rfl rfl (b_sne _ _ _) rfl)) ?_
          refine rg_put (d := 53) (v := .d (.fl (.bool ((!(sEq p.plate (⟨#[]⟩))))))) rfl (og rfl (op_move rfl rfl rfl)) ?_
          refine rg_put (d := 54) (v := .d (.fl (.int .i64 (nmI p.plate)))) rfl (oy rfl rfl rfl (not_t' h74) (op_move rfl rfl rfl)) ?_
          refine rg_put (d := 55) (v := .d (.fl (.bool (((nmI p.plate) != 0))))) rfl (oy rfl rfl rfl (not_t' h74) (op_bin rfl rfl rfl (b_neq _ _ _ _) rfl)) ?_
          refine rg_put (d := 56) (v := .d (.fl (.bool (((nmI p.plate) != 0))))) rfl (oy rfl rfl rfl (not_t' h74) (op_move rfl rfl rfl)) ?_
          rcases fot (((nmI p.plate) != 0)) with h75 | h75
          · skip
            have h76 := f_bne h75
            refine rg_put (d := 57) (v := .d (.fl (.string (nmS p.plate)))) rfl (oy rfl rfl rfl h75 (op_move rfl rfl rfl)) ?_
            refine rg_put (d := 58) (v := .pt 101 4) rfl (oy rfl rfl rfl h75 (of_eff (s_field_pt rfl Tryz.underlying24 rfl ti9 rfl rfl rfl) rfl)) ?_
            refine rg_put (d := 59) (v := .d (.fl (.string p.plate))) rfl (oy rfl rfl rfl h75 (op_load_pt rfl Tryz.underlying9 rfl rfl rfl rfl rfl)) ?_
            refine rg_put (d := 60) (v := .d (.fl (.bool ((!(sEq (nmS p.plate) p.plate)))))) rfl (oy rfl rfl rfl h75 (op_bin rfl rfl rfl (b_sne _ _ _) rfl)) ?_
            refine rg_put (d := 61) (v := .d (.fl (.bool ((!(sEq (nmS p.plate) p.plate)))))) rfl (oy rfl rfl rfl (not_t' h74) (op_pick rfl rfl (by rw [h75]; rfl) rfl)) ?_
            refine rg_put (d := 62) (v := .d (.fl (.bool ((!(sEq (nmS p.plate) p.plate)))))) rfl (og rfl (op_pick rfl rfl (by rw [(not_t' h74)]; rfl) rfl)) ?_
            refine rg_done rfl ?_
            refine a_cond rfl (fun h77 => ?_) (fun h77 => ?_)
            · skip
              have h78 := t_not h77
              refine a_rseq ?_
              refine rg_put (d := 4) (v := .d (.fl (.int .i64 19))) rfl (og rfl (op_assign rfl rfl rfl)) ?_
              refine rg_done rfl ?_
              refine a_ret ?_
              show ∃ ds, ResL _ _ _ ds ∧ RV.of ds = _
              refine ⟨[.fl (.int .i64 19)], (.cons (.tmp rfl (.d _)) .nil), ?_⟩
              have gg0 := bneb h75
              have gN : nrmB p.plate = false := by unfold nrmB; simp only [gg0, h1, h3, h4, h6, h7, h74, h75, h77, h78, Bool.true_or, Bool.false_or, Bool.or_true, Bool.or_false, Bool.not_true, Bool.not_false, cond_true, cond_false, Bool.true_and, Bool.false_and, Bool.and_true, Bool.and_false]
              have hu : pck p n = 19 := by unfold pck; simp only [gN, h1, h3, h4, h6, h7, h74, h75, h77, h78, Bool.true_or, Bool.false_or, Bool.or_true, Bool.or_false, Bool.not_true, Bool.not_false, cond_true, cond_false, Bool.true_and, Bool.false_and, Bool.and_true, Bool.and_false] <;> rfl
              rw [hu]; rfl
            · skip
              have h79 := f_not h77
              refine a_skip ?_
              show A _ _ _ _ _ _ _
              refine a_seq ?_
              refine a_rseq ?_
              refine rg_put (d := 63) (v := .pt 101 5) rfl (og rfl (of_eff (s_field_pt rfl Tryz.underlying24 rfl ti3 rfl rfl rfl) rfl)) ?_
              refine rg_put (d := 64) (v := .d (.fl (.int .i64 p.cls))) rfl (og rfl (op_load_pt rfl Tryz.underlying3 rfl rfl rfl rfl rfl)) ?_
              refine rg_put (d := 65) (v := .d (.fl (.bool ((decide (p.cls < 0)))))) rfl (og rfl (op_bin rfl rfl rfl (b_lss _ _ _ _) rfl)) ?_
              refine rg_put (d := 66) (v := .d (.fl (.bool ((decide (p.cls < 0)))))) rfl (og rfl (op_move rfl rfl rfl)) ?_
              rcases fot ((decide (p.cls < 0))) with h80 | h80
              · skip
                have h81 := f_dec h80
                refine rg_put (d := 67) (v := .pt 101 5) rfl (oy rfl rfl rfl h80 (of_eff (s_field_pt rfl Tryz.underlying24 rfl ti3 rfl rfl rfl) rfl)) ?_
                refine rg_put (d := 68) (v := .d (.fl (.int .i64 p.cls))) rfl (oy rfl rfl rfl h80 (op_load_pt rfl Tryz.underlying3 rfl rfl rfl rfl rfl)) ?_
                refine rg_put (d := 69) (v := .d (.fl (.bool ((decide (9 < p.cls)))))) rfl (oy rfl rfl rfl h80 (op_bin rfl rfl rfl (b_gtr _ _ _ _) rfl)) ?_
                refine rg_put (d := 70) (v := .d (.fl (.bool ((decide (9 < p.cls)))))) rfl (og rfl (op_pick rfl rfl (by rw [h80]; rfl) rfl)) ?_
                refine rg_done rfl ?_
                refine a_cond rfl (fun h82 => ?_) (fun h82 => ?_)
                · skip
                  have h83 := t_dec h82
                  refine a_rseq ?_
                  refine rg_put (d := 4) (v := .d (.fl (.int .i64 20))) rfl (og rfl (op_assign rfl rfl rfl)) ?_
                  refine rg_done rfl ?_
                  refine a_ret ?_
                  show ∃ ds, ResL _ _ _ ds ∧ RV.of ds = _
                  refine ⟨[.fl (.int .i64 20)], (.cons (.tmp rfl (.d _)) .nil), ?_⟩
                  have gg0 := bneb h75
                  have gN : nrmB p.plate = true := by unfold nrmB; simp only [gg0, h1, h3, h4, h6, h7, h74, h75, h77, h79, h80, h82, Bool.true_or, Bool.false_or, Bool.or_true, Bool.or_false, Bool.not_true, Bool.not_false, cond_true, cond_false, Bool.true_and, Bool.false_and, Bool.and_true, Bool.and_false]
                  have hu : pck p n = 20 := by unfold pck; simp only [gN, h1, h3, h4, h6, h7, h74, h75, h77, h79, h80, h82, Bool.true_or, Bool.false_or, Bool.or_true, Bool.or_false, Bool.not_true, Bool.not_false, cond_true, cond_false, Bool.true_and, Bool.false_and, Bool.and_true, Bool.and_false] <;> rfl
                  rw [hu]; rfl
                · skip
                  have h84 := f_dec h82
                  refine a_skip ?_
                  show A _ _ _ _ _ _ _
                  refine a_seq ?_
                  refine a_rseq ?_
                  refine rg_put (d := 71) (v := .pt 101 6) rfl (og rfl (of_eff (s_field_pt rfl Tryz.underlying24 rfl ti3 rfl rfl rfl) rfl)) ?_
                  refine rg_put (d := 72) (v := .d (.fl (.int .i64 p.score))) rfl (og rfl (op_load_pt rfl Tryz.underlying3 rfl rfl rfl rfl rfl)) ?_
                  refine rg_put (d := 73) (v := .d (.fl (.bool ((decide (p.score < 0)))))) rfl (og rfl (op_bin rfl rfl rfl (b_lss _ _ _ _) rfl)) ?_
                  refine rg_put (d := 74) (v := .d (.fl (.bool ((decide (p.score < 0)))))) rfl (og rfl (op_move rfl rfl rfl)) ?_
                  rcases fot ((decide (p.score < 0))) with h85 | h85
                  · skip
                    have h86 := f_dec h85
                    refine rg_put (d := 75) (v := .pt 101 6) rfl (oy rfl rfl rfl h85 (of_eff (s_field_pt rfl Tryz.underlying24 rfl ti3 rfl rfl rfl) rfl)) ?_
                    refine rg_put (d := 76) (v := .d (.fl (.int .i64 p.score))) rfl (oy rfl rfl rfl h85 (op_load_pt rfl Tryz.underlying3 rfl rfl rfl rfl rfl)) ?_
                    refine rg_put (d := 77) (v := .d (.fl (.bool ((decide (1000 < p.score)))))) rfl (oy rfl rfl rfl h85 (op_bin rfl rfl rfl (b_gtr _ _ _ _) rfl)) ?_
                    refine rg_put (d := 78) (v := .d (.fl (.bool ((decide (1000 < p.score)))))) rfl (og rfl (op_pick rfl rfl (by rw [h85]; rfl) rfl)) ?_
                    refine rg_done rfl ?_
                    refine a_cond rfl (fun h87 => ?_) (fun h87 => ?_)
                    · skip
                      have h88 := t_dec h87
                      refine a_rseq ?_
                      refine rg_put (d := 4) (v := .d (.fl (.int .i64 1))) rfl (og rfl (op_assign rfl rfl rfl)) ?_
                      refine rg_done rfl ?_
                      refine a_ret ?_
                      show ∃ ds, ResL _ _ _ ds ∧ RV.of ds = _
                      refine ⟨[.fl (.int .i64 1)], (.cons (.tmp rfl (.d _)) .nil), ?_⟩
                      have gg0 := bneb h75
                      have gN : nrmB p.plate = true := by unfold nrmB; simp only [gg0, h1, h3, h4, h6, h7, h74, h75, h77, h79, h80, h82, h85, h87, Bool.true_or, Bool.false_or, Bool.or_true, Bool.or_false, Bool.not_true, Bool.not_false, cond_true, cond_false, Bool.true_and, Bool.false_and, Bool.and_true, Bool.and_false]
                      have hu : pck p n = 1 := by unfold pck; simp only [gN, h1, h3, h4, h6, h7, h74, h75, h77, h79, h80, h82, h85, h87, Bool.true_or, Bool.false_or, Bool.or_true, Bool.or_false, Bool.not_true, Bool.not_false, cond_true, cond_false, Bool.true_and, Bool.false_and, Bool.and_true, Bool.and_false] <;> rfl
                      rw [hu]; rfl
                    · skip
                      have h89 := f_dec h87
                      refine a_skip ?_
                      show A _ _ _ _ _ _ _
                      refine a_seq ?_
                      refine a_rseq ?_
                      refine rg_put (d := 79) (v := .pt 101 7) rfl (og rfl (of_eff (s_field_pt rfl Tryz.underlying24 rfl ti22 rfl rfl rfl) rfl)) ?_
                      refine rg_put (d := 80) (v := .d (.sl 2 (List.map eSrc p.src))) rfl (og rfl (op_load_pt rfl Tryz.underlying22 rfl rfl rfl rfl rfl)) ?_
                      refine rg_put (d := 81) (v := .d (.fl (.int .i64 (p.src.length : Int)))) rfl (og rfl (s_len rfl Tryz.underlying22 rfl rfl)) ?_
                      refine rg_put (d := 82) (v := .d (.fl (.bool ((decide ((p.src.length : Int) < 1)))))) rfl (og rfl (op_bin rfl rfl rfl (b_lss _ _ _ _) rfl)) ?_
                      refine rg_put (d := 83) (v := .d (.fl (.bool ((decide ((p.src.length : Int) < 1)))))) rfl (og rfl (op_move rfl rfl rfl)) ?_
                      rcases fot ((decide ((p.src.length : Int) < 1))) with h90 | h90
                      · skip
                        have h91 := f_dec h90
                        refine rg_put (d := 84) (v := .pt 101 7) rfl (oy rfl rfl rfl h90 (of_eff (s_field_pt rfl Tryz.underlying24 rfl ti22 rfl rfl rfl) rfl)) ?_
                        refine rg_put (d := 85) (v := .d (.sl 2 (List.map eSrc p.src))) rfl (oy rfl rfl rfl h90 (op_load_pt rfl Tryz.underlying22 rfl rfl rfl rfl rfl)) ?_
                        refine rg_put (d := 86) (v := .d (.fl (.int .i64 (p.src.length : Int)))) rfl (oy rfl rfl rfl h90 (s_len rfl Tryz.underlying22 rfl rfl)) ?_
                        refine rg_put (d := 87) (v := .d (.fl (.bool ((decide (24 < (p.src.length : Int))))))) rfl (oy rfl rfl rfl h90 (op_bin rfl rfl rfl (b_gtr _ _ _ _) rfl)) ?_
                        refine rg_put (d := 88) (v := .d (.fl (.bool ((decide (24 < (p.src.length : Int))))))) rfl (og rfl (op_pick rfl rfl (by rw [h90]; rfl) rfl)) ?_
                        refine rg_done rfl ?_
                        refine a_cond rfl (fun h92 => ?_) (fun h92 => ?_)
                        · skip
                          have h93 := t_dec h92
                          refine a_rseq ?_
                          refine rg_put (d := 4) (v := .d (.fl (.int .i64 3))) rfl (og rfl (op_assign rfl rfl rfl)) ?_
                          refine rg_done rfl ?_
                          refine a_ret ?_
                          show ∃ ds, ResL _ _ _ ds ∧ RV.of ds = _
                          refine ⟨[.fl (.int .i64 3)], (.cons (.tmp rfl (.d _)) .nil), ?_⟩
                          have gg0 := bneb h75
                          have gN : nrmB p.plate = true := by unfold nrmB; simp only [gg0, h1, h3, h4, h6, h7, h74, h75, h77, h79, h80, h82, h85, h87, h90, h92, Bool.true_or, Bool.false_or, Bool.or_true, Bool.or_false, Bool.not_true, Bool.not_false, cond_true, cond_false, Bool.true_and, Bool.false_and, Bool.and_true, Bool.and_false]
                          have hlim : (decide ((p.src.length : Int) < 1) || decide (24 < (p.src.length : Int))) = true := by simp only [h1, h3, h4, h6, h7, h74, h75, h77, h79, h80, h82, h85, h87, h90, h92, Bool.true_or, Bool.false_or, Bool.or_true, Bool.or_false, Bool.not_true, Bool.not_false, cond_true, cond_false, Bool.true_and, Bool.false_and, Bool.and_true, Bool.and_false]
                          have gS := cs_l hlim
                          have gS2 : (csE p.src != 0) = true := by rw [gS]; rfl
                          have hu : pck p n = 3 := by unfold pck; simp only [gN, gS2, gS, h1, h3, h4, h6, h7, h74, h75, h77, h79, h80, h82, h85, h87, h90, h92, Bool.true_or, Bool.false_or, Bool.or_true, Bool.or_false, Bool.not_true, Bool.not_false, cond_true, cond_false, Bool.true_and, Bool.false_and, Bool.and_true, Bool.and_false] <;> rfl
                          rw [hu]; rfl
                        · skip
                          have h94 := f_dec h92
                          refine a_skip ?_
                          show A _ _ _ _ _ _ _
                          refine a_seq ?_
                          refine a_rseq ?_
                          refine rg_put (d := 9) (v := .d (.fl (.int .i64 0))) rfl (og rfl (op_assign rfl rfl rfl)) ?_
                          refine rg_done rfl ?_
                          refine a_block ?_
                          refine a_loop (ι := Nat) (fun k => SS [(0, .d (.ag (ePsg p))), (1, .d (.ag (eNwk n))), (2, .pt 101 0), (3, .pt 102 0), (6, .d (.fl (.bool ((gfE n p.point).2)))), (7, .d (.fl (.string (nmS p.plate)))), (8, .d (.fl (.int .i64 (nmI p.plate)))), (19, .d (.fl (.bool ((!((gfE n p.point).2)))))), (23, .d (.fl (.bool ((!(isT p.time)))))), (31, .d (.fl (.bool ((sEq p.plate (⟨#[]⟩)))))), (40, .d (.fl (.bool false))), (62, .d (.fl (.bool ((!(sEq (nmS p.plate) p.plate)))))), (70, .d (.fl (.bool ((decide (9 < p.cls)))))), (78, .d (.fl (.bool ((decide (1000 < p.score)))))), (88, .d (.fl (.bool ((decide (24 < (p.src.length : Int))))))), (9, .d (.fl (.int .i64 (k : Int))))] [(101, .bx 24 (ePsg p)), (102, .bx 32 (eNwk n))]) (fun k => k ≤ p.src.length ∧ srE p.src = fe (sr1 p.src) k (p.src.length - k)) (fun k => p.src.length - k) 0 (⟨by omega, rfl⟩) (imp_forget rfl ⟨rfl, rfl, rfl, rfl, rfl, rfl, rfl, rfl, rfl, rfl, rfl, rfl, rfl, rfl, rfl, (by first | rfl | exact ci (by omega) | exact ci (by simp) | exact cd (by simp) | simp), trivial⟩ ⟨rfl, rfl, trivial⟩) (fun k hok => ?_)
                          obtain ⟨hk, hc⟩ := hok
                          refine a_seq ?_
                          refine a_rseq ?_
                          refine rg_put (d := 89) (v := .d (.fl (.int .i64 (k : Int)))) rfl (og rfl (op_move rfl rfl rfl)) ?_
                          refine rg_put (d := 90) (v := .pt 101 7) rfl (og rfl (of_eff (s_field_pt rfl Tryz.underlying24 rfl ti22 rfl rfl rfl) rfl)) ?_
                          refine rg_put (d := 91) (v := .d (.sl 2 (List.map eSrc p.src))) rfl (og rfl (op_load_pt rfl Tryz.underlying22 rfl rfl rfl rfl rfl)) ?_
                          refine rg_put (d := 92) (v := .d (.fl (.int .i64 (p.src.length : Int)))) rfl (og rfl (s_len rfl Tryz.underlying22 rfl rfl)) ?_
                          refine rg_put (d := 93) (v := .d (.fl (.bool ((decide ((k : Int) < (p.src.length : Int))))))) rfl (og rfl (op_bin rfl rfl rfl (b_lss _ _ _ _) rfl)) ?_
                          refine rg_done rfl ?_
                          refine a_cond rfl (fun h95 => ?_) (fun h95 => ?_)
                          · skip
                            have h96 := t_dec h95
                            refine a_skip ?_
                            show A _ _ _ _ _ _ _
                            refine a_seq ?_
                            refine a_block ?_
                            refine a_rseq ?_
                            refine rg_put (d := 96) (v := .pt 101 7) rfl (og rfl (of_eff (s_field_pt rfl Tryz.underlying24 rfl ti22 rfl rfl rfl) rfl)) ?_
                            refine rg_put (d := 97) (v := .d (.sl 2 (List.map eSrc p.src))) rfl (og rfl (op_load_pt rfl Tryz.underlying22 rfl rfl rfl rfl rfl)) ?_
                            refine rg_put (d := 98) (v := .d (.fl (.int .i64 (k : Int)))) rfl (og rfl (op_move rfl rfl rfl)) ?_
                            refine rg_put (d := 99) (v := .d (.fl (.int .i64 (sr1 p.src k)))) rfl (og rfl (op_call rfl Tryz.func34 nm34 rfl (.cons rfl (.d _) (.cons rfl (.d _) .nil)) (srR p.src k (by omega) (by omega) hz.d) rfl)) ?_
                            refine rg_put (d := 10) (v := .d (.fl (.int .i64 (sr1 p.src k)))) rfl (og rfl (op_assign rfl rfl rfl)) ?_
                            refine rg_done rfl ?_
                            refine a_rseq ?_
                            refine rg_put (d := 100) (v := .d (.fl (.int .i64 (sr1 p.src k)))) rfl (og rfl (op_move rfl rfl rfl)) ?_
                            refine rg_put (d := 101) (v := .d (.fl (.bool (((sr1 p.src k) != 0))))) rfl (og rfl (op_bin rfl rfl rfl (b_neq _ _ _ _) rfl)) ?_
                            refine rg_done rfl ?_
                            refine a_cond rfl (fun h97 => ?_) (fun h97 => ?_)
                            · skip
                              have h98 := t_bne h97
                              refine a_rseq ?_
                              refine rg_put (d := 102) (v := .d (.fl (.int .i64 (sr1 p.src k)))) rfl (og rfl (op_move rfl rfl rfl)) ?_
                              refine rg_put (d := 4) (v := .d (.fl (.int .i64 (sr1 p.src k)))) rfl (og rfl (op_assign rfl rfl rfl)) ?_
                              refine rg_done rfl ?_
                              refine a_ret ?_
                              show ∃ ds, ResL _ _ _ ds ∧ RV.of ds = _
                              refine ⟨[.fl (.int .i64 (sr1 p.src k))], (.cons (.tmp rfl (.d _)) .nil), ?_⟩
                              have gg0 := bneb h75
                              have gN : nrmB p.plate = true := by unfold nrmB; simp only [gg0, h1, h3, h4, h6, h7, h74, h75, h77, h79, h80, h82, h85, h87, h90, h92, h95, h97, Bool.true_or, Bool.false_or, Bool.or_true, Bool.or_false, Bool.not_true, Bool.not_false, cond_true, cond_false, Bool.true_and, Bool.false_and, Bool.and_true, Bool.and_false]
                              have hlim : (decide ((p.src.length : Int) < 1) || decide (24 < (p.src.length : Int))) = false := by simp only [h1, h3, h4, h6, h7, h74, h75, h77, h79, h80, h82, h85, h87, h90, h92, h95, h97, Bool.true_or, Bool.false_or, Bool.or_true, Bool.or_false, Bool.not_true, Bool.not_false, cond_true, cond_false, Bool.true_and, Bool.false_and, Bool.and_true, Bool.and_false]
                              have gS : csE p.src = sr1 p.src k := by rw [cs_s hlim]; exact fe_yes (by omega) hc rfl (t_bne h97)
                              have gS2 : (csE p.src != 0) = true := by rw [gS]; exact h97
                              have hu : pck p n = (sr1 p.src k) := by unfold pck; simp only [gN, gS2, gS, h1, h3, h4, h6, h7, h74, h75, h77, h79, h80, h82, h85, h87, h90, h92, h95, h97, Bool.true_or, Bool.false_or, Bool.or_true, Bool.or_false, Bool.not_true, Bool.not_false, cond_true, cond_false, Bool.true_and, Bool.false_and, Bool.and_true, Bool.and_false] <;> rfl
                              rw [hu]; rfl
                            · skip
                              have h99 := f_bne h97
                              refine a_skip ?_
                              show A _ _ _ _ _ _ _
                              refine a_region ?_
                              refine rg_put (d := 94) (v := .d (.fl (.int .i64 (k : Int)))) rfl (og rfl (op_move rfl rfl rfl)) ?_
                              refine rg_put (d := 95) (v := .d (.fl (.int .i64 (((k : Int) + 1))))) rfl (og rfl (op_bin rfl rfl rfl (fun x y w => b_add64 _ _ _ x y w (by omega)) rfl)) ?_
                              refine rg_put (d := 9) (v := .d (.fl (.int .i64 (((k : Int) + 1))))) rfl (og rfl (op_assign rfl rfl rfl)) ?_
                              refine rg_done rfl ?_
                              have hb : sr1 p.src k = 0 := f_bne h97
                              show ∃ i, _ ∧ _ ∧ Imp _ _ _ _ _
                              refine ⟨k + 1, ⟨by omega, fe_no (by omega) hc hb⟩, by omega, imp_forget rfl ⟨rfl, rfl, rfl, rfl, rfl, rfl, rfl, rfl, rfl, rfl, rfl, rfl, rfl, rfl, rfl, (by first | rfl | exact ci (by omega) | exact ci (by simp) | exact cd (by simp) | simp), trivial⟩ ⟨rfl, rfl, trivial⟩⟩
                          · skip
                            have h100 := f_dec h95
                            refine a_exit ?_
                            show A _ _ _ _ _ _ _
                            refine a_seq ?_
                            refine a_dseq (by kernel_rfl) ?_
                            refine dr_put (d := 103) (v := .pt 101 0) rfl (og rfl (of_eff (s_field_pt rfl Tryz.underlying24 rfl ti9 rfl rfl rfl) rfl)) ?_
                            refine dr_put (d := 104) (v := .d (.fl (.string p.id))) rfl (og rfl (op_load_pt rfl Tryz.underlying9 rfl rfl rfl rfl rfl)) ?_
                            refine dr_put (d := 105) (v := .d (.ag (ePsg p))) rfl (og rfl (of_eff (s_load_pts rfl Tryz.underlying24 rfl ti24 rfl rfl rfl rfl) rfl)) ?_
                            refine dr_put (d := 106) (v := .d (.fl (.string (idS p)))) rfl (og rfl (op_call rfl Tryz.func10 nm10 rfl (.cons rfl (.d _) .nil) (idR p hz hn) rfl)) ?_
                            refine dr_put (d := 107) (v := .d (.fl (.bool ((!(sEq p.id (idS p))))))) rfl (og rfl (op_bin rfl rfl rfl (b_sne _ _ _) rfl)) ?_
                            refine dr_done rfl (by kernel_rfl) (by kernel_rfl) ?_
                            refine a_cond rfl (fun h101 => ?_) (fun h101 => ?_)
                            · skip
                              have h102 := t_not h101
                              refine a_rseq ?_
                              refine rg_put (d := 4) (v := .d (.fl (.int .i64 6))) rfl (og rfl (op_assign rfl rfl rfl)) ?_
                              refine rg_done rfl ?_
                              refine a_ret ?_
                              show ∃ ds, ResL _ _ _ ds ∧ RV.of ds = _
                              refine ⟨[.fl (.int .i64 6)], (.cons (.tmp rfl (.d _)) .nil), ?_⟩
                              have gg0 := bneb h75
                              have gN : nrmB p.plate = true := by unfold nrmB; simp only [gg0, h1, h3, h4, h6, h7, h74, h75, h77, h79, h80, h82, h85, h87, h90, h92, h95, h101, h102, Bool.true_or, Bool.false_or, Bool.or_true, Bool.or_false, Bool.not_true, Bool.not_false, cond_true, cond_false, Bool.true_and, Bool.false_and, Bool.and_true, Bool.and_false]
                              have hlim : (decide ((p.src.length : Int) < 1) || decide (24 < (p.src.length : Int))) = false := by simp only [h1, h3, h4, h6, h7, h74, h75, h77, h79, h80, h82, h85, h87, h90, h92, h95, h101, h102, Bool.true_or, Bool.false_or, Bool.or_true, Bool.or_false, Bool.not_true, Bool.not_false, cond_true, cond_false, Bool.true_and, Bool.false_and, Bool.and_true, Bool.and_false]
                              have gS : csE p.src = 0 := by rw [cs_s hlim]; rw [fe_end (by omega)] at hc; exact hc
                              have gS2 : (csE p.src != 0) = false := by rw [gS]; rfl
                              have hu : pck p n = 6 := by unfold pck; simp only [gN, gS2, h1, h3, h4, h6, h7, h74, h75, h77, h79, h80, h82, h85, h87, h90, h92, h95, h101, h102, Bool.true_or, Bool.false_or, Bool.or_true, Bool.or_false, Bool.not_true, Bool.not_false, cond_true, cond_false, Bool.true_and, Bool.false_and, Bool.and_true, Bool.and_false] <;> rfl
                              rw [hu]; rfl
                            · skip
                              have h103 := f_not h101
                              refine a_skip ?_
                              show A _ _ _ _ _ _ _
                              refine a_rseq ?_
                              refine rg_put (d := 4) (v := .d (.fl (.int .i64 0))) rfl (og rfl (op_assign rfl rfl rfl)) ?_
                              refine rg_done rfl ?_
                              refine a_ret ?_
                              show ∃ ds, ResL _ _ _ ds ∧ RV.of ds = _
                              refine ⟨[.fl (.int .i64 0)], (.cons (.tmp rfl (.d _)) .nil), ?_⟩
                              have gg0 := bneb h75
                              have gN : nrmB p.plate = true := by unfold nrmB; simp only [gg0, h1, h3, h4, h6, h7, h74, h75, h77, h79, h80, h82, h85, h87, h90, h92, h95, h101, h103, Bool.true_or, Bool.false_or, Bool.or_true, Bool.or_false, Bool.not_true, Bool.not_false, cond_true, cond_false, Bool.true_and, Bool.false_and, Bool.and_true, Bool.and_false]
                              have hlim : (decide ((p.src.length : Int) < 1) || decide (24 < (p.src.length : Int))) = false := by simp only [h1, h3, h4, h6, h7, h74, h75, h77, h79, h80, h82, h85, h87, h90, h92, h95, h101, h103, Bool.true_or, Bool.false_or, Bool.or_true, Bool.or_false, Bool.not_true, Bool.not_false, cond_true, cond_false, Bool.true_and, Bool.false_and, Bool.and_true, Bool.and_false]
                              have gS : csE p.src = 0 := by rw [cs_s hlim]; rw [fe_end (by omega)] at hc; exact hc
                              have gS2 : (csE p.src != 0) = false := by rw [gS]; rfl
                              have hu : pck p n = 0 := by unfold pck; simp only [gN, gS2, h1, h3, h4, h6, h7, h74, h75, h77, h79, h80, h82, h85, h87, h90, h92, h95, h101, h103, Bool.true_or, Bool.false_or, Bool.or_true, Bool.or_false, Bool.not_true, Bool.not_false, cond_true, cond_false, Bool.true_and, Bool.false_and, Bool.and_true, Bool.and_false] <;> rfl
                              rw [hu]; rfl
                      · skip
                        have h104 := t_dec h90
                        refine rg_put (d := 84) (v := .d (.fl undef)) rfl (on rfl rfl rfl h90) ?_
                        refine rg_put (d := 85) (v := .d (.fl undef)) rfl (on rfl rfl rfl h90) ?_
                        refine rg_put (d := 86) (v := .d (.fl undef)) rfl (on rfl rfl rfl h90) ?_
                        refine rg_put (d := 87) (v := .d (.fl undef)) rfl (on rfl rfl rfl h90) ?_
                        refine rg_put (d := 88) (v := .d (.fl (.bool true))) rfl (og rfl (op_pick rfl rfl (by rw [h90]; rfl) rfl)) ?_
                        refine rg_done rfl ?_
                        refine a_condK rfl rfl ?_
                        refine a_rseq ?_
                        refine rg_put (d := 4) (v := .d (.fl (.int .i64 3))) rfl (og rfl (op_assign rfl rfl rfl)) ?_
                        refine rg_done rfl ?_
                        refine a_ret ?_
                        show ∃ ds, ResL _ _ _ ds ∧ RV.of ds = _
                        refine ⟨[.fl (.int .i64 3)], (.cons (.tmp rfl (.d _)) .nil), ?_⟩
                        have gg0 := bneb h75
                        have gN : nrmB p.plate = true := by unfold nrmB; simp only [gg0, h1, h3, h4, h6, h7, h74, h75, h77, h79, h80, h82, h85, h87, h90, Bool.true_or, Bool.false_or, Bool.or_true, Bool.or_false, Bool.not_true, Bool.not_false, cond_true, cond_false, Bool.true_and, Bool.false_and, Bool.and_true, Bool.and_false]
                        have hlim : (decide ((p.src.length : Int) < 1) || decide (24 < (p.src.length : Int))) = true := by simp only [h1, h3, h4, h6, h7, h74, h75, h77, h79, h80, h82, h85, h87, h90, Bool.true_or, Bool.false_or, Bool.or_true, Bool.or_false, Bool.not_true, Bool.not_false, cond_true, cond_false, Bool.true_and, Bool.false_and, Bool.and_true, Bool.and_false]
                        have gS := cs_l hlim
                        have gS2 : (csE p.src != 0) = true := by rw [gS]; rfl
                        have hu : pck p n = 3 := by unfold pck; simp only [gN, gS2, gS, h1, h3, h4, h6, h7, h74, h75, h77, h79, h80, h82, h85, h87, h90, Bool.true_or, Bool.false_or, Bool.or_true, Bool.or_false, Bool.not_true, Bool.not_false, cond_true, cond_false, Bool.true_and, Bool.false_and, Bool.and_true, Bool.and_false] <;> rfl
                        rw [hu]; rfl
                  · skip
                    have h105 := t_dec h85
                    refine rg_put (d := 75) (v := .d (.fl undef)) rfl (on rfl rfl rfl h85) ?_
                    refine rg_put (d := 76) (v := .d (.fl undef)) rfl (on rfl rfl rfl h85) ?_
                    refine rg_put (d := 77) (v := .d (.fl undef)) rfl (on rfl rfl rfl h85) ?_
                    refine rg_put (d := 78) (v := .d (.fl (.bool true))) rfl (og rfl (op_pick rfl rfl (by rw [h85]; rfl) rfl)) ?_
                    refine rg_done rfl ?_
                    refine a_condK rfl rfl ?_
                    refine a_rseq ?_
                    refine rg_put (d := 4) (v := .d (.fl (.int .i64 1))) rfl (og rfl (op_assign rfl rfl rfl)) ?_
                    refine rg_done rfl ?_
                    refine a_ret ?_
                    show ∃ ds, ResL _ _ _ ds ∧ RV.of ds = _
                    refine ⟨[.fl (.int .i64 1)], (.cons (.tmp rfl (.d _)) .nil), ?_⟩
                    have gg0 := bneb h75
                    have gN : nrmB p.plate = true := by unfold nrmB; simp only [gg0, h1, h3, h4, h6, h7, h74, h75, h77, h79, h80, h82, h85, Bool.true_or, Bool.false_or, Bool.or_true, Bool.or_false, Bool.not_true, Bool.not_false, cond_true, cond_false, Bool.true_and, Bool.false_and, Bool.and_true, Bool.and_false]
                    have hu : pck p n = 1 := by unfold pck; simp only [gN, h1, h3, h4, h6, h7, h74, h75, h77, h79, h80, h82, h85, Bool.true_or, Bool.false_or, Bool.or_true, Bool.or_false, Bool.not_true, Bool.not_false, cond_true, cond_false, Bool.true_and, Bool.false_and, Bool.and_true, Bool.and_false] <;> rfl
                    rw [hu]; rfl
              · skip
                have h106 := t_dec h80
                refine rg_put (d := 67) (v := .d (.fl undef)) rfl (on rfl rfl rfl h80) ?_
                refine rg_put (d := 68) (v := .d (.fl undef)) rfl (on rfl rfl rfl h80) ?_
                refine rg_put (d := 69) (v := .d (.fl undef)) rfl (on rfl rfl rfl h80) ?_
                refine rg_put (d := 70) (v := .d (.fl (.bool true))) rfl (og rfl (op_pick rfl rfl (by rw [h80]; rfl) rfl)) ?_
                refine rg_done rfl ?_
                refine a_condK rfl rfl ?_
                refine a_rseq ?_
                refine rg_put (d := 4) (v := .d (.fl (.int .i64 20))) rfl (og rfl (op_assign rfl rfl rfl)) ?_
                refine rg_done rfl ?_
                refine a_ret ?_
                show ∃ ds, ResL _ _ _ ds ∧ RV.of ds = _
                refine ⟨[.fl (.int .i64 20)], (.cons (.tmp rfl (.d _)) .nil), ?_⟩
                have gg0 := bneb h75
                have gN : nrmB p.plate = true := by unfold nrmB; simp only [gg0, h1, h3, h4, h6, h7, h74, h75, h77, h79, h80, Bool.true_or, Bool.false_or, Bool.or_true, Bool.or_false, Bool.not_true, Bool.not_false, cond_true, cond_false, Bool.true_and, Bool.false_and, Bool.and_true, Bool.and_false]
                have hu : pck p n = 20 := by unfold pck; simp only [gN, h1, h3, h4, h6, h7, h74, h75, h77, h79, h80, Bool.true_or, Bool.false_or, Bool.or_true, Bool.or_false, Bool.not_true, Bool.not_false, cond_true, cond_false, Bool.true_and, Bool.false_and, Bool.and_true, Bool.and_false] <;> rfl
                rw [hu]; rfl
          · skip
            have h107 := t_bne h75
            refine rg_put (d := 57) (v := .d (.fl undef)) rfl (on rfl rfl rfl h75) ?_
            refine rg_put (d := 58) (v := .d (.fl undef)) rfl (on rfl rfl rfl h75) ?_
            refine rg_put (d := 59) (v := .d (.fl undef)) rfl (on rfl rfl rfl h75) ?_
            refine rg_put (d := 60) (v := .d (.fl undef)) rfl (on rfl rfl rfl h75) ?_
            refine rg_put (d := 61) (v := .d (.fl (.bool true))) rfl (oy rfl rfl rfl (not_t' h74) (op_pick rfl rfl (by rw [h75]; rfl) rfl)) ?_
            refine rg_put (d := 62) (v := .d (.fl (.bool true))) rfl (og rfl (op_pick rfl rfl (by rw [(not_t' h74)]; rfl) rfl)) ?_
            refine rg_done rfl ?_
            refine a_condK rfl rfl ?_
            refine a_rseq ?_
            refine rg_put (d := 4) (v := .d (.fl (.int .i64 19))) rfl (og rfl (op_assign rfl rfl rfl)) ?_
            refine rg_done rfl ?_
            refine a_ret ?_
            show ∃ ds, ResL _ _ _ ds ∧ RV.of ds = _
            refine ⟨[.fl (.int .i64 19)], (.cons (.tmp rfl (.d _)) .nil), ?_⟩
            have gg0 := bneb h75
            have gN : nrmB p.plate = false := by unfold nrmB; simp only [gg0, h1, h3, h4, h6, h7, h74, h75, Bool.true_or, Bool.false_or, Bool.or_true, Bool.or_false, Bool.not_true, Bool.not_false, cond_true, cond_false, Bool.true_and, Bool.false_and, Bool.and_true, Bool.and_false]
            have hu : pck p n = 19 := by unfold pck; simp only [gN, h1, h3, h4, h6, h7, h74, h75, Bool.true_or, Bool.false_or, Bool.or_true, Bool.or_false, Bool.not_true, Bool.not_false, cond_true, cond_false, Bool.true_and, Bool.false_and, Bool.and_true, Bool.and_false] <;> rfl
            rw [hu]; rfl
set_option maxHeartbeats 4000000 in
set_option maxRecDepth 100000 in
theorem oneC (x : Psg) (hx9 : x.src.length ≤ 9223372036854775807) : Ctr Tryz.prog 5 [.ag (ePsg x)] (.d (.fl (.bool (oneB x)))) := by
  refine ctr (n := 47) (rs := #[.tmp 2]) (L := [(0, .d (.ag (ePsg x)))]) Tryz.func5 rfl rfl rfl rfl rfl (fun w0 U0 => ?_)
  refine a_rseq ?_
  refine rg_nam (d := 1) (v := .pt 101 0) (m := 101) (nw := [(101, .bx 24 (ePsg x))]) rfl (og rfl (of_eff (op_box 101 rfl rfl rfl rfl) rfl)) rfl ?_
  refine rg_put (d := 2) (v := .d (.fl (.bool false))) rfl (og rfl (op_assign rfl rfl rfl)) ?_
  refine rg_done rfl ?_
  refine a_seq ?_
  refine a_rseq ?_
  refine rg_put (d := 3) (v := .d (.fl (.int .i64 0))) rfl (og rfl (op_assign rfl rfl rfl)) ?_
  refine rg_done rfl ?_
  refine a_block ?_
  refine a_loop (ι := Nat) (fun k => SS [(0, .d (.ag (ePsg x))), (1, .pt 101 0), (3, .d (.fl (.int .i64 (k : Int))))] [(101, .bx 24 (ePsg x))]) (fun k => k ≤ x.src.length ∧ ∀ q, q < k → decide (40 < ((ix x.src q).dev.size : Int)) = false) (fun k => x.src.length - k) 0 (⟨by omega, fun q h => by omega⟩) (imp_forget rfl ⟨rfl, rfl, (by first | rfl | exact ci (by omega) | exact ci (by simp) | exact cd (by simp) | simp), trivial⟩ ⟨rfl, trivial⟩) (fun k hok => ?_)
  obtain ⟨hkk, hq⟩ := hok
  refine a_seq ?_
  refine a_rseq ?_
  refine rg_put (d := 4) (v := .d (.fl (.int .i64 (k : Int)))) rfl (og rfl (op_move rfl rfl rfl)) ?_
  refine rg_put (d := 5) (v := .pt 101 7) rfl (og rfl (of_eff (s_field_pt rfl Tryz.underlying24 rfl ti22 rfl rfl rfl) rfl)) ?_
  refine rg_put (d := 6) (v := .d (.sl 2 (List.map eSrc x.src))) rfl (og rfl (op_load_pt rfl Tryz.underlying22 rfl rfl rfl rfl rfl)) ?_
  refine rg_put (d := 7) (v := .d (.fl (.int .i64 (x.src.length : Int)))) rfl (og rfl (s_len rfl Tryz.underlying22 rfl rfl)) ?_
  refine rg_put (d := 8) (v := .d (.fl (.bool ((decide ((k : Int) < (x.src.length : Int))))))) rfl (og rfl (op_bin rfl rfl rfl (b_lss _ _ _ _) rfl)) ?_
  refine rg_done rfl ?_
  refine a_cond rfl (fun h1 => ?_) (fun h1 => ?_)
  · skip
    have h2 := t_dec h1
    refine a_skip ?_
    show A _ _ _ _ _ _ _
    refine a_seq ?_
    refine a_block ?_
    refine a_rseq ?_
    refine rg_put (d := 11) (v := .pt 101 7) rfl (og rfl (of_eff (s_field_pt rfl Tryz.underlying24 rfl ti22 rfl rfl rfl) rfl)) ?_
    refine rg_put (d := 12) (v := .d (.sl 2 (List.map eSrc x.src))) rfl (og rfl (op_load_pt rfl Tryz.underlying22 rfl rfl rfl rfl rfl)) ?_
    refine rg_put (d := 13) (v := .d (.fl (.int .i64 (k : Int)))) rfl (og rfl (op_move rfl rfl rfl)) ?_
    refine rg_put (d := 14) (v := .el ((eSrc (ix x.src k)))) rfl (og rfl (s_index rfl Tryz.underlying22 ti51 rfl rfl (by omega) (row_at (by omega)) rfl)) ?_
    refine rg_put (d := 15) (v := .el ((List.drop 0 ((eSrc (ix x.src k)))))) rfl (og rfl (of_eff (s_field_el rfl Tryz.underlying51 rfl ti9 rfl rfl rfl) rfl)) ?_
    refine rg_put (d := 16) (v := .d (.fl (.string ((ix x.src k).dev)))) rfl (og rfl (op_load_el rfl Tryz.underlying9 rfl rfl rfl rfl)) ?_
    refine rg_put (d := 17) (v := .d (.fl (.int .i64 ((((ix x.src k).dev).size : Int))))) rfl (og rfl (op_len_str rfl Tryz.underlying9 rfl rfl)) ?_
    refine rg_put (d := 18) (v := .d (.fl (.bool ((decide (40 < (((ix x.src k).dev).size : Int))))))) rfl (og rfl (op_bin rfl rfl rfl (b_gtr _ _ _ _) rfl)) ?_
    refine rg_done rfl ?_
    refine a_cond rfl (fun h3 => ?_) (fun h3 => ?_)
    · skip
      have h4 := t_dec h3
      refine a_rseq ?_
      refine rg_put (d := 2) (v := .d (.fl (.bool false))) rfl (og rfl (op_assign rfl rfl rfl)) ?_
      refine rg_done rfl ?_
      refine a_ret ?_
      show ∃ ds, ResL _ _ _ ds ∧ RV.of ds = _
      refine ⟨[.fl (.bool false)], (.cons (.tmp rfl (.d _)) .nil), ?_⟩
      rw [one_n (by omega) h3]; rfl
    · skip
      have h5 := f_dec h3
      refine a_skip ?_
      show A _ _ _ _ _ _ _
      refine a_region ?_
      refine rg_put (d := 9) (v := .d (.fl (.int .i64 (k : Int)))) rfl (og rfl (op_move rfl rfl rfl)) ?_
      refine rg_put (d := 10) (v := .d (.fl (.int .i64 (((k : Int) + 1))))) rfl (og rfl (op_bin rfl rfl rfl (fun x y w => b_add64 _ _ _ x y w (by omega)) rfl)) ?_
      refine rg_put (d := 3) (v := .d (.fl (.int .i64 (((k : Int) + 1))))) rfl (og rfl (op_assign rfl rfl rfl)) ?_
      refine rg_done rfl ?_
      have hx : decide (40 < ((ix x.src k).dev.size : Int)) = false := h3
      show ∃ i, _ ∧ _ ∧ Imp _ _ _ _ _
      refine ⟨k + 1, ⟨by omega, fun q h => (Nat.lt_succ_iff_lt_or_eq.1 h).elim (hq q) (fun e => by rw [e]; exact hx)⟩, by omega, imp_forget rfl ⟨rfl, rfl, (by first | rfl | exact ci (by omega) | exact ci (by simp) | exact cd (by simp) | simp), trivial⟩ ⟨rfl, trivial⟩⟩
  · skip
    have h6 := f_dec h1
    refine a_exit ?_
    show A _ _ _ _ _ _ _
    refine a_rseq ?_
    refine rg_put (d := 19) (v := .pt 101 0) rfl (og rfl (of_eff (s_field_pt rfl Tryz.underlying24 rfl ti9 rfl rfl rfl) rfl)) ?_
    refine rg_put (d := 20) (v := .d (.fl (.string x.id))) rfl (og rfl (op_load_pt rfl Tryz.underlying9 rfl rfl rfl rfl rfl)) ?_
    refine rg_put (d := 21) (v := .d (.fl (.int .i64 (x.id.size : Int)))) rfl (og rfl (op_len_str rfl Tryz.underlying9 rfl rfl)) ?_
    refine rg_put (d := 22) (v := .d (.fl (.bool ((decide ((x.id.size : Int) ≤ 80)))))) rfl (og rfl (op_bin rfl rfl rfl (b_leq _ _ _ _) rfl)) ?_
    refine rg_put (d := 23) (v := .d (.fl (.bool ((decide ((x.id.size : Int) ≤ 80)))))) rfl (og rfl (op_move rfl rfl rfl)) ?_
    rcases fot ((decide ((x.id.size : Int) ≤ 80))) with h7 | h7
    · skip
      have h8 := f_dec h7
      refine rg_put (d := 24) (v := .d (.fl undef)) rfl (on rfl rfl rfl h7) ?_
      refine rg_put (d := 25) (v := .d (.fl undef)) rfl (on rfl rfl rfl h7) ?_
      refine rg_put (d := 26) (v := .d (.fl undef)) rfl (on rfl rfl rfl h7) ?_
      refine rg_put (d := 27) (v := .d (.fl undef)) rfl (on rfl rfl rfl h7) ?_
      refine rg_put (d := 28) (v := .d (.fl (.bool false))) rfl (og rfl (op_pick rfl rfl (by rw [h7]; rfl) rfl)) ?_
      refine rg_put (d := 29) (v := .d (.fl (.bool false))) rfl (og rfl (op_move rfl rfl rfl)) ?_
      refine rg_put (d := 30) (v := .d (.fl undef)) rfl (on rfl rfl rfl rfl) ?_
      refine rg_put (d := 31) (v := .d (.fl undef)) rfl (on rfl rfl rfl rfl) ?_
      refine rg_put (d := 32) (v := .d (.fl undef)) rfl (on rfl rfl rfl rfl) ?_
      refine rg_put (d := 33) (v := .d (.fl undef)) rfl (on rfl rfl rfl rfl) ?_
      refine rg_put (d := 34) (v := .d (.fl (.bool false))) rfl (og rfl (op_pick rfl rfl rfl rfl)) ?_
      refine rg_put (d := 35) (v := .d (.fl (.bool false))) rfl (og rfl (op_move rfl rfl rfl)) ?_
      refine rg_put (d := 36) (v := .d (.fl undef)) rfl (on rfl rfl rfl rfl) ?_
      refine rg_put (d := 37) (v := .d (.fl undef)) rfl (on rfl rfl rfl rfl) ?_
      refine rg_put (d := 38) (v := .d (.fl undef)) rfl (on rfl rfl rfl rfl) ?_
      refine rg_put (d := 39) (v := .d (.fl undef)) rfl (on rfl rfl rfl rfl) ?_
      refine rg_put (d := 40) (v := .d (.fl (.bool false))) rfl (og rfl (op_pick rfl rfl rfl rfl)) ?_
      refine rg_put (d := 41) (v := .d (.fl (.bool false))) rfl (og rfl (op_move rfl rfl rfl)) ?_
      refine rg_put (d := 42) (v := .d (.fl undef)) rfl (on rfl rfl rfl rfl) ?_
      refine rg_put (d := 43) (v := .d (.fl undef)) rfl (on rfl rfl rfl rfl) ?_
      refine rg_put (d := 44) (v := .d (.fl undef)) rfl (on rfl rfl rfl rfl) ?_
      refine rg_put (d := 45) (v := .d (.fl undef)) rfl (on rfl rfl rfl rfl) ?_
      refine rg_put (d := 46) (v := .d (.fl (.bool false))) rfl (og rfl (op_pick rfl rfl rfl rfl)) ?_
      refine rg_put (d := 2) (v := .d (.fl (.bool false))) rfl (og rfl (op_assign rfl rfl rfl)) ?_
      refine rg_done rfl ?_
      refine a_ret ?_
      show ∃ ds, ResL _ _ _ ds ∧ RV.of ds = _
      refine ⟨[.fl (.bool false)], (.cons (.tmp rfl (.d _)) .nil), ?_⟩
      have hu := one_y (x := x) (fun q h => hq q (by omega))
      rw [show oneB x = false from by rw [hu]; simp only [h1, h7, Bool.true_or, Bool.false_or, Bool.or_true, Bool.or_false, Bool.not_true, Bool.not_false, cond_true, cond_false, Bool.true_and, Bool.false_and, Bool.and_true, Bool.and_false] <;> rfl]; rfl
    · skip
      have h9 := t_dec h7
      refine rg_put (d := 24) (v := .pt 101 1) rfl (oy rfl rfl rfl h7 (of_eff (s_field_pt rfl Tryz.underlying24 rfl ti9 rfl rfl rfl) rfl)) ?_
      refine rg_put (d := 25) (v := .d (.fl (.string x.point))) rfl (oy rfl rfl rfl h7 (op_load_pt rfl Tryz.underlying9 rfl rfl rfl rfl rfl)) ?_
      refine rg_put (d := 26) (v := .d (.fl (.int .i64 (x.point.size : Int)))) rfl (oy rfl rfl rfl h7 (op_len_str rfl Tryz.underlying9 rfl rfl)) ?_
      refine rg_put (d := 27) (v := .d (.fl (.bool ((decide ((x.point.size : Int) ≤ 40)))))) rfl (oy rfl rfl rfl h7 (op_bin rfl rfl rfl (b_leq _ _ _ _) rfl)) ?_
      refine rg_put (d := 28) (v := .d (.fl (.bool ((decide ((x.point.size : Int) ≤ 40)))))) rfl (og rfl (op_pick rfl rfl (by rw [h7]; rfl) rfl)) ?_
      refine rg_put (d := 29) (v := .d (.fl (.bool ((decide ((x.point.size : Int) ≤ 40)))))) rfl (og rfl (op_move rfl rfl rfl)) ?_
      rcases fot ((decide ((x.point.size : Int) ≤ 40))) with h10 | h10
      · skip
        have h11 := f_dec h10
        refine rg_put (d := 30) (v := .d (.fl undef)) rfl (on rfl rfl rfl h10) ?_
        refine rg_put (d := 31) (v := .d (.fl undef)) rfl (on rfl rfl rfl h10) ?_
        refine rg_put (d := 32) (v := .d (.fl undef)) rfl (on rfl rfl rfl h10) ?_
        refine rg_put (d := 33) (v := .d (.fl undef)) rfl (on rfl rfl rfl h10) ?_
        refine rg_put (d := 34) (v := .d (.fl (.bool false))) rfl (og rfl (op_pick rfl rfl (by rw [h10]; rfl) rfl)) ?_
        refine rg_put (d := 35) (v := .d (.fl (.bool false))) rfl (og rfl (op_move rfl rfl rfl)) ?_
        refine rg_put (d := 36) (v := .d (.fl undef)) rfl (on rfl rfl rfl rfl) ?_
        refine rg_put (d := 37) (v := .d (.fl undef)) rfl (on rfl rfl rfl rfl) ?_
        refine rg_put (d := 38) (v := .d (.fl undef)) rfl (on rfl rfl rfl rfl) ?_
        refine rg_put (d := 39) (v := .d (.fl undef)) rfl (on rfl rfl rfl rfl) ?_
        refine rg_put (d := 40) (v := .d (.fl (.bool false))) rfl (og rfl (op_pick rfl rfl rfl rfl)) ?_
        refine rg_put (d := 41) (v := .d (.fl (.bool false))) rfl (og rfl (op_move rfl rfl rfl)) ?_
        refine rg_put (d := 42) (v := .d (.fl undef)) rfl (on rfl rfl rfl rfl) ?_
        refine rg_put (d := 43) (v := .d (.fl undef)) rfl (on rfl rfl rfl rfl) ?_
        refine rg_put (d := 44) (v := .d (.fl undef)) rfl (on rfl rfl rfl rfl) ?_
        refine rg_put (d := 45) (v := .d (.fl undef)) rfl (on rfl rfl rfl rfl) ?_
        refine rg_put (d := 46) (v := .d (.fl (.bool false))) rfl (og rfl (op_pick rfl rfl rfl rfl)) ?_
        refine rg_put (d := 2) (v := .d (.fl (.bool false))) rfl (og rfl (op_assign rfl rfl rfl)) ?_
        refine rg_done rfl ?_
        refine a_ret ?_
        show ∃ ds, ResL _ _ _ ds ∧ RV.of ds = _
        refine ⟨[.fl (.bool false)], (.cons (.tmp rfl (.d _)) .nil), ?_⟩
        have hu := one_y (x := x) (fun q h => hq q (by omega))
        rw [show oneB x = false from by rw [hu]; simp only [h1, h7, h10, Bool.true_or, Bool.false_or, Bool.or_true, Bool.or_false, Bool.not_true, Bool.not_false, cond_true, cond_false, Bool.true_and, Bool.false_and, Bool.and_true, Bool.and_false] <;> rfl]; rfl
      · skip
        have h12 := t_dec h10
        refine rg_put (d := 30) (v := .pt 101 3) rfl (oy rfl rfl rfl h10 (of_eff (s_field_pt rfl Tryz.underlying24 rfl ti9 rfl rfl rfl) rfl)) ?_
        refine rg_put (d := 31) (v := .d (.fl (.string x.tag))) rfl (oy rfl rfl rfl h10 (op_load_pt rfl Tryz.underlying9 rfl rfl rfl rfl rfl)) ?_
        refine rg_put (d := 32) (v := .d (.fl (.int .i64 (x.tag.size : Int)))) rfl (oy rfl rfl rfl h10 (op_len_str rfl Tryz.underlying9 rfl rfl)) ?_
        refine rg_put (d := 33) (v := .d (.fl (.bool ((decide ((x.tag.size : Int) ≤ 40)))))) rfl (oy rfl rfl rfl h10 (op_bin rfl rfl rfl (b_leq _ _ _ _) rfl)) ?_
        refine rg_put (d := 34) (v := .d (.fl (.bool ((decide ((x.tag.size : Int) ≤ 40)))))) rfl (og rfl (op_pick rfl rfl (by rw [h10]; rfl) rfl)) ?_
        refine rg_put (d := 35) (v := .d (.fl (.bool ((decide ((x.tag.size : Int) ≤ 40)))))) rfl (og rfl (op_move rfl rfl rfl)) ?_
        rcases fot ((decide ((x.tag.size : Int) ≤ 40))) with h13 | h13
        · skip
          have h14 := f_dec h13
          refine rg_put (d := 36) (v := .d (.fl undef)) rfl (on rfl rfl rfl h13) ?_
          refine rg_put (d := 37) (v := .d (.fl undef)) rfl (on rfl rfl rfl h13) ?_
          refine rg_put (d := 38) (v := .d (.fl undef)) rfl (on rfl rfl rfl h13) ?_
          refine rg_put (d := 39) (v := .d (.fl undef)) rfl (on rfl rfl rfl h13) ?_
          refine rg_put (d := 40) (v := .d (.fl (.bool false))) rfl (og rfl (op_pick rfl rfl (by rw [h13]; rfl) rfl)) ?_
          refine rg_put (d := 41) (v := .d (.fl (.bool false))) rfl (og rfl (op_move rfl rfl rfl)) ?_
          refine rg_put (d := 42) (v := .d (.fl undef)) rfl (on rfl rfl rfl rfl) ?_
          refine rg_put (d := 43) (v := .d (.fl undef)) rfl (on rfl rfl rfl rfl) ?_
          refine rg_put (d := 44) (v := .d (.fl undef)) rfl (on rfl rfl rfl rfl) ?_
          refine rg_put (d := 45) (v := .d (.fl undef)) rfl (on rfl rfl rfl rfl) ?_
          refine rg_put (d := 46) (v := .d (.fl (.bool false))) rfl (og rfl (op_pick rfl rfl rfl rfl)) ?_
          refine rg_put (d := 2) (v := .d (.fl (.bool false))) rfl (og rfl (op_assign rfl rfl rfl)) ?_
          refine rg_done rfl ?_
          refine a_ret ?_
          show ∃ ds, ResL _ _ _ ds ∧ RV.of ds = _
          refine ⟨[.fl (.bool false)], (.cons (.tmp rfl (.d _)) .nil), ?_⟩
          have hu := one_y (x := x) (fun q h => hq q (by omega))
          rw [show oneB x = false from by rw [hu]; simp only [h1, h7, h10, h13, Bool.true_or, Bool.false_or, Bool.or_true, Bool.or_false, Bool.not_true, Bool.not_false, cond_true, cond_false, Bool.true_and, Bool.false_and, Bool.and_true, Bool.and_false] <;> rfl]; rfl
        · skip
          have h15 := t_dec h13
          refine rg_put (d := 36) (v := .pt 101 4) rfl (oy rfl rfl rfl h13 (of_eff (s_field_pt rfl Tryz.underlying24 rfl ti9 rfl rfl rfl) rfl)) ?_
          refine rg_put (d := 37) (v := .d (.fl (.string x.plate))) rfl (oy rfl rfl rfl h13 (op_load_pt rfl Tryz.underlying9 rfl rfl rfl rfl rfl)) ?_
          refine rg_put (d := 38) (v := .d (.fl (.int .i64 (x.plate.size : Int)))) rfl (oy rfl rfl rfl h13 (op_len_str rfl Tryz.underlying9 rfl rfl)) ?_
          refine rg_put (d := 39) (v := .d (.fl (.bool ((decide ((x.plate.size : Int) ≤ 40)))))) rfl (oy rfl rfl rfl h13 (op_bin rfl rfl rfl (b_leq _ _ _ _) rfl)) ?_
          refine rg_put (d := 40) (v := .d (.fl (.bool ((decide ((x.plate.size : Int) ≤ 40)))))) rfl (og rfl (op_pick rfl rfl (by rw [h13]; rfl) rfl)) ?_
          refine rg_put (d := 41) (v := .d (.fl (.bool ((decide ((x.plate.size : Int) ≤ 40)))))) rfl (og rfl (op_move rfl rfl rfl)) ?_
          rcases fot ((decide ((x.plate.size : Int) ≤ 40))) with h16 | h16
          · skip
            have h17 := f_dec h16
            refine rg_put (d := 42) (v := .d (.fl undef)) rfl (on rfl rfl rfl h16) ?_
            refine rg_put (d := 43) (v := .d (.fl undef)) rfl (on rfl rfl rfl h16) ?_
            refine rg_put (d := 44) (v := .d (.fl undef)) rfl (on rfl rfl rfl h16) ?_
            refine rg_put (d := 45) (v := .d (.fl undef)) rfl (on rfl rfl rfl h16) ?_
            refine rg_put (d := 46) (v := .d (.fl (.bool false))) rfl (og rfl (op_pick rfl rfl (by rw [h16]; rfl) rfl)) ?_
            refine rg_put (d := 2) (v := .d (.fl (.bool false))) rfl (og rfl (op_assign rfl rfl rfl)) ?_
            refine rg_done rfl ?_
            refine a_ret ?_
            show ∃ ds, ResL _ _ _ ds ∧ RV.of ds = _
            refine ⟨[.fl (.bool false)], (.cons (.tmp rfl (.d _)) .nil), ?_⟩
            have hu := one_y (x := x) (fun q h => hq q (by omega))
            rw [show oneB x = false from by rw [hu]; simp only [h1, h7, h10, h13, h16, Bool.true_or, Bool.false_or, Bool.or_true, Bool.or_false, Bool.not_true, Bool.not_false, cond_true, cond_false, Bool.true_and, Bool.false_and, Bool.and_true, Bool.and_false] <;> rfl]; rfl
          · skip
            have h18 := t_dec h16
            refine rg_put (d := 42) (v := .pt 101 7) rfl (oy rfl rfl rfl h16 (of_eff (s_field_pt rfl Tryz.underlying24 rfl ti22 rfl rfl rfl) rfl)) ?_
            refine rg_put (d := 43) (v := .d (.sl 2 (List.map eSrc x.src))) rfl (oy rfl rfl rfl h16 (op_load_pt rfl Tryz.underlying22 rfl rfl rfl rfl rfl)) ?_
            refine rg_put (d := 44) (v := .d (.fl (.int .i64 (x.src.length : Int)))) rfl (oy rfl rfl rfl h16 (s_len rfl Tryz.underlying22 rfl rfl)) ?_
            refine rg_put (d := 45) (v := .d (.fl (.bool ((decide ((x.src.length : Int) ≤ 30)))))) rfl (oy rfl rfl rfl h16 (op_bin rfl rfl rfl (b_leq _ _ _ _) rfl)) ?_
            refine rg_put (d := 46) (v := .d (.fl (.bool ((decide ((x.src.length : Int) ≤ 30)))))) rfl (og rfl (op_pick rfl rfl (by rw [h16]; rfl) rfl)) ?_
            refine rg_put (d := 2) (v := .d (.fl (.bool ((decide ((x.src.length : Int) ≤ 30)))))) rfl (og rfl (op_assign rfl rfl rfl)) ?_
            refine rg_done rfl ?_
            refine a_ret ?_
            show ∃ ds, ResL _ _ _ ds ∧ RV.of ds = _
            refine ⟨[.fl (.bool ((decide ((x.src.length : Int) ≤ 30))))], (.cons (.tmp rfl (.d _)) .nil), ?_⟩
            have hu := one_y (x := x) (fun q h => hq q (by omega))
            rw [show oneB x = (decide ((x.src.length : Int) ≤ 30)) from by rw [hu]; simp only [h1, h7, h10, h13, h16, Bool.true_or, Bool.false_or, Bool.or_true, Bool.or_false, Bool.not_true, Bool.not_false, cond_true, cond_false, Bool.true_and, Bool.false_and, Bool.and_true, Bool.and_false] <;> rfl]; rfl
set_option maxHeartbeats 4000000 in
set_option maxRecDepth 100000 in
theorem law3 (p : Psg) (pts : List Pnt) (hx9 : p.src.length ≤ 9223372036854775807) (hn : 0 < p.src.length → -9223372036854775808 ≤ (ix p.src 0).seq ∧ (ix p.src 0).seq ≤ 9223372036854775807) : CtrK Tryz.prog K2 3 [.ag (ePsg p), .sl 3 (List.map ePnt pts)] (.d (.fl (.bool true))) := by
  refine ctrK (n := 65) (rs := #[.tmp 4]) (L := [(0, .d (.ag (ePsg p))), (1, .d (.sl 3 (List.map ePnt pts)))]) Tryz.func3 rfl rfl rfl rfl rfl (fun w0 U0 hG => ?_)
  refine a_rseq ?_
  refine rg_nam (d := 2) (v := .pt 101 0) (m := 101) (nw := [(101, .bx 24 (ePsg p))]) rfl (og rfl (of_eff (op_box 101 rfl rfl rfl rfl) rfl)) rfl ?_
  refine rg_put (d := 4) (v := .d (.fl (.bool false))) rfl (og rfl (op_assign rfl rfl rfl)) ?_
  refine rg_done rfl ?_
  refine a_seq ?_
  refine a_rseq ?_
  refine rg_put (d := 7) (v := .d (.ag (ePsg p))) rfl (og rfl (of_eff (s_load_pts rfl Tryz.underlying24 rfl ti24 rfl rfl rfl rfl) rfl)) ?_
  refine rg_put (d := 8) (v := .d (.fl (.bool (oneB p)))) rfl (og rfl (op_call rfl Tryz.func5 nm5 rfl (.cons rfl (.d _) .nil) (oneC p hx9) rfl)) ?_
  refine rg_put (d := 9) (v := .d (.fl (.bool ((!(oneB p)))))) rfl (og rfl (op_un rfl rfl (u_not _) rfl)) ?_
  refine rg_put (d := 10) (v := .d (.fl (.bool ((!(oneB p)))))) rfl (og rfl (op_move rfl rfl rfl)) ?_
  rcases fot ((!(oneB p))) with h1 | h1
  · skip
    have h2 := f_not h1
    refine rg_put (d := 11) (v := .d (.sl 3 (List.map ePnt pts))) rfl (oy rfl rfl rfl h1 (op_move rfl rfl rfl)) ?_
    refine rg_put (d := 12) (v := .d (.fl (.int .i64 (pts.length : Int)))) rfl (oy rfl rfl rfl h1 (s_len rfl Tryz.underlying25 rfl rfl)) ?_
    refine rg_put (d := 13) (v := .d (.fl (.bool ((decide (70 < (pts.length : Int))))))) rfl (oy rfl rfl rfl h1 (op_bin rfl rfl rfl (b_gtr _ _ _ _) rfl)) ?_
    refine rg_put (d := 14) (v := .d (.fl (.bool ((decide (70 < (pts.length : Int))))))) rfl (og rfl (op_pick rfl rfl (by rw [h1]; rfl) rfl)) ?_
    refine rg_done rfl ?_
    refine a_cond rfl (fun h3 => ?_) (fun h3 => ?_)
    · skip
      have h4 := t_dec h3
      refine a_rseq ?_
      refine rg_put (d := 15) (v := .d (.fl (.bool true))) rfl (og rfl (op_callK k2st hG rfl Tryz.func6 nm6 rfl .nil (ctrK_of alive6) rfl)) ?_
      refine rg_put (d := 4) (v := .d (.fl (.bool true))) rfl (og rfl (op_assign rfl rfl rfl)) ?_
      refine rg_done rfl ?_
      refine a_ret ?_
      show ∃ ds, ResL _ _ _ ds ∧ RV.of ds = _
      refine ⟨[.fl (.bool true)], (.cons (.tmp rfl (.d _)) .nil), ?_⟩
      rfl
    · skip
      have h5 := f_dec h3
      refine a_skip ?_
      show A _ _ _ _ _ _ _
      refine a_seq ?_
      refine a_rseq ?_
      refine rg_put (d := 5) (v := .d (.fl (.int .i64 0))) rfl (og rfl (op_assign rfl rfl rfl)) ?_
      refine rg_done rfl ?_
      refine a_block ?_
      refine a_loop (ι := Nat) (fun k => SS [(0, .d (.ag (ePsg p))), (1, .d (.sl 3 (List.map ePnt pts))), (2, .pt 101 0), (14, .d (.fl (.bool ((decide (70 < (pts.length : Int))))))), (5, .d (.fl (.int .i64 (k : Int))))] [(101, .bx 24 (ePsg p))]) (fun k => k ≤ pts.length) (fun k => pts.length - k) 0 (by omega) (imp_forget rfl ⟨rfl, rfl, rfl, rfl, (by first | rfl | exact ci (by omega) | exact ci (by simp) | exact cd (by simp) | simp), trivial⟩ ⟨rfl, trivial⟩) (fun k hok => ?_)
      have hk := hok
      refine a_seq ?_
      refine a_rseq ?_
      refine rg_put (d := 16) (v := .d (.fl (.int .i64 (k : Int)))) rfl (og rfl (op_move rfl rfl rfl)) ?_
      refine rg_put (d := 17) (v := .d (.sl 3 (List.map ePnt pts))) rfl (og rfl (op_move rfl rfl rfl)) ?_
      refine rg_put (d := 18) (v := .d (.fl (.int .i64 (pts.length : Int)))) rfl (og rfl (s_len rfl Tryz.underlying25 rfl rfl)) ?_
      refine rg_put (d := 19) (v := .d (.fl (.bool ((decide ((k : Int) < (pts.length : Int))))))) rfl (og rfl (op_bin rfl rfl rfl (b_lss _ _ _ _) rfl)) ?_
      refine rg_done rfl ?_
      refine a_cond rfl (fun h6 => ?_) (fun h6 => ?_)
      · skip
        have h7 := t_dec h6
        refine a_skip ?_
        show A _ _ _ _ _ _ _
        refine a_seq ?_
        refine a_block ?_
        refine a_rseq ?_
        refine rg_put (d := 22) (v := .d (.sl 3 (List.map ePnt pts))) rfl (og rfl (op_move rfl rfl rfl)) ?_
        refine rg_put (d := 23) (v := .d (.fl (.int .i64 (k : Int)))) rfl (og rfl (op_move rfl rfl rfl)) ?_
        refine rg_put (d := 24) (v := .el ((ePnt (ix pts k)))) rfl (og rfl (s_index rfl Tryz.underlying25 ti29 rfl rfl (by omega) (row_at (by omega)) rfl)) ?_
        refine rg_put (d := 25) (v := .el ((List.drop 0 ((ePnt (ix pts k)))))) rfl (og rfl (of_eff (s_field_el rfl Tryz.underlying29 rfl ti9 rfl rfl rfl) rfl)) ?_
        refine rg_put (d := 26) (v := .d (.fl (.string ((ix pts k).name)))) rfl (og rfl (op_load_el rfl Tryz.underlying9 rfl rfl rfl rfl)) ?_
        refine rg_put (d := 27) (v := .d (.fl (.int .i64 ((((ix pts k).name).size : Int))))) rfl (og rfl (op_len_str rfl Tryz.underlying9 rfl rfl)) ?_
        refine rg_put (d := 28) (v := .d (.fl (.bool ((decide (40 < (((ix pts k).name).size : Int))))))) rfl (og rfl (op_bin rfl rfl rfl (b_gtr _ _ _ _) rfl)) ?_
        refine rg_put (d := 29) (v := .d (.fl (.bool ((decide (40 < (((ix pts k).name).size : Int))))))) rfl (og rfl (op_move rfl rfl rfl)) ?_
        rcases fot ((decide (40 < (((ix pts k).name).size : Int)))) with h8 | h8
        · skip
          have h9 := f_dec h8
          refine rg_put (d := 30) (v := .d (.sl 3 (List.map ePnt pts))) rfl (oy rfl rfl rfl h8 (op_move rfl rfl rfl)) ?_
          refine rg_put (d := 31) (v := .d (.fl (.int .i64 (k : Int)))) rfl (oy rfl rfl rfl h8 (op_move rfl rfl rfl)) ?_
          refine rg_put (d := 32) (v := .el ((ePnt (ix pts k)))) rfl (oy rfl rfl rfl h8 (s_index rfl Tryz.underlying25 ti29 rfl rfl (by omega) (row_at (by omega)) rfl)) ?_
          refine rg_put (d := 33) (v := .el ((List.drop 2 ((ePnt (ix pts k)))))) rfl (oy rfl rfl rfl h8 (of_eff (s_field_el rfl Tryz.underlying29 rfl ti9 rfl rfl rfl) rfl)) ?_
          refine rg_put (d := 34) (v := .d (.fl (.string ((ix pts k).sys)))) rfl (oy rfl rfl rfl h8 (op_load_el rfl Tryz.underlying9 rfl rfl rfl rfl)) ?_
          refine rg_put (d := 35) (v := .d (.fl (.int .i64 ((((ix pts k).sys).size : Int))))) rfl (oy rfl rfl rfl h8 (op_len_str rfl Tryz.underlying9 rfl rfl)) ?_
          refine rg_put (d := 36) (v := .d (.fl (.bool ((decide (40 < (((ix pts k).sys).size : Int))))))) rfl (oy rfl rfl rfl h8 (op_bin rfl rfl rfl (b_gtr _ _ _ _) rfl)) ?_
          refine rg_put (d := 37) (v := .d (.fl (.bool ((decide (40 < (((ix pts k).sys).size : Int))))))) rfl (og rfl (op_pick rfl rfl (by rw [h8]; rfl) rfl)) ?_
          refine rg_done rfl ?_
          refine a_cond rfl (fun h10 => ?_) (fun h10 => ?_)
          · skip
            have h11 := t_dec h10
            refine a_rseq ?_
            refine rg_put (d := 38) (v := .d (.fl (.bool true))) rfl (og rfl (op_callK k2st hG rfl Tryz.func6 nm6 rfl .nil (ctrK_of alive6) rfl)) ?_
            refine rg_put (d := 4) (v := .d (.fl (.bool true))) rfl (og rfl (op_assign rfl rfl rfl)) ?_
            refine rg_done rfl ?_
            refine a_ret ?_
            show ∃ ds, ResL _ _ _ ds ∧ RV.of ds = _
            refine ⟨[.fl (.bool true)], (.cons (.tmp rfl (.d _)) .nil), ?_⟩
            rfl
          · skip
            have h12 := f_dec h10
            refine a_skip ?_
            show A _ _ _ _ _ _ _
            refine a_region ?_
            refine rg_put (d := 20) (v := .d (.fl (.int .i64 (k : Int)))) rfl (og rfl (op_move rfl rfl rfl)) ?_
            refine rg_put (d := 21) (v := .d (.fl (.int .i64 (((k : Int) + 1))))) rfl (og rfl (op_bin rfl rfl rfl (fun x y w => b_add64 _ _ _ x y w (by omega)) rfl)) ?_
            refine rg_put (d := 5) (v := .d (.fl (.int .i64 (((k : Int) + 1))))) rfl (og rfl (op_assign rfl rfl rfl)) ?_
            refine rg_done rfl ?_
            show ∃ i, _ ∧ _ ∧ Imp _ _ _ _ _
            refine ⟨k + 1, (by omega), by omega, imp_forget rfl ⟨rfl, rfl, rfl, rfl, (by first | rfl | exact ci (by omega) | exact ci (by simp) | exact cd (by simp) | simp), trivial⟩ ⟨rfl, trivial⟩⟩
        · skip
          have h13 := t_dec h8
          refine rg_put (d := 30) (v := .d (.fl undef)) rfl (on rfl rfl rfl h8) ?_
          refine rg_put (d := 31) (v := .d (.fl undef)) rfl (on rfl rfl rfl h8) ?_
          refine rg_put (d := 32) (v := .d (.fl undef)) rfl (on rfl rfl rfl h8) ?_
          refine rg_put (d := 33) (v := .d (.fl undef)) rfl (on rfl rfl rfl h8) ?_
          refine rg_put (d := 34) (v := .d (.fl undef)) rfl (on rfl rfl rfl h8) ?_
          refine rg_put (d := 35) (v := .d (.fl undef)) rfl (on rfl rfl rfl h8) ?_
          refine rg_put (d := 36) (v := .d (.fl undef)) rfl (on rfl rfl rfl h8) ?_
          refine rg_put (d := 37) (v := .d (.fl (.bool true))) rfl (og rfl (op_pick rfl rfl (by rw [h8]; rfl) rfl)) ?_
          refine rg_done rfl ?_
          refine a_condK rfl rfl ?_
          refine a_rseq ?_
          refine rg_put (d := 38) (v := .d (.fl (.bool true))) rfl (og rfl (op_callK k2st hG rfl Tryz.func6 nm6 rfl .nil (ctrK_of alive6) rfl)) ?_
          refine rg_put (d := 4) (v := .d (.fl (.bool true))) rfl (og rfl (op_assign rfl rfl rfl)) ?_
          refine rg_done rfl ?_
          refine a_ret ?_
          show ∃ ds, ResL _ _ _ ds ∧ RV.of ds = _
          refine ⟨[.fl (.bool true)], (.cons (.tmp rfl (.d _)) .nil), ?_⟩
          rfl
      · skip
        have h14 := f_dec h6
        refine a_exit ?_
        show A _ _ _ _ _ _ _
        refine a_rseq ?_
        have hz := one_sz h2
        refine rg_put (d := 39) (v := .d (.sl 3 (List.map ePnt pts))) rfl (og rfl (op_move rfl rfl rfl)) ?_
        refine rg_put (d := 40) (v := .d (.ag [.sl 3 (List.map ePnt pts), .fl (.slice none 0 0)])) rfl (og rfl (of_eff (op_build rfl Tryz.underlying32 ti32 rfl (by kernel_rfl) (by kernel_rfl) (pl := #[(0, 1), (1, 1)]) (by kernel_rfl) (.cons rfl rfl (.d _) rfl rfl rfl .nil) rfl) rfl)) ?_
        refine rg_nam (d := 6) (v := .pt 102 0) (m := 102) (nw := [(102, .bx 32 [.fl (.slice none 0 0), .fl (.slice none 0 0)])]) rfl (og rfl (of_eff (s_alloc 102 rfl ti32 (by kernel_rfl) rfl) rfl)) rfl ?_
        refine rg_sto (nw := [(102, .bx 32 [.sl 3 (List.map ePnt pts), .fl (.slice none 0 0)])]) rfl (og rfl (of_eff (s_store rfl rfl ti32 rfl rfl rfl rfl rfl rfl) rfl)) ?_
        refine rg_done rfl ?_
        refine a_dseq (by kernel_rfl) ?_
        refine dr_put (d := 41) (v := .d (.ag (ePsg p))) rfl (og rfl (of_eff (s_load_pts rfl Tryz.underlying24 rfl ti24 rfl rfl rfl rfl) rfl)) ?_
        refine dr_put (d := 42) (v := .d (.ag [.sl 3 (List.map ePnt pts), .fl (.slice none 0 0)])) rfl (og rfl (of_eff (s_load_pts rfl Tryz.underlying32 rfl ti32 rfl rfl rfl rfl) rfl)) ?_
        refine dr_put (d := 43) (v := .d (.fl (.int .i64 ((pck p (Nwk.mk pts [])))))) rfl (og rfl (op_callK k2st hG rfl Tryz.func7 nm7 rfl (.cons rfl (.d _) (.cons rfl (.cv (Cv.ag (xs := [.sl 3 (List.map ePnt pts), .fl (.slice none 0 0)]) (ys := [.sl 3 (List.map ePnt pts), .sl 4 (List.map eLnk [])]) ⟨Cv.refl _, Cv.nil _, trivial⟩)) .nil)) ((pckC p (Nwk.mk pts []) hz hn)) rfl)) ?_
        refine dr_put (d := 44) (v := .d (.ag (ePsg p))) rfl (og rfl (of_eff (s_load_pts rfl Tryz.underlying24 rfl ti24 rfl rfl rfl rfl) rfl)) ?_
        refine dr_put (d := 45) (v := .d (.ag [.sl 3 (List.map ePnt pts), .fl (.slice none 0 0)])) rfl (og rfl (of_eff (s_load_pts rfl Tryz.underlying32 rfl ti32 rfl rfl rfl rfl) rfl)) ?_
        refine dr_put (d := 46) (v := .d (.fl (.int .i64 ((pck p (Nwk.mk pts [])))))) rfl (og rfl (op_call rfl Tryz.func8 nm8 rfl (.cons rfl (.d _) (.cons rfl (.cv (Cv.ag (xs := [.sl 3 (List.map ePnt pts), .fl (.slice none 0 0)]) (ys := [.sl 3 (List.map ePnt pts), .sl 4 (List.map eLnk [])]) ⟨Cv.refl _, Cv.nil _, trivial⟩)) .nil)) (pckR p (Nwk.mk pts []) hz hn) rfl)) ?_
        refine dr_put (d := 47) (v := .d (.fl (.bool (((pck p (Nwk.mk pts [])) == (pck p (Nwk.mk pts []))))))) rfl (og rfl (op_bin rfl rfl rfl (b_eql _ _ _ _) rfl)) ?_
        refine dr_put (d := 48) (v := .d (.fl (.bool (((pck p (Nwk.mk pts [])) == (pck p (Nwk.mk pts []))))))) rfl (og rfl (op_move rfl rfl rfl)) ?_
        refine dr_put (d := 49) (v := .d (.ag (ePsg p))) rfl (oy rfl rfl rfl (beq_self_eq_true _) (of_eff (s_load_pts rfl Tryz.underlying24 rfl ti24 rfl rfl rfl rfl) rfl)) ?_
        refine dr_put (d := 50) (v := .d (.fl (.string (idS p)))) rfl (oy rfl rfl rfl (beq_self_eq_true _) (op_callK k2st hG rfl Tryz.func9 nm9 rfl (.cons rfl (.d _) .nil) (idC p hz hn) rfl)) ?_
        refine dr_put (d := 51) (v := .d (.ag (ePsg p))) rfl (oy rfl rfl rfl (beq_self_eq_true _) (of_eff (s_load_pts rfl Tryz.underlying24 rfl ti24 rfl rfl rfl rfl) rfl)) ?_
        refine dr_put (d := 52) (v := .d (.fl (.string (idS p)))) rfl (oy rfl rfl rfl (beq_self_eq_true _) (op_call rfl Tryz.func10 nm10 rfl (.cons rfl (.d _) .nil) (idR p hz hn) rfl)) ?_
        refine dr_put (d := 53) (v := .d (.fl (.bool ((sEq (idS p) (idS p)))))) rfl (oy rfl rfl rfl (beq_self_eq_true _) (op_bin rfl rfl rfl (b_seq _ _ _) rfl)) ?_
        refine dr_put (d := 54) (v := .d (.fl (.bool ((sEq (idS p) (idS p)))))) rfl (og rfl (op_pick rfl rfl (by rw [(beq_self_eq_true _)]; rfl) rfl)) ?_
        refine dr_put (d := 55) (v := .d (.fl (.bool ((sEq (idS p) (idS p)))))) rfl (og rfl (op_move rfl rfl rfl)) ?_
        refine dr_put (d := 56) (v := .d (.ag (ePsg p))) rfl (oy rfl rfl rfl (eq_self_s _) (of_eff (s_load_pts rfl Tryz.underlying24 rfl ti24 rfl rfl rfl rfl) rfl)) ?_
        refine dr_put (d := 57) (v := .d (.fl (.string (vhS p)))) rfl (oy rfl rfl rfl (eq_self_s _) (op_call rfl Tryz.func11 nm11 rfl (.cons rfl (.d _) .nil) (vhC p) rfl)) ?_
        refine dr_put (d := 58) (v := .d (.ag (ePsg p))) rfl (oy rfl rfl rfl (eq_self_s _) (of_eff (s_load_pts rfl Tryz.underlying24 rfl ti24 rfl rfl rfl rfl) rfl)) ?_
        refine dr_put (d := 59) (v := .d (.fl (.string (vhS p)))) rfl (oy rfl rfl rfl (eq_self_s _) (op_call rfl Tryz.func12 nm12 rfl (.cons rfl (.d _) .nil) (vhR p) rfl)) ?_
        refine dr_put (d := 60) (v := .d (.fl (.bool ((sEq (vhS p) (vhS p)))))) rfl (oy rfl rfl rfl (eq_self_s _) (op_bin rfl rfl rfl (b_seq _ _ _) rfl)) ?_
        refine dr_put (d := 61) (v := .d (.fl (.bool ((sEq (vhS p) (vhS p)))))) rfl (og rfl (op_pick rfl rfl (by rw [(eq_self_s _)]; rfl) rfl)) ?_
        refine dr_put (d := 62) (v := .d (.fl (.bool ((sEq (vhS p) (vhS p)))))) rfl (og rfl (op_move rfl rfl rfl)) ?_
        refine dr_put (d := 63) (v := .d (.fl (.bool true))) rfl (oy rfl rfl rfl (eq_self_s _) (op_callK k2st hG rfl Tryz.func6 nm6 rfl .nil (ctrK_of alive6) rfl)) ?_
        refine dr_put (d := 64) (v := .d (.fl (.bool true))) rfl (og rfl (op_pick rfl rfl (by rw [(eq_self_s _)]; rfl) rfl)) ?_
        refine dr_put (d := 4) (v := .d (.fl (.bool true))) rfl (og rfl (op_assign rfl rfl rfl)) ?_
        refine dr_done rfl (sepB_of [0, 0, 3, 0, 0, 31, 63, 127, 255, 511, 255, 2047, 4095, 8191, 16383, 32767, 65535, 32767, 262143, 524287, 1048575, 2097151, 4194303, 8388607, 16777215] (by kernel_rfl)) (by kernel_rfl) ?_
        refine a_ret ?_
        show ∃ ds, ResL _ _ _ ds ∧ RV.of ds = _
        refine ⟨[.fl (.bool true)], (.cons (.tmp rfl (.d _)) .nil), ?_⟩
        rfl
  · skip
    have h15 := t_not h1
    refine rg_put (d := 11) (v := .d (.fl undef)) rfl (on rfl rfl rfl h1) ?_
    refine rg_put (d := 12) (v := .d (.fl undef)) rfl (on rfl rfl rfl h1) ?_
    refine rg_put (d := 13) (v := .d (.fl undef)) rfl (on rfl rfl rfl h1) ?_
    refine rg_put (d := 14) (v := .d (.fl (.bool true))) rfl (og rfl (op_pick rfl rfl (by rw [h1]; rfl) rfl)) ?_
    refine rg_done rfl ?_
    refine a_condK rfl rfl ?_
    refine a_rseq ?_
    refine rg_put (d := 15) (v := .d (.fl (.bool true))) rfl (og rfl (op_callK k2st hG rfl Tryz.func6 nm6 rfl .nil (ctrK_of alive6) rfl)) ?_
    refine rg_put (d := 4) (v := .d (.fl (.bool true))) rfl (og rfl (op_assign rfl rfl rfl)) ?_
    refine rg_done rfl ?_
    refine a_ret ?_
    show ∃ ds, ResL _ _ _ ds ∧ RV.of ds = _
    refine ⟨[.fl (.bool true)], (.cons (.tmp rfl (.d _)) .nil), ?_⟩
    rfl
end Go.Proofs.YtgelodnkfajgjaaGreatDoor.Wk
