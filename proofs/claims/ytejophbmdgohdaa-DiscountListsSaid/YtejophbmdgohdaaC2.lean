/- The law of trips. No condition. -/
import Derived.Test.YtejophbmdgohdaaC1
set_option linter.unusedSimpArgs false
set_option linter.unusedVariables false
namespace Go.Proofs.Ytejophbmdgohdaa.Wk
open Go Go.RowKit Go.Proofs.Ytejophbmdgohdaa.Av
theorem eq_self_bb (a : Bool) : (a == a) = true := by cases a <;> rfl
noncomputable def ap (d : Di) (x : Tp) (e : Int) : Bool := bif ((ck d != 0) || ((x.stops.length : Int) == 0)) then false else ((((sEq d.sys ⟨#[]⟩ || sEq d.sys x.sys) && ((d.cls == 0) || (d.cls == x.cls))) && ((d.win.days == 0) || inW d.win (ix x.stops 0).time)) && decide (d.least ≤ e))

set_option maxHeartbeats 4000000 in
set_option maxRecDepth 100000 in
theorem apV (d : Di) (x : Tp) (e : Int) (hl : x.stops.length ≤ 20) : Ctr Try.prog 15 [.ag (eDi d), .ag (eTp x), .fl (.int .i64 e)] (.d (.fl (.bool (ap d x e)))) := by
  refine ctr (n := 64) (rs := #[.tmp 6]) (L := [(0, .d (.ag (eDi d))), (1, .d (.ag (eTp x))), (2, .d (.fl (.int .i64 e)))]) Try.func15 rfl rfl rfl rfl rfl (fun w0 U0 => ?_)
  refine a_rseq ?_
  refine rg_nam (d := 3) (v := .pt 101 0) (m := 101) (nw := [(101, .bx 25 (eDi d))]) rfl (og rfl (of_eff (op_box 101 rfl rfl rfl rfl) rfl)) rfl ?_
  refine rg_nam (d := 4) (v := .pt 102 0) (m := 102) (nw := [(102, .bx 39 (eTp x))]) rfl (og rfl (of_eff (op_box 102 rfl rfl rfl rfl) rfl)) rfl ?_
  refine rg_put (d := 6) (v := .d (.fl (.bool false))) rfl (og rfl (op_assign rfl rfl rfl)) ?_
  refine rg_done rfl ?_
  refine a_seq ?_
  refine a_rseq ?_
  refine rg_put (d := 9) (v := .d (.ag (eDi d))) rfl (og rfl (of_eff (s_load_pts rfl Try.underlying25 rfl ti25 rfl rfl rfl rfl) rfl)) ?_
  refine rg_put (d := 10) (v := .d (.fl (.int .i64 (ck d)))) rfl (og rfl (op_call rfl Try.func8 nm8 rfl (.cons rfl (.d _) .nil) (ckV d) rfl)) ?_
  refine rg_put (d := 11) (v := .d (.fl (.bool (((ck d) != 0))))) rfl (og rfl (op_bin rfl rfl rfl (b_neq _ _ _ _) rfl)) ?_
  refine rg_put (d := 12) (v := .d (.fl (.bool (((ck d) != 0))))) rfl (og rfl (op_move rfl rfl rfl)) ?_
  rcases fot (((ck d) != 0)) with h1 | h1
  · skip
    have h2 := f_bne h1
    refine rg_put (d := 13) (v := .pt 102 4) rfl (oy rfl rfl rfl h1 (of_eff (s_field_pt rfl Try.underlying39 rfl ti37 rfl rfl rfl) rfl)) ?_
    refine rg_put (d := 14) (v := .d (.sl 3 (List.map eSp x.stops))) rfl (oy rfl rfl rfl h1 (op_load_pt rfl Try.underlying37 rfl rfl rfl rfl rfl)) ?_
    refine rg_put (d := 15) (v := .d (.fl (.int .i64 (x.stops.length : Int)))) rfl (oy rfl rfl rfl h1 (s_len rfl Try.underlying37 rfl rfl)) ?_
    refine rg_put (d := 16) (v := .d (.fl (.bool (((x.stops.length : Int) == 0))))) rfl (oy rfl rfl rfl h1 (op_bin rfl rfl rfl (b_eql _ _ _ _) rfl)) ?_
    refine rg_put (d := 17) (v := .d (.fl (.bool (((x.stops.length : Int) == 0))))) rfl (og rfl (op_pick rfl rfl (by rw [h1]; rfl) rfl)) ?_
    refine rg_put (d := 18) (v := .d (.fl (.bool (((x.stops.length : Int) == 0))))) rfl (og rfl (op_move rfl rfl rfl)) ?_
    rcases fot (((x.stops.length : Int) == 0)) with h3 | h3
    · skip
      have h4 := f_beq h3
      refine rg_put (d := 19) (v := .d (.fl (.int .i64 e))) rfl (oy rfl rfl rfl h3 (op_move rfl rfl rfl)) ?_
      refine rg_put (d := 20) (v := .pt 101 9) rfl (oy rfl rfl rfl h3 (of_eff (s_field_pt rfl Try.underlying25 rfl ti3 rfl rfl rfl) rfl)) ?_
      refine rg_put (d := 21) (v := .d (.fl (.int .i64 d.least))) rfl (oy rfl rfl rfl h3 (op_load_pt rfl Try.underlying3 rfl rfl rfl rfl rfl)) ?_
      refine rg_put (d := 22) (v := .d (.fl (.bool ((decide (e < d.least)))))) rfl (oy rfl rfl rfl h3 (op_bin rfl rfl rfl (b_lss _ _ _ _) rfl)) ?_
      refine rg_put (d := 23) (v := .d (.fl (.bool ((decide (e < d.least)))))) rfl (og rfl (op_pick rfl rfl (by rw [h3]; rfl) rfl)) ?_
      refine rg_done rfl ?_
      refine a_cond rfl (fun h5 => ?_) (fun h5 => ?_)
      · skip
        have h6 := t_dec h5
        refine a_rseq ?_
        refine rg_put (d := 6) (v := .d (.fl (.bool false))) rfl (og rfl (op_assign rfl rfl rfl)) ?_
        refine rg_done rfl ?_
        refine a_ret ?_
        show ∃ ds, ResL _ _ _ ds ∧ RV.of ds = _
        refine ⟨[.fl (.bool false)], (.cons (.tmp rfl (.d _)) .nil), ?_⟩
        have he : decide (d.least ≤ e) = false := by exact decide_eq_false (by omega)
        first
          | (have hu : ap d x e = false := by
              unfold ap; simp only [h1, h3, h5, he, Bool.true_or, Bool.false_or, Bool.or_true, Bool.or_false, Bool.not_true, Bool.not_false, cond_true, cond_false, Bool.true_and, Bool.false_and, Bool.and_true, Bool.and_false] <;> rfl
             rw [hu]; rfl)
          | (exfalso; omega)
      · skip
        have h7 := f_dec h5
        refine a_skip ?_
        show A _ _ _ _ _ _ _
        refine a_rseq ?_
        refine rg_put (d := 24) (v := .pt 101 4) rfl (og rfl (of_eff (s_field_pt rfl Try.underlying25 rfl ti9 rfl rfl rfl) rfl)) ?_
        refine rg_put (d := 25) (v := .d (.fl (.string d.sys))) rfl (og rfl (op_load_pt rfl Try.underlying9 rfl rfl rfl rfl rfl)) ?_
        refine rg_put (d := 26) (v := .d (.fl (.bool ((sEq d.sys (⟨#[]⟩)))))) rfl (og rfl (op_bin rfl rfl rfl (b_seq _ _ _) rfl)) ?_
        refine rg_put (d := 27) (v := .d (.fl (.bool ((sEq d.sys (⟨#[]⟩)))))) rfl (og rfl (op_move rfl rfl rfl)) ?_
        rcases fot ((sEq d.sys (⟨#[]⟩))) with h8 | h8
        · skip
          refine rg_put (d := 28) (v := .pt 101 4) rfl (oy rfl rfl rfl h8 (of_eff (s_field_pt rfl Try.underlying25 rfl ti9 rfl rfl rfl) rfl)) ?_
          refine rg_put (d := 29) (v := .d (.fl (.string d.sys))) rfl (oy rfl rfl rfl h8 (op_load_pt rfl Try.underlying9 rfl rfl rfl rfl rfl)) ?_
          refine rg_put (d := 30) (v := .pt 102 2) rfl (oy rfl rfl rfl h8 (of_eff (s_field_pt rfl Try.underlying39 rfl ti9 rfl rfl rfl) rfl)) ?_
          refine rg_put (d := 31) (v := .d (.fl (.string x.sys))) rfl (oy rfl rfl rfl h8 (op_load_pt rfl Try.underlying9 rfl rfl rfl rfl rfl)) ?_
          refine rg_put (d := 32) (v := .d (.fl (.bool (sEq d.sys x.sys)))) rfl (oy rfl rfl rfl h8 (op_bin rfl rfl rfl (b_seq _ _ _) rfl)) ?_
          refine rg_put (d := 33) (v := .d (.fl (.bool (sEq d.sys x.sys)))) rfl (og rfl (op_pick rfl rfl (by rw [h8]; rfl) rfl)) ?_
          refine rg_put (d := 7) (v := .d (.fl (.bool (sEq d.sys x.sys)))) rfl (og rfl (op_assign rfl rfl rfl)) ?_
          refine rg_done rfl ?_
          refine a_rseq ?_
          refine rg_put (d := 34) (v := .pt 101 5) rfl (og rfl (of_eff (s_field_pt rfl Try.underlying25 rfl ti3 rfl rfl rfl) rfl)) ?_
          refine rg_put (d := 35) (v := .d (.fl (.int .i64 d.cls))) rfl (og rfl (op_load_pt rfl Try.underlying3 rfl rfl rfl rfl rfl)) ?_
          refine rg_put (d := 36) (v := .d (.fl (.bool (d.cls == 0)))) rfl (og rfl (op_bin rfl rfl rfl (b_eql _ _ _ _) rfl)) ?_
          refine rg_put (d := 37) (v := .d (.fl (.bool (d.cls == 0)))) rfl (og rfl (op_move rfl rfl rfl)) ?_
          rcases fot (d.cls == 0) with h9 | h9
          · skip
            have h10 := f_beq h9
            refine rg_put (d := 38) (v := .pt 101 5) rfl (oy rfl rfl rfl h9 (of_eff (s_field_pt rfl Try.underlying25 rfl ti3 rfl rfl rfl) rfl)) ?_
            refine rg_put (d := 39) (v := .d (.fl (.int .i64 d.cls))) rfl (oy rfl rfl rfl h9 (op_load_pt rfl Try.underlying3 rfl rfl rfl rfl rfl)) ?_
            refine rg_put (d := 40) (v := .pt 102 3) rfl (oy rfl rfl rfl h9 (of_eff (s_field_pt rfl Try.underlying39 rfl ti3 rfl rfl rfl) rfl)) ?_
            refine rg_put (d := 41) (v := .d (.fl (.int .i64 x.cls))) rfl (oy rfl rfl rfl h9 (op_load_pt rfl Try.underlying3 rfl rfl rfl rfl rfl)) ?_
            refine rg_put (d := 42) (v := .d (.fl (.bool (d.cls == x.cls)))) rfl (oy rfl rfl rfl h9 (op_bin rfl rfl rfl (b_eql _ _ _ _) rfl)) ?_
            refine rg_put (d := 43) (v := .d (.fl (.bool (d.cls == x.cls)))) rfl (og rfl (op_pick rfl rfl (by rw [h9]; rfl) rfl)) ?_
            refine rg_put (d := 8) (v := .d (.fl (.bool (d.cls == x.cls)))) rfl (og rfl (op_assign rfl rfl rfl)) ?_
            refine rg_done rfl ?_
            refine a_dseq (by kernel_rfl) ?_
            refine dr_put (d := 44) (v := .d (.fl (.bool (sEq d.sys x.sys)))) rfl (og rfl (op_move rfl rfl rfl)) ?_
            refine dr_put (d := 45) (v := .d (.fl (.bool (sEq d.sys x.sys)))) rfl (og rfl (op_move rfl rfl rfl)) ?_
            rcases fot (sEq d.sys x.sys) with h11 | h11
            · skip
              refine dr_put (d := 46) (v := .d (.fl undef)) rfl (on rfl rfl rfl h11) ?_
              refine dr_put (d := 47) (v := .d (.fl (.bool false))) rfl (og rfl (op_pick rfl rfl (by rw [h11]; rfl) rfl)) ?_
              refine dr_put (d := 48) (v := .d (.fl (.bool false))) rfl (og rfl (op_move rfl rfl rfl)) ?_
              refine dr_put (d := 49) (v := .d (.fl undef)) rfl (on rfl rfl rfl rfl) ?_
              refine dr_put (d := 50) (v := .d (.fl undef)) rfl (on rfl rfl rfl rfl) ?_
              refine dr_put (d := 51) (v := .d (.fl undef)) rfl (on rfl rfl rfl rfl) ?_
              refine dr_put (d := 52) (v := .d (.fl undef)) rfl (on rfl rfl rfl rfl) ?_
              refine dr_put (d := 53) (v := .d (.fl undef)) rfl (on rfl rfl rfl rfl) ?_
              refine dr_put (d := 54) (v := .d (.fl undef)) rfl (ou rfl rfl rfl) ?_
              refine dr_put (d := 55) (v := .d (.fl undef)) rfl (ou rfl rfl rfl) ?_
              refine dr_put (d := 56) (v := .d (.fl undef)) rfl (ou rfl rfl rfl) ?_
              refine dr_put (d := 57) (v := .d (.fl undef)) rfl (ou rfl rfl rfl) ?_
              refine dr_put (d := 58) (v := .d (.fl undef)) rfl (ou rfl rfl rfl) ?_
              refine dr_put (d := 59) (v := .d (.fl undef)) rfl (ou rfl rfl rfl) ?_
              refine dr_put (d := 60) (v := .d (.fl undef)) rfl (ou rfl rfl rfl) ?_
              refine dr_put (d := 61) (v := .d (.fl undef)) rfl (ou rfl rfl rfl) ?_
              refine dr_put (d := 62) (v := .d (.fl undef)) rfl (on rfl rfl rfl rfl) ?_
              refine dr_put (d := 63) (v := .d (.fl (.bool false))) rfl (og rfl (op_pick rfl rfl rfl rfl)) ?_
              refine dr_put (d := 6) (v := .d (.fl (.bool false))) rfl (og rfl (op_assign rfl rfl rfl)) ?_
              refine dr_done rfl (sepB_of [0, 1, 3, 7, 15, 31, 63, 127, 255, 511, 1023, 2047, 1023, 5119, 13311, 29695, 62463, 131071, 262143, 524287, 1048575] (by kernel_rfl)) (by kernel_rfl) ?_
              refine a_ret ?_
              show ∃ ds, ResL _ _ _ ds ∧ RV.of ds = _
              refine ⟨[.fl (.bool false)], (.cons (.tmp rfl (.d _)) .nil), ?_⟩
              have he : decide (d.least ≤ e) = true := by exact decide_eq_true (by omega)
              first
                | (have hu : ap d x e = false := by
                    unfold ap; simp only [h1, h3, h5, h8, h9, h11, he, Bool.true_or, Bool.false_or, Bool.or_true, Bool.or_false, Bool.not_true, Bool.not_false, cond_true, cond_false, Bool.true_and, Bool.false_and, Bool.and_true, Bool.and_false] <;> rfl
                   rw [hu]; rfl)
                | (exfalso; omega)
            · skip
              refine dr_put (d := 46) (v := .d (.fl (.bool (d.cls == x.cls)))) rfl (oy rfl rfl rfl h11 (op_move rfl rfl rfl)) ?_
              refine dr_put (d := 47) (v := .d (.fl (.bool (d.cls == x.cls)))) rfl (og rfl (op_pick rfl rfl (by rw [h11]; rfl) rfl)) ?_
              refine dr_put (d := 48) (v := .d (.fl (.bool (d.cls == x.cls)))) rfl (og rfl (op_move rfl rfl rfl)) ?_
              rcases fot (d.cls == x.cls) with h12 | h12
              · skip
                have h13 := f_beq h12
                refine dr_put (d := 49) (v := .d (.fl undef)) rfl (on rfl rfl rfl h12) ?_
                refine dr_put (d := 50) (v := .d (.fl undef)) rfl (on rfl rfl rfl h12) ?_
                refine dr_put (d := 51) (v := .d (.fl undef)) rfl (on rfl rfl rfl h12) ?_
                refine dr_put (d := 52) (v := .d (.fl undef)) rfl (on rfl rfl rfl h12) ?_
                refine dr_put (d := 53) (v := .d (.fl undef)) rfl (on rfl rfl rfl h12) ?_
                refine dr_put (d := 54) (v := .d (.fl undef)) rfl (ou rfl rfl rfl) ?_
                refine dr_put (d := 55) (v := .d (.fl undef)) rfl (ou rfl rfl rfl) ?_
                refine dr_put (d := 56) (v := .d (.fl undef)) rfl (ou rfl rfl rfl) ?_
                refine dr_put (d := 57) (v := .d (.fl undef)) rfl (ou rfl rfl rfl) ?_
                refine dr_put (d := 58) (v := .d (.fl undef)) rfl (ou rfl rfl rfl) ?_
                refine dr_put (d := 59) (v := .d (.fl undef)) rfl (ou rfl rfl rfl) ?_
                refine dr_put (d := 60) (v := .d (.fl undef)) rfl (ou rfl rfl rfl) ?_
                refine dr_put (d := 61) (v := .d (.fl undef)) rfl (ou rfl rfl rfl) ?_
                refine dr_put (d := 62) (v := .d (.fl undef)) rfl (on rfl rfl rfl h12) ?_
                refine dr_put (d := 63) (v := .d (.fl (.bool false))) rfl (og rfl (op_pick rfl rfl (by rw [h12]; rfl) rfl)) ?_
                refine dr_put (d := 6) (v := .d (.fl (.bool false))) rfl (og rfl (op_assign rfl rfl rfl)) ?_
                refine dr_done rfl (sepB_of [0, 1, 3, 7, 15, 31, 63, 127, 255, 511, 1023, 2047, 1023, 5119, 13311, 29695, 62463, 131071, 262143, 524287, 1048575] (by kernel_rfl)) (by kernel_rfl) ?_
                refine a_ret ?_
                show ∃ ds, ResL _ _ _ ds ∧ RV.of ds = _
                refine ⟨[.fl (.bool false)], (.cons (.tmp rfl (.d _)) .nil), ?_⟩
                have he : decide (d.least ≤ e) = true := by exact decide_eq_true (by omega)
                first
                  | (have hu : ap d x e = false := by
                      unfold ap; simp only [h1, h3, h5, h8, h9, h11, h12, he, Bool.true_or, Bool.false_or, Bool.or_true, Bool.or_false, Bool.not_true, Bool.not_false, cond_true, cond_false, Bool.true_and, Bool.false_and, Bool.and_true, Bool.and_false] <;> rfl
                     rw [hu]; rfl)
                  | (exfalso; omega)
              · skip
                have h14 := t_beq h12
                refine dr_put (d := 49) (v := .pt 101 6) rfl (oy rfl rfl rfl h12 (of_eff (s_field_pt rfl Try.underlying25 rfl ti23 rfl rfl rfl) rfl)) ?_
                refine dr_put (d := 50) (v := .pt 101 6) rfl (oy rfl rfl rfl h12 (of_eff (s_field_pt rfl Try.underlying23 rfl ti3 rfl rfl rfl) rfl)) ?_
                refine dr_put (d := 51) (v := .d (.fl (.int .i64 d.win.days))) rfl (oy rfl rfl rfl h12 (op_load_pt rfl Try.underlying3 rfl rfl rfl rfl rfl)) ?_
                refine dr_put (d := 52) (v := .d (.fl (.bool (d.win.days == 0)))) rfl (oy rfl rfl rfl h12 (op_bin rfl rfl rfl (b_eql _ _ _ _) rfl)) ?_
                refine dr_put (d := 53) (v := .d (.fl (.bool (d.win.days == 0)))) rfl (oy rfl rfl rfl h12 (op_move rfl rfl rfl)) ?_
                rcases fot (d.win.days == 0) with h15 | h15
                · skip
                  have h16 := f_beq h15
                  refine dr_put (d := 54) (v := .pt 101 6) rfl (oy rfl rfl rfl h15 (of_eff (s_field_pt rfl Try.underlying25 rfl ti23 rfl rfl rfl) rfl)) ?_
                  refine dr_put (d := 55) (v := .d (.ag (eWd d.win))) rfl (oy rfl rfl rfl h15 (of_eff (s_load_pts rfl Try.underlying23 rfl ti23 rfl rfl rfl rfl) rfl)) ?_
                  refine dr_put (d := 56) (v := .pt 102 4) rfl (oy rfl rfl rfl h15 (of_eff (s_field_pt rfl Try.underlying39 rfl ti37 rfl rfl rfl) rfl)) ?_
                  refine dr_put (d := 57) (v := .d (.sl 3 (List.map eSp x.stops))) rfl (oy rfl rfl rfl h15 (op_load_pt rfl Try.underlying37 rfl rfl rfl rfl rfl)) ?_
                  refine dr_put (d := 58) (v := .el ((eSp (ix x.stops 0)))) rfl (oy rfl rfl rfl h15 (s_index rfl Try.underlying37 ti47 rfl rfl (by omega) (row_at (by omega)) rfl)) ?_
                  refine dr_put (d := 59) (v := .el ((List.drop 1 ((eSp (ix x.stops 0)))))) rfl (oy rfl rfl rfl h15 (of_eff (s_field_el rfl Try.underlying47 rfl ti3 rfl rfl rfl) rfl)) ?_
                  refine dr_put (d := 60) (v := .d (.fl (.int .i64 ((ix x.stops 0).time)))) rfl (oy rfl rfl rfl h15 (op_load_el rfl Try.underlying3 rfl rfl rfl rfl)) ?_
                  refine dr_put (d := 61) (v := .d (.fl (.bool ((inW d.win ((ix x.stops 0).time)))))) rfl (oy rfl rfl rfl h15 (op_call rfl Try.func30 nm30 rfl (.cons rfl (.d _) (.cons rfl (.d _) .nil)) (inW19 d.win ((ix x.stops 0).time)) rfl)) ?_
                  refine dr_put (d := 62) (v := .d (.fl (.bool ((inW d.win ((ix x.stops 0).time)))))) rfl (oy rfl rfl rfl h12 (op_pick rfl rfl (by rw [h15]; rfl) rfl)) ?_
                  refine dr_put (d := 63) (v := .d (.fl (.bool ((inW d.win ((ix x.stops 0).time)))))) rfl (og rfl (op_pick rfl rfl (by rw [h12]; rfl) rfl)) ?_
                  refine dr_put (d := 6) (v := .d (.fl (.bool ((inW d.win ((ix x.stops 0).time)))))) rfl (og rfl (op_assign rfl rfl rfl)) ?_
                  refine dr_done rfl (sepB_of [0, 1, 3, 7, 15, 31, 63, 127, 255, 511, 1023, 2047, 1023, 5119, 13311, 29695, 62463, 131071, 262143, 524287, 1048575] (by kernel_rfl)) (by kernel_rfl) ?_
                  refine a_ret ?_
                  show ∃ ds, ResL _ _ _ ds ∧ RV.of ds = _
                  refine ⟨[.fl (.bool ((inW d.win ((ix x.stops 0).time))))], (.cons (.tmp rfl (.d _)) .nil), ?_⟩
                  have he : decide (d.least ≤ e) = true := by exact decide_eq_true (by omega)
                  first
                    | (have hu : ap d x e = (inW d.win ((ix x.stops 0).time)) := by
                        unfold ap; simp only [h1, h3, h5, h8, h9, h11, h12, h15, he, Bool.true_or, Bool.false_or, Bool.or_true, Bool.or_false, Bool.not_true, Bool.not_false, cond_true, cond_false, Bool.true_and, Bool.false_and, Bool.and_true, Bool.and_false] <;> rfl
                       rw [hu]; rfl)
                    | (exfalso; omega)
                · skip
                  have h17 := t_beq h15
                  refine dr_put (d := 54) (v := .d (.fl undef)) rfl (on rfl rfl rfl h15) ?_
                  refine dr_put (d := 55) (v := .d (.fl undef)) rfl (on rfl rfl rfl h15) ?_
                  refine dr_put (d := 56) (v := .d (.fl undef)) rfl (on rfl rfl rfl h15) ?_
                  refine dr_put (d := 57) (v := .d (.fl undef)) rfl (on rfl rfl rfl h15) ?_
                  refine dr_put (d := 58) (v := .d (.fl undef)) rfl (on rfl rfl rfl h15) ?_
                  refine dr_put (d := 59) (v := .d (.fl undef)) rfl (on rfl rfl rfl h15) ?_
                  refine dr_put (d := 60) (v := .d (.fl undef)) rfl (on rfl rfl rfl h15) ?_
                  refine dr_put (d := 61) (v := .d (.fl undef)) rfl (on rfl rfl rfl h15) ?_
                  refine dr_put (d := 62) (v := .d (.fl (.bool true))) rfl (oy rfl rfl rfl h12 (op_pick rfl rfl (by rw [h15]; rfl) rfl)) ?_
                  refine dr_put (d := 63) (v := .d (.fl (.bool true))) rfl (og rfl (op_pick rfl rfl (by rw [h12]; rfl) rfl)) ?_
                  refine dr_put (d := 6) (v := .d (.fl (.bool true))) rfl (og rfl (op_assign rfl rfl rfl)) ?_
                  refine dr_done rfl (sepB_of [0, 1, 3, 7, 15, 31, 63, 127, 255, 511, 1023, 2047, 1023, 5119, 13311, 29695, 62463, 131071, 262143, 524287, 1048575] (by kernel_rfl)) (by kernel_rfl) ?_
                  refine a_ret ?_
                  show ∃ ds, ResL _ _ _ ds ∧ RV.of ds = _
                  refine ⟨[.fl (.bool true)], (.cons (.tmp rfl (.d _)) .nil), ?_⟩
                  have he : decide (d.least ≤ e) = true := by exact decide_eq_true (by omega)
                  first
                    | (have hu : ap d x e = true := by
                        unfold ap; simp only [h1, h3, h5, h8, h9, h11, h12, h15, he, Bool.true_or, Bool.false_or, Bool.or_true, Bool.or_false, Bool.not_true, Bool.not_false, cond_true, cond_false, Bool.true_and, Bool.false_and, Bool.and_true, Bool.and_false] <;> rfl
                       rw [hu]; rfl)
                    | (exfalso; omega)
          · skip
            have h18 := t_beq h9
            refine rg_put (d := 38) (v := .d (.fl undef)) rfl (on rfl rfl rfl h9) ?_
            refine rg_put (d := 39) (v := .d (.fl undef)) rfl (on rfl rfl rfl h9) ?_
            refine rg_put (d := 40) (v := .d (.fl undef)) rfl (on rfl rfl rfl h9) ?_
            refine rg_put (d := 41) (v := .d (.fl undef)) rfl (on rfl rfl rfl h9) ?_
            refine rg_put (d := 42) (v := .d (.fl undef)) rfl (on rfl rfl rfl h9) ?_
            refine rg_put (d := 43) (v := .d (.fl (.bool true))) rfl (og rfl (op_pick rfl rfl (by rw [h9]; rfl) rfl)) ?_
            refine rg_put (d := 8) (v := .d (.fl (.bool true))) rfl (og rfl (op_assign rfl rfl rfl)) ?_
            refine rg_done rfl ?_
            refine a_dseq (by kernel_rfl) ?_
            refine dr_put (d := 44) (v := .d (.fl (.bool (sEq d.sys x.sys)))) rfl (og rfl (op_move rfl rfl rfl)) ?_
            refine dr_put (d := 45) (v := .d (.fl (.bool (sEq d.sys x.sys)))) rfl (og rfl (op_move rfl rfl rfl)) ?_
            rcases fot (sEq d.sys x.sys) with h19 | h19
            · skip
              refine dr_put (d := 46) (v := .d (.fl undef)) rfl (on rfl rfl rfl h19) ?_
              refine dr_put (d := 47) (v := .d (.fl (.bool false))) rfl (og rfl (op_pick rfl rfl (by rw [h19]; rfl) rfl)) ?_
              refine dr_put (d := 48) (v := .d (.fl (.bool false))) rfl (og rfl (op_move rfl rfl rfl)) ?_
              refine dr_put (d := 49) (v := .d (.fl undef)) rfl (on rfl rfl rfl rfl) ?_
              refine dr_put (d := 50) (v := .d (.fl undef)) rfl (on rfl rfl rfl rfl) ?_
              refine dr_put (d := 51) (v := .d (.fl undef)) rfl (on rfl rfl rfl rfl) ?_
              refine dr_put (d := 52) (v := .d (.fl undef)) rfl (on rfl rfl rfl rfl) ?_
              refine dr_put (d := 53) (v := .d (.fl undef)) rfl (on rfl rfl rfl rfl) ?_
              refine dr_put (d := 54) (v := .d (.fl undef)) rfl (ou rfl rfl rfl) ?_
              refine dr_put (d := 55) (v := .d (.fl undef)) rfl (ou rfl rfl rfl) ?_
              refine dr_put (d := 56) (v := .d (.fl undef)) rfl (ou rfl rfl rfl) ?_
              refine dr_put (d := 57) (v := .d (.fl undef)) rfl (ou rfl rfl rfl) ?_
              refine dr_put (d := 58) (v := .d (.fl undef)) rfl (ou rfl rfl rfl) ?_
              refine dr_put (d := 59) (v := .d (.fl undef)) rfl (ou rfl rfl rfl) ?_
              refine dr_put (d := 60) (v := .d (.fl undef)) rfl (ou rfl rfl rfl) ?_
              refine dr_put (d := 61) (v := .d (.fl undef)) rfl (ou rfl rfl rfl) ?_
              refine dr_put (d := 62) (v := .d (.fl undef)) rfl (on rfl rfl rfl rfl) ?_
              refine dr_put (d := 63) (v := .d (.fl (.bool false))) rfl (og rfl (op_pick rfl rfl rfl rfl)) ?_
              refine dr_put (d := 6) (v := .d (.fl (.bool false))) rfl (og rfl (op_assign rfl rfl rfl)) ?_
              refine dr_done rfl (sepB_of [0, 1, 3, 7, 15, 31, 63, 127, 255, 511, 1023, 2047, 1023, 5119, 13311, 29695, 62463, 131071, 262143, 524287, 1048575] (by kernel_rfl)) (by kernel_rfl) ?_
              refine a_ret ?_
              show ∃ ds, ResL _ _ _ ds ∧ RV.of ds = _
              refine ⟨[.fl (.bool false)], (.cons (.tmp rfl (.d _)) .nil), ?_⟩
              have he : decide (d.least ≤ e) = true := by exact decide_eq_true (by omega)
              first
                | (have hu : ap d x e = false := by
                    unfold ap; simp only [h1, h3, h5, h8, h9, h19, he, Bool.true_or, Bool.false_or, Bool.or_true, Bool.or_false, Bool.not_true, Bool.not_false, cond_true, cond_false, Bool.true_and, Bool.false_and, Bool.and_true, Bool.and_false] <;> rfl
                   rw [hu]; rfl)
                | (exfalso; omega)
            · skip
              refine dr_put (d := 46) (v := .d (.fl (.bool true))) rfl (oy rfl rfl rfl h19 (op_move rfl rfl rfl)) ?_
              refine dr_put (d := 47) (v := .d (.fl (.bool true))) rfl (og rfl (op_pick rfl rfl (by rw [h19]; rfl) rfl)) ?_
              refine dr_put (d := 48) (v := .d (.fl (.bool true))) rfl (og rfl (op_move rfl rfl rfl)) ?_
              refine dr_put (d := 49) (v := .pt 101 6) rfl (oy rfl rfl rfl rfl (of_eff (s_field_pt rfl Try.underlying25 rfl ti23 rfl rfl rfl) rfl)) ?_
              refine dr_put (d := 50) (v := .pt 101 6) rfl (oy rfl rfl rfl rfl (of_eff (s_field_pt rfl Try.underlying23 rfl ti3 rfl rfl rfl) rfl)) ?_
              refine dr_put (d := 51) (v := .d (.fl (.int .i64 d.win.days))) rfl (oy rfl rfl rfl rfl (op_load_pt rfl Try.underlying3 rfl rfl rfl rfl rfl)) ?_
              refine dr_put (d := 52) (v := .d (.fl (.bool (d.win.days == 0)))) rfl (oy rfl rfl rfl rfl (op_bin rfl rfl rfl (b_eql _ _ _ _) rfl)) ?_
              refine dr_put (d := 53) (v := .d (.fl (.bool (d.win.days == 0)))) rfl (oy rfl rfl rfl rfl (op_move rfl rfl rfl)) ?_
              rcases fot (d.win.days == 0) with h20 | h20
              · skip
                have h21 := f_beq h20
                refine dr_put (d := 54) (v := .pt 101 6) rfl (oy rfl rfl rfl h20 (of_eff (s_field_pt rfl Try.underlying25 rfl ti23 rfl rfl rfl) rfl)) ?_
                refine dr_put (d := 55) (v := .d (.ag (eWd d.win))) rfl (oy rfl rfl rfl h20 (of_eff (s_load_pts rfl Try.underlying23 rfl ti23 rfl rfl rfl rfl) rfl)) ?_
                refine dr_put (d := 56) (v := .pt 102 4) rfl (oy rfl rfl rfl h20 (of_eff (s_field_pt rfl Try.underlying39 rfl ti37 rfl rfl rfl) rfl)) ?_
                refine dr_put (d := 57) (v := .d (.sl 3 (List.map eSp x.stops))) rfl (oy rfl rfl rfl h20 (op_load_pt rfl Try.underlying37 rfl rfl rfl rfl rfl)) ?_
                refine dr_put (d := 58) (v := .el ((eSp (ix x.stops 0)))) rfl (oy rfl rfl rfl h20 (s_index rfl Try.underlying37 ti47 rfl rfl (by omega) (row_at (by omega)) rfl)) ?_
                refine dr_put (d := 59) (v := .el ((List.drop 1 ((eSp (ix x.stops 0)))))) rfl (oy rfl rfl rfl h20 (of_eff (s_field_el rfl Try.underlying47 rfl ti3 rfl rfl rfl) rfl)) ?_
                refine dr_put (d := 60) (v := .d (.fl (.int .i64 ((ix x.stops 0).time)))) rfl (oy rfl rfl rfl h20 (op_load_el rfl Try.underlying3 rfl rfl rfl rfl)) ?_
                refine dr_put (d := 61) (v := .d (.fl (.bool ((inW d.win ((ix x.stops 0).time)))))) rfl (oy rfl rfl rfl h20 (op_call rfl Try.func30 nm30 rfl (.cons rfl (.d _) (.cons rfl (.d _) .nil)) (inW19 d.win ((ix x.stops 0).time)) rfl)) ?_
                refine dr_put (d := 62) (v := .d (.fl (.bool ((inW d.win ((ix x.stops 0).time)))))) rfl (oy rfl rfl rfl rfl (op_pick rfl rfl (by rw [h20]; rfl) rfl)) ?_
                refine dr_put (d := 63) (v := .d (.fl (.bool ((inW d.win ((ix x.stops 0).time)))))) rfl (og rfl (op_pick rfl rfl rfl rfl)) ?_
                refine dr_put (d := 6) (v := .d (.fl (.bool ((inW d.win ((ix x.stops 0).time)))))) rfl (og rfl (op_assign rfl rfl rfl)) ?_
                refine dr_done rfl (sepB_of [0, 1, 3, 7, 15, 31, 63, 127, 255, 511, 1023, 2047, 1023, 5119, 13311, 29695, 62463, 131071, 262143, 524287, 1048575] (by kernel_rfl)) (by kernel_rfl) ?_
                refine a_ret ?_
                show ∃ ds, ResL _ _ _ ds ∧ RV.of ds = _
                refine ⟨[.fl (.bool ((inW d.win ((ix x.stops 0).time))))], (.cons (.tmp rfl (.d _)) .nil), ?_⟩
                have he : decide (d.least ≤ e) = true := by exact decide_eq_true (by omega)
                first
                  | (have hu : ap d x e = (inW d.win ((ix x.stops 0).time)) := by
                      unfold ap; simp only [h1, h3, h5, h8, h9, h19, h20, he, Bool.true_or, Bool.false_or, Bool.or_true, Bool.or_false, Bool.not_true, Bool.not_false, cond_true, cond_false, Bool.true_and, Bool.false_and, Bool.and_true, Bool.and_false] <;> rfl
                     rw [hu]; rfl)
                  | (exfalso; omega)
              · skip
                have h22 := t_beq h20
                refine dr_put (d := 54) (v := .d (.fl undef)) rfl (on rfl rfl rfl h20) ?_
                refine dr_put (d := 55) (v := .d (.fl undef)) rfl (on rfl rfl rfl h20) ?_
                refine dr_put (d := 56) (v := .d (.fl undef)) rfl (on rfl rfl rfl h20) ?_
                refine dr_put (d := 57) (v := .d (.fl undef)) rfl (on rfl rfl rfl h20) ?_
                refine dr_put (d := 58) (v := .d (.fl undef)) rfl (on rfl rfl rfl h20) ?_
                refine dr_put (d := 59) (v := .d (.fl undef)) rfl (on rfl rfl rfl h20) ?_
                refine dr_put (d := 60) (v := .d (.fl undef)) rfl (on rfl rfl rfl h20) ?_
                refine dr_put (d := 61) (v := .d (.fl undef)) rfl (on rfl rfl rfl h20) ?_
                refine dr_put (d := 62) (v := .d (.fl (.bool true))) rfl (oy rfl rfl rfl rfl (op_pick rfl rfl (by rw [h20]; rfl) rfl)) ?_
                refine dr_put (d := 63) (v := .d (.fl (.bool true))) rfl (og rfl (op_pick rfl rfl rfl rfl)) ?_
                refine dr_put (d := 6) (v := .d (.fl (.bool true))) rfl (og rfl (op_assign rfl rfl rfl)) ?_
                refine dr_done rfl (sepB_of [0, 1, 3, 7, 15, 31, 63, 127, 255, 511, 1023, 2047, 1023, 5119, 13311, 29695, 62463, 131071, 262143, 524287, 1048575] (by kernel_rfl)) (by kernel_rfl) ?_
                refine a_ret ?_
                show ∃ ds, ResL _ _ _ ds ∧ RV.of ds = _
                refine ⟨[.fl (.bool true)], (.cons (.tmp rfl (.d _)) .nil), ?_⟩
                have he : decide (d.least ≤ e) = true := by exact decide_eq_true (by omega)
                first
                  | (have hu : ap d x e = true := by
                      unfold ap; simp only [h1, h3, h5, h8, h9, h19, h20, he, Bool.true_or, Bool.false_or, Bool.or_true, Bool.or_false, Bool.not_true, Bool.not_false, cond_true, cond_false, Bool.true_and, Bool.false_and, Bool.and_true, Bool.and_false] <;> rfl
                     rw [hu]; rfl)
                  | (exfalso; omega)
        · skip
          refine rg_put (d := 28) (v := .d (.fl undef)) rfl (on rfl rfl rfl h8) ?_
          refine rg_put (d := 29) (v := .d (.fl undef)) rfl (on rfl rfl rfl h8) ?_
          refine rg_put (d := 30) (v := .d (.fl undef)) rfl (on rfl rfl rfl h8) ?_
          refine rg_put (d := 31) (v := .d (.fl undef)) rfl (on rfl rfl rfl h8) ?_
          refine rg_put (d := 32) (v := .d (.fl undef)) rfl (on rfl rfl rfl h8) ?_
          refine rg_put (d := 33) (v := .d (.fl (.bool true))) rfl (og rfl (op_pick rfl rfl (by rw [h8]; rfl) rfl)) ?_
          refine rg_put (d := 7) (v := .d (.fl (.bool true))) rfl (og rfl (op_assign rfl rfl rfl)) ?_
          refine rg_done rfl ?_
          refine a_rseq ?_
          refine rg_put (d := 34) (v := .pt 101 5) rfl (og rfl (of_eff (s_field_pt rfl Try.underlying25 rfl ti3 rfl rfl rfl) rfl)) ?_
          refine rg_put (d := 35) (v := .d (.fl (.int .i64 d.cls))) rfl (og rfl (op_load_pt rfl Try.underlying3 rfl rfl rfl rfl rfl)) ?_
          refine rg_put (d := 36) (v := .d (.fl (.bool (d.cls == 0)))) rfl (og rfl (op_bin rfl rfl rfl (b_eql _ _ _ _) rfl)) ?_
          refine rg_put (d := 37) (v := .d (.fl (.bool (d.cls == 0)))) rfl (og rfl (op_move rfl rfl rfl)) ?_
          rcases fot (d.cls == 0) with h23 | h23
          · skip
            have h24 := f_beq h23
            refine rg_put (d := 38) (v := .pt 101 5) rfl (oy rfl rfl rfl h23 (of_eff (s_field_pt rfl Try.underlying25 rfl ti3 rfl rfl rfl) rfl)) ?_
            refine rg_put (d := 39) (v := .d (.fl (.int .i64 d.cls))) rfl (oy rfl rfl rfl h23 (op_load_pt rfl Try.underlying3 rfl rfl rfl rfl rfl)) ?_
            refine rg_put (d := 40) (v := .pt 102 3) rfl (oy rfl rfl rfl h23 (of_eff (s_field_pt rfl Try.underlying39 rfl ti3 rfl rfl rfl) rfl)) ?_
            refine rg_put (d := 41) (v := .d (.fl (.int .i64 x.cls))) rfl (oy rfl rfl rfl h23 (op_load_pt rfl Try.underlying3 rfl rfl rfl rfl rfl)) ?_
            refine rg_put (d := 42) (v := .d (.fl (.bool (d.cls == x.cls)))) rfl (oy rfl rfl rfl h23 (op_bin rfl rfl rfl (b_eql _ _ _ _) rfl)) ?_
            refine rg_put (d := 43) (v := .d (.fl (.bool (d.cls == x.cls)))) rfl (og rfl (op_pick rfl rfl (by rw [h23]; rfl) rfl)) ?_
            refine rg_put (d := 8) (v := .d (.fl (.bool (d.cls == x.cls)))) rfl (og rfl (op_assign rfl rfl rfl)) ?_
            refine rg_done rfl ?_
            refine a_dseq (by kernel_rfl) ?_
            refine dr_put (d := 44) (v := .d (.fl (.bool true))) rfl (og rfl (op_move rfl rfl rfl)) ?_
            refine dr_put (d := 45) (v := .d (.fl (.bool true))) rfl (og rfl (op_move rfl rfl rfl)) ?_
            refine dr_put (d := 46) (v := .d (.fl (.bool (d.cls == x.cls)))) rfl (oy rfl rfl rfl rfl (op_move rfl rfl rfl)) ?_
            refine dr_put (d := 47) (v := .d (.fl (.bool (d.cls == x.cls)))) rfl (og rfl (op_pick rfl rfl rfl rfl)) ?_
            refine dr_put (d := 48) (v := .d (.fl (.bool (d.cls == x.cls)))) rfl (og rfl (op_move rfl rfl rfl)) ?_
            rcases fot (d.cls == x.cls) with h25 | h25
            · skip
              have h26 := f_beq h25
              refine dr_put (d := 49) (v := .d (.fl undef)) rfl (on rfl rfl rfl h25) ?_
              refine dr_put (d := 50) (v := .d (.fl undef)) rfl (on rfl rfl rfl h25) ?_
              refine dr_put (d := 51) (v := .d (.fl undef)) rfl (on rfl rfl rfl h25) ?_
              refine dr_put (d := 52) (v := .d (.fl undef)) rfl (on rfl rfl rfl h25) ?_
              refine dr_put (d := 53) (v := .d (.fl undef)) rfl (on rfl rfl rfl h25) ?_
              refine dr_put (d := 54) (v := .d (.fl undef)) rfl (ou rfl rfl rfl) ?_
              refine dr_put (d := 55) (v := .d (.fl undef)) rfl (ou rfl rfl rfl) ?_
              refine dr_put (d := 56) (v := .d (.fl undef)) rfl (ou rfl rfl rfl) ?_
              refine dr_put (d := 57) (v := .d (.fl undef)) rfl (ou rfl rfl rfl) ?_
              refine dr_put (d := 58) (v := .d (.fl undef)) rfl (ou rfl rfl rfl) ?_
              refine dr_put (d := 59) (v := .d (.fl undef)) rfl (ou rfl rfl rfl) ?_
              refine dr_put (d := 60) (v := .d (.fl undef)) rfl (ou rfl rfl rfl) ?_
              refine dr_put (d := 61) (v := .d (.fl undef)) rfl (ou rfl rfl rfl) ?_
              refine dr_put (d := 62) (v := .d (.fl undef)) rfl (on rfl rfl rfl h25) ?_
              refine dr_put (d := 63) (v := .d (.fl (.bool false))) rfl (og rfl (op_pick rfl rfl (by rw [h25]; rfl) rfl)) ?_
              refine dr_put (d := 6) (v := .d (.fl (.bool false))) rfl (og rfl (op_assign rfl rfl rfl)) ?_
              refine dr_done rfl (sepB_of [0, 1, 3, 7, 15, 31, 63, 127, 255, 511, 1023, 2047, 1023, 5119, 13311, 29695, 62463, 131071, 262143, 524287, 1048575] (by kernel_rfl)) (by kernel_rfl) ?_
              refine a_ret ?_
              show ∃ ds, ResL _ _ _ ds ∧ RV.of ds = _
              refine ⟨[.fl (.bool false)], (.cons (.tmp rfl (.d _)) .nil), ?_⟩
              have he : decide (d.least ≤ e) = true := by exact decide_eq_true (by omega)
              first
                | (have hu : ap d x e = false := by
                    unfold ap; simp only [h1, h3, h5, h8, h23, h25, he, Bool.true_or, Bool.false_or, Bool.or_true, Bool.or_false, Bool.not_true, Bool.not_false, cond_true, cond_false, Bool.true_and, Bool.false_and, Bool.and_true, Bool.and_false] <;> rfl
                   rw [hu]; rfl)
                | (exfalso; omega)
            · skip
              have h27 := t_beq h25
              refine dr_put (d := 49) (v := .pt 101 6) rfl (oy rfl rfl rfl h25 (of_eff (s_field_pt rfl Try.underlying25 rfl ti23 rfl rfl rfl) rfl)) ?_
              refine dr_put (d := 50) (v := .pt 101 6) rfl (oy rfl rfl rfl h25 (of_eff (s_field_pt rfl Try.underlying23 rfl ti3 rfl rfl rfl) rfl)) ?_
              refine dr_put (d := 51) (v := .d (.fl (.int .i64 d.win.days))) rfl (oy rfl rfl rfl h25 (op_load_pt rfl Try.underlying3 rfl rfl rfl rfl rfl)) ?_
              refine dr_put (d := 52) (v := .d (.fl (.bool (d.win.days == 0)))) rfl (oy rfl rfl rfl h25 (op_bin rfl rfl rfl (b_eql _ _ _ _) rfl)) ?_
              refine dr_put (d := 53) (v := .d (.fl (.bool (d.win.days == 0)))) rfl (oy rfl rfl rfl h25 (op_move rfl rfl rfl)) ?_
              rcases fot (d.win.days == 0) with h28 | h28
              · skip
                have h29 := f_beq h28
                refine dr_put (d := 54) (v := .pt 101 6) rfl (oy rfl rfl rfl h28 (of_eff (s_field_pt rfl Try.underlying25 rfl ti23 rfl rfl rfl) rfl)) ?_
                refine dr_put (d := 55) (v := .d (.ag (eWd d.win))) rfl (oy rfl rfl rfl h28 (of_eff (s_load_pts rfl Try.underlying23 rfl ti23 rfl rfl rfl rfl) rfl)) ?_
                refine dr_put (d := 56) (v := .pt 102 4) rfl (oy rfl rfl rfl h28 (of_eff (s_field_pt rfl Try.underlying39 rfl ti37 rfl rfl rfl) rfl)) ?_
                refine dr_put (d := 57) (v := .d (.sl 3 (List.map eSp x.stops))) rfl (oy rfl rfl rfl h28 (op_load_pt rfl Try.underlying37 rfl rfl rfl rfl rfl)) ?_
                refine dr_put (d := 58) (v := .el ((eSp (ix x.stops 0)))) rfl (oy rfl rfl rfl h28 (s_index rfl Try.underlying37 ti47 rfl rfl (by omega) (row_at (by omega)) rfl)) ?_
                refine dr_put (d := 59) (v := .el ((List.drop 1 ((eSp (ix x.stops 0)))))) rfl (oy rfl rfl rfl h28 (of_eff (s_field_el rfl Try.underlying47 rfl ti3 rfl rfl rfl) rfl)) ?_
                refine dr_put (d := 60) (v := .d (.fl (.int .i64 ((ix x.stops 0).time)))) rfl (oy rfl rfl rfl h28 (op_load_el rfl Try.underlying3 rfl rfl rfl rfl)) ?_
                refine dr_put (d := 61) (v := .d (.fl (.bool ((inW d.win ((ix x.stops 0).time)))))) rfl (oy rfl rfl rfl h28 (op_call rfl Try.func30 nm30 rfl (.cons rfl (.d _) (.cons rfl (.d _) .nil)) (inW19 d.win ((ix x.stops 0).time)) rfl)) ?_
                refine dr_put (d := 62) (v := .d (.fl (.bool ((inW d.win ((ix x.stops 0).time)))))) rfl (oy rfl rfl rfl h25 (op_pick rfl rfl (by rw [h28]; rfl) rfl)) ?_
                refine dr_put (d := 63) (v := .d (.fl (.bool ((inW d.win ((ix x.stops 0).time)))))) rfl (og rfl (op_pick rfl rfl (by rw [h25]; rfl) rfl)) ?_
                refine dr_put (d := 6) (v := .d (.fl (.bool ((inW d.win ((ix x.stops 0).time)))))) rfl (og rfl (op_assign rfl rfl rfl)) ?_
                refine dr_done rfl (sepB_of [0, 1, 3, 7, 15, 31, 63, 127, 255, 511, 1023, 2047, 1023, 5119, 13311, 29695, 62463, 131071, 262143, 524287, 1048575] (by kernel_rfl)) (by kernel_rfl) ?_
                refine a_ret ?_
                show ∃ ds, ResL _ _ _ ds ∧ RV.of ds = _
                refine ⟨[.fl (.bool ((inW d.win ((ix x.stops 0).time))))], (.cons (.tmp rfl (.d _)) .nil), ?_⟩
                have he : decide (d.least ≤ e) = true := by exact decide_eq_true (by omega)
                first
                  | (have hu : ap d x e = (inW d.win ((ix x.stops 0).time)) := by
                      unfold ap; simp only [h1, h3, h5, h8, h23, h25, h28, he, Bool.true_or, Bool.false_or, Bool.or_true, Bool.or_false, Bool.not_true, Bool.not_false, cond_true, cond_false, Bool.true_and, Bool.false_and, Bool.and_true, Bool.and_false] <;> rfl
                     rw [hu]; rfl)
                  | (exfalso; omega)
              · skip
                have h30 := t_beq h28
                refine dr_put (d := 54) (v := .d (.fl undef)) rfl (on rfl rfl rfl h28) ?_
                refine dr_put (d := 55) (v := .d (.fl undef)) rfl (on rfl rfl rfl h28) ?_
                refine dr_put (d := 56) (v := .d (.fl undef)) rfl (on rfl rfl rfl h28) ?_
                refine dr_put (d := 57) (v := .d (.fl undef)) rfl (on rfl rfl rfl h28) ?_
                refine dr_put (d := 58) (v := .d (.fl undef)) rfl (on rfl rfl rfl h28) ?_
                refine dr_put (d := 59) (v := .d (.fl undef)) rfl (on rfl rfl rfl h28) ?_
                refine dr_put (d := 60) (v := .d (.fl undef)) rfl (on rfl rfl rfl h28) ?_
                refine dr_put (d := 61) (v := .d (.fl undef)) rfl (on rfl rfl rfl h28) ?_
                refine dr_put (d := 62) (v := .d (.fl (.bool true))) rfl (oy rfl rfl rfl h25 (op_pick rfl rfl (by rw [h28]; rfl) rfl)) ?_
                refine dr_put (d := 63) (v := .d (.fl (.bool true))) rfl (og rfl (op_pick rfl rfl (by rw [h25]; rfl) rfl)) ?_
                refine dr_put (d := 6) (v := .d (.fl (.bool true))) rfl (og rfl (op_assign rfl rfl rfl)) ?_
                refine dr_done rfl (sepB_of [0, 1, 3, 7, 15, 31, 63, 127, 255, 511, 1023, 2047, 1023, 5119, 13311, 29695, 62463, 131071, 262143, 524287, 1048575] (by kernel_rfl)) (by kernel_rfl) ?_
                refine a_ret ?_
                show ∃ ds, ResL _ _ _ ds ∧ RV.of ds = _
                refine ⟨[.fl (.bool true)], (.cons (.tmp rfl (.d _)) .nil), ?_⟩
                have he : decide (d.least ≤ e) = true := by exact decide_eq_true (by omega)
                first
                  | (have hu : ap d x e = true := by
                      unfold ap; simp only [h1, h3, h5, h8, h23, h25, h28, he, Bool.true_or, Bool.false_or, Bool.or_true, Bool.or_false, Bool.not_true, Bool.not_false, cond_true, cond_false, Bool.true_and, Bool.false_and, Bool.and_true, Bool.and_false] <;> rfl
                     rw [hu]; rfl)
                  | (exfalso; omega)
          · skip
            have h31 := t_beq h23
            refine rg_put (d := 38) (v := .d (.fl undef)) rfl (on rfl rfl rfl h23) ?_
            refine rg_put (d := 39) (v := .d (.fl undef)) rfl (on rfl rfl rfl h23) ?_
            refine rg_put (d := 40) (v := .d (.fl undef)) rfl (on rfl rfl rfl h23) ?_
            refine rg_put (d := 41) (v := .d (.fl undef)) rfl (on rfl rfl rfl h23) ?_
            refine rg_put (d := 42) (v := .d (.fl undef)) rfl (on rfl rfl rfl h23) ?_
            refine rg_put (d := 43) (v := .d (.fl (.bool true))) rfl (og rfl (op_pick rfl rfl (by rw [h23]; rfl) rfl)) ?_
            refine rg_put (d := 8) (v := .d (.fl (.bool true))) rfl (og rfl (op_assign rfl rfl rfl)) ?_
            refine rg_done rfl ?_
            refine a_dseq (by kernel_rfl) ?_
            refine dr_put (d := 44) (v := .d (.fl (.bool true))) rfl (og rfl (op_move rfl rfl rfl)) ?_
            refine dr_put (d := 45) (v := .d (.fl (.bool true))) rfl (og rfl (op_move rfl rfl rfl)) ?_
            refine dr_put (d := 46) (v := .d (.fl (.bool true))) rfl (oy rfl rfl rfl rfl (op_move rfl rfl rfl)) ?_
            refine dr_put (d := 47) (v := .d (.fl (.bool true))) rfl (og rfl (op_pick rfl rfl rfl rfl)) ?_
            refine dr_put (d := 48) (v := .d (.fl (.bool true))) rfl (og rfl (op_move rfl rfl rfl)) ?_
            refine dr_put (d := 49) (v := .pt 101 6) rfl (oy rfl rfl rfl rfl (of_eff (s_field_pt rfl Try.underlying25 rfl ti23 rfl rfl rfl) rfl)) ?_
            refine dr_put (d := 50) (v := .pt 101 6) rfl (oy rfl rfl rfl rfl (of_eff (s_field_pt rfl Try.underlying23 rfl ti3 rfl rfl rfl) rfl)) ?_
            refine dr_put (d := 51) (v := .d (.fl (.int .i64 d.win.days))) rfl (oy rfl rfl rfl rfl (op_load_pt rfl Try.underlying3 rfl rfl rfl rfl rfl)) ?_
            refine dr_put (d := 52) (v := .d (.fl (.bool (d.win.days == 0)))) rfl (oy rfl rfl rfl rfl (op_bin rfl rfl rfl (b_eql _ _ _ _) rfl)) ?_
            refine dr_put (d := 53) (v := .d (.fl (.bool (d.win.days == 0)))) rfl (oy rfl rfl rfl rfl (op_move rfl rfl rfl)) ?_
            rcases fot (d.win.days == 0) with h32 | h32
            · skip
              have h33 := f_beq h32
              refine dr_put (d := 54) (v := .pt 101 6) rfl (oy rfl rfl rfl h32 (of_eff (s_field_pt rfl Try.underlying25 rfl ti23 rfl rfl rfl) rfl)) ?_
              refine dr_put (d := 55) (v := .d (.ag (eWd d.win))) rfl (oy rfl rfl rfl h32 (of_eff (s_load_pts rfl Try.underlying23 rfl ti23 rfl rfl rfl rfl) rfl)) ?_
              refine dr_put (d := 56) (v := .pt 102 4) rfl (oy rfl rfl rfl h32 (of_eff (s_field_pt rfl Try.underlying39 rfl ti37 rfl rfl rfl) rfl)) ?_
              refine dr_put (d := 57) (v := .d (.sl 3 (List.map eSp x.stops))) rfl (oy rfl rfl rfl h32 (op_load_pt rfl Try.underlying37 rfl rfl rfl rfl rfl)) ?_
              refine dr_put (d := 58) (v := .el ((eSp (ix x.stops 0)))) rfl (oy rfl rfl rfl h32 (s_index rfl Try.underlying37 ti47 rfl rfl (by omega) (row_at (by omega)) rfl)) ?_
              refine dr_put (d := 59) (v := .el ((List.drop 1 ((eSp (ix x.stops 0)))))) rfl (oy rfl rfl rfl h32 (of_eff (s_field_el rfl Try.underlying47 rfl ti3 rfl rfl rfl) rfl)) ?_
              refine dr_put (d := 60) (v := .d (.fl (.int .i64 ((ix x.stops 0).time)))) rfl (oy rfl rfl rfl h32 (op_load_el rfl Try.underlying3 rfl rfl rfl rfl)) ?_
              refine dr_put (d := 61) (v := .d (.fl (.bool ((inW d.win ((ix x.stops 0).time)))))) rfl (oy rfl rfl rfl h32 (op_call rfl Try.func30 nm30 rfl (.cons rfl (.d _) (.cons rfl (.d _) .nil)) (inW19 d.win ((ix x.stops 0).time)) rfl)) ?_
              refine dr_put (d := 62) (v := .d (.fl (.bool ((inW d.win ((ix x.stops 0).time)))))) rfl (oy rfl rfl rfl rfl (op_pick rfl rfl (by rw [h32]; rfl) rfl)) ?_
              refine dr_put (d := 63) (v := .d (.fl (.bool ((inW d.win ((ix x.stops 0).time)))))) rfl (og rfl (op_pick rfl rfl rfl rfl)) ?_
              refine dr_put (d := 6) (v := .d (.fl (.bool ((inW d.win ((ix x.stops 0).time)))))) rfl (og rfl (op_assign rfl rfl rfl)) ?_
              refine dr_done rfl (sepB_of [0, 1, 3, 7, 15, 31, 63, 127, 255, 511, 1023, 2047, 1023, 5119, 13311, 29695, 62463, 131071, 262143, 524287, 1048575] (by kernel_rfl)) (by kernel_rfl) ?_
              refine a_ret ?_
              show ∃ ds, ResL _ _ _ ds ∧ RV.of ds = _
              refine ⟨[.fl (.bool ((inW d.win ((ix x.stops 0).time))))], (.cons (.tmp rfl (.d _)) .nil), ?_⟩
              have he : decide (d.least ≤ e) = true := by exact decide_eq_true (by omega)
              first
                | (have hu : ap d x e = (inW d.win ((ix x.stops 0).time)) := by
                    unfold ap; simp only [h1, h3, h5, h8, h23, h32, he, Bool.true_or, Bool.false_or, Bool.or_true, Bool.or_false, Bool.not_true, Bool.not_false, cond_true, cond_false, Bool.true_and, Bool.false_and, Bool.and_true, Bool.and_false] <;> rfl
                   rw [hu]; rfl)
                | (exfalso; omega)
            · skip
              have h34 := t_beq h32
              refine dr_put (d := 54) (v := .d (.fl undef)) rfl (on rfl rfl rfl h32) ?_
              refine dr_put (d := 55) (v := .d (.fl undef)) rfl (on rfl rfl rfl h32) ?_
              refine dr_put (d := 56) (v := .d (.fl undef)) rfl (on rfl rfl rfl h32) ?_
              refine dr_put (d := 57) (v := .d (.fl undef)) rfl (on rfl rfl rfl h32) ?_
              refine dr_put (d := 58) (v := .d (.fl undef)) rfl (on rfl rfl rfl h32) ?_
              refine dr_put (d := 59) (v := .d (.fl undef)) rfl (on rfl rfl rfl h32) ?_
              refine dr_put (d := 60) (v := .d (.fl undef)) rfl (on rfl rfl rfl h32) ?_
              refine dr_put (d := 61) (v := .d (.fl undef)) rfl (on rfl rfl rfl h32) ?_
              refine dr_put (d := 62) (v := .d (.fl (.bool true))) rfl (oy rfl rfl rfl rfl (op_pick rfl rfl (by rw [h32]; rfl) rfl)) ?_
              refine dr_put (d := 63) (v := .d (.fl (.bool true))) rfl (og rfl (op_pick rfl rfl rfl rfl)) ?_
              refine dr_put (d := 6) (v := .d (.fl (.bool true))) rfl (og rfl (op_assign rfl rfl rfl)) ?_
              refine dr_done rfl (sepB_of [0, 1, 3, 7, 15, 31, 63, 127, 255, 511, 1023, 2047, 1023, 5119, 13311, 29695, 62463, 131071, 262143, 524287, 1048575] (by kernel_rfl)) (by kernel_rfl) ?_
              refine a_ret ?_
              show ∃ ds, ResL _ _ _ ds ∧ RV.of ds = _
              refine ⟨[.fl (.bool true)], (.cons (.tmp rfl (.d _)) .nil), ?_⟩
              have he : decide (d.least ≤ e) = true := by exact decide_eq_true (by omega)
              first
                | (have hu : ap d x e = true := by
                    unfold ap; simp only [h1, h3, h5, h8, h23, h32, he, Bool.true_or, Bool.false_or, Bool.or_true, Bool.or_false, Bool.not_true, Bool.not_false, cond_true, cond_false, Bool.true_and, Bool.false_and, Bool.and_true, Bool.and_false] <;> rfl
                   rw [hu]; rfl)
                | (exfalso; omega)
    · skip
      have h35 := t_beq h3
      refine rg_put (d := 19) (v := .d (.fl undef)) rfl (on rfl rfl rfl h3) ?_
      refine rg_put (d := 20) (v := .d (.fl undef)) rfl (on rfl rfl rfl h3) ?_
      refine rg_put (d := 21) (v := .d (.fl undef)) rfl (on rfl rfl rfl h3) ?_
      refine rg_put (d := 22) (v := .d (.fl undef)) rfl (on rfl rfl rfl h3) ?_
      refine rg_put (d := 23) (v := .d (.fl (.bool true))) rfl (og rfl (op_pick rfl rfl (by rw [h3]; rfl) rfl)) ?_
      refine rg_done rfl ?_
      refine a_condK rfl rfl ?_
      refine a_rseq ?_
      refine rg_put (d := 6) (v := .d (.fl (.bool false))) rfl (og rfl (op_assign rfl rfl rfl)) ?_
      refine rg_done rfl ?_
      refine a_ret ?_
      show ∃ ds, ResL _ _ _ ds ∧ RV.of ds = _
      refine ⟨[.fl (.bool false)], (.cons (.tmp rfl (.d _)) .nil), ?_⟩
      first
        | (have hu : ap d x e = false := by
            unfold ap; simp only [h1, h3, Bool.true_or, Bool.false_or, Bool.or_true, Bool.or_false, Bool.not_true, Bool.not_false, cond_true, cond_false, Bool.true_and, Bool.false_and, Bool.and_true, Bool.and_false] <;> rfl
           rw [hu]; rfl)
        | (exfalso; omega)
  · skip
    have h36 := t_bne h1
    refine rg_put (d := 13) (v := .d (.fl undef)) rfl (on rfl rfl rfl h1) ?_
    refine rg_put (d := 14) (v := .d (.fl undef)) rfl (on rfl rfl rfl h1) ?_
    refine rg_put (d := 15) (v := .d (.fl undef)) rfl (on rfl rfl rfl h1) ?_
    refine rg_put (d := 16) (v := .d (.fl undef)) rfl (on rfl rfl rfl h1) ?_
    refine rg_put (d := 17) (v := .d (.fl (.bool true))) rfl (og rfl (op_pick rfl rfl (by rw [h1]; rfl) rfl)) ?_
    refine rg_put (d := 18) (v := .d (.fl (.bool true))) rfl (og rfl (op_move rfl rfl rfl)) ?_
    refine rg_put (d := 19) (v := .d (.fl undef)) rfl (on rfl rfl rfl rfl) ?_
    refine rg_put (d := 20) (v := .d (.fl undef)) rfl (on rfl rfl rfl rfl) ?_
    refine rg_put (d := 21) (v := .d (.fl undef)) rfl (on rfl rfl rfl rfl) ?_
    refine rg_put (d := 22) (v := .d (.fl undef)) rfl (on rfl rfl rfl rfl) ?_
    refine rg_put (d := 23) (v := .d (.fl (.bool true))) rfl (og rfl (op_pick rfl rfl rfl rfl)) ?_
    refine rg_done rfl ?_
    refine a_condK rfl rfl ?_
    refine a_rseq ?_
    refine rg_put (d := 6) (v := .d (.fl (.bool false))) rfl (og rfl (op_assign rfl rfl rfl)) ?_
    refine rg_done rfl ?_
    refine a_ret ?_
    show ∃ ds, ResL _ _ _ ds ∧ RV.of ds = _
    refine ⟨[.fl (.bool false)], (.cons (.tmp rfl (.d _)) .nil), ?_⟩
    first
      | (have hu : ap d x e = false := by
          unfold ap; simp only [h1, Bool.true_or, Bool.false_or, Bool.or_true, Bool.or_false, Bool.not_true, Bool.not_false, cond_true, cond_false, Bool.true_and, Bool.false_and, Bool.and_true, Bool.and_false] <;> rfl
         rw [hu]; rfl)
      | (exfalso; omega)
set_option maxHeartbeats 4000000 in
set_option maxRecDepth 100000 in
theorem apR (d : Di) (x : Tp) (e : Int) (hl : x.stops.length ≤ 20) : Ctr Try.prog 16 [.ag (eDi d), .ag (eTp x), .fl (.int .i64 e)] (.d (.fl (.bool (ap d x e)))) := by
  refine ctr (n := 66) (rs := #[.tmp 6]) (L := [(0, .d (.ag (eDi d))), (1, .d (.ag (eTp x))), (2, .d (.fl (.int .i64 e)))]) Try.func16 rfl rfl rfl rfl rfl (fun w0 U0 => ?_)
  refine a_rseq ?_
  refine rg_nam (d := 3) (v := .pt 101 0) (m := 101) (nw := [(101, .bx 25 (eDi d))]) rfl (og rfl (of_eff (op_box 101 rfl rfl rfl rfl) rfl)) rfl ?_
  refine rg_nam (d := 4) (v := .pt 102 0) (m := 102) (nw := [(102, .bx 39 (eTp x))]) rfl (og rfl (of_eff (op_box 102 rfl rfl rfl rfl) rfl)) rfl ?_
  refine rg_put (d := 6) (v := .d (.fl (.bool false))) rfl (og rfl (op_assign rfl rfl rfl)) ?_
  refine rg_done rfl ?_
  refine a_seq ?_
  refine a_rseq ?_
  refine rg_put (d := 10) (v := .d (.ag (eDi d))) rfl (og rfl (of_eff (s_load_pts rfl Try.underlying25 rfl ti25 rfl rfl rfl rfl) rfl)) ?_
  refine rg_put (d := 11) (v := .d (.fl (.int .i64 (ck d)))) rfl (og rfl (op_call rfl Try.func9 nm9 rfl (.cons rfl (.d _) .nil) (ckR d) rfl)) ?_
  refine rg_put (d := 12) (v := .d (.fl (.bool (((ck d) != 0))))) rfl (og rfl (op_bin rfl rfl rfl (b_neq _ _ _ _) rfl)) ?_
  refine rg_put (d := 13) (v := .d (.fl (.bool (((ck d) != 0))))) rfl (og rfl (op_move rfl rfl rfl)) ?_
  rcases fot (((ck d) != 0)) with h1 | h1
  · skip
    have h2 := f_bne h1
    refine rg_put (d := 14) (v := .pt 102 4) rfl (oy rfl rfl rfl h1 (of_eff (s_field_pt rfl Try.underlying39 rfl ti37 rfl rfl rfl) rfl)) ?_
    refine rg_put (d := 15) (v := .d (.sl 3 (List.map eSp x.stops))) rfl (oy rfl rfl rfl h1 (op_load_pt rfl Try.underlying37 rfl rfl rfl rfl rfl)) ?_
    refine rg_put (d := 16) (v := .d (.fl (.int .i64 (x.stops.length : Int)))) rfl (oy rfl rfl rfl h1 (s_len rfl Try.underlying37 rfl rfl)) ?_
    refine rg_put (d := 17) (v := .d (.fl (.bool (((x.stops.length : Int) == 0))))) rfl (oy rfl rfl rfl h1 (op_bin rfl rfl rfl (b_eql _ _ _ _) rfl)) ?_
    refine rg_put (d := 18) (v := .d (.fl (.bool (((x.stops.length : Int) == 0))))) rfl (og rfl (op_pick rfl rfl (by rw [h1]; rfl) rfl)) ?_
    refine rg_done rfl ?_
    refine a_cond rfl (fun h3 => ?_) (fun h3 => ?_)
    · skip
      have h4 := t_beq h3
      refine a_rseq ?_
      refine rg_put (d := 6) (v := .d (.fl (.bool false))) rfl (og rfl (op_assign rfl rfl rfl)) ?_
      refine rg_done rfl ?_
      refine a_ret ?_
      show ∃ ds, ResL _ _ _ ds ∧ RV.of ds = _
      refine ⟨[.fl (.bool false)], (.cons (.tmp rfl (.d _)) .nil), ?_⟩
      first
        | (have hu : ap d x e = false := by
            unfold ap; simp only [h1, h3, Bool.true_or, Bool.false_or, Bool.or_true, Bool.or_false, Bool.not_true, Bool.not_false, cond_true, cond_false, Bool.true_and, Bool.false_and, Bool.and_true, Bool.and_false] <;> rfl
           rw [hu]; rfl)
        | (exfalso; omega)
    · skip
      have h5 := f_beq h3
      refine a_skip ?_
      show A _ _ _ _ _ _ _
      refine a_rseq ?_
      refine rg_put (d := 19) (v := .pt 101 4) rfl (og rfl (of_eff (s_field_pt rfl Try.underlying25 rfl ti9 rfl rfl rfl) rfl)) ?_
      refine rg_put (d := 20) (v := .d (.fl (.string d.sys))) rfl (og rfl (op_load_pt rfl Try.underlying9 rfl rfl rfl rfl rfl)) ?_
      refine rg_put (d := 21) (v := .d (.fl (.bool ((sEq d.sys (⟨#[]⟩)))))) rfl (og rfl (op_bin rfl rfl rfl (b_seq _ _ _) rfl)) ?_
      refine rg_put (d := 22) (v := .d (.fl (.bool ((sEq d.sys (⟨#[]⟩)))))) rfl (og rfl (op_move rfl rfl rfl)) ?_
      rcases fot ((sEq d.sys (⟨#[]⟩))) with h6 | h6
      · skip
        refine rg_put (d := 23) (v := .pt 101 4) rfl (oy rfl rfl rfl h6 (of_eff (s_field_pt rfl Try.underlying25 rfl ti9 rfl rfl rfl) rfl)) ?_
        refine rg_put (d := 24) (v := .d (.fl (.string d.sys))) rfl (oy rfl rfl rfl h6 (op_load_pt rfl Try.underlying9 rfl rfl rfl rfl rfl)) ?_
        refine rg_put (d := 25) (v := .pt 102 2) rfl (oy rfl rfl rfl h6 (of_eff (s_field_pt rfl Try.underlying39 rfl ti9 rfl rfl rfl) rfl)) ?_
        refine rg_put (d := 26) (v := .d (.fl (.string x.sys))) rfl (oy rfl rfl rfl h6 (op_load_pt rfl Try.underlying9 rfl rfl rfl rfl rfl)) ?_
        refine rg_put (d := 27) (v := .d (.fl (.bool (sEq d.sys x.sys)))) rfl (oy rfl rfl rfl h6 (op_bin rfl rfl rfl (b_seq _ _ _) rfl)) ?_
        refine rg_put (d := 28) (v := .d (.fl (.bool (sEq d.sys x.sys)))) rfl (og rfl (op_pick rfl rfl (by rw [h6]; rfl) rfl)) ?_
        refine rg_put (d := 7) (v := .d (.fl (.bool (sEq d.sys x.sys)))) rfl (og rfl (op_assign rfl rfl rfl)) ?_
        refine rg_done rfl ?_
        refine a_rseq ?_
        refine rg_put (d := 29) (v := .pt 101 5) rfl (og rfl (of_eff (s_field_pt rfl Try.underlying25 rfl ti3 rfl rfl rfl) rfl)) ?_
        refine rg_put (d := 30) (v := .d (.fl (.int .i64 d.cls))) rfl (og rfl (op_load_pt rfl Try.underlying3 rfl rfl rfl rfl rfl)) ?_
        refine rg_put (d := 31) (v := .d (.fl (.bool (d.cls == 0)))) rfl (og rfl (op_bin rfl rfl rfl (b_eql _ _ _ _) rfl)) ?_
        refine rg_put (d := 32) (v := .d (.fl (.bool (d.cls == 0)))) rfl (og rfl (op_move rfl rfl rfl)) ?_
        rcases fot (d.cls == 0) with h7 | h7
        · skip
          have h8 := f_beq h7
          refine rg_put (d := 33) (v := .pt 101 5) rfl (oy rfl rfl rfl h7 (of_eff (s_field_pt rfl Try.underlying25 rfl ti3 rfl rfl rfl) rfl)) ?_
          refine rg_put (d := 34) (v := .d (.fl (.int .i64 d.cls))) rfl (oy rfl rfl rfl h7 (op_load_pt rfl Try.underlying3 rfl rfl rfl rfl rfl)) ?_
          refine rg_put (d := 35) (v := .pt 102 3) rfl (oy rfl rfl rfl h7 (of_eff (s_field_pt rfl Try.underlying39 rfl ti3 rfl rfl rfl) rfl)) ?_
          refine rg_put (d := 36) (v := .d (.fl (.int .i64 x.cls))) rfl (oy rfl rfl rfl h7 (op_load_pt rfl Try.underlying3 rfl rfl rfl rfl rfl)) ?_
          refine rg_put (d := 37) (v := .d (.fl (.bool (d.cls == x.cls)))) rfl (oy rfl rfl rfl h7 (op_bin rfl rfl rfl (b_eql _ _ _ _) rfl)) ?_
          refine rg_put (d := 38) (v := .d (.fl (.bool (d.cls == x.cls)))) rfl (og rfl (op_pick rfl rfl (by rw [h7]; rfl) rfl)) ?_
          refine rg_put (d := 8) (v := .d (.fl (.bool (d.cls == x.cls)))) rfl (og rfl (op_assign rfl rfl rfl)) ?_
          refine rg_done rfl ?_
          refine a_dseq (by kernel_rfl) ?_
          refine dr_put (d := 39) (v := .pt 101 6) rfl (og rfl (of_eff (s_field_pt rfl Try.underlying25 rfl ti23 rfl rfl rfl) rfl)) ?_
          refine dr_put (d := 40) (v := .pt 101 6) rfl (og rfl (of_eff (s_field_pt rfl Try.underlying23 rfl ti3 rfl rfl rfl) rfl)) ?_
          refine dr_put (d := 41) (v := .d (.fl (.int .i64 d.win.days))) rfl (og rfl (op_load_pt rfl Try.underlying3 rfl rfl rfl rfl rfl)) ?_
          refine dr_put (d := 42) (v := .d (.fl (.bool (d.win.days == 0)))) rfl (og rfl (op_bin rfl rfl rfl (b_eql _ _ _ _) rfl)) ?_
          refine dr_put (d := 43) (v := .d (.fl (.bool (d.win.days == 0)))) rfl (og rfl (op_move rfl rfl rfl)) ?_
          rcases fot (d.win.days == 0) with h9 | h9
          · skip
            have h10 := f_beq h9
            refine dr_put (d := 44) (v := .pt 101 6) rfl (oy rfl rfl rfl h9 (of_eff (s_field_pt rfl Try.underlying25 rfl ti23 rfl rfl rfl) rfl)) ?_
            refine dr_put (d := 45) (v := .d (.ag (eWd d.win))) rfl (oy rfl rfl rfl h9 (of_eff (s_load_pts rfl Try.underlying23 rfl ti23 rfl rfl rfl rfl) rfl)) ?_
            refine dr_put (d := 46) (v := .pt 102 4) rfl (oy rfl rfl rfl h9 (of_eff (s_field_pt rfl Try.underlying39 rfl ti37 rfl rfl rfl) rfl)) ?_
            refine dr_put (d := 47) (v := .d (.sl 3 (List.map eSp x.stops))) rfl (oy rfl rfl rfl h9 (op_load_pt rfl Try.underlying37 rfl rfl rfl rfl rfl)) ?_
            refine dr_put (d := 48) (v := .el ((eSp (ix x.stops 0)))) rfl (oy rfl rfl rfl h9 (s_index rfl Try.underlying37 ti47 rfl rfl (by omega) (row_at (by omega)) rfl)) ?_
            refine dr_put (d := 49) (v := .el ((List.drop 1 ((eSp (ix x.stops 0)))))) rfl (oy rfl rfl rfl h9 (of_eff (s_field_el rfl Try.underlying47 rfl ti3 rfl rfl rfl) rfl)) ?_
            refine dr_put (d := 50) (v := .d (.fl (.int .i64 ((ix x.stops 0).time)))) rfl (oy rfl rfl rfl h9 (op_load_el rfl Try.underlying3 rfl rfl rfl rfl)) ?_
            refine dr_put (d := 51) (v := .d (.fl (.bool ((inW d.win ((ix x.stops 0).time)))))) rfl (oy rfl rfl rfl h9 (op_call rfl Try.func31 nm31 rfl (.cons rfl (.d _) (.cons rfl (.d _) .nil)) (inW20 d.win ((ix x.stops 0).time)) rfl)) ?_
            refine dr_put (d := 52) (v := .d (.fl (.bool ((inW d.win ((ix x.stops 0).time)))))) rfl (og rfl (op_pick rfl rfl (by rw [h9]; rfl) rfl)) ?_
            refine dr_put (d := 9) (v := .d (.fl (.bool ((inW d.win ((ix x.stops 0).time)))))) rfl (og rfl (op_assign rfl rfl rfl)) ?_
            refine dr_done rfl (sepB_of [0, 1, 3, 7, 15, 31, 63, 31, 159, 415, 927, 1951, 4095, 8191, 16383] (by kernel_rfl)) (by kernel_rfl) ?_
            refine a_rseq ?_
            refine rg_put (d := 53) (v := .d (.fl (.bool (sEq d.sys x.sys)))) rfl (og rfl (op_move rfl rfl rfl)) ?_
            refine rg_put (d := 54) (v := .d (.fl (.bool (sEq d.sys x.sys)))) rfl (og rfl (op_move rfl rfl rfl)) ?_
            rcases fot (sEq d.sys x.sys) with h11 | h11
            · skip
              refine rg_put (d := 55) (v := .d (.fl undef)) rfl (on rfl rfl rfl h11) ?_
              refine rg_put (d := 56) (v := .d (.fl (.bool false))) rfl (og rfl (op_pick rfl rfl (by rw [h11]; rfl) rfl)) ?_
              refine rg_put (d := 57) (v := .d (.fl (.bool false))) rfl (og rfl (op_move rfl rfl rfl)) ?_
              refine rg_put (d := 58) (v := .d (.fl undef)) rfl (on rfl rfl rfl rfl) ?_
              refine rg_put (d := 59) (v := .d (.fl (.bool false))) rfl (og rfl (op_pick rfl rfl rfl rfl)) ?_
              refine rg_put (d := 60) (v := .d (.fl (.bool false))) rfl (og rfl (op_move rfl rfl rfl)) ?_
              refine rg_put (d := 61) (v := .d (.fl undef)) rfl (on rfl rfl rfl rfl) ?_
              refine rg_put (d := 62) (v := .d (.fl undef)) rfl (on rfl rfl rfl rfl) ?_
              refine rg_put (d := 63) (v := .d (.fl undef)) rfl (on rfl rfl rfl rfl) ?_
              refine rg_put (d := 64) (v := .d (.fl undef)) rfl (on rfl rfl rfl rfl) ?_
              refine rg_put (d := 65) (v := .d (.fl (.bool false))) rfl (og rfl (op_pick rfl rfl rfl rfl)) ?_
              refine rg_put (d := 6) (v := .d (.fl (.bool false))) rfl (og rfl (op_assign rfl rfl rfl)) ?_
              refine rg_done rfl ?_
              refine a_ret ?_
              show ∃ ds, ResL _ _ _ ds ∧ RV.of ds = _
              refine ⟨[.fl (.bool false)], (.cons (.tmp rfl (.d _)) .nil), ?_⟩
              first
                | (have hu : ap d x e = false := by
                    unfold ap; simp only [h1, h3, h6, h7, h9, h11, Bool.true_or, Bool.false_or, Bool.or_true, Bool.or_false, Bool.not_true, Bool.not_false, cond_true, cond_false, Bool.true_and, Bool.false_and, Bool.and_true, Bool.and_false] <;> rfl
                   rw [hu]; rfl)
                | (exfalso; omega)
            · skip
              refine rg_put (d := 55) (v := .d (.fl (.bool (d.cls == x.cls)))) rfl (oy rfl rfl rfl h11 (op_move rfl rfl rfl)) ?_
              refine rg_put (d := 56) (v := .d (.fl (.bool (d.cls == x.cls)))) rfl (og rfl (op_pick rfl rfl (by rw [h11]; rfl) rfl)) ?_
              refine rg_put (d := 57) (v := .d (.fl (.bool (d.cls == x.cls)))) rfl (og rfl (op_move rfl rfl rfl)) ?_
              rcases fot (d.cls == x.cls) with h12 | h12
              · skip
                have h13 := f_beq h12
                refine rg_put (d := 58) (v := .d (.fl undef)) rfl (on rfl rfl rfl h12) ?_
                refine rg_put (d := 59) (v := .d (.fl (.bool false))) rfl (og rfl (op_pick rfl rfl (by rw [h12]; rfl) rfl)) ?_
                refine rg_put (d := 60) (v := .d (.fl (.bool false))) rfl (og rfl (op_move rfl rfl rfl)) ?_
                refine rg_put (d := 61) (v := .d (.fl undef)) rfl (on rfl rfl rfl rfl) ?_
                refine rg_put (d := 62) (v := .d (.fl undef)) rfl (on rfl rfl rfl rfl) ?_
                refine rg_put (d := 63) (v := .d (.fl undef)) rfl (on rfl rfl rfl rfl) ?_
                refine rg_put (d := 64) (v := .d (.fl undef)) rfl (on rfl rfl rfl rfl) ?_
                refine rg_put (d := 65) (v := .d (.fl (.bool false))) rfl (og rfl (op_pick rfl rfl rfl rfl)) ?_
                refine rg_put (d := 6) (v := .d (.fl (.bool false))) rfl (og rfl (op_assign rfl rfl rfl)) ?_
                refine rg_done rfl ?_
                refine a_ret ?_
                show ∃ ds, ResL _ _ _ ds ∧ RV.of ds = _
                refine ⟨[.fl (.bool false)], (.cons (.tmp rfl (.d _)) .nil), ?_⟩
                first
                  | (have hu : ap d x e = false := by
                      unfold ap; simp only [h1, h3, h6, h7, h9, h11, h12, Bool.true_or, Bool.false_or, Bool.or_true, Bool.or_false, Bool.not_true, Bool.not_false, cond_true, cond_false, Bool.true_and, Bool.false_and, Bool.and_true, Bool.and_false] <;> rfl
                     rw [hu]; rfl)
                  | (exfalso; omega)
              · skip
                have h14 := t_beq h12
                refine rg_put (d := 58) (v := .d (.fl (.bool ((inW d.win ((ix x.stops 0).time)))))) rfl (oy rfl rfl rfl h12 (op_move rfl rfl rfl)) ?_
                refine rg_put (d := 59) (v := .d (.fl (.bool ((inW d.win ((ix x.stops 0).time)))))) rfl (og rfl (op_pick rfl rfl (by rw [h12]; rfl) rfl)) ?_
                refine rg_put (d := 60) (v := .d (.fl (.bool ((inW d.win ((ix x.stops 0).time)))))) rfl (og rfl (op_move rfl rfl rfl)) ?_
                rcases fot ((inW d.win ((ix x.stops 0).time))) with h15 | h15
                · skip
                  refine rg_put (d := 61) (v := .d (.fl undef)) rfl (on rfl rfl rfl h15) ?_
                  refine rg_put (d := 62) (v := .d (.fl undef)) rfl (on rfl rfl rfl h15) ?_
                  refine rg_put (d := 63) (v := .d (.fl undef)) rfl (on rfl rfl rfl h15) ?_
                  refine rg_put (d := 64) (v := .d (.fl undef)) rfl (on rfl rfl rfl h15) ?_
                  refine rg_put (d := 65) (v := .d (.fl (.bool false))) rfl (og rfl (op_pick rfl rfl (by rw [h15]; rfl) rfl)) ?_
                  refine rg_put (d := 6) (v := .d (.fl (.bool false))) rfl (og rfl (op_assign rfl rfl rfl)) ?_
                  refine rg_done rfl ?_
                  refine a_ret ?_
                  show ∃ ds, ResL _ _ _ ds ∧ RV.of ds = _
                  refine ⟨[.fl (.bool false)], (.cons (.tmp rfl (.d _)) .nil), ?_⟩
                  first
                    | (have hu : ap d x e = false := by
                        unfold ap; simp only [h1, h3, h6, h7, h9, h11, h12, h15, Bool.true_or, Bool.false_or, Bool.or_true, Bool.or_false, Bool.not_true, Bool.not_false, cond_true, cond_false, Bool.true_and, Bool.false_and, Bool.and_true, Bool.and_false] <;> rfl
                       rw [hu]; rfl)
                    | (exfalso; omega)
                · skip
                  refine rg_put (d := 61) (v := .d (.fl (.int .i64 e))) rfl (oy rfl rfl rfl h15 (op_move rfl rfl rfl)) ?_
                  refine rg_put (d := 62) (v := .pt 101 9) rfl (oy rfl rfl rfl h15 (of_eff (s_field_pt rfl Try.underlying25 rfl ti3 rfl rfl rfl) rfl)) ?_
                  refine rg_put (d := 63) (v := .d (.fl (.int .i64 d.least))) rfl (oy rfl rfl rfl h15 (op_load_pt rfl Try.underlying3 rfl rfl rfl rfl rfl)) ?_
                  refine rg_put (d := 64) (v := .d (.fl (.bool ((decide (d.least ≤ e)))))) rfl (oy rfl rfl rfl h15 (op_bin rfl rfl rfl (b_geq _ _ _ _) rfl)) ?_
                  refine rg_put (d := 65) (v := .d (.fl (.bool ((decide (d.least ≤ e)))))) rfl (og rfl (op_pick rfl rfl (by rw [h15]; rfl) rfl)) ?_
                  refine rg_put (d := 6) (v := .d (.fl (.bool ((decide (d.least ≤ e)))))) rfl (og rfl (op_assign rfl rfl rfl)) ?_
                  refine rg_done rfl ?_
                  refine a_ret ?_
                  show ∃ ds, ResL _ _ _ ds ∧ RV.of ds = _
                  refine ⟨[.fl (.bool ((decide (d.least ≤ e))))], (.cons (.tmp rfl (.d _)) .nil), ?_⟩
                  first
                    | (have hu : ap d x e = (decide (d.least ≤ e)) := by
                        unfold ap; simp only [h1, h3, h6, h7, h9, h11, h12, h15, Bool.true_or, Bool.false_or, Bool.or_true, Bool.or_false, Bool.not_true, Bool.not_false, cond_true, cond_false, Bool.true_and, Bool.false_and, Bool.and_true, Bool.and_false] <;> rfl
                       rw [hu]; rfl)
                    | (exfalso; omega)
          · skip
            have h16 := t_beq h9
            refine dr_put (d := 44) (v := .d (.fl undef)) rfl (on rfl rfl rfl h9) ?_
            refine dr_put (d := 45) (v := .d (.fl undef)) rfl (on rfl rfl rfl h9) ?_
            refine dr_put (d := 46) (v := .d (.fl undef)) rfl (on rfl rfl rfl h9) ?_
            refine dr_put (d := 47) (v := .d (.fl undef)) rfl (on rfl rfl rfl h9) ?_
            refine dr_put (d := 48) (v := .d (.fl undef)) rfl (on rfl rfl rfl h9) ?_
            refine dr_put (d := 49) (v := .d (.fl undef)) rfl (on rfl rfl rfl h9) ?_
            refine dr_put (d := 50) (v := .d (.fl undef)) rfl (on rfl rfl rfl h9) ?_
            refine dr_put (d := 51) (v := .d (.fl undef)) rfl (on rfl rfl rfl h9) ?_
            refine dr_put (d := 52) (v := .d (.fl (.bool true))) rfl (og rfl (op_pick rfl rfl (by rw [h9]; rfl) rfl)) ?_
            refine dr_put (d := 9) (v := .d (.fl (.bool true))) rfl (og rfl (op_assign rfl rfl rfl)) ?_
            refine dr_done rfl (sepB_of [0, 1, 3, 7, 15, 31, 63, 31, 159, 415, 927, 1951, 4095, 8191, 16383] (by kernel_rfl)) (by kernel_rfl) ?_
            refine a_rseq ?_
            refine rg_put (d := 53) (v := .d (.fl (.bool (sEq d.sys x.sys)))) rfl (og rfl (op_move rfl rfl rfl)) ?_
            refine rg_put (d := 54) (v := .d (.fl (.bool (sEq d.sys x.sys)))) rfl (og rfl (op_move rfl rfl rfl)) ?_
            rcases fot (sEq d.sys x.sys) with h17 | h17
            · skip
              refine rg_put (d := 55) (v := .d (.fl undef)) rfl (on rfl rfl rfl h17) ?_
              refine rg_put (d := 56) (v := .d (.fl (.bool false))) rfl (og rfl (op_pick rfl rfl (by rw [h17]; rfl) rfl)) ?_
              refine rg_put (d := 57) (v := .d (.fl (.bool false))) rfl (og rfl (op_move rfl rfl rfl)) ?_
              refine rg_put (d := 58) (v := .d (.fl undef)) rfl (on rfl rfl rfl rfl) ?_
              refine rg_put (d := 59) (v := .d (.fl (.bool false))) rfl (og rfl (op_pick rfl rfl rfl rfl)) ?_
              refine rg_put (d := 60) (v := .d (.fl (.bool false))) rfl (og rfl (op_move rfl rfl rfl)) ?_
              refine rg_put (d := 61) (v := .d (.fl undef)) rfl (on rfl rfl rfl rfl) ?_
              refine rg_put (d := 62) (v := .d (.fl undef)) rfl (on rfl rfl rfl rfl) ?_
              refine rg_put (d := 63) (v := .d (.fl undef)) rfl (on rfl rfl rfl rfl) ?_
              refine rg_put (d := 64) (v := .d (.fl undef)) rfl (on rfl rfl rfl rfl) ?_
              refine rg_put (d := 65) (v := .d (.fl (.bool false))) rfl (og rfl (op_pick rfl rfl rfl rfl)) ?_
              refine rg_put (d := 6) (v := .d (.fl (.bool false))) rfl (og rfl (op_assign rfl rfl rfl)) ?_
              refine rg_done rfl ?_
              refine a_ret ?_
              show ∃ ds, ResL _ _ _ ds ∧ RV.of ds = _
              refine ⟨[.fl (.bool false)], (.cons (.tmp rfl (.d _)) .nil), ?_⟩
              first
                | (have hu : ap d x e = false := by
                    unfold ap; simp only [h1, h3, h6, h7, h9, h17, Bool.true_or, Bool.false_or, Bool.or_true, Bool.or_false, Bool.not_true, Bool.not_false, cond_true, cond_false, Bool.true_and, Bool.false_and, Bool.and_true, Bool.and_false] <;> rfl
                   rw [hu]; rfl)
                | (exfalso; omega)
            · skip
              refine rg_put (d := 55) (v := .d (.fl (.bool (d.cls == x.cls)))) rfl (oy rfl rfl rfl h17 (op_move rfl rfl rfl)) ?_
              refine rg_put (d := 56) (v := .d (.fl (.bool (d.cls == x.cls)))) rfl (og rfl (op_pick rfl rfl (by rw [h17]; rfl) rfl)) ?_
              refine rg_put (d := 57) (v := .d (.fl (.bool (d.cls == x.cls)))) rfl (og rfl (op_move rfl rfl rfl)) ?_
              rcases fot (d.cls == x.cls) with h18 | h18
              · skip
                have h19 := f_beq h18
                refine rg_put (d := 58) (v := .d (.fl undef)) rfl (on rfl rfl rfl h18) ?_
                refine rg_put (d := 59) (v := .d (.fl (.bool false))) rfl (og rfl (op_pick rfl rfl (by rw [h18]; rfl) rfl)) ?_
                refine rg_put (d := 60) (v := .d (.fl (.bool false))) rfl (og rfl (op_move rfl rfl rfl)) ?_
                refine rg_put (d := 61) (v := .d (.fl undef)) rfl (on rfl rfl rfl rfl) ?_
                refine rg_put (d := 62) (v := .d (.fl undef)) rfl (on rfl rfl rfl rfl) ?_
                refine rg_put (d := 63) (v := .d (.fl undef)) rfl (on rfl rfl rfl rfl) ?_
                refine rg_put (d := 64) (v := .d (.fl undef)) rfl (on rfl rfl rfl rfl) ?_
                refine rg_put (d := 65) (v := .d (.fl (.bool false))) rfl (og rfl (op_pick rfl rfl rfl rfl)) ?_
                refine rg_put (d := 6) (v := .d (.fl (.bool false))) rfl (og rfl (op_assign rfl rfl rfl)) ?_
                refine rg_done rfl ?_
                refine a_ret ?_
                show ∃ ds, ResL _ _ _ ds ∧ RV.of ds = _
                refine ⟨[.fl (.bool false)], (.cons (.tmp rfl (.d _)) .nil), ?_⟩
                first
                  | (have hu : ap d x e = false := by
                      unfold ap; simp only [h1, h3, h6, h7, h9, h17, h18, Bool.true_or, Bool.false_or, Bool.or_true, Bool.or_false, Bool.not_true, Bool.not_false, cond_true, cond_false, Bool.true_and, Bool.false_and, Bool.and_true, Bool.and_false] <;> rfl
                     rw [hu]; rfl)
                  | (exfalso; omega)
              · skip
                have h20 := t_beq h18
                refine rg_put (d := 58) (v := .d (.fl (.bool true))) rfl (oy rfl rfl rfl h18 (op_move rfl rfl rfl)) ?_
                refine rg_put (d := 59) (v := .d (.fl (.bool true))) rfl (og rfl (op_pick rfl rfl (by rw [h18]; rfl) rfl)) ?_
                refine rg_put (d := 60) (v := .d (.fl (.bool true))) rfl (og rfl (op_move rfl rfl rfl)) ?_
                refine rg_put (d := 61) (v := .d (.fl (.int .i64 e))) rfl (oy rfl rfl rfl rfl (op_move rfl rfl rfl)) ?_
                refine rg_put (d := 62) (v := .pt 101 9) rfl (oy rfl rfl rfl rfl (of_eff (s_field_pt rfl Try.underlying25 rfl ti3 rfl rfl rfl) rfl)) ?_
                refine rg_put (d := 63) (v := .d (.fl (.int .i64 d.least))) rfl (oy rfl rfl rfl rfl (op_load_pt rfl Try.underlying3 rfl rfl rfl rfl rfl)) ?_
                refine rg_put (d := 64) (v := .d (.fl (.bool ((decide (d.least ≤ e)))))) rfl (oy rfl rfl rfl rfl (op_bin rfl rfl rfl (b_geq _ _ _ _) rfl)) ?_
                refine rg_put (d := 65) (v := .d (.fl (.bool ((decide (d.least ≤ e)))))) rfl (og rfl (op_pick rfl rfl rfl rfl)) ?_
                refine rg_put (d := 6) (v := .d (.fl (.bool ((decide (d.least ≤ e)))))) rfl (og rfl (op_assign rfl rfl rfl)) ?_
                refine rg_done rfl ?_
                refine a_ret ?_
                show ∃ ds, ResL _ _ _ ds ∧ RV.of ds = _
                refine ⟨[.fl (.bool ((decide (d.least ≤ e))))], (.cons (.tmp rfl (.d _)) .nil), ?_⟩
                first
                  | (have hu : ap d x e = (decide (d.least ≤ e)) := by
                      unfold ap; simp only [h1, h3, h6, h7, h9, h17, h18, Bool.true_or, Bool.false_or, Bool.or_true, Bool.or_false, Bool.not_true, Bool.not_false, cond_true, cond_false, Bool.true_and, Bool.false_and, Bool.and_true, Bool.and_false] <;> rfl
                     rw [hu]; rfl)
                  | (exfalso; omega)
        · skip
          have h21 := t_beq h7
          refine rg_put (d := 33) (v := .d (.fl undef)) rfl (on rfl rfl rfl h7) ?_
          refine rg_put (d := 34) (v := .d (.fl undef)) rfl (on rfl rfl rfl h7) ?_
          refine rg_put (d := 35) (v := .d (.fl undef)) rfl (on rfl rfl rfl h7) ?_
          refine rg_put (d := 36) (v := .d (.fl undef)) rfl (on rfl rfl rfl h7) ?_
          refine rg_put (d := 37) (v := .d (.fl undef)) rfl (on rfl rfl rfl h7) ?_
          refine rg_put (d := 38) (v := .d (.fl (.bool true))) rfl (og rfl (op_pick rfl rfl (by rw [h7]; rfl) rfl)) ?_
          refine rg_put (d := 8) (v := .d (.fl (.bool true))) rfl (og rfl (op_assign rfl rfl rfl)) ?_
          refine rg_done rfl ?_
          refine a_dseq (by kernel_rfl) ?_
          refine dr_put (d := 39) (v := .pt 101 6) rfl (og rfl (of_eff (s_field_pt rfl Try.underlying25 rfl ti23 rfl rfl rfl) rfl)) ?_
          refine dr_put (d := 40) (v := .pt 101 6) rfl (og rfl (of_eff (s_field_pt rfl Try.underlying23 rfl ti3 rfl rfl rfl) rfl)) ?_
          refine dr_put (d := 41) (v := .d (.fl (.int .i64 d.win.days))) rfl (og rfl (op_load_pt rfl Try.underlying3 rfl rfl rfl rfl rfl)) ?_
          refine dr_put (d := 42) (v := .d (.fl (.bool (d.win.days == 0)))) rfl (og rfl (op_bin rfl rfl rfl (b_eql _ _ _ _) rfl)) ?_
          refine dr_put (d := 43) (v := .d (.fl (.bool (d.win.days == 0)))) rfl (og rfl (op_move rfl rfl rfl)) ?_
          rcases fot (d.win.days == 0) with h22 | h22
          · skip
            have h23 := f_beq h22
            refine dr_put (d := 44) (v := .pt 101 6) rfl (oy rfl rfl rfl h22 (of_eff (s_field_pt rfl Try.underlying25 rfl ti23 rfl rfl rfl) rfl)) ?_
            refine dr_put (d := 45) (v := .d (.ag (eWd d.win))) rfl (oy rfl rfl rfl h22 (of_eff (s_load_pts rfl Try.underlying23 rfl ti23 rfl rfl rfl rfl) rfl)) ?_
            refine dr_put (d := 46) (v := .pt 102 4) rfl (oy rfl rfl rfl h22 (of_eff (s_field_pt rfl Try.underlying39 rfl ti37 rfl rfl rfl) rfl)) ?_
            refine dr_put (d := 47) (v := .d (.sl 3 (List.map eSp x.stops))) rfl (oy rfl rfl rfl h22 (op_load_pt rfl Try.underlying37 rfl rfl rfl rfl rfl)) ?_
            refine dr_put (d := 48) (v := .el ((eSp (ix x.stops 0)))) rfl (oy rfl rfl rfl h22 (s_index rfl Try.underlying37 ti47 rfl rfl (by omega) (row_at (by omega)) rfl)) ?_
            refine dr_put (d := 49) (v := .el ((List.drop 1 ((eSp (ix x.stops 0)))))) rfl (oy rfl rfl rfl h22 (of_eff (s_field_el rfl Try.underlying47 rfl ti3 rfl rfl rfl) rfl)) ?_
            refine dr_put (d := 50) (v := .d (.fl (.int .i64 ((ix x.stops 0).time)))) rfl (oy rfl rfl rfl h22 (op_load_el rfl Try.underlying3 rfl rfl rfl rfl)) ?_
            refine dr_put (d := 51) (v := .d (.fl (.bool ((inW d.win ((ix x.stops 0).time)))))) rfl (oy rfl rfl rfl h22 (op_call rfl Try.func31 nm31 rfl (.cons rfl (.d _) (.cons rfl (.d _) .nil)) (inW20 d.win ((ix x.stops 0).time)) rfl)) ?_
            refine dr_put (d := 52) (v := .d (.fl (.bool ((inW d.win ((ix x.stops 0).time)))))) rfl (og rfl (op_pick rfl rfl (by rw [h22]; rfl) rfl)) ?_
            refine dr_put (d := 9) (v := .d (.fl (.bool ((inW d.win ((ix x.stops 0).time)))))) rfl (og rfl (op_assign rfl rfl rfl)) ?_
            refine dr_done rfl (sepB_of [0, 1, 3, 7, 15, 31, 63, 31, 159, 415, 927, 1951, 4095, 8191, 16383] (by kernel_rfl)) (by kernel_rfl) ?_
            refine a_rseq ?_
            refine rg_put (d := 53) (v := .d (.fl (.bool (sEq d.sys x.sys)))) rfl (og rfl (op_move rfl rfl rfl)) ?_
            refine rg_put (d := 54) (v := .d (.fl (.bool (sEq d.sys x.sys)))) rfl (og rfl (op_move rfl rfl rfl)) ?_
            rcases fot (sEq d.sys x.sys) with h24 | h24
            · skip
              refine rg_put (d := 55) (v := .d (.fl undef)) rfl (on rfl rfl rfl h24) ?_
              refine rg_put (d := 56) (v := .d (.fl (.bool false))) rfl (og rfl (op_pick rfl rfl (by rw [h24]; rfl) rfl)) ?_
              refine rg_put (d := 57) (v := .d (.fl (.bool false))) rfl (og rfl (op_move rfl rfl rfl)) ?_
              refine rg_put (d := 58) (v := .d (.fl undef)) rfl (on rfl rfl rfl rfl) ?_
              refine rg_put (d := 59) (v := .d (.fl (.bool false))) rfl (og rfl (op_pick rfl rfl rfl rfl)) ?_
              refine rg_put (d := 60) (v := .d (.fl (.bool false))) rfl (og rfl (op_move rfl rfl rfl)) ?_
              refine rg_put (d := 61) (v := .d (.fl undef)) rfl (on rfl rfl rfl rfl) ?_
              refine rg_put (d := 62) (v := .d (.fl undef)) rfl (on rfl rfl rfl rfl) ?_
              refine rg_put (d := 63) (v := .d (.fl undef)) rfl (on rfl rfl rfl rfl) ?_
              refine rg_put (d := 64) (v := .d (.fl undef)) rfl (on rfl rfl rfl rfl) ?_
              refine rg_put (d := 65) (v := .d (.fl (.bool false))) rfl (og rfl (op_pick rfl rfl rfl rfl)) ?_
              refine rg_put (d := 6) (v := .d (.fl (.bool false))) rfl (og rfl (op_assign rfl rfl rfl)) ?_
              refine rg_done rfl ?_
              refine a_ret ?_
              show ∃ ds, ResL _ _ _ ds ∧ RV.of ds = _
              refine ⟨[.fl (.bool false)], (.cons (.tmp rfl (.d _)) .nil), ?_⟩
              first
                | (have hu : ap d x e = false := by
                    unfold ap; simp only [h1, h3, h6, h7, h22, h24, Bool.true_or, Bool.false_or, Bool.or_true, Bool.or_false, Bool.not_true, Bool.not_false, cond_true, cond_false, Bool.true_and, Bool.false_and, Bool.and_true, Bool.and_false] <;> rfl
                   rw [hu]; rfl)
                | (exfalso; omega)
            · skip
              refine rg_put (d := 55) (v := .d (.fl (.bool true))) rfl (oy rfl rfl rfl h24 (op_move rfl rfl rfl)) ?_
              refine rg_put (d := 56) (v := .d (.fl (.bool true))) rfl (og rfl (op_pick rfl rfl (by rw [h24]; rfl) rfl)) ?_
              refine rg_put (d := 57) (v := .d (.fl (.bool true))) rfl (og rfl (op_move rfl rfl rfl)) ?_
              refine rg_put (d := 58) (v := .d (.fl (.bool ((inW d.win ((ix x.stops 0).time)))))) rfl (oy rfl rfl rfl rfl (op_move rfl rfl rfl)) ?_
              refine rg_put (d := 59) (v := .d (.fl (.bool ((inW d.win ((ix x.stops 0).time)))))) rfl (og rfl (op_pick rfl rfl rfl rfl)) ?_
              refine rg_put (d := 60) (v := .d (.fl (.bool ((inW d.win ((ix x.stops 0).time)))))) rfl (og rfl (op_move rfl rfl rfl)) ?_
              rcases fot ((inW d.win ((ix x.stops 0).time))) with h25 | h25
              · skip
                refine rg_put (d := 61) (v := .d (.fl undef)) rfl (on rfl rfl rfl h25) ?_
                refine rg_put (d := 62) (v := .d (.fl undef)) rfl (on rfl rfl rfl h25) ?_
                refine rg_put (d := 63) (v := .d (.fl undef)) rfl (on rfl rfl rfl h25) ?_
                refine rg_put (d := 64) (v := .d (.fl undef)) rfl (on rfl rfl rfl h25) ?_
                refine rg_put (d := 65) (v := .d (.fl (.bool false))) rfl (og rfl (op_pick rfl rfl (by rw [h25]; rfl) rfl)) ?_
                refine rg_put (d := 6) (v := .d (.fl (.bool false))) rfl (og rfl (op_assign rfl rfl rfl)) ?_
                refine rg_done rfl ?_
                refine a_ret ?_
                show ∃ ds, ResL _ _ _ ds ∧ RV.of ds = _
                refine ⟨[.fl (.bool false)], (.cons (.tmp rfl (.d _)) .nil), ?_⟩
                first
                  | (have hu : ap d x e = false := by
                      unfold ap; simp only [h1, h3, h6, h7, h22, h24, h25, Bool.true_or, Bool.false_or, Bool.or_true, Bool.or_false, Bool.not_true, Bool.not_false, cond_true, cond_false, Bool.true_and, Bool.false_and, Bool.and_true, Bool.and_false] <;> rfl
                     rw [hu]; rfl)
                  | (exfalso; omega)
              · skip
                refine rg_put (d := 61) (v := .d (.fl (.int .i64 e))) rfl (oy rfl rfl rfl h25 (op_move rfl rfl rfl)) ?_
                refine rg_put (d := 62) (v := .pt 101 9) rfl (oy rfl rfl rfl h25 (of_eff (s_field_pt rfl Try.underlying25 rfl ti3 rfl rfl rfl) rfl)) ?_
                refine rg_put (d := 63) (v := .d (.fl (.int .i64 d.least))) rfl (oy rfl rfl rfl h25 (op_load_pt rfl Try.underlying3 rfl rfl rfl rfl rfl)) ?_
                refine rg_put (d := 64) (v := .d (.fl (.bool ((decide (d.least ≤ e)))))) rfl (oy rfl rfl rfl h25 (op_bin rfl rfl rfl (b_geq _ _ _ _) rfl)) ?_
                refine rg_put (d := 65) (v := .d (.fl (.bool ((decide (d.least ≤ e)))))) rfl (og rfl (op_pick rfl rfl (by rw [h25]; rfl) rfl)) ?_
                refine rg_put (d := 6) (v := .d (.fl (.bool ((decide (d.least ≤ e)))))) rfl (og rfl (op_assign rfl rfl rfl)) ?_
                refine rg_done rfl ?_
                refine a_ret ?_
                show ∃ ds, ResL _ _ _ ds ∧ RV.of ds = _
                refine ⟨[.fl (.bool ((decide (d.least ≤ e))))], (.cons (.tmp rfl (.d _)) .nil), ?_⟩
                first
                  | (have hu : ap d x e = (decide (d.least ≤ e)) := by
                      unfold ap; simp only [h1, h3, h6, h7, h22, h24, h25, Bool.true_or, Bool.false_or, Bool.or_true, Bool.or_false, Bool.not_true, Bool.not_false, cond_true, cond_false, Bool.true_and, Bool.false_and, Bool.and_true, Bool.and_false] <;> rfl
                     rw [hu]; rfl)
                  | (exfalso; omega)
          · skip
            have h26 := t_beq h22
            refine dr_put (d := 44) (v := .d (.fl undef)) rfl (on rfl rfl rfl h22) ?_
            refine dr_put (d := 45) (v := .d (.fl undef)) rfl (on rfl rfl rfl h22) ?_
            refine dr_put (d := 46) (v := .d (.fl undef)) rfl (on rfl rfl rfl h22) ?_
            refine dr_put (d := 47) (v := .d (.fl undef)) rfl (on rfl rfl rfl h22) ?_
            refine dr_put (d := 48) (v := .d (.fl undef)) rfl (on rfl rfl rfl h22) ?_
            refine dr_put (d := 49) (v := .d (.fl undef)) rfl (on rfl rfl rfl h22) ?_
            refine dr_put (d := 50) (v := .d (.fl undef)) rfl (on rfl rfl rfl h22) ?_
            refine dr_put (d := 51) (v := .d (.fl undef)) rfl (on rfl rfl rfl h22) ?_
            refine dr_put (d := 52) (v := .d (.fl (.bool true))) rfl (og rfl (op_pick rfl rfl (by rw [h22]; rfl) rfl)) ?_
            refine dr_put (d := 9) (v := .d (.fl (.bool true))) rfl (og rfl (op_assign rfl rfl rfl)) ?_
            refine dr_done rfl (sepB_of [0, 1, 3, 7, 15, 31, 63, 31, 159, 415, 927, 1951, 4095, 8191, 16383] (by kernel_rfl)) (by kernel_rfl) ?_
            refine a_rseq ?_
            refine rg_put (d := 53) (v := .d (.fl (.bool (sEq d.sys x.sys)))) rfl (og rfl (op_move rfl rfl rfl)) ?_
            refine rg_put (d := 54) (v := .d (.fl (.bool (sEq d.sys x.sys)))) rfl (og rfl (op_move rfl rfl rfl)) ?_
            rcases fot (sEq d.sys x.sys) with h27 | h27
            · skip
              refine rg_put (d := 55) (v := .d (.fl undef)) rfl (on rfl rfl rfl h27) ?_
              refine rg_put (d := 56) (v := .d (.fl (.bool false))) rfl (og rfl (op_pick rfl rfl (by rw [h27]; rfl) rfl)) ?_
              refine rg_put (d := 57) (v := .d (.fl (.bool false))) rfl (og rfl (op_move rfl rfl rfl)) ?_
              refine rg_put (d := 58) (v := .d (.fl undef)) rfl (on rfl rfl rfl rfl) ?_
              refine rg_put (d := 59) (v := .d (.fl (.bool false))) rfl (og rfl (op_pick rfl rfl rfl rfl)) ?_
              refine rg_put (d := 60) (v := .d (.fl (.bool false))) rfl (og rfl (op_move rfl rfl rfl)) ?_
              refine rg_put (d := 61) (v := .d (.fl undef)) rfl (on rfl rfl rfl rfl) ?_
              refine rg_put (d := 62) (v := .d (.fl undef)) rfl (on rfl rfl rfl rfl) ?_
              refine rg_put (d := 63) (v := .d (.fl undef)) rfl (on rfl rfl rfl rfl) ?_
              refine rg_put (d := 64) (v := .d (.fl undef)) rfl (on rfl rfl rfl rfl) ?_
              refine rg_put (d := 65) (v := .d (.fl (.bool false))) rfl (og rfl (op_pick rfl rfl rfl rfl)) ?_
              refine rg_put (d := 6) (v := .d (.fl (.bool false))) rfl (og rfl (op_assign rfl rfl rfl)) ?_
              refine rg_done rfl ?_
              refine a_ret ?_
              show ∃ ds, ResL _ _ _ ds ∧ RV.of ds = _
              refine ⟨[.fl (.bool false)], (.cons (.tmp rfl (.d _)) .nil), ?_⟩
              first
                | (have hu : ap d x e = false := by
                    unfold ap; simp only [h1, h3, h6, h7, h22, h27, Bool.true_or, Bool.false_or, Bool.or_true, Bool.or_false, Bool.not_true, Bool.not_false, cond_true, cond_false, Bool.true_and, Bool.false_and, Bool.and_true, Bool.and_false] <;> rfl
                   rw [hu]; rfl)
                | (exfalso; omega)
            · skip
              refine rg_put (d := 55) (v := .d (.fl (.bool true))) rfl (oy rfl rfl rfl h27 (op_move rfl rfl rfl)) ?_
              refine rg_put (d := 56) (v := .d (.fl (.bool true))) rfl (og rfl (op_pick rfl rfl (by rw [h27]; rfl) rfl)) ?_
              refine rg_put (d := 57) (v := .d (.fl (.bool true))) rfl (og rfl (op_move rfl rfl rfl)) ?_
              refine rg_put (d := 58) (v := .d (.fl (.bool true))) rfl (oy rfl rfl rfl rfl (op_move rfl rfl rfl)) ?_
              refine rg_put (d := 59) (v := .d (.fl (.bool true))) rfl (og rfl (op_pick rfl rfl rfl rfl)) ?_
              refine rg_put (d := 60) (v := .d (.fl (.bool true))) rfl (og rfl (op_move rfl rfl rfl)) ?_
              refine rg_put (d := 61) (v := .d (.fl (.int .i64 e))) rfl (oy rfl rfl rfl rfl (op_move rfl rfl rfl)) ?_
              refine rg_put (d := 62) (v := .pt 101 9) rfl (oy rfl rfl rfl rfl (of_eff (s_field_pt rfl Try.underlying25 rfl ti3 rfl rfl rfl) rfl)) ?_
              refine rg_put (d := 63) (v := .d (.fl (.int .i64 d.least))) rfl (oy rfl rfl rfl rfl (op_load_pt rfl Try.underlying3 rfl rfl rfl rfl rfl)) ?_
              refine rg_put (d := 64) (v := .d (.fl (.bool ((decide (d.least ≤ e)))))) rfl (oy rfl rfl rfl rfl (op_bin rfl rfl rfl (b_geq _ _ _ _) rfl)) ?_
              refine rg_put (d := 65) (v := .d (.fl (.bool ((decide (d.least ≤ e)))))) rfl (og rfl (op_pick rfl rfl rfl rfl)) ?_
              refine rg_put (d := 6) (v := .d (.fl (.bool ((decide (d.least ≤ e)))))) rfl (og rfl (op_assign rfl rfl rfl)) ?_
              refine rg_done rfl ?_
              refine a_ret ?_
              show ∃ ds, ResL _ _ _ ds ∧ RV.of ds = _
              refine ⟨[.fl (.bool ((decide (d.least ≤ e))))], (.cons (.tmp rfl (.d _)) .nil), ?_⟩
              first
                | (have hu : ap d x e = (decide (d.least ≤ e)) := by
                    unfold ap; simp only [h1, h3, h6, h7, h22, h27, Bool.true_or, Bool.false_or, Bool.or_true, Bool.or_false, Bool.not_true, Bool.not_false, cond_true, cond_false, Bool.true_and, Bool.false_and, Bool.and_true, Bool.and_false] <;> rfl
                   rw [hu]; rfl)
                | (exfalso; omega)
      · skip
        refine rg_put (d := 23) (v := .d (.fl undef)) rfl (on rfl rfl rfl h6) ?_
        refine rg_put (d := 24) (v := .d (.fl undef)) rfl (on rfl rfl rfl h6) ?_
        refine rg_put (d := 25) (v := .d (.fl undef)) rfl (on rfl rfl rfl h6) ?_
        refine rg_put (d := 26) (v := .d (.fl undef)) rfl (on rfl rfl rfl h6) ?_
        refine rg_put (d := 27) (v := .d (.fl undef)) rfl (on rfl rfl rfl h6) ?_
        refine rg_put (d := 28) (v := .d (.fl (.bool true))) rfl (og rfl (op_pick rfl rfl (by rw [h6]; rfl) rfl)) ?_
        refine rg_put (d := 7) (v := .d (.fl (.bool true))) rfl (og rfl (op_assign rfl rfl rfl)) ?_
        refine rg_done rfl ?_
        refine a_rseq ?_
        refine rg_put (d := 29) (v := .pt 101 5) rfl (og rfl (of_eff (s_field_pt rfl Try.underlying25 rfl ti3 rfl rfl rfl) rfl)) ?_
        refine rg_put (d := 30) (v := .d (.fl (.int .i64 d.cls))) rfl (og rfl (op_load_pt rfl Try.underlying3 rfl rfl rfl rfl rfl)) ?_
        refine rg_put (d := 31) (v := .d (.fl (.bool (d.cls == 0)))) rfl (og rfl (op_bin rfl rfl rfl (b_eql _ _ _ _) rfl)) ?_
        refine rg_put (d := 32) (v := .d (.fl (.bool (d.cls == 0)))) rfl (og rfl (op_move rfl rfl rfl)) ?_
        rcases fot (d.cls == 0) with h28 | h28
        · skip
          have h29 := f_beq h28
          refine rg_put (d := 33) (v := .pt 101 5) rfl (oy rfl rfl rfl h28 (of_eff (s_field_pt rfl Try.underlying25 rfl ti3 rfl rfl rfl) rfl)) ?_
          refine rg_put (d := 34) (v := .d (.fl (.int .i64 d.cls))) rfl (oy rfl rfl rfl h28 (op_load_pt rfl Try.underlying3 rfl rfl rfl rfl rfl)) ?_
          refine rg_put (d := 35) (v := .pt 102 3) rfl (oy rfl rfl rfl h28 (of_eff (s_field_pt rfl Try.underlying39 rfl ti3 rfl rfl rfl) rfl)) ?_
          refine rg_put (d := 36) (v := .d (.fl (.int .i64 x.cls))) rfl (oy rfl rfl rfl h28 (op_load_pt rfl Try.underlying3 rfl rfl rfl rfl rfl)) ?_
          refine rg_put (d := 37) (v := .d (.fl (.bool (d.cls == x.cls)))) rfl (oy rfl rfl rfl h28 (op_bin rfl rfl rfl (b_eql _ _ _ _) rfl)) ?_
          refine rg_put (d := 38) (v := .d (.fl (.bool (d.cls == x.cls)))) rfl (og rfl (op_pick rfl rfl (by rw [h28]; rfl) rfl)) ?_
          refine rg_put (d := 8) (v := .d (.fl (.bool (d.cls == x.cls)))) rfl (og rfl (op_assign rfl rfl rfl)) ?_
          refine rg_done rfl ?_
          refine a_dseq (by kernel_rfl) ?_
          refine dr_put (d := 39) (v := .pt 101 6) rfl (og rfl (of_eff (s_field_pt rfl Try.underlying25 rfl ti23 rfl rfl rfl) rfl)) ?_
          refine dr_put (d := 40) (v := .pt 101 6) rfl (og rfl (of_eff (s_field_pt rfl Try.underlying23 rfl ti3 rfl rfl rfl) rfl)) ?_
          refine dr_put (d := 41) (v := .d (.fl (.int .i64 d.win.days))) rfl (og rfl (op_load_pt rfl Try.underlying3 rfl rfl rfl rfl rfl)) ?_
          refine dr_put (d := 42) (v := .d (.fl (.bool (d.win.days == 0)))) rfl (og rfl (op_bin rfl rfl rfl (b_eql _ _ _ _) rfl)) ?_
          refine dr_put (d := 43) (v := .d (.fl (.bool (d.win.days == 0)))) rfl (og rfl (op_move rfl rfl rfl)) ?_
          rcases fot (d.win.days == 0) with h30 | h30
          · skip
            have h31 := f_beq h30
            refine dr_put (d := 44) (v := .pt 101 6) rfl (oy rfl rfl rfl h30 (of_eff (s_field_pt rfl Try.underlying25 rfl ti23 rfl rfl rfl) rfl)) ?_
            refine dr_put (d := 45) (v := .d (.ag (eWd d.win))) rfl (oy rfl rfl rfl h30 (of_eff (s_load_pts rfl Try.underlying23 rfl ti23 rfl rfl rfl rfl) rfl)) ?_
            refine dr_put (d := 46) (v := .pt 102 4) rfl (oy rfl rfl rfl h30 (of_eff (s_field_pt rfl Try.underlying39 rfl ti37 rfl rfl rfl) rfl)) ?_
            refine dr_put (d := 47) (v := .d (.sl 3 (List.map eSp x.stops))) rfl (oy rfl rfl rfl h30 (op_load_pt rfl Try.underlying37 rfl rfl rfl rfl rfl)) ?_
            refine dr_put (d := 48) (v := .el ((eSp (ix x.stops 0)))) rfl (oy rfl rfl rfl h30 (s_index rfl Try.underlying37 ti47 rfl rfl (by omega) (row_at (by omega)) rfl)) ?_
            refine dr_put (d := 49) (v := .el ((List.drop 1 ((eSp (ix x.stops 0)))))) rfl (oy rfl rfl rfl h30 (of_eff (s_field_el rfl Try.underlying47 rfl ti3 rfl rfl rfl) rfl)) ?_
            refine dr_put (d := 50) (v := .d (.fl (.int .i64 ((ix x.stops 0).time)))) rfl (oy rfl rfl rfl h30 (op_load_el rfl Try.underlying3 rfl rfl rfl rfl)) ?_
            refine dr_put (d := 51) (v := .d (.fl (.bool ((inW d.win ((ix x.stops 0).time)))))) rfl (oy rfl rfl rfl h30 (op_call rfl Try.func31 nm31 rfl (.cons rfl (.d _) (.cons rfl (.d _) .nil)) (inW20 d.win ((ix x.stops 0).time)) rfl)) ?_
            refine dr_put (d := 52) (v := .d (.fl (.bool ((inW d.win ((ix x.stops 0).time)))))) rfl (og rfl (op_pick rfl rfl (by rw [h30]; rfl) rfl)) ?_
            refine dr_put (d := 9) (v := .d (.fl (.bool ((inW d.win ((ix x.stops 0).time)))))) rfl (og rfl (op_assign rfl rfl rfl)) ?_
            refine dr_done rfl (sepB_of [0, 1, 3, 7, 15, 31, 63, 31, 159, 415, 927, 1951, 4095, 8191, 16383] (by kernel_rfl)) (by kernel_rfl) ?_
            refine a_rseq ?_
            refine rg_put (d := 53) (v := .d (.fl (.bool true))) rfl (og rfl (op_move rfl rfl rfl)) ?_
            refine rg_put (d := 54) (v := .d (.fl (.bool true))) rfl (og rfl (op_move rfl rfl rfl)) ?_
            refine rg_put (d := 55) (v := .d (.fl (.bool (d.cls == x.cls)))) rfl (oy rfl rfl rfl rfl (op_move rfl rfl rfl)) ?_
            refine rg_put (d := 56) (v := .d (.fl (.bool (d.cls == x.cls)))) rfl (og rfl (op_pick rfl rfl rfl rfl)) ?_
            refine rg_put (d := 57) (v := .d (.fl (.bool (d.cls == x.cls)))) rfl (og rfl (op_move rfl rfl rfl)) ?_
            rcases fot (d.cls == x.cls) with h32 | h32
            · skip
              have h33 := f_beq h32
              refine rg_put (d := 58) (v := .d (.fl undef)) rfl (on rfl rfl rfl h32) ?_
              refine rg_put (d := 59) (v := .d (.fl (.bool false))) rfl (og rfl (op_pick rfl rfl (by rw [h32]; rfl) rfl)) ?_
              refine rg_put (d := 60) (v := .d (.fl (.bool false))) rfl (og rfl (op_move rfl rfl rfl)) ?_
              refine rg_put (d := 61) (v := .d (.fl undef)) rfl (on rfl rfl rfl rfl) ?_
              refine rg_put (d := 62) (v := .d (.fl undef)) rfl (on rfl rfl rfl rfl) ?_
              refine rg_put (d := 63) (v := .d (.fl undef)) rfl (on rfl rfl rfl rfl) ?_
              refine rg_put (d := 64) (v := .d (.fl undef)) rfl (on rfl rfl rfl rfl) ?_
              refine rg_put (d := 65) (v := .d (.fl (.bool false))) rfl (og rfl (op_pick rfl rfl rfl rfl)) ?_
              refine rg_put (d := 6) (v := .d (.fl (.bool false))) rfl (og rfl (op_assign rfl rfl rfl)) ?_
              refine rg_done rfl ?_
              refine a_ret ?_
              show ∃ ds, ResL _ _ _ ds ∧ RV.of ds = _
              refine ⟨[.fl (.bool false)], (.cons (.tmp rfl (.d _)) .nil), ?_⟩
              first
                | (have hu : ap d x e = false := by
                    unfold ap; simp only [h1, h3, h6, h28, h30, h32, Bool.true_or, Bool.false_or, Bool.or_true, Bool.or_false, Bool.not_true, Bool.not_false, cond_true, cond_false, Bool.true_and, Bool.false_and, Bool.and_true, Bool.and_false] <;> rfl
                   rw [hu]; rfl)
                | (exfalso; omega)
            · skip
              have h34 := t_beq h32
              refine rg_put (d := 58) (v := .d (.fl (.bool ((inW d.win ((ix x.stops 0).time)))))) rfl (oy rfl rfl rfl h32 (op_move rfl rfl rfl)) ?_
              refine rg_put (d := 59) (v := .d (.fl (.bool ((inW d.win ((ix x.stops 0).time)))))) rfl (og rfl (op_pick rfl rfl (by rw [h32]; rfl) rfl)) ?_
              refine rg_put (d := 60) (v := .d (.fl (.bool ((inW d.win ((ix x.stops 0).time)))))) rfl (og rfl (op_move rfl rfl rfl)) ?_
              rcases fot ((inW d.win ((ix x.stops 0).time))) with h35 | h35
              · skip
                refine rg_put (d := 61) (v := .d (.fl undef)) rfl (on rfl rfl rfl h35) ?_
                refine rg_put (d := 62) (v := .d (.fl undef)) rfl (on rfl rfl rfl h35) ?_
                refine rg_put (d := 63) (v := .d (.fl undef)) rfl (on rfl rfl rfl h35) ?_
                refine rg_put (d := 64) (v := .d (.fl undef)) rfl (on rfl rfl rfl h35) ?_
                refine rg_put (d := 65) (v := .d (.fl (.bool false))) rfl (og rfl (op_pick rfl rfl (by rw [h35]; rfl) rfl)) ?_
                refine rg_put (d := 6) (v := .d (.fl (.bool false))) rfl (og rfl (op_assign rfl rfl rfl)) ?_
                refine rg_done rfl ?_
                refine a_ret ?_
                show ∃ ds, ResL _ _ _ ds ∧ RV.of ds = _
                refine ⟨[.fl (.bool false)], (.cons (.tmp rfl (.d _)) .nil), ?_⟩
                first
                  | (have hu : ap d x e = false := by
                      unfold ap; simp only [h1, h3, h6, h28, h30, h32, h35, Bool.true_or, Bool.false_or, Bool.or_true, Bool.or_false, Bool.not_true, Bool.not_false, cond_true, cond_false, Bool.true_and, Bool.false_and, Bool.and_true, Bool.and_false] <;> rfl
                     rw [hu]; rfl)
                  | (exfalso; omega)
              · skip
                refine rg_put (d := 61) (v := .d (.fl (.int .i64 e))) rfl (oy rfl rfl rfl h35 (op_move rfl rfl rfl)) ?_
                refine rg_put (d := 62) (v := .pt 101 9) rfl (oy rfl rfl rfl h35 (of_eff (s_field_pt rfl Try.underlying25 rfl ti3 rfl rfl rfl) rfl)) ?_
                refine rg_put (d := 63) (v := .d (.fl (.int .i64 d.least))) rfl (oy rfl rfl rfl h35 (op_load_pt rfl Try.underlying3 rfl rfl rfl rfl rfl)) ?_
                refine rg_put (d := 64) (v := .d (.fl (.bool ((decide (d.least ≤ e)))))) rfl (oy rfl rfl rfl h35 (op_bin rfl rfl rfl (b_geq _ _ _ _) rfl)) ?_
                refine rg_put (d := 65) (v := .d (.fl (.bool ((decide (d.least ≤ e)))))) rfl (og rfl (op_pick rfl rfl (by rw [h35]; rfl) rfl)) ?_
                refine rg_put (d := 6) (v := .d (.fl (.bool ((decide (d.least ≤ e)))))) rfl (og rfl (op_assign rfl rfl rfl)) ?_
                refine rg_done rfl ?_
                refine a_ret ?_
                show ∃ ds, ResL _ _ _ ds ∧ RV.of ds = _
                refine ⟨[.fl (.bool ((decide (d.least ≤ e))))], (.cons (.tmp rfl (.d _)) .nil), ?_⟩
                first
                  | (have hu : ap d x e = (decide (d.least ≤ e)) := by
                      unfold ap; simp only [h1, h3, h6, h28, h30, h32, h35, Bool.true_or, Bool.false_or, Bool.or_true, Bool.or_false, Bool.not_true, Bool.not_false, cond_true, cond_false, Bool.true_and, Bool.false_and, Bool.and_true, Bool.and_false] <;> rfl
                     rw [hu]; rfl)
                  | (exfalso; omega)
          · skip
            have h36 := t_beq h30
            refine dr_put (d := 44) (v := .d (.fl undef)) rfl (on rfl rfl rfl h30) ?_
            refine dr_put (d := 45) (v := .d (.fl undef)) rfl (on rfl rfl rfl h30) ?_
            refine dr_put (d := 46) (v := .d (.fl undef)) rfl (on rfl rfl rfl h30) ?_
            refine dr_put (d := 47) (v := .d (.fl undef)) rfl (on rfl rfl rfl h30) ?_
            refine dr_put (d := 48) (v := .d (.fl undef)) rfl (on rfl rfl rfl h30) ?_
            refine dr_put (d := 49) (v := .d (.fl undef)) rfl (on rfl rfl rfl h30) ?_
            refine dr_put (d := 50) (v := .d (.fl undef)) rfl (on rfl rfl rfl h30) ?_
            refine dr_put (d := 51) (v := .d (.fl undef)) rfl (on rfl rfl rfl h30) ?_
            refine dr_put (d := 52) (v := .d (.fl (.bool true))) rfl (og rfl (op_pick rfl rfl (by rw [h30]; rfl) rfl)) ?_
            refine dr_put (d := 9) (v := .d (.fl (.bool true))) rfl (og rfl (op_assign rfl rfl rfl)) ?_
            refine dr_done rfl (sepB_of [0, 1, 3, 7, 15, 31, 63, 31, 159, 415, 927, 1951, 4095, 8191, 16383] (by kernel_rfl)) (by kernel_rfl) ?_
            refine a_rseq ?_
            refine rg_put (d := 53) (v := .d (.fl (.bool true))) rfl (og rfl (op_move rfl rfl rfl)) ?_
            refine rg_put (d := 54) (v := .d (.fl (.bool true))) rfl (og rfl (op_move rfl rfl rfl)) ?_
            refine rg_put (d := 55) (v := .d (.fl (.bool (d.cls == x.cls)))) rfl (oy rfl rfl rfl rfl (op_move rfl rfl rfl)) ?_
            refine rg_put (d := 56) (v := .d (.fl (.bool (d.cls == x.cls)))) rfl (og rfl (op_pick rfl rfl rfl rfl)) ?_
            refine rg_put (d := 57) (v := .d (.fl (.bool (d.cls == x.cls)))) rfl (og rfl (op_move rfl rfl rfl)) ?_
            rcases fot (d.cls == x.cls) with h37 | h37
            · skip
              have h38 := f_beq h37
              refine rg_put (d := 58) (v := .d (.fl undef)) rfl (on rfl rfl rfl h37) ?_
              refine rg_put (d := 59) (v := .d (.fl (.bool false))) rfl (og rfl (op_pick rfl rfl (by rw [h37]; rfl) rfl)) ?_
              refine rg_put (d := 60) (v := .d (.fl (.bool false))) rfl (og rfl (op_move rfl rfl rfl)) ?_
              refine rg_put (d := 61) (v := .d (.fl undef)) rfl (on rfl rfl rfl rfl) ?_
              refine rg_put (d := 62) (v := .d (.fl undef)) rfl (on rfl rfl rfl rfl) ?_
              refine rg_put (d := 63) (v := .d (.fl undef)) rfl (on rfl rfl rfl rfl) ?_
              refine rg_put (d := 64) (v := .d (.fl undef)) rfl (on rfl rfl rfl rfl) ?_
              refine rg_put (d := 65) (v := .d (.fl (.bool false))) rfl (og rfl (op_pick rfl rfl rfl rfl)) ?_
              refine rg_put (d := 6) (v := .d (.fl (.bool false))) rfl (og rfl (op_assign rfl rfl rfl)) ?_
              refine rg_done rfl ?_
              refine a_ret ?_
              show ∃ ds, ResL _ _ _ ds ∧ RV.of ds = _
              refine ⟨[.fl (.bool false)], (.cons (.tmp rfl (.d _)) .nil), ?_⟩
              first
                | (have hu : ap d x e = false := by
                    unfold ap; simp only [h1, h3, h6, h28, h30, h37, Bool.true_or, Bool.false_or, Bool.or_true, Bool.or_false, Bool.not_true, Bool.not_false, cond_true, cond_false, Bool.true_and, Bool.false_and, Bool.and_true, Bool.and_false] <;> rfl
                   rw [hu]; rfl)
                | (exfalso; omega)
            · skip
              have h39 := t_beq h37
              refine rg_put (d := 58) (v := .d (.fl (.bool true))) rfl (oy rfl rfl rfl h37 (op_move rfl rfl rfl)) ?_
              refine rg_put (d := 59) (v := .d (.fl (.bool true))) rfl (og rfl (op_pick rfl rfl (by rw [h37]; rfl) rfl)) ?_
              refine rg_put (d := 60) (v := .d (.fl (.bool true))) rfl (og rfl (op_move rfl rfl rfl)) ?_
              refine rg_put (d := 61) (v := .d (.fl (.int .i64 e))) rfl (oy rfl rfl rfl rfl (op_move rfl rfl rfl)) ?_
              refine rg_put (d := 62) (v := .pt 101 9) rfl (oy rfl rfl rfl rfl (of_eff (s_field_pt rfl Try.underlying25 rfl ti3 rfl rfl rfl) rfl)) ?_
              refine rg_put (d := 63) (v := .d (.fl (.int .i64 d.least))) rfl (oy rfl rfl rfl rfl (op_load_pt rfl Try.underlying3 rfl rfl rfl rfl rfl)) ?_
              refine rg_put (d := 64) (v := .d (.fl (.bool ((decide (d.least ≤ e)))))) rfl (oy rfl rfl rfl rfl (op_bin rfl rfl rfl (b_geq _ _ _ _) rfl)) ?_
              refine rg_put (d := 65) (v := .d (.fl (.bool ((decide (d.least ≤ e)))))) rfl (og rfl (op_pick rfl rfl rfl rfl)) ?_
              refine rg_put (d := 6) (v := .d (.fl (.bool ((decide (d.least ≤ e)))))) rfl (og rfl (op_assign rfl rfl rfl)) ?_
              refine rg_done rfl ?_
              refine a_ret ?_
              show ∃ ds, ResL _ _ _ ds ∧ RV.of ds = _
              refine ⟨[.fl (.bool ((decide (d.least ≤ e))))], (.cons (.tmp rfl (.d _)) .nil), ?_⟩
              first
                | (have hu : ap d x e = (decide (d.least ≤ e)) := by
                    unfold ap; simp only [h1, h3, h6, h28, h30, h37, Bool.true_or, Bool.false_or, Bool.or_true, Bool.or_false, Bool.not_true, Bool.not_false, cond_true, cond_false, Bool.true_and, Bool.false_and, Bool.and_true, Bool.and_false] <;> rfl
                   rw [hu]; rfl)
                | (exfalso; omega)
        · skip
          have h40 := t_beq h28
          refine rg_put (d := 33) (v := .d (.fl undef)) rfl (on rfl rfl rfl h28) ?_
          refine rg_put (d := 34) (v := .d (.fl undef)) rfl (on rfl rfl rfl h28) ?_
          refine rg_put (d := 35) (v := .d (.fl undef)) rfl (on rfl rfl rfl h28) ?_
          refine rg_put (d := 36) (v := .d (.fl undef)) rfl (on rfl rfl rfl h28) ?_
          refine rg_put (d := 37) (v := .d (.fl undef)) rfl (on rfl rfl rfl h28) ?_
          refine rg_put (d := 38) (v := .d (.fl (.bool true))) rfl (og rfl (op_pick rfl rfl (by rw [h28]; rfl) rfl)) ?_
          refine rg_put (d := 8) (v := .d (.fl (.bool true))) rfl (og rfl (op_assign rfl rfl rfl)) ?_
          refine rg_done rfl ?_
          refine a_dseq (by kernel_rfl) ?_
          refine dr_put (d := 39) (v := .pt 101 6) rfl (og rfl (of_eff (s_field_pt rfl Try.underlying25 rfl ti23 rfl rfl rfl) rfl)) ?_
          refine dr_put (d := 40) (v := .pt 101 6) rfl (og rfl (of_eff (s_field_pt rfl Try.underlying23 rfl ti3 rfl rfl rfl) rfl)) ?_
          refine dr_put (d := 41) (v := .d (.fl (.int .i64 d.win.days))) rfl (og rfl (op_load_pt rfl Try.underlying3 rfl rfl rfl rfl rfl)) ?_
          refine dr_put (d := 42) (v := .d (.fl (.bool (d.win.days == 0)))) rfl (og rfl (op_bin rfl rfl rfl (b_eql _ _ _ _) rfl)) ?_
          refine dr_put (d := 43) (v := .d (.fl (.bool (d.win.days == 0)))) rfl (og rfl (op_move rfl rfl rfl)) ?_
          rcases fot (d.win.days == 0) with h41 | h41
          · skip
            have h42 := f_beq h41
            refine dr_put (d := 44) (v := .pt 101 6) rfl (oy rfl rfl rfl h41 (of_eff (s_field_pt rfl Try.underlying25 rfl ti23 rfl rfl rfl) rfl)) ?_
            refine dr_put (d := 45) (v := .d (.ag (eWd d.win))) rfl (oy rfl rfl rfl h41 (of_eff (s_load_pts rfl Try.underlying23 rfl ti23 rfl rfl rfl rfl) rfl)) ?_
            refine dr_put (d := 46) (v := .pt 102 4) rfl (oy rfl rfl rfl h41 (of_eff (s_field_pt rfl Try.underlying39 rfl ti37 rfl rfl rfl) rfl)) ?_
            refine dr_put (d := 47) (v := .d (.sl 3 (List.map eSp x.stops))) rfl (oy rfl rfl rfl h41 (op_load_pt rfl Try.underlying37 rfl rfl rfl rfl rfl)) ?_
            refine dr_put (d := 48) (v := .el ((eSp (ix x.stops 0)))) rfl (oy rfl rfl rfl h41 (s_index rfl Try.underlying37 ti47 rfl rfl (by omega) (row_at (by omega)) rfl)) ?_
            refine dr_put (d := 49) (v := .el ((List.drop 1 ((eSp (ix x.stops 0)))))) rfl (oy rfl rfl rfl h41 (of_eff (s_field_el rfl Try.underlying47 rfl ti3 rfl rfl rfl) rfl)) ?_
            refine dr_put (d := 50) (v := .d (.fl (.int .i64 ((ix x.stops 0).time)))) rfl (oy rfl rfl rfl h41 (op_load_el rfl Try.underlying3 rfl rfl rfl rfl)) ?_
            refine dr_put (d := 51) (v := .d (.fl (.bool ((inW d.win ((ix x.stops 0).time)))))) rfl (oy rfl rfl rfl h41 (op_call rfl Try.func31 nm31 rfl (.cons rfl (.d _) (.cons rfl (.d _) .nil)) (inW20 d.win ((ix x.stops 0).time)) rfl)) ?_
            refine dr_put (d := 52) (v := .d (.fl (.bool ((inW d.win ((ix x.stops 0).time)))))) rfl (og rfl (op_pick rfl rfl (by rw [h41]; rfl) rfl)) ?_
            refine dr_put (d := 9) (v := .d (.fl (.bool ((inW d.win ((ix x.stops 0).time)))))) rfl (og rfl (op_assign rfl rfl rfl)) ?_
            refine dr_done rfl (sepB_of [0, 1, 3, 7, 15, 31, 63, 31, 159, 415, 927, 1951, 4095, 8191, 16383] (by kernel_rfl)) (by kernel_rfl) ?_
            refine a_rseq ?_
            refine rg_put (d := 53) (v := .d (.fl (.bool true))) rfl (og rfl (op_move rfl rfl rfl)) ?_
            refine rg_put (d := 54) (v := .d (.fl (.bool true))) rfl (og rfl (op_move rfl rfl rfl)) ?_
            refine rg_put (d := 55) (v := .d (.fl (.bool true))) rfl (oy rfl rfl rfl rfl (op_move rfl rfl rfl)) ?_
            refine rg_put (d := 56) (v := .d (.fl (.bool true))) rfl (og rfl (op_pick rfl rfl rfl rfl)) ?_
            refine rg_put (d := 57) (v := .d (.fl (.bool true))) rfl (og rfl (op_move rfl rfl rfl)) ?_
            refine rg_put (d := 58) (v := .d (.fl (.bool ((inW d.win ((ix x.stops 0).time)))))) rfl (oy rfl rfl rfl rfl (op_move rfl rfl rfl)) ?_
            refine rg_put (d := 59) (v := .d (.fl (.bool ((inW d.win ((ix x.stops 0).time)))))) rfl (og rfl (op_pick rfl rfl rfl rfl)) ?_
            refine rg_put (d := 60) (v := .d (.fl (.bool ((inW d.win ((ix x.stops 0).time)))))) rfl (og rfl (op_move rfl rfl rfl)) ?_
            rcases fot ((inW d.win ((ix x.stops 0).time))) with h43 | h43
            · skip
              refine rg_put (d := 61) (v := .d (.fl undef)) rfl (on rfl rfl rfl h43) ?_
              refine rg_put (d := 62) (v := .d (.fl undef)) rfl (on rfl rfl rfl h43) ?_
              refine rg_put (d := 63) (v := .d (.fl undef)) rfl (on rfl rfl rfl h43) ?_
              refine rg_put (d := 64) (v := .d (.fl undef)) rfl (on rfl rfl rfl h43) ?_
              refine rg_put (d := 65) (v := .d (.fl (.bool false))) rfl (og rfl (op_pick rfl rfl (by rw [h43]; rfl) rfl)) ?_
              refine rg_put (d := 6) (v := .d (.fl (.bool false))) rfl (og rfl (op_assign rfl rfl rfl)) ?_
              refine rg_done rfl ?_
              refine a_ret ?_
              show ∃ ds, ResL _ _ _ ds ∧ RV.of ds = _
              refine ⟨[.fl (.bool false)], (.cons (.tmp rfl (.d _)) .nil), ?_⟩
              first
                | (have hu : ap d x e = false := by
                    unfold ap; simp only [h1, h3, h6, h28, h41, h43, Bool.true_or, Bool.false_or, Bool.or_true, Bool.or_false, Bool.not_true, Bool.not_false, cond_true, cond_false, Bool.true_and, Bool.false_and, Bool.and_true, Bool.and_false] <;> rfl
                   rw [hu]; rfl)
                | (exfalso; omega)
            · skip
              refine rg_put (d := 61) (v := .d (.fl (.int .i64 e))) rfl (oy rfl rfl rfl h43 (op_move rfl rfl rfl)) ?_
              refine rg_put (d := 62) (v := .pt 101 9) rfl (oy rfl rfl rfl h43 (of_eff (s_field_pt rfl Try.underlying25 rfl ti3 rfl rfl rfl) rfl)) ?_
              refine rg_put (d := 63) (v := .d (.fl (.int .i64 d.least))) rfl (oy rfl rfl rfl h43 (op_load_pt rfl Try.underlying3 rfl rfl rfl rfl rfl)) ?_
              refine rg_put (d := 64) (v := .d (.fl (.bool ((decide (d.least ≤ e)))))) rfl (oy rfl rfl rfl h43 (op_bin rfl rfl rfl (b_geq _ _ _ _) rfl)) ?_
              refine rg_put (d := 65) (v := .d (.fl (.bool ((decide (d.least ≤ e)))))) rfl (og rfl (op_pick rfl rfl (by rw [h43]; rfl) rfl)) ?_
              refine rg_put (d := 6) (v := .d (.fl (.bool ((decide (d.least ≤ e)))))) rfl (og rfl (op_assign rfl rfl rfl)) ?_
              refine rg_done rfl ?_
              refine a_ret ?_
              show ∃ ds, ResL _ _ _ ds ∧ RV.of ds = _
              refine ⟨[.fl (.bool ((decide (d.least ≤ e))))], (.cons (.tmp rfl (.d _)) .nil), ?_⟩
              first
                | (have hu : ap d x e = (decide (d.least ≤ e)) := by
                    unfold ap; simp only [h1, h3, h6, h28, h41, h43, Bool.true_or, Bool.false_or, Bool.or_true, Bool.or_false, Bool.not_true, Bool.not_false, cond_true, cond_false, Bool.true_and, Bool.false_and, Bool.and_true, Bool.and_false] <;> rfl
                   rw [hu]; rfl)
                | (exfalso; omega)
          · skip
            have h44 := t_beq h41
            refine dr_put (d := 44) (v := .d (.fl undef)) rfl (on rfl rfl rfl h41) ?_
            refine dr_put (d := 45) (v := .d (.fl undef)) rfl (on rfl rfl rfl h41) ?_
            refine dr_put (d := 46) (v := .d (.fl undef)) rfl (on rfl rfl rfl h41) ?_
            refine dr_put (d := 47) (v := .d (.fl undef)) rfl (on rfl rfl rfl h41) ?_
            refine dr_put (d := 48) (v := .d (.fl undef)) rfl (on rfl rfl rfl h41) ?_
            refine dr_put (d := 49) (v := .d (.fl undef)) rfl (on rfl rfl rfl h41) ?_
            refine dr_put (d := 50) (v := .d (.fl undef)) rfl (on rfl rfl rfl h41) ?_
            refine dr_put (d := 51) (v := .d (.fl undef)) rfl (on rfl rfl rfl h41) ?_
            refine dr_put (d := 52) (v := .d (.fl (.bool true))) rfl (og rfl (op_pick rfl rfl (by rw [h41]; rfl) rfl)) ?_
            refine dr_put (d := 9) (v := .d (.fl (.bool true))) rfl (og rfl (op_assign rfl rfl rfl)) ?_
            refine dr_done rfl (sepB_of [0, 1, 3, 7, 15, 31, 63, 31, 159, 415, 927, 1951, 4095, 8191, 16383] (by kernel_rfl)) (by kernel_rfl) ?_
            refine a_rseq ?_
            refine rg_put (d := 53) (v := .d (.fl (.bool true))) rfl (og rfl (op_move rfl rfl rfl)) ?_
            refine rg_put (d := 54) (v := .d (.fl (.bool true))) rfl (og rfl (op_move rfl rfl rfl)) ?_
            refine rg_put (d := 55) (v := .d (.fl (.bool true))) rfl (oy rfl rfl rfl rfl (op_move rfl rfl rfl)) ?_
            refine rg_put (d := 56) (v := .d (.fl (.bool true))) rfl (og rfl (op_pick rfl rfl rfl rfl)) ?_
            refine rg_put (d := 57) (v := .d (.fl (.bool true))) rfl (og rfl (op_move rfl rfl rfl)) ?_
            refine rg_put (d := 58) (v := .d (.fl (.bool true))) rfl (oy rfl rfl rfl rfl (op_move rfl rfl rfl)) ?_
            refine rg_put (d := 59) (v := .d (.fl (.bool true))) rfl (og rfl (op_pick rfl rfl rfl rfl)) ?_
            refine rg_put (d := 60) (v := .d (.fl (.bool true))) rfl (og rfl (op_move rfl rfl rfl)) ?_
            refine rg_put (d := 61) (v := .d (.fl (.int .i64 e))) rfl (oy rfl rfl rfl rfl (op_move rfl rfl rfl)) ?_
            refine rg_put (d := 62) (v := .pt 101 9) rfl (oy rfl rfl rfl rfl (of_eff (s_field_pt rfl Try.underlying25 rfl ti3 rfl rfl rfl) rfl)) ?_
            refine rg_put (d := 63) (v := .d (.fl (.int .i64 d.least))) rfl (oy rfl rfl rfl rfl (op_load_pt rfl Try.underlying3 rfl rfl rfl rfl rfl)) ?_
            refine rg_put (d := 64) (v := .d (.fl (.bool ((decide (d.least ≤ e)))))) rfl (oy rfl rfl rfl rfl (op_bin rfl rfl rfl (b_geq _ _ _ _) rfl)) ?_
            refine rg_put (d := 65) (v := .d (.fl (.bool ((decide (d.least ≤ e)))))) rfl (og rfl (op_pick rfl rfl rfl rfl)) ?_
            refine rg_put (d := 6) (v := .d (.fl (.bool ((decide (d.least ≤ e)))))) rfl (og rfl (op_assign rfl rfl rfl)) ?_
            refine rg_done rfl ?_
            refine a_ret ?_
            show ∃ ds, ResL _ _ _ ds ∧ RV.of ds = _
            refine ⟨[.fl (.bool ((decide (d.least ≤ e))))], (.cons (.tmp rfl (.d _)) .nil), ?_⟩
            first
              | (have hu : ap d x e = (decide (d.least ≤ e)) := by
                  unfold ap; simp only [h1, h3, h6, h28, h41, Bool.true_or, Bool.false_or, Bool.or_true, Bool.or_false, Bool.not_true, Bool.not_false, cond_true, cond_false, Bool.true_and, Bool.false_and, Bool.and_true, Bool.and_false] <;> rfl
                 rw [hu]; rfl)
              | (exfalso; omega)
  · skip
    have h45 := t_bne h1
    refine rg_put (d := 14) (v := .d (.fl undef)) rfl (on rfl rfl rfl h1) ?_
    refine rg_put (d := 15) (v := .d (.fl undef)) rfl (on rfl rfl rfl h1) ?_
    refine rg_put (d := 16) (v := .d (.fl undef)) rfl (on rfl rfl rfl h1) ?_
    refine rg_put (d := 17) (v := .d (.fl undef)) rfl (on rfl rfl rfl h1) ?_
    refine rg_put (d := 18) (v := .d (.fl (.bool true))) rfl (og rfl (op_pick rfl rfl (by rw [h1]; rfl) rfl)) ?_
    refine rg_done rfl ?_
    refine a_condK rfl rfl ?_
    refine a_rseq ?_
    refine rg_put (d := 6) (v := .d (.fl (.bool false))) rfl (og rfl (op_assign rfl rfl rfl)) ?_
    refine rg_done rfl ?_
    refine a_ret ?_
    show ∃ ds, ResL _ _ _ ds ∧ RV.of ds = _
    refine ⟨[.fl (.bool false)], (.cons (.tmp rfl (.d _)) .nil), ?_⟩
    first
      | (have hu : ap d x e = false := by
          unfold ap; simp only [h1, Bool.true_or, Bool.false_or, Bool.or_true, Bool.or_false, Bool.not_true, Bool.not_false, cond_true, cond_false, Bool.true_and, Bool.false_and, Bool.and_true, Bool.and_false] <;> rfl
         rw [hu]; rfl)
      | (exfalso; omega)
set_option maxHeartbeats 4000000 in
set_option maxRecDepth 100000 in
theorem law5 (d : Di) (x : Tp) (e : Int) : Ctr Try.prog 5 [.ag (eDi d), .ag (eTp x), .fl (.int .i64 e)] (.d (.fl (.bool true))) := by
  refine ctr (n := 35) (rs := #[.tmp 6]) (L := [(0, .d (.ag (eDi d))), (1, .d (.ag (eTp x))), (2, .d (.fl (.int .i64 e)))]) Try.func5 rfl rfl rfl rfl rfl (fun w0 U0 => ?_)
  refine a_rseq ?_
  refine rg_nam (d := 3) (v := .pt 101 0) (m := 101) (nw := [(101, .bx 25 (eDi d))]) rfl (og rfl (of_eff (op_box 101 rfl rfl rfl rfl) rfl)) rfl ?_
  refine rg_nam (d := 4) (v := .pt 102 0) (m := 102) (nw := [(102, .bx 39 (eTp x))]) rfl (og rfl (of_eff (op_box 102 rfl rfl rfl rfl) rfl)) rfl ?_
  refine rg_put (d := 6) (v := .d (.fl (.bool false))) rfl (og rfl (op_assign rfl rfl rfl)) ?_
  refine rg_done rfl ?_
  refine a_seq ?_
  refine a_rseq ?_
  refine rg_put (d := 7) (v := .d (.ag (eDi d))) rfl (og rfl (of_eff (s_load_pts rfl Try.underlying25 rfl ti25 rfl rfl rfl rfl) rfl)) ?_
  refine rg_put (d := 8) (v := .d (.fl (.bool (sh d)))) rfl (og rfl (op_call rfl Try.func6 nm6 rfl (.cons rfl (.d _) .nil) (shV d) rfl)) ?_
  refine rg_put (d := 9) (v := .d (.fl (.bool ((!(sh d)))))) rfl (og rfl (op_un rfl rfl (u_not _) rfl)) ?_
  refine rg_put (d := 10) (v := .d (.fl (.bool ((!(sh d)))))) rfl (og rfl (op_move rfl rfl rfl)) ?_
  rcases fot ((!(sh d))) with h1 | h1
  · skip
    have h2 := f_not h1
    refine rg_put (d := 11) (v := .pt 102 4) rfl (oy rfl rfl rfl h1 (of_eff (s_field_pt rfl Try.underlying39 rfl ti37 rfl rfl rfl) rfl)) ?_
    refine rg_put (d := 12) (v := .d (.sl 3 (List.map eSp x.stops))) rfl (oy rfl rfl rfl h1 (op_load_pt rfl Try.underlying37 rfl rfl rfl rfl rfl)) ?_
    refine rg_put (d := 13) (v := .d (.fl (.int .i64 (x.stops.length : Int)))) rfl (oy rfl rfl rfl h1 (s_len rfl Try.underlying37 rfl rfl)) ?_
    refine rg_put (d := 14) (v := .d (.fl (.bool ((decide (20 < (x.stops.length : Int))))))) rfl (oy rfl rfl rfl h1 (op_bin rfl rfl rfl (b_gtr _ _ _ _) rfl)) ?_
    refine rg_put (d := 15) (v := .d (.fl (.bool ((decide (20 < (x.stops.length : Int))))))) rfl (og rfl (op_pick rfl rfl (by rw [h1]; rfl) rfl)) ?_
    refine rg_put (d := 16) (v := .d (.fl (.bool ((decide (20 < (x.stops.length : Int))))))) rfl (og rfl (op_move rfl rfl rfl)) ?_
    rcases fot ((decide (20 < (x.stops.length : Int)))) with h3 | h3
    · skip
      have h4 := f_dec h3
      refine rg_put (d := 17) (v := .pt 102 2) rfl (oy rfl rfl rfl h3 (of_eff (s_field_pt rfl Try.underlying39 rfl ti9 rfl rfl rfl) rfl)) ?_
      refine rg_put (d := 18) (v := .d (.fl (.string x.sys))) rfl (oy rfl rfl rfl h3 (op_load_pt rfl Try.underlying9 rfl rfl rfl rfl rfl)) ?_
      refine rg_put (d := 19) (v := .d (.fl (.int .i64 (x.sys.size : Int)))) rfl (oy rfl rfl rfl h3 (op_len_str rfl Try.underlying9 rfl rfl)) ?_
      refine rg_put (d := 20) (v := .d (.fl (.bool ((decide (40 < (x.sys.size : Int))))))) rfl (oy rfl rfl rfl h3 (op_bin rfl rfl rfl (b_gtr _ _ _ _) rfl)) ?_
      refine rg_put (d := 21) (v := .d (.fl (.bool ((decide (40 < (x.sys.size : Int))))))) rfl (og rfl (op_pick rfl rfl (by rw [h3]; rfl) rfl)) ?_
      refine rg_done rfl ?_
      refine a_cond rfl (fun h5 => ?_) (fun h5 => ?_)
      · skip
        have h6 := t_dec h5
        refine a_rseq ?_
        refine rg_put (d := 22) (v := .d (.fl (.bool true))) rfl (og rfl (op_call rfl Try.func7 nm7 rfl .nil alive7 rfl)) ?_
        refine rg_put (d := 6) (v := .d (.fl (.bool true))) rfl (og rfl (op_assign rfl rfl rfl)) ?_
        refine rg_done rfl ?_
        refine a_ret ?_
        show ∃ ds, ResL _ _ _ ds ∧ RV.of ds = _
        refine ⟨[.fl (.bool true)], (.cons (.tmp rfl (.d _)) .nil), ?_⟩
        rfl
      · skip
        have h7 := f_dec h5
        refine a_skip ?_
        show A _ _ _ _ _ _ _
        refine a_dseq (by kernel_rfl) ?_
        refine dr_put (d := 23) (v := .d (.ag (eDi d))) rfl (og rfl (of_eff (s_load_pts rfl Try.underlying25 rfl ti25 rfl rfl rfl rfl) rfl)) ?_
        refine dr_put (d := 24) (v := .d (.ag (eTp x))) rfl (og rfl (of_eff (s_load_pts rfl Try.underlying39 rfl ti39 rfl rfl rfl rfl) rfl)) ?_
        refine dr_put (d := 25) (v := .d (.fl (.int .i64 e))) rfl (og rfl (op_move rfl rfl rfl)) ?_
        refine dr_put (d := 26) (v := .d (.fl (.bool (ap d x e)))) rfl (og rfl (op_call rfl Try.func15 nm15 rfl (.cons rfl (.d _) (.cons rfl (.d _) (.cons rfl (.d _) .nil))) (apV d x e (by omega)) rfl)) ?_
        refine dr_put (d := 27) (v := .d (.ag (eDi d))) rfl (og rfl (of_eff (s_load_pts rfl Try.underlying25 rfl ti25 rfl rfl rfl rfl) rfl)) ?_
        refine dr_put (d := 28) (v := .d (.ag (eTp x))) rfl (og rfl (of_eff (s_load_pts rfl Try.underlying39 rfl ti39 rfl rfl rfl rfl) rfl)) ?_
        refine dr_put (d := 29) (v := .d (.fl (.int .i64 e))) rfl (og rfl (op_move rfl rfl rfl)) ?_
        refine dr_put (d := 30) (v := .d (.fl (.bool (ap d x e)))) rfl (og rfl (op_call rfl Try.func16 nm16 rfl (.cons rfl (.d _) (.cons rfl (.d _) (.cons rfl (.d _) .nil))) (apR d x e (by omega)) rfl)) ?_
        refine dr_put (d := 31) (v := .d (.fl (.bool (((ap d x e) == (ap d x e)))))) rfl (og rfl (op_bin rfl rfl rfl (fun x y w => b_beq _ _ _ x y w Try.underlying4) rfl)) ?_
        refine dr_put (d := 32) (v := .d (.fl (.bool (((ap d x e) == (ap d x e)))))) rfl (og rfl (op_move rfl rfl rfl)) ?_
        refine dr_put (d := 33) (v := .d (.fl (.bool true))) rfl (oy rfl rfl rfl (eq_self_bb _) (op_call rfl Try.func7 nm7 rfl .nil alive7 rfl)) ?_
        refine dr_put (d := 34) (v := .d (.fl (.bool true))) rfl (og rfl (op_pick rfl rfl (by rw [(eq_self_bb _)]; rfl) rfl)) ?_
        refine dr_put (d := 6) (v := .d (.fl (.bool true))) rfl (og rfl (op_assign rfl rfl rfl)) ?_
        refine dr_done rfl (by kernel_rfl) (by kernel_rfl) ?_
        refine a_ret ?_
        show ∃ ds, ResL _ _ _ ds ∧ RV.of ds = _
        refine ⟨[.fl (.bool true)], (.cons (.tmp rfl (.d _)) .nil), ?_⟩
        rfl
    · skip
      have h8 := t_dec h3
      refine rg_put (d := 17) (v := .d (.fl undef)) rfl (on rfl rfl rfl h3) ?_
      refine rg_put (d := 18) (v := .d (.fl undef)) rfl (on rfl rfl rfl h3) ?_
      refine rg_put (d := 19) (v := .d (.fl undef)) rfl (on rfl rfl rfl h3) ?_
      refine rg_put (d := 20) (v := .d (.fl undef)) rfl (on rfl rfl rfl h3) ?_
      refine rg_put (d := 21) (v := .d (.fl (.bool true))) rfl (og rfl (op_pick rfl rfl (by rw [h3]; rfl) rfl)) ?_
      refine rg_done rfl ?_
      refine a_condK rfl rfl ?_
      refine a_rseq ?_
      refine rg_put (d := 22) (v := .d (.fl (.bool true))) rfl (og rfl (op_call rfl Try.func7 nm7 rfl .nil alive7 rfl)) ?_
      refine rg_put (d := 6) (v := .d (.fl (.bool true))) rfl (og rfl (op_assign rfl rfl rfl)) ?_
      refine rg_done rfl ?_
      refine a_ret ?_
      show ∃ ds, ResL _ _ _ ds ∧ RV.of ds = _
      refine ⟨[.fl (.bool true)], (.cons (.tmp rfl (.d _)) .nil), ?_⟩
      rfl
  · skip
    have h9 := t_not h1
    refine rg_put (d := 11) (v := .d (.fl undef)) rfl (on rfl rfl rfl h1) ?_
    refine rg_put (d := 12) (v := .d (.fl undef)) rfl (on rfl rfl rfl h1) ?_
    refine rg_put (d := 13) (v := .d (.fl undef)) rfl (on rfl rfl rfl h1) ?_
    refine rg_put (d := 14) (v := .d (.fl undef)) rfl (on rfl rfl rfl h1) ?_
    refine rg_put (d := 15) (v := .d (.fl (.bool true))) rfl (og rfl (op_pick rfl rfl (by rw [h1]; rfl) rfl)) ?_
    refine rg_put (d := 16) (v := .d (.fl (.bool true))) rfl (og rfl (op_move rfl rfl rfl)) ?_
    refine rg_put (d := 17) (v := .d (.fl undef)) rfl (on rfl rfl rfl rfl) ?_
    refine rg_put (d := 18) (v := .d (.fl undef)) rfl (on rfl rfl rfl rfl) ?_
    refine rg_put (d := 19) (v := .d (.fl undef)) rfl (on rfl rfl rfl rfl) ?_
    refine rg_put (d := 20) (v := .d (.fl undef)) rfl (on rfl rfl rfl rfl) ?_
    refine rg_put (d := 21) (v := .d (.fl (.bool true))) rfl (og rfl (op_pick rfl rfl rfl rfl)) ?_
    refine rg_done rfl ?_
    refine a_condK rfl rfl ?_
    refine a_rseq ?_
    refine rg_put (d := 22) (v := .d (.fl (.bool true))) rfl (og rfl (op_call rfl Try.func7 nm7 rfl .nil alive7 rfl)) ?_
    refine rg_put (d := 6) (v := .d (.fl (.bool true))) rfl (og rfl (op_assign rfl rfl rfl)) ?_
    refine rg_done rfl ?_
    refine a_ret ?_
    show ∃ ds, ResL _ _ _ ds ∧ RV.of ds = _
    refine ⟨[.fl (.bool true)], (.cons (.tmp rfl (.d _)) .nil), ?_⟩
    rfl
end Go.Proofs.Ytejophbmdgohdaa.Wk
