/- The law of totals. No condition. -/
import Derived.Test.YtafmoldngopkdaaAl
import Derived.Test.YtafmoldngopkdaaB2
set_option linter.unusedSimpArgs false
set_option linter.unusedVariables false
namespace Go.Proofs.Ytafmoldngopkdaa.Wk
open Go Go.RowKit Go.Proofs.Ytafmoldngopkdaa.Av
set_option maxHeartbeats 4000000 in
set_option maxRecDepth 100000 in
theorem law1 (m : Mat) (a : List Int) : Ctr Try.prog 3 [.ag (eMat m), .sl 1 (List.map (rI .i64) a)] (.d (.fl (.bool true))) := by
  refine ctr (n := 47) (rs := #[.tmp 4]) (L := [(0, .d (.ag (eMat m))), (1, .d (.sl 1 (List.map (rI .i64) a)))]) Try.func3 rfl rfl rfl rfl rfl (fun w0 U0 => ?_)
  refine a_rseq ?_
  refine rg_nam (d := 2) (v := .pt 101 0) (m := 101) (nw := [(101, .bx 25 (eMat m))]) rfl (og rfl (of_eff (op_box 101 rfl rfl rfl rfl) rfl)) rfl ?_
  refine rg_put (d := 4) (v := .d (.fl (.bool false))) rfl (og rfl (op_assign rfl rfl rfl)) ?_
  refine rg_done rfl ?_
  refine a_seq ?_
  refine a_rseq ?_
  refine rg_put (d := 9) (v := .d (.ag (eMat m))) rfl (og rfl (of_eff (s_load_pts rfl Try.underlying25 rfl ti25 rfl rfl rfl rfl) rfl)) ?_
  refine rg_put (d := 10) (v := .d (.fl (.bool (gr m)))) rfl (og rfl (op_call rfl Try.func10 nm10 rfl (.cons rfl (.d _) .nil) (grC m) rfl)) ?_
  refine rg_put (d := 11) (v := .d (.fl (.bool (gr m)))) rfl (og rfl (op_move rfl rfl rfl)) ?_
  rcases fot (gr m) with h1 | h1
  · skip
    refine rg_put (d := 12) (v := .d (.sl 1 (List.map (rI .i64) a))) rfl (oy rfl rfl rfl h1 (op_move rfl rfl rfl)) ?_
    refine rg_put (d := 13) (v := .d (.fl (.int .i64 (a.length : Int)))) rfl (oy rfl rfl rfl h1 (s_len rfl Try.underlying23 rfl rfl)) ?_
    refine rg_put (d := 14) (v := .d (.fl (.bool ((decide (20 < (a.length : Int))))))) rfl (oy rfl rfl rfl h1 (op_bin rfl rfl rfl (b_gtr _ _ _ _) rfl)) ?_
    refine rg_put (d := 15) (v := .d (.fl (.bool ((decide (20 < (a.length : Int))))))) rfl (og rfl (op_pick rfl rfl (by rw [h1]; rfl) rfl)) ?_
    refine rg_done rfl ?_
    refine a_cond rfl (fun h2 => ?_) (fun h2 => ?_)
    · skip
      have h3 := t_dec h2
      refine a_rseq ?_
      refine rg_put (d := 16) (v := .d (.fl (.bool true))) rfl (og rfl (op_call rfl Try.func11 nm11 rfl .nil alive11 rfl)) ?_
      refine rg_put (d := 4) (v := .d (.fl (.bool true))) rfl (og rfl (op_assign rfl rfl rfl)) ?_
      refine rg_done rfl ?_
      refine a_ret ?_
      show ∃ ds, ResL _ _ _ ds ∧ RV.of ds = _
      refine ⟨[.fl (.bool true)], (.cons (.tmp rfl (.d _)) .nil), ?_⟩
      rfl
    · skip
      have h4 := f_dec h2
      refine a_skip ?_
      show A _ _ _ _ _ _ _
      refine a_rseq ?_
      have hb := gr_bd h1
      refine rg_put (d := 18) (v := .d (.ag (eMat m))) rfl (og rfl (of_eff (s_load_pts rfl Try.underlying25 rfl ti25 rfl rfl rfl rfl) rfl)) ?_
      refine rg_put (d := 19) (v := .d (.sl 1 (List.map (rI .i64) a))) rfl (og rfl (op_move rfl rfl rfl)) ?_
      refine rg_put (d := 20) (v := .tu [.fl (.int .i64 ((tt m a).1)), .fl (.int .i64 ((tt m a).2))]) rfl (og rfl (op_call rfl Try.func12 nm12 rfl (.cons rfl (.d _) (.cons rfl (.d _) .nil)) (ttP m a hb (by omega)) rfl)) ?_
      refine rg_put (d := 17) (v := .tu [.fl (.int .i64 ((tt m a).1)), .fl (.int .i64 ((tt m a).2))]) rfl (og rfl (op_move rfl rfl rfl)) ?_
      refine rg_put (d := 21) (v := .d (.fl (.int .i64 ((tt m a).1)))) rfl (og rfl (op_extract rfl rfl rfl rfl)) ?_
      refine rg_put (d := 22) (v := .d (.fl (.int .i64 ((tt m a).2)))) rfl (og rfl (op_extract rfl rfl rfl rfl)) ?_
      refine rg_put (d := 5) (v := .d (.fl (.int .i64 ((tt m a).1)))) rfl (og rfl (op_assign rfl rfl rfl)) ?_
      refine rg_put (d := 6) (v := .d (.fl (.int .i64 ((tt m a).2)))) rfl (og rfl (op_assign rfl rfl rfl)) ?_
      refine rg_done rfl ?_
      refine a_rseq ?_
      refine rg_put (d := 24) (v := .d (.ag (eMat m))) rfl (og rfl (of_eff (s_load_pts rfl Try.underlying25 rfl ti25 rfl rfl rfl rfl) rfl)) ?_
      refine rg_put (d := 25) (v := .d (.sl 1 (List.map (rI .i64) a))) rfl (og rfl (op_move rfl rfl rfl)) ?_
      refine rg_put (d := 26) (v := .tu [.fl (.int .i64 ((tt m a).1)), .fl (.int .i64 ((tt m a).2))]) rfl (og rfl (op_call rfl Try.func13 nm13 rfl (.cons rfl (.d _) (.cons rfl (.d _) .nil)) (ttR m a hb (by omega)) rfl)) ?_
      refine rg_put (d := 23) (v := .tu [.fl (.int .i64 ((tt m a).1)), .fl (.int .i64 ((tt m a).2))]) rfl (og rfl (op_move rfl rfl rfl)) ?_
      refine rg_put (d := 27) (v := .d (.fl (.int .i64 ((tt m a).1)))) rfl (og rfl (op_extract rfl rfl rfl rfl)) ?_
      refine rg_put (d := 28) (v := .d (.fl (.int .i64 ((tt m a).2)))) rfl (og rfl (op_extract rfl rfl rfl rfl)) ?_
      refine rg_put (d := 7) (v := .d (.fl (.int .i64 ((tt m a).1)))) rfl (og rfl (op_assign rfl rfl rfl)) ?_
      refine rg_put (d := 8) (v := .d (.fl (.int .i64 ((tt m a).2)))) rfl (og rfl (op_assign rfl rfl rfl)) ?_
      refine rg_done rfl ?_
      refine a_dseq (by kernel_rfl) ?_
      refine dr_put (d := 29) (v := .d (.ag (eMat m))) rfl (og rfl (of_eff (s_load_pts rfl Try.underlying25 rfl ti25 rfl rfl rfl rfl) rfl)) ?_
      refine dr_put (d := 30) (v := .d (.fl (.int .i64 (ck m)))) rfl (og rfl (op_call rfl Try.func14 nm14 rfl (.cons rfl (.d _) .nil) (ckP m hb hb.a hb.b hb.c) rfl)) ?_
      refine dr_put (d := 31) (v := .d (.ag (eMat m))) rfl (og rfl (of_eff (s_load_pts rfl Try.underlying25 rfl ti25 rfl rfl rfl rfl) rfl)) ?_
      refine dr_put (d := 32) (v := .d (.fl (.int .i64 (ck m)))) rfl (og rfl (op_call rfl Try.func15 nm15 rfl (.cons rfl (.d _) .nil) (ckR m hb hb.a hb.b hb.c) rfl)) ?_
      refine dr_put (d := 33) (v := .d (.fl (.bool (((ck m) == (ck m)))))) rfl (og rfl (op_bin rfl rfl rfl (b_eql _ _ _ _) rfl)) ?_
      refine dr_put (d := 34) (v := .d (.fl (.bool (((ck m) == (ck m)))))) rfl (og rfl (op_move rfl rfl rfl)) ?_
      refine dr_put (d := 35) (v := .d (.fl (.int .i64 ((tt m a).1)))) rfl (oy rfl rfl rfl (beq_self_eq_true _) (op_move rfl rfl rfl)) ?_
      refine dr_put (d := 36) (v := .d (.fl (.int .i64 ((tt m a).1)))) rfl (oy rfl rfl rfl (beq_self_eq_true _) (op_move rfl rfl rfl)) ?_
      refine dr_put (d := 37) (v := .d (.fl (.bool (((tt m a).1 == (tt m a).1))))) rfl (oy rfl rfl rfl (beq_self_eq_true _) (op_bin rfl rfl rfl (b_eql _ _ _ _) rfl)) ?_
      refine dr_put (d := 38) (v := .d (.fl (.bool (((tt m a).1 == (tt m a).1))))) rfl (og rfl (op_pick rfl rfl (by rw [(beq_self_eq_true _)]; rfl) rfl)) ?_
      refine dr_put (d := 39) (v := .d (.fl (.bool (((tt m a).1 == (tt m a).1))))) rfl (og rfl (op_move rfl rfl rfl)) ?_
      refine dr_put (d := 40) (v := .d (.fl (.int .i64 ((tt m a).2)))) rfl (oy rfl rfl rfl (beq_self_eq_true _) (op_move rfl rfl rfl)) ?_
      refine dr_put (d := 41) (v := .d (.fl (.int .i64 ((tt m a).2)))) rfl (oy rfl rfl rfl (beq_self_eq_true _) (op_move rfl rfl rfl)) ?_
      refine dr_put (d := 42) (v := .d (.fl (.bool (((tt m a).2 == (tt m a).2))))) rfl (oy rfl rfl rfl (beq_self_eq_true _) (op_bin rfl rfl rfl (b_eql _ _ _ _) rfl)) ?_
      refine dr_put (d := 43) (v := .d (.fl (.bool (((tt m a).2 == (tt m a).2))))) rfl (og rfl (op_pick rfl rfl (by rw [(beq_self_eq_true _)]; rfl) rfl)) ?_
      refine dr_put (d := 44) (v := .d (.fl (.bool (((tt m a).2 == (tt m a).2))))) rfl (og rfl (op_move rfl rfl rfl)) ?_
      refine dr_put (d := 45) (v := .d (.fl (.bool true))) rfl (oy rfl rfl rfl (beq_self_eq_true _) (op_call rfl Try.func11 nm11 rfl .nil alive11 rfl)) ?_
      refine dr_put (d := 46) (v := .d (.fl (.bool true))) rfl (og rfl (op_pick rfl rfl (by rw [(beq_self_eq_true _)]; rfl) rfl)) ?_
      refine dr_put (d := 4) (v := .d (.fl (.bool true))) rfl (og rfl (op_assign rfl rfl rfl)) ?_
      refine dr_done rfl (sepB_of [0, 1, 0, 7, 15, 31, 63, 63, 255, 511, 1023, 2047, 2047, 8191, 16383, 32767, 65535, 131071, 262143] (by kernel_rfl)) (by kernel_rfl) ?_
      refine a_ret ?_
      show ∃ ds, ResL _ _ _ ds ∧ RV.of ds = _
      refine ⟨[.fl (.bool true)], (.cons (.tmp rfl (.d _)) .nil), ?_⟩
      rfl
  · skip
    refine rg_put (d := 12) (v := .d (.fl undef)) rfl (on rfl rfl rfl h1) ?_
    refine rg_put (d := 13) (v := .d (.fl undef)) rfl (on rfl rfl rfl h1) ?_
    refine rg_put (d := 14) (v := .d (.fl undef)) rfl (on rfl rfl rfl h1) ?_
    refine rg_put (d := 15) (v := .d (.fl (.bool true))) rfl (og rfl (op_pick rfl rfl (by rw [h1]; rfl) rfl)) ?_
    refine rg_done rfl ?_
    refine a_condK rfl rfl ?_
    refine a_rseq ?_
    refine rg_put (d := 16) (v := .d (.fl (.bool true))) rfl (og rfl (op_call rfl Try.func11 nm11 rfl .nil alive11 rfl)) ?_
    refine rg_put (d := 4) (v := .d (.fl (.bool true))) rfl (og rfl (op_assign rfl rfl rfl)) ?_
    refine rg_done rfl ?_
    refine a_ret ?_
    show ∃ ds, ResL _ _ _ ds ∧ RV.of ds = _
    refine ⟨[.fl (.bool true)], (.cons (.tmp rfl (.d _)) .nil), ?_⟩
    rfl
end Go.Proofs.Ytafmoldngopkdaa.Wk
