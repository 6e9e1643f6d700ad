/- The law of the lengths. No condition. -/
import Derived.Test.YteplcjhnmmpicaaA15
set_option linter.unusedSimpArgs false
set_option linter.unusedVariables false
namespace Go.Proofs.Yteplcjhnmmpicaa.Wk
open Go Go.RowKit Go.Proofs.Yteplcjhnmmpicaa.Av
set_option maxHeartbeats 4000000 in
set_option maxRecDepth 100000 in
theorem law3 (l : List Kp) (im : Im) (c : Int) : Ctr Try.prog 3 [.sl 3 (List.map eKp l), .ag (eIm im), .fl (.int .i64 c)] (.d (.fl (.bool true))) := by
  refine ctr (n := 47) (rs := #[.tmp 6]) (L := [(0, .d (.sl 3 (List.map eKp l))), (1, .d (.ag (eIm im))), (2, .d (.fl (.int .i64 c)))]) Try.func3 rfl rfl rfl rfl rfl (fun w0 U0 => ?_)
  refine a_rseq ?_
  refine rg_nam (d := 4) (v := .pt 101 0) (m := 101) (nw := [(101, .bx 26 (eIm im))]) rfl (og rfl (of_eff (op_box 101 rfl rfl rfl rfl) rfl)) rfl ?_
  refine rg_put (d := 6) (v := .d (.fl (.bool false))) rfl (og rfl (op_assign rfl rfl rfl)) ?_
  refine rg_done rfl ?_
  refine a_seq ?_
  refine a_rseq ?_
  refine rg_put (d := 11) (v := .d (.sl 3 (List.map eKp l))) rfl (og rfl (op_move rfl rfl rfl)) ?_
  refine rg_put (d := 12) (v := .d (.fl (.int .i64 (l.length : Int)))) rfl (og rfl (s_len rfl Try.underlying22 rfl rfl)) ?_
  refine rg_put (d := 13) (v := .d (.fl (.bool ((decide (10 < (l.length : Int))))))) rfl (og rfl (op_bin rfl rfl rfl (b_gtr _ _ _ _) rfl)) ?_
  refine rg_done rfl ?_
  refine a_cond rfl (fun h1 => ?_) (fun h1 => ?_)
  · skip
    have h2 := t_dec h1
    refine a_rseq ?_
    refine rg_put (d := 14) (v := .d (.fl (.bool true))) rfl (og rfl (op_call rfl Try.func9 nm9 rfl .nil awake_true rfl)) ?_
    refine rg_put (d := 6) (v := .d (.fl (.bool true))) rfl (og rfl (op_assign rfl rfl rfl)) ?_
    refine rg_done rfl ?_
    refine a_ret ?_
    show ∃ ds, ResL _ _ _ ds ∧ RV.of ds = _
    refine ⟨[.fl (.bool true)], (.cons (.tmp rfl (.d _)) .nil), ?_⟩
    rfl
  · skip
    have h3 := f_dec h1
    refine a_skip ?_
    show A _ _ _ _ _ _ _
    refine a_rseq ?_
    refine rg_put (d := 16) (v := .d (.sl 3 (List.map eKp l))) rfl (og rfl (op_move rfl rfl rfl)) ?_
    refine rg_put (d := 17) (v := .d (.ag (eIm im))) rfl (og rfl (of_eff (s_load_pts rfl Try.underlying26 rfl ti26 rfl rfl rfl rfl) rfl)) ?_
    refine rg_put (d := 18) (v := .d (.fl (.int .i64 c))) rfl (og rfl (op_move rfl rfl rfl)) ?_
    refine rg_put (d := 19) (v := .tu [.fl (.int .i64 ((unt l im c).1)), .fl (.int .i64 ((unt l im c).2))]) rfl (og rfl (op_call rfl Try.func10 nm10 rfl (.cons rfl (.d _) (.cons rfl (.d _) (.cons rfl (.d _) .nil))) (ret_until l im c) rfl)) ?_
    refine rg_put (d := 15) (v := .tu [.fl (.int .i64 ((unt l im c).1)), .fl (.int .i64 ((unt l im c).2))]) rfl (og rfl (op_move rfl rfl rfl)) ?_
    refine rg_put (d := 20) (v := .d (.fl (.int .i64 ((unt l im c).1)))) rfl (og rfl (op_extract rfl rfl rfl rfl)) ?_
    refine rg_put (d := 21) (v := .d (.fl (.int .i64 ((unt l im c).2)))) rfl (og rfl (op_extract rfl rfl rfl rfl)) ?_
    refine rg_put (d := 7) (v := .d (.fl (.int .i64 ((unt l im c).1)))) rfl (og rfl (op_assign rfl rfl rfl)) ?_
    refine rg_put (d := 8) (v := .d (.fl (.int .i64 ((unt l im c).2)))) rfl (og rfl (op_assign rfl rfl rfl)) ?_
    refine rg_done rfl ?_
    refine a_rseq ?_
    refine rg_put (d := 23) (v := .d (.sl 3 (List.map eKp l))) rfl (og rfl (op_move rfl rfl rfl)) ?_
    refine rg_put (d := 24) (v := .d (.ag (eIm im))) rfl (og rfl (of_eff (s_load_pts rfl Try.underlying26 rfl ti26 rfl rfl rfl rfl) rfl)) ?_
    refine rg_put (d := 25) (v := .d (.fl (.int .i64 c))) rfl (og rfl (op_move rfl rfl rfl)) ?_
    refine rg_put (d := 26) (v := .tu [.fl (.int .i64 ((unt l im c).1)), .fl (.int .i64 ((unt l im c).2))]) rfl (og rfl (op_call rfl Try.func11 nm11 rfl (.cons rfl (.d _) (.cons rfl (.d _) (.cons rfl (.d _) .nil))) (ref_until l im c) rfl)) ?_
    refine rg_put (d := 22) (v := .tu [.fl (.int .i64 ((unt l im c).1)), .fl (.int .i64 ((unt l im c).2))]) rfl (og rfl (op_move rfl rfl rfl)) ?_
    refine rg_put (d := 27) (v := .d (.fl (.int .i64 ((unt l im c).1)))) rfl (og rfl (op_extract rfl rfl rfl rfl)) ?_
    refine rg_put (d := 28) (v := .d (.fl (.int .i64 ((unt l im c).2)))) rfl (og rfl (op_extract rfl rfl rfl rfl)) ?_
    refine rg_put (d := 9) (v := .d (.fl (.int .i64 ((unt l im c).1)))) rfl (og rfl (op_assign rfl rfl rfl)) ?_
    refine rg_put (d := 10) (v := .d (.fl (.int .i64 ((unt l im c).2)))) rfl (og rfl (op_assign rfl rfl rfl)) ?_
    refine rg_done rfl ?_
    refine a_rseq ?_
    refine rg_put (d := 29) (v := .d (.sl 3 (List.map eKp l))) rfl (og rfl (op_move rfl rfl rfl)) ?_
    refine rg_put (d := 30) (v := .d (.fl (.int .i64 (ck l)))) rfl (og rfl (op_call rfl Try.func12 nm12 rfl (.cons rfl (.d _) .nil) (ret_check l) rfl)) ?_
    refine rg_put (d := 31) (v := .d (.sl 3 (List.map eKp l))) rfl (og rfl (op_move rfl rfl rfl)) ?_
    refine rg_put (d := 32) (v := .d (.fl (.int .i64 (ck l)))) rfl (og rfl (op_call rfl Try.func13 nm13 rfl (.cons rfl (.d _) .nil) (ref_check l) rfl)) ?_
    refine rg_put (d := 33) (v := .d (.fl (.bool (((ck l) == (ck l)))))) rfl (og rfl (op_bin rfl rfl rfl (b_eql _ _ _ _) rfl)) ?_
    refine rg_put (d := 34) (v := .d (.fl (.bool (((ck l) == (ck l)))))) rfl (og rfl (op_move rfl rfl rfl)) ?_
    refine rg_put (d := 35) (v := .d (.fl (.int .i64 ((unt l im c).1)))) rfl (oy rfl rfl rfl (eq_self_b _) (op_move rfl rfl rfl)) ?_
    refine rg_put (d := 36) (v := .d (.fl (.int .i64 ((unt l im c).1)))) rfl (oy rfl rfl rfl (eq_self_b _) (op_move rfl rfl rfl)) ?_
    refine rg_put (d := 37) (v := .d (.fl (.bool (((unt l im c).1 == (unt l im c).1))))) rfl (oy rfl rfl rfl (eq_self_b _) (op_bin rfl rfl rfl (b_eql _ _ _ _) rfl)) ?_
    refine rg_put (d := 38) (v := .d (.fl (.bool (((unt l im c).1 == (unt l im c).1))))) rfl (og rfl (op_pick rfl rfl (by rw [(eq_self_b _)]; rfl) rfl)) ?_
    refine rg_put (d := 39) (v := .d (.fl (.bool (((unt l im c).1 == (unt l im c).1))))) rfl (og rfl (op_move rfl rfl rfl)) ?_
    refine rg_put (d := 40) (v := .d (.fl (.int .i64 ((unt l im c).2)))) rfl (oy rfl rfl rfl (eq_self_b _) (op_move rfl rfl rfl)) ?_
    refine rg_put (d := 41) (v := .d (.fl (.int .i64 ((unt l im c).2)))) rfl (oy rfl rfl rfl (eq_self_b _) (op_move rfl rfl rfl)) ?_
    refine rg_put (d := 42) (v := .d (.fl (.bool (((unt l im c).2 == (unt l im c).2))))) rfl (oy rfl rfl rfl (eq_self_b _) (op_bin rfl rfl rfl (b_eql _ _ _ _) rfl)) ?_
    refine rg_put (d := 43) (v := .d (.fl (.bool (((unt l im c).2 == (unt l im c).2))))) rfl (og rfl (op_pick rfl rfl (by rw [(eq_self_b _)]; rfl) rfl)) ?_
    refine rg_put (d := 44) (v := .d (.fl (.bool (((unt l im c).2 == (unt l im c).2))))) rfl (og rfl (op_move rfl rfl rfl)) ?_
    refine rg_put (d := 45) (v := .d (.fl (.bool true))) rfl (oy rfl rfl rfl (eq_self_b _) (op_call rfl Try.func9 nm9 rfl .nil awake_true rfl)) ?_
    refine rg_put (d := 46) (v := .d (.fl (.bool true))) rfl (og rfl (op_pick rfl rfl (by rw [(eq_self_b _)]; rfl) rfl)) ?_
    refine rg_put (d := 6) (v := .d (.fl (.bool true))) rfl (og rfl (op_assign rfl rfl rfl)) ?_
    refine rg_done rfl ?_
    refine a_ret ?_
    show ∃ ds, ResL _ _ _ ds ∧ RV.of ds = _
    refine ⟨[.fl (.bool true)], (.cons (.tmp rfl (.d _)) .nil), ?_⟩
    rfl
end Go.Proofs.Yteplcjhnmmpicaa.Wk
