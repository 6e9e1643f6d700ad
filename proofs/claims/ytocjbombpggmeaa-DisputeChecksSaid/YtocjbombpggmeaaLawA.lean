/- The law of the checks. Condition: strings of a possible length. -/
import Derived.Test.YtocjbombpggmeaaOp
set_option linter.unusedSimpArgs false
set_option linter.unusedVariables false
namespace Go.Proofs.Ytocjbombpggmeaa.Wk
open Go Go.RowKit Go.Proofs.Ytocjbombpggmeaa.Av
set_option maxHeartbeats 4000000 in
set_option maxRecDepth 100000 in
theorem law3 (l : List Dp) (hz : SZ l) : Ctr Try.prog 3 [.sl 5 (List.map eDp l)] (.d (.fl (.bool true))) := by
  refine ctr (n := 14) (rs := #[.tmp 2]) (L := [(0, .d (.sl 5 (List.map eDp l)))]) Try.func3 rfl rfl rfl rfl rfl (fun w0 U0 => ?_)
  refine a_rseq ?_
  refine rg_put (d := 2) (v := .d (.fl (.bool false))) rfl (og rfl (op_assign rfl rfl rfl)) ?_
  refine rg_done rfl ?_
  refine a_seq ?_
  refine a_rseq ?_
  refine rg_put (d := 3) (v := .d (.sl 5 (List.map eDp l))) rfl (og rfl (op_move rfl rfl rfl)) ?_
  refine rg_put (d := 4) (v := .d (.fl (.bool (gre l)))) rfl (og rfl (op_call rfl Try.func8 nm8 rfl (.cons rfl (.d _) .nil) (great8 l) rfl)) ?_
  refine rg_done rfl ?_
  refine a_cond rfl (fun h1 => ?_) (fun h1 => ?_)
  · skip
    refine a_rseq ?_
    refine rg_put (d := 5) (v := .d (.fl (.bool true))) rfl (og rfl (op_call rfl Try.func9 nm9 rfl .nil awake_true rfl)) ?_
    refine rg_put (d := 2) (v := .d (.fl (.bool true))) rfl (og rfl (op_assign rfl rfl rfl)) ?_
    refine rg_done rfl ?_
    refine a_ret ?_
    show ∃ ds, ResL _ _ _ ds ∧ RV.of ds = _
    refine ⟨[.fl (.bool true)], (.cons (.tmp rfl (.d _)) .nil), ?_⟩
    rfl
  · skip
    refine a_skip ?_
    show A _ _ _ _ _ _ _
    refine a_rseq ?_
    refine rg_put (d := 6) (v := .d (.sl 5 (List.map eDp l))) rfl (og rfl (op_move rfl rfl rfl)) ?_
    refine rg_put (d := 7) (v := .d (.fl (.int .i64 (ck l)))) rfl (og rfl (op_call rfl Try.func10 nm10 rfl (.cons rfl (.d _) .nil) (d_check l) rfl)) ?_
    refine rg_put (d := 8) (v := .d (.sl 5 (List.map eDp l))) rfl (og rfl (op_move rfl rfl rfl)) ?_
    refine rg_put (d := 9) (v := .d (.fl (.int .i64 (ck l)))) rfl (og rfl (op_call rfl Try.func11 nm11 rfl (.cons rfl (.d _) .nil) (ref_check l hz) rfl)) ?_
    refine rg_put (d := 10) (v := .d (.fl (.bool (((ck l) == (ck l)))))) rfl (og rfl (op_bin rfl rfl rfl (b_eql _ _ _ _) rfl)) ?_
    refine rg_put (d := 11) (v := .d (.fl (.bool (((ck l) == (ck l)))))) rfl (og rfl (op_move rfl rfl rfl)) ?_
    refine rg_put (d := 12) (v := .d (.fl (.bool true))) rfl (oy rfl rfl rfl (eq_self_b _) (op_call rfl Try.func9 nm9 rfl .nil awake_true rfl)) ?_
    refine rg_put (d := 13) (v := .d (.fl (.bool true))) rfl (og rfl (op_pick rfl rfl (by rw [(eq_self_b _)]; rfl) rfl)) ?_
    refine rg_put (d := 2) (v := .d (.fl (.bool true))) rfl (og rfl (op_assign rfl rfl rfl)) ?_
    refine rg_done rfl ?_
    refine a_ret ?_
    show ∃ ds, ResL _ _ _ ds ∧ RV.of ds = _
    refine ⟨[.fl (.bool true)], (.cons (.tmp rfl (.d _)) .nil), ?_⟩
    rfl
end Go.Proofs.Ytocjbombpggmeaa.Wk
