/- The law of months. Condition: the table of months reads as it is laid. -/
import Derived.Test.YtjgfdheodnmddaaDoorAl
import Derived.Test.YtjgfdheodnmddaaDoorB1
set_option linter.unusedSimpArgs false
set_option linter.unusedVariables false
namespace Go.Proofs.YtjgfdheodnmddaaDoor.Wk
open Go Go.RowKit Go.Proofs.YtjgfdheodnmddaaDoor.Av
set_option maxHeartbeats 4000000 in
set_option maxRecDepth 100000 in
theorem law3 (t : Int) : CtrK Tryd.prog KK 3 [.fl (.int .i64 t)] (.d (.fl (.bool true))) := by
  refine ctrK (n := 11) (rs := #[.tmp 2]) (L := [(0, .d (.fl (.int .i64 t)))]) Tryd.func3 rfl rfl rfl rfl rfl (fun w0 U0 hG => ?_)
  refine a_rseq ?_
  refine rg_put (d := 2) (v := .d (.fl (.bool false))) rfl (og rfl (op_assign rfl rfl rfl)) ?_
  refine rg_done rfl ?_
  refine a_rseq ?_
  refine rg_put (d := 3) (v := .d (.fl (.int .i64 t))) rfl (og rfl (op_move rfl rfl rfl)) ?_
  refine rg_put (d := 4) (v := .d (.fl (.int .i64 (mon t)))) rfl (og rfl (op_callK kkst hG rfl Tryd.func8 nm8 rfl (.cons rfl (.d _) .nil) (monP t) rfl)) ?_
  refine rg_put (d := 5) (v := .d (.fl (.int .i64 t))) rfl (og rfl (op_move rfl rfl rfl)) ?_
  refine rg_put (d := 6) (v := .d (.fl (.int .i64 (mon t)))) rfl (og rfl (op_call rfl Tryd.func9 nm9 rfl (.cons rfl (.d _) .nil) (monR t) rfl)) ?_
  refine rg_put (d := 7) (v := .d (.fl (.bool (((mon t) == (mon t)))))) rfl (og rfl (op_bin rfl rfl rfl (b_eql _ _ _ _) rfl)) ?_
  refine rg_put (d := 8) (v := .d (.fl (.bool (((mon t) == (mon t)))))) rfl (og rfl (op_move rfl rfl rfl)) ?_
  refine rg_put (d := 9) (v := .d (.fl (.bool true))) rfl (oy rfl rfl rfl (eq_self_b _) (op_callK kkst hG rfl Tryd.func10 nm10 rfl .nil alive10 rfl)) ?_
  refine rg_put (d := 10) (v := .d (.fl (.bool true))) rfl (og rfl (op_pick rfl rfl (by rw [(eq_self_b _)]; rfl) rfl)) ?_
  refine rg_put (d := 2) (v := .d (.fl (.bool true))) rfl (og rfl (op_assign rfl rfl rfl)) ?_
  refine rg_done rfl ?_
  refine a_ret ?_
  show ∃ ds, ResL _ _ _ ds ∧ RV.of ds = _
  refine ⟨[.fl (.bool true)], (.cons (.tmp rfl (.d _)) .nil), ?_⟩
  rfl
end Go.Proofs.YtjgfdheodnmddaaDoor.Wk
