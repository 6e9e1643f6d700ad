/- The law of such bytes. Condition: they are bytes. -/
import Derived.Test.YtldglchpaookiaaDoorAl
import Derived.Test.YtldglchpaookiaaDoorB1
set_option linter.unusedSimpArgs false
set_option linter.unusedVariables false
namespace Go.Proofs.YtldglchpaookiaaDoor.Wk
open Go Go.RowKit Go.Proofs.YtldglchpaookiaaDoor.Av
set_option maxHeartbeats 4000000 in
set_option maxRecDepth 100000 in
theorem law5 (a b : Int) (h2 : 0 ≤ b ∧ b ≤ 255) : Ctr Tryd.prog 5 [.fl (.int .u8 a), .fl (.int .u8 b)] (.d (.fl (.bool true))) := by
  refine ctr (n := 15) (rs := #[.tmp 4]) (L := [(0, .d (.fl (.int .u8 a))), (1, .d (.fl (.int .u8 b)))]) Tryd.func5 rfl rfl rfl rfl rfl (fun w0 U0 => ?_)
  refine a_rseq ?_
  refine rg_put (d := 4) (v := .d (.fl (.bool false))) rfl (og rfl (op_assign rfl rfl rfl)) ?_
  refine rg_done rfl ?_
  refine a_rseq ?_
  refine rg_put (d := 5) (v := .d (.fl (.int .u8 a))) rfl (og rfl (op_move rfl rfl rfl)) ?_
  refine rg_put (d := 6) (v := .d (.fl (.int .u8 b))) rfl (og rfl (op_move rfl rfl rfl)) ?_
  refine rg_put (d := 7) (v := .d (.fl (.bool (lk a b)))) rfl (og rfl (op_call rfl Tryd.func14 nm14 rfl (.cons rfl (.d _) (.cons rfl (.d _) .nil)) (lkP a b) rfl)) ?_
  refine rg_put (d := 8) (v := .d (.fl (.int .u8 a))) rfl (og rfl (op_move rfl rfl rfl)) ?_
  refine rg_put (d := 9) (v := .d (.fl (.int .u8 b))) rfl (og rfl (op_move rfl rfl rfl)) ?_
  refine rg_put (d := 10) (v := .d (.fl (.bool (lk a b)))) rfl (og rfl (op_call rfl Tryd.func15 nm15 rfl (.cons rfl (.d _) (.cons rfl (.d _) .nil)) (lkR15 a b (by omega)) rfl)) ?_
  refine rg_put (d := 11) (v := .d (.fl (.bool (((lk a b) == (lk a b)))))) rfl (og rfl (op_bin rfl rfl rfl (fun x y w => b_beq _ _ _ x y w Tryd.underlying4) rfl)) ?_
  refine rg_put (d := 12) (v := .d (.fl (.bool (((lk a b) == (lk a b)))))) rfl (og rfl (op_move rfl rfl rfl)) ?_
  refine rg_put (d := 13) (v := .d (.fl (.bool true))) rfl (oy rfl rfl rfl (beq_self_eq_true _) (op_call rfl Tryd.func11 nm11 rfl .nil alive11 rfl)) ?_
  refine rg_put (d := 14) (v := .d (.fl (.bool true))) rfl (og rfl (op_pick rfl rfl (by rw [(beq_self_eq_true _)]; rfl) rfl)) ?_
  refine rg_put (d := 4) (v := .d (.fl (.bool true))) rfl (og rfl (op_assign rfl rfl rfl)) ?_
  refine rg_done rfl ?_
  refine a_ret ?_
  show ∃ ds, ResL _ _ _ ds ∧ RV.of ds = _
  refine ⟨[.fl (.bool true)], (.cons (.tmp rfl (.d _)) .nil), ?_⟩
  rfl
end Go.Proofs.YtldglchpaookiaaDoor.Wk
