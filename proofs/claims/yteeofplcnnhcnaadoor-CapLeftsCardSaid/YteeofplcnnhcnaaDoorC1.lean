/- The law of checks. Condition: the table of months reads as it is laid. -/
import Derived.Test.YteeofplcnnhcnaaDoorAl
import Derived.Test.YteeofplcnnhcnaaDoorB1
set_option linter.unusedSimpArgs false
set_option linter.unusedVariables false
namespace Go.Proofs.YteeofplcnnhcnaaDoor.Wk
open Go Go.RowKit Go.Proofs.YteeofplcnnhcnaaDoor.Av
set_option maxHeartbeats 4000000 in
set_option maxRecDepth 100000 in
theorem law3 (c : Ca) (x : Cg) (t : Int) : CtrK Tryd.prog KK 3 [.ag (eCa c), .ag (eCg x), .fl (.int .i64 t)] (.d (.fl (.bool true))) := by
  refine ctrK (n := 33) (rs := #[.tmp 6]) (L := [(0, .d (.ag (eCa c))), (1, .d (.ag (eCg x))), (2, .d (.fl (.int .i64 t)))]) Tryd.func3 rfl rfl rfl rfl rfl (fun w0 U0 hG => ?_)
  refine a_rseq ?_
  refine rg_nam (d := 3) (v := .pt 101 0) (m := 101) (nw := [(101, .bx 23 (eCa c))]) rfl (og rfl (of_eff (op_box 101 rfl rfl rfl rfl) rfl)) rfl ?_
  refine rg_nam (d := 4) (v := .pt 102 0) (m := 102) (nw := [(102, .bx 26 (eCg x))]) rfl (og rfl (of_eff (op_box 102 rfl rfl rfl rfl) rfl)) rfl ?_
  refine rg_put (d := 6) (v := .d (.fl (.bool false))) rfl (og rfl (op_assign rfl rfl rfl)) ?_
  refine rg_done rfl ?_
  refine a_dseq (by kernel_rfl) ?_
  refine dr_put (d := 7) (v := .d (.ag (eCa c))) rfl (og rfl (of_eff (s_load_pts rfl Tryd.underlying23 rfl ti23 rfl rfl rfl rfl) rfl)) ?_
  refine dr_put (d := 8) (v := .d (.fl (.int .i64 (ck c)))) rfl (og rfl (op_call rfl Tryd.func5 nm5 rfl (.cons rfl (.d _) .nil) (ck5 c) rfl)) ?_
  refine dr_put (d := 9) (v := .d (.ag (eCa c))) rfl (og rfl (of_eff (s_load_pts rfl Tryd.underlying23 rfl ti23 rfl rfl rfl rfl) rfl)) ?_
  refine dr_put (d := 10) (v := .d (.fl (.int .i64 (ck c)))) rfl (og rfl (op_call rfl Tryd.func6 nm6 rfl (.cons rfl (.d _) .nil) (ck6 c) rfl)) ?_
  refine dr_put (d := 11) (v := .d (.fl (.bool (((ck c) == (ck c)))))) rfl (og rfl (op_bin rfl rfl rfl (b_eql _ _ _ _) rfl)) ?_
  refine dr_put (d := 12) (v := .d (.fl (.bool (((ck c) == (ck c)))))) rfl (og rfl (op_move rfl rfl rfl)) ?_
  refine dr_put (d := 13) (v := .d (.ag (eCa c))) rfl (oy rfl rfl rfl (eq_self_b _) (of_eff (s_load_pts rfl Tryd.underlying23 rfl ti23 rfl rfl rfl rfl) rfl)) ?_
  refine dr_put (d := 14) (v := .d (.ag (eCg x))) rfl (oy rfl rfl rfl (eq_self_b _) (of_eff (s_load_pts rfl Tryd.underlying26 rfl ti26 rfl rfl rfl rfl) rfl)) ?_
  refine dr_put (d := 15) (v := .d (.fl (.bool (mt c x)))) rfl (oy rfl rfl rfl (eq_self_b _) (op_call rfl Tryd.func7 nm7 rfl (.cons rfl (.d _) (.cons rfl (.d _) .nil)) (mt7 c x) rfl)) ?_
  refine dr_put (d := 16) (v := .d (.ag (eCa c))) rfl (oy rfl rfl rfl (eq_self_b _) (of_eff (s_load_pts rfl Tryd.underlying23 rfl ti23 rfl rfl rfl rfl) rfl)) ?_
  refine dr_put (d := 17) (v := .d (.ag (eCg x))) rfl (oy rfl rfl rfl (eq_self_b _) (of_eff (s_load_pts rfl Tryd.underlying26 rfl ti26 rfl rfl rfl rfl) rfl)) ?_
  refine dr_put (d := 18) (v := .d (.fl (.bool (mt c x)))) rfl (oy rfl rfl rfl (eq_self_b _) (op_call rfl Tryd.func8 nm8 rfl (.cons rfl (.d _) (.cons rfl (.d _) .nil)) (mt8 c x) rfl)) ?_
  refine dr_put (d := 19) (v := .d (.fl (.bool (((mt c x) == (mt c x)))))) rfl (oy rfl rfl rfl (eq_self_b _) (op_bin rfl rfl rfl (fun x y w => b_beq _ _ _ x y w Tryd.underlying4) rfl)) ?_
  refine dr_put (d := 20) (v := .d (.fl (.bool (((mt c x) == (mt c x)))))) rfl (og rfl (op_pick rfl rfl (by rw [(eq_self_b _)]; rfl) rfl)) ?_
  refine dr_put (d := 21) (v := .d (.fl (.bool (((mt c x) == (mt c x)))))) rfl (og rfl (op_move rfl rfl rfl)) ?_
  refine dr_put (d := 22) (v := .d (.ag (eCa c))) rfl (oy rfl rfl rfl (eq_self_bb _) (of_eff (s_load_pts rfl Tryd.underlying23 rfl ti23 rfl rfl rfl rfl) rfl)) ?_
  refine dr_put (d := 23) (v := .d (.fl (.int .i64 t))) rfl (oy rfl rfl rfl (eq_self_bb _) (op_move rfl rfl rfl)) ?_
  refine dr_put (d := 24) (v := .d (.fl (.int .i64 (per c t)))) rfl (oy rfl rfl rfl (eq_self_bb _) (op_callK kkst hG rfl Tryd.func9 nm9 rfl (.cons rfl (.d _) (.cons rfl (.d _) .nil)) (per9 c t) rfl)) ?_
  refine dr_put (d := 25) (v := .d (.ag (eCa c))) rfl (oy rfl rfl rfl (eq_self_bb _) (of_eff (s_load_pts rfl Tryd.underlying23 rfl ti23 rfl rfl rfl rfl) rfl)) ?_
  refine dr_put (d := 26) (v := .d (.fl (.int .i64 t))) rfl (oy rfl rfl rfl (eq_self_bb _) (op_move rfl rfl rfl)) ?_
  refine dr_put (d := 27) (v := .d (.fl (.int .i64 (per c t)))) rfl (oy rfl rfl rfl (eq_self_bb _) (op_call rfl Tryd.func10 nm10 rfl (.cons rfl (.d _) (.cons rfl (.d _) .nil)) (per10 c t) rfl)) ?_
  refine dr_put (d := 28) (v := .d (.fl (.bool (((per c t) == (per c t)))))) rfl (oy rfl rfl rfl (eq_self_bb _) (op_bin rfl rfl rfl (b_eql _ _ _ _) rfl)) ?_
  refine dr_put (d := 29) (v := .d (.fl (.bool (((per c t) == (per c t)))))) rfl (og rfl (op_pick rfl rfl (by rw [(eq_self_bb _)]; rfl) rfl)) ?_
  refine dr_put (d := 30) (v := .d (.fl (.bool (((per c t) == (per c t)))))) rfl (og rfl (op_move rfl rfl rfl)) ?_
  refine dr_put (d := 31) (v := .d (.fl (.bool true))) rfl (oy rfl rfl rfl (eq_self_b _) (op_callK kkst hG rfl Tryd.func11 nm11 rfl .nil alive11 rfl)) ?_
  refine dr_put (d := 32) (v := .d (.fl (.bool true))) rfl (og rfl (op_pick rfl rfl (by rw [(eq_self_b _)]; rfl) rfl)) ?_
  refine dr_put (d := 6) (v := .d (.fl (.bool true))) rfl (og rfl (op_assign rfl rfl rfl)) ?_
  refine dr_done rfl (sepB_of [0, 1, 0, 7, 15, 31, 63, 63, 255, 63, 63, 2047, 4095, 8191, 16383, 32767, 32767, 131071, 32767, 32767, 1048575, 2097151, 4194303, 8388607, 16777215, 33554431, 67108863] (by kernel_rfl)) (by kernel_rfl) ?_
  refine a_ret ?_
  show ∃ ds, ResL _ _ _ ds ∧ RV.of ds = _
  refine ⟨[.fl (.bool true)], (.cons (.tmp rfl (.d _)) .nil), ?_⟩
  rfl
end Go.Proofs.YteeofplcnnhcnaaDoor.Wk
