/- The law of checks. No condition. -/
import Derived.Test.YtmmadlhkniikdaaAl
import Derived.Test.YtmmadlhkniikdaaB1
set_option linter.unusedSimpArgs false
set_option linter.unusedVariables false
namespace Go.Proofs.Ytmmadlhkniikdaa.Wk
open Go Go.RowKit Go.Proofs.Ytmmadlhkniikdaa.Av
set_option maxHeartbeats 4000000 in
set_option maxRecDepth 100000 in
theorem law3 (e : En) : Ctr Try.prog 3 [.ag (eEn e)] (.d (.fl (.bool true))) := by
  refine ctr (n := 14) (rs := #[.tmp 2]) (L := [(0, .d (.ag (eEn e)))]) Try.func3 rfl rfl rfl rfl rfl (fun w0 U0 => ?_)
  refine a_rseq ?_
  refine rg_nam (d := 1) (v := .pt 101 0) (m := 101) (nw := [(101, .bx 24 (eEn e))]) rfl (og rfl (of_eff (op_box 101 rfl rfl rfl rfl) rfl)) rfl ?_
  refine rg_put (d := 2) (v := .d (.fl (.bool false))) rfl (og rfl (op_assign rfl rfl rfl)) ?_
  refine rg_done rfl ?_
  refine a_seq ?_
  refine a_rseq ?_
  refine rg_put (d := 3) (v := .d (.ag (eEn e))) rfl (og rfl (of_eff (s_load_pts rfl Try.underlying24 rfl ti24 rfl rfl rfl rfl) rfl)) ?_
  refine rg_put (d := 4) (v := .d (.fl (.bool (sml e)))) rfl (og rfl (op_call rfl Try.func10 nm10 rfl (.cons rfl (.d _) .nil) (sml10 e) rfl)) ?_
  refine rg_put (d := 5) (v := .d (.fl (.bool ((!(sml e)))))) rfl (og rfl (op_un rfl rfl (u_not _) rfl)) ?_
  refine rg_done rfl ?_
  refine a_cond rfl (fun h1 => ?_) (fun h1 => ?_)
  · skip
    have h2 := t_not h1
    refine a_rseq ?_
    refine rg_put (d := 2) (v := .d (.fl (.bool true))) rfl (og rfl (op_assign rfl rfl rfl)) ?_
    refine rg_done rfl ?_
    refine a_ret ?_
    show ∃ ds, ResL _ _ _ ds ∧ RV.of ds = _
    refine ⟨[.fl (.bool true)], (.cons (.tmp rfl (.d _)) .nil), ?_⟩
    rfl
  · skip
    have h3 := f_not h1
    refine a_skip ?_
    show A _ _ _ _ _ _ _
    refine a_dseq (by kernel_rfl) ?_
    have hsm := sml_t h3
    refine dr_put (d := 6) (v := .d (.ag (eEn e))) rfl (og rfl (of_eff (s_load_pts rfl Try.underlying24 rfl ti24 rfl rfl rfl rfl) rfl)) ?_
    refine dr_put (d := 7) (v := .d (.fl (.int .i64 (lck e)))) rfl (og rfl (op_call rfl Try.func11 nm11 rfl (.cons rfl (.d _) .nil) (lck11 e (by omega) (fun p hp => by have := hsm.2.2 p hp; omega)) rfl)) ?_
    refine dr_put (d := 8) (v := .d (.ag (eEn e))) rfl (og rfl (of_eff (s_load_pts rfl Try.underlying24 rfl ti24 rfl rfl rfl rfl) rfl)) ?_
    refine dr_put (d := 9) (v := .d (.fl (.int .i64 (lck e)))) rfl (og rfl (op_call rfl Try.func12 nm12 rfl (.cons rfl (.d _) .nil) (lck12 e (by omega) (fun p hp => by have := hsm.2.2 p hp; omega)) rfl)) ?_
    refine dr_put (d := 10) (v := .d (.fl (.bool (((lck e) == (lck e)))))) rfl (og rfl (op_bin rfl rfl rfl (b_eql _ _ _ _) rfl)) ?_
    refine dr_put (d := 11) (v := .d (.fl (.bool (((lck e) == (lck e)))))) rfl (og rfl (op_move rfl rfl rfl)) ?_
    refine dr_put (d := 12) (v := .d (.fl (.bool true))) rfl (oy rfl rfl rfl (eq_self_b _) (op_call rfl Try.func13 nm13 rfl .nil alive13 rfl)) ?_
    refine dr_put (d := 13) (v := .d (.fl (.bool true))) rfl (og rfl (op_pick rfl rfl (by rw [(eq_self_b _)]; rfl) rfl)) ?_
    refine dr_put (d := 2) (v := .d (.fl (.bool true))) rfl (og rfl (op_assign rfl rfl rfl)) ?_
    refine dr_done rfl (by kernel_rfl) (by kernel_rfl) ?_
    refine a_ret ?_
    show ∃ ds, ResL _ _ _ ds ∧ RV.of ds = _
    refine ⟨[.fl (.bool true)], (.cons (.tmp rfl (.d _)) .nil), ?_⟩
    rfl
end Go.Proofs.Ytmmadlhkniikdaa.Wk
