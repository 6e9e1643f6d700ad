/- The laws of checks. No condition. -/
import Derived.Test.YtlmihhecpaomjaaAl
import Derived.Test.YtlmihhecpaomjaaB5
set_option linter.unusedSimpArgs false
set_option linter.unusedVariables false
namespace Go.Proofs.Ytlmihhecpaomjaa.Wk
open Go Go.RowKit Go.Proofs.Ytlmihhecpaomjaa.Av
set_option maxHeartbeats 4000000 in
set_option maxRecDepth 100000 in
theorem law3 (x : Ta) (t : Tpg) : Ctr Try.prog 3 [.ag (eTa x), .ag (eTpg t)] (.d (.fl (.bool true))) := by
  refine ctr (n := 23) (rs := #[.tmp 4]) (L := [(0, .d (.ag (eTa x))), (1, .d (.ag (eTpg t)))]) Try.func3 rfl rfl rfl rfl rfl (fun w0 U0 => ?_)
  refine a_rseq ?_
  refine rg_nam (d := 2) (v := .pt 101 0) (m := 101) (nw := [(101, .bx 27 (eTa x))]) rfl (og rfl (of_eff (op_box 101 rfl rfl rfl rfl) rfl)) rfl ?_
  refine rg_nam (d := 3) (v := .pt 102 0) (m := 102) (nw := [(102, .bx 34 (eTpg t))]) rfl (og rfl (of_eff (op_box 102 rfl rfl rfl rfl) rfl)) rfl ?_
  refine rg_put (d := 4) (v := .d (.fl (.bool false))) rfl (og rfl (op_assign rfl rfl rfl)) ?_
  refine rg_done rfl ?_
  refine a_seq ?_
  refine a_rseq ?_
  refine rg_put (d := 5) (v := .d (.ag (eTa x))) rfl (og rfl (of_eff (s_load_pts rfl Try.underlying27 rfl ti27 rfl rfl rfl rfl) rfl)) ?_
  refine rg_put (d := 6) (v := .d (.fl (.bool (shortB x)))) rfl (og rfl (op_call rfl Try.func6 nm6 rfl (.cons rfl (.d _) .nil) (short_c x) rfl)) ?_
  refine rg_put (d := 7) (v := .d (.fl (.bool ((!(shortB x)))))) rfl (og rfl (op_un rfl rfl (u_not _) rfl)) ?_
  refine rg_put (d := 8) (v := .d (.fl (.bool ((!(shortB x)))))) rfl (og rfl (op_move rfl rfl rfl)) ?_
  rcases fot ((!(shortB x))) with h1 | h1
  · skip
    have h2 := f_not h1
    refine rg_put (d := 9) (v := .d (.ag (eTpg t))) rfl (oy rfl rfl rfl h1 (of_eff (s_load_pts rfl Try.underlying34 rfl ti34 rfl rfl rfl rfl) rfl)) ?_
    refine rg_put (d := 10) (v := .d (.fl (.bool (smlT t)))) rfl (oy rfl rfl rfl h1 (op_call rfl Try.func7 nm7 rfl (.cons rfl (.d _) .nil) (small_c t) rfl)) ?_
    refine rg_put (d := 11) (v := .d (.fl (.bool ((!(smlT t)))))) rfl (oy rfl rfl rfl h1 (op_un rfl rfl (u_not _) rfl)) ?_
    refine rg_put (d := 12) (v := .d (.fl (.bool ((!(smlT t)))))) rfl (og rfl (op_pick rfl rfl (by rw [h1]; rfl) rfl)) ?_
    refine rg_done rfl ?_
    refine a_cond rfl (fun h3 => ?_) (fun h3 => ?_)
    · skip
      have h4 := t_not h3
      refine a_rseq ?_
      refine rg_put (d := 4) (v := .d (.fl (.bool true))) rfl (og rfl (op_assign rfl rfl rfl)) ?_
      refine rg_done rfl ?_
      refine a_ret ?_
      show ∃ ds, ResL _ _ _ ds ∧ RV.of ds = _
      refine ⟨[.fl (.bool true)], (.cons (.tmp rfl (.d _)) .nil), ?_⟩
      rfl
    · skip
      have h5 := f_not h3
      refine a_skip ?_
      show A _ _ _ _ _ _ _
      refine a_dseq (by kernel_rfl) ?_
      refine dr_put (d := 13) (v := .d (.ag (eTa x))) rfl (og rfl (of_eff (s_load_pts rfl Try.underlying27 rfl ti27 rfl rfl rfl rfl) rfl)) ?_
      refine dr_put (d := 14) (v := .d (.ag (eTpg t))) rfl (og rfl (of_eff (s_load_pts rfl Try.underlying34 rfl ti34 rfl rfl rfl rfl) rfl)) ?_
      refine dr_put (d := 15) (v := .d (.fl (.int .i64 ((tk (kn t) x))))) rfl (og rfl (op_call rfl Try.func8 nm8 rfl (.cons rfl (.d _) (.cons rfl (.d _) .nil)) (tkC x t) rfl)) ?_
      refine dr_put (d := 16) (v := .d (.ag (eTa x))) rfl (og rfl (of_eff (s_load_pts rfl Try.underlying27 rfl ti27 rfl rfl rfl rfl) rfl)) ?_
      refine dr_put (d := 17) (v := .d (.ag (eTpg t))) rfl (og rfl (of_eff (s_load_pts rfl Try.underlying34 rfl ti34 rfl rfl rfl rfl) rfl)) ?_
      refine dr_put (d := 18) (v := .d (.fl (.int .i64 ((tk (kn t) x))))) rfl (og rfl (op_call rfl Try.func9 nm9 rfl (.cons rfl (.d _) (.cons rfl (.d _) .nil)) (tkR x t) rfl)) ?_
      refine dr_put (d := 19) (v := .d (.fl (.bool (((tk (kn t) x) == (tk (kn t) x)))))) rfl (og rfl (op_bin rfl rfl rfl (b_eql _ _ _ _) rfl)) ?_
      refine dr_put (d := 20) (v := .d (.fl (.bool (((tk (kn t) x) == (tk (kn t) x)))))) rfl (og rfl (op_move rfl rfl rfl)) ?_
      refine dr_put (d := 21) (v := .d (.fl (.bool true))) rfl (oy rfl rfl rfl (eq_self_b _) (op_call rfl Try.func10 nm10 rfl .nil aliveT rfl)) ?_
      refine dr_put (d := 22) (v := .d (.fl (.bool true))) rfl (og rfl (op_pick rfl rfl (by rw [(eq_self_b _)]; rfl) rfl)) ?_
      refine dr_put (d := 4) (v := .d (.fl (.bool true))) rfl (og rfl (op_assign rfl rfl rfl)) ?_
      refine dr_done rfl (by kernel_rfl) (by kernel_rfl) ?_
      refine a_ret ?_
      show ∃ ds, ResL _ _ _ ds ∧ RV.of ds = _
      refine ⟨[.fl (.bool true)], (.cons (.tmp rfl (.d _)) .nil), ?_⟩
      rfl
  · skip
    have h6 := t_not h1
    refine rg_put (d := 9) (v := .d (.fl undef)) rfl (on rfl rfl rfl h1) ?_
    refine rg_put (d := 10) (v := .d (.fl undef)) rfl (on rfl rfl rfl h1) ?_
    refine rg_put (d := 11) (v := .d (.fl undef)) rfl (on rfl rfl rfl h1) ?_
    refine rg_put (d := 12) (v := .d (.fl (.bool true))) rfl (og rfl (op_pick rfl rfl (by rw [h1]; rfl) rfl)) ?_
    refine rg_done rfl ?_
    refine a_condK rfl rfl ?_
    refine a_rseq ?_
    refine rg_put (d := 4) (v := .d (.fl (.bool true))) rfl (og rfl (op_assign rfl rfl rfl)) ?_
    refine rg_done rfl ?_
    refine a_ret ?_
    show ∃ ds, ResL _ _ _ ds ∧ RV.of ds = _
    refine ⟨[.fl (.bool true)], (.cons (.tmp rfl (.d _)) .nil), ?_⟩
    rfl
set_option maxHeartbeats 4000000 in
set_option maxRecDepth 100000 in
theorem law4 (l : List Ta) (t : Tpg) : Ctr Try.prog 4 [.sl 4 (List.map eTa l), .ag (eTpg t)] (.d (.fl (.bool true))) := by
  refine ctr (n := 23) (rs := #[.tmp 4]) (L := [(0, .d (.sl 4 (List.map eTa l))), (1, .d (.ag (eTpg t)))]) Try.func4 rfl rfl rfl rfl rfl (fun w0 U0 => ?_)
  refine a_rseq ?_
  refine rg_nam (d := 3) (v := .pt 101 0) (m := 101) (nw := [(101, .bx 34 (eTpg t))]) rfl (og rfl (of_eff (op_box 101 rfl rfl rfl rfl) rfl)) rfl ?_
  refine rg_put (d := 4) (v := .d (.fl (.bool false))) rfl (og rfl (op_assign rfl rfl rfl)) ?_
  refine rg_done rfl ?_
  refine a_seq ?_
  refine a_rseq ?_
  refine rg_put (d := 5) (v := .d (.sl 4 (List.map eTa l))) rfl (og rfl (op_move rfl rfl rfl)) ?_
  refine rg_put (d := 6) (v := .d (.fl (.bool (fewB l)))) rfl (og rfl (op_call rfl Try.func11 nm11 rfl (.cons rfl (.d _) .nil) (few_c l) rfl)) ?_
  refine rg_put (d := 7) (v := .d (.fl (.bool ((!(fewB l)))))) rfl (og rfl (op_un rfl rfl (u_not _) rfl)) ?_
  refine rg_put (d := 8) (v := .d (.fl (.bool ((!(fewB l)))))) rfl (og rfl (op_move rfl rfl rfl)) ?_
  rcases fot ((!(fewB l))) with h1 | h1
  · skip
    have h2 := f_not h1
    refine rg_put (d := 9) (v := .d (.ag (eTpg t))) rfl (oy rfl rfl rfl h1 (of_eff (s_load_pts rfl Try.underlying34 rfl ti34 rfl rfl rfl rfl) rfl)) ?_
    refine rg_put (d := 10) (v := .d (.fl (.bool (smlT t)))) rfl (oy rfl rfl rfl h1 (op_call rfl Try.func7 nm7 rfl (.cons rfl (.d _) .nil) (small_c t) rfl)) ?_
    refine rg_put (d := 11) (v := .d (.fl (.bool ((!(smlT t)))))) rfl (oy rfl rfl rfl h1 (op_un rfl rfl (u_not _) rfl)) ?_
    refine rg_put (d := 12) (v := .d (.fl (.bool ((!(smlT t)))))) rfl (og rfl (op_pick rfl rfl (by rw [h1]; rfl) rfl)) ?_
    refine rg_done rfl ?_
    refine a_cond rfl (fun h3 => ?_) (fun h3 => ?_)
    · skip
      have h4 := t_not h3
      refine a_rseq ?_
      refine rg_put (d := 4) (v := .d (.fl (.bool true))) rfl (og rfl (op_assign rfl rfl rfl)) ?_
      refine rg_done rfl ?_
      refine a_ret ?_
      show ∃ ds, ResL _ _ _ ds ∧ RV.of ds = _
      refine ⟨[.fl (.bool true)], (.cons (.tmp rfl (.d _)) .nil), ?_⟩
      rfl
    · skip
      have h5 := f_not h3
      refine a_skip ?_
      show A _ _ _ _ _ _ _
      refine a_dseq (by kernel_rfl) ?_
      refine dr_put (d := 13) (v := .d (.sl 4 (List.map eTa l))) rfl (og rfl (op_move rfl rfl rfl)) ?_
      refine dr_put (d := 14) (v := .d (.ag (eTpg t))) rfl (og rfl (of_eff (s_load_pts rfl Try.underlying34 rfl ti34 rfl rfl rfl rfl) rfl)) ?_
      refine dr_put (d := 15) (v := .d (.fl (.int .i64 ((al (kn t) l))))) rfl (og rfl (op_call rfl Try.func12 nm12 rfl (.cons rfl (.d _) (.cons rfl (.d _) .nil)) (al_c l t) rfl)) ?_
      refine dr_put (d := 16) (v := .d (.sl 4 (List.map eTa l))) rfl (og rfl (op_move rfl rfl rfl)) ?_
      refine dr_put (d := 17) (v := .d (.ag (eTpg t))) rfl (og rfl (of_eff (s_load_pts rfl Try.underlying34 rfl ti34 rfl rfl rfl rfl) rfl)) ?_
      refine dr_put (d := 18) (v := .d (.fl (.int .i64 ((al (kn t) l))))) rfl (og rfl (op_call rfl Try.func13 nm13 rfl (.cons rfl (.d _) (.cons rfl (.d _) .nil)) (al_r l t) rfl)) ?_
      refine dr_put (d := 19) (v := .d (.fl (.bool (((al (kn t) l) == (al (kn t) l)))))) rfl (og rfl (op_bin rfl rfl rfl (b_eql _ _ _ _) rfl)) ?_
      refine dr_put (d := 20) (v := .d (.fl (.bool (((al (kn t) l) == (al (kn t) l)))))) rfl (og rfl (op_move rfl rfl rfl)) ?_
      refine dr_put (d := 21) (v := .d (.fl (.bool true))) rfl (oy rfl rfl rfl (eq_self_b _) (op_call rfl Try.func10 nm10 rfl .nil aliveT rfl)) ?_
      refine dr_put (d := 22) (v := .d (.fl (.bool true))) rfl (og rfl (op_pick rfl rfl (by rw [(eq_self_b _)]; rfl) rfl)) ?_
      refine dr_put (d := 4) (v := .d (.fl (.bool true))) rfl (og rfl (op_assign rfl rfl rfl)) ?_
      refine dr_done rfl (by kernel_rfl) (by kernel_rfl) ?_
      refine a_ret ?_
      show ∃ ds, ResL _ _ _ ds ∧ RV.of ds = _
      refine ⟨[.fl (.bool true)], (.cons (.tmp rfl (.d _)) .nil), ?_⟩
      rfl
  · skip
    have h6 := t_not h1
    refine rg_put (d := 9) (v := .d (.fl undef)) rfl (on rfl rfl rfl h1) ?_
    refine rg_put (d := 10) (v := .d (.fl undef)) rfl (on rfl rfl rfl h1) ?_
    refine rg_put (d := 11) (v := .d (.fl undef)) rfl (on rfl rfl rfl h1) ?_
    refine rg_put (d := 12) (v := .d (.fl (.bool true))) rfl (og rfl (op_pick rfl rfl (by rw [h1]; rfl) rfl)) ?_
    refine rg_done rfl ?_
    refine a_condK rfl rfl ?_
    refine a_rseq ?_
    refine rg_put (d := 4) (v := .d (.fl (.bool true))) rfl (og rfl (op_assign rfl rfl rfl)) ?_
    refine rg_done rfl ?_
    refine a_ret ?_
    show ∃ ds, ResL _ _ _ ds ∧ RV.of ds = _
    refine ⟨[.fl (.bool true)], (.cons (.tmp rfl (.d _)) .nil), ?_⟩
    rfl
end Go.Proofs.Ytlmihhecpaomjaa.Wk
