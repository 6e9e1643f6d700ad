/- The law of the clocks. Condition: the arguments read as data. -/
import Derived.Test.YtajhpdmbmipboaaOp
import Derived.Test.YtajhpdmbmipboaaB7
set_option linter.unusedSimpArgs false
set_option linter.unusedVariables false
namespace Go.Proofs.Ytajhpdmbmipboaa.Wk
open Go Go.RowKit Go.Proofs.Ytajhpdmbmipboaa.Av
theorem ho_dc {d : Dc} (h : okDc d) : ∀ o ∈ d.offs, -9223372036854775808 ≤ o.dl ∧ o.dl ≤ 9223372036854775807 := fun o ho => i64_r (h.2.2.2.2.1.2 o ho).2
set_option maxHeartbeats 4000000 in
set_option maxRecDepth 100000 in
theorem law4 (d : Dc) (raw t : Int) (hW : okDc d) : Ctr Try.prog 4 [.ag (eDc d), .fl (.int .i64 raw), .fl (.int .i64 t)] (.d (.fl (.bool true))) := by
  refine ctr (n := 54) (rs := #[.tmp 6]) (L := [(0, .d (.ag (eDc d))), (1, .d (.fl (.int .i64 raw))), (2, .d (.fl (.int .i64 t)))]) Try.func4 rfl rfl rfl rfl rfl (fun w0 U0 => ?_)
  refine a_rseq ?_
  refine rg_nam (d := 3) (v := .pt 101 0) (m := 101) (nw := [(101, .bx 36 (eDc d))]) rfl (og rfl (of_eff (op_box 101 rfl rfl rfl rfl) rfl)) rfl ?_
  refine rg_put (d := 6) (v := .d (.fl (.bool false))) rfl (og rfl (op_assign rfl rfl rfl)) ?_
  refine rg_done rfl ?_
  refine a_seq ?_
  refine a_rseq ?_
  refine rg_put (d := 11) (v := .pt 101 4) rfl (og rfl (of_eff (s_field_pt rfl Try.underlying36 rfl ti33 rfl rfl rfl) rfl)) ?_
  refine rg_put (d := 12) (v := .d (.sl 2 (List.map eOf d.offs))) rfl (og rfl (op_load_pt rfl Try.underlying33 rfl rfl rfl rfl rfl)) ?_
  refine rg_put (d := 13) (v := .d (.fl (.int .i64 (d.offs.length : Int)))) rfl (og rfl (s_len rfl Try.underlying33 rfl rfl)) ?_
  refine rg_put (d := 14) (v := .d (.fl (.bool ((decide (1000 < (d.offs.length : Int))))))) rfl (og rfl (op_bin rfl rfl rfl (b_gtr _ _ _ _) rfl)) ?_
  refine rg_put (d := 15) (v := .d (.fl (.bool ((decide (1000 < (d.offs.length : Int))))))) rfl (og rfl (op_move rfl rfl rfl)) ?_
  rcases fot ((decide (1000 < (d.offs.length : Int)))) with h1 | h1
  · skip
    have h2 := f_dec h1
    refine rg_put (d := 16) (v := .pt 101 5) rfl (oy rfl rfl rfl h1 (of_eff (s_field_pt rfl Try.underlying36 rfl ti34 rfl rfl rfl) rfl)) ?_
    refine rg_put (d := 17) (v := .d (.sl 2 (List.map eIv d.down))) rfl (oy rfl rfl rfl h1 (op_load_pt rfl Try.underlying34 rfl rfl rfl rfl rfl)) ?_
    refine rg_put (d := 18) (v := .d (.fl (.int .i64 (d.down.length : Int)))) rfl (oy rfl rfl rfl h1 (s_len rfl Try.underlying34 rfl rfl)) ?_
    refine rg_put (d := 19) (v := .d (.fl (.bool ((decide (1000 < (d.down.length : Int))))))) rfl (oy rfl rfl rfl h1 (op_bin rfl rfl rfl (b_gtr _ _ _ _) rfl)) ?_
    refine rg_put (d := 20) (v := .d (.fl (.bool ((decide (1000 < (d.down.length : Int))))))) rfl (og rfl (op_pick rfl rfl (by rw [h1]; rfl) rfl)) ?_
    refine rg_done rfl ?_
    refine a_cond rfl (fun h3 => ?_) (fun h3 => ?_)
    · skip
      have h4 := t_dec h3
      refine a_rseq ?_
      refine rg_put (d := 21) (v := .d (.fl (.bool true))) rfl (og rfl (op_call rfl Try.func7 nm7 rfl .nil awake7 rfl)) ?_
      refine rg_put (d := 6) (v := .d (.fl (.bool true))) rfl (og rfl (op_assign rfl rfl rfl)) ?_
      refine rg_done rfl ?_
      refine a_ret ?_
      show ∃ ds, ResL _ _ _ ds ∧ RV.of ds = _
      refine ⟨[.fl (.bool true)], (.cons (.tmp rfl (.d _)) .nil), ?_⟩
      rfl
    · skip
      have h5 := f_dec h3
      refine a_skip ?_
      show A _ _ _ _ _ _ _
      refine a_rseq ?_
      refine rg_put (d := 23) (v := .d (.ag (eDc d))) rfl (og rfl (of_eff (s_load_pts rfl Try.underlying36 rfl ti36 rfl rfl rfl rfl) rfl)) ?_
      refine rg_put (d := 24) (v := .d (.fl (.int .i64 raw))) rfl (og rfl (op_move rfl rfl rfl)) ?_
      refine rg_put (d := 25) (v := .tu [.fl (.int .i64 ((clk d raw).1)), .fl (.bool ((clk d raw).2))]) rfl (og rfl (op_call rfl Try.func10 nm10 rfl (.cons rfl (.d _) (.cons rfl (.d _) .nil)) (clk10 d raw (by omega) (ho_dc hW)) rfl)) ?_
      refine rg_put (d := 22) (v := .tu [.fl (.int .i64 ((clk d raw).1)), .fl (.bool ((clk d raw).2))]) rfl (og rfl (op_move rfl rfl rfl)) ?_
      refine rg_put (d := 26) (v := .d (.fl (.int .i64 ((clk d raw).1)))) rfl (og rfl (op_extract rfl rfl rfl rfl)) ?_
      refine rg_put (d := 27) (v := .d (.fl (.bool ((clk d raw).2)))) rfl (og rfl (op_extract rfl rfl rfl rfl)) ?_
      refine rg_put (d := 7) (v := .d (.fl (.int .i64 ((clk d raw).1)))) rfl (og rfl (op_assign rfl rfl rfl)) ?_
      refine rg_put (d := 8) (v := .d (.fl (.bool ((clk d raw).2)))) rfl (og rfl (op_assign rfl rfl rfl)) ?_
      refine rg_done rfl ?_
      refine a_rseq ?_
      refine rg_put (d := 29) (v := .d (.ag (eDc d))) rfl (og rfl (of_eff (s_load_pts rfl Try.underlying36 rfl ti36 rfl rfl rfl rfl) rfl)) ?_
      refine rg_put (d := 30) (v := .d (.fl (.int .i64 raw))) rfl (og rfl (op_move rfl rfl rfl)) ?_
      refine rg_put (d := 31) (v := .tu [.fl (.int .i64 ((clk d raw).1)), .fl (.bool ((clk d raw).2))]) rfl (og rfl (op_call rfl Try.func11 nm11 rfl (.cons rfl (.d _) (.cons rfl (.d _) .nil)) (clk11 d raw (by omega) (ho_dc hW)) rfl)) ?_
      refine rg_put (d := 28) (v := .tu [.fl (.int .i64 ((clk d raw).1)), .fl (.bool ((clk d raw).2))]) rfl (og rfl (op_move rfl rfl rfl)) ?_
      refine rg_put (d := 32) (v := .d (.fl (.int .i64 ((clk d raw).1)))) rfl (og rfl (op_extract rfl rfl rfl rfl)) ?_
      refine rg_put (d := 33) (v := .d (.fl (.bool ((clk d raw).2)))) rfl (og rfl (op_extract rfl rfl rfl rfl)) ?_
      refine rg_put (d := 9) (v := .d (.fl (.int .i64 ((clk d raw).1)))) rfl (og rfl (op_assign rfl rfl rfl)) ?_
      refine rg_put (d := 10) (v := .d (.fl (.bool ((clk d raw).2)))) rfl (og rfl (op_assign rfl rfl rfl)) ?_
      refine rg_done rfl ?_
      refine a_dseq (by kernel_rfl) ?_
      refine dr_put (d := 34) (v := .d (.fl (.int .i64 ((clk d raw).1)))) rfl (og rfl (op_move rfl rfl rfl)) ?_
      refine dr_put (d := 35) (v := .d (.fl (.int .i64 ((clk d raw).1)))) rfl (og rfl (op_move rfl rfl rfl)) ?_
      refine dr_put (d := 36) (v := .d (.fl (.bool (((clk d raw).1 == (clk d raw).1))))) rfl (og rfl (op_bin rfl rfl rfl (b_eql _ _ _ _) rfl)) ?_
      refine dr_put (d := 37) (v := .d (.fl (.bool (((clk d raw).1 == (clk d raw).1))))) rfl (og rfl (op_move rfl rfl rfl)) ?_
      refine dr_put (d := 38) (v := .d (.fl (.bool ((clk d raw).2)))) rfl (oy rfl rfl rfl (eq_self_b _) (op_move rfl rfl rfl)) ?_
      refine dr_put (d := 39) (v := .d (.fl (.bool ((clk d raw).2)))) rfl (oy rfl rfl rfl (eq_self_b _) (op_move rfl rfl rfl)) ?_
      refine dr_put (d := 40) (v := .d (.fl (.bool (((clk d raw).2 == (clk d raw).2))))) rfl (oy rfl rfl rfl (eq_self_b _) (op_bin rfl rfl rfl (fun x y w => b_beq _ _ _ x y w Try.underlying4) rfl)) ?_
      refine dr_put (d := 41) (v := .d (.fl (.bool (((clk d raw).2 == (clk d raw).2))))) rfl (og rfl (op_pick rfl rfl (by rw [(eq_self_b _)]; rfl) rfl)) ?_
      refine dr_put (d := 42) (v := .d (.fl (.bool (((clk d raw).2 == (clk d raw).2))))) rfl (og rfl (op_move rfl rfl rfl)) ?_
      refine dr_put (d := 43) (v := .d (.ag (eDc d))) rfl (oy rfl rfl rfl (eq_self_bb _) (of_eff (s_load_pts rfl Try.underlying36 rfl ti36 rfl rfl rfl rfl) rfl)) ?_
      refine dr_put (d := 44) (v := .d (.fl (.int .i64 t))) rfl (oy rfl rfl rfl (eq_self_bb _) (op_move rfl rfl rfl)) ?_
      refine dr_put (d := 45) (v := .d (.fl (.bool (wrk d t)))) rfl (oy rfl rfl rfl (eq_self_bb _) (op_call rfl Try.func12 nm12 rfl (.cons rfl (.d _) (.cons rfl (.d _) .nil)) (wrk12 d t (by omega)) rfl)) ?_
      refine dr_put (d := 46) (v := .d (.ag (eDc d))) rfl (oy rfl rfl rfl (eq_self_bb _) (of_eff (s_load_pts rfl Try.underlying36 rfl ti36 rfl rfl rfl rfl) rfl)) ?_
      refine dr_put (d := 47) (v := .d (.fl (.int .i64 t))) rfl (oy rfl rfl rfl (eq_self_bb _) (op_move rfl rfl rfl)) ?_
      refine dr_put (d := 48) (v := .d (.fl (.bool (wrk d t)))) rfl (oy rfl rfl rfl (eq_self_bb _) (op_call rfl Try.func13 nm13 rfl (.cons rfl (.d _) (.cons rfl (.d _) .nil)) (wrk13 d t (by omega)) rfl)) ?_
      refine dr_put (d := 49) (v := .d (.fl (.bool (((wrk d t) == (wrk d t)))))) rfl (oy rfl rfl rfl (eq_self_bb _) (op_bin rfl rfl rfl (fun x y w => b_beq _ _ _ x y w Try.underlying4) rfl)) ?_
      refine dr_put (d := 50) (v := .d (.fl (.bool (((wrk d t) == (wrk d t)))))) rfl (og rfl (op_pick rfl rfl (by rw [(eq_self_bb _)]; rfl) rfl)) ?_
      refine dr_put (d := 51) (v := .d (.fl (.bool (((wrk d t) == (wrk d t)))))) rfl (og rfl (op_move rfl rfl rfl)) ?_
      refine dr_put (d := 52) (v := .d (.fl (.bool true))) rfl (oy rfl rfl rfl (eq_self_bb _) (op_call rfl Try.func7 nm7 rfl .nil awake7 rfl)) ?_
      refine dr_put (d := 53) (v := .d (.fl (.bool true))) rfl (og rfl (op_pick rfl rfl (by rw [(eq_self_bb _)]; rfl) rfl)) ?_
      refine dr_put (d := 6) (v := .d (.fl (.bool true))) rfl (og rfl (op_assign rfl rfl rfl)) ?_
      refine dr_done rfl (sepB_of [0, 0, 3, 7, 15, 15, 63, 127, 255, 511, 511, 2047, 511, 511, 16383, 32767, 65535, 131071, 262143, 524287, 1048575] (by kernel_rfl)) (by kernel_rfl) ?_
      refine a_ret ?_
      show ∃ ds, ResL _ _ _ ds ∧ RV.of ds = _
      refine ⟨[.fl (.bool true)], (.cons (.tmp rfl (.d _)) .nil), ?_⟩
      rfl
  · skip
    have h6 := t_dec h1
    refine rg_put (d := 16) (v := .d (.fl undef)) rfl (on rfl rfl rfl h1) ?_
    refine rg_put (d := 17) (v := .d (.fl undef)) rfl (on rfl rfl rfl h1) ?_
    refine rg_put (d := 18) (v := .d (.fl undef)) rfl (on rfl rfl rfl h1) ?_
    refine rg_put (d := 19) (v := .d (.fl undef)) rfl (on rfl rfl rfl h1) ?_
    refine rg_put (d := 20) (v := .d (.fl (.bool true))) rfl (og rfl (op_pick rfl rfl (by rw [h1]; rfl) rfl)) ?_
    refine rg_done rfl ?_
    refine a_condK rfl rfl ?_
    refine a_rseq ?_
    refine rg_put (d := 21) (v := .d (.fl (.bool true))) rfl (og rfl (op_call rfl Try.func7 nm7 rfl .nil awake7 rfl)) ?_
    refine rg_put (d := 6) (v := .d (.fl (.bool true))) rfl (og rfl (op_assign rfl rfl rfl)) ?_
    refine rg_done rfl ?_
    refine a_ret ?_
    show ∃ ds, ResL _ _ _ ds ∧ RV.of ds = _
    refine ⟨[.fl (.bool true)], (.cons (.tmp rfl (.d _)) .nil), ?_⟩
    rfl
end Go.Proofs.Ytajhpdmbmipboaa.Wk
