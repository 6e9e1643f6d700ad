/- The program is awake. No condition. -/
import Derived.Test.YtajhpdmbmipboaaB6
set_option linter.unusedSimpArgs false
set_option linter.unusedVariables false
namespace Go.Proofs.Ytajhpdmbmipboaa.Wk
open Go Go.RowKit Go.Proofs.Ytajhpdmbmipboaa.Av
theorem nameC1 : isN ⟨#[99, 49]⟩ = true := by kernel_rfl
theorem nameC2 : isN ⟨#[99, 50]⟩ = true := by kernel_rfl
theorem name18a : Ctr Try.prog 18 [.fl (.string ⟨#[99, 49]⟩)] (.d (.fl (.bool true))) := by
  have := ret_name ⟨#[99, 49]⟩
  rw [nameC1] at this; exact this
theorem name18b : Ctr Try.prog 18 [.fl (.string ⟨#[99, 50]⟩)] (.d (.fl (.bool true))) := by
  have := ret_name ⟨#[99, 50]⟩
  rw [nameC2] at this; exact this
theorem ho_D1 : ∀ o ∈ D1.offs, -9223372036854775808 ≤ o.dl ∧ o.dl ≤ 9223372036854775807 := by intro o h; have h : o ∈ [O1, O2] := h; simp at h; rcases h with rfl | rfl <;> decide
theorem ho_E1 : ∀ o ∈ E1.offs, -9223372036854775808 ≤ o.dl ∧ o.dl ≤ 9223372036854775807 := by intro o h; have h : o ∈ [O3] := h; simp at h; rcases h with rfl <;> decide

theorem isTk (t : Int) (h : isT t = true) : Ctr Try.prog 23 [.fl (.int .i64 t)] (.d (.fl (.bool true))) := by
  have := isT23 t
  rw [h] at this; exact this
set_option maxHeartbeats 4000000 in
set_option maxRecDepth 100000 in
theorem offA  : Ctr Try.prog 19 [.sl 2 (List.map eOf [O1, O2])] (.d (.fl (.int .i64 0))) := by
  refine ctr (n := 40) (rs := #[.tmp 2]) (L := [(0, .d (.sl 2 (List.map eOf [O1, O2])))]) Try.func19 rfl rfl rfl rfl rfl (fun w0 U0 => ?_)
  refine a_rseq ?_
  refine rg_put (d := 2) (v := .d (.fl (.int .i64 0))) rfl (og rfl (op_assign rfl rfl rfl)) ?_
  rw [show 0 = (0 : Int) from by first | rfl | kernel_rfl]
  refine rg_done rfl ?_
  refine a_seq ?_
  refine a_rseq ?_
  refine rg_put (d := 5) (v := .d (.sl 2 (List.map eOf [O1, O2]))) rfl (og rfl (op_move rfl rfl rfl)) ?_
  refine rg_put (d := 6) (v := .d (.fl (.int .i64 ([O1, O2].length : Int)))) rfl (og rfl (s_len rfl Try.underlying33 rfl rfl)) ?_
  rw [show ([O1, O2].length : Int) = (2 : Int) from by first | rfl | kernel_rfl]
  refine rg_put (d := 7) (v := .d (.fl (.int .i64 0))) rfl (og rfl (op_move rfl rfl rfl)) ?_
  rw [show 0 = (0 : Int) from by first | rfl | kernel_rfl]
  refine rg_done rfl ?_
  refine a_block ?_
  refine a_rounds (n := 1000000) ?_
  refine ard_succ ?_
  refine a_imp (τ := SS [(0, .d (.sl 2 (List.map eOf [O1, O2]))), (2, .d (.fl (.int .i64 (0 : Int)))), (5, .d (.sl 2 (List.map eOf [O1, O2]))), (6, .d (.fl (.int .i64 (2 : Int)))), (7, .d (.fl (.int .i64 (0 : Int))))] []) (imp_forget rfl ⟨rfl, rfl, rfl, rfl, rfl, trivial⟩ trivial) ?_
  refine a_rseq ?_
  refine rg_put (d := 8) (v := .d (.fl (.bool true))) rfl (og rfl (op_bin rfl rfl rfl (b_lss _ _ _ _) rfl)) ?_
  refine rg_done rfl ?_
  refine a_seq ?_
  refine a_condK rfl rfl ?_
  refine a_skip ?_
  show A _ _ _ _ _ _ _
  refine a_seq ?_
  refine a_block ?_
  refine a_rseq ?_
  refine rg_put (d := 9) (v := .d (.fl (.int .i64 (0 : Int)))) rfl (og rfl (op_move rfl rfl rfl)) ?_
  rw [show (0 : Int) = (0 : Int) from by first | rfl | kernel_rfl]
  refine rg_put (d := 10) (v := .el ((eOf (ix [O1, O2] 0)))) rfl (og rfl (s_index rfl Try.underlying33 ti46 rfl rfl (by first | decide | (simp [ix]; done) | omega) (row_at (by first | decide | (simp [ix]; done) | omega)) rfl)) ?_
  refine rg_put (d := 11) (v := .d (.ag (eOf (ix [O1, O2] 0)))) rfl (og rfl (of_eff (s_load_els rfl Try.underlying46 rfl ti46 rfl rfl rfl) rfl)) ?_
  refine rg_nam (d := 4) (v := .pt 101 0) (m := 101) (nw := [(101, .bx 46 [.fl (.int .i64 0), .fl (.int .i64 0)])]) rfl (og rfl (of_eff (s_alloc 101 rfl ti46 (by kernel_rfl) rfl) rfl)) rfl ?_
  refine rg_put (d := 3) (v := .d (.fl (.int .i64 (0 : Int)))) rfl (og rfl (op_assign rfl rfl rfl)) ?_
  rw [show (0 : Int) = (0 : Int) from by first | rfl | kernel_rfl]
  refine rg_sto (nw := [(101, .bx 46 ((eOf (ix [O1, O2] 0))))]) rfl (og rfl (of_eff (s_store rfl rfl ti46 rfl rfl rfl rfl rfl rfl) rfl)) ?_
  refine rg_done rfl ?_
  refine a_seq ?_
  refine a_dseq (by kernel_rfl) ?_
  refine dr_put (d := 12) (v := .d (.fl (.int .i64 (0 : Int)))) rfl (og rfl (op_move rfl rfl rfl)) ?_
  rw [show (0 : Int) = (0 : Int) from by first | rfl | kernel_rfl]
  refine dr_put (d := 13) (v := .d (.fl (.bool false))) rfl (og rfl (op_bin rfl rfl rfl (b_gtr _ _ _ _) rfl)) ?_
  refine dr_put (d := 14) (v := .d (.fl (.bool false))) rfl (og rfl (op_move rfl rfl rfl)) ?_
  refine dr_put (d := 15) (v := .d (.fl undef)) rfl (on rfl rfl rfl rfl) ?_
  refine dr_put (d := 16) (v := .d (.fl undef)) rfl (on rfl rfl rfl rfl) ?_
  refine dr_put (d := 17) (v := .d (.fl undef)) rfl (on rfl rfl rfl rfl) ?_
  refine dr_put (d := 18) (v := .d (.fl undef)) rfl (on rfl rfl rfl rfl) ?_
  refine dr_put (d := 19) (v := .d (.fl undef)) rfl (on rfl rfl rfl rfl) ?_
  refine dr_put (d := 20) (v := .d (.fl undef)) rfl (on rfl rfl rfl rfl) ?_
  refine dr_put (d := 21) (v := .d (.fl undef)) rfl (on rfl rfl rfl rfl) ?_
  refine dr_put (d := 22) (v := .d (.fl undef)) rfl (on rfl rfl rfl rfl) ?_
  refine dr_put (d := 23) (v := .d (.fl undef)) rfl (on rfl rfl rfl rfl) ?_
  refine dr_put (d := 24) (v := .d (.fl (.bool false))) rfl (og rfl (op_pick rfl rfl rfl rfl)) ?_
  refine dr_done rfl (by kernel_rfl) (by kernel_rfl) ?_
  refine a_condF rfl rfl ?_
  refine a_skip ?_
  show A _ _ _ _ _ _ _
  refine a_rseq ?_
  refine rg_put (d := 25) (v := .pt 101 0) rfl (og rfl (of_eff (s_field_pt rfl Try.underlying46 rfl ti3 rfl rfl rfl) rfl)) ?_
  refine rg_put (d := 26) (v := .d (.fl (.int .i64 ((ix [O1, O2] 0).fr)))) rfl (og rfl (op_load_pt rfl Try.underlying3 rfl rfl rfl rfl rfl)) ?_
  rw [show (ix [O1, O2] 0).fr = (100 : Int) from by first | rfl | kernel_rfl]
  refine rg_put (d := 27) (v := .d (.fl (.bool true))) rfl (og rfl (op_call rfl Try.func23 nm23 rfl (.cons rfl (.d _) .nil) (isTk (100 : Int) (by decide)) rfl)) ?_
  refine rg_put (d := 28) (v := .d (.fl (.bool false))) rfl (og rfl (op_un rfl rfl (u_not _) rfl)) ?_
  refine rg_put (d := 29) (v := .d (.fl (.bool false))) rfl (og rfl (op_move rfl rfl rfl)) ?_
  refine rg_put (d := 30) (v := .pt 101 1) rfl (oy rfl rfl rfl rfl (of_eff (s_field_pt rfl Try.underlying46 rfl ti3 rfl rfl rfl) rfl)) ?_
  refine rg_put (d := 31) (v := .d (.fl (.int .i64 ((ix [O1, O2] 0).dl)))) rfl (oy rfl rfl rfl rfl (op_load_pt rfl Try.underlying3 rfl rfl rfl rfl rfl)) ?_
  rw [show (ix [O1, O2] 0).dl = (5 : Int) from by first | rfl | kernel_rfl]
  refine rg_put (d := 32) (v := .d (.fl (.bool false))) rfl (oy rfl rfl rfl rfl (op_bin rfl rfl rfl (b_lss _ _ _ _) rfl)) ?_
  refine rg_put (d := 33) (v := .d (.fl (.bool false))) rfl (og rfl (op_pick rfl rfl rfl rfl)) ?_
  refine rg_put (d := 34) (v := .d (.fl (.bool false))) rfl (og rfl (op_move rfl rfl rfl)) ?_
  refine rg_put (d := 35) (v := .pt 101 1) rfl (oy rfl rfl rfl rfl (of_eff (s_field_pt rfl Try.underlying46 rfl ti3 rfl rfl rfl) rfl)) ?_
  refine rg_put (d := 36) (v := .d (.fl (.int .i64 ((ix [O1, O2] 0).dl)))) rfl (oy rfl rfl rfl rfl (op_load_pt rfl Try.underlying3 rfl rfl rfl rfl rfl)) ?_
  rw [show (ix [O1, O2] 0).dl = (5 : Int) from by first | rfl | kernel_rfl]
  refine rg_put (d := 37) (v := .d (.fl (.bool false))) rfl (oy rfl rfl rfl rfl (op_bin rfl rfl rfl (b_gtr _ _ _ _) rfl)) ?_
  refine rg_put (d := 38) (v := .d (.fl (.bool false))) rfl (og rfl (op_pick rfl rfl rfl rfl)) ?_
  refine rg_done rfl ?_
  refine a_condF rfl rfl ?_
  refine a_skip ?_
  show A _ _ _ _ _ _ _
  refine a_region ?_
  refine rg_put (d := 39) (v := .d (.fl (.int .i64 (1 : Int)))) rfl (og rfl (op_bin rfl rfl rfl (fun x y w => b_add64 _ _ _ x y w (by first | decide | (simp [ix]; done) | omega)) rfl)) ?_
  refine rg_put (d := 7) (v := .d (.fl (.int .i64 (1 : Int)))) rfl (og rfl (op_move rfl rfl rfl)) ?_
  rw [show (1 : Int) = (1 : Int) from by first | rfl | kernel_rfl]
  refine rg_done rfl ?_
  show ARd _ _ _ _ _ _ _ _
  refine ard_succ ?_
  refine a_imp (τ := SS [(0, .d (.sl 2 (List.map eOf [O1, O2]))), (2, .d (.fl (.int .i64 (0 : Int)))), (3, .d (.fl (.int .i64 (0 : Int)))), (4, .pt 101 0), (5, .d (.sl 2 (List.map eOf [O1, O2]))), (6, .d (.fl (.int .i64 (2 : Int)))), (7, .d (.fl (.int .i64 (1 : Int)))), (8, .d (.fl (.bool true))), (24, .d (.fl (.bool false))), (38, .d (.fl (.bool false)))] [(101, .bx 46 ((eOf (ix [O1, O2] 0))))]) (imp_forget rfl ⟨rfl, rfl, rfl, rfl, rfl, rfl, rfl, rfl, rfl, rfl, trivial⟩ ⟨rfl, trivial⟩) ?_
  refine a_rseq ?_
  refine rg_put (d := 8) (v := .d (.fl (.bool true))) rfl (og rfl (op_bin rfl rfl rfl (b_lss _ _ _ _) rfl)) ?_
  refine rg_done rfl ?_
  refine a_seq ?_
  refine a_condK rfl rfl ?_
  refine a_skip ?_
  show A _ _ _ _ _ _ _
  refine a_seq ?_
  refine a_block ?_
  refine a_rseq ?_
  refine rg_put (d := 9) (v := .d (.fl (.int .i64 (1 : Int)))) rfl (og rfl (op_move rfl rfl rfl)) ?_
  rw [show (1 : Int) = (1 : Int) from by first | rfl | kernel_rfl]
  refine rg_put (d := 10) (v := .el ((eOf (ix [O1, O2] 1)))) rfl (og rfl (s_index rfl Try.underlying33 ti46 rfl rfl (by first | decide | (simp [ix]; done) | omega) (row_at (by first | decide | (simp [ix]; done) | omega)) rfl)) ?_
  refine rg_put (d := 11) (v := .d (.ag (eOf (ix [O1, O2] 1)))) rfl (og rfl (of_eff (s_load_els rfl Try.underlying46 rfl ti46 rfl rfl rfl) rfl)) ?_
  refine rg_nam (d := 4) (v := .pt 102 0) (m := 102) (nw := [(102, .bx 46 [.fl (.int .i64 0), .fl (.int .i64 0)])]) rfl (og rfl (of_eff (s_alloc 102 rfl ti46 (by kernel_rfl) rfl) rfl)) rfl ?_
  refine rg_put (d := 3) (v := .d (.fl (.int .i64 (1 : Int)))) rfl (og rfl (op_assign rfl rfl rfl)) ?_
  rw [show (1 : Int) = (1 : Int) from by first | rfl | kernel_rfl]
  refine rg_sto (nw := [(102, .bx 46 ((eOf (ix [O1, O2] 1))))]) rfl (og rfl (of_eff (s_store rfl rfl ti46 rfl rfl rfl rfl rfl rfl) rfl)) ?_
  refine rg_done rfl ?_
  refine a_seq ?_
  refine a_dseq (by kernel_rfl) ?_
  refine dr_put (d := 12) (v := .d (.fl (.int .i64 (1 : Int)))) rfl (og rfl (op_move rfl rfl rfl)) ?_
  rw [show (1 : Int) = (1 : Int) from by first | rfl | kernel_rfl]
  refine dr_put (d := 13) (v := .d (.fl (.bool true))) rfl (og rfl (op_bin rfl rfl rfl (b_gtr _ _ _ _) rfl)) ?_
  refine dr_put (d := 14) (v := .d (.fl (.bool true))) rfl (og rfl (op_move rfl rfl rfl)) ?_
  refine dr_put (d := 15) (v := .pt 102 0) rfl (oy rfl rfl rfl rfl (of_eff (s_field_pt rfl Try.underlying46 rfl ti3 rfl rfl rfl) rfl)) ?_
  refine dr_put (d := 16) (v := .d (.fl (.int .i64 ((ix [O1, O2] 1).fr)))) rfl (oy rfl rfl rfl rfl (op_load_pt rfl Try.underlying3 rfl rfl rfl rfl rfl)) ?_
  rw [show (ix [O1, O2] 1).fr = (200 : Int) from by first | rfl | kernel_rfl]
  refine dr_put (d := 17) (v := .d (.sl 2 (List.map eOf [O1, O2]))) rfl (oy rfl rfl rfl rfl (op_move rfl rfl rfl)) ?_
  refine dr_put (d := 18) (v := .d (.fl (.int .i64 (1 : Int)))) rfl (oy rfl rfl rfl rfl (op_move rfl rfl rfl)) ?_
  rw [show (1 : Int) = (1 : Int) from by first | rfl | kernel_rfl]
  refine dr_put (d := 19) (v := .d (.fl (.int .i64 (0 : Int)))) rfl (oy rfl rfl rfl rfl (op_bin rfl rfl rfl (fun x y w => b_sub64 _ _ _ x y w (by first | decide | (simp [ix]; done) | omega)) rfl)) ?_
  refine dr_put (d := 20) (v := .el ((eOf (ix [O1, O2] 0)))) rfl (oy rfl rfl rfl rfl (s_index rfl Try.underlying33 ti46 rfl rfl (by first | decide | (simp [ix]; done) | omega) (row_at (by first | decide | (simp [ix]; done) | omega)) rfl)) ?_
  refine dr_put (d := 21) (v := .el ((List.drop 0 ((eOf (ix [O1, O2] 0)))))) rfl (oy rfl rfl rfl rfl (of_eff (s_field_el rfl Try.underlying46 rfl ti3 rfl rfl rfl) rfl)) ?_
  refine dr_put (d := 22) (v := .d (.fl (.int .i64 ((ix [O1, O2] 0).fr)))) rfl (oy rfl rfl rfl rfl (op_load_el rfl Try.underlying3 rfl rfl rfl rfl)) ?_
  rw [show (ix [O1, O2] 0).fr = (100 : Int) from by first | rfl | kernel_rfl]
  refine dr_put (d := 23) (v := .d (.fl (.bool false))) rfl (oy rfl rfl rfl rfl (op_bin rfl rfl rfl (b_leq _ _ _ _) rfl)) ?_
  refine dr_put (d := 24) (v := .d (.fl (.bool false))) rfl (og rfl (op_pick rfl rfl rfl rfl)) ?_
  refine dr_done rfl (by kernel_rfl) (by kernel_rfl) ?_
  refine a_condF rfl rfl ?_
  refine a_skip ?_
  show A _ _ _ _ _ _ _
  refine a_rseq ?_
  refine rg_put (d := 25) (v := .pt 102 0) rfl (og rfl (of_eff (s_field_pt rfl Try.underlying46 rfl ti3 rfl rfl rfl) rfl)) ?_
  refine rg_put (d := 26) (v := .d (.fl (.int .i64 ((ix [O1, O2] 1).fr)))) rfl (og rfl (op_load_pt rfl Try.underlying3 rfl rfl rfl rfl rfl)) ?_
  rw [show (ix [O1, O2] 1).fr = (200 : Int) from by first | rfl | kernel_rfl]
  refine rg_put (d := 27) (v := .d (.fl (.bool true))) rfl (og rfl (op_call rfl Try.func23 nm23 rfl (.cons rfl (.d _) .nil) (isTk (200 : Int) (by decide)) rfl)) ?_
  refine rg_put (d := 28) (v := .d (.fl (.bool false))) rfl (og rfl (op_un rfl rfl (u_not _) rfl)) ?_
  refine rg_put (d := 29) (v := .d (.fl (.bool false))) rfl (og rfl (op_move rfl rfl rfl)) ?_
  refine rg_put (d := 30) (v := .pt 102 1) rfl (oy rfl rfl rfl rfl (of_eff (s_field_pt rfl Try.underlying46 rfl ti3 rfl rfl rfl) rfl)) ?_
  refine rg_put (d := 31) (v := .d (.fl (.int .i64 ((ix [O1, O2] 1).dl)))) rfl (oy rfl rfl rfl rfl (op_load_pt rfl Try.underlying3 rfl rfl rfl rfl rfl)) ?_
  rw [show (ix [O1, O2] 1).dl = (-5 : Int) from by first | rfl | kernel_rfl]
  refine rg_put (d := 32) (v := .d (.fl (.bool false))) rfl (oy rfl rfl rfl rfl (op_bin rfl rfl rfl (b_lss _ _ _ _) rfl)) ?_
  refine rg_put (d := 33) (v := .d (.fl (.bool false))) rfl (og rfl (op_pick rfl rfl rfl rfl)) ?_
  refine rg_put (d := 34) (v := .d (.fl (.bool false))) rfl (og rfl (op_move rfl rfl rfl)) ?_
  refine rg_put (d := 35) (v := .pt 102 1) rfl (oy rfl rfl rfl rfl (of_eff (s_field_pt rfl Try.underlying46 rfl ti3 rfl rfl rfl) rfl)) ?_
  refine rg_put (d := 36) (v := .d (.fl (.int .i64 ((ix [O1, O2] 1).dl)))) rfl (oy rfl rfl rfl rfl (op_load_pt rfl Try.underlying3 rfl rfl rfl rfl rfl)) ?_
  rw [show (ix [O1, O2] 1).dl = (-5 : Int) from by first | rfl | kernel_rfl]
  refine rg_put (d := 37) (v := .d (.fl (.bool false))) rfl (oy rfl rfl rfl rfl (op_bin rfl rfl rfl (b_gtr _ _ _ _) rfl)) ?_
  refine rg_put (d := 38) (v := .d (.fl (.bool false))) rfl (og rfl (op_pick rfl rfl rfl rfl)) ?_
  refine rg_done rfl ?_
  refine a_condF rfl rfl ?_
  refine a_skip ?_
  show A _ _ _ _ _ _ _
  refine a_region ?_
  refine rg_put (d := 39) (v := .d (.fl (.int .i64 (2 : Int)))) rfl (og rfl (op_bin rfl rfl rfl (fun x y w => b_add64 _ _ _ x y w (by first | decide | (simp [ix]; done) | omega)) rfl)) ?_
  refine rg_put (d := 7) (v := .d (.fl (.int .i64 (2 : Int)))) rfl (og rfl (op_move rfl rfl rfl)) ?_
  rw [show (2 : Int) = (2 : Int) from by first | rfl | kernel_rfl]
  refine rg_done rfl ?_
  show ARd _ _ _ _ _ _ _ _
  refine ard_succ ?_
  refine a_imp (τ := SS [(0, .d (.sl 2 (List.map eOf [O1, O2]))), (2, .d (.fl (.int .i64 (0 : Int)))), (3, .d (.fl (.int .i64 (1 : Int)))), (4, .pt 102 0), (5, .d (.sl 2 (List.map eOf [O1, O2]))), (6, .d (.fl (.int .i64 (2 : Int)))), (7, .d (.fl (.int .i64 (2 : Int)))), (8, .d (.fl (.bool true))), (24, .d (.fl (.bool false))), (38, .d (.fl (.bool false)))] [(102, .bx 46 ((eOf (ix [O1, O2] 1))))]) (imp_forget rfl ⟨rfl, rfl, rfl, rfl, rfl, rfl, rfl, rfl, rfl, rfl, trivial⟩ ⟨rfl, trivial⟩) ?_
  refine a_rseq ?_
  refine rg_put (d := 8) (v := .d (.fl (.bool false))) rfl (og rfl (op_bin rfl rfl rfl (b_lss _ _ _ _) rfl)) ?_
  refine rg_done rfl ?_
  refine a_seq ?_
  refine a_condF rfl rfl ?_
  refine a_exit ?_
  show A _ _ _ _ _ _ _
  refine a_rseq ?_
  refine rg_put (d := 2) (v := .d (.fl (.int .i64 0))) rfl (og rfl (op_assign rfl rfl rfl)) ?_
  rw [show 0 = (0 : Int) from by first | rfl | kernel_rfl]
  refine rg_done rfl ?_
  refine a_ret ?_
  show ∃ ds, ResL _ _ _ ds ∧ RV.of ds = _
  refine ⟨[.fl (.int .i64 (0 : Int))], (.cons (.tmp rfl (.d _)) .nil), ?_⟩
  rfl
set_option maxHeartbeats 4000000 in
set_option maxRecDepth 100000 in
theorem offB  : Ctr Try.prog 19 [.sl 2 (List.map eOf [O3])] (.d (.fl (.int .i64 0))) := by
  refine ctr (n := 40) (rs := #[.tmp 2]) (L := [(0, .d (.sl 2 (List.map eOf [O3])))]) Try.func19 rfl rfl rfl rfl rfl (fun w0 U0 => ?_)
  refine a_rseq ?_
  refine rg_put (d := 2) (v := .d (.fl (.int .i64 0))) rfl (og rfl (op_assign rfl rfl rfl)) ?_
  rw [show 0 = (0 : Int) from by first | rfl | kernel_rfl]
  refine rg_done rfl ?_
  refine a_seq ?_
  refine a_rseq ?_
  refine rg_put (d := 5) (v := .d (.sl 2 (List.map eOf [O3]))) rfl (og rfl (op_move rfl rfl rfl)) ?_
  refine rg_put (d := 6) (v := .d (.fl (.int .i64 ([O3].length : Int)))) rfl (og rfl (s_len rfl Try.underlying33 rfl rfl)) ?_
  rw [show ([O3].length : Int) = (1 : Int) from by first | rfl | kernel_rfl]
  refine rg_put (d := 7) (v := .d (.fl (.int .i64 0))) rfl (og rfl (op_move rfl rfl rfl)) ?_
  rw [show 0 = (0 : Int) from by first | rfl | kernel_rfl]
  refine rg_done rfl ?_
  refine a_block ?_
  refine a_rounds (n := 1000000) ?_
  refine ard_succ ?_
  refine a_imp (τ := SS [(0, .d (.sl 2 (List.map eOf [O3]))), (2, .d (.fl (.int .i64 (0 : Int)))), (5, .d (.sl 2 (List.map eOf [O3]))), (6, .d (.fl (.int .i64 (1 : Int)))), (7, .d (.fl (.int .i64 (0 : Int))))] []) (imp_forget rfl ⟨rfl, rfl, rfl, rfl, rfl, trivial⟩ trivial) ?_
  refine a_rseq ?_
  refine rg_put (d := 8) (v := .d (.fl (.bool true))) rfl (og rfl (op_bin rfl rfl rfl (b_lss _ _ _ _) rfl)) ?_
  refine rg_done rfl ?_
  refine a_seq ?_
  refine a_condK rfl rfl ?_
  refine a_skip ?_
  show A _ _ _ _ _ _ _
  refine a_seq ?_
  refine a_block ?_
  refine a_rseq ?_
  refine rg_put (d := 9) (v := .d (.fl (.int .i64 (0 : Int)))) rfl (og rfl (op_move rfl rfl rfl)) ?_
  rw [show (0 : Int) = (0 : Int) from by first | rfl | kernel_rfl]
  refine rg_put (d := 10) (v := .el ((eOf (ix [O3] 0)))) rfl (og rfl (s_index rfl Try.underlying33 ti46 rfl rfl (by first | decide | (simp [ix]; done) | omega) (row_at (by first | decide | (simp [ix]; done) | omega)) rfl)) ?_
  refine rg_put (d := 11) (v := .d (.ag (eOf (ix [O3] 0)))) rfl (og rfl (of_eff (s_load_els rfl Try.underlying46 rfl ti46 rfl rfl rfl) rfl)) ?_
  refine rg_nam (d := 4) (v := .pt 101 0) (m := 101) (nw := [(101, .bx 46 [.fl (.int .i64 0), .fl (.int .i64 0)])]) rfl (og rfl (of_eff (s_alloc 101 rfl ti46 (by kernel_rfl) rfl) rfl)) rfl ?_
  refine rg_put (d := 3) (v := .d (.fl (.int .i64 (0 : Int)))) rfl (og rfl (op_assign rfl rfl rfl)) ?_
  rw [show (0 : Int) = (0 : Int) from by first | rfl | kernel_rfl]
  refine rg_sto (nw := [(101, .bx 46 ((eOf (ix [O3] 0))))]) rfl (og rfl (of_eff (s_store rfl rfl ti46 rfl rfl rfl rfl rfl rfl) rfl)) ?_
  refine rg_done rfl ?_
  refine a_seq ?_
  refine a_dseq (by kernel_rfl) ?_
  refine dr_put (d := 12) (v := .d (.fl (.int .i64 (0 : Int)))) rfl (og rfl (op_move rfl rfl rfl)) ?_
  rw [show (0 : Int) = (0 : Int) from by first | rfl | kernel_rfl]
  refine dr_put (d := 13) (v := .d (.fl (.bool false))) rfl (og rfl (op_bin rfl rfl rfl (b_gtr _ _ _ _) rfl)) ?_
  refine dr_put (d := 14) (v := .d (.fl (.bool false))) rfl (og rfl (op_move rfl rfl rfl)) ?_
  refine dr_put (d := 15) (v := .d (.fl undef)) rfl (on rfl rfl rfl rfl) ?_
  refine dr_put (d := 16) (v := .d (.fl undef)) rfl (on rfl rfl rfl rfl) ?_
  refine dr_put (d := 17) (v := .d (.fl undef)) rfl (on rfl rfl rfl rfl) ?_
  refine dr_put (d := 18) (v := .d (.fl undef)) rfl (on rfl rfl rfl rfl) ?_
  refine dr_put (d := 19) (v := .d (.fl undef)) rfl (on rfl rfl rfl rfl) ?_
  refine dr_put (d := 20) (v := .d (.fl undef)) rfl (on rfl rfl rfl rfl) ?_
  refine dr_put (d := 21) (v := .d (.fl undef)) rfl (on rfl rfl rfl rfl) ?_
  refine dr_put (d := 22) (v := .d (.fl undef)) rfl (on rfl rfl rfl rfl) ?_
  refine dr_put (d := 23) (v := .d (.fl undef)) rfl (on rfl rfl rfl rfl) ?_
  refine dr_put (d := 24) (v := .d (.fl (.bool false))) rfl (og rfl (op_pick rfl rfl rfl rfl)) ?_
  refine dr_done rfl (by kernel_rfl) (by kernel_rfl) ?_
  refine a_condF rfl rfl ?_
  refine a_skip ?_
  show A _ _ _ _ _ _ _
  refine a_rseq ?_
  refine rg_put (d := 25) (v := .pt 101 0) rfl (og rfl (of_eff (s_field_pt rfl Try.underlying46 rfl ti3 rfl rfl rfl) rfl)) ?_
  refine rg_put (d := 26) (v := .d (.fl (.int .i64 ((ix [O3] 0).fr)))) rfl (og rfl (op_load_pt rfl Try.underlying3 rfl rfl rfl rfl rfl)) ?_
  rw [show (ix [O3] 0).fr = (0 : Int) from by first | rfl | kernel_rfl]
  refine rg_put (d := 27) (v := .d (.fl (.bool true))) rfl (og rfl (op_call rfl Try.func23 nm23 rfl (.cons rfl (.d _) .nil) (isTk (0 : Int) (by decide)) rfl)) ?_
  refine rg_put (d := 28) (v := .d (.fl (.bool false))) rfl (og rfl (op_un rfl rfl (u_not _) rfl)) ?_
  refine rg_put (d := 29) (v := .d (.fl (.bool false))) rfl (og rfl (op_move rfl rfl rfl)) ?_
  refine rg_put (d := 30) (v := .pt 101 1) rfl (oy rfl rfl rfl rfl (of_eff (s_field_pt rfl Try.underlying46 rfl ti3 rfl rfl rfl) rfl)) ?_
  refine rg_put (d := 31) (v := .d (.fl (.int .i64 ((ix [O3] 0).dl)))) rfl (oy rfl rfl rfl rfl (op_load_pt rfl Try.underlying3 rfl rfl rfl rfl rfl)) ?_
  rw [show (ix [O3] 0).dl = (-10 : Int) from by first | rfl | kernel_rfl]
  refine rg_put (d := 32) (v := .d (.fl (.bool false))) rfl (oy rfl rfl rfl rfl (op_bin rfl rfl rfl (b_lss _ _ _ _) rfl)) ?_
  refine rg_put (d := 33) (v := .d (.fl (.bool false))) rfl (og rfl (op_pick rfl rfl rfl rfl)) ?_
  refine rg_put (d := 34) (v := .d (.fl (.bool false))) rfl (og rfl (op_move rfl rfl rfl)) ?_
  refine rg_put (d := 35) (v := .pt 101 1) rfl (oy rfl rfl rfl rfl (of_eff (s_field_pt rfl Try.underlying46 rfl ti3 rfl rfl rfl) rfl)) ?_
  refine rg_put (d := 36) (v := .d (.fl (.int .i64 ((ix [O3] 0).dl)))) rfl (oy rfl rfl rfl rfl (op_load_pt rfl Try.underlying3 rfl rfl rfl rfl rfl)) ?_
  rw [show (ix [O3] 0).dl = (-10 : Int) from by first | rfl | kernel_rfl]
  refine rg_put (d := 37) (v := .d (.fl (.bool false))) rfl (oy rfl rfl rfl rfl (op_bin rfl rfl rfl (b_gtr _ _ _ _) rfl)) ?_
  refine rg_put (d := 38) (v := .d (.fl (.bool false))) rfl (og rfl (op_pick rfl rfl rfl rfl)) ?_
  refine rg_done rfl ?_
  refine a_condF rfl rfl ?_
  refine a_skip ?_
  show A _ _ _ _ _ _ _
  refine a_region ?_
  refine rg_put (d := 39) (v := .d (.fl (.int .i64 (1 : Int)))) rfl (og rfl (op_bin rfl rfl rfl (fun x y w => b_add64 _ _ _ x y w (by first | decide | (simp [ix]; done) | omega)) rfl)) ?_
  refine rg_put (d := 7) (v := .d (.fl (.int .i64 (1 : Int)))) rfl (og rfl (op_move rfl rfl rfl)) ?_
  rw [show (1 : Int) = (1 : Int) from by first | rfl | kernel_rfl]
  refine rg_done rfl ?_
  show ARd _ _ _ _ _ _ _ _
  refine ard_succ ?_
  refine a_imp (τ := SS [(0, .d (.sl 2 (List.map eOf [O3]))), (2, .d (.fl (.int .i64 (0 : Int)))), (3, .d (.fl (.int .i64 (0 : Int)))), (4, .pt 101 0), (5, .d (.sl 2 (List.map eOf [O3]))), (6, .d (.fl (.int .i64 (1 : Int)))), (7, .d (.fl (.int .i64 (1 : Int)))), (8, .d (.fl (.bool true))), (24, .d (.fl (.bool false))), (38, .d (.fl (.bool false)))] [(101, .bx 46 ((eOf (ix [O3] 0))))]) (imp_forget rfl ⟨rfl, rfl, rfl, rfl, rfl, rfl, rfl, rfl, rfl, rfl, trivial⟩ ⟨rfl, trivial⟩) ?_
  refine a_rseq ?_
  refine rg_put (d := 8) (v := .d (.fl (.bool false))) rfl (og rfl (op_bin rfl rfl rfl (b_lss _ _ _ _) rfl)) ?_
  refine rg_done rfl ?_
  refine a_seq ?_
  refine a_condF rfl rfl ?_
  refine a_exit ?_
  show A _ _ _ _ _ _ _
  refine a_rseq ?_
  refine rg_put (d := 2) (v := .d (.fl (.int .i64 0))) rfl (og rfl (op_assign rfl rfl rfl)) ?_
  rw [show 0 = (0 : Int) from by first | rfl | kernel_rfl]
  refine rg_done rfl ?_
  refine a_ret ?_
  show ∃ ds, ResL _ _ _ ds ∧ RV.of ds = _
  refine ⟨[.fl (.int .i64 (0 : Int))], (.cons (.tmp rfl (.d _)) .nil), ?_⟩
  rfl
set_option maxHeartbeats 4000000 in
set_option maxRecDepth 100000 in
theorem dwnA  : Ctr Try.prog 20 [.sl 2 (List.map eIv [I1])] (.d (.fl (.int .i64 0))) := by
  refine ctr (n := 29) (rs := #[.tmp 2]) (L := [(0, .d (.sl 2 (List.map eIv [I1])))]) Try.func20 rfl rfl rfl rfl rfl (fun w0 U0 => ?_)
  refine a_rseq ?_
  refine rg_put (d := 2) (v := .d (.fl (.int .i64 0))) rfl (og rfl (op_assign rfl rfl rfl)) ?_
  rw [show 0 = (0 : Int) from by first | rfl | kernel_rfl]
  refine rg_done rfl ?_
  refine a_seq ?_
  refine a_rseq ?_
  refine rg_put (d := 5) (v := .d (.sl 2 (List.map eIv [I1]))) rfl (og rfl (op_move rfl rfl rfl)) ?_
  refine rg_put (d := 6) (v := .d (.fl (.int .i64 ([I1].length : Int)))) rfl (og rfl (s_len rfl Try.underlying34 rfl rfl)) ?_
  rw [show ([I1].length : Int) = (1 : Int) from by first | rfl | kernel_rfl]
  refine rg_put (d := 7) (v := .d (.fl (.int .i64 0))) rfl (og rfl (op_move rfl rfl rfl)) ?_
  rw [show 0 = (0 : Int) from by first | rfl | kernel_rfl]
  refine rg_done rfl ?_
  refine a_block ?_
  refine a_rounds (n := 1000000) ?_
  refine ard_succ ?_
  refine a_imp (τ := SS [(0, .d (.sl 2 (List.map eIv [I1]))), (2, .d (.fl (.int .i64 (0 : Int)))), (5, .d (.sl 2 (List.map eIv [I1]))), (6, .d (.fl (.int .i64 (1 : Int)))), (7, .d (.fl (.int .i64 (0 : Int))))] []) (imp_forget rfl ⟨rfl, rfl, rfl, rfl, rfl, trivial⟩ trivial) ?_
  refine a_rseq ?_
  refine rg_put (d := 8) (v := .d (.fl (.bool true))) rfl (og rfl (op_bin rfl rfl rfl (b_lss _ _ _ _) rfl)) ?_
  refine rg_done rfl ?_
  refine a_seq ?_
  refine a_condK rfl rfl ?_
  refine a_skip ?_
  show A _ _ _ _ _ _ _
  refine a_seq ?_
  refine a_block ?_
  refine a_rseq ?_
  refine rg_put (d := 9) (v := .d (.fl (.int .i64 (0 : Int)))) rfl (og rfl (op_move rfl rfl rfl)) ?_
  rw [show (0 : Int) = (0 : Int) from by first | rfl | kernel_rfl]
  refine rg_put (d := 10) (v := .el ((eIv (ix [I1] 0)))) rfl (og rfl (s_index rfl Try.underlying34 ti48 rfl rfl (by first | decide | (simp [ix]; done) | omega) (row_at (by first | decide | (simp [ix]; done) | omega)) rfl)) ?_
  refine rg_put (d := 11) (v := .d (.ag (eIv (ix [I1] 0)))) rfl (og rfl (of_eff (s_load_els rfl Try.underlying48 rfl ti48 rfl rfl rfl) rfl)) ?_
  refine rg_nam (d := 4) (v := .pt 101 0) (m := 101) (nw := [(101, .bx 48 [.fl (.int .i64 0), .fl (.int .i64 0)])]) rfl (og rfl (of_eff (s_alloc 101 rfl ti48 (by kernel_rfl) rfl) rfl)) rfl ?_
  refine rg_put (d := 3) (v := .d (.fl (.int .i64 (0 : Int)))) rfl (og rfl (op_assign rfl rfl rfl)) ?_
  rw [show (0 : Int) = (0 : Int) from by first | rfl | kernel_rfl]
  refine rg_sto (nw := [(101, .bx 48 ((eIv (ix [I1] 0))))]) rfl (og rfl (of_eff (s_store rfl rfl ti48 rfl rfl rfl rfl rfl rfl) rfl)) ?_
  refine rg_done rfl ?_
  refine a_seq ?_
  refine a_rseq ?_
  refine rg_put (d := 12) (v := .d (.ag (eIv (ix [I1] 0)))) rfl (og rfl (of_eff (s_load_pts rfl Try.underlying48 rfl ti48 rfl rfl rfl rfl) rfl)) ?_
  refine rg_put (d := 13) (v := .d (.fl (.bool true))) rfl (og rfl (op_call rfl Try.func34 nm34 rfl (.cons rfl (.d _) .nil) (vIk34 I1 (by decide)) rfl)) ?_
  refine rg_put (d := 14) (v := .d (.fl (.bool false))) rfl (og rfl (op_un rfl rfl (u_not _) rfl)) ?_
  refine rg_done rfl ?_
  refine a_condF rfl rfl ?_
  refine a_skip ?_
  show A _ _ _ _ _ _ _
  refine a_dseq (by kernel_rfl) ?_
  refine dr_put (d := 15) (v := .d (.fl (.int .i64 (0 : Int)))) rfl (og rfl (op_move rfl rfl rfl)) ?_
  rw [show (0 : Int) = (0 : Int) from by first | rfl | kernel_rfl]
  refine dr_put (d := 16) (v := .d (.fl (.bool false))) rfl (og rfl (op_bin rfl rfl rfl (b_gtr _ _ _ _) rfl)) ?_
  refine dr_put (d := 17) (v := .d (.fl (.bool false))) rfl (og rfl (op_move rfl rfl rfl)) ?_
  refine dr_put (d := 18) (v := .d (.fl undef)) rfl (on rfl rfl rfl rfl) ?_
  refine dr_put (d := 19) (v := .d (.fl undef)) rfl (on rfl rfl rfl rfl) ?_
  refine dr_put (d := 20) (v := .d (.fl undef)) rfl (on rfl rfl rfl rfl) ?_
  refine dr_put (d := 21) (v := .d (.fl undef)) rfl (on rfl rfl rfl rfl) ?_
  refine dr_put (d := 22) (v := .d (.fl undef)) rfl (on rfl rfl rfl rfl) ?_
  refine dr_put (d := 23) (v := .d (.fl undef)) rfl (on rfl rfl rfl rfl) ?_
  refine dr_put (d := 24) (v := .d (.fl undef)) rfl (on rfl rfl rfl rfl) ?_
  refine dr_put (d := 25) (v := .d (.fl undef)) rfl (on rfl rfl rfl rfl) ?_
  refine dr_put (d := 26) (v := .d (.fl undef)) rfl (on rfl rfl rfl rfl) ?_
  refine dr_put (d := 27) (v := .d (.fl (.bool false))) rfl (og rfl (op_pick rfl rfl rfl rfl)) ?_
  refine dr_done rfl (by kernel_rfl) (by kernel_rfl) ?_
  refine a_condF rfl rfl ?_
  refine a_skip ?_
  show A _ _ _ _ _ _ _
  refine a_region ?_
  refine rg_put (d := 28) (v := .d (.fl (.int .i64 (1 : Int)))) rfl (og rfl (op_bin rfl rfl rfl (fun x y w => b_add64 _ _ _ x y w (by first | decide | (simp [ix]; done) | omega)) rfl)) ?_
  refine rg_put (d := 7) (v := .d (.fl (.int .i64 (1 : Int)))) rfl (og rfl (op_move rfl rfl rfl)) ?_
  rw [show (1 : Int) = (1 : Int) from by first | rfl | kernel_rfl]
  refine rg_done rfl ?_
  show ARd _ _ _ _ _ _ _ _
  refine ard_succ ?_
  refine a_imp (τ := SS [(0, .d (.sl 2 (List.map eIv [I1]))), (2, .d (.fl (.int .i64 (0 : Int)))), (3, .d (.fl (.int .i64 (0 : Int)))), (4, .pt 101 0), (5, .d (.sl 2 (List.map eIv [I1]))), (6, .d (.fl (.int .i64 (1 : Int)))), (7, .d (.fl (.int .i64 (1 : Int)))), (8, .d (.fl (.bool true))), (14, .d (.fl (.bool false))), (27, .d (.fl (.bool false)))] [(101, .bx 48 ((eIv (ix [I1] 0))))]) (imp_forget rfl ⟨rfl, rfl, rfl, rfl, rfl, rfl, rfl, rfl, rfl, rfl, trivial⟩ ⟨rfl, trivial⟩) ?_
  refine a_rseq ?_
  refine rg_put (d := 8) (v := .d (.fl (.bool false))) rfl (og rfl (op_bin rfl rfl rfl (b_lss _ _ _ _) rfl)) ?_
  refine rg_done rfl ?_
  refine a_seq ?_
  refine a_condF rfl rfl ?_
  refine a_exit ?_
  show A _ _ _ _ _ _ _
  refine a_rseq ?_
  refine rg_put (d := 2) (v := .d (.fl (.int .i64 0))) rfl (og rfl (op_assign rfl rfl rfl)) ?_
  rw [show 0 = (0 : Int) from by first | rfl | kernel_rfl]
  refine rg_done rfl ?_
  refine a_ret ?_
  show ∃ ds, ResL _ _ _ ds ∧ RV.of ds = _
  refine ⟨[.fl (.int .i64 (0 : Int))], (.cons (.tmp rfl (.d _)) .nil), ?_⟩
  rfl
set_option maxHeartbeats 4000000 in
set_option maxRecDepth 100000 in
theorem dwnB  : Ctr Try.prog 20 [.sl 2 (List.map eIv [I2])] (.d (.fl (.int .i64 0))) := by
  refine ctr (n := 29) (rs := #[.tmp 2]) (L := [(0, .d (.sl 2 (List.map eIv [I2])))]) Try.func20 rfl rfl rfl rfl rfl (fun w0 U0 => ?_)
  refine a_rseq ?_
  refine rg_put (d := 2) (v := .d (.fl (.int .i64 0))) rfl (og rfl (op_assign rfl rfl rfl)) ?_
  rw [show 0 = (0 : Int) from by first | rfl | kernel_rfl]
  refine rg_done rfl ?_
  refine a_seq ?_
  refine a_rseq ?_
  refine rg_put (d := 5) (v := .d (.sl 2 (List.map eIv [I2]))) rfl (og rfl (op_move rfl rfl rfl)) ?_
  refine rg_put (d := 6) (v := .d (.fl (.int .i64 ([I2].length : Int)))) rfl (og rfl (s_len rfl Try.underlying34 rfl rfl)) ?_
  rw [show ([I2].length : Int) = (1 : Int) from by first | rfl | kernel_rfl]
  refine rg_put (d := 7) (v := .d (.fl (.int .i64 0))) rfl (og rfl (op_move rfl rfl rfl)) ?_
  rw [show 0 = (0 : Int) from by first | rfl | kernel_rfl]
  refine rg_done rfl ?_
  refine a_block ?_
  refine a_rounds (n := 1000000) ?_
  refine ard_succ ?_
  refine a_imp (τ := SS [(0, .d (.sl 2 (List.map eIv [I2]))), (2, .d (.fl (.int .i64 (0 : Int)))), (5, .d (.sl 2 (List.map eIv [I2]))), (6, .d (.fl (.int .i64 (1 : Int)))), (7, .d (.fl (.int .i64 (0 : Int))))] []) (imp_forget rfl ⟨rfl, rfl, rfl, rfl, rfl, trivial⟩ trivial) ?_
  refine a_rseq ?_
  refine rg_put (d := 8) (v := .d (.fl (.bool true))) rfl (og rfl (op_bin rfl rfl rfl (b_lss _ _ _ _) rfl)) ?_
  refine rg_done rfl ?_
  refine a_seq ?_
  refine a_condK rfl rfl ?_
  refine a_skip ?_
  show A _ _ _ _ _ _ _
  refine a_seq ?_
  refine a_block ?_
  refine a_rseq ?_
  refine rg_put (d := 9) (v := .d (.fl (.int .i64 (0 : Int)))) rfl (og rfl (op_move rfl rfl rfl)) ?_
  rw [show (0 : Int) = (0 : Int) from by first | rfl | kernel_rfl]
  refine rg_put (d := 10) (v := .el ((eIv (ix [I2] 0)))) rfl (og rfl (s_index rfl Try.underlying34 ti48 rfl rfl (by first | decide | (simp [ix]; done) | omega) (row_at (by first | decide | (simp [ix]; done) | omega)) rfl)) ?_
  refine rg_put (d := 11) (v := .d (.ag (eIv (ix [I2] 0)))) rfl (og rfl (of_eff (s_load_els rfl Try.underlying48 rfl ti48 rfl rfl rfl) rfl)) ?_
  refine rg_nam (d := 4) (v := .pt 101 0) (m := 101) (nw := [(101, .bx 48 [.fl (.int .i64 0), .fl (.int .i64 0)])]) rfl (og rfl (of_eff (s_alloc 101 rfl ti48 (by kernel_rfl) rfl) rfl)) rfl ?_
  refine rg_put (d := 3) (v := .d (.fl (.int .i64 (0 : Int)))) rfl (og rfl (op_assign rfl rfl rfl)) ?_
  rw [show (0 : Int) = (0 : Int) from by first | rfl | kernel_rfl]
  refine rg_sto (nw := [(101, .bx 48 ((eIv (ix [I2] 0))))]) rfl (og rfl (of_eff (s_store rfl rfl ti48 rfl rfl rfl rfl rfl rfl) rfl)) ?_
  refine rg_done rfl ?_
  refine a_seq ?_
  refine a_rseq ?_
  refine rg_put (d := 12) (v := .d (.ag (eIv (ix [I2] 0)))) rfl (og rfl (of_eff (s_load_pts rfl Try.underlying48 rfl ti48 rfl rfl rfl rfl) rfl)) ?_
  refine rg_put (d := 13) (v := .d (.fl (.bool true))) rfl (og rfl (op_call rfl Try.func34 nm34 rfl (.cons rfl (.d _) .nil) (vIk34 I2 (by decide)) rfl)) ?_
  refine rg_put (d := 14) (v := .d (.fl (.bool false))) rfl (og rfl (op_un rfl rfl (u_not _) rfl)) ?_
  refine rg_done rfl ?_
  refine a_condF rfl rfl ?_
  refine a_skip ?_
  show A _ _ _ _ _ _ _
  refine a_dseq (by kernel_rfl) ?_
  refine dr_put (d := 15) (v := .d (.fl (.int .i64 (0 : Int)))) rfl (og rfl (op_move rfl rfl rfl)) ?_
  rw [show (0 : Int) = (0 : Int) from by first | rfl | kernel_rfl]
  refine dr_put (d := 16) (v := .d (.fl (.bool false))) rfl (og rfl (op_bin rfl rfl rfl (b_gtr _ _ _ _) rfl)) ?_
  refine dr_put (d := 17) (v := .d (.fl (.bool false))) rfl (og rfl (op_move rfl rfl rfl)) ?_
  refine dr_put (d := 18) (v := .d (.fl undef)) rfl (on rfl rfl rfl rfl) ?_
  refine dr_put (d := 19) (v := .d (.fl undef)) rfl (on rfl rfl rfl rfl) ?_
  refine dr_put (d := 20) (v := .d (.fl undef)) rfl (on rfl rfl rfl rfl) ?_
  refine dr_put (d := 21) (v := .d (.fl undef)) rfl (on rfl rfl rfl rfl) ?_
  refine dr_put (d := 22) (v := .d (.fl undef)) rfl (on rfl rfl rfl rfl) ?_
  refine dr_put (d := 23) (v := .d (.fl undef)) rfl (on rfl rfl rfl rfl) ?_
  refine dr_put (d := 24) (v := .d (.fl undef)) rfl (on rfl rfl rfl rfl) ?_
  refine dr_put (d := 25) (v := .d (.fl undef)) rfl (on rfl rfl rfl rfl) ?_
  refine dr_put (d := 26) (v := .d (.fl undef)) rfl (on rfl rfl rfl rfl) ?_
  refine dr_put (d := 27) (v := .d (.fl (.bool false))) rfl (og rfl (op_pick rfl rfl rfl rfl)) ?_
  refine dr_done rfl (by kernel_rfl) (by kernel_rfl) ?_
  refine a_condF rfl rfl ?_
  refine a_skip ?_
  show A _ _ _ _ _ _ _
  refine a_region ?_
  refine rg_put (d := 28) (v := .d (.fl (.int .i64 (1 : Int)))) rfl (og rfl (op_bin rfl rfl rfl (fun x y w => b_add64 _ _ _ x y w (by first | decide | (simp [ix]; done) | omega)) rfl)) ?_
  refine rg_put (d := 7) (v := .d (.fl (.int .i64 (1 : Int)))) rfl (og rfl (op_move rfl rfl rfl)) ?_
  rw [show (1 : Int) = (1 : Int) from by first | rfl | kernel_rfl]
  refine rg_done rfl ?_
  show ARd _ _ _ _ _ _ _ _
  refine ard_succ ?_
  refine a_imp (τ := SS [(0, .d (.sl 2 (List.map eIv [I2]))), (2, .d (.fl (.int .i64 (0 : Int)))), (3, .d (.fl (.int .i64 (0 : Int)))), (4, .pt 101 0), (5, .d (.sl 2 (List.map eIv [I2]))), (6, .d (.fl (.int .i64 (1 : Int)))), (7, .d (.fl (.int .i64 (1 : Int)))), (8, .d (.fl (.bool true))), (14, .d (.fl (.bool false))), (27, .d (.fl (.bool false)))] [(101, .bx 48 ((eIv (ix [I2] 0))))]) (imp_forget rfl ⟨rfl, rfl, rfl, rfl, rfl, rfl, rfl, rfl, rfl, rfl, trivial⟩ ⟨rfl, trivial⟩) ?_
  refine a_rseq ?_
  refine rg_put (d := 8) (v := .d (.fl (.bool false))) rfl (og rfl (op_bin rfl rfl rfl (b_lss _ _ _ _) rfl)) ?_
  refine rg_done rfl ?_
  refine a_seq ?_
  refine a_condF rfl rfl ?_
  refine a_exit ?_
  show A _ _ _ _ _ _ _
  refine a_rseq ?_
  refine rg_put (d := 2) (v := .d (.fl (.int .i64 0))) rfl (og rfl (op_assign rfl rfl rfl)) ?_
  rw [show 0 = (0 : Int) from by first | rfl | kernel_rfl]
  refine rg_done rfl ?_
  refine a_ret ?_
  show ∃ ds, ResL _ _ _ ds ∧ RV.of ds = _
  refine ⟨[.fl (.int .i64 (0 : Int))], (.cons (.tmp rfl (.d _)) .nil), ?_⟩
  rfl
set_option maxHeartbeats 4000000 in
set_option maxRecDepth 100000 in
theorem chk8  : Ctr Try.prog 8 [.sl 6 (List.map eDc [E1, D1]), .ag (eNw N1)] (.d (.fl (.int .i64 0))) := by
  refine ctr (n := 86) (rs := #[.tmp 4]) (L := [(0, .d (.sl 6 (List.map eDc [E1, D1]))), (1, .d (.ag (eNw N1)))]) Try.func8 rfl rfl rfl rfl rfl (fun w0 U0 => ?_)
  refine a_rseq ?_
  refine rg_nam (d := 3) (v := .pt 101 0) (m := 101) (nw := [(101, .bx 26 (eNw N1))]) rfl (og rfl (of_eff (op_box 101 rfl rfl rfl rfl) rfl)) rfl ?_
  refine rg_put (d := 4) (v := .d (.fl (.int .i64 0))) rfl (og rfl (op_assign rfl rfl rfl)) ?_
  rw [show 0 = (0 : Int) from by first | rfl | kernel_rfl]
  refine rg_done rfl ?_
  refine a_seq ?_
  refine a_rseq ?_
  refine rg_put (d := 13) (v := .d (.sl 6 (List.map eDc [E1, D1]))) rfl (og rfl (op_move rfl rfl rfl)) ?_
  refine rg_put (d := 14) (v := .d (.fl (.int .i64 ([E1, D1].length : Int)))) rfl (og rfl (s_len rfl Try.underlying22 rfl rfl)) ?_
  rw [show ([E1, D1].length : Int) = (2 : Int) from by first | rfl | kernel_rfl]
  refine rg_put (d := 15) (v := .d (.fl (.bool false))) rfl (og rfl (op_bin rfl rfl rfl (b_gtr _ _ _ _) rfl)) ?_
  refine rg_done rfl ?_
  refine a_condF rfl rfl ?_
  refine a_skip ?_
  show A _ _ _ _ _ _ _
  refine a_rseq ?_
  refine rg_nam (d := 16) (v := .ow 102) (m := 102) (nw := [(102, .mp [])]) rfl (og rfl (op_makeMap 102 rfl rfl)) rfl ?_
  refine rg_put (d := 5) (v := .ow 102) rfl (og rfl (op_assign rfl rfl rfl)) ?_
  refine rg_done rfl ?_
  refine a_seq ?_
  refine a_rseq ?_
  refine rg_put (d := 17) (v := .pt 101 0) rfl (og rfl (of_eff (s_field_pt rfl Try.underlying26 rfl ti23 rfl rfl rfl) rfl)) ?_
  refine rg_put (d := 18) (v := .d (.sl 3 (List.map ePn N1.points))) rfl (og rfl (op_load_pt rfl Try.underlying23 rfl rfl rfl rfl rfl)) ?_
  refine rg_put (d := 19) (v := .d (.fl (.int .i64 (N1.points.length : Int)))) rfl (og rfl (s_len rfl Try.underlying23 rfl rfl)) ?_
  rw [show (N1.points.length : Int) = (1 : Int) from by first | rfl | kernel_rfl]
  refine rg_put (d := 20) (v := .d (.fl (.int .i64 0))) rfl (og rfl (op_move rfl rfl rfl)) ?_
  rw [show 0 = (0 : Int) from by first | rfl | kernel_rfl]
  refine rg_done rfl ?_
  refine a_block ?_
  refine a_rounds (n := 1000000) ?_
  refine ard_succ ?_
  refine a_imp (τ := SS [(0, .d (.sl 6 (List.map eDc [E1, D1]))), (1, .d (.ag (eNw N1))), (3, .pt 101 0), (4, .d (.fl (.int .i64 (0 : Int)))), (5, .ow 102), (15, .d (.fl (.bool false))), (18, .d (.sl 3 (List.map ePn N1.points))), (19, .d (.fl (.int .i64 (1 : Int)))), (20, .d (.fl (.int .i64 (0 : Int))))] [(101, .bx 26 (eNw N1)), (102, .mp [])]) (imp_forget rfl ⟨rfl, rfl, rfl, rfl, rfl, rfl, rfl, rfl, rfl, trivial⟩ ⟨rfl, rfl, trivial⟩) ?_
  refine a_rseq ?_
  refine rg_put (d := 21) (v := .d (.fl (.bool true))) rfl (og rfl (op_bin rfl rfl rfl (b_lss _ _ _ _) rfl)) ?_
  refine rg_done rfl ?_
  refine a_seq ?_
  refine a_condK rfl rfl ?_
  refine a_skip ?_
  show A _ _ _ _ _ _ _
  refine a_seq ?_
  refine a_block ?_
  refine a_rseq ?_
  refine rg_put (d := 22) (v := .el ((ePn (ix N1.points 0)))) rfl (og rfl (s_index rfl Try.underlying23 ti52 rfl rfl (by first | decide | (simp [ix]; done) | omega) (row_at (by first | decide | (simp [ix]; done) | omega)) rfl)) ?_
  refine rg_put (d := 23) (v := .d (.ag (ePn (ix N1.points 0)))) rfl (og rfl (of_eff (s_load_els rfl Try.underlying52 rfl ti52 rfl rfl rfl) rfl)) ?_
  refine rg_nam (d := 7) (v := .pt 103 0) (m := 103) (nw := [(103, .bx 52 ([.fl (.string (⟨#[]⟩)), .fl (.int .i64 0), .fl (.string (⟨#[]⟩))]))]) rfl (og rfl (of_eff (s_alloc 103 rfl ti52 (by kernel_rfl) rfl) rfl)) rfl ?_
  refine rg_sto (nw := [(103, .bx 52 ((ePn (ix N1.points 0))))]) rfl (og rfl (of_eff (s_store rfl rfl ti52 rfl rfl rfl rfl rfl rfl) rfl)) ?_
  refine rg_done rfl ?_
  refine a_region ?_
  refine rg_put (d := 24) (v := .ow 102) rfl (og rfl (op_move rfl rfl rfl)) ?_
  refine rg_put (d := 25) (v := .pt 103 0) rfl (og rfl (of_eff (s_field_pt rfl Try.underlying52 rfl ti9 rfl rfl rfl) rfl)) ?_
  refine rg_put (d := 26) (v := .d (.fl (.string ((ix N1.points 0).name)))) rfl (og rfl (op_load_pt rfl Try.underlying9 rfl rfl rfl rfl rfl)) ?_
  refine rg_sto (nw := [(102, .mp ([] ++ [((.string ((ix N1.points 0).name)), .fl (.bool true))]))]) rfl (og rfl (op_mapPush rfl rfl Try.underlying53 Try.underlying9 rfl rfl rfl rfl rfl rfl)) ?_
  refine rg_done rfl ?_
  show A _ _ _ _ _ _ _
  refine a_region ?_
  refine rg_put (d := 27) (v := .d (.fl (.int .i64 (1 : Int)))) rfl (og rfl (op_bin rfl rfl rfl (fun x y w => b_add64 _ _ _ x y w (by first | decide | (simp [ix]; done) | omega)) rfl)) ?_
  refine rg_put (d := 20) (v := .d (.fl (.int .i64 (1 : Int)))) rfl (og rfl (op_move rfl rfl rfl)) ?_
  rw [show (1 : Int) = (1 : Int) from by first | rfl | kernel_rfl]
  refine rg_done rfl ?_
  show ARd _ _ _ _ _ _ _ _
  refine ard_succ ?_
  refine a_imp (τ := SS [(0, .d (.sl 6 (List.map eDc [E1, D1]))), (1, .d (.ag (eNw N1))), (3, .pt 101 0), (4, .d (.fl (.int .i64 (0 : Int)))), (5, .ow 102), (7, .pt 103 0), (15, .d (.fl (.bool false))), (18, .d (.sl 3 (List.map ePn N1.points))), (19, .d (.fl (.int .i64 (1 : Int)))), (20, .d (.fl (.int .i64 (1 : Int)))), (21, .d (.fl (.bool true)))] [(101, .bx 26 (eNw N1)), (102, .mp (([] ++ [((.string ((ix N1.points 0).name)), .fl (.bool true))]))), (103, .bx 52 ((ePn (ix N1.points 0))))]) (imp_forget rfl ⟨rfl, rfl, rfl, rfl, rfl, rfl, rfl, rfl, rfl, rfl, rfl, trivial⟩ ⟨rfl, rfl, rfl, trivial⟩) ?_
  refine a_rseq ?_
  refine rg_put (d := 21) (v := .d (.fl (.bool false))) rfl (og rfl (op_bin rfl rfl rfl (b_lss _ _ _ _) rfl)) ?_
  refine rg_done rfl ?_
  refine a_seq ?_
  refine a_condF rfl rfl ?_
  refine a_exit ?_
  show A _ _ _ _ _ _ _
  refine a_rseq ?_
  refine rg_nam (d := 28) (v := .ow 104) (m := 104) (nw := [(104, .mp [])]) rfl (og rfl (op_makeMap 104 rfl rfl)) rfl ?_
  refine rg_put (d := 8) (v := .ow 104) rfl (og rfl (op_assign rfl rfl rfl)) ?_
  refine rg_done rfl ?_
  refine a_seq ?_
  refine a_rseq ?_
  refine rg_put (d := 29) (v := .d (.sl 6 (List.map eDc [E1, D1]))) rfl (og rfl (op_move rfl rfl rfl)) ?_
  refine rg_put (d := 30) (v := .d (.fl (.int .i64 ([E1, D1].length : Int)))) rfl (og rfl (s_len rfl Try.underlying22 rfl rfl)) ?_
  rw [show ([E1, D1].length : Int) = (2 : Int) from by first | rfl | kernel_rfl]
  refine rg_put (d := 31) (v := .d (.fl (.int .i64 0))) rfl (og rfl (op_move rfl rfl rfl)) ?_
  rw [show 0 = (0 : Int) from by first | rfl | kernel_rfl]
  refine rg_done rfl ?_
  refine a_block ?_
  refine a_rounds (n := 1000000) ?_
  refine ard_succ ?_
  refine a_imp (τ := SS [(0, .d (.sl 6 (List.map eDc [E1, D1]))), (1, .d (.ag (eNw N1))), (3, .pt 101 0), (4, .d (.fl (.int .i64 (0 : Int)))), (5, .ow 102), (7, .pt 103 0), (8, .ow 104), (15, .d (.fl (.bool false))), (18, .d (.sl 3 (List.map ePn N1.points))), (19, .d (.fl (.int .i64 (1 : Int)))), (20, .d (.fl (.int .i64 (1 : Int)))), (21, .d (.fl (.bool false))), (29, .d (.sl 6 (List.map eDc [E1, D1]))), (30, .d (.fl (.int .i64 (2 : Int)))), (31, .d (.fl (.int .i64 (0 : Int))))] [(101, .bx 26 (eNw N1)), (102, .mp (([] ++ [((.string ((ix N1.points 0).name)), .fl (.bool true))]))), (103, .bx 52 ((ePn (ix N1.points 0)))), (104, .mp [])]) (imp_forget rfl ⟨rfl, rfl, rfl, rfl, rfl, rfl, rfl, rfl, rfl, rfl, rfl, rfl, rfl, rfl, rfl, trivial⟩ ⟨rfl, rfl, rfl, rfl, trivial⟩) ?_
  refine a_rseq ?_
  refine rg_put (d := 32) (v := .d (.fl (.bool true))) rfl (og rfl (op_bin rfl rfl rfl (b_lss _ _ _ _) rfl)) ?_
  refine rg_done rfl ?_
  refine a_seq ?_
  refine a_condK rfl rfl ?_
  refine a_skip ?_
  show A _ _ _ _ _ _ _
  refine a_seq ?_
  refine a_block ?_
  refine a_rseq ?_
  refine rg_put (d := 33) (v := .el ((eDc (ix [E1, D1] 0)))) rfl (og rfl (s_index rfl Try.underlying22 ti36 rfl rfl (by first | decide | (simp [ix]; done) | omega) (row_at (by first | decide | (simp [ix]; done) | omega)) rfl)) ?_
  refine rg_put (d := 34) (v := .d (.ag (eDc (ix [E1, D1] 0)))) rfl (og rfl (of_eff (s_load_els rfl Try.underlying36 rfl ti36 rfl rfl rfl) rfl)) ?_
  refine rg_nam (d := 10) (v := .pt 105 0) (m := 105) (nw := [(105, .bx 36 ([.fl (.string (⟨#[]⟩)), .fl (.string (⟨#[]⟩)), .fl (.int .i64 0), .fl (.int .i64 0), .fl (.slice none 0 0), .fl (.slice none 0 0)]))]) rfl (og rfl (of_eff (s_alloc 105 rfl ti36 (by kernel_rfl) rfl) rfl)) rfl ?_
  refine rg_sto (nw := [(105, .bx 36 ((eDc (ix [E1, D1] 0))))]) rfl (og rfl (of_eff (s_store rfl rfl ti36 rfl rfl rfl rfl rfl rfl) rfl)) ?_
  refine rg_done rfl ?_
  refine a_seq ?_
  refine a_block ?_
  refine a_rseq ?_
  refine rg_put (d := 36) (v := .pt 105 0) rfl (og rfl (of_eff (s_field_pt rfl Try.underlying36 rfl ti9 rfl rfl rfl) rfl)) ?_
  refine rg_put (d := 37) (v := .d (.fl (.string ((ix [E1, D1] 0).name)))) rfl (og rfl (op_load_pt rfl Try.underlying9 rfl rfl rfl rfl rfl)) ?_
  refine rg_put (d := 38) (v := .d (.fl (.bool true))) rfl (og rfl (op_call rfl Try.func18 nm18 rfl (.cons rfl (.d _) .nil) name18b rfl)) ?_
  refine rg_put (d := 39) (v := .d (.fl (.bool false))) rfl (og rfl (op_un rfl rfl (u_not _) rfl)) ?_
  refine rg_put (d := 35) (v := .d (.fl (.bool false))) rfl (og rfl (op_assign rfl rfl rfl)) ?_
  refine rg_done rfl ?_
  refine a_condF rfl rfl ?_
  refine a_rseq ?_
  refine rg_put (d := 41) (v := .ow 104) rfl (og rfl (op_move rfl rfl rfl)) ?_
  refine rg_put (d := 42) (v := .pt 105 0) rfl (og rfl (of_eff (s_field_pt rfl Try.underlying36 rfl ti9 rfl rfl rfl) rfl)) ?_
  refine rg_put (d := 43) (v := .d (.fl (.string ((ix [E1, D1] 0).name)))) rfl (og rfl (op_load_pt rfl Try.underlying9 rfl rfl rfl rfl rfl)) ?_
  refine rg_put (d := 44) (v := .d (.fl (.bool false))) rfl (og rfl (op_lookup1 rfl Try.underlying53 Try.underlying9 rfl ti4 rfl rfl (.ow rfl) rfl (r := none) rfl rfl rfl)) ?_
  refine rg_put (d := 40) (v := .d (.fl (.bool false))) rfl (og rfl (op_assign rfl rfl rfl)) ?_
  refine rg_done rfl ?_
  refine a_condF rfl rfl ?_
  refine a_rseq ?_
  refine rg_put (d := 46) (v := .ow 102) rfl (og rfl (op_move rfl rfl rfl)) ?_
  refine rg_put (d := 47) (v := .pt 105 1) rfl (og rfl (of_eff (s_field_pt rfl Try.underlying36 rfl ti9 rfl rfl rfl) rfl)) ?_
  refine rg_put (d := 48) (v := .d (.fl (.string ((ix [E1, D1] 0).point)))) rfl (og rfl (op_load_pt rfl Try.underlying9 rfl rfl rfl rfl rfl)) ?_
  refine rg_put (d := 49) (v := .d (.fl (.bool true))) rfl (og rfl (op_lookup1 rfl Try.underlying53 Try.underlying9 rfl ti4 rfl rfl (.ow rfl) rfl (r := (some (.fl (.bool true)))) rfl rfl rfl)) ?_
  refine rg_put (d := 50) (v := .d (.fl (.bool false))) rfl (og rfl (op_un rfl rfl (u_not _) rfl)) ?_
  refine rg_put (d := 45) (v := .d (.fl (.bool false))) rfl (og rfl (op_assign rfl rfl rfl)) ?_
  refine rg_done rfl ?_
  refine a_condF rfl rfl ?_
  refine a_rseq ?_
  refine rg_put (d := 52) (v := .pt 105 2) rfl (og rfl (of_eff (s_field_pt rfl Try.underlying36 rfl ti3 rfl rfl rfl) rfl)) ?_
  refine rg_put (d := 53) (v := .d (.fl (.int .i64 ((ix [E1, D1] 0).kind)))) rfl (og rfl (op_load_pt rfl Try.underlying3 rfl rfl rfl rfl rfl)) ?_
  rw [show (ix [E1, D1] 0).kind = (2 : Int) from by first | rfl | kernel_rfl]
  refine rg_put (d := 54) (v := .d (.fl (.bool false))) rfl (og rfl (op_bin rfl rfl rfl (b_lss _ _ _ _) rfl)) ?_
  refine rg_put (d := 55) (v := .d (.fl (.bool false))) rfl (og rfl (op_move rfl rfl rfl)) ?_
  refine rg_put (d := 56) (v := .pt 105 2) rfl (oy rfl rfl rfl rfl (of_eff (s_field_pt rfl Try.underlying36 rfl ti3 rfl rfl rfl) rfl)) ?_
  refine rg_put (d := 57) (v := .d (.fl (.int .i64 ((ix [E1, D1] 0).kind)))) rfl (oy rfl rfl rfl rfl (op_load_pt rfl Try.underlying3 rfl rfl rfl rfl rfl)) ?_
  rw [show (ix [E1, D1] 0).kind = (2 : Int) from by first | rfl | kernel_rfl]
  refine rg_put (d := 58) (v := .d (.fl (.bool false))) rfl (oy rfl rfl rfl rfl (op_bin rfl rfl rfl (b_gtr _ _ _ _) rfl)) ?_
  refine rg_put (d := 59) (v := .d (.fl (.bool false))) rfl (og rfl (op_pick rfl rfl rfl rfl)) ?_
  refine rg_put (d := 60) (v := .d (.fl (.bool false))) rfl (og rfl (op_move rfl rfl rfl)) ?_
  refine rg_put (d := 61) (v := .pt 105 3) rfl (oy rfl rfl rfl rfl (of_eff (s_field_pt rfl Try.underlying36 rfl ti3 rfl rfl rfl) rfl)) ?_
  refine rg_put (d := 62) (v := .d (.fl (.int .i64 ((ix [E1, D1] 0).lane)))) rfl (oy rfl rfl rfl rfl (op_load_pt rfl Try.underlying3 rfl rfl rfl rfl rfl)) ?_
  rw [show (ix [E1, D1] 0).lane = (0 : Int) from by first | rfl | kernel_rfl]
  refine rg_put (d := 63) (v := .d (.fl (.bool false))) rfl (oy rfl rfl rfl rfl (op_bin rfl rfl rfl (b_lss _ _ _ _) rfl)) ?_
  refine rg_put (d := 64) (v := .d (.fl (.bool false))) rfl (og rfl (op_pick rfl rfl rfl rfl)) ?_
  refine rg_put (d := 65) (v := .d (.fl (.bool false))) rfl (og rfl (op_move rfl rfl rfl)) ?_
  refine rg_put (d := 66) (v := .pt 105 3) rfl (oy rfl rfl rfl rfl (of_eff (s_field_pt rfl Try.underlying36 rfl ti3 rfl rfl rfl) rfl)) ?_
  refine rg_put (d := 67) (v := .d (.fl (.int .i64 ((ix [E1, D1] 0).lane)))) rfl (oy rfl rfl rfl rfl (op_load_pt rfl Try.underlying3 rfl rfl rfl rfl rfl)) ?_
  rw [show (ix [E1, D1] 0).lane = (0 : Int) from by first | rfl | kernel_rfl]
  refine rg_put (d := 68) (v := .d (.fl (.bool false))) rfl (oy rfl rfl rfl rfl (op_bin rfl rfl rfl (b_gtr _ _ _ _) rfl)) ?_
  refine rg_put (d := 69) (v := .d (.fl (.bool false))) rfl (og rfl (op_pick rfl rfl rfl rfl)) ?_
  refine rg_put (d := 51) (v := .d (.fl (.bool false))) rfl (og rfl (op_assign rfl rfl rfl)) ?_
  refine rg_done rfl ?_
  refine a_condF rfl rfl ?_
  refine a_skip ?_
  show A _ _ _ _ _ _ _
  refine a_rseq ?_
  refine rg_put (d := 70) (v := .ow 104) rfl (og rfl (op_move rfl rfl rfl)) ?_
  refine rg_put (d := 71) (v := .pt 105 0) rfl (og rfl (of_eff (s_field_pt rfl Try.underlying36 rfl ti9 rfl rfl rfl) rfl)) ?_
  refine rg_put (d := 72) (v := .d (.fl (.string ((ix [E1, D1] 0).name)))) rfl (og rfl (op_load_pt rfl Try.underlying9 rfl rfl rfl rfl rfl)) ?_
  refine rg_sto (nw := [(104, .mp ([] ++ [((.string ((ix [E1, D1] 0).name)), .fl (.bool true))]))]) rfl (og rfl (op_mapPush rfl rfl Try.underlying53 Try.underlying9 rfl rfl rfl rfl rfl rfl)) ?_
  refine rg_done rfl ?_
  refine a_seq ?_
  refine a_rseq ?_
  refine rg_put (d := 73) (v := .pt 105 4) rfl (og rfl (of_eff (s_field_pt rfl Try.underlying36 rfl ti33 rfl rfl rfl) rfl)) ?_
  refine rg_put (d := 74) (v := .d (.sl 2 (List.map eOf ((ix [E1, D1] 0).offs)))) rfl (og rfl (op_load_pt rfl Try.underlying33 rfl rfl rfl rfl rfl)) ?_
  refine rg_put (d := 75) (v := .d (.fl (.int .i64 (0 : Int)))) rfl (og rfl (op_call rfl Try.func19 nm19 rfl (.cons rfl (.d _) .nil) offB rfl)) ?_
  rw [show (0 : Int) = (0 : Int) from by first | rfl | kernel_rfl]
  refine rg_put (d := 11) (v := .d (.fl (.int .i64 (0 : Int)))) rfl (og rfl (op_assign rfl rfl rfl)) ?_
  rw [show (0 : Int) = (0 : Int) from by first | rfl | kernel_rfl]
  refine rg_done rfl ?_
  refine a_rseq ?_
  refine rg_put (d := 76) (v := .d (.fl (.int .i64 (0 : Int)))) rfl (og rfl (op_move rfl rfl rfl)) ?_
  rw [show (0 : Int) = (0 : Int) from by first | rfl | kernel_rfl]
  refine rg_put (d := 77) (v := .d (.fl (.bool false))) rfl (og rfl (op_bin rfl rfl rfl (b_neq _ _ _ _) rfl)) ?_
  refine rg_done rfl ?_
  refine a_condF rfl rfl ?_
  refine a_skip ?_
  show A _ _ _ _ _ _ _
  refine a_rseq ?_
  refine rg_put (d := 79) (v := .pt 105 5) rfl (og rfl (of_eff (s_field_pt rfl Try.underlying36 rfl ti34 rfl rfl rfl) rfl)) ?_
  refine rg_put (d := 80) (v := .d (.sl 2 (List.map eIv ((ix [E1, D1] 0).down)))) rfl (og rfl (op_load_pt rfl Try.underlying34 rfl rfl rfl rfl rfl)) ?_
  refine rg_put (d := 81) (v := .d (.fl (.int .i64 (0 : Int)))) rfl (og rfl (op_call rfl Try.func20 nm20 rfl (.cons rfl (.d _) .nil) dwnB rfl)) ?_
  rw [show (0 : Int) = (0 : Int) from by first | rfl | kernel_rfl]
  refine rg_put (d := 12) (v := .d (.fl (.int .i64 (0 : Int)))) rfl (og rfl (op_assign rfl rfl rfl)) ?_
  rw [show (0 : Int) = (0 : Int) from by first | rfl | kernel_rfl]
  refine rg_done rfl ?_
  refine a_rseq ?_
  refine rg_put (d := 82) (v := .d (.fl (.int .i64 (0 : Int)))) rfl (og rfl (op_move rfl rfl rfl)) ?_
  rw [show (0 : Int) = (0 : Int) from by first | rfl | kernel_rfl]
  refine rg_put (d := 83) (v := .d (.fl (.bool false))) rfl (og rfl (op_bin rfl rfl rfl (b_neq _ _ _ _) rfl)) ?_
  refine rg_done rfl ?_
  refine a_condF rfl rfl ?_
  refine a_skip ?_
  show A _ _ _ _ _ _ _
  refine a_region ?_
  refine rg_put (d := 85) (v := .d (.fl (.int .i64 (1 : Int)))) rfl (og rfl (op_bin rfl rfl rfl (fun x y w => b_add64 _ _ _ x y w (by first | decide | (simp [ix]; done) | omega)) rfl)) ?_
  refine rg_put (d := 31) (v := .d (.fl (.int .i64 (1 : Int)))) rfl (og rfl (op_move rfl rfl rfl)) ?_
  rw [show (1 : Int) = (1 : Int) from by first | rfl | kernel_rfl]
  refine rg_done rfl ?_
  show ARd _ _ _ _ _ _ _ _
  refine ard_succ ?_
  refine a_imp (τ := SS [(0, .d (.sl 6 (List.map eDc [E1, D1]))), (1, .d (.ag (eNw N1))), (3, .pt 101 0), (4, .d (.fl (.int .i64 (0 : Int)))), (5, .ow 102), (7, .pt 103 0), (8, .ow 104), (10, .pt 105 0), (11, .d (.fl (.int .i64 (0 : Int)))), (12, .d (.fl (.int .i64 (0 : Int)))), (15, .d (.fl (.bool false))), (18, .d (.sl 3 (List.map ePn N1.points))), (19, .d (.fl (.int .i64 (1 : Int)))), (20, .d (.fl (.int .i64 (1 : Int)))), (21, .d (.fl (.bool false))), (29, .d (.sl 6 (List.map eDc [E1, D1]))), (30, .d (.fl (.int .i64 (2 : Int)))), (31, .d (.fl (.int .i64 (1 : Int)))), (32, .d (.fl (.bool true))), (35, .d (.fl (.bool false))), (40, .d (.fl (.bool false))), (45, .d (.fl (.bool false))), (51, .d (.fl (.bool false))), (77, .d (.fl (.bool false))), (83, .d (.fl (.bool false)))] [(101, .bx 26 (eNw N1)), (102, .mp (([] ++ [((.string ((ix N1.points 0).name)), .fl (.bool true))]))), (103, .bx 52 ((ePn (ix N1.points 0)))), (104, .mp (([] ++ [((.string ((ix [E1, D1] 0).name)), .fl (.bool true))]))), (105, .bx 36 ((eDc (ix [E1, D1] 0))))]) (imp_forget rfl ⟨rfl, rfl, rfl, rfl, rfl, rfl, rfl, rfl, rfl, rfl, rfl, rfl, rfl, rfl, rfl, rfl, rfl, rfl, rfl, rfl, rfl, rfl, rfl, rfl, rfl, trivial⟩ ⟨rfl, rfl, rfl, rfl, rfl, trivial⟩) ?_
  refine a_rseq ?_
  refine rg_put (d := 32) (v := .d (.fl (.bool true))) rfl (og rfl (op_bin rfl rfl rfl (b_lss _ _ _ _) rfl)) ?_
  refine rg_done rfl ?_
  refine a_seq ?_
  refine a_condK rfl rfl ?_
  refine a_skip ?_
  show A _ _ _ _ _ _ _
  refine a_seq ?_
  refine a_block ?_
  refine a_rseq ?_
  refine rg_put (d := 33) (v := .el ((eDc (ix [E1, D1] 1)))) rfl (og rfl (s_index rfl Try.underlying22 ti36 rfl rfl (by first | decide | (simp [ix]; done) | omega) (row_at (by first | decide | (simp [ix]; done) | omega)) rfl)) ?_
  refine rg_put (d := 34) (v := .d (.ag (eDc (ix [E1, D1] 1)))) rfl (og rfl (of_eff (s_load_els rfl Try.underlying36 rfl ti36 rfl rfl rfl) rfl)) ?_
  refine rg_nam (d := 10) (v := .pt 106 0) (m := 106) (nw := [(106, .bx 36 ([.fl (.string (⟨#[]⟩)), .fl (.string (⟨#[]⟩)), .fl (.int .i64 0), .fl (.int .i64 0), .fl (.slice none 0 0), .fl (.slice none 0 0)]))]) rfl (og rfl (of_eff (s_alloc 106 rfl ti36 (by kernel_rfl) rfl) rfl)) rfl ?_
  refine rg_sto (nw := [(106, .bx 36 ((eDc (ix [E1, D1] 1))))]) rfl (og rfl (of_eff (s_store rfl rfl ti36 rfl rfl rfl rfl rfl rfl) rfl)) ?_
  refine rg_done rfl ?_
  refine a_seq ?_
  refine a_block ?_
  refine a_rseq ?_
  refine rg_put (d := 36) (v := .pt 106 0) rfl (og rfl (of_eff (s_field_pt rfl Try.underlying36 rfl ti9 rfl rfl rfl) rfl)) ?_
  refine rg_put (d := 37) (v := .d (.fl (.string ((ix [E1, D1] 1).name)))) rfl (og rfl (op_load_pt rfl Try.underlying9 rfl rfl rfl rfl rfl)) ?_
  refine rg_put (d := 38) (v := .d (.fl (.bool true))) rfl (og rfl (op_call rfl Try.func18 nm18 rfl (.cons rfl (.d _) .nil) name18a rfl)) ?_
  refine rg_put (d := 39) (v := .d (.fl (.bool false))) rfl (og rfl (op_un rfl rfl (u_not _) rfl)) ?_
  refine rg_put (d := 35) (v := .d (.fl (.bool false))) rfl (og rfl (op_assign rfl rfl rfl)) ?_
  refine rg_done rfl ?_
  refine a_condF rfl rfl ?_
  refine a_rseq ?_
  refine rg_put (d := 41) (v := .ow 104) rfl (og rfl (op_move rfl rfl rfl)) ?_
  refine rg_put (d := 42) (v := .pt 106 0) rfl (og rfl (of_eff (s_field_pt rfl Try.underlying36 rfl ti9 rfl rfl rfl) rfl)) ?_
  refine rg_put (d := 43) (v := .d (.fl (.string ((ix [E1, D1] 1).name)))) rfl (og rfl (op_load_pt rfl Try.underlying9 rfl rfl rfl rfl rfl)) ?_
  refine rg_put (d := 44) (v := .d (.fl (.bool false))) rfl (og rfl (op_lookup1 rfl Try.underlying53 Try.underlying9 rfl ti4 rfl rfl (.ow rfl) rfl (r := none) rfl rfl rfl)) ?_
  refine rg_put (d := 40) (v := .d (.fl (.bool false))) rfl (og rfl (op_assign rfl rfl rfl)) ?_
  refine rg_done rfl ?_
  refine a_condF rfl rfl ?_
  refine a_rseq ?_
  refine rg_put (d := 46) (v := .ow 102) rfl (og rfl (op_move rfl rfl rfl)) ?_
  refine rg_put (d := 47) (v := .pt 106 1) rfl (og rfl (of_eff (s_field_pt rfl Try.underlying36 rfl ti9 rfl rfl rfl) rfl)) ?_
  refine rg_put (d := 48) (v := .d (.fl (.string ((ix [E1, D1] 1).point)))) rfl (og rfl (op_load_pt rfl Try.underlying9 rfl rfl rfl rfl rfl)) ?_
  refine rg_put (d := 49) (v := .d (.fl (.bool true))) rfl (og rfl (op_lookup1 rfl Try.underlying53 Try.underlying9 rfl ti4 rfl rfl (.ow rfl) rfl (r := (some (.fl (.bool true)))) rfl rfl rfl)) ?_
  refine rg_put (d := 50) (v := .d (.fl (.bool false))) rfl (og rfl (op_un rfl rfl (u_not _) rfl)) ?_
  refine rg_put (d := 45) (v := .d (.fl (.bool false))) rfl (og rfl (op_assign rfl rfl rfl)) ?_
  refine rg_done rfl ?_
  refine a_condF rfl rfl ?_
  refine a_rseq ?_
  refine rg_put (d := 52) (v := .pt 106 2) rfl (og rfl (of_eff (s_field_pt rfl Try.underlying36 rfl ti3 rfl rfl rfl) rfl)) ?_
  refine rg_put (d := 53) (v := .d (.fl (.int .i64 ((ix [E1, D1] 1).kind)))) rfl (og rfl (op_load_pt rfl Try.underlying3 rfl rfl rfl rfl rfl)) ?_
  rw [show (ix [E1, D1] 1).kind = (2 : Int) from by first | rfl | kernel_rfl]
  refine rg_put (d := 54) (v := .d (.fl (.bool false))) rfl (og rfl (op_bin rfl rfl rfl (b_lss _ _ _ _) rfl)) ?_
  refine rg_put (d := 55) (v := .d (.fl (.bool false))) rfl (og rfl (op_move rfl rfl rfl)) ?_
  refine rg_put (d := 56) (v := .pt 106 2) rfl (oy rfl rfl rfl rfl (of_eff (s_field_pt rfl Try.underlying36 rfl ti3 rfl rfl rfl) rfl)) ?_
  refine rg_put (d := 57) (v := .d (.fl (.int .i64 ((ix [E1, D1] 1).kind)))) rfl (oy rfl rfl rfl rfl (op_load_pt rfl Try.underlying3 rfl rfl rfl rfl rfl)) ?_
  rw [show (ix [E1, D1] 1).kind = (2 : Int) from by first | rfl | kernel_rfl]
  refine rg_put (d := 58) (v := .d (.fl (.bool false))) rfl (oy rfl rfl rfl rfl (op_bin rfl rfl rfl (b_gtr _ _ _ _) rfl)) ?_
  refine rg_put (d := 59) (v := .d (.fl (.bool false))) rfl (og rfl (op_pick rfl rfl rfl rfl)) ?_
  refine rg_put (d := 60) (v := .d (.fl (.bool false))) rfl (og rfl (op_move rfl rfl rfl)) ?_
  refine rg_put (d := 61) (v := .pt 106 3) rfl (oy rfl rfl rfl rfl (of_eff (s_field_pt rfl Try.underlying36 rfl ti3 rfl rfl rfl) rfl)) ?_
  refine rg_put (d := 62) (v := .d (.fl (.int .i64 ((ix [E1, D1] 1).lane)))) rfl (oy rfl rfl rfl rfl (op_load_pt rfl Try.underlying3 rfl rfl rfl rfl rfl)) ?_
  rw [show (ix [E1, D1] 1).lane = (0 : Int) from by first | rfl | kernel_rfl]
  refine rg_put (d := 63) (v := .d (.fl (.bool false))) rfl (oy rfl rfl rfl rfl (op_bin rfl rfl rfl (b_lss _ _ _ _) rfl)) ?_
  refine rg_put (d := 64) (v := .d (.fl (.bool false))) rfl (og rfl (op_pick rfl rfl rfl rfl)) ?_
  refine rg_put (d := 65) (v := .d (.fl (.bool false))) rfl (og rfl (op_move rfl rfl rfl)) ?_
  refine rg_put (d := 66) (v := .pt 106 3) rfl (oy rfl rfl rfl rfl (of_eff (s_field_pt rfl Try.underlying36 rfl ti3 rfl rfl rfl) rfl)) ?_
  refine rg_put (d := 67) (v := .d (.fl (.int .i64 ((ix [E1, D1] 1).lane)))) rfl (oy rfl rfl rfl rfl (op_load_pt rfl Try.underlying3 rfl rfl rfl rfl rfl)) ?_
  rw [show (ix [E1, D1] 1).lane = (0 : Int) from by first | rfl | kernel_rfl]
  refine rg_put (d := 68) (v := .d (.fl (.bool false))) rfl (oy rfl rfl rfl rfl (op_bin rfl rfl rfl (b_gtr _ _ _ _) rfl)) ?_
  refine rg_put (d := 69) (v := .d (.fl (.bool false))) rfl (og rfl (op_pick rfl rfl rfl rfl)) ?_
  refine rg_put (d := 51) (v := .d (.fl (.bool false))) rfl (og rfl (op_assign rfl rfl rfl)) ?_
  refine rg_done rfl ?_
  refine a_condF rfl rfl ?_
  refine a_skip ?_
  show A _ _ _ _ _ _ _
  refine a_rseq ?_
  refine rg_put (d := 70) (v := .ow 104) rfl (og rfl (op_move rfl rfl rfl)) ?_
  refine rg_put (d := 71) (v := .pt 106 0) rfl (og rfl (of_eff (s_field_pt rfl Try.underlying36 rfl ti9 rfl rfl rfl) rfl)) ?_
  refine rg_put (d := 72) (v := .d (.fl (.string ((ix [E1, D1] 1).name)))) rfl (og rfl (op_load_pt rfl Try.underlying9 rfl rfl rfl rfl rfl)) ?_
  refine rg_sto (nw := [(104, .mp (([] ++ [((.string ((ix [E1, D1] 0).name)), .fl (.bool true))]) ++ [((.string ((ix [E1, D1] 1).name)), .fl (.bool true))]))]) rfl (og rfl (op_mapPush rfl rfl Try.underlying53 Try.underlying9 rfl rfl rfl rfl rfl rfl)) ?_
  refine rg_done rfl ?_
  refine a_seq ?_
  refine a_rseq ?_
  refine rg_put (d := 73) (v := .pt 106 4) rfl (og rfl (of_eff (s_field_pt rfl Try.underlying36 rfl ti33 rfl rfl rfl) rfl)) ?_
  refine rg_put (d := 74) (v := .d (.sl 2 (List.map eOf ((ix [E1, D1] 1).offs)))) rfl (og rfl (op_load_pt rfl Try.underlying33 rfl rfl rfl rfl rfl)) ?_
  refine rg_put (d := 75) (v := .d (.fl (.int .i64 (0 : Int)))) rfl (og rfl (op_call rfl Try.func19 nm19 rfl (.cons rfl (.d _) .nil) offA rfl)) ?_
  rw [show (0 : Int) = (0 : Int) from by first | rfl | kernel_rfl]
  refine rg_put (d := 11) (v := .d (.fl (.int .i64 (0 : Int)))) rfl (og rfl (op_assign rfl rfl rfl)) ?_
  rw [show (0 : Int) = (0 : Int) from by first | rfl | kernel_rfl]
  refine rg_done rfl ?_
  refine a_rseq ?_
  refine rg_put (d := 76) (v := .d (.fl (.int .i64 (0 : Int)))) rfl (og rfl (op_move rfl rfl rfl)) ?_
  rw [show (0 : Int) = (0 : Int) from by first | rfl | kernel_rfl]
  refine rg_put (d := 77) (v := .d (.fl (.bool false))) rfl (og rfl (op_bin rfl rfl rfl (b_neq _ _ _ _) rfl)) ?_
  refine rg_done rfl ?_
  refine a_condF rfl rfl ?_
  refine a_skip ?_
  show A _ _ _ _ _ _ _
  refine a_rseq ?_
  refine rg_put (d := 79) (v := .pt 106 5) rfl (og rfl (of_eff (s_field_pt rfl Try.underlying36 rfl ti34 rfl rfl rfl) rfl)) ?_
  refine rg_put (d := 80) (v := .d (.sl 2 (List.map eIv ((ix [E1, D1] 1).down)))) rfl (og rfl (op_load_pt rfl Try.underlying34 rfl rfl rfl rfl rfl)) ?_
  refine rg_put (d := 81) (v := .d (.fl (.int .i64 (0 : Int)))) rfl (og rfl (op_call rfl Try.func20 nm20 rfl (.cons rfl (.d _) .nil) dwnA rfl)) ?_
  rw [show (0 : Int) = (0 : Int) from by first | rfl | kernel_rfl]
  refine rg_put (d := 12) (v := .d (.fl (.int .i64 (0 : Int)))) rfl (og rfl (op_assign rfl rfl rfl)) ?_
  rw [show (0 : Int) = (0 : Int) from by first | rfl | kernel_rfl]
  refine rg_done rfl ?_
  refine a_rseq ?_
  refine rg_put (d := 82) (v := .d (.fl (.int .i64 (0 : Int)))) rfl (og rfl (op_move rfl rfl rfl)) ?_
  rw [show (0 : Int) = (0 : Int) from by first | rfl | kernel_rfl]
  refine rg_put (d := 83) (v := .d (.fl (.bool false))) rfl (og rfl (op_bin rfl rfl rfl (b_neq _ _ _ _) rfl)) ?_
  refine rg_done rfl ?_
  refine a_condF rfl rfl ?_
  refine a_skip ?_
  show A _ _ _ _ _ _ _
  refine a_region ?_
  refine rg_put (d := 85) (v := .d (.fl (.int .i64 (2 : Int)))) rfl (og rfl (op_bin rfl rfl rfl (fun x y w => b_add64 _ _ _ x y w (by first | decide | (simp [ix]; done) | omega)) rfl)) ?_
  refine rg_put (d := 31) (v := .d (.fl (.int .i64 (2 : Int)))) rfl (og rfl (op_move rfl rfl rfl)) ?_
  rw [show (2 : Int) = (2 : Int) from by first | rfl | kernel_rfl]
  refine rg_done rfl ?_
  show ARd _ _ _ _ _ _ _ _
  refine ard_succ ?_
  refine a_imp (τ := SS [(0, .d (.sl 6 (List.map eDc [E1, D1]))), (1, .d (.ag (eNw N1))), (3, .pt 101 0), (4, .d (.fl (.int .i64 (0 : Int)))), (5, .ow 102), (7, .pt 103 0), (8, .ow 104), (10, .pt 106 0), (11, .d (.fl (.int .i64 (0 : Int)))), (12, .d (.fl (.int .i64 (0 : Int)))), (15, .d (.fl (.bool false))), (18, .d (.sl 3 (List.map ePn N1.points))), (19, .d (.fl (.int .i64 (1 : Int)))), (20, .d (.fl (.int .i64 (1 : Int)))), (21, .d (.fl (.bool false))), (29, .d (.sl 6 (List.map eDc [E1, D1]))), (30, .d (.fl (.int .i64 (2 : Int)))), (31, .d (.fl (.int .i64 (2 : Int)))), (32, .d (.fl (.bool true))), (35, .d (.fl (.bool false))), (40, .d (.fl (.bool false))), (45, .d (.fl (.bool false))), (51, .d (.fl (.bool false))), (77, .d (.fl (.bool false))), (83, .d (.fl (.bool false)))] [(101, .bx 26 (eNw N1)), (102, .mp (([] ++ [((.string ((ix N1.points 0).name)), .fl (.bool true))]))), (103, .bx 52 ((ePn (ix N1.points 0)))), (104, .mp ((([] ++ [((.string ((ix [E1, D1] 0).name)), .fl (.bool true))]) ++ [((.string ((ix [E1, D1] 1).name)), .fl (.bool true))]))), (106, .bx 36 ((eDc (ix [E1, D1] 1))))]) (imp_forget rfl ⟨rfl, rfl, rfl, rfl, rfl, rfl, rfl, rfl, rfl, rfl, rfl, rfl, rfl, rfl, rfl, rfl, rfl, rfl, rfl, rfl, rfl, rfl, rfl, rfl, rfl, trivial⟩ ⟨rfl, rfl, rfl, rfl, rfl, trivial⟩) ?_
  refine a_rseq ?_
  refine rg_put (d := 32) (v := .d (.fl (.bool false))) rfl (og rfl (op_bin rfl rfl rfl (b_lss _ _ _ _) rfl)) ?_
  refine rg_done rfl ?_
  refine a_seq ?_
  refine a_condF rfl rfl ?_
  refine a_exit ?_
  show A _ _ _ _ _ _ _
  refine a_rseq ?_
  refine rg_put (d := 4) (v := .d (.fl (.int .i64 0))) rfl (og rfl (op_assign rfl rfl rfl)) ?_
  rw [show 0 = (0 : Int) from by first | rfl | kernel_rfl]
  refine rg_done rfl ?_
  refine a_ret ?_
  show ∃ ds, ResL _ _ _ ds ∧ RV.of ds = _
  refine ⟨[.fl (.int .i64 (0 : Int))], (.cons (.tmp rfl (.d _)) .nil), ?_⟩
  rfl
theorem uc1 : Ctr Try.prog 10 [.ag (eDc D1), .fl (.int .i64 199)] (.tu [.fl (.int .i64 204), .fl (.bool true)]) := by
  have := clk10 D1 199 (by decide) ho_D1
  rw [show clk D1 199 = (204, true) by kernel_rfl] at this; exact this
theorem uc2 : Ctr Try.prog 10 [.ag (eDc D1), .fl (.int .i64 200)] (.tu [.fl (.int .i64 195), .fl (.bool true)]) := by
  have := clk10 D1 200 (by decide) ho_D1
  rw [show clk D1 200 = (195, true) by kernel_rfl] at this; exact this
theorem uc3 : Ctr Try.prog 10 [.ag (eDc E1), .fl (.int .i64 9)] (.tu [.fl (.int .i64 0), .fl (.bool false)]) := by
  have := clk10 E1 9 (by decide) ho_E1
  rw [show clk E1 9 = (0, false) by kernel_rfl] at this; exact this
theorem uw1 : Ctr Try.prog 12 [.ag (eDc D1), .fl (.int .i64 9)] (.d (.fl (.bool true))) := by
  have := wrk12 D1 9 (by decide)
  rw [show wrk D1 9 = true by kernel_rfl] at this; exact this
theorem uw2 : Ctr Try.prog 12 [.ag (eDc D1), .fl (.int .i64 10)] (.d (.fl (.bool false))) := by
  have := wrk12 D1 10 (by decide)
  rw [show wrk D1 10 = false by kernel_rfl] at this; exact this
set_option maxHeartbeats 4000000 in
set_option maxRecDepth 100000 in
theorem awake7  : Ctr Try.prog 7 [] (.d (.fl (.bool true))) := by
  refine ctr (n := 117) (rs := #[.tmp 0]) (L := []) Try.func7 rfl rfl rfl rfl rfl (fun w0 U0 => ?_)
  refine a_rseq ?_
  refine rg_put (d := 0) (v := .d (.fl (.bool false))) rfl (og rfl (op_assign rfl rfl rfl)) ?_
  refine rg_done rfl ?_
  refine a_rseq ?_
  refine rg_put (d := 13) (v := .d (.ag (eOf O1))) rfl (og rfl (of_eff (op_build rfl Try.underlying46 ti46 rfl (by kernel_rfl) (by kernel_rfl) (pl := #[(0, 1), (1, 1)]) (by kernel_rfl) (.cons rfl rfl (.d _) rfl rfl rfl (.cons rfl rfl (.d _) rfl rfl rfl .nil)) rfl) rfl)) ?_
  refine rg_put (d := 14) (v := .d (.ag (eOf O2))) rfl (og rfl (of_eff (op_build rfl Try.underlying46 ti46 rfl (by kernel_rfl) (by kernel_rfl) (pl := #[(0, 1), (1, 1)]) (by kernel_rfl) (.cons rfl rfl (.d _) rfl rfl rfl (.cons rfl rfl (.d _) rfl rfl rfl .nil)) rfl) rfl)) ?_
  refine rg_put (d := 15) (v := .d (.sl 2 (List.map eOf [O1, O2]))) rfl (og rfl (of_eff (op_slices rfl Try.underlying33 ti46 rfl rfl rfl (by kernel_rfl) (xs := [.ag (eOf O1), .ag (eOf O2)]) rfl rfl (.cons rfl rfl (.d _) rfl rfl rfl (.cons rfl rfl (.d _) rfl rfl rfl .nil)) rfl) rfl)) ?_
  refine rg_put (d := 16) (v := .d (.ag (eIv I1))) rfl (og rfl (of_eff (op_build rfl Try.underlying48 ti48 rfl (by kernel_rfl) (by kernel_rfl) (pl := #[(0, 1), (1, 1)]) (by kernel_rfl) (.cons rfl rfl (.d _) rfl rfl rfl (.cons rfl rfl (.d _) rfl rfl rfl .nil)) rfl) rfl)) ?_
  refine rg_put (d := 17) (v := .d (.sl 2 (List.map eIv [I1]))) rfl (og rfl (of_eff (op_slices rfl Try.underlying34 ti48 rfl rfl rfl (by kernel_rfl) (xs := [.ag (eIv I1)]) rfl rfl (.cons rfl rfl (.d _) rfl rfl rfl .nil) rfl) rfl)) ?_
  refine rg_put (d := 18) (v := .d (.ag (eDc D1))) rfl (og rfl (of_eff (op_build rfl Try.underlying36 ti36 rfl (by kernel_rfl) (by kernel_rfl) (pl := #[(0, 1), (1, 1), (2, 1), (3, 1), (4, 1), (5, 1)]) (by kernel_rfl) (.cons rfl rfl (.d _) rfl rfl rfl (.cons rfl rfl (.d _) rfl rfl rfl (.cons rfl rfl (.d _) rfl rfl rfl (.cons rfl rfl (.d _) rfl rfl rfl (.cons rfl rfl (.d _) rfl rfl rfl .nil))))) rfl) rfl)) ?_
  refine rg_nam (d := 1) (v := .pt 101 0) (m := 101) (nw := [(101, .bx 36 ([.fl (.string (⟨#[]⟩)), .fl (.string (⟨#[]⟩)), .fl (.int .i64 0), .fl (.int .i64 0), .fl (.slice none 0 0), .fl (.slice none 0 0)]))]) rfl (og rfl (of_eff (s_alloc 101 rfl ti36 (by kernel_rfl) rfl) rfl)) rfl ?_
  refine rg_sto (nw := [(101, .bx 36 (eDc D1))]) rfl (og rfl (of_eff (s_store rfl rfl ti36 rfl rfl rfl rfl rfl rfl) rfl)) ?_
  refine rg_done rfl ?_
  refine a_rseq ?_
  refine rg_put (d := 19) (v := .d (.ag (eOf O3))) rfl (og rfl (of_eff (op_build rfl Try.underlying46 ti46 rfl (by kernel_rfl) (by kernel_rfl) (pl := #[(0, 1), (1, 1)]) (by kernel_rfl) (.cons rfl rfl (.d _) rfl rfl rfl .nil) rfl) rfl)) ?_
  refine rg_put (d := 20) (v := .d (.sl 2 (List.map eOf [O3]))) rfl (og rfl (of_eff (op_slices rfl Try.underlying33 ti46 rfl rfl rfl (by kernel_rfl) (xs := [.ag (eOf O3)]) rfl rfl (.cons rfl rfl (.d _) rfl rfl rfl .nil) rfl) rfl)) ?_
  refine rg_put (d := 21) (v := .d (.ag (eIv I2))) rfl (og rfl (of_eff (op_build rfl Try.underlying48 ti48 rfl (by kernel_rfl) (by kernel_rfl) (pl := #[(0, 1), (1, 1)]) (by kernel_rfl) (.cons rfl rfl (.d _) rfl rfl rfl (.cons rfl rfl (.d _) rfl rfl rfl .nil)) rfl) rfl)) ?_
  refine rg_put (d := 22) (v := .d (.sl 2 (List.map eIv [I2]))) rfl (og rfl (of_eff (op_slices rfl Try.underlying34 ti48 rfl rfl rfl (by kernel_rfl) (xs := [.ag (eIv I2)]) rfl rfl (.cons rfl rfl (.d _) rfl rfl rfl .nil) rfl) rfl)) ?_
  refine rg_put (d := 23) (v := .d (.ag (eDc E1))) rfl (og rfl (of_eff (op_build rfl Try.underlying36 ti36 rfl (by kernel_rfl) (by kernel_rfl) (pl := #[(0, 1), (1, 1), (2, 1), (3, 1), (4, 1), (5, 1)]) (by kernel_rfl) (.cons rfl rfl (.d _) rfl rfl rfl (.cons rfl rfl (.d _) rfl rfl rfl (.cons rfl rfl (.d _) rfl rfl rfl (.cons rfl rfl (.d _) rfl rfl rfl (.cons rfl rfl (.d _) rfl rfl rfl .nil))))) rfl) rfl)) ?_
  refine rg_nam (d := 2) (v := .pt 102 0) (m := 102) (nw := [(102, .bx 36 ([.fl (.string (⟨#[]⟩)), .fl (.string (⟨#[]⟩)), .fl (.int .i64 0), .fl (.int .i64 0), .fl (.slice none 0 0), .fl (.slice none 0 0)]))]) rfl (og rfl (of_eff (s_alloc 102 rfl ti36 (by kernel_rfl) rfl) rfl)) rfl ?_
  refine rg_sto (nw := [(102, .bx 36 (eDc E1))]) rfl (og rfl (of_eff (s_store rfl rfl ti36 rfl rfl rfl rfl rfl rfl) rfl)) ?_
  refine rg_done rfl ?_
  refine a_rseq ?_
  refine rg_put (d := 24) (v := .d (.ag (eDc E1))) rfl (og rfl (of_eff (s_load_pts rfl Try.underlying36 rfl ti36 rfl rfl rfl rfl) rfl)) ?_
  refine rg_put (d := 25) (v := .d (.ag (eDc D1))) rfl (og rfl (of_eff (s_load_pts rfl Try.underlying36 rfl ti36 rfl rfl rfl rfl) rfl)) ?_
  refine rg_put (d := 26) (v := .d (.sl 6 (List.map eDc [E1, D1]))) rfl (og rfl (of_eff (op_slices rfl Try.underlying22 ti36 rfl rfl rfl (by kernel_rfl) (xs := [.ag (eDc E1), .ag (eDc D1)]) rfl rfl (.cons rfl rfl (.d _) rfl rfl rfl (.cons rfl rfl (.d _) rfl rfl rfl .nil)) rfl) rfl)) ?_
  refine rg_put (d := 3) (v := .d (.sl 6 (List.map eDc [E1, D1]))) rfl (og rfl (op_assign rfl rfl rfl)) ?_
  refine rg_done rfl ?_
  refine a_rseq ?_
  refine rg_put (d := 28) (v := .d (.ag (eDc D1))) rfl (og rfl (of_eff (s_load_pts rfl Try.underlying36 rfl ti36 rfl rfl rfl rfl) rfl)) ?_
  refine rg_put (d := 29) (v := .tu [.fl (.int .i64 (204 : Int)), .fl (.bool true)]) rfl (og rfl (op_call rfl Try.func10 nm10 rfl (.cons rfl (.d _) (.cons rfl (.d _) .nil)) uc1 rfl)) ?_
  refine rg_put (d := 27) (v := .tu [.fl (.int .i64 (204 : Int)), .fl (.bool true)]) rfl (og rfl (op_move rfl rfl rfl)) ?_
  refine rg_put (d := 30) (v := .d (.fl (.int .i64 (204 : Int)))) rfl (og rfl (op_extract rfl rfl rfl rfl)) ?_
  rw [show (204 : Int) = (204 : Int) from by first | rfl | kernel_rfl]
  refine rg_put (d := 31) (v := .d (.fl (.bool true))) rfl (og rfl (op_extract rfl rfl rfl rfl)) ?_
  refine rg_put (d := 4) (v := .d (.fl (.int .i64 (204 : Int)))) rfl (og rfl (op_assign rfl rfl rfl)) ?_
  rw [show (204 : Int) = (204 : Int) from by first | rfl | kernel_rfl]
  refine rg_put (d := 5) (v := .d (.fl (.bool true))) rfl (og rfl (op_assign rfl rfl rfl)) ?_
  refine rg_done rfl ?_
  refine a_rseq ?_
  refine rg_put (d := 33) (v := .d (.ag (eDc D1))) rfl (og rfl (of_eff (s_load_pts rfl Try.underlying36 rfl ti36 rfl rfl rfl rfl) rfl)) ?_
  refine rg_put (d := 34) (v := .tu [.fl (.int .i64 (195 : Int)), .fl (.bool true)]) rfl (og rfl (op_call rfl Try.func10 nm10 rfl (.cons rfl (.d _) (.cons rfl (.d _) .nil)) uc2 rfl)) ?_
  refine rg_put (d := 32) (v := .tu [.fl (.int .i64 (195 : Int)), .fl (.bool true)]) rfl (og rfl (op_move rfl rfl rfl)) ?_
  refine rg_put (d := 35) (v := .d (.fl (.int .i64 (195 : Int)))) rfl (og rfl (op_extract rfl rfl rfl rfl)) ?_
  rw [show (195 : Int) = (195 : Int) from by first | rfl | kernel_rfl]
  refine rg_put (d := 36) (v := .d (.fl (.bool true))) rfl (og rfl (op_extract rfl rfl rfl rfl)) ?_
  refine rg_put (d := 6) (v := .d (.fl (.int .i64 (195 : Int)))) rfl (og rfl (op_assign rfl rfl rfl)) ?_
  rw [show (195 : Int) = (195 : Int) from by first | rfl | kernel_rfl]
  refine rg_put (d := 7) (v := .d (.fl (.bool true))) rfl (og rfl (op_assign rfl rfl rfl)) ?_
  refine rg_done rfl ?_
  refine a_rseq ?_
  refine rg_put (d := 38) (v := .d (.ag (eDc E1))) rfl (og rfl (of_eff (s_load_pts rfl Try.underlying36 rfl ti36 rfl rfl rfl rfl) rfl)) ?_
  refine rg_put (d := 39) (v := .tu [.fl (.int .i64 (0 : Int)), .fl (.bool false)]) rfl (og rfl (op_call rfl Try.func10 nm10 rfl (.cons rfl (.d _) (.cons rfl (.d _) .nil)) uc3 rfl)) ?_
  refine rg_put (d := 37) (v := .tu [.fl (.int .i64 (0 : Int)), .fl (.bool false)]) rfl (og rfl (op_move rfl rfl rfl)) ?_
  refine rg_put (d := 40) (v := .d (.fl (.int .i64 (0 : Int)))) rfl (og rfl (op_extract rfl rfl rfl rfl)) ?_
  rw [show (0 : Int) = (0 : Int) from by first | rfl | kernel_rfl]
  refine rg_put (d := 41) (v := .d (.fl (.bool false))) rfl (og rfl (op_extract rfl rfl rfl rfl)) ?_
  refine rg_put (d := 8) (v := .d (.fl (.int .i64 (0 : Int)))) rfl (og rfl (op_assign rfl rfl rfl)) ?_
  rw [show (0 : Int) = (0 : Int) from by first | rfl | kernel_rfl]
  refine rg_put (d := 9) (v := .d (.fl (.bool false))) rfl (og rfl (op_assign rfl rfl rfl)) ?_
  refine rg_done rfl ?_
  refine a_rseq ?_
  refine rg_put (d := 42) (v := .d (.sl 6 (List.map eDc [E1, D1]))) rfl (og rfl (op_move rfl rfl rfl)) ?_
  refine rg_put (d := 43) (v := .d (.sl 2 (List.map eIv [I3]))) rfl (og rfl (op_call rfl Try.func16 nm16 rfl (.cons rfl (.d _) (.cons rfl (.d _) (.cons rfl (.d _) .nil))) out2 rfl)) ?_
  refine rg_put (d := 44) (v := .d (.sl 6 (List.map eDc [E1, D1]))) rfl (og rfl (op_move rfl rfl rfl)) ?_
  refine rg_put (d := 45) (v := .d (.sl 2 (List.map eIv [I0]))) rfl (og rfl (op_call rfl Try.func16 nm16 rfl (.cons rfl (.d _) (.cons rfl (.d _) (.cons rfl (.d _) .nil))) out1 rfl)) ?_
  refine rg_put (d := 10) (v := .d (.sl 2 (List.map eIv [I3]))) rfl (og rfl (op_assign rfl rfl rfl)) ?_
  refine rg_put (d := 11) (v := .d (.sl 2 (List.map eIv [I0]))) rfl (og rfl (op_assign rfl rfl rfl)) ?_
  refine rg_done rfl ?_
  refine a_rseq ?_
  refine rg_put (d := 46) (v := .d (.sl 6 (List.map eDc [E1, D1]))) rfl (og rfl (op_move rfl rfl rfl)) ?_
  refine rg_put (d := 47) (v := .d (.sl 6 (List.map eDc [D1, E1]))) rfl (og rfl (op_call rfl Try.func17 nm17 rfl (.cons rfl (.d _) (.cons rfl (.d _) (.cons rfl (.d _) .nil))) at0 rfl)) ?_
  refine rg_put (d := 12) (v := .d (.sl 6 (List.map eDc [D1, E1]))) rfl (og rfl (op_assign rfl rfl rfl)) ?_
  refine rg_done rfl ?_
  refine a_rseq ?_
  refine rg_put (d := 48) (v := .d (.fl (.int .i64 (204 : Int)))) rfl (og rfl (op_move rfl rfl rfl)) ?_
  rw [show (204 : Int) = (204 : Int) from by first | rfl | kernel_rfl]
  refine rg_put (d := 49) (v := .d (.fl (.bool true))) rfl (og rfl (op_bin rfl rfl rfl (b_eql _ _ _ _) rfl)) ?_
  refine rg_put (d := 50) (v := .d (.fl (.bool true))) rfl (og rfl (op_move rfl rfl rfl)) ?_
  refine rg_put (d := 51) (v := .d (.fl (.bool true))) rfl (oy rfl rfl rfl rfl (op_move rfl rfl rfl)) ?_
  refine rg_put (d := 52) (v := .d (.fl (.bool true))) rfl (og rfl (op_pick rfl rfl rfl rfl)) ?_
  refine rg_put (d := 53) (v := .d (.fl (.bool true))) rfl (og rfl (op_move rfl rfl rfl)) ?_
  refine rg_put (d := 54) (v := .d (.fl (.int .i64 (195 : Int)))) rfl (oy rfl rfl rfl rfl (op_move rfl rfl rfl)) ?_
  rw [show (195 : Int) = (195 : Int) from by first | rfl | kernel_rfl]
  refine rg_put (d := 55) (v := .d (.fl (.bool true))) rfl (oy rfl rfl rfl rfl (op_bin rfl rfl rfl (b_eql _ _ _ _) rfl)) ?_
  refine rg_put (d := 56) (v := .d (.fl (.bool true))) rfl (og rfl (op_pick rfl rfl rfl rfl)) ?_
  refine rg_put (d := 57) (v := .d (.fl (.bool true))) rfl (og rfl (op_move rfl rfl rfl)) ?_
  refine rg_put (d := 58) (v := .d (.fl (.bool true))) rfl (oy rfl rfl rfl rfl (op_move rfl rfl rfl)) ?_
  refine rg_put (d := 59) (v := .d (.fl (.bool true))) rfl (og rfl (op_pick rfl rfl rfl rfl)) ?_
  refine rg_put (d := 60) (v := .d (.fl (.bool true))) rfl (og rfl (op_move rfl rfl rfl)) ?_
  refine rg_put (d := 61) (v := .d (.fl (.bool false))) rfl (oy rfl rfl rfl rfl (op_move rfl rfl rfl)) ?_
  refine rg_put (d := 62) (v := .d (.fl (.bool true))) rfl (oy rfl rfl rfl rfl (op_un rfl rfl (u_not _) rfl)) ?_
  refine rg_put (d := 63) (v := .d (.fl (.bool true))) rfl (og rfl (op_pick rfl rfl rfl rfl)) ?_
  refine rg_put (d := 64) (v := .d (.fl (.bool true))) rfl (og rfl (op_move rfl rfl rfl)) ?_
  refine rg_put (d := 65) (v := .d (.sl 2 (List.map eIv [I3]))) rfl (oy rfl rfl rfl rfl (op_move rfl rfl rfl)) ?_
  refine rg_put (d := 66) (v := .d (.fl (.int .i64 ([I3].length : Int)))) rfl (oy rfl rfl rfl rfl (s_len rfl Try.underlying34 rfl rfl)) ?_
  rw [show ([I3].length : Int) = (1 : Int) from by first | rfl | kernel_rfl]
  refine rg_put (d := 67) (v := .d (.fl (.bool true))) rfl (oy rfl rfl rfl rfl (op_bin rfl rfl rfl (b_eql _ _ _ _) rfl)) ?_
  refine rg_put (d := 68) (v := .d (.fl (.bool true))) rfl (og rfl (op_pick rfl rfl rfl rfl)) ?_
  refine rg_put (d := 69) (v := .d (.fl (.bool true))) rfl (og rfl (op_move rfl rfl rfl)) ?_
  refine rg_put (d := 70) (v := .d (.sl 2 (List.map eIv [I3]))) rfl (oy rfl rfl rfl rfl (op_move rfl rfl rfl)) ?_
  refine rg_put (d := 71) (v := .el ((eIv (ix [I3] 0)))) rfl (oy rfl rfl rfl rfl (s_index rfl Try.underlying34 ti48 rfl rfl (by first | decide | (simp [ix]; done) | omega) (row_at (by first | decide | (simp [ix]; done) | omega)) rfl)) ?_
  refine rg_put (d := 72) (v := .d (.ag (eIv (ix [I3] 0)))) rfl (oy rfl rfl rfl rfl (of_eff (s_load_els rfl Try.underlying48 rfl ti48 rfl rfl rfl) rfl)) ?_
  refine rg_put (d := 73) (v := .d (.ag (eIv I3))) rfl (oy rfl rfl rfl rfl (of_eff (op_build rfl Try.underlying48 ti48 rfl (by kernel_rfl) (by kernel_rfl) (pl := #[(0, 1), (1, 1)]) (by kernel_rfl) (.cons rfl rfl (.d _) rfl rfl rfl (.cons rfl rfl (.d _) rfl rfl rfl .nil)) rfl) rfl)) ?_
  refine rg_put (d := 74) (v := .d (.fl (.bool true))) rfl (oy rfl rfl rfl rfl (op_eqS [.int .i64 ((ix [I3] 0).fr), .int .i64 ((ix [I3] 0).to)] [.int .i64 I3.fr, .int .i64 I3.to] rfl rfl rfl (b := true) (fun ww => eql48 I3 _ _ ww) rfl)) ?_
  refine rg_put (d := 75) (v := .d (.fl (.bool true))) rfl (og rfl (op_pick rfl rfl rfl rfl)) ?_
  refine rg_put (d := 76) (v := .d (.fl (.bool true))) rfl (og rfl (op_move rfl rfl rfl)) ?_
  refine rg_put (d := 77) (v := .d (.sl 2 (List.map eIv [I0]))) rfl (oy rfl rfl rfl rfl (op_move rfl rfl rfl)) ?_
  refine rg_put (d := 78) (v := .d (.fl (.int .i64 ([I0].length : Int)))) rfl (oy rfl rfl rfl rfl (s_len rfl Try.underlying34 rfl rfl)) ?_
  rw [show ([I0].length : Int) = (1 : Int) from by first | rfl | kernel_rfl]
  refine rg_put (d := 79) (v := .d (.fl (.bool true))) rfl (oy rfl rfl rfl rfl (op_bin rfl rfl rfl (b_eql _ _ _ _) rfl)) ?_
  refine rg_put (d := 80) (v := .d (.fl (.bool true))) rfl (og rfl (op_pick rfl rfl rfl rfl)) ?_
  refine rg_put (d := 81) (v := .d (.fl (.bool true))) rfl (og rfl (op_move rfl rfl rfl)) ?_
  refine rg_put (d := 82) (v := .d (.sl 2 (List.map eIv [I0]))) rfl (oy rfl rfl rfl rfl (op_move rfl rfl rfl)) ?_
  refine rg_put (d := 83) (v := .el ((eIv (ix [I0] 0)))) rfl (oy rfl rfl rfl rfl (s_index rfl Try.underlying34 ti48 rfl rfl (by first | decide | (simp [ix]; done) | omega) (row_at (by first | decide | (simp [ix]; done) | omega)) rfl)) ?_
  refine rg_put (d := 84) (v := .d (.ag (eIv (ix [I0] 0)))) rfl (oy rfl rfl rfl rfl (of_eff (s_load_els rfl Try.underlying48 rfl ti48 rfl rfl rfl) rfl)) ?_
  refine rg_put (d := 85) (v := .d (.ag (eIv I0))) rfl (oy rfl rfl rfl rfl (of_eff (op_build rfl Try.underlying48 ti48 rfl (by kernel_rfl) (by kernel_rfl) (pl := #[(0, 1), (1, 1)]) (by kernel_rfl) (.cons rfl rfl (.d _) rfl rfl rfl .nil) rfl) rfl)) ?_
  refine rg_put (d := 86) (v := .d (.fl (.bool true))) rfl (oy rfl rfl rfl rfl (op_eqS [.int .i64 ((ix [I0] 0).fr), .int .i64 ((ix [I0] 0).to)] [.int .i64 I0.fr, .int .i64 I0.to] rfl rfl rfl (b := true) (fun ww => eql48 I0 _ _ ww) rfl)) ?_
  refine rg_put (d := 87) (v := .d (.fl (.bool true))) rfl (og rfl (op_pick rfl rfl rfl rfl)) ?_
  refine rg_put (d := 88) (v := .d (.fl (.bool true))) rfl (og rfl (op_move rfl rfl rfl)) ?_
  refine rg_put (d := 89) (v := .d (.sl 6 (List.map eDc [D1, E1]))) rfl (oy rfl rfl rfl rfl (op_move rfl rfl rfl)) ?_
  refine rg_put (d := 90) (v := .d (.fl (.int .i64 ([D1, E1].length : Int)))) rfl (oy rfl rfl rfl rfl (s_len rfl Try.underlying22 rfl rfl)) ?_
  rw [show ([D1, E1].length : Int) = (2 : Int) from by first | rfl | kernel_rfl]
  refine rg_put (d := 91) (v := .d (.fl (.bool true))) rfl (oy rfl rfl rfl rfl (op_bin rfl rfl rfl (b_eql _ _ _ _) rfl)) ?_
  refine rg_put (d := 92) (v := .d (.fl (.bool true))) rfl (og rfl (op_pick rfl rfl rfl rfl)) ?_
  refine rg_put (d := 93) (v := .d (.fl (.bool true))) rfl (og rfl (op_move rfl rfl rfl)) ?_
  refine rg_put (d := 94) (v := .d (.sl 6 (List.map eDc [D1, E1]))) rfl (oy rfl rfl rfl rfl (op_move rfl rfl rfl)) ?_
  refine rg_put (d := 95) (v := .el ((eDc (ix [D1, E1] 0)))) rfl (oy rfl rfl rfl rfl (s_index rfl Try.underlying22 ti36 rfl rfl (by first | decide | (simp [ix]; done) | omega) (row_at (by first | decide | (simp [ix]; done) | omega)) rfl)) ?_
  refine rg_put (d := 96) (v := .el ((List.drop 0 ((eDc (ix [D1, E1] 0)))))) rfl (oy rfl rfl rfl rfl (of_eff (s_field_el rfl Try.underlying36 rfl ti9 rfl rfl rfl) rfl)) ?_
  refine rg_put (d := 97) (v := .d (.fl (.string ((ix [D1, E1] 0).name)))) rfl (oy rfl rfl rfl rfl (op_load_el rfl Try.underlying9 rfl rfl rfl rfl)) ?_
  refine rg_put (d := 98) (v := .d (.fl (.bool true))) rfl (oy rfl rfl rfl rfl (op_bin rfl rfl rfl (b_seq _ _ _) rfl)) ?_
  refine rg_put (d := 99) (v := .d (.fl (.bool true))) rfl (og rfl (op_pick rfl rfl rfl rfl)) ?_
  refine rg_put (d := 100) (v := .d (.fl (.bool true))) rfl (og rfl (op_move rfl rfl rfl)) ?_
  refine rg_put (d := 101) (v := .d (.ag (eDc D1))) rfl (oy rfl rfl rfl rfl (of_eff (s_load_pts rfl Try.underlying36 rfl ti36 rfl rfl rfl rfl) rfl)) ?_
  refine rg_put (d := 102) (v := .d (.fl (.bool true))) rfl (oy rfl rfl rfl rfl (op_call rfl Try.func12 nm12 rfl (.cons rfl (.d _) (.cons rfl (.d _) .nil)) uw1 rfl)) ?_
  refine rg_put (d := 103) (v := .d (.fl (.bool true))) rfl (og rfl (op_pick rfl rfl rfl rfl)) ?_
  refine rg_put (d := 104) (v := .d (.fl (.bool true))) rfl (og rfl (op_move rfl rfl rfl)) ?_
  refine rg_put (d := 105) (v := .d (.ag (eDc D1))) rfl (oy rfl rfl rfl rfl (of_eff (s_load_pts rfl Try.underlying36 rfl ti36 rfl rfl rfl rfl) rfl)) ?_
  refine rg_put (d := 106) (v := .d (.fl (.bool false))) rfl (oy rfl rfl rfl rfl (op_call rfl Try.func12 nm12 rfl (.cons rfl (.d _) (.cons rfl (.d _) .nil)) uw2 rfl)) ?_
  refine rg_put (d := 107) (v := .d (.fl (.bool true))) rfl (oy rfl rfl rfl rfl (op_un rfl rfl (u_not _) rfl)) ?_
  refine rg_put (d := 108) (v := .d (.fl (.bool true))) rfl (og rfl (op_pick rfl rfl rfl rfl)) ?_
  refine rg_put (d := 109) (v := .d (.fl (.bool true))) rfl (og rfl (op_move rfl rfl rfl)) ?_
  refine rg_put (d := 110) (v := .d (.sl 6 (List.map eDc [E1, D1]))) rfl (oy rfl rfl rfl rfl (op_move rfl rfl rfl)) ?_
  refine rg_put (d := 111) (v := .d (.ag (ePn P1))) rfl (oy rfl rfl rfl rfl (of_eff (op_build rfl Try.underlying52 ti52 rfl (by kernel_rfl) (by kernel_rfl) (pl := #[(0, 1), (1, 1), (2, 1)]) (by kernel_rfl) (.cons rfl rfl (.d _) rfl rfl rfl .nil) rfl) rfl)) ?_
  refine rg_put (d := 112) (v := .d (.sl 3 (List.map ePn [P1]))) rfl (oy rfl rfl rfl rfl (of_eff (op_slices rfl Try.underlying23 ti52 rfl rfl rfl (by kernel_rfl) (xs := [.ag (ePn P1)]) rfl rfl (.cons rfl rfl (.d _) rfl rfl rfl .nil) rfl) rfl)) ?_
  refine rg_put (d := 113) (v := .d (.ag [.sl 3 (List.map ePn [P1]), .fl (.slice none 0 0)])) rfl (oy rfl rfl rfl rfl (of_eff (op_build rfl Try.underlying26 ti26 rfl (by kernel_rfl) (by kernel_rfl) (pl := #[(0, 1), (1, 1)]) (by kernel_rfl) (.cons rfl rfl (.d _) rfl rfl rfl .nil) rfl) rfl)) ?_
  refine rg_put (d := 114) (v := .d (.fl (.int .i64 (0 : Int)))) rfl (oy rfl rfl rfl rfl (op_call rfl Try.func8 nm8 rfl (.cons rfl (.d _) (.cons rfl (.cv (Cv.ag (xs := [.sl 3 (List.map ePn [P1]), .fl (.slice none 0 0)]) (ys := [.sl 3 (List.map ePn [P1]), .sl 4 (List.map eLk [])]) ⟨Cv.refl _, Cv.nil _, trivial⟩)) .nil)) chk8 rfl)) ?_
  rw [show (0 : Int) = (0 : Int) from by first | rfl | kernel_rfl]
  refine rg_put (d := 115) (v := .d (.fl (.bool true))) rfl (oy rfl rfl rfl rfl (op_bin rfl rfl rfl (b_eql _ _ _ _) rfl)) ?_
  refine rg_put (d := 116) (v := .d (.fl (.bool true))) rfl (og rfl (op_pick rfl rfl rfl rfl)) ?_
  refine rg_put (d := 0) (v := .d (.fl (.bool true))) rfl (og rfl (op_assign rfl rfl rfl)) ?_
  refine rg_done rfl ?_
  refine a_ret ?_
  show ∃ ds, ResL _ _ _ ds ∧ RV.of ds = _
  refine ⟨[.fl (.bool true)], (.cons (.tmp rfl (.d _)) .nil), ?_⟩
  rfl
end Go.Proofs.Ytajhpdmbmipboaa.Wk
