/- Intervals met. No condition. -/
import Derived.Test.YtajhpdmbmipboaaB3
set_option linter.unusedSimpArgs false
set_option linter.unusedVariables false
namespace Go.Proofs.Ytajhpdmbmipboaa.Wk
open Go Go.RowKit Go.Proofs.Ytajhpdmbmipboaa.Av
theorem eqI48 (a : Iv) (w : World) : (Op.equalIn 10000 48 (.agg (([.int .i64 a.fr, .int .i64 a.to] : List Value).toArray)) (.agg (([.int .i64 a.fr, .int .i64 a.to] : List Value).toArray))).run Try.prog w = .ok true w := by
  have hS : Try.prog.underlying 48 = some (.struct (Try.prog.fieldsOf 48)) := by kernel_rfl
  have hp : Try.prog.stoodInHeld 48 = false := by kernel_rfl
  rw [show (10000 : Nat) = 9999 + 1 from rfl, run_equalIn_agg w 9999 48 _ _ hS hp]
  simp only [Program.fieldsOf, Try.underlying48]
  go_simp
theorem eql48 (a : Iv) (x y : Operand) (w : World) : (do eqGuard .eql 48 x y (.agg (([.int .i64 a.fr, .int .i64 a.to] : List Value).toArray)) (.agg (([.int .i64 a.fr, .int .i64 a.to] : List Value).toArray)); binOp .eql 48 (.agg (([.int .i64 a.fr, .int .i64 a.to] : List Value).toArray)) (.agg (([.int .i64 a.fr, .int .i64 a.to] : List Value).toArray)) : Sem Value).run Try.prog w = .ok (.bool true) w := by
  have hm : Try.prog.eqGuardType Try.prog.depth 48 = false := by kernel_rfl
  rw [Sem.run_bind, run_eqGuard_agg w .eql 48 x y _ _ hm, Result.andThen_ok, run_eql_struct, eqI48]
  rfl
set_option maxHeartbeats 4000000 in
set_option maxRecDepth 100000 in
theorem meetA  : Ctr Try.prog 30 [.sl 2 (List.map eIv [I0]), .sl 2 (List.map eIv [I1])] (.d (.sl 2 (List.map eIv [I1]))) := by
  refine ctr (n := 61) (rs := #[.tmp 4]) (L := [(0, .d (.sl 2 (List.map eIv [I0]))), (1, .d (.sl 2 (List.map eIv [I1])))]) Try.func30 rfl rfl rfl rfl rfl (fun w0 U0 => ?_)
  refine a_rseq ?_
  refine rg_put (d := 4) (v := .d (.fl (.slice none 0 0))) rfl (og rfl (op_assign rfl rfl rfl)) ?_
  refine rg_done rfl ?_
  refine a_rseq ?_
  refine rg_put (d := 7) (v := .d (.sl 2 (List.map eIv [I0]))) rfl (og rfl (op_move rfl rfl rfl)) ?_
  refine rg_put (d := 8) (v := .d (.sl 2 (List.map eIv [I0]))) rfl (og rfl (op_call rfl Try.func38 nm38 rfl (.cons rfl (.d _) .nil) (norm38 I0 (by decide)) rfl)) ?_
  refine rg_put (d := 9) (v := .d (.sl 2 (List.map eIv [I1]))) rfl (og rfl (op_move rfl rfl rfl)) ?_
  refine rg_put (d := 10) (v := .d (.sl 2 (List.map eIv [I1]))) rfl (og rfl (op_call rfl Try.func38 nm38 rfl (.cons rfl (.d _) .nil) (norm38 I1 (by decide)) rfl)) ?_
  refine rg_put (d := 0) (v := .d (.sl 2 (List.map eIv [I0]))) rfl (og rfl (op_assign rfl rfl rfl)) ?_
  refine rg_put (d := 1) (v := .d (.sl 2 (List.map eIv [I1]))) rfl (og rfl (op_assign rfl rfl rfl)) ?_
  refine rg_done rfl ?_
  refine a_rseq ?_
  refine rg_put (d := 5) (v := .d (.fl (.slice none 0 0))) rfl (og rfl (op_assign rfl rfl rfl)) ?_
  refine rg_done rfl ?_
  refine a_seq ?_
  refine a_block ?_
  refine a_rounds (n := 1000000) ?_
  refine ard_succ ?_
  refine a_imp (τ := SS [(0, .d (.sl 2 (List.map eIv [I0]))), (1, .d (.sl 2 (List.map eIv [I1]))), (4, .d (.fl (.slice none 0 0))), (5, .d (.fl (.slice none 0 0)))] []) (imp_forget rfl ⟨rfl, rfl, rfl, rfl, trivial⟩ trivial) ?_
  refine a_seq ?_
  refine a_rseq ?_
  refine rg_imp (imp_nilT 5 101 48 2 rfl rfl) ?_
  refine rg_put (d := 11) (v := .d (.sl 2 (List.map eIv [I0]))) rfl (og rfl (op_move rfl rfl rfl)) ?_
  refine rg_put (d := 12) (v := .d (.fl (.int .i64 ([I0].length : Int)))) rfl (og rfl (s_len rfl Try.underlying34 rfl rfl)) ?_
  rw [show ([I0].length : Int) = (1 : Int) from by first | rfl | kernel_rfl]
  refine rg_put (d := 13) (v := .d (.fl (.bool true))) rfl (og rfl (op_bin rfl rfl rfl (b_gtr _ _ _ _) rfl)) ?_
  refine rg_put (d := 14) (v := .d (.fl (.bool true))) rfl (og rfl (op_move rfl rfl rfl)) ?_
  refine rg_put (d := 15) (v := .d (.sl 2 (List.map eIv [I1]))) rfl (oy rfl rfl rfl rfl (op_move rfl rfl rfl)) ?_
  refine rg_put (d := 16) (v := .d (.fl (.int .i64 ([I1].length : Int)))) rfl (oy rfl rfl rfl rfl (s_len rfl Try.underlying34 rfl rfl)) ?_
  rw [show ([I1].length : Int) = (1 : Int) from by first | rfl | kernel_rfl]
  refine rg_put (d := 17) (v := .d (.fl (.bool true))) rfl (oy rfl rfl rfl rfl (op_bin rfl rfl rfl (b_gtr _ _ _ _) rfl)) ?_
  refine rg_put (d := 18) (v := .d (.fl (.bool true))) rfl (og rfl (op_pick rfl rfl rfl rfl)) ?_
  refine rg_done rfl ?_
  refine a_condK rfl rfl ?_
  refine a_skip ?_
  show A _ _ _ _ _ _ _
  refine a_block ?_
  refine a_dseq (by kernel_rfl) ?_
  refine dr_put (d := 19) (v := .d (.sl 2 (List.map eIv [I0]))) rfl (og rfl (op_move rfl rfl rfl)) ?_
  refine dr_put (d := 20) (v := .el ((eIv (ix [I0] 0)))) rfl (og rfl (s_index rfl Try.underlying34 ti48 rfl rfl (by first | decide | (simp [ix]; done) | omega) (row_at (by first | decide | (simp [ix]; done) | omega)) rfl)) ?_
  refine dr_put (d := 21) (v := .el ((List.drop 0 ((eIv (ix [I0] 0)))))) rfl (og rfl (of_eff (s_field_el rfl Try.underlying48 rfl ti3 rfl rfl rfl) rfl)) ?_
  refine dr_put (d := 22) (v := .d (.fl (.int .i64 ((ix [I0] 0).fr)))) rfl (og rfl (op_load_el rfl Try.underlying3 rfl rfl rfl rfl)) ?_
  rw [show (ix [I0] 0).fr = (0 : Int) from by first | rfl | kernel_rfl]
  refine dr_put (d := 23) (v := .d (.sl 2 (List.map eIv [I1]))) rfl (og rfl (op_move rfl rfl rfl)) ?_
  refine dr_put (d := 24) (v := .el ((eIv (ix [I1] 0)))) rfl (og rfl (s_index rfl Try.underlying34 ti48 rfl rfl (by first | decide | (simp [ix]; done) | omega) (row_at (by first | decide | (simp [ix]; done) | omega)) rfl)) ?_
  refine dr_put (d := 25) (v := .el ((List.drop 0 ((eIv (ix [I1] 0)))))) rfl (og rfl (of_eff (s_field_el rfl Try.underlying48 rfl ti3 rfl rfl rfl) rfl)) ?_
  refine dr_put (d := 26) (v := .d (.fl (.int .i64 ((ix [I1] 0).fr)))) rfl (og rfl (op_load_el rfl Try.underlying3 rfl rfl rfl rfl)) ?_
  rw [show (ix [I1] 0).fr = (10 : Int) from by first | rfl | kernel_rfl]
  refine dr_put (d := 27) (v := .d (.fl (.int .i64 ((max (0 : Int) (10 : Int)))))) rfl (og rfl (op_max rfl rfl rfl rfl)) ?_
  rw [show (max (0 : Int) (10 : Int)) = (10 : Int) from by first | rfl | kernel_rfl]
  refine dr_put (d := 28) (v := .d (.sl 2 (List.map eIv [I0]))) rfl (og rfl (op_move rfl rfl rfl)) ?_
  refine dr_put (d := 29) (v := .el ((eIv (ix [I0] 0)))) rfl (og rfl (s_index rfl Try.underlying34 ti48 rfl rfl (by first | decide | (simp [ix]; done) | omega) (row_at (by first | decide | (simp [ix]; done) | omega)) rfl)) ?_
  refine dr_put (d := 30) (v := .el ((List.drop 1 ((eIv (ix [I0] 0)))))) rfl (og rfl (of_eff (s_field_el rfl Try.underlying48 rfl ti3 rfl rfl rfl) rfl)) ?_
  refine dr_put (d := 31) (v := .d (.fl (.int .i64 ((ix [I0] 0).to)))) rfl (og rfl (op_load_el rfl Try.underlying3 rfl rfl rfl rfl)) ?_
  rw [show (ix [I0] 0).to = (68719476736 : Int) from by first | rfl | kernel_rfl]
  refine dr_put (d := 32) (v := .d (.sl 2 (List.map eIv [I1]))) rfl (og rfl (op_move rfl rfl rfl)) ?_
  refine dr_put (d := 33) (v := .el ((eIv (ix [I1] 0)))) rfl (og rfl (s_index rfl Try.underlying34 ti48 rfl rfl (by first | decide | (simp [ix]; done) | omega) (row_at (by first | decide | (simp [ix]; done) | omega)) rfl)) ?_
  refine dr_put (d := 34) (v := .el ((List.drop 1 ((eIv (ix [I1] 0)))))) rfl (og rfl (of_eff (s_field_el rfl Try.underlying48 rfl ti3 rfl rfl rfl) rfl)) ?_
  refine dr_put (d := 35) (v := .d (.fl (.int .i64 ((ix [I1] 0).to)))) rfl (og rfl (op_load_el rfl Try.underlying3 rfl rfl rfl rfl)) ?_
  rw [show (ix [I1] 0).to = (30 : Int) from by first | rfl | kernel_rfl]
  refine dr_put (d := 36) (v := .d (.fl (.int .i64 ((min (68719476736 : Int) (30 : Int)))))) rfl (og rfl (op_min rfl rfl rfl rfl)) ?_
  rw [show (min (68719476736 : Int) (30 : Int)) = (30 : Int) from by first | rfl | kernel_rfl]
  refine dr_put (d := 37) (v := .d (.ag (eIv I1))) rfl (og rfl (of_eff (op_build rfl Try.underlying48 ti48 rfl (by kernel_rfl) (by kernel_rfl) (pl := #[(0, 1), (1, 1)]) (by kernel_rfl) (.cons rfl rfl (.d _) rfl rfl rfl (.cons rfl rfl (.d _) rfl rfl rfl .nil)) rfl) rfl)) ?_
  refine dr_nam (d := 6) (v := .pt 102 0) (m := 102) (nw := [(102, .bx 48 [.fl (.int .i64 0), .fl (.int .i64 0)])]) rfl (og rfl (of_eff (s_alloc 102 rfl ti48 (by kernel_rfl) rfl) rfl)) ?_
  refine dr_sto (nw := [(102, .bx 48 (eIv I1))]) rfl (og rfl (of_eff (s_store rfl rfl ti48 rfl rfl rfl rfl rfl rfl) rfl)) ?_
  refine dr_done rfl (sepB_of [0, 1, 3, 7, 0, 16, 48, 112, 255, 0, 512, 1536, 3584, 0, 8192, 24576, 57344, 130560, 262143, 0, 1048575] (by kernel_rfl)) (by kernel_rfl) ?_
  refine a_seq ?_
  refine a_rseq ?_
  refine rg_put (d := 38) (v := .pt 102 0) rfl (og rfl (of_eff (s_field_pt rfl Try.underlying48 rfl ti3 rfl rfl rfl) rfl)) ?_
  refine rg_put (d := 39) (v := .d (.fl (.int .i64 I1.fr))) rfl (og rfl (op_load_pt rfl Try.underlying3 rfl rfl rfl rfl rfl)) ?_
  rw [show I1.fr = (10 : Int) from by first | rfl | kernel_rfl]
  refine rg_put (d := 40) (v := .pt 102 1) rfl (og rfl (of_eff (s_field_pt rfl Try.underlying48 rfl ti3 rfl rfl rfl) rfl)) ?_
  refine rg_put (d := 41) (v := .d (.fl (.int .i64 I1.to))) rfl (og rfl (op_load_pt rfl Try.underlying3 rfl rfl rfl rfl rfl)) ?_
  rw [show I1.to = (30 : Int) from by first | rfl | kernel_rfl]
  refine rg_put (d := 42) (v := .d (.fl (.bool true))) rfl (og rfl (op_bin rfl rfl rfl (b_lss _ _ _ _) rfl)) ?_
  refine rg_done rfl ?_
  refine a_condK rfl rfl ?_
  refine a_region ?_
  refine rg_put (d := 43) (v := .ow 101) rfl (og rfl (op_move rfl rfl rfl)) ?_
  refine rg_put (d := 44) (v := .d (.ag (eIv I1))) rfl (og rfl (of_eff (s_load_pts rfl Try.underlying48 rfl ti48 rfl rfl rfl rfl) rfl)) ?_
  refine rg_put (d := 45) (v := .d (.sl 2 (List.map eIv [I1]))) rfl (og rfl (of_eff (op_slices rfl Try.underlying34 ti48 rfl rfl rfl (by kernel_rfl) (xs := [.ag (eIv I1)]) rfl rfl (.cons rfl rfl (.d _) rfl rfl rfl .nil) rfl) rfl)) ?_
  refine rg_nam (d := 46) (v := .ow 103) (m := 103) (nw := [(103, .tr 48 2 (tD eIv ([] ++ [I1]))), (101, .no)]) rfl (og rfl (of_eff (s_append_td 103 rfl Try.underlying34 ti48 rfl rfl rfl rfl rfl (.d _) (by simp) rfl) rfl)) rfl ?_
  refine rg_put (d := 5) (v := .ow 103) rfl (og rfl (op_assign rfl rfl rfl)) ?_
  refine rg_done rfl ?_
  show A _ _ _ _ _ _ _
  refine a_dseq (by kernel_rfl) ?_
  refine dr_put (d := 47) (v := .d (.sl 2 (List.map eIv [I0]))) rfl (og rfl (op_move rfl rfl rfl)) ?_
  refine dr_put (d := 48) (v := .el ((eIv (ix [I0] 0)))) rfl (og rfl (s_index rfl Try.underlying34 ti48 rfl rfl (by first | decide | (simp [ix]; done) | omega) (row_at (by first | decide | (simp [ix]; done) | omega)) rfl)) ?_
  refine dr_put (d := 49) (v := .el ((List.drop 1 ((eIv (ix [I0] 0)))))) rfl (og rfl (of_eff (s_field_el rfl Try.underlying48 rfl ti3 rfl rfl rfl) rfl)) ?_
  refine dr_put (d := 50) (v := .d (.fl (.int .i64 ((ix [I0] 0).to)))) rfl (og rfl (op_load_el rfl Try.underlying3 rfl rfl rfl rfl)) ?_
  rw [show (ix [I0] 0).to = (68719476736 : Int) from by first | rfl | kernel_rfl]
  refine dr_put (d := 51) (v := .d (.sl 2 (List.map eIv [I1]))) rfl (og rfl (op_move rfl rfl rfl)) ?_
  refine dr_put (d := 52) (v := .el ((eIv (ix [I1] 0)))) rfl (og rfl (s_index rfl Try.underlying34 ti48 rfl rfl (by first | decide | (simp [ix]; done) | omega) (row_at (by first | decide | (simp [ix]; done) | omega)) rfl)) ?_
  refine dr_put (d := 53) (v := .el ((List.drop 1 ((eIv (ix [I1] 0)))))) rfl (og rfl (of_eff (s_field_el rfl Try.underlying48 rfl ti3 rfl rfl rfl) rfl)) ?_
  refine dr_put (d := 54) (v := .d (.fl (.int .i64 ((ix [I1] 0).to)))) rfl (og rfl (op_load_el rfl Try.underlying3 rfl rfl rfl rfl)) ?_
  rw [show (ix [I1] 0).to = (30 : Int) from by first | rfl | kernel_rfl]
  refine dr_put (d := 55) (v := .d (.fl (.bool false))) rfl (og rfl (op_bin rfl rfl rfl (b_lss _ _ _ _) rfl)) ?_
  refine dr_done rfl (by kernel_rfl) (by kernel_rfl) ?_
  refine a_condF rfl rfl ?_
  refine a_region ?_
  refine rg_put (d := 58) (v := .d (.sl 2 (List.map eIv [I1]))) rfl (og rfl (op_move rfl rfl rfl)) ?_
  refine rg_put (d := 59) (v := .d (.sl 2 (List.map eIv ([I1].drop 1)))) rfl (og rfl (s_sliceTail rfl Try.underlying34 ti48 rfl (.so (n := 1) _ rfl (by first | decide | (simp [ix]; done) | omega)) (by first | decide | (simp [ix]; done) | omega) rfl)) ?_
  refine rg_put (d := 1) (v := .d (.sl 2 (List.map eIv ([I1].drop 1)))) rfl (og rfl (op_assign rfl rfl rfl)) ?_
  refine rg_done rfl ?_
  show ARd _ _ _ _ _ _ _ _
  refine ard_succ ?_
  refine a_imp (τ := SS [(0, .d (.sl 2 (List.map eIv [I0]))), (1, .d (.sl 2 (List.map eIv ([I1].drop 1)))), (4, .d (.fl (.slice none 0 0))), (5, .ow 103), (6, .pt 102 0), (18, .d (.fl (.bool true))), (42, .d (.fl (.bool true))), (55, .d (.fl (.bool false)))] [(102, .bx 48 (eIv I1)), (103, .tr 48 2 (tD eIv ([] ++ [I1])))]) (imp_forget rfl ⟨rfl, rfl, rfl, rfl, rfl, rfl, rfl, rfl, trivial⟩ ⟨rfl, rfl, trivial⟩) ?_
  refine a_seq ?_
  refine a_rseq ?_
  refine rg_put (d := 11) (v := .d (.sl 2 (List.map eIv [I0]))) rfl (og rfl (op_move rfl rfl rfl)) ?_
  refine rg_put (d := 12) (v := .d (.fl (.int .i64 ([I0].length : Int)))) rfl (og rfl (s_len rfl Try.underlying34 rfl rfl)) ?_
  rw [show ([I0].length : Int) = (1 : Int) from by first | rfl | kernel_rfl]
  refine rg_put (d := 13) (v := .d (.fl (.bool true))) rfl (og rfl (op_bin rfl rfl rfl (b_gtr _ _ _ _) rfl)) ?_
  refine rg_put (d := 14) (v := .d (.fl (.bool true))) rfl (og rfl (op_move rfl rfl rfl)) ?_
  refine rg_put (d := 15) (v := .d (.sl 2 (List.map eIv ([I1].drop 1)))) rfl (oy rfl rfl rfl rfl (op_move rfl rfl rfl)) ?_
  refine rg_put (d := 16) (v := .d (.fl (.int .i64 ((([I1].drop 1).length : Int))))) rfl (oy rfl rfl rfl rfl (s_len rfl Try.underlying34 rfl rfl)) ?_
  rw [show (([I1].drop 1).length : Int) = (0 : Int) from by first | rfl | kernel_rfl]
  refine rg_put (d := 17) (v := .d (.fl (.bool false))) rfl (oy rfl rfl rfl rfl (op_bin rfl rfl rfl (b_gtr _ _ _ _) rfl)) ?_
  refine rg_put (d := 18) (v := .d (.fl (.bool false))) rfl (og rfl (op_pick rfl rfl rfl rfl)) ?_
  refine rg_done rfl ?_
  refine a_condF rfl rfl ?_
  refine a_exit ?_
  show A _ _ _ _ _ _ _
  refine a_rseq ?_
  rw [show ([] ++ [I1]) = [I1] from rfl]
  refine rg_put (d := 60) (v := .ow 103) rfl (og rfl (op_move rfl rfl rfl)) ?_
  refine rg_put (d := 4) (v := .ow 103) rfl (og rfl (op_assign rfl rfl rfl)) ?_
  refine rg_done rfl ?_
  refine a_imp (imp_leakT 4 103 rfl rfl) ?_
  refine a_ret ?_
  show ∃ ds, ResL _ _ _ ds ∧ RV.of ds = _
  refine ⟨[.sl 2 (List.map eIv [I1])], (.cons (.tmp rfl (.d _)) .nil), ?_⟩
  rfl
set_option maxHeartbeats 4000000 in
set_option maxRecDepth 100000 in
theorem meetB  : Ctr Try.prog 30 [.sl 2 (List.map eIv [I1]), .sl 2 (List.map eIv [I2])] (.d (.sl 2 (List.map eIv [I3]))) := by
  refine ctr (n := 61) (rs := #[.tmp 4]) (L := [(0, .d (.sl 2 (List.map eIv [I1]))), (1, .d (.sl 2 (List.map eIv [I2])))]) Try.func30 rfl rfl rfl rfl rfl (fun w0 U0 => ?_)
  refine a_rseq ?_
  refine rg_put (d := 4) (v := .d (.fl (.slice none 0 0))) rfl (og rfl (op_assign rfl rfl rfl)) ?_
  refine rg_done rfl ?_
  refine a_rseq ?_
  refine rg_put (d := 7) (v := .d (.sl 2 (List.map eIv [I1]))) rfl (og rfl (op_move rfl rfl rfl)) ?_
  refine rg_put (d := 8) (v := .d (.sl 2 (List.map eIv [I1]))) rfl (og rfl (op_call rfl Try.func38 nm38 rfl (.cons rfl (.d _) .nil) (norm38 I1 (by decide)) rfl)) ?_
  refine rg_put (d := 9) (v := .d (.sl 2 (List.map eIv [I2]))) rfl (og rfl (op_move rfl rfl rfl)) ?_
  refine rg_put (d := 10) (v := .d (.sl 2 (List.map eIv [I2]))) rfl (og rfl (op_call rfl Try.func38 nm38 rfl (.cons rfl (.d _) .nil) (norm38 I2 (by decide)) rfl)) ?_
  refine rg_put (d := 0) (v := .d (.sl 2 (List.map eIv [I1]))) rfl (og rfl (op_assign rfl rfl rfl)) ?_
  refine rg_put (d := 1) (v := .d (.sl 2 (List.map eIv [I2]))) rfl (og rfl (op_assign rfl rfl rfl)) ?_
  refine rg_done rfl ?_
  refine a_rseq ?_
  refine rg_put (d := 5) (v := .d (.fl (.slice none 0 0))) rfl (og rfl (op_assign rfl rfl rfl)) ?_
  refine rg_done rfl ?_
  refine a_seq ?_
  refine a_block ?_
  refine a_rounds (n := 1000000) ?_
  refine ard_succ ?_
  refine a_imp (τ := SS [(0, .d (.sl 2 (List.map eIv [I1]))), (1, .d (.sl 2 (List.map eIv [I2]))), (4, .d (.fl (.slice none 0 0))), (5, .d (.fl (.slice none 0 0)))] []) (imp_forget rfl ⟨rfl, rfl, rfl, rfl, trivial⟩ trivial) ?_
  refine a_seq ?_
  refine a_rseq ?_
  refine rg_imp (imp_nilT 5 101 48 2 rfl rfl) ?_
  refine rg_put (d := 11) (v := .d (.sl 2 (List.map eIv [I1]))) rfl (og rfl (op_move rfl rfl rfl)) ?_
  refine rg_put (d := 12) (v := .d (.fl (.int .i64 ([I1].length : Int)))) rfl (og rfl (s_len rfl Try.underlying34 rfl rfl)) ?_
  rw [show ([I1].length : Int) = (1 : Int) from by first | rfl | kernel_rfl]
  refine rg_put (d := 13) (v := .d (.fl (.bool true))) rfl (og rfl (op_bin rfl rfl rfl (b_gtr _ _ _ _) rfl)) ?_
  refine rg_put (d := 14) (v := .d (.fl (.bool true))) rfl (og rfl (op_move rfl rfl rfl)) ?_
  refine rg_put (d := 15) (v := .d (.sl 2 (List.map eIv [I2]))) rfl (oy rfl rfl rfl rfl (op_move rfl rfl rfl)) ?_
  refine rg_put (d := 16) (v := .d (.fl (.int .i64 ([I2].length : Int)))) rfl (oy rfl rfl rfl rfl (s_len rfl Try.underlying34 rfl rfl)) ?_
  rw [show ([I2].length : Int) = (1 : Int) from by first | rfl | kernel_rfl]
  refine rg_put (d := 17) (v := .d (.fl (.bool true))) rfl (oy rfl rfl rfl rfl (op_bin rfl rfl rfl (b_gtr _ _ _ _) rfl)) ?_
  refine rg_put (d := 18) (v := .d (.fl (.bool true))) rfl (og rfl (op_pick rfl rfl rfl rfl)) ?_
  refine rg_done rfl ?_
  refine a_condK rfl rfl ?_
  refine a_skip ?_
  show A _ _ _ _ _ _ _
  refine a_block ?_
  refine a_dseq (by kernel_rfl) ?_
  refine dr_put (d := 19) (v := .d (.sl 2 (List.map eIv [I1]))) rfl (og rfl (op_move rfl rfl rfl)) ?_
  refine dr_put (d := 20) (v := .el ((eIv (ix [I1] 0)))) rfl (og rfl (s_index rfl Try.underlying34 ti48 rfl rfl (by first | decide | (simp [ix]; done) | omega) (row_at (by first | decide | (simp [ix]; done) | omega)) rfl)) ?_
  refine dr_put (d := 21) (v := .el ((List.drop 0 ((eIv (ix [I1] 0)))))) rfl (og rfl (of_eff (s_field_el rfl Try.underlying48 rfl ti3 rfl rfl rfl) rfl)) ?_
  refine dr_put (d := 22) (v := .d (.fl (.int .i64 ((ix [I1] 0).fr)))) rfl (og rfl (op_load_el rfl Try.underlying3 rfl rfl rfl rfl)) ?_
  rw [show (ix [I1] 0).fr = (10 : Int) from by first | rfl | kernel_rfl]
  refine dr_put (d := 23) (v := .d (.sl 2 (List.map eIv [I2]))) rfl (og rfl (op_move rfl rfl rfl)) ?_
  refine dr_put (d := 24) (v := .el ((eIv (ix [I2] 0)))) rfl (og rfl (s_index rfl Try.underlying34 ti48 rfl rfl (by first | decide | (simp [ix]; done) | omega) (row_at (by first | decide | (simp [ix]; done) | omega)) rfl)) ?_
  refine dr_put (d := 25) (v := .el ((List.drop 0 ((eIv (ix [I2] 0)))))) rfl (og rfl (of_eff (s_field_el rfl Try.underlying48 rfl ti3 rfl rfl rfl) rfl)) ?_
  refine dr_put (d := 26) (v := .d (.fl (.int .i64 ((ix [I2] 0).fr)))) rfl (og rfl (op_load_el rfl Try.underlying3 rfl rfl rfl rfl)) ?_
  rw [show (ix [I2] 0).fr = (20 : Int) from by first | rfl | kernel_rfl]
  refine dr_put (d := 27) (v := .d (.fl (.int .i64 ((max (10 : Int) (20 : Int)))))) rfl (og rfl (op_max rfl rfl rfl rfl)) ?_
  rw [show (max (10 : Int) (20 : Int)) = (20 : Int) from by first | rfl | kernel_rfl]
  refine dr_put (d := 28) (v := .d (.sl 2 (List.map eIv [I1]))) rfl (og rfl (op_move rfl rfl rfl)) ?_
  refine dr_put (d := 29) (v := .el ((eIv (ix [I1] 0)))) rfl (og rfl (s_index rfl Try.underlying34 ti48 rfl rfl (by first | decide | (simp [ix]; done) | omega) (row_at (by first | decide | (simp [ix]; done) | omega)) rfl)) ?_
  refine dr_put (d := 30) (v := .el ((List.drop 1 ((eIv (ix [I1] 0)))))) rfl (og rfl (of_eff (s_field_el rfl Try.underlying48 rfl ti3 rfl rfl rfl) rfl)) ?_
  refine dr_put (d := 31) (v := .d (.fl (.int .i64 ((ix [I1] 0).to)))) rfl (og rfl (op_load_el rfl Try.underlying3 rfl rfl rfl rfl)) ?_
  rw [show (ix [I1] 0).to = (30 : Int) from by first | rfl | kernel_rfl]
  refine dr_put (d := 32) (v := .d (.sl 2 (List.map eIv [I2]))) rfl (og rfl (op_move rfl rfl rfl)) ?_
  refine dr_put (d := 33) (v := .el ((eIv (ix [I2] 0)))) rfl (og rfl (s_index rfl Try.underlying34 ti48 rfl rfl (by first | decide | (simp [ix]; done) | omega) (row_at (by first | decide | (simp [ix]; done) | omega)) rfl)) ?_
  refine dr_put (d := 34) (v := .el ((List.drop 1 ((eIv (ix [I2] 0)))))) rfl (og rfl (of_eff (s_field_el rfl Try.underlying48 rfl ti3 rfl rfl rfl) rfl)) ?_
  refine dr_put (d := 35) (v := .d (.fl (.int .i64 ((ix [I2] 0).to)))) rfl (og rfl (op_load_el rfl Try.underlying3 rfl rfl rfl rfl)) ?_
  rw [show (ix [I2] 0).to = (40 : Int) from by first | rfl | kernel_rfl]
  refine dr_put (d := 36) (v := .d (.fl (.int .i64 ((min (30 : Int) (40 : Int)))))) rfl (og rfl (op_min rfl rfl rfl rfl)) ?_
  rw [show (min (30 : Int) (40 : Int)) = (30 : Int) from by first | rfl | kernel_rfl]
  refine dr_put (d := 37) (v := .d (.ag (eIv I3))) rfl (og rfl (of_eff (op_build rfl Try.underlying48 ti48 rfl (by kernel_rfl) (by kernel_rfl) (pl := #[(0, 1), (1, 1)]) (by kernel_rfl) (.cons rfl rfl (.d _) rfl rfl rfl (.cons rfl rfl (.d _) rfl rfl rfl .nil)) rfl) rfl)) ?_
  refine dr_nam (d := 6) (v := .pt 102 0) (m := 102) (nw := [(102, .bx 48 [.fl (.int .i64 0), .fl (.int .i64 0)])]) rfl (og rfl (of_eff (s_alloc 102 rfl ti48 (by kernel_rfl) rfl) rfl)) ?_
  refine dr_sto (nw := [(102, .bx 48 (eIv I3))]) rfl (og rfl (of_eff (s_store rfl rfl ti48 rfl rfl rfl rfl rfl rfl) rfl)) ?_
  refine dr_done rfl (sepB_of [0, 1, 3, 7, 0, 16, 48, 112, 255, 0, 512, 1536, 3584, 0, 8192, 24576, 57344, 130560, 262143, 0, 1048575] (by kernel_rfl)) (by kernel_rfl) ?_
  refine a_seq ?_
  refine a_rseq ?_
  refine rg_put (d := 38) (v := .pt 102 0) rfl (og rfl (of_eff (s_field_pt rfl Try.underlying48 rfl ti3 rfl rfl rfl) rfl)) ?_
  refine rg_put (d := 39) (v := .d (.fl (.int .i64 I3.fr))) rfl (og rfl (op_load_pt rfl Try.underlying3 rfl rfl rfl rfl rfl)) ?_
  rw [show I3.fr = (20 : Int) from by first | rfl | kernel_rfl]
  refine rg_put (d := 40) (v := .pt 102 1) rfl (og rfl (of_eff (s_field_pt rfl Try.underlying48 rfl ti3 rfl rfl rfl) rfl)) ?_
  refine rg_put (d := 41) (v := .d (.fl (.int .i64 I3.to))) rfl (og rfl (op_load_pt rfl Try.underlying3 rfl rfl rfl rfl rfl)) ?_
  rw [show I3.to = (30 : Int) from by first | rfl | kernel_rfl]
  refine rg_put (d := 42) (v := .d (.fl (.bool true))) rfl (og rfl (op_bin rfl rfl rfl (b_lss _ _ _ _) rfl)) ?_
  refine rg_done rfl ?_
  refine a_condK rfl rfl ?_
  refine a_region ?_
  refine rg_put (d := 43) (v := .ow 101) rfl (og rfl (op_move rfl rfl rfl)) ?_
  refine rg_put (d := 44) (v := .d (.ag (eIv I3))) rfl (og rfl (of_eff (s_load_pts rfl Try.underlying48 rfl ti48 rfl rfl rfl rfl) rfl)) ?_
  refine rg_put (d := 45) (v := .d (.sl 2 (List.map eIv [I3]))) rfl (og rfl (of_eff (op_slices rfl Try.underlying34 ti48 rfl rfl rfl (by kernel_rfl) (xs := [.ag (eIv I3)]) rfl rfl (.cons rfl rfl (.d _) rfl rfl rfl .nil) rfl) rfl)) ?_
  refine rg_nam (d := 46) (v := .ow 103) (m := 103) (nw := [(103, .tr 48 2 (tD eIv ([] ++ [I3]))), (101, .no)]) rfl (og rfl (of_eff (s_append_td 103 rfl Try.underlying34 ti48 rfl rfl rfl rfl rfl (.d _) (by simp) rfl) rfl)) rfl ?_
  refine rg_put (d := 5) (v := .ow 103) rfl (og rfl (op_assign rfl rfl rfl)) ?_
  refine rg_done rfl ?_
  show A _ _ _ _ _ _ _
  refine a_dseq (by kernel_rfl) ?_
  refine dr_put (d := 47) (v := .d (.sl 2 (List.map eIv [I1]))) rfl (og rfl (op_move rfl rfl rfl)) ?_
  refine dr_put (d := 48) (v := .el ((eIv (ix [I1] 0)))) rfl (og rfl (s_index rfl Try.underlying34 ti48 rfl rfl (by first | decide | (simp [ix]; done) | omega) (row_at (by first | decide | (simp [ix]; done) | omega)) rfl)) ?_
  refine dr_put (d := 49) (v := .el ((List.drop 1 ((eIv (ix [I1] 0)))))) rfl (og rfl (of_eff (s_field_el rfl Try.underlying48 rfl ti3 rfl rfl rfl) rfl)) ?_
  refine dr_put (d := 50) (v := .d (.fl (.int .i64 ((ix [I1] 0).to)))) rfl (og rfl (op_load_el rfl Try.underlying3 rfl rfl rfl rfl)) ?_
  rw [show (ix [I1] 0).to = (30 : Int) from by first | rfl | kernel_rfl]
  refine dr_put (d := 51) (v := .d (.sl 2 (List.map eIv [I2]))) rfl (og rfl (op_move rfl rfl rfl)) ?_
  refine dr_put (d := 52) (v := .el ((eIv (ix [I2] 0)))) rfl (og rfl (s_index rfl Try.underlying34 ti48 rfl rfl (by first | decide | (simp [ix]; done) | omega) (row_at (by first | decide | (simp [ix]; done) | omega)) rfl)) ?_
  refine dr_put (d := 53) (v := .el ((List.drop 1 ((eIv (ix [I2] 0)))))) rfl (og rfl (of_eff (s_field_el rfl Try.underlying48 rfl ti3 rfl rfl rfl) rfl)) ?_
  refine dr_put (d := 54) (v := .d (.fl (.int .i64 ((ix [I2] 0).to)))) rfl (og rfl (op_load_el rfl Try.underlying3 rfl rfl rfl rfl)) ?_
  rw [show (ix [I2] 0).to = (40 : Int) from by first | rfl | kernel_rfl]
  refine dr_put (d := 55) (v := .d (.fl (.bool true))) rfl (og rfl (op_bin rfl rfl rfl (b_lss _ _ _ _) rfl)) ?_
  refine dr_done rfl (by kernel_rfl) (by kernel_rfl) ?_
  refine a_condK rfl rfl ?_
  refine a_region ?_
  refine rg_put (d := 56) (v := .d (.sl 2 (List.map eIv [I1]))) rfl (og rfl (op_move rfl rfl rfl)) ?_
  refine rg_put (d := 57) (v := .d (.sl 2 (List.map eIv ([I1].drop 1)))) rfl (og rfl (s_sliceTail rfl Try.underlying34 ti48 rfl (.so (n := 1) _ rfl (by first | decide | (simp [ix]; done) | omega)) (by first | decide | (simp [ix]; done) | omega) rfl)) ?_
  refine rg_put (d := 0) (v := .d (.sl 2 (List.map eIv ([I1].drop 1)))) rfl (og rfl (op_assign rfl rfl rfl)) ?_
  refine rg_done rfl ?_
  show ARd _ _ _ _ _ _ _ _
  refine ard_succ ?_
  refine a_imp (τ := SS [(0, .d (.sl 2 (List.map eIv ([I1].drop 1)))), (1, .d (.sl 2 (List.map eIv [I2]))), (4, .d (.fl (.slice none 0 0))), (5, .ow 103), (6, .pt 102 0), (18, .d (.fl (.bool true))), (42, .d (.fl (.bool true))), (55, .d (.fl (.bool true)))] [(102, .bx 48 (eIv I3)), (103, .tr 48 2 (tD eIv ([] ++ [I3])))]) (imp_forget rfl ⟨rfl, rfl, rfl, rfl, rfl, rfl, rfl, rfl, trivial⟩ ⟨rfl, rfl, trivial⟩) ?_
  refine a_seq ?_
  refine a_rseq ?_
  refine rg_put (d := 11) (v := .d (.sl 2 (List.map eIv ([I1].drop 1)))) rfl (og rfl (op_move rfl rfl rfl)) ?_
  refine rg_put (d := 12) (v := .d (.fl (.int .i64 ((([I1].drop 1).length : Int))))) rfl (og rfl (s_len rfl Try.underlying34 rfl rfl)) ?_
  rw [show (([I1].drop 1).length : Int) = (0 : Int) from by first | rfl | kernel_rfl]
  refine rg_put (d := 13) (v := .d (.fl (.bool false))) rfl (og rfl (op_bin rfl rfl rfl (b_gtr _ _ _ _) rfl)) ?_
  refine rg_put (d := 14) (v := .d (.fl (.bool false))) rfl (og rfl (op_move rfl rfl rfl)) ?_
  refine rg_put (d := 15) (v := .d (.fl undef)) rfl (on rfl rfl rfl rfl) ?_
  refine rg_put (d := 16) (v := .d (.fl undef)) rfl (on rfl rfl rfl rfl) ?_
  refine rg_put (d := 17) (v := .d (.fl undef)) rfl (on rfl rfl rfl rfl) ?_
  refine rg_put (d := 18) (v := .d (.fl (.bool false))) rfl (og rfl (op_pick rfl rfl rfl rfl)) ?_
  refine rg_done rfl ?_
  refine a_condF rfl rfl ?_
  refine a_exit ?_
  show A _ _ _ _ _ _ _
  refine a_rseq ?_
  rw [show ([] ++ [I3]) = [I3] from rfl]
  refine rg_put (d := 60) (v := .ow 103) rfl (og rfl (op_move rfl rfl rfl)) ?_
  refine rg_put (d := 4) (v := .ow 103) rfl (og rfl (op_assign rfl rfl rfl)) ?_
  refine rg_done rfl ?_
  refine a_imp (imp_leakT 4 103 rfl rfl) ?_
  refine a_ret ?_
  show ∃ ds, ResL _ _ _ ds ∧ RV.of ds = _
  refine ⟨[.sl 2 (List.map eIv [I3])], (.cons (.tmp rfl (.d _)) .nil), ?_⟩
  rfl
end Go.Proofs.Ytajhpdmbmipboaa.Wk
