/- An interval alone in normal form. Condition: it is valid. -/
import Derived.Test.YtajhpdmbmipboaaB2
set_option linter.unusedSimpArgs false
set_option linter.unusedVariables false
namespace Go.Proofs.Ytajhpdmbmipboaa.Wk
open Go Go.RowKit Go.Proofs.Ytajhpdmbmipboaa.Av
theorem vIk34 (i : Iv) (h : vI i = true) : Ctr Try.prog 34 [.ag (eIv i)] (.d (.fl (.bool true))) := by
  have := vI34 i
  rw [h] at this; exact this
set_option maxHeartbeats 4000000 in
set_option maxRecDepth 100000 in
theorem join41 (i : Iv) (h : vI i = true) : Ctr Try.prog 41 [.sl 1 (List.map (rL 2 eIv) ([[i]]))] (.d (.sl 2 (List.map eIv [i]))) := by
  refine ctr (n := 76) (rs := #[.tmp 2]) (L := [(0, .d (.sl 1 (List.map (rL 2 eIv) ([[i]]))))]) Try.func41 rfl rfl rfl rfl rfl (fun w0 U0 => ?_)
  refine a_rseq ?_
  refine rg_put (d := 2) (v := .d (.fl (.slice none 0 0))) rfl (og rfl (op_assign rfl rfl rfl)) ?_
  refine rg_done rfl ?_
  refine a_rseq ?_
  refine rg_put (d := 3) (v := .d (.fl (.slice none 0 0))) rfl (og rfl (op_assign rfl rfl rfl)) ?_
  refine rg_done rfl ?_
  refine a_seq ?_
  refine a_rseq ?_
  refine rg_imp (imp_nilT 3 101 48 2 rfl rfl) ?_
  refine rg_put (d := 11) (v := .d (.sl 1 (List.map (rL 2 eIv) ([[i]])))) rfl (og rfl (op_move rfl rfl rfl)) ?_
  refine rg_put (d := 12) (v := .d (.fl (.int .i64 ((([[i]]).length : Int))))) rfl (og rfl (s_len rfl Try.underlying75 rfl rfl)) ?_
  refine rg_put (d := 13) (v := .d (.fl (.int .i64 (0 : Int)))) rfl (og rfl (op_move rfl rfl rfl)) ?_
  refine rg_done rfl ?_
  refine a_block ?_
  refine a_rounds (n := 1000000) ?_
  refine ard_succ ?_
  refine a_imp (τ := SS [(0, .d (.sl 1 (List.map (rL 2 eIv) ([[i]])))), (2, .d (.fl (.slice none 0 0))), (3, .ow 101), (11, .d (.sl 1 (List.map (rL 2 eIv) ([[i]])))), (12, .d (.fl (.int .i64 ((([[i]]).length : Int))))), (13, .d (.fl (.int .i64 (0 : Int))))] [(101, .tr 48 2 (tD eIv []))]) (imp_forget rfl ⟨rfl, rfl, rfl, rfl, rfl, rfl, trivial⟩ ⟨rfl, trivial⟩) ?_
  refine a_rseq ?_
  refine rg_put (d := 14) (v := .d (.fl (.bool true))) rfl (og rfl (op_bin rfl rfl rfl (b_lss _ _ _ _) rfl)) ?_
  refine rg_done rfl ?_
  refine a_seq ?_
  refine a_condK rfl rfl ?_
  refine a_skip ?_
  show A _ _ _ _ _ _ _
  refine a_seq ?_
  refine a_block ?_
  refine a_rseq ?_
  refine rg_put (d := 15) (v := .el (((rL 2 eIv) ((ix ([[i]]) 0))))) rfl (og rfl (s_index rfl Try.underlying75 ti34 rfl rfl (by first | decide | (simp [ix]; done) | omega) (row_at (by first | decide | (simp [ix]; done) | omega)) rfl)) ?_
  refine rg_put (d := 16) (v := .d (.sl 2 (List.map eIv ((ix ([[i]]) 0))))) rfl (og rfl (op_load_el rfl Try.underlying34 rfl rfl rfl rfl)) ?_
  refine rg_put (d := 5) (v := .d (.sl 2 (List.map eIv ((ix ([[i]]) 0))))) rfl (og rfl (op_assign rfl rfl rfl)) ?_
  refine rg_done rfl ?_
  refine a_rseq ?_
  refine rg_put (d := 17) (v := .d (.sl 2 (List.map eIv ((ix ([[i]]) 0))))) rfl (og rfl (op_move rfl rfl rfl)) ?_
  refine rg_put (d := 18) (v := .d (.fl (.int .i64 ((((ix ([[i]]) 0)).length : Int))))) rfl (og rfl (s_len rfl Try.underlying34 rfl rfl)) ?_
  refine rg_put (d := 19) (v := .d (.fl (.int .i64 (0 : Int)))) rfl (og rfl (op_move rfl rfl rfl)) ?_
  refine rg_done rfl ?_
  refine a_block ?_
  refine a_rounds (n := 1000000) ?_
  refine ard_succ ?_
  refine a_imp (τ := SS [(0, .d (.sl 1 (List.map (rL 2 eIv) ([[i]])))), (2, .d (.fl (.slice none 0 0))), (3, .ow 101), (5, .d (.sl 2 (List.map eIv ((ix ([[i]]) 0))))), (11, .d (.sl 1 (List.map (rL 2 eIv) ([[i]])))), (12, .d (.fl (.int .i64 ((([[i]]).length : Int))))), (13, .d (.fl (.int .i64 (0 : Int)))), (14, .d (.fl (.bool true))), (17, .d (.sl 2 (List.map eIv ((ix ([[i]]) 0))))), (18, .d (.fl (.int .i64 ((((ix ([[i]]) 0)).length : Int))))), (19, .d (.fl (.int .i64 (0 : Int))))] [(101, .tr 48 2 (tD eIv []))]) (imp_forget rfl ⟨rfl, rfl, rfl, rfl, rfl, rfl, rfl, rfl, rfl, rfl, rfl, trivial⟩ ⟨rfl, trivial⟩) ?_
  refine a_rseq ?_
  refine rg_put (d := 20) (v := .d (.fl (.bool true))) rfl (og rfl (op_bin rfl rfl rfl (b_lss _ _ _ _) rfl)) ?_
  refine rg_done rfl ?_
  refine a_seq ?_
  refine a_condK rfl rfl ?_
  refine a_skip ?_
  show A _ _ _ _ _ _ _
  refine a_seq ?_
  refine a_block ?_
  refine a_rseq ?_
  refine rg_put (d := 21) (v := .el ((eIv ((ix ((ix ([[i]]) 0)) 0))))) rfl (og rfl (s_index rfl Try.underlying34 ti48 rfl rfl (by first | decide | (simp [ix]; done) | omega) (row_at (by first | decide | (simp [ix]; done) | omega)) rfl)) ?_
  refine rg_put (d := 22) (v := .d (.ag (eIv (((ix ((ix ([[i]]) 0)) 0)))))) rfl (og rfl (of_eff (s_load_els rfl Try.underlying48 rfl ti48 rfl rfl rfl) rfl)) ?_
  refine rg_nam (d := 7) (v := .pt 102 0) (m := 102) (nw := [(102, .bx 48 [.fl (.int .i64 0), .fl (.int .i64 0)])]) rfl (og rfl (of_eff (s_alloc 102 rfl ti48 (by kernel_rfl) rfl) rfl)) rfl ?_
  refine rg_sto (nw := [(102, .bx 48 ((eIv (((ix ((ix ([[i]]) 0)) 0))))))]) rfl (og rfl (of_eff (s_store rfl rfl ti48 rfl rfl rfl rfl rfl rfl) rfl)) ?_
  refine rg_done rfl ?_
  refine a_rseq ?_
  refine rg_put (d := 23) (v := .d (.ag (eIv ((((ix ((ix ([[i]]) 0)) 0))))))) rfl (og rfl (of_eff (s_load_pts rfl Try.underlying48 rfl ti48 rfl rfl rfl rfl) rfl)) ?_
  refine rg_put (d := 24) (v := .d (.fl (.bool true))) rfl (og rfl (op_call rfl Try.func34 nm34 rfl (.cons rfl (.d _) .nil) (vIk34 i h) rfl)) ?_
  refine rg_done rfl ?_
  refine a_condK rfl rfl ?_
  refine a_region ?_
  refine rg_put (d := 25) (v := .ow 101) rfl (og rfl (op_move rfl rfl rfl)) ?_
  refine rg_put (d := 26) (v := .d (.ag (eIv ((((ix ((ix ([[i]]) 0)) 0))))))) rfl (og rfl (of_eff (s_load_pts rfl Try.underlying48 rfl ti48 rfl rfl rfl rfl) rfl)) ?_
  refine rg_put (d := 27) (v := .d (.sl 2 (List.map eIv ([(((ix ((ix ([[i]]) 0)) 0)))])))) rfl (og rfl (of_eff (op_slices rfl Try.underlying34 ti48 rfl rfl rfl (by kernel_rfl) (xs := [.ag (eIv ((((ix ((ix ([[i]]) 0)) 0)))))]) rfl rfl (.cons rfl rfl (.d _) rfl rfl rfl .nil) rfl) rfl)) ?_
  refine rg_nam (d := 28) (v := .ow 103) (m := 103) (nw := [(103, .tr 48 2 (tD eIv (([] ++ [(((ix ((ix ([[i]]) 0)) 0)))])))), (101, .no)]) rfl (og rfl (of_eff (s_append_td 103 rfl Try.underlying34 ti48 rfl rfl rfl rfl rfl (.d _) (by simp) rfl) rfl)) rfl ?_
  refine rg_put (d := 3) (v := .ow 103) rfl (og rfl (op_assign rfl rfl rfl)) ?_
  refine rg_done rfl ?_
  show A _ _ _ _ _ _ _
  refine a_region ?_
  refine rg_put (d := 29) (v := .d (.fl (.int .i64 (1 : Int)))) rfl (og rfl (op_bin rfl rfl rfl (fun x y w => b_add64 _ _ _ x y w (by first | decide | (simp [ix]; done) | omega)) rfl)) ?_
  refine rg_put (d := 19) (v := .d (.fl (.int .i64 (1 : Int)))) rfl (og rfl (op_move rfl rfl rfl)) ?_
  refine rg_done rfl ?_
  show ARd _ _ _ _ _ _ _ _
  refine ard_succ ?_
  refine a_imp (τ := SS [(0, .d (.sl 1 (List.map (rL 2 eIv) ([[i]])))), (2, .d (.fl (.slice none 0 0))), (3, .ow 103), (5, .d (.sl 2 (List.map eIv ((ix ([[i]]) 0))))), (7, .pt 102 0), (11, .d (.sl 1 (List.map (rL 2 eIv) ([[i]])))), (12, .d (.fl (.int .i64 ((([[i]]).length : Int))))), (13, .d (.fl (.int .i64 (0 : Int)))), (14, .d (.fl (.bool true))), (17, .d (.sl 2 (List.map eIv ((ix ([[i]]) 0))))), (18, .d (.fl (.int .i64 ((((ix ([[i]]) 0)).length : Int))))), (19, .d (.fl (.int .i64 (1 : Int)))), (20, .d (.fl (.bool true))), (24, .d (.fl (.bool true)))] [(102, .bx 48 ((eIv (((ix ((ix ([[i]]) 0)) 0)))))), (103, .tr 48 2 (tD eIv (([] ++ [(((ix ((ix ([[i]]) 0)) 0)))]))))]) (imp_forget rfl ⟨rfl, rfl, rfl, rfl, rfl, rfl, rfl, rfl, rfl, rfl, rfl, rfl, rfl, rfl, trivial⟩ ⟨rfl, rfl, trivial⟩) ?_
  refine a_rseq ?_
  refine rg_put (d := 20) (v := .d (.fl (.bool false))) rfl (og rfl (op_bin rfl rfl rfl (b_lss _ _ _ _) rfl)) ?_
  refine rg_done rfl ?_
  refine a_seq ?_
  refine a_condF rfl rfl ?_
  refine a_exit ?_
  show A _ _ _ _ _ _ _
  refine a_region ?_
  refine rg_put (d := 30) (v := .d (.fl (.int .i64 (1 : Int)))) rfl (og rfl (op_bin rfl rfl rfl (fun x y w => b_add64 _ _ _ x y w (by first | decide | (simp [ix]; done) | omega)) rfl)) ?_
  refine rg_put (d := 13) (v := .d (.fl (.int .i64 (1 : Int)))) rfl (og rfl (op_move rfl rfl rfl)) ?_
  refine rg_done rfl ?_
  show ARd _ _ _ _ _ _ _ _
  refine ard_succ ?_
  refine a_imp (τ := SS [(0, .d (.sl 1 (List.map (rL 2 eIv) ([[i]])))), (2, .d (.fl (.slice none 0 0))), (3, .ow 103), (5, .d (.sl 2 (List.map eIv ((ix ([[i]]) 0))))), (7, .pt 102 0), (11, .d (.sl 1 (List.map (rL 2 eIv) ([[i]])))), (12, .d (.fl (.int .i64 ((([[i]]).length : Int))))), (13, .d (.fl (.int .i64 (1 : Int)))), (14, .d (.fl (.bool true))), (17, .d (.sl 2 (List.map eIv ((ix ([[i]]) 0))))), (18, .d (.fl (.int .i64 ((((ix ([[i]]) 0)).length : Int))))), (19, .d (.fl (.int .i64 (1 : Int)))), (20, .d (.fl (.bool false))), (24, .d (.fl (.bool true)))] [(102, .bx 48 ((eIv (((ix ((ix ([[i]]) 0)) 0)))))), (103, .tr 48 2 (tD eIv (([] ++ [(((ix ((ix ([[i]]) 0)) 0)))]))))]) (imp_forget rfl ⟨rfl, rfl, rfl, rfl, rfl, rfl, rfl, rfl, rfl, rfl, rfl, rfl, rfl, rfl, trivial⟩ ⟨rfl, rfl, trivial⟩) ?_
  refine a_rseq ?_
  refine rg_put (d := 14) (v := .d (.fl (.bool false))) rfl (og rfl (op_bin rfl rfl rfl (b_lss _ _ _ _) rfl)) ?_
  refine rg_done rfl ?_
  refine a_seq ?_
  refine a_condF rfl rfl ?_
  refine a_exit ?_
  show A _ _ _ _ _ _ _
  refine a_rseq ?_
  rw [show ([] ++ [(((ix ((ix ([[i]]) 0)) 0)))]) = [i] from rfl]
  refine rg_put (d := 31) (v := .ow 103) rfl (og rfl (op_move rfl rfl rfl)) ?_
  refine rg_upd (d := 32) (v := .tu []) (nw := [(103, .tr 48 2 (tD eIv [i]))]) rfl (og rfl (of_eff (op_callM .r (m := 103) (ob := .tr 48 2 (tD eIv [i])) (ob' := .tr 48 2 (tD eIv [i])) (r := .tu []) rfl Try.func44 nm44 rfl rfl rfl rfl rfl rfl (.cons rfl (.d _) .nil) (sort44 i) rfl) rfl)) ?_
  refine rg_done rfl ?_
  refine a_rseq ?_
  refine rg_put (d := 8) (v := .d (.fl (.int .i64 (0 : Int)))) rfl (og rfl (op_assign rfl rfl rfl)) ?_
  refine rg_done rfl ?_
  refine a_seq ?_
  refine a_rseq ?_
  refine rg_put (d := 33) (v := .ow 103) rfl (og rfl (op_move rfl rfl rfl)) ?_
  refine rg_put (d := 34) (v := .d (.fl (.int .i64 (1 : Int)))) rfl (og rfl (op_len_tr rfl Try.underlying34 rfl rfl tD_len rfl)) ?_
  refine rg_put (d := 35) (v := .d (.fl (.int .i64 (0 : Int)))) rfl (og rfl (op_move rfl rfl rfl)) ?_
  refine rg_done rfl ?_
  refine a_block ?_
  refine a_rounds (n := 1000000) ?_
  refine ard_succ ?_
  refine a_imp (τ := SS [(0, .d (.sl 1 (List.map (rL 2 eIv) ([[i]])))), (2, .d (.fl (.slice none 0 0))), (3, .ow 103), (5, .d (.sl 2 (List.map eIv ((ix ([[i]]) 0))))), (7, .pt 102 0), (8, .d (.fl (.int .i64 (0 : Int)))), (11, .d (.sl 1 (List.map (rL 2 eIv) ([[i]])))), (12, .d (.fl (.int .i64 ((([[i]]).length : Int))))), (13, .d (.fl (.int .i64 (1 : Int)))), (14, .d (.fl (.bool false))), (17, .d (.sl 2 (List.map eIv ((ix ([[i]]) 0))))), (18, .d (.fl (.int .i64 ((((ix ([[i]]) 0)).length : Int))))), (19, .d (.fl (.int .i64 (1 : Int)))), (20, .d (.fl (.bool false))), (24, .d (.fl (.bool true))), (33, .ow 103), (34, .d (.fl (.int .i64 (1 : Int)))), (35, .d (.fl (.int .i64 (0 : Int))))] [(102, .bx 48 ((eIv (((ix ((ix ([[i]]) 0)) 0)))))), (103, .tr 48 2 (tD eIv [i]))]) (imp_forget rfl ⟨rfl, rfl, rfl, rfl, rfl, rfl, rfl, rfl, rfl, rfl, rfl, rfl, rfl, rfl, rfl, rfl, rfl, rfl, trivial⟩ ⟨rfl, rfl, trivial⟩) ?_
  refine a_rseq ?_
  refine rg_put (d := 36) (v := .d (.fl (.bool true))) rfl (og rfl (op_bin rfl rfl rfl (b_lss _ _ _ _) rfl)) ?_
  refine rg_done rfl ?_
  refine a_seq ?_
  refine a_condK rfl rfl ?_
  refine a_skip ?_
  show A _ _ _ _ _ _ _
  refine a_seq ?_
  refine a_block ?_
  refine a_rseq ?_
  refine rg_put (d := 37) (v := .pe 103 2 0 0) rfl (og rfl (op_index_tr rfl Try.underlying34 ti48 rfl rfl rfl (get_lt (tD_at (by first | decide | (simp [ix]; done) | omega))) rfl)) ?_
  refine rg_put (d := 38) (v := .d (.ag (eIv (ix [i] 0)))) rfl (og rfl (of_eff (op_load_pes rfl Try.underlying48 rfl ti48 rfl rfl (tD_at (by first | decide | (simp [ix]; done) | omega)) rfl rfl rfl) rfl)) ?_
  refine rg_nam (d := 10) (v := .pt 104 0) (m := 104) (nw := [(104, .bx 48 [.fl (.int .i64 0), .fl (.int .i64 0)])]) rfl (og rfl (of_eff (s_alloc 104 rfl ti48 (by kernel_rfl) rfl) rfl)) rfl ?_
  refine rg_sto (nw := [(104, .bx 48 ((eIv (ix [i] 0))))]) rfl (og rfl (of_eff (s_store rfl rfl ti48 rfl rfl rfl rfl rfl rfl) rfl)) ?_
  refine rg_done rfl ?_
  refine a_dseq (by kernel_rfl) ?_
  refine dr_put (d := 39) (v := .d (.fl (.int .i64 (0 : Int)))) rfl (og rfl (op_move rfl rfl rfl)) ?_
  refine dr_put (d := 40) (v := .d (.fl (.bool false))) rfl (og rfl (op_bin rfl rfl rfl (b_gtr _ _ _ _) rfl)) ?_
  refine dr_put (d := 41) (v := .d (.fl (.bool false))) rfl (og rfl (op_move rfl rfl rfl)) ?_
  refine dr_put (d := 42) (v := .d (.fl undef)) rfl (on rfl rfl rfl rfl) ?_
  refine dr_put (d := 43) (v := .d (.fl undef)) rfl (on rfl rfl rfl rfl) ?_
  refine dr_put (d := 44) (v := .d (.fl undef)) rfl (on rfl rfl rfl rfl) ?_
  refine dr_put (d := 45) (v := .d (.fl undef)) rfl (on rfl rfl rfl rfl) ?_
  refine dr_put (d := 46) (v := .d (.fl undef)) rfl (on rfl rfl rfl rfl) ?_
  refine dr_put (d := 47) (v := .d (.fl undef)) rfl (on rfl rfl rfl rfl) ?_
  refine dr_put (d := 48) (v := .d (.fl undef)) rfl (on rfl rfl rfl rfl) ?_
  refine dr_put (d := 49) (v := .d (.fl undef)) rfl (on rfl rfl rfl rfl) ?_
  refine dr_put (d := 50) (v := .d (.fl undef)) rfl (on rfl rfl rfl rfl) ?_
  refine dr_put (d := 51) (v := .d (.fl (.bool false))) rfl (og rfl (op_pick rfl rfl rfl rfl)) ?_
  refine dr_done rfl (by kernel_rfl) (by kernel_rfl) ?_
  refine a_condF rfl rfl ?_
  refine a_rseq ?_
  refine rg_put (d := 66) (v := .ow 103) rfl (og rfl (op_move rfl rfl rfl)) ?_
  refine rg_put (d := 67) (v := .d (.fl (.int .i64 (0 : Int)))) rfl (og rfl (op_move rfl rfl rfl)) ?_
  refine rg_put (d := 68) (v := .d (.ag (eIv (ix [i] 0)))) rfl (og rfl (of_eff (s_load_pts rfl Try.underlying48 rfl ti48 rfl rfl rfl rfl) rfl)) ?_
  refine rg_put (d := 69) (v := .pe 103 2 0 0) rfl (og rfl (op_index_tr rfl Try.underlying34 ti48 rfl rfl rfl (get_lt (tD_at (by first | decide | (simp [ix]; done) | omega))) rfl)) ?_
  refine rg_sto (nw := [(103, .tr 48 2 (((tD eIv [i]).set 0 [.dv (.fl (.int .i64 ((ix [i] 0).fr))), .dv (.fl (.int .i64 ((ix [i] 0).to)))])))]) rfl (og rfl (of_eff (op_store_pe rfl rfl ti48 rfl rfl (tD_at (by first | decide | (simp [ix]; done) | omega)) rfl (.d rfl) rfl rfl rfl) rfl)) ?_
  refine rg_done rfl ?_
  refine a_region ?_
  refine rg_put (d := 70) (v := .d (.fl (.int .i64 (0 : Int)))) rfl (og rfl (op_move rfl rfl rfl)) ?_
  refine rg_put (d := 71) (v := .d (.fl (.int .i64 (1 : Int)))) rfl (og rfl (op_bin rfl rfl rfl (fun x y w => b_add64 _ _ _ x y w (by first | decide | (simp [ix]; done) | omega)) rfl)) ?_
  refine rg_put (d := 8) (v := .d (.fl (.int .i64 (1 : Int)))) rfl (og rfl (op_assign rfl rfl rfl)) ?_
  refine rg_done rfl ?_
  show A _ _ _ _ _ _ _
  refine a_region ?_
  refine rg_put (d := 72) (v := .d (.fl (.int .i64 (1 : Int)))) rfl (og rfl (op_bin rfl rfl rfl (fun x y w => b_add64 _ _ _ x y w (by first | decide | (simp [ix]; done) | omega)) rfl)) ?_
  refine rg_put (d := 35) (v := .d (.fl (.int .i64 (1 : Int)))) rfl (og rfl (op_move rfl rfl rfl)) ?_
  refine rg_done rfl ?_
  show ARd _ _ _ _ _ _ _ _
  refine ard_succ ?_
  refine a_imp (τ := SS [(0, .d (.sl 1 (List.map (rL 2 eIv) ([[i]])))), (2, .d (.fl (.slice none 0 0))), (3, .ow 103), (5, .d (.sl 2 (List.map eIv ((ix ([[i]]) 0))))), (7, .pt 102 0), (8, .d (.fl (.int .i64 (1 : Int)))), (10, .pt 104 0), (11, .d (.sl 1 (List.map (rL 2 eIv) ([[i]])))), (12, .d (.fl (.int .i64 ((([[i]]).length : Int))))), (13, .d (.fl (.int .i64 (1 : Int)))), (14, .d (.fl (.bool false))), (17, .d (.sl 2 (List.map eIv ((ix ([[i]]) 0))))), (18, .d (.fl (.int .i64 ((((ix ([[i]]) 0)).length : Int))))), (19, .d (.fl (.int .i64 (1 : Int)))), (20, .d (.fl (.bool false))), (24, .d (.fl (.bool true))), (33, .ow 103), (34, .d (.fl (.int .i64 (1 : Int)))), (35, .d (.fl (.int .i64 (1 : Int)))), (36, .d (.fl (.bool true))), (51, .d (.fl (.bool false)))] [(102, .bx 48 ((eIv (((ix ((ix ([[i]]) 0)) 0)))))), (103, .tr 48 2 (tD eIv [i])), (104, .bx 48 ((eIv (ix [i] 0))))]) (imp_forget rfl ⟨rfl, rfl, rfl, rfl, rfl, rfl, rfl, rfl, rfl, rfl, rfl, rfl, rfl, rfl, rfl, rfl, rfl, rfl, rfl, rfl, rfl, trivial⟩ ⟨rfl, rfl, rfl, trivial⟩) ?_
  refine a_rseq ?_
  refine rg_put (d := 36) (v := .d (.fl (.bool false))) rfl (og rfl (op_bin rfl rfl rfl (b_lss _ _ _ _) rfl)) ?_
  refine rg_done rfl ?_
  refine a_seq ?_
  refine a_condF rfl rfl ?_
  refine a_exit ?_
  show A _ _ _ _ _ _ _
  refine a_rseq ?_
  refine rg_imp (imp_leakT 3 103 rfl rfl) ?_
  refine rg_put (d := 73) (v := .d (.sl 2 (List.map eIv [i]))) rfl (og rfl (op_move rfl rfl rfl)) ?_
  refine rg_put (d := 74) (v := .d (.fl (.int .i64 (1 : Int)))) rfl (og rfl (op_move rfl rfl rfl)) ?_
  refine rg_put (d := 75) (v := .d (.sl 2 (List.map eIv ((([i].drop 0).take (1 - 0)))))) rfl (og rfl (s_slice rfl Try.underlying34 ti48 rfl (.no _) (.so (n := 1) _ rfl (by first | decide | (simp [ix]; done) | omega)) (by first | decide | (simp [ix]; done) | omega) (by first | decide | (simp [ix]; done) | omega) rfl)) ?_
  refine rg_put (d := 2) (v := .d (.sl 2 (List.map eIv ((([i].drop 0).take (1 - 0)))))) rfl (og rfl (op_assign rfl rfl rfl)) ?_
  refine rg_done rfl ?_
  refine a_ret ?_
  show ∃ ds, ResL _ _ _ ds ∧ RV.of ds = _
  refine ⟨[.sl 2 (List.map eIv ((([i].drop 0).take (1 - 0))))], (.cons (.tmp rfl (.d _)) .nil), ?_⟩
  rfl
set_option maxHeartbeats 4000000 in
set_option maxRecDepth 100000 in
theorem norm38 (i : Iv) (h : vI i = true) : Ctr Try.prog 38 [.sl 2 (List.map eIv [i])] (.d (.sl 2 (List.map eIv [i]))) := by
  refine ctr (n := 6) (rs := #[.tmp 2]) (L := [(0, .d (.sl 2 (List.map eIv [i])))]) Try.func38 rfl rfl rfl rfl rfl (fun w0 U0 => ?_)
  refine a_rseq ?_
  refine rg_put (d := 2) (v := .d (.fl (.slice none 0 0))) rfl (og rfl (op_assign rfl rfl rfl)) ?_
  refine rg_done rfl ?_
  refine a_rseq ?_
  refine rg_put (d := 3) (v := .d (.sl 2 (List.map eIv [i]))) rfl (og rfl (op_move rfl rfl rfl)) ?_
  refine rg_put (d := 4) (v := .d (.sl 1 (List.map (rL 2 eIv) ([[i]])))) rfl (og rfl (of_eff (op_slices rfl Try.underlying75 ti34 rfl rfl rfl (by kernel_rfl) (xs := [.sl 2 (List.map eIv [i])]) rfl rfl (.cons rfl rfl (.d _) rfl rfl rfl .nil) rfl) rfl)) ?_
  refine rg_put (d := 5) (v := .d (.sl 2 (List.map eIv [i]))) rfl (og rfl (op_call rfl Try.func41 nm41 rfl (.cons rfl (.d _) .nil) (join41 i h) rfl)) ?_
  refine rg_put (d := 2) (v := .d (.sl 2 (List.map eIv [i]))) rfl (og rfl (op_assign rfl rfl rfl)) ?_
  refine rg_done rfl ?_
  refine a_ret ?_
  show ∃ ds, ResL _ _ _ ds ∧ RV.of ds = _
  refine ⟨[.sl 2 (List.map eIv [i])], (.cons (.tmp rfl (.d _)) .nil), ?_⟩
  rfl
end Go.Proofs.Ytajhpdmbmipboaa.Wk
