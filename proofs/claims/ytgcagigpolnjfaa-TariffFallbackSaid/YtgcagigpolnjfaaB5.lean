/- The program is alive. No condition. -/
import Derived.Test.YtgcagigpolnjfaaB4
set_option linter.unusedSimpArgs false
set_option linter.unusedVariables false
namespace Go.Proofs.Ytgcagigpolnjfaa.Wk
open Go Go.RowKit Go.Proofs.Ytgcagigpolnjfaa.Av
set_option maxHeartbeats 4000000 in
set_option maxRecDepth 100000 in
theorem rates22  : Ctr Try.prog 22 [.ag (eTa EX), .fl (.int .i64 1)] (.d (.sl 5 (List.map eRt [R1, R0]))) := by
  refine ctr (n := 27) (rs := #[.tmp 4]) (L := [(0, .d (.ag (eTa EX))), (1, .d (.fl (.int .i64 1)))]) Try.func22 rfl rfl rfl rfl rfl (fun w0 U0 => ?_)
  refine a_rseq ?_
  refine rg_nam (d := 2) (v := .pt 101 0) (m := 101) (nw := [(101, .bx 28 (eTa EX))]) rfl (og rfl (of_eff (op_box 101 rfl rfl rfl rfl) rfl)) rfl ?_
  refine rg_put (d := 4) (v := .d (.fl (.slice none 0 0))) rfl (og rfl (op_assign rfl rfl rfl)) ?_
  refine rg_done rfl ?_
  refine a_rseq ?_
  refine rg_put (d := 5) (v := .d (.fl (.slice none 0 0))) rfl (og rfl (op_assign rfl rfl rfl)) ?_
  refine rg_done rfl ?_
  refine a_seq ?_
  refine a_rseq ?_
  refine rg_imp (imp_nilT 5 102 46 5 rfl rfl) ?_
  refine rg_put (d := 8) (v := .pt 101 3) rfl (og rfl (of_eff (s_field_pt rfl Try.underlying28 rfl ti26 rfl rfl rfl) rfl)) ?_
  refine rg_put (d := 9) (v := .d (.sl 5 (List.map eRt EX.rates))) rfl (og rfl (op_load_pt rfl Try.underlying26 rfl rfl rfl rfl rfl)) ?_
  refine rg_put (d := 10) (v := .d (.fl (.int .i64 (EX.rates.length : Int)))) rfl (og rfl (s_len rfl Try.underlying26 rfl rfl)) ?_
  refine rg_put (d := 11) (v := .d (.fl (.int .i64 (0 : Int)))) rfl (og rfl (op_move rfl rfl rfl)) ?_
  refine rg_done rfl ?_
  refine a_block ?_
  refine a_rounds (n := 1000000) ?_
  refine ard_succ ?_
  refine a_imp (τ := SS [(0, .d (.ag (eTa EX))), (1, .d (.fl (.int .i64 1))), (2, .pt 101 0), (4, .d (.fl (.slice none 0 0))), (5, .ow 102), (9, .d (.sl 5 (List.map eRt EX.rates))), (10, .d (.fl (.int .i64 (EX.rates.length : Int)))), (11, .d (.fl (.int .i64 (0 : Int))))] [(101, .bx 28 (eTa EX)), (102, .tr 46 5 (tD eRt []))]) (imp_forget rfl ⟨rfl, rfl, rfl, rfl, rfl, rfl, rfl, rfl, trivial⟩ ⟨rfl, rfl, trivial⟩) ?_
  refine a_rseq ?_
  refine rg_put (d := 12) (v := .d (.fl (.bool true))) rfl (og rfl (op_bin rfl rfl rfl (b_lss _ _ _ _) rfl)) ?_
  refine rg_done rfl ?_
  refine a_seq ?_
  refine a_condK rfl rfl ?_
  refine a_skip ?_
  show A _ _ _ _ _ _ _
  refine a_seq ?_
  refine a_block ?_
  refine a_rseq ?_
  refine rg_put (d := 13) (v := .el ((eRt (ix EX.rates 0)))) rfl (og rfl (s_index rfl Try.underlying26 ti46 rfl rfl (by decide) (row_at (by decide)) rfl)) ?_
  refine rg_put (d := 14) (v := .d (.ag (eRt (ix EX.rates 0)))) rfl (og rfl (of_eff (s_load_els rfl Try.underlying46 rfl ti46 rfl rfl rfl) rfl)) ?_
  refine rg_nam (d := 7) (v := .pt 103 0) (m := 103) (nw := [(103, .bx 46 ([.fl (.string (⟨#[]⟩)), .fl (.string (⟨#[]⟩)), .fl (.int .i64 0), .fl (.string (⟨#[]⟩)), .fl (.int .i64 0)]))]) rfl (og rfl (of_eff (s_alloc 103 rfl ti46 (by kernel_rfl) rfl) rfl)) rfl ?_
  refine rg_sto (nw := [(103, .bx 46 ((eRt (ix EX.rates 0))))]) rfl (og rfl (of_eff (s_store rfl rfl ti46 rfl rfl rfl rfl rfl rfl) rfl)) ?_
  refine rg_done rfl ?_
  refine a_rseq ?_
  refine rg_put (d := 15) (v := .pt 103 2) rfl (og rfl (of_eff (s_field_pt rfl Try.underlying46 rfl ti3 rfl rfl rfl) rfl)) ?_
  refine rg_put (d := 16) (v := .d (.fl (.int .i64 ((ix EX.rates 0).cls)))) rfl (og rfl (op_load_pt rfl Try.underlying3 rfl rfl rfl rfl rfl)) ?_
  refine rg_put (d := 17) (v := .d (.fl (.int .i64 (1 : Int)))) rfl (og rfl (op_move rfl rfl rfl)) ?_
  refine rg_put (d := 18) (v := .d (.fl (.bool true))) rfl (og rfl (op_bin rfl rfl rfl (b_eql _ _ _ _) rfl)) ?_
  refine rg_done rfl ?_
  refine a_condK rfl rfl ?_
  refine a_region ?_
  refine rg_put (d := 19) (v := .ow 102) rfl (og rfl (op_move rfl rfl rfl)) ?_
  refine rg_put (d := 20) (v := .d (.ag (eRt (ix EX.rates 0)))) rfl (og rfl (of_eff (s_load_pts rfl Try.underlying46 rfl ti46 rfl rfl rfl rfl) rfl)) ?_
  refine rg_put (d := 21) (v := .d (.sl 5 (List.map eRt [(ix EX.rates 0)]))) rfl (og rfl (of_eff (op_slices rfl Try.underlying26 ti46 rfl rfl rfl (by kernel_rfl) (xs := [.ag (eRt (ix EX.rates 0))]) rfl rfl (.cons rfl rfl (.d _) rfl rfl rfl .nil) rfl) rfl)) ?_
  refine rg_nam (d := 22) (v := .ow 104) (m := 104) (nw := [(104, .tr 46 5 (tD eRt (([] ++ [(ix EX.rates 0)])))), (102, .no)]) rfl (og rfl (of_eff (s_append_td 104 rfl Try.underlying26 ti46 rfl rfl rfl rfl rfl (.d _) (by decide) rfl) rfl)) rfl ?_
  refine rg_put (d := 5) (v := .ow 104) rfl (og rfl (op_assign rfl rfl rfl)) ?_
  refine rg_done rfl ?_
  show A _ _ _ _ _ _ _
  refine a_region ?_
  refine rg_put (d := 23) (v := .d (.fl (.int .i64 (1 : Int)))) rfl (og rfl (op_bin rfl rfl rfl (fun x y w => b_add64 _ _ _ x y w (by decide)) rfl)) ?_
  refine rg_put (d := 11) (v := .d (.fl (.int .i64 (1 : Int)))) rfl (og rfl (op_move rfl rfl rfl)) ?_
  refine rg_done rfl ?_
  show ARd _ _ _ _ _ _ _ _
  refine ard_succ ?_
  refine a_imp (τ := SS [(0, .d (.ag (eTa EX))), (1, .d (.fl (.int .i64 1))), (2, .pt 101 0), (4, .d (.fl (.slice none 0 0))), (5, .ow 104), (7, .pt 103 0), (9, .d (.sl 5 (List.map eRt EX.rates))), (10, .d (.fl (.int .i64 (EX.rates.length : Int)))), (11, .d (.fl (.int .i64 (1 : Int)))), (12, .d (.fl (.bool true))), (18, .d (.fl (.bool true)))] [(101, .bx 28 (eTa EX)), (103, .bx 46 ((eRt (ix EX.rates 0)))), (104, .tr 46 5 (tD eRt (([] ++ [(ix EX.rates 0)]))))]) (imp_forget rfl ⟨rfl, rfl, rfl, rfl, rfl, rfl, rfl, rfl, rfl, rfl, rfl, trivial⟩ ⟨rfl, rfl, rfl, trivial⟩) ?_
  refine a_rseq ?_
  refine rg_put (d := 12) (v := .d (.fl (.bool true))) rfl (og rfl (op_bin rfl rfl rfl (b_lss _ _ _ _) rfl)) ?_
  refine rg_done rfl ?_
  refine a_seq ?_
  refine a_condK rfl rfl ?_
  refine a_skip ?_
  show A _ _ _ _ _ _ _
  refine a_seq ?_
  refine a_block ?_
  refine a_rseq ?_
  refine rg_put (d := 13) (v := .el ((eRt (ix EX.rates 1)))) rfl (og rfl (s_index rfl Try.underlying26 ti46 rfl rfl (by decide) (row_at (by decide)) rfl)) ?_
  refine rg_put (d := 14) (v := .d (.ag (eRt (ix EX.rates 1)))) rfl (og rfl (of_eff (s_load_els rfl Try.underlying46 rfl ti46 rfl rfl rfl) rfl)) ?_
  refine rg_nam (d := 7) (v := .pt 105 0) (m := 105) (nw := [(105, .bx 46 ([.fl (.string (⟨#[]⟩)), .fl (.string (⟨#[]⟩)), .fl (.int .i64 0), .fl (.string (⟨#[]⟩)), .fl (.int .i64 0)]))]) rfl (og rfl (of_eff (s_alloc 105 rfl ti46 (by kernel_rfl) rfl) rfl)) rfl ?_
  refine rg_sto (nw := [(105, .bx 46 ((eRt (ix EX.rates 1))))]) rfl (og rfl (of_eff (s_store rfl rfl ti46 rfl rfl rfl rfl rfl rfl) rfl)) ?_
  refine rg_done rfl ?_
  refine a_rseq ?_
  refine rg_put (d := 15) (v := .pt 105 2) rfl (og rfl (of_eff (s_field_pt rfl Try.underlying46 rfl ti3 rfl rfl rfl) rfl)) ?_
  refine rg_put (d := 16) (v := .d (.fl (.int .i64 ((ix EX.rates 1).cls)))) rfl (og rfl (op_load_pt rfl Try.underlying3 rfl rfl rfl rfl rfl)) ?_
  refine rg_put (d := 17) (v := .d (.fl (.int .i64 (1 : Int)))) rfl (og rfl (op_move rfl rfl rfl)) ?_
  refine rg_put (d := 18) (v := .d (.fl (.bool true))) rfl (og rfl (op_bin rfl rfl rfl (b_eql _ _ _ _) rfl)) ?_
  refine rg_done rfl ?_
  refine a_condK rfl rfl ?_
  refine a_region ?_
  refine rg_put (d := 19) (v := .ow 104) rfl (og rfl (op_move rfl rfl rfl)) ?_
  refine rg_put (d := 20) (v := .d (.ag (eRt (ix EX.rates 1)))) rfl (og rfl (of_eff (s_load_pts rfl Try.underlying46 rfl ti46 rfl rfl rfl rfl) rfl)) ?_
  refine rg_put (d := 21) (v := .d (.sl 5 (List.map eRt [(ix EX.rates 1)]))) rfl (og rfl (of_eff (op_slices rfl Try.underlying26 ti46 rfl rfl rfl (by kernel_rfl) (xs := [.ag (eRt (ix EX.rates 1))]) rfl rfl (.cons rfl rfl (.d _) rfl rfl rfl .nil) rfl) rfl)) ?_
  refine rg_nam (d := 22) (v := .ow 106) (m := 106) (nw := [(106, .tr 46 5 (tD eRt ((([] ++ [(ix EX.rates 0)]) ++ [(ix EX.rates 1)])))), (104, .no)]) rfl (og rfl (of_eff (s_append_td 106 rfl Try.underlying26 ti46 rfl rfl rfl rfl rfl (.d _) (by decide) rfl) rfl)) rfl ?_
  refine rg_put (d := 5) (v := .ow 106) rfl (og rfl (op_assign rfl rfl rfl)) ?_
  refine rg_done rfl ?_
  show A _ _ _ _ _ _ _
  refine a_region ?_
  refine rg_put (d := 23) (v := .d (.fl (.int .i64 (2 : Int)))) rfl (og rfl (op_bin rfl rfl rfl (fun x y w => b_add64 _ _ _ x y w (by decide)) rfl)) ?_
  refine rg_put (d := 11) (v := .d (.fl (.int .i64 (2 : Int)))) rfl (og rfl (op_move rfl rfl rfl)) ?_
  refine rg_done rfl ?_
  show ARd _ _ _ _ _ _ _ _
  refine ard_succ ?_
  refine a_imp (τ := SS [(0, .d (.ag (eTa EX))), (1, .d (.fl (.int .i64 1))), (2, .pt 101 0), (4, .d (.fl (.slice none 0 0))), (5, .ow 106), (7, .pt 105 0), (9, .d (.sl 5 (List.map eRt EX.rates))), (10, .d (.fl (.int .i64 (EX.rates.length : Int)))), (11, .d (.fl (.int .i64 (2 : Int)))), (12, .d (.fl (.bool true))), (18, .d (.fl (.bool true)))] [(101, .bx 28 (eTa EX)), (105, .bx 46 ((eRt (ix EX.rates 1)))), (106, .tr 46 5 (tD eRt ((([] ++ [(ix EX.rates 0)]) ++ [(ix EX.rates 1)]))))]) (imp_forget rfl ⟨rfl, rfl, rfl, rfl, rfl, rfl, rfl, rfl, rfl, rfl, rfl, trivial⟩ ⟨rfl, rfl, rfl, trivial⟩) ?_
  refine a_rseq ?_
  refine rg_put (d := 12) (v := .d (.fl (.bool false))) rfl (og rfl (op_bin rfl rfl rfl (b_lss _ _ _ _) rfl)) ?_
  refine rg_done rfl ?_
  refine a_seq ?_
  refine a_condF rfl rfl ?_
  refine a_exit ?_
  show A _ _ _ _ _ _ _
  refine a_rseq ?_
  rw [show (([] ++ [(ix EX.rates 0)]) ++ [(ix EX.rates 1)]) = [R0, R1] from rfl]
  refine rg_put (d := 24) (v := .ow 106) rfl (og rfl (op_move rfl rfl rfl)) ?_
  refine rg_upd (d := 25) (v := .tu []) (nw := [(106, .tr 46 5 (tD eRt [R1, R0]))]) rfl (og rfl (of_eff (op_callM .r (m := 106) (ob := .tr 46 5 (tD eRt [R0, R1])) (ob' := .tr 46 5 (tD eRt [R1, R0])) (r := .tu []) rfl Try.func37 nm37 rfl rfl rfl rfl rfl rfl (.cons rfl (.d _) .nil) sort37 rfl) rfl)) ?_
  refine rg_done rfl ?_
  refine a_rseq ?_
  refine rg_put (d := 26) (v := .ow 106) rfl (og rfl (op_move rfl rfl rfl)) ?_
  refine rg_put (d := 4) (v := .ow 106) rfl (og rfl (op_assign rfl rfl rfl)) ?_
  refine rg_done rfl ?_
  refine a_imp (imp_leakT 4 106 rfl rfl) ?_
  refine a_ret ?_
  show ∃ ds, ResL _ _ _ ds ∧ RV.of ds = _
  refine ⟨[.sl 5 (List.map eRt [R1, R0])], (.cons (.tmp rfl (.d _)) .nil), ?_⟩
  rfl
set_option maxHeartbeats 4000000 in
set_option maxRecDepth 100000 in
theorem example21  : Ctr Try.prog 21 [] (.d (.ag (eTa EX))) := by
  refine ctr (n := 13) (rs := #[.cell 0 28]) (L := []) Try.func21 rfl rfl rfl rfl rfl (fun w0 U0 => ?_)
  refine a_rseq ?_
  refine rg_nam (d := 0) (v := .pt 101 0) (m := 101) (nw := [(101, .bx 28 [.fl (.int .i64 0), .fl (.int .i64 0), .fl (.slice none 0 0), .fl (.slice none 0 0)])]) rfl (og rfl (of_eff (s_alloc 101 rfl ti28 (by kernel_rfl) rfl) rfl)) rfl ?_
  refine rg_done rfl ?_
  refine a_rseq ?_
  refine rg_put (d := 2) (v := .d (.ag (eIv (Iv.mk 0 10000)))) rfl (og rfl (of_eff (op_build rfl Try.underlying24 ti24 rfl (by kernel_rfl) (by kernel_rfl) (pl := #[(0, 1), (1, 1)]) (by kernel_rfl) (.cons rfl rfl (.d _) rfl rfl rfl (.cons rfl rfl (.d _) rfl rfl rfl .nil)) rfl) rfl)) ?_
  refine rg_put (d := 3) (v := .d (.ag [.fl (.int .i64 ((Iv.mk 0 10000).fr)), .fl (.int .i64 ((Iv.mk 0 10000).to)), .fl (.slice none 0 0), .fl (.slice none 0 0)])) rfl (og rfl (of_eff (op_build rfl Try.underlying28 ti28 rfl (by kernel_rfl) (by kernel_rfl) (pl := #[(0, 2), (2, 1), (3, 1)]) (by kernel_rfl) (.cons rfl rfl (.d _) rfl rfl rfl .nil) rfl) rfl)) ?_
  refine rg_nam (d := 1) (v := .pt 102 0) (m := 102) (nw := [(102, .bx 28 [.fl (.int .i64 0), .fl (.int .i64 0), .fl (.slice none 0 0), .fl (.slice none 0 0)])]) rfl (og rfl (of_eff (s_alloc 102 rfl ti28 (by kernel_rfl) rfl) rfl)) rfl ?_
  refine rg_sto (nw := [(102, .bx 28 [.fl (.int .i64 ((Iv.mk 0 10000).fr)), .fl (.int .i64 ((Iv.mk 0 10000).to)), .fl (.slice none 0 0), .fl (.slice none 0 0)])]) rfl (og rfl (of_eff (s_store rfl rfl ti28 rfl rfl rfl rfl rfl rfl) rfl)) ?_
  refine rg_done rfl ?_
  refine a_rseq ?_
  refine rg_put (d := 4) (v := .d (.ag (eWd (Wd.mk 1 60 120)))) rfl (og rfl (of_eff (op_build rfl Try.underlying52 ti52 rfl (by kernel_rfl) (by kernel_rfl) (pl := #[(0, 1), (1, 1), (2, 1)]) (by kernel_rfl) (.cons rfl rfl (.d _) rfl rfl rfl (.cons rfl rfl (.d _) rfl rfl rfl (.cons rfl rfl (.d _) rfl rfl rfl .nil))) rfl) rfl)) ?_
  refine rg_put (d := 5) (v := .d (.ag (eBd ((Bd.mk (⟨#[112, 101, 97, 107]⟩) (Wd.mk 1 60 120)))))) rfl (og rfl (of_eff (op_build rfl Try.underlying54 ti54 rfl (by kernel_rfl) (by kernel_rfl) (pl := #[(0, 1), (1, 3)]) (by kernel_rfl) (.cons rfl rfl (.d _) rfl rfl rfl (.cons rfl rfl (.d _) rfl rfl rfl .nil)) rfl) rfl)) ?_
  refine rg_put (d := 6) (v := .d (.sl 4 (List.map eBd ([(Bd.mk (⟨#[112, 101, 97, 107]⟩) (Wd.mk 1 60 120))])))) rfl (og rfl (of_eff (op_slices rfl Try.underlying25 ti54 rfl rfl rfl (by kernel_rfl) (xs := [.ag (eBd ((Bd.mk (⟨#[112, 101, 97, 107]⟩) (Wd.mk 1 60 120))))]) rfl rfl (.cons rfl rfl (.d _) rfl rfl rfl .nil) rfl) rfl)) ?_
  refine rg_put (d := 7) (v := .pt 102 2) rfl (og rfl (of_eff (s_field_pt rfl Try.underlying28 rfl ti25 rfl rfl rfl) rfl)) ?_
  refine rg_sto (nw := [(102, .bx 28 ([.fl (.int .i64 ((Iv.mk 0 10000).fr)), .fl (.int .i64 ((Iv.mk 0 10000).to)), .sl 4 (List.map eBd ([(Bd.mk (⟨#[112, 101, 97, 107]⟩) (Wd.mk 1 60 120))])), .fl (.slice none 0 0)]))]) rfl (og rfl (of_eff (s_store rfl rfl ti25 rfl rfl rfl rfl rfl rfl) rfl)) ?_
  refine rg_done rfl ?_
  refine a_rseq ?_
  refine rg_put (d := 8) (v := .d (.ag (eRt ((Rt.mk (⟨#[97]⟩) (⟨#[]⟩) 1 (⟨#[112, 101, 97, 107]⟩) 200))))) rfl (og rfl (of_eff (op_build rfl Try.underlying46 ti46 rfl (by kernel_rfl) (by kernel_rfl) (pl := #[(0, 1), (1, 1), (2, 1), (3, 1), (4, 1)]) (by kernel_rfl) (.cons rfl rfl (.d _) rfl rfl rfl (.cons rfl rfl (.d _) rfl rfl rfl (.cons rfl rfl (.d _) rfl rfl rfl (.cons rfl rfl (.d _) rfl rfl rfl .nil)))) rfl) rfl)) ?_
  refine rg_put (d := 9) (v := .d (.ag (eRt ((Rt.mk (⟨#[97]⟩) (⟨#[]⟩) 1 (⟨#[]⟩) 100))))) rfl (og rfl (of_eff (op_build rfl Try.underlying46 ti46 rfl (by kernel_rfl) (by kernel_rfl) (pl := #[(0, 1), (1, 1), (2, 1), (3, 1), (4, 1)]) (by kernel_rfl) (.cons rfl rfl (.d _) rfl rfl rfl (.cons rfl rfl (.d _) rfl rfl rfl (.cons rfl rfl (.d _) rfl rfl rfl .nil))) rfl) rfl)) ?_
  refine rg_put (d := 10) (v := .d (.sl 5 (List.map eRt ([(Rt.mk (⟨#[97]⟩) (⟨#[]⟩) 1 (⟨#[112, 101, 97, 107]⟩) 200), (Rt.mk (⟨#[97]⟩) (⟨#[]⟩) 1 (⟨#[]⟩) 100)])))) rfl (og rfl (of_eff (op_slices rfl Try.underlying26 ti46 rfl rfl rfl (by kernel_rfl) (xs := [.ag (eRt ((Rt.mk (⟨#[97]⟩) (⟨#[]⟩) 1 (⟨#[112, 101, 97, 107]⟩) 200))), .ag (eRt ((Rt.mk (⟨#[97]⟩) (⟨#[]⟩) 1 (⟨#[]⟩) 100)))]) rfl rfl (.cons rfl rfl (.d _) rfl rfl rfl (.cons rfl rfl (.d _) rfl rfl rfl .nil)) rfl) rfl)) ?_
  refine rg_put (d := 11) (v := .pt 102 3) rfl (og rfl (of_eff (s_field_pt rfl Try.underlying28 rfl ti26 rfl rfl rfl) rfl)) ?_
  refine rg_sto (nw := [(102, .bx 28 ([.fl (.int .i64 ((Iv.mk 0 10000).fr)), .fl (.int .i64 ((Iv.mk 0 10000).to)), .sl 4 (List.map eBd ([(Bd.mk (⟨#[112, 101, 97, 107]⟩) (Wd.mk 1 60 120))])), .sl 5 (List.map eRt ([(Rt.mk (⟨#[97]⟩) (⟨#[]⟩) 1 (⟨#[112, 101, 97, 107]⟩) 200), (Rt.mk (⟨#[97]⟩) (⟨#[]⟩) 1 (⟨#[]⟩) 100)]))]))]) rfl (og rfl (of_eff (s_store rfl rfl ti26 rfl rfl rfl rfl rfl rfl) rfl)) ?_
  refine rg_done rfl ?_
  refine a_rseq ?_
  refine rg_put (d := 12) (v := .d (.ag (eTa ((Ta.mk (Iv.mk 0 10000) ([(Bd.mk (⟨#[112, 101, 97, 107]⟩) (Wd.mk 1 60 120))]) ([(Rt.mk (⟨#[97]⟩) (⟨#[]⟩) 1 (⟨#[112, 101, 97, 107]⟩) 200), (Rt.mk (⟨#[97]⟩) (⟨#[]⟩) 1 (⟨#[]⟩) 100)])))))) rfl (og rfl (of_eff (s_load_pts rfl Try.underlying28 rfl ti28 rfl rfl rfl rfl) rfl)) ?_
  refine rg_sto (nw := [(101, .bx 28 ((eTa ((Ta.mk (Iv.mk 0 10000) ([(Bd.mk (⟨#[112, 101, 97, 107]⟩) (Wd.mk 1 60 120))]) ([(Rt.mk (⟨#[97]⟩) (⟨#[]⟩) 1 (⟨#[112, 101, 97, 107]⟩) 200), (Rt.mk (⟨#[97]⟩) (⟨#[]⟩) 1 (⟨#[]⟩) 100)]))))))]) rfl (og rfl (of_eff (s_store rfl rfl ti28 rfl rfl rfl rfl rfl rfl) rfl)) ?_
  refine rg_done rfl ?_
  refine a_ret ?_
  show ∃ ds, ResL _ _ _ ds ∧ RV.of ds = _
  refine ⟨[.ag [.fl (.int .i64 (((Ta.mk (Iv.mk 0 10000) ([(Bd.mk (⟨#[112, 101, 97, 107]⟩) (Wd.mk 1 60 120))]) ([(Rt.mk (⟨#[97]⟩) (⟨#[]⟩) 1 (⟨#[112, 101, 97, 107]⟩) 200), (Rt.mk (⟨#[97]⟩) (⟨#[]⟩) 1 (⟨#[]⟩) 100)])).val).fr)), .fl (.int .i64 (((Ta.mk (Iv.mk 0 10000) ([(Bd.mk (⟨#[112, 101, 97, 107]⟩) (Wd.mk 1 60 120))]) ([(Rt.mk (⟨#[97]⟩) (⟨#[]⟩) 1 (⟨#[112, 101, 97, 107]⟩) 200), (Rt.mk (⟨#[97]⟩) (⟨#[]⟩) 1 (⟨#[]⟩) 100)])).val).to)), .sl 4 (List.map eBd ((Ta.mk (Iv.mk 0 10000) ([(Bd.mk (⟨#[112, 101, 97, 107]⟩) (Wd.mk 1 60 120))]) ([(Rt.mk (⟨#[97]⟩) (⟨#[]⟩) 1 (⟨#[112, 101, 97, 107]⟩) 200), (Rt.mk (⟨#[97]⟩) (⟨#[]⟩) 1 (⟨#[]⟩) 100)])).bands)), .sl 5 (List.map eRt ((Ta.mk (Iv.mk 0 10000) ([(Bd.mk (⟨#[112, 101, 97, 107]⟩) (Wd.mk 1 60 120))]) ([(Rt.mk (⟨#[97]⟩) (⟨#[]⟩) 1 (⟨#[112, 101, 97, 107]⟩) 200), (Rt.mk (⟨#[97]⟩) (⟨#[]⟩) 1 (⟨#[]⟩) 100)])).rates))]], (.cons (.cellT rfl rfl Try.underlying28 rfl ti28 rfl (Cv.ag (xs := [.fl (.int .i64 (((Ta.mk (Iv.mk 0 10000) ([(Bd.mk (⟨#[112, 101, 97, 107]⟩) (Wd.mk 1 60 120))]) ([(Rt.mk (⟨#[97]⟩) (⟨#[]⟩) 1 (⟨#[112, 101, 97, 107]⟩) 200), (Rt.mk (⟨#[97]⟩) (⟨#[]⟩) 1 (⟨#[]⟩) 100)])).val).fr)), .fl (.int .i64 (((Ta.mk (Iv.mk 0 10000) ([(Bd.mk (⟨#[112, 101, 97, 107]⟩) (Wd.mk 1 60 120))]) ([(Rt.mk (⟨#[97]⟩) (⟨#[]⟩) 1 (⟨#[112, 101, 97, 107]⟩) 200), (Rt.mk (⟨#[97]⟩) (⟨#[]⟩) 1 (⟨#[]⟩) 100)])).val).to)), .sl 4 (List.map eBd ((Ta.mk (Iv.mk 0 10000) ([(Bd.mk (⟨#[112, 101, 97, 107]⟩) (Wd.mk 1 60 120))]) ([(Rt.mk (⟨#[97]⟩) (⟨#[]⟩) 1 (⟨#[112, 101, 97, 107]⟩) 200), (Rt.mk (⟨#[97]⟩) (⟨#[]⟩) 1 (⟨#[]⟩) 100)])).bands)), .sl 5 (List.map eRt ((Ta.mk (Iv.mk 0 10000) ([(Bd.mk (⟨#[112, 101, 97, 107]⟩) (Wd.mk 1 60 120))]) ([(Rt.mk (⟨#[97]⟩) (⟨#[]⟩) 1 (⟨#[112, 101, 97, 107]⟩) 200), (Rt.mk (⟨#[97]⟩) (⟨#[]⟩) 1 (⟨#[]⟩) 100)])).rates))]) (ys := [.fl (.int .i64 (((Ta.mk (Iv.mk 0 10000) ([(Bd.mk (⟨#[112, 101, 97, 107]⟩) (Wd.mk 1 60 120))]) ([(Rt.mk (⟨#[97]⟩) (⟨#[]⟩) 1 (⟨#[112, 101, 97, 107]⟩) 200), (Rt.mk (⟨#[97]⟩) (⟨#[]⟩) 1 (⟨#[]⟩) 100)])).val).fr)), .fl (.int .i64 (((Ta.mk (Iv.mk 0 10000) ([(Bd.mk (⟨#[112, 101, 97, 107]⟩) (Wd.mk 1 60 120))]) ([(Rt.mk (⟨#[97]⟩) (⟨#[]⟩) 1 (⟨#[112, 101, 97, 107]⟩) 200), (Rt.mk (⟨#[97]⟩) (⟨#[]⟩) 1 (⟨#[]⟩) 100)])).val).to)), .sl 4 (List.map eBd ((Ta.mk (Iv.mk 0 10000) ([(Bd.mk (⟨#[112, 101, 97, 107]⟩) (Wd.mk 1 60 120))]) ([(Rt.mk (⟨#[97]⟩) (⟨#[]⟩) 1 (⟨#[112, 101, 97, 107]⟩) 200), (Rt.mk (⟨#[97]⟩) (⟨#[]⟩) 1 (⟨#[]⟩) 100)])).bands)), .sl 5 (List.map eRt ((Ta.mk (Iv.mk 0 10000) ([(Bd.mk (⟨#[112, 101, 97, 107]⟩) (Wd.mk 1 60 120))]) ([(Rt.mk (⟨#[97]⟩) (⟨#[]⟩) 1 (⟨#[112, 101, 97, 107]⟩) 200), (Rt.mk (⟨#[97]⟩) (⟨#[]⟩) 1 (⟨#[]⟩) 100)])).rates))]) ⟨Cv.refl _, Cv.refl _, Cv.refl _, Cv.refl _, trivial⟩)) .nil), ?_⟩
  rfl
theorem hzE : ∀ q, q < ([EX] : List Ta).length → (ix [EX] q).bands.length ≤ 1000 ∧ (ix [EX] q).rates.length ≤ 1000 := fun q h => by
  have : q = 0 := by simpa using h
  subst this; decide
abbrev zTb : Ta := Ta.mk (Iv.mk 0 0) [] []
theorem ur1 : Ctr Try.prog 14 [.ag (eTa EX), .fl (.string ⟨#[97]⟩), .fl (.string ⟨#[]⟩), .fl (.int .i64 1), .fl (.int .i64 3600)] (.tu [.fl (.int .i64 200), .fl (.int .i64 0)]) := by
  have := rate14 EX ⟨#[97]⟩ ⟨#[]⟩ 1 3600 (by decide) (by decide)
  rw [show rte EX ⟨#[97]⟩ ⟨#[]⟩ 1 3600 = (200, 0) by kernel_rfl] at this; exact this
theorem ur2 : Ctr Try.prog 14 [.ag (eTa EX), .fl (.string ⟨#[97]⟩), .fl (.string ⟨#[]⟩), .fl (.int .i64 1), .fl (.int .i64 7200)] (.tu [.fl (.int .i64 100), .fl (.int .i64 0)]) := by
  have := rate14 EX ⟨#[97]⟩ ⟨#[]⟩ 1 7200 (by decide) (by decide)
  rw [show rte EX ⟨#[97]⟩ ⟨#[]⟩ 1 7200 = (100, 0) by kernel_rfl] at this; exact this
theorem ur3 : Ctr Try.prog 14 [.ag (eTa EX), .fl (.string ⟨#[97]⟩), .fl (.string ⟨#[]⟩), .fl (.int .i64 2), .fl (.int .i64 3600)] (.tu [.fl (.int .i64 0), .fl (.int .i64 22)]) := by
  have := rate14 EX ⟨#[97]⟩ ⟨#[]⟩ 2 3600 (by decide) (by decide)
  rw [show rte EX ⟨#[97]⟩ ⟨#[]⟩ 2 3600 = (0, 22) by kernel_rfl] at this; exact this
theorem ua1 : Ctr Try.prog 8 [.sl 4 (List.map eTa [EX]), .fl (.int .i64 9999)] (.tu [.ag (eTa EX), .fl (.int .i64 0)]) := by
  have := at8 [EX] 9999 (by decide) hzE
  rw [show att [EX] 9999 = (EX, 0) by kernel_rfl] at this; exact this
theorem ua2 : Ctr Try.prog 8 [.sl 4 (List.map eTa [EX]), .fl (.int .i64 10000)] (.tu [.ag (eTa zTb), .fl (.int .i64 22)]) := by
  have := at8 [EX] 10000 (by decide) hzE
  rw [show att [EX] 10000 = (zTb, 22) by kernel_rfl] at this; exact this
theorem ub1 : Ctr Try.prog 11 [.ag (eTa EX), .fl (.int .i64 3600)] (.d (.fl (.string ⟨#[112, 101, 97, 107]⟩))) := by
  have := band11 EX 3600 (by decide)
  rw [show bnd EX.bands 3600 = ⟨#[112, 101, 97, 107]⟩ by kernel_rfl] at this; exact this
theorem ub2 : Ctr Try.prog 11 [.ag (eTa EX), .fl (.int .i64 7200)] (.d (.fl (.string ⟨#[]⟩))) := by
  have := band11 EX 7200 (by decide)
  rw [show bnd EX.bands 7200 = ⟨#[]⟩ by kernel_rfl] at this; exact this
theorem ub3 : Ctr Try.prog 11 [.ag (eTa EX), .fl (.int .i64 90000)] (.d (.fl (.string ⟨#[]⟩))) := by
  have := band11 EX 90000 (by decide)
  rw [show bnd EX.bands 90000 = ⟨#[]⟩ by kernel_rfl] at this; exact this
set_option maxHeartbeats 4000000 in
set_option maxRecDepth 100000 in
theorem alive13  : Ctr Try.prog 13 [] (.d (.fl (.bool true))) := by
  refine ctr (n := 100) (rs := #[.tmp 0]) (L := []) Try.func13 rfl rfl rfl rfl rfl (fun w0 U0 => ?_)
  refine a_rseq ?_
  refine rg_put (d := 0) (v := .d (.fl (.bool false))) rfl (og rfl (op_assign rfl rfl rfl)) ?_
  refine rg_done rfl ?_
  refine a_rseq ?_
  refine rg_put (d := 13) (v := .d (.ag (eTa EX))) rfl (og rfl (op_call rfl Try.func21 nm21 rfl .nil example21 rfl)) ?_
  refine rg_nam (d := 1) (v := .pt 101 0) (m := 101) (nw := [(101, .bx 28 [.fl (.int .i64 0), .fl (.int .i64 0), .fl (.slice none 0 0), .fl (.slice none 0 0)])]) rfl (og rfl (of_eff (s_alloc 101 rfl ti28 (by kernel_rfl) rfl) rfl)) rfl ?_
  refine rg_sto (nw := [(101, .bx 28 (eTa EX))]) rfl (og rfl (of_eff (s_store rfl rfl ti28 rfl rfl rfl rfl rfl rfl) rfl)) ?_
  refine rg_done rfl ?_
  refine a_rseq ?_
  refine rg_put (d := 15) (v := .d (.ag (eTa EX))) rfl (og rfl (of_eff (s_load_pts rfl Try.underlying28 rfl ti28 rfl rfl rfl rfl) rfl)) ?_
  refine rg_put (d := 16) (v := .tu [.fl (.int .i64 (200 : Int)), .fl (.int .i64 (0 : Int))]) rfl (og rfl (op_call rfl Try.func14 nm14 rfl (.cons rfl (.d _) (.cons rfl (.d _) (.cons rfl (.d _) (.cons rfl (.d _) (.cons rfl (.d _) .nil))))) ur1 rfl)) ?_
  refine rg_put (d := 14) (v := .tu [.fl (.int .i64 (200 : Int)), .fl (.int .i64 (0 : Int))]) rfl (og rfl (op_move rfl rfl rfl)) ?_
  refine rg_put (d := 17) (v := .d (.fl (.int .i64 (200 : Int)))) rfl (og rfl (op_extract rfl rfl rfl rfl)) ?_
  refine rg_put (d := 18) (v := .d (.fl (.int .i64 (0 : Int)))) rfl (og rfl (op_extract rfl rfl rfl rfl)) ?_
  refine rg_put (d := 2) (v := .d (.fl (.int .i64 (200 : Int)))) rfl (og rfl (op_assign rfl rfl rfl)) ?_
  refine rg_put (d := 3) (v := .d (.fl (.int .i64 (0 : Int)))) rfl (og rfl (op_assign rfl rfl rfl)) ?_
  refine rg_done rfl ?_
  refine a_rseq ?_
  refine rg_put (d := 20) (v := .d (.ag (eTa EX))) rfl (og rfl (of_eff (s_load_pts rfl Try.underlying28 rfl ti28 rfl rfl rfl rfl) rfl)) ?_
  refine rg_put (d := 21) (v := .tu [.fl (.int .i64 (100 : Int)), .fl (.int .i64 (0 : Int))]) rfl (og rfl (op_call rfl Try.func14 nm14 rfl (.cons rfl (.d _) (.cons rfl (.d _) (.cons rfl (.d _) (.cons rfl (.d _) (.cons rfl (.d _) .nil))))) ur2 rfl)) ?_
  refine rg_put (d := 19) (v := .tu [.fl (.int .i64 (100 : Int)), .fl (.int .i64 (0 : Int))]) rfl (og rfl (op_move rfl rfl rfl)) ?_
  refine rg_put (d := 22) (v := .d (.fl (.int .i64 (100 : Int)))) rfl (og rfl (op_extract rfl rfl rfl rfl)) ?_
  refine rg_put (d := 23) (v := .d (.fl (.int .i64 (0 : Int)))) rfl (og rfl (op_extract rfl rfl rfl rfl)) ?_
  refine rg_put (d := 4) (v := .d (.fl (.int .i64 (100 : Int)))) rfl (og rfl (op_assign rfl rfl rfl)) ?_
  refine rg_put (d := 5) (v := .d (.fl (.int .i64 (0 : Int)))) rfl (og rfl (op_assign rfl rfl rfl)) ?_
  refine rg_done rfl ?_
  refine a_rseq ?_
  refine rg_put (d := 25) (v := .d (.ag (eTa EX))) rfl (og rfl (of_eff (s_load_pts rfl Try.underlying28 rfl ti28 rfl rfl rfl rfl) rfl)) ?_
  refine rg_put (d := 26) (v := .tu [.fl (.int .i64 (0 : Int)), .fl (.int .i64 (22 : Int))]) rfl (og rfl (op_call rfl Try.func14 nm14 rfl (.cons rfl (.d _) (.cons rfl (.d _) (.cons rfl (.d _) (.cons rfl (.d _) (.cons rfl (.d _) .nil))))) ur3 rfl)) ?_
  refine rg_put (d := 24) (v := .tu [.fl (.int .i64 (0 : Int)), .fl (.int .i64 (22 : Int))]) rfl (og rfl (op_move rfl rfl rfl)) ?_
  refine rg_put (d := 27) (v := .d (.fl (.int .i64 (0 : Int)))) rfl (og rfl (op_extract rfl rfl rfl rfl)) ?_
  refine rg_put (d := 28) (v := .d (.fl (.int .i64 (22 : Int)))) rfl (og rfl (op_extract rfl rfl rfl rfl)) ?_
  refine rg_put (d := 6) (v := .d (.fl (.int .i64 (0 : Int)))) rfl (og rfl (op_assign rfl rfl rfl)) ?_
  refine rg_put (d := 7) (v := .d (.fl (.int .i64 (22 : Int)))) rfl (og rfl (op_assign rfl rfl rfl)) ?_
  refine rg_done rfl ?_
  refine a_rseq ?_
  refine rg_put (d := 30) (v := .d (.ag (eTa EX))) rfl (og rfl (of_eff (s_load_pts rfl Try.underlying28 rfl ti28 rfl rfl rfl rfl) rfl)) ?_
  refine rg_put (d := 31) (v := .d (.sl 4 (List.map eTa [EX]))) rfl (og rfl (of_eff (op_slices rfl Try.underlying22 ti28 rfl rfl rfl (by kernel_rfl) (xs := [.ag (eTa EX)]) rfl rfl (.cons rfl rfl (.d _) rfl rfl rfl .nil) rfl) rfl)) ?_
  refine rg_put (d := 32) (v := .tu [.ag (eTa EX), .fl (.int .i64 (0 : Int))]) rfl (og rfl (op_call rfl Try.func8 nm8 rfl (.cons rfl (.d _) (.cons rfl (.d _) .nil)) ua1 rfl)) ?_
  refine rg_put (d := 29) (v := .tu [.ag (eTa EX), .fl (.int .i64 (0 : Int))]) rfl (og rfl (op_move rfl rfl rfl)) ?_
  refine rg_put (d := 33) (v := .d (.ag (eTa EX))) rfl (og rfl (op_extract rfl rfl rfl rfl)) ?_
  refine rg_put (d := 34) (v := .d (.fl (.int .i64 (0 : Int)))) rfl (og rfl (op_extract rfl rfl rfl rfl)) ?_
  refine rg_nam (d := 8) (v := .pt 102 0) (m := 102) (nw := [(102, .bx 28 [.fl (.int .i64 0), .fl (.int .i64 0), .fl (.slice none 0 0), .fl (.slice none 0 0)])]) rfl (og rfl (of_eff (s_alloc 102 rfl ti28 (by kernel_rfl) rfl) rfl)) rfl ?_
  refine rg_sto (nw := [(102, .bx 28 (eTa EX))]) rfl (og rfl (of_eff (s_store rfl rfl ti28 rfl rfl rfl rfl rfl rfl) rfl)) ?_
  refine rg_put (d := 9) (v := .d (.fl (.int .i64 (0 : Int)))) rfl (og rfl (op_assign rfl rfl rfl)) ?_
  refine rg_done rfl ?_
  refine a_rseq ?_
  refine rg_put (d := 36) (v := .d (.ag (eTa EX))) rfl (og rfl (of_eff (s_load_pts rfl Try.underlying28 rfl ti28 rfl rfl rfl rfl) rfl)) ?_
  refine rg_put (d := 37) (v := .d (.sl 4 (List.map eTa [EX]))) rfl (og rfl (of_eff (op_slices rfl Try.underlying22 ti28 rfl rfl rfl (by kernel_rfl) (xs := [.ag (eTa EX)]) rfl rfl (.cons rfl rfl (.d _) rfl rfl rfl .nil) rfl) rfl)) ?_
  refine rg_put (d := 38) (v := .tu [.ag (eTa zTb), .fl (.int .i64 (22 : Int))]) rfl (og rfl (op_call rfl Try.func8 nm8 rfl (.cons rfl (.d _) (.cons rfl (.d _) .nil)) ua2 rfl)) ?_
  refine rg_put (d := 35) (v := .tu [.ag (eTa zTb), .fl (.int .i64 (22 : Int))]) rfl (og rfl (op_move rfl rfl rfl)) ?_
  refine rg_put (d := 39) (v := .d (.ag (eTa zTb))) rfl (og rfl (op_extract rfl rfl rfl rfl)) ?_
  refine rg_put (d := 40) (v := .d (.fl (.int .i64 (22 : Int)))) rfl (og rfl (op_extract rfl rfl rfl rfl)) ?_
  refine rg_nam (d := 10) (v := .pt 103 0) (m := 103) (nw := [(103, .bx 28 [.fl (.int .i64 0), .fl (.int .i64 0), .fl (.slice none 0 0), .fl (.slice none 0 0)])]) rfl (og rfl (of_eff (s_alloc 103 rfl ti28 (by kernel_rfl) rfl) rfl)) rfl ?_
  refine rg_sto (nw := [(103, .bx 28 (eTa zTb))]) rfl (og rfl (of_eff (s_store rfl rfl ti28 rfl rfl rfl rfl rfl rfl) rfl)) ?_
  refine rg_put (d := 11) (v := .d (.fl (.int .i64 (22 : Int)))) rfl (og rfl (op_assign rfl rfl rfl)) ?_
  refine rg_done rfl ?_
  refine a_seq ?_
  refine a_rseq ?_
  refine rg_put (d := 41) (v := .d (.fl (.int .i64 (200 : Int)))) rfl (og rfl (op_move rfl rfl rfl)) ?_
  refine rg_put (d := 42) (v := .d (.fl (.bool false))) rfl (og rfl (op_bin rfl rfl rfl (b_neq _ _ _ _) rfl)) ?_
  refine rg_put (d := 43) (v := .d (.fl (.bool false))) rfl (og rfl (op_move rfl rfl rfl)) ?_
  refine rg_put (d := 44) (v := .d (.fl (.int .i64 (0 : Int)))) rfl (oy rfl rfl rfl rfl (op_move rfl rfl rfl)) ?_
  refine rg_put (d := 45) (v := .d (.fl (.bool false))) rfl (oy rfl rfl rfl rfl (op_bin rfl rfl rfl (b_neq _ _ _ _) rfl)) ?_
  refine rg_put (d := 46) (v := .d (.fl (.bool false))) rfl (og rfl (op_pick rfl rfl rfl rfl)) ?_
  refine rg_put (d := 47) (v := .d (.fl (.bool false))) rfl (og rfl (op_move rfl rfl rfl)) ?_
  refine rg_put (d := 48) (v := .d (.fl (.int .i64 (100 : Int)))) rfl (oy rfl rfl rfl rfl (op_move rfl rfl rfl)) ?_
  refine rg_put (d := 49) (v := .d (.fl (.bool false))) rfl (oy rfl rfl rfl rfl (op_bin rfl rfl rfl (b_neq _ _ _ _) rfl)) ?_
  refine rg_put (d := 50) (v := .d (.fl (.bool false))) rfl (og rfl (op_pick rfl rfl rfl rfl)) ?_
  refine rg_put (d := 51) (v := .d (.fl (.bool false))) rfl (og rfl (op_move rfl rfl rfl)) ?_
  refine rg_put (d := 52) (v := .d (.fl (.int .i64 (0 : Int)))) rfl (oy rfl rfl rfl rfl (op_move rfl rfl rfl)) ?_
  refine rg_put (d := 53) (v := .d (.fl (.bool false))) rfl (oy rfl rfl rfl rfl (op_bin rfl rfl rfl (b_neq _ _ _ _) rfl)) ?_
  refine rg_put (d := 54) (v := .d (.fl (.bool false))) rfl (og rfl (op_pick rfl rfl rfl rfl)) ?_
  refine rg_put (d := 55) (v := .d (.fl (.bool false))) rfl (og rfl (op_move rfl rfl rfl)) ?_
  refine rg_put (d := 56) (v := .d (.fl (.int .i64 (22 : Int)))) rfl (oy rfl rfl rfl rfl (op_move rfl rfl rfl)) ?_
  refine rg_put (d := 57) (v := .d (.fl (.bool false))) rfl (oy rfl rfl rfl rfl (op_bin rfl rfl rfl (b_neq _ _ _ _) rfl)) ?_
  refine rg_put (d := 58) (v := .d (.fl (.bool false))) rfl (og rfl (op_pick rfl rfl rfl rfl)) ?_
  refine rg_put (d := 59) (v := .d (.fl (.bool false))) rfl (og rfl (op_move rfl rfl rfl)) ?_
  refine rg_put (d := 60) (v := .d (.fl (.int .i64 (0 : Int)))) rfl (oy rfl rfl rfl rfl (op_move rfl rfl rfl)) ?_
  refine rg_put (d := 61) (v := .d (.fl (.bool false))) rfl (oy rfl rfl rfl rfl (op_bin rfl rfl rfl (b_neq _ _ _ _) rfl)) ?_
  refine rg_put (d := 62) (v := .d (.fl (.bool false))) rfl (og rfl (op_pick rfl rfl rfl rfl)) ?_
  refine rg_put (d := 63) (v := .d (.fl (.bool false))) rfl (og rfl (op_move rfl rfl rfl)) ?_
  refine rg_put (d := 64) (v := .d (.ag (eTa EX))) rfl (oy rfl rfl rfl rfl (of_eff (s_load_pts rfl Try.underlying28 rfl ti28 rfl rfl rfl rfl) rfl)) ?_
  refine rg_put (d := 65) (v := .d (.ag (eTa EX))) rfl (oy rfl rfl rfl rfl (of_eff (s_load_pts rfl Try.underlying28 rfl ti28 rfl rfl rfl rfl) rfl)) ?_
  refine rg_put (d := 66) (v := .d (.fl (.bool true))) rfl (oy rfl rfl rfl rfl (op_call rfl Try.func10 nm10 rfl (.cons rfl (.d _) (.cons rfl (.d _) .nil)) (same10 EX (by decide) (by decide)) rfl)) ?_
  refine rg_put (d := 67) (v := .d (.fl (.bool false))) rfl (oy rfl rfl rfl rfl (op_un rfl rfl (u_not _) rfl)) ?_
  refine rg_put (d := 68) (v := .d (.fl (.bool false))) rfl (og rfl (op_pick rfl rfl rfl rfl)) ?_
  refine rg_put (d := 69) (v := .d (.fl (.bool false))) rfl (og rfl (op_move rfl rfl rfl)) ?_
  refine rg_put (d := 70) (v := .d (.fl (.int .i64 (22 : Int)))) rfl (oy rfl rfl rfl rfl (op_move rfl rfl rfl)) ?_
  refine rg_put (d := 71) (v := .d (.fl (.bool false))) rfl (oy rfl rfl rfl rfl (op_bin rfl rfl rfl (b_neq _ _ _ _) rfl)) ?_
  refine rg_put (d := 72) (v := .d (.fl (.bool false))) rfl (og rfl (op_pick rfl rfl rfl rfl)) ?_
  refine rg_done rfl ?_
  refine a_condF rfl rfl ?_
  refine a_skip ?_
  show A _ _ _ _ _ _ _
  refine a_rseq ?_
  refine rg_put (d := 73) (v := .d (.ag (eTa EX))) rfl (og rfl (of_eff (s_load_pts rfl Try.underlying28 rfl ti28 rfl rfl rfl rfl) rfl)) ?_
  refine rg_put (d := 74) (v := .d (.sl 5 (List.map eRt ([R1, R0] : List Rt)))) rfl (og rfl (op_call rfl Try.func22 nm22 rfl (.cons rfl (.d _) (.cons rfl (.d _) .nil)) rates22 rfl)) ?_
  refine rg_put (d := 12) (v := .d (.sl 5 (List.map eRt ([R1, R0] : List Rt)))) rfl (og rfl (op_assign rfl rfl rfl)) ?_
  refine rg_done rfl ?_
  refine a_rseq ?_
  refine rg_put (d := 75) (v := .d (.ag (eTa EX))) rfl (og rfl (of_eff (s_load_pts rfl Try.underlying28 rfl ti28 rfl rfl rfl rfl) rfl)) ?_
  refine rg_put (d := 76) (v := .d (.fl (.string (⟨#[112, 101, 97, 107]⟩)))) rfl (og rfl (op_call rfl Try.func11 nm11 rfl (.cons rfl (.d _) (.cons rfl (.d _) .nil)) ub1 rfl)) ?_
  refine rg_put (d := 77) (v := .d (.fl (.bool true))) rfl (og rfl (op_bin rfl rfl rfl (b_seq _ _ _) rfl)) ?_
  refine rg_put (d := 78) (v := .d (.fl (.bool true))) rfl (og rfl (op_move rfl rfl rfl)) ?_
  refine rg_put (d := 79) (v := .d (.ag (eTa EX))) rfl (oy rfl rfl rfl rfl (of_eff (s_load_pts rfl Try.underlying28 rfl ti28 rfl rfl rfl rfl) rfl)) ?_
  refine rg_put (d := 80) (v := .d (.fl (.string (⟨#[]⟩)))) rfl (oy rfl rfl rfl rfl (op_call rfl Try.func11 nm11 rfl (.cons rfl (.d _) (.cons rfl (.d _) .nil)) ub2 rfl)) ?_
  refine rg_put (d := 81) (v := .d (.fl (.bool true))) rfl (oy rfl rfl rfl rfl (op_bin rfl rfl rfl (b_seq _ _ _) rfl)) ?_
  refine rg_put (d := 82) (v := .d (.fl (.bool true))) rfl (og rfl (op_pick rfl rfl rfl rfl)) ?_
  refine rg_put (d := 83) (v := .d (.fl (.bool true))) rfl (og rfl (op_move rfl rfl rfl)) ?_
  refine rg_put (d := 84) (v := .d (.ag (eTa EX))) rfl (oy rfl rfl rfl rfl (of_eff (s_load_pts rfl Try.underlying28 rfl ti28 rfl rfl rfl rfl) rfl)) ?_
  refine rg_put (d := 85) (v := .d (.fl (.string (⟨#[]⟩)))) rfl (oy rfl rfl rfl rfl (op_call rfl Try.func11 nm11 rfl (.cons rfl (.d _) (.cons rfl (.d _) .nil)) ub3 rfl)) ?_
  refine rg_put (d := 86) (v := .d (.fl (.bool true))) rfl (oy rfl rfl rfl rfl (op_bin rfl rfl rfl (b_seq _ _ _) rfl)) ?_
  refine rg_put (d := 87) (v := .d (.fl (.bool true))) rfl (og rfl (op_pick rfl rfl rfl rfl)) ?_
  refine rg_put (d := 88) (v := .d (.fl (.bool true))) rfl (og rfl (op_move rfl rfl rfl)) ?_
  refine rg_put (d := 89) (v := .d (.sl 5 (List.map eRt ([R1, R0] : List Rt)))) rfl (oy rfl rfl rfl rfl (op_move rfl rfl rfl)) ?_
  refine rg_put (d := 90) (v := .d (.fl (.int .i64 ((([R1, R0] : List Rt).length : Int))))) rfl (oy rfl rfl rfl rfl (s_len rfl Try.underlying26 rfl rfl)) ?_
  refine rg_put (d := 91) (v := .d (.fl (.bool true))) rfl (oy rfl rfl rfl rfl (op_bin rfl rfl rfl (b_eql _ _ _ _) rfl)) ?_
  refine rg_put (d := 92) (v := .d (.fl (.bool true))) rfl (og rfl (op_pick rfl rfl rfl rfl)) ?_
  refine rg_put (d := 93) (v := .d (.fl (.bool true))) rfl (og rfl (op_move rfl rfl rfl)) ?_
  refine rg_put (d := 94) (v := .d (.sl 5 (List.map eRt ([R1, R0] : List Rt)))) rfl (oy rfl rfl rfl rfl (op_move rfl rfl rfl)) ?_
  refine rg_put (d := 95) (v := .el ((eRt ((ix ([R1, R0] : List Rt) 0))))) rfl (oy rfl rfl rfl rfl (s_index rfl Try.underlying26 ti46 rfl rfl (by decide) (row_at (by decide)) rfl)) ?_
  refine rg_put (d := 96) (v := .el ((List.drop 4 ((eRt ((ix ([R1, R0] : List Rt) 0))))))) rfl (oy rfl rfl rfl rfl (of_eff (s_field_el rfl Try.underlying46 rfl ti3 rfl rfl rfl) rfl)) ?_
  refine rg_put (d := 97) (v := .d (.fl (.int .i64 (((ix ([R1, R0] : List Rt) 0)).cents)))) rfl (oy rfl rfl rfl rfl (op_load_el rfl Try.underlying3 rfl rfl rfl rfl)) ?_
  refine rg_put (d := 98) (v := .d (.fl (.bool true))) rfl (oy rfl rfl rfl rfl (op_bin rfl rfl rfl (b_eql _ _ _ _) rfl)) ?_
  refine rg_put (d := 99) (v := .d (.fl (.bool true))) rfl (og rfl (op_pick rfl rfl rfl rfl)) ?_
  refine rg_put (d := 0) (v := .d (.fl (.bool true))) rfl (og rfl (op_assign rfl rfl rfl)) ?_
  refine rg_done rfl ?_
  refine a_ret ?_
  show ∃ ds, ResL _ _ _ ds ∧ RV.of ds = _
  refine ⟨[.fl (.bool true)], (.cons (.tmp rfl (.d _)) .nil), ?_⟩
  rfl
end Go.Proofs.Ytgcagigpolnjfaa.Wk
