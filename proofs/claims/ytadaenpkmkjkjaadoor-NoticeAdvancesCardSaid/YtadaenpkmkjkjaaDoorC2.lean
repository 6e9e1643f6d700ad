/- The law of advancing. No condition. -/
import Derived.Test.YtadaenpkmkjkjaaDoorB10
import Derived.Test.YtadaenpkmkjkjaaDoorC1
set_option linter.unusedSimpArgs false
set_option linter.unusedVariables false
namespace Go.Proofs.YtadaenpkmkjkjaaDoor.Wk
open Go Go.RowKit Go.Proofs.YtadaenpkmkjkjaaDoor.Av
set_option maxHeartbeats 4000000 in
set_option maxRecDepth 100000 in
theorem law5 (m : Mv) (day : Int) : Ctr Tryd.prog 5 [.ag (eMv m), .fl (.int .i64 day)] (.d (.fl (.bool true))) := by
  refine ctr (n := 94) (rs := #[.tmp 4]) (L := [(0, .d (.ag (eMv m))), (1, .d (.fl (.int .i64 day)))]) Tryd.func5 rfl rfl rfl rfl rfl (fun w0 U0 => ?_)
  refine a_rseq ?_
  refine rg_nam (d := 2) (v := .pt 101 0) (m := 101) (nw := [(101, .bx 44 (eMv m))]) rfl (og rfl (of_eff (op_box 101 rfl rfl rfl rfl) rfl)) rfl ?_
  refine rg_put (d := 4) (v := .d (.fl (.bool false))) rfl (og rfl (op_assign rfl rfl rfl)) ?_
  refine rg_done rfl ?_
  refine a_seq ?_
  refine a_rseq ?_
  refine rg_put (d := 13) (v := .pt 101 0) rfl (og rfl (of_eff (s_field_pt rfl Tryd.underlying44 rfl ti24 rfl rfl rfl) rfl)) ?_
  refine rg_put (d := 14) (v := .d (.ag (eLw m.law))) rfl (og rfl (of_eff (s_load_pts rfl Tryd.underlying24 rfl ti24 rfl rfl rfl rfl) rfl)) ?_
  refine rg_put (d := 15) (v := .pt 101 3) rfl (og rfl (of_eff (s_field_pt rfl Tryd.underlying44 rfl ti22 rfl rfl rfl) rfl)) ?_
  refine rg_put (d := 16) (v := .d (.sl 1 (List.map (rI .i64) m.cal))) rfl (og rfl (op_load_pt rfl Tryd.underlying22 rfl rfl rfl rfl rfl)) ?_
  refine rg_put (d := 17) (v := .pt 101 4) rfl (og rfl (of_eff (s_field_pt rfl Tryd.underlying44 rfl ti29 rfl rfl rfl) rfl)) ?_
  refine rg_put (d := 18) (v := .d (.ag (eCs m.x))) rfl (og rfl (of_eff (s_load_pts rfl Tryd.underlying29 rfl ti29 rfl rfl rfl rfl) rfl)) ?_
  refine rg_put (d := 19) (v := .d (.fl (.bool (fw m.law m.cal m.x)))) rfl (og rfl (op_call rfl Tryd.func10 nm10 rfl (.cons rfl (.d _) (.cons rfl (.d _) (.cons rfl (.d _) .nil))) (fw10 m.law m.cal m.x) rfl)) ?_
  refine rg_put (d := 20) (v := .d (.fl (.bool ((!(fw m.law m.cal m.x)))))) rfl (og rfl (op_un rfl rfl (u_not _) rfl)) ?_
  refine rg_done rfl ?_
  refine a_cond rfl (fun h1 => ?_) (fun h1 => ?_)
  · skip
    have h2 := t_not h1
    refine a_rseq ?_
    refine rg_put (d := 21) (v := .d (.fl (.bool true))) rfl (og rfl (op_call rfl Tryd.func11 nm11 rfl .nil awake11 rfl)) ?_
    refine rg_put (d := 4) (v := .d (.fl (.bool true))) rfl (og rfl (op_assign rfl rfl rfl)) ?_
    refine rg_done rfl ?_
    refine a_ret ?_
    show ∃ ds, ResL _ _ _ ds ∧ RV.of ds = _
    refine ⟨[.fl (.bool true)], (.cons (.tmp rfl (.d _)) .nil), ?_⟩
    rfl
  · skip
    have h3 := f_not h1
    have hcl := fw_t h3
    refine a_skip ?_
    show A _ _ _ _ _ _ _
    refine a_rseq ?_
    refine rg_put (d := 23) (v := .pt 101 0) rfl (og rfl (of_eff (s_field_pt rfl Tryd.underlying44 rfl ti24 rfl rfl rfl) rfl)) ?_
    refine rg_put (d := 24) (v := .d (.ag (eLw m.law))) rfl (og rfl (of_eff (s_load_pts rfl Tryd.underlying24 rfl ti24 rfl rfl rfl rfl) rfl)) ?_
    refine rg_put (d := 25) (v := .pt 101 3) rfl (og rfl (of_eff (s_field_pt rfl Tryd.underlying44 rfl ti22 rfl rfl rfl) rfl)) ?_
    refine rg_put (d := 26) (v := .d (.sl 1 (List.map (rI .i64) m.cal))) rfl (og rfl (op_load_pt rfl Tryd.underlying22 rfl rfl rfl rfl rfl)) ?_
    refine rg_put (d := 27) (v := .pt 101 4) rfl (og rfl (of_eff (s_field_pt rfl Tryd.underlying44 rfl ti29 rfl rfl rfl) rfl)) ?_
    refine rg_put (d := 28) (v := .d (.ag (eCs m.x))) rfl (og rfl (of_eff (s_load_pts rfl Tryd.underlying29 rfl ti29 rfl rfl rfl rfl) rfl)) ?_
    refine rg_put (d := 29) (v := .d (.fl (.int .i64 day))) rfl (og rfl (op_move rfl rfl rfl)) ?_
    refine rg_put (d := 30) (v := .tu [.ag (eCs ((adv m.law m.cal m.x day).1)), .fl (.int .i64 ((adv m.law m.cal m.x day).2))]) rfl (og rfl (op_call rfl Tryd.func17 nm17 rfl (.cons rfl (.d _) (.cons rfl (.d _) (.cons rfl (.d _) (.cons rfl (.d _) .nil)))) (adv17 m.law m.cal m.x day (by omega)) rfl)) ?_
    refine rg_put (d := 22) (v := .tu [.ag (eCs ((adv m.law m.cal m.x day).1)), .fl (.int .i64 ((adv m.law m.cal m.x day).2))]) rfl (og rfl (op_move rfl rfl rfl)) ?_
    refine rg_put (d := 31) (v := .d (.ag (eCs ((adv m.law m.cal m.x day).1)))) rfl (og rfl (op_extract rfl rfl rfl rfl)) ?_
    refine rg_put (d := 32) (v := .d (.fl (.int .i64 ((adv m.law m.cal m.x day).2)))) rfl (og rfl (op_extract rfl rfl rfl rfl)) ?_
    refine rg_nam (d := 5) (v := .pt 102 0) (m := 102) (nw := [(102, .bx 29 ([.fl (.string (⟨#[]⟩)), .fl (.string (⟨#[]⟩)), .fl (.string (⟨#[]⟩)), .fl (.int .i64 0), .fl (.int .i64 0), .fl (.int .i64 0), .fl (.int .i64 0), .fl (.int .i64 0), .fl (.int .i64 0), .fl (.int .i64 0), .fl (.int .i64 0), .fl (.int .i64 0)]))]) rfl (og rfl (of_eff (s_alloc 102 rfl ti29 (by kernel_rfl) rfl) rfl)) rfl ?_
    refine rg_sto (nw := [(102, .bx 29 ((eCs ((adv m.law m.cal m.x day).1))))]) rfl (og rfl (of_eff (s_store rfl rfl ti29 rfl rfl rfl rfl rfl rfl) rfl)) ?_
    refine rg_put (d := 6) (v := .d (.fl (.int .i64 ((adv m.law m.cal m.x day).2)))) rfl (og rfl (op_assign rfl rfl rfl)) ?_
    refine rg_done rfl ?_
    refine a_rseq ?_
    refine rg_put (d := 34) (v := .pt 101 0) rfl (og rfl (of_eff (s_field_pt rfl Tryd.underlying44 rfl ti24 rfl rfl rfl) rfl)) ?_
    refine rg_put (d := 35) (v := .d (.ag (eLw m.law))) rfl (og rfl (of_eff (s_load_pts rfl Tryd.underlying24 rfl ti24 rfl rfl rfl rfl) rfl)) ?_
    refine rg_put (d := 36) (v := .pt 101 3) rfl (og rfl (of_eff (s_field_pt rfl Tryd.underlying44 rfl ti22 rfl rfl rfl) rfl)) ?_
    refine rg_put (d := 37) (v := .d (.sl 1 (List.map (rI .i64) m.cal))) rfl (og rfl (op_load_pt rfl Tryd.underlying22 rfl rfl rfl rfl rfl)) ?_
    refine rg_put (d := 38) (v := .pt 101 4) rfl (og rfl (of_eff (s_field_pt rfl Tryd.underlying44 rfl ti29 rfl rfl rfl) rfl)) ?_
    refine rg_put (d := 39) (v := .d (.ag (eCs m.x))) rfl (og rfl (of_eff (s_load_pts rfl Tryd.underlying29 rfl ti29 rfl rfl rfl rfl) rfl)) ?_
    refine rg_put (d := 40) (v := .d (.fl (.int .i64 day))) rfl (og rfl (op_move rfl rfl rfl)) ?_
    refine rg_put (d := 41) (v := .tu [.ag (eCs ((adv m.law m.cal m.x day).1)), .fl (.int .i64 ((adv m.law m.cal m.x day).2))]) rfl (og rfl (op_call rfl Tryd.func18 nm18 rfl (.cons rfl (.d _) (.cons rfl (.d _) (.cons rfl (.d _) (.cons rfl (.d _) .nil)))) (adv18 m.law m.cal m.x day (by omega)) rfl)) ?_
    refine rg_put (d := 33) (v := .tu [.ag (eCs ((adv m.law m.cal m.x day).1)), .fl (.int .i64 ((adv m.law m.cal m.x day).2))]) rfl (og rfl (op_move rfl rfl rfl)) ?_
    refine rg_put (d := 42) (v := .d (.ag (eCs ((adv m.law m.cal m.x day).1)))) rfl (og rfl (op_extract rfl rfl rfl rfl)) ?_
    refine rg_put (d := 43) (v := .d (.fl (.int .i64 ((adv m.law m.cal m.x day).2)))) rfl (og rfl (op_extract rfl rfl rfl rfl)) ?_
    refine rg_nam (d := 7) (v := .pt 103 0) (m := 103) (nw := [(103, .bx 29 ([.fl (.string (⟨#[]⟩)), .fl (.string (⟨#[]⟩)), .fl (.string (⟨#[]⟩)), .fl (.int .i64 0), .fl (.int .i64 0), .fl (.int .i64 0), .fl (.int .i64 0), .fl (.int .i64 0), .fl (.int .i64 0), .fl (.int .i64 0), .fl (.int .i64 0), .fl (.int .i64 0)]))]) rfl (og rfl (of_eff (s_alloc 103 rfl ti29 (by kernel_rfl) rfl) rfl)) rfl ?_
    refine rg_sto (nw := [(103, .bx 29 ((eCs ((adv m.law m.cal m.x day).1))))]) rfl (og rfl (of_eff (s_store rfl rfl ti29 rfl rfl rfl rfl rfl rfl) rfl)) ?_
    refine rg_put (d := 8) (v := .d (.fl (.int .i64 ((adv m.law m.cal m.x day).2)))) rfl (og rfl (op_assign rfl rfl rfl)) ?_
    refine rg_done rfl ?_
    refine a_rseq ?_
    refine rg_put (d := 45) (v := .pt 101 0) rfl (og rfl (of_eff (s_field_pt rfl Tryd.underlying44 rfl ti24 rfl rfl rfl) rfl)) ?_
    refine rg_put (d := 46) (v := .d (.ag (eLw m.law))) rfl (og rfl (of_eff (s_load_pts rfl Tryd.underlying24 rfl ti24 rfl rfl rfl rfl) rfl)) ?_
    refine rg_put (d := 47) (v := .pt 101 3) rfl (og rfl (of_eff (s_field_pt rfl Tryd.underlying44 rfl ti22 rfl rfl rfl) rfl)) ?_
    refine rg_put (d := 48) (v := .d (.sl 1 (List.map (rI .i64) m.cal))) rfl (og rfl (op_load_pt rfl Tryd.underlying22 rfl rfl rfl rfl rfl)) ?_
    refine rg_put (d := 49) (v := .pt 101 4) rfl (og rfl (of_eff (s_field_pt rfl Tryd.underlying44 rfl ti29 rfl rfl rfl) rfl)) ?_
    refine rg_put (d := 50) (v := .d (.ag (eCs m.x))) rfl (og rfl (of_eff (s_load_pts rfl Tryd.underlying29 rfl ti29 rfl rfl rfl rfl) rfl)) ?_
    refine rg_put (d := 51) (v := .tu [.fl (.int .i64 ((due m.law m.cal m.x).1)), .fl (.bool ((due m.law m.cal m.x).2))]) rfl (og rfl (op_call rfl Tryd.func19 nm19 rfl (.cons rfl (.d _) (.cons rfl (.d _) (.cons rfl (.d _) .nil))) (due19 m.law m.cal m.x (by omega)) rfl)) ?_
    refine rg_put (d := 44) (v := .tu [.fl (.int .i64 ((due m.law m.cal m.x).1)), .fl (.bool ((due m.law m.cal m.x).2))]) rfl (og rfl (op_move rfl rfl rfl)) ?_
    refine rg_put (d := 52) (v := .d (.fl (.int .i64 ((due m.law m.cal m.x).1)))) rfl (og rfl (op_extract rfl rfl rfl rfl)) ?_
    refine rg_put (d := 53) (v := .d (.fl (.bool ((due m.law m.cal m.x).2)))) rfl (og rfl (op_extract rfl rfl rfl rfl)) ?_
    refine rg_put (d := 9) (v := .d (.fl (.int .i64 ((due m.law m.cal m.x).1)))) rfl (og rfl (op_assign rfl rfl rfl)) ?_
    refine rg_put (d := 10) (v := .d (.fl (.bool ((due m.law m.cal m.x).2)))) rfl (og rfl (op_assign rfl rfl rfl)) ?_
    refine rg_done rfl ?_
    refine a_rseq ?_
    refine rg_put (d := 55) (v := .pt 101 0) rfl (og rfl (of_eff (s_field_pt rfl Tryd.underlying44 rfl ti24 rfl rfl rfl) rfl)) ?_
    refine rg_put (d := 56) (v := .d (.ag (eLw m.law))) rfl (og rfl (of_eff (s_load_pts rfl Tryd.underlying24 rfl ti24 rfl rfl rfl rfl) rfl)) ?_
    refine rg_put (d := 57) (v := .pt 101 3) rfl (og rfl (of_eff (s_field_pt rfl Tryd.underlying44 rfl ti22 rfl rfl rfl) rfl)) ?_
    refine rg_put (d := 58) (v := .d (.sl 1 (List.map (rI .i64) m.cal))) rfl (og rfl (op_load_pt rfl Tryd.underlying22 rfl rfl rfl rfl rfl)) ?_
    refine rg_put (d := 59) (v := .pt 101 4) rfl (og rfl (of_eff (s_field_pt rfl Tryd.underlying44 rfl ti29 rfl rfl rfl) rfl)) ?_
    refine rg_put (d := 60) (v := .d (.ag (eCs m.x))) rfl (og rfl (of_eff (s_load_pts rfl Tryd.underlying29 rfl ti29 rfl rfl rfl rfl) rfl)) ?_
    refine rg_put (d := 61) (v := .tu [.fl (.int .i64 ((due m.law m.cal m.x).1)), .fl (.bool ((due m.law m.cal m.x).2))]) rfl (og rfl (op_call rfl Tryd.func20 nm20 rfl (.cons rfl (.d _) (.cons rfl (.d _) (.cons rfl (.d _) .nil))) (due20 m.law m.cal m.x (by omega)) rfl)) ?_
    refine rg_put (d := 54) (v := .tu [.fl (.int .i64 ((due m.law m.cal m.x).1)), .fl (.bool ((due m.law m.cal m.x).2))]) rfl (og rfl (op_move rfl rfl rfl)) ?_
    refine rg_put (d := 62) (v := .d (.fl (.int .i64 ((due m.law m.cal m.x).1)))) rfl (og rfl (op_extract rfl rfl rfl rfl)) ?_
    refine rg_put (d := 63) (v := .d (.fl (.bool ((due m.law m.cal m.x).2)))) rfl (og rfl (op_extract rfl rfl rfl rfl)) ?_
    refine rg_put (d := 11) (v := .d (.fl (.int .i64 ((due m.law m.cal m.x).1)))) rfl (og rfl (op_assign rfl rfl rfl)) ?_
    refine rg_put (d := 12) (v := .d (.fl (.bool ((due m.law m.cal m.x).2)))) rfl (og rfl (op_assign rfl rfl rfl)) ?_
    refine rg_done rfl ?_
    refine a_dseq (by kernel_rfl) ?_
    refine dr_put (d := 64) (v := .d (.fl (.int .i64 ((adv m.law m.cal m.x day).2)))) rfl (og rfl (op_move rfl rfl rfl)) ?_
    refine dr_put (d := 65) (v := .d (.fl (.int .i64 ((adv m.law m.cal m.x day).2)))) rfl (og rfl (op_move rfl rfl rfl)) ?_
    refine dr_put (d := 66) (v := .d (.fl (.bool (((adv m.law m.cal m.x day).2 == (adv m.law m.cal m.x day).2))))) rfl (og rfl (op_bin rfl rfl rfl (b_eql _ _ _ _) rfl)) ?_
    refine dr_put (d := 67) (v := .d (.fl (.bool (((adv m.law m.cal m.x day).2 == (adv m.law m.cal m.x day).2))))) rfl (og rfl (op_move rfl rfl rfl)) ?_
    refine dr_put (d := 68) (v := .d (.ag (eCs (((adv m.law m.cal m.x day).1))))) rfl (oy rfl rfl rfl (eq_self_b _) (of_eff (s_load_pts rfl Tryd.underlying29 rfl ti29 rfl rfl rfl rfl) rfl)) ?_
    refine dr_put (d := 69) (v := .d (.ag (eCs (((adv m.law m.cal m.x day).1))))) rfl (oy rfl rfl rfl (eq_self_b _) (of_eff (s_load_pts rfl Tryd.underlying29 rfl ti29 rfl rfl rfl rfl) rfl)) ?_
    refine dr_put (d := 70) (v := .d (.fl (.bool true))) rfl (oy rfl rfl rfl (eq_self_b _) (op_call rfl Tryd.func16 nm16 rfl (.cons rfl (.d _) (.cons rfl (.d _) .nil)) (same_self (((adv m.law m.cal m.x day).1))) rfl)) ?_
    refine dr_put (d := 71) (v := .d (.fl (.bool true))) rfl (og rfl (op_pick rfl rfl (by rw [(eq_self_b _)]; rfl) rfl)) ?_
    refine dr_put (d := 72) (v := .d (.fl (.bool true))) rfl (og rfl (op_move rfl rfl rfl)) ?_
    refine dr_put (d := 73) (v := .d (.fl (.bool ((due m.law m.cal m.x).2)))) rfl (oy rfl rfl rfl rfl (op_move rfl rfl rfl)) ?_
    refine dr_put (d := 74) (v := .d (.fl (.bool ((due m.law m.cal m.x).2)))) rfl (oy rfl rfl rfl rfl (op_move rfl rfl rfl)) ?_
    refine dr_put (d := 75) (v := .d (.fl (.bool (((due m.law m.cal m.x).2 == (due m.law m.cal m.x).2))))) rfl (oy rfl rfl rfl rfl (op_bin rfl rfl rfl (fun x y w => b_beq _ _ _ x y w Tryd.underlying4) rfl)) ?_
    refine dr_put (d := 76) (v := .d (.fl (.bool (((due m.law m.cal m.x).2 == (due m.law m.cal m.x).2))))) rfl (og rfl (op_pick rfl rfl rfl rfl)) ?_
    refine dr_put (d := 77) (v := .d (.fl (.bool (((due m.law m.cal m.x).2 == (due m.law m.cal m.x).2))))) rfl (og rfl (op_move rfl rfl rfl)) ?_
    refine dr_put (d := 78) (v := .d (.fl (.int .i64 ((due m.law m.cal m.x).1)))) rfl (oy rfl rfl rfl (eq_self_bb _) (op_move rfl rfl rfl)) ?_
    refine dr_put (d := 79) (v := .d (.fl (.int .i64 ((due m.law m.cal m.x).1)))) rfl (oy rfl rfl rfl (eq_self_bb _) (op_move rfl rfl rfl)) ?_
    refine dr_put (d := 80) (v := .d (.fl (.bool (((due m.law m.cal m.x).1 == (due m.law m.cal m.x).1))))) rfl (oy rfl rfl rfl (eq_self_bb _) (op_bin rfl rfl rfl (b_eql _ _ _ _) rfl)) ?_
    refine dr_put (d := 81) (v := .d (.fl (.bool (((due m.law m.cal m.x).1 == (due m.law m.cal m.x).1))))) rfl (og rfl (op_pick rfl rfl (by rw [(eq_self_bb _)]; rfl) rfl)) ?_
    refine dr_put (d := 82) (v := .d (.fl (.bool (((due m.law m.cal m.x).1 == (due m.law m.cal m.x).1))))) rfl (og rfl (op_move rfl rfl rfl)) ?_
    refine dr_put (d := 83) (v := .pt 101 4) rfl (oy rfl rfl rfl (eq_self_b _) (of_eff (s_field_pt rfl Tryd.underlying44 rfl ti29 rfl rfl rfl) rfl)) ?_
    refine dr_put (d := 84) (v := .d (.ag (eCs m.x))) rfl (oy rfl rfl rfl (eq_self_b _) (of_eff (s_load_pts rfl Tryd.underlying29 rfl ti29 rfl rfl rfl rfl) rfl)) ?_
    refine dr_put (d := 85) (v := .d (.fl (.bool (opn m.x)))) rfl (oy rfl rfl rfl (eq_self_b _) (op_call rfl Tryd.func21 nm21 rfl (.cons rfl (.d _) .nil) (opn21 m.x) rfl)) ?_
    refine dr_put (d := 86) (v := .pt 101 4) rfl (oy rfl rfl rfl (eq_self_b _) (of_eff (s_field_pt rfl Tryd.underlying44 rfl ti29 rfl rfl rfl) rfl)) ?_
    refine dr_put (d := 87) (v := .d (.ag (eCs m.x))) rfl (oy rfl rfl rfl (eq_self_b _) (of_eff (s_load_pts rfl Tryd.underlying29 rfl ti29 rfl rfl rfl rfl) rfl)) ?_
    refine dr_put (d := 88) (v := .d (.fl (.bool (opn m.x)))) rfl (oy rfl rfl rfl (eq_self_b _) (op_call rfl Tryd.func22 nm22 rfl (.cons rfl (.d _) .nil) (opn22 m.x) rfl)) ?_
    refine dr_put (d := 89) (v := .d (.fl (.bool (((opn m.x) == (opn m.x)))))) rfl (oy rfl rfl rfl (eq_self_b _) (op_bin rfl rfl rfl (fun x y w => b_beq _ _ _ x y w Tryd.underlying4) rfl)) ?_
    refine dr_put (d := 90) (v := .d (.fl (.bool (((opn m.x) == (opn m.x)))))) rfl (og rfl (op_pick rfl rfl (by rw [(eq_self_b _)]; rfl) rfl)) ?_
    refine dr_put (d := 91) (v := .d (.fl (.bool (((opn m.x) == (opn m.x)))))) rfl (og rfl (op_move rfl rfl rfl)) ?_
    refine dr_put (d := 92) (v := .d (.fl (.bool true))) rfl (oy rfl rfl rfl (eq_self_bb _) (op_call rfl Tryd.func11 nm11 rfl .nil awake11 rfl)) ?_
    refine dr_put (d := 93) (v := .d (.fl (.bool true))) rfl (og rfl (op_pick rfl rfl (by rw [(eq_self_bb _)]; rfl) rfl)) ?_
    refine dr_put (d := 4) (v := .d (.fl (.bool true))) rfl (og rfl (op_assign rfl rfl rfl)) ?_
    refine dr_done rfl (sepB_of [0, 0, 3, 7, 15, 15, 63, 127, 255, 511, 511, 2047, 4095, 8191, 16383, 16383, 65535, 131071, 262143, 524287, 1048575, 2097151, 524287, 4718591, 16777215, 33554431, 67108863, 134217727, 268435455, 536870911, 1073741823] (by kernel_rfl)) (by kernel_rfl) ?_
    refine a_ret ?_
    show ∃ ds, ResL _ _ _ ds ∧ RV.of ds = _
    refine ⟨[.fl (.bool true)], (.cons (.tmp rfl (.d _)) .nil), ?_⟩
    rfl
end Go.Proofs.YtadaenpkmkjkjaaDoor.Wk
