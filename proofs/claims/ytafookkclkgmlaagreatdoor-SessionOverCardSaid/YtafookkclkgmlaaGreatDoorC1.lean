/- The law of sessions that are over. Condition: the table reads as it is laid. -/
import Derived.Test.YtafookkclkgmlaaGreatDoorAl
import Derived.Test.YtafookkclkgmlaaGreatDoorB2
set_option linter.unusedSimpArgs false
set_option linter.unusedVariables false
namespace Go.Proofs.YtafookkclkgmlaaGreatDoor.Wk
open Go Go.RowKit Go.Proofs.YtafookkclkgmlaaGreatDoor.Av
set_option maxHeartbeats 4000000 in
set_option maxRecDepth 100000 in
theorem law1 (z : Zn) (s : Ses) (t : Int) : CtrK Tryz.prog KK 5 [.ag (eZn z), .ag (eSes s), .fl (.int .i64 t)] (.d (.fl (.bool true))) := by
  refine ctrK (n := 44) (rs := #[.tmp 6]) (L := [(0, .d (.ag (eZn z))), (1, .d (.ag (eSes s))), (2, .d (.fl (.int .i64 t)))]) Tryz.func5 rfl rfl rfl rfl rfl (fun w0 U0 hG => ?_)
  refine a_rseq ?_
  refine rg_nam (d := 3) (v := .pt 101 0) (m := 101) (nw := [(101, .bx 40 (eZn z))]) rfl (og rfl (of_eff (op_box 101 rfl rfl rfl rfl) rfl)) rfl ?_
  refine rg_nam (d := 4) (v := .pt 102 0) (m := 102) (nw := [(102, .bx 43 (eSes s))]) rfl (og rfl (of_eff (op_box 102 rfl rfl rfl rfl) rfl)) rfl ?_
  refine rg_put (d := 6) (v := .d (.fl (.bool false))) rfl (og rfl (op_assign rfl rfl rfl)) ?_
  refine rg_done rfl ?_
  refine a_seq ?_
  refine a_rseq ?_
  refine rg_put (d := 9) (v := .d (.ag (eZn z))) rfl (og rfl (of_eff (s_load_pts rfl Tryz.underlying40 rfl ti40 rfl rfl rfl rfl) rfl)) ?_
  refine rg_put (d := 10) (v := .d (.sl 7 (List.map eZn [z]))) rfl (og rfl (of_eff (op_slices rfl Tryz.underlying24 ti40 rfl rfl rfl (by kernel_rfl) (xs := [.ag (eZn z)]) rfl rfl (.cons rfl rfl (.d _) rfl rfl rfl .nil) rfl) rfl)) ?_
  refine rg_put (d := 11) (v := .d (.fl (.bool (okz z)))) rfl (og rfl (op_call rfl Tryz.func7 nm7 rfl (.cons rfl (.d _) .nil) ((by have h := fwC [z] (by simp); simpa [fwZ] using h)) rfl)) ?_
  refine rg_put (d := 12) (v := .d (.fl (.bool ((!(okz z)))))) rfl (og rfl (op_un rfl rfl (u_not _) rfl)) ?_
  refine rg_done rfl ?_
  refine a_cond rfl (fun h1 => ?_) (fun h1 => ?_)
  · skip
    have h2 := t_not h1
    refine a_rseq ?_
    refine rg_put (d := 13) (v := .d (.fl (.bool true))) rfl (og rfl (op_callK kkst hG rfl Tryz.func9 nm9 rfl .nil aliveT rfl)) ?_
    refine rg_put (d := 6) (v := .d (.fl (.bool true))) rfl (og rfl (op_assign rfl rfl rfl)) ?_
    refine rg_done rfl ?_
    refine a_ret ?_
    show ∃ ds, ResL _ _ _ ds ∧ RV.of ds = _
    refine ⟨[.fl (.bool true)], (.cons (.tmp rfl (.d _)) .nil), ?_⟩
    rfl
  · skip
    have h3 := f_not h1
    refine a_skip ?_
    show A _ _ _ _ _ _ _
    refine a_dseq (by kernel_rfl) ?_
    have hok := okz_t h3
    have hh := hok.1
    have hs := hok.2
    refine dr_put (d := 14) (v := .d (.ag (eSes s))) rfl (og rfl (of_eff (s_load_pts rfl Tryz.underlying43 rfl ti43 rfl rfl rfl rfl) rfl)) ?_
    refine dr_put (d := 15) (v := .d (.ag (eItv (pd s)))) rfl (og rfl (op_call rfl Tryz.func18 nm18 rfl (.cons rfl (.d _) .nil) (pdP s) rfl)) ?_
    refine dr_put (d := 16) (v := .d (.ag (eSes s))) rfl (og rfl (of_eff (s_load_pts rfl Tryz.underlying43 rfl ti43 rfl rfl rfl rfl) rfl)) ?_
    refine dr_put (d := 17) (v := .d (.ag (eItv (pd s)))) rfl (og rfl (op_call rfl Tryz.func19 nm19 rfl (.cons rfl (.d _) .nil) (pdR s) rfl)) ?_
    refine dr_nam (d := 7) (v := .pt 103 0) (m := 103) (nw := [(103, .bx 45 [.fl (.int .i64 0), .fl (.int .i64 0)])]) rfl (og rfl (of_eff (s_alloc 103 rfl ti45 (by kernel_rfl) rfl) rfl)) ?_
    refine dr_nam (d := 8) (v := .pt 104 0) (m := 104) (nw := [(104, .bx 45 [.fl (.int .i64 0), .fl (.int .i64 0)])]) rfl (og rfl (of_eff (s_alloc 104 rfl ti45 (by kernel_rfl) rfl) rfl)) ?_
    refine dr_sto (nw := [(103, .bx 45 ((eItv (pd s))))]) rfl (og rfl (of_eff (s_store rfl rfl ti45 rfl rfl rfl rfl rfl rfl) rfl)) ?_
    refine dr_sto (nw := [(104, .bx 45 ((eItv (pd s))))]) rfl (og rfl (of_eff (s_store rfl rfl ti45 rfl rfl rfl rfl rfl rfl) rfl)) ?_
    refine dr_done rfl (by kernel_rfl) (by kernel_rfl) ?_
    refine a_dseq (by kernel_rfl) ?_
    refine dr_put (d := 18) (v := .d (.ag (eZn z))) rfl (og rfl (of_eff (s_load_pts rfl Tryz.underlying40 rfl ti40 rfl rfl rfl rfl) rfl)) ?_
    refine dr_put (d := 19) (v := .d (.ag (eSes s))) rfl (og rfl (of_eff (s_load_pts rfl Tryz.underlying43 rfl ti43 rfl rfl rfl rfl) rfl)) ?_
    refine dr_put (d := 20) (v := .d (.fl (.int .i64 t))) rfl (og rfl (op_move rfl rfl rfl)) ?_
    refine dr_put (d := 21) (v := .d (.fl (.bool (ov z s t)))) rfl (og rfl (op_call rfl Tryz.func20 nm20 rfl (.cons rfl (.d _) (.cons rfl (.d _) (.cons rfl (.d _) .nil))) (ovP z s t hh hs) rfl)) ?_
    refine dr_put (d := 22) (v := .d (.ag (eZn z))) rfl (og rfl (of_eff (s_load_pts rfl Tryz.underlying40 rfl ti40 rfl rfl rfl rfl) rfl)) ?_
    refine dr_put (d := 23) (v := .d (.ag (eSes s))) rfl (og rfl (of_eff (s_load_pts rfl Tryz.underlying43 rfl ti43 rfl rfl rfl rfl) rfl)) ?_
    refine dr_put (d := 24) (v := .d (.fl (.int .i64 t))) rfl (og rfl (op_move rfl rfl rfl)) ?_
    refine dr_put (d := 25) (v := .d (.fl (.bool (ov z s t)))) rfl (og rfl (op_call rfl Tryz.func21 nm21 rfl (.cons rfl (.d _) (.cons rfl (.d _) (.cons rfl (.d _) .nil))) (ovR z s t hh hs) rfl)) ?_
    refine dr_put (d := 26) (v := .d (.fl (.bool (((ov z s t) == (ov z s t)))))) rfl (og rfl (op_bin rfl rfl rfl (fun x y w => b_beq _ _ _ x y w Tryz.underlying4) rfl)) ?_
    refine dr_put (d := 27) (v := .d (.fl (.bool (((ov z s t) == (ov z s t)))))) rfl (og rfl (op_move rfl rfl rfl)) ?_
    refine dr_put (d := 28) (v := .pt 103 0) rfl (oy rfl rfl rfl (beq_self_eq_true _) (of_eff (s_field_pt rfl Tryz.underlying45 rfl ti3 rfl rfl rfl) rfl)) ?_
    refine dr_put (d := 29) (v := .d (.fl (.int .i64 ((pd s).fr)))) rfl (oy rfl rfl rfl (beq_self_eq_true _) (op_load_pt rfl Tryz.underlying3 rfl rfl rfl rfl rfl)) ?_
    refine dr_put (d := 30) (v := .pt 104 0) rfl (oy rfl rfl rfl (beq_self_eq_true _) (of_eff (s_field_pt rfl Tryz.underlying45 rfl ti3 rfl rfl rfl) rfl)) ?_
    refine dr_put (d := 31) (v := .d (.fl (.int .i64 ((pd s).fr)))) rfl (oy rfl rfl rfl (beq_self_eq_true _) (op_load_pt rfl Tryz.underlying3 rfl rfl rfl rfl rfl)) ?_
    refine dr_put (d := 32) (v := .d (.fl (.bool (((pd s).fr == (pd s).fr))))) rfl (oy rfl rfl rfl (beq_self_eq_true _) (op_bin rfl rfl rfl (b_eql _ _ _ _) rfl)) ?_
    refine dr_put (d := 33) (v := .d (.fl (.bool (((pd s).fr == (pd s).fr))))) rfl (og rfl (op_pick rfl rfl (by rw [(beq_self_eq_true _)]; rfl) rfl)) ?_
    refine dr_put (d := 34) (v := .d (.fl (.bool (((pd s).fr == (pd s).fr))))) rfl (og rfl (op_move rfl rfl rfl)) ?_
    refine dr_put (d := 35) (v := .pt 103 1) rfl (oy rfl rfl rfl (beq_self_eq_true _) (of_eff (s_field_pt rfl Tryz.underlying45 rfl ti3 rfl rfl rfl) rfl)) ?_
    refine dr_put (d := 36) (v := .d (.fl (.int .i64 ((pd s).to)))) rfl (oy rfl rfl rfl (beq_self_eq_true _) (op_load_pt rfl Tryz.underlying3 rfl rfl rfl rfl rfl)) ?_
    refine dr_put (d := 37) (v := .pt 104 1) rfl (oy rfl rfl rfl (beq_self_eq_true _) (of_eff (s_field_pt rfl Tryz.underlying45 rfl ti3 rfl rfl rfl) rfl)) ?_
    refine dr_put (d := 38) (v := .d (.fl (.int .i64 ((pd s).to)))) rfl (oy rfl rfl rfl (beq_self_eq_true _) (op_load_pt rfl Tryz.underlying3 rfl rfl rfl rfl rfl)) ?_
    refine dr_put (d := 39) (v := .d (.fl (.bool (((pd s).to == (pd s).to))))) rfl (oy rfl rfl rfl (beq_self_eq_true _) (op_bin rfl rfl rfl (b_eql _ _ _ _) rfl)) ?_
    refine dr_put (d := 40) (v := .d (.fl (.bool (((pd s).to == (pd s).to))))) rfl (og rfl (op_pick rfl rfl (by rw [(beq_self_eq_true _)]; rfl) rfl)) ?_
    refine dr_put (d := 41) (v := .d (.fl (.bool (((pd s).to == (pd s).to))))) rfl (og rfl (op_move rfl rfl rfl)) ?_
    refine dr_put (d := 42) (v := .d (.fl (.bool true))) rfl (oy rfl rfl rfl (beq_self_eq_true _) (op_callK kkst hG rfl Tryz.func9 nm9 rfl .nil aliveT rfl)) ?_
    refine dr_put (d := 43) (v := .d (.fl (.bool true))) rfl (og rfl (op_pick rfl rfl (by rw [(beq_self_eq_true _)]; rfl) rfl)) ?_
    refine dr_put (d := 6) (v := .d (.fl (.bool true))) rfl (og rfl (op_assign rfl rfl rfl)) ?_
    refine dr_done rfl (sepB_of [0, 0, 0, 7, 0, 0, 0, 127, 255, 511, 1023, 2047, 1023, 5119, 16383, 32767, 65535, 131071, 262143, 131071, 655359, 2097151, 4194303, 8388607, 16777215, 33554431, 67108863] (by kernel_rfl)) (by kernel_rfl) ?_
    refine a_ret ?_
    show ∃ ds, ResL _ _ _ ds ∧ RV.of ds = _
    refine ⟨[.fl (.bool true)], (.cons (.tmp rfl (.d _)) .nil), ?_⟩
    rfl
end Go.Proofs.YtafookkclkgmlaaGreatDoor.Wk
