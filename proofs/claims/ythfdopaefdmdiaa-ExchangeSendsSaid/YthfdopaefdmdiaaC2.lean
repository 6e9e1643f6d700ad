/- The law of files that are sent. Condition: rows of machine length. -/
import Derived.Test.YthfdopaefdmdiaaB4
set_option linter.unusedSimpArgs false
set_option linter.unusedVariables false
namespace Go.Proofs.Ythfdopaefdmdiaa.Wk
open Go Go.RowKit Go.Proofs.Ythfdopaefdmdiaa.Av
set_option maxHeartbeats 4000000 in
set_option maxRecDepth 100000 in
theorem law3 (p : Ptn) (fr : ByteArray) (l : List Rec) (hm9 : ∀ x ∈ p.wait, x.recs.length ≤ 100000000000000) : Ctr Try.prog 4 [.ag (ePt p), .fl (.string fr), .sl 5 (List.map eRec l)] (.d (.fl (.bool (true)))) := by
  refine ctr (n := 85) (rs := #[.tmp 6]) (L := [(0, .d (.ag (ePt p))), (1, .d (.fl (.string fr))), (2, .d (.sl 5 (List.map eRec l)))]) Try.func4 rfl rfl rfl rfl rfl (fun w0 U0 => ?_)
  refine a_rseq ?_
  refine rg_nam (d := 3) (v := .pt 101 0) (m := 101) (nw := [(101, .bx 25 (ePt p))]) rfl (og rfl (of_eff (op_box 101 rfl rfl rfl rfl) rfl)) rfl ?_
  refine rg_put (d := 6) (v := .d (.fl (.bool false))) rfl (og rfl (op_assign rfl rfl rfl)) ?_
  refine rg_done rfl ?_
  refine a_seq ?_
  refine a_rseq ?_
  refine rg_put (d := 17) (v := .d (.ag (ePt p))) rfl (og rfl (of_eff (s_load_pts rfl Try.underlying25 rfl ti25 rfl rfl rfl rfl) rfl)) ?_
  refine rg_put (d := 18) (v := .d (.fl (.bool (grB p)))) rfl (og rfl (op_call rfl Try.func5 nm5 rfl (.cons rfl (.d _) .nil) (grC p hm9) rfl)) ?_
  refine rg_put (d := 19) (v := .d (.fl (.bool (grB p)))) rfl (og rfl (op_move rfl rfl rfl)) ?_
  rcases fot (grB p) with h1 | h1
  · skip
    refine rg_put (d := 20) (v := .d (.sl 5 (List.map eRec l))) rfl (oy rfl rfl rfl h1 (op_move rfl rfl rfl)) ?_
    refine rg_put (d := 21) (v := .d (.fl (.bool (hvB l)))) rfl (oy rfl rfl rfl h1 (op_call rfl Try.func6 nm6 rfl (.cons rfl (.d _) .nil) (hvC l) rfl)) ?_
    refine rg_put (d := 22) (v := .d (.fl (.bool (hvB l)))) rfl (og rfl (op_pick rfl rfl (by rw [h1]; rfl) rfl)) ?_
    refine rg_done rfl ?_
    refine a_cond rfl (fun h2 => ?_) (fun h2 => ?_)
    · skip
      refine a_rseq ?_
      refine rg_put (d := 23) (v := .d (.fl (.bool true))) rfl (og rfl (op_call rfl Try.func7 nm7 rfl .nil alive7 rfl)) ?_
      refine rg_put (d := 6) (v := .d (.fl (.bool true))) rfl (og rfl (op_assign rfl rfl rfl)) ?_
      refine rg_done rfl ?_
      refine a_ret ?_
      show ∃ ds, ResL _ _ _ ds ∧ RV.of ds = _
      refine ⟨[.fl (.bool true)], (.cons (.tmp rfl (.d _)) .nil), ?_⟩
      rfl
    · skip
      refine a_skip ?_
      show A _ _ _ _ _ _ _
      refine a_rseq ?_
      have hp := grB_f h1
      have hkk := hv_k h2
      have hl := hv_l h2
      refine rg_put (d := 25) (v := .d (.ag (ePt p))) rfl (og rfl (of_eff (s_load_pts rfl Try.underlying25 rfl ti25 rfl rfl rfl rfl) rfl)) ?_
      refine rg_put (d := 26) (v := .d (.fl (.string fr))) rfl (og rfl (op_move rfl rfl rfl)) ?_
      refine rg_put (d := 27) (v := .d (.sl 5 (List.map eRec l))) rfl (og rfl (op_move rfl rfl rfl)) ?_
      refine rg_put (d := 28) (v := .tu [.ag (ePt (sdP p fr l)), .ag (eFil (sdF p fr l)), .fl (.int .i64 (sdE p fr l))]) rfl (og rfl (op_call rfl Try.func11 nm11 rfl (.cons rfl (.d _) (.cons rfl (.d _) (.cons rfl (.d _) .nil))) (sdC p fr l hp hkk hl) rfl)) ?_
      refine rg_put (d := 24) (v := .tu [.ag (ePt (sdP p fr l)), .ag (eFil (sdF p fr l)), .fl (.int .i64 (sdE p fr l))]) rfl (og rfl (op_move rfl rfl rfl)) ?_
      refine rg_put (d := 29) (v := .d (.ag (ePt (sdP p fr l)))) rfl (og rfl (op_extract rfl rfl rfl rfl)) ?_
      refine rg_put (d := 30) (v := .d (.ag (eFil (sdF p fr l)))) rfl (og rfl (op_extract rfl rfl rfl rfl)) ?_
      refine rg_put (d := 31) (v := .d (.fl (.int .i64 (sdE p fr l)))) rfl (og rfl (op_extract rfl rfl rfl rfl)) ?_
      refine rg_nam (d := 7) (v := .pt 102 0) (m := 102) (nw := [(102, .bx 25 ([.fl (.string (⟨#[]⟩)), .fl (.int .i64 0), .fl (.int .i64 0), .fl (.slice none 0 0), .fl (.slice none 0 0), .fl (.slice none 0 0)]))]) rfl (og rfl (of_eff (s_alloc 102 rfl ti25 (by kernel_rfl) rfl) rfl)) rfl ?_
      refine rg_nam (d := 8) (v := .pt 103 0) (m := 103) (nw := [(103, .bx 27 ([.fl (.string (⟨#[]⟩)), .fl (.string (⟨#[]⟩)), .fl (.int .i64 0), .fl (.slice none 0 0)]))]) rfl (og rfl (of_eff (s_alloc 103 rfl ti27 (by kernel_rfl) rfl) rfl)) rfl ?_
      refine rg_sto (nw := [(102, .bx 25 ((ePt (sdP p fr l))))]) rfl (og rfl (of_eff (s_store rfl rfl ti25 rfl rfl rfl rfl rfl rfl) rfl)) ?_
      refine rg_sto (nw := [(103, .bx 27 ((eFil (sdF p fr l))))]) rfl (og rfl (of_eff (s_store rfl rfl ti27 rfl rfl rfl rfl rfl rfl) rfl)) ?_
      refine rg_put (d := 9) (v := .d (.fl (.int .i64 (sdE p fr l)))) rfl (og rfl (op_assign rfl rfl rfl)) ?_
      refine rg_done rfl ?_
      refine a_rseq ?_
      refine rg_put (d := 33) (v := .d (.ag (ePt p))) rfl (og rfl (of_eff (s_load_pts rfl Try.underlying25 rfl ti25 rfl rfl rfl rfl) rfl)) ?_
      refine rg_put (d := 34) (v := .d (.fl (.string fr))) rfl (og rfl (op_move rfl rfl rfl)) ?_
      refine rg_put (d := 35) (v := .d (.sl 5 (List.map eRec l))) rfl (og rfl (op_move rfl rfl rfl)) ?_
      refine rg_put (d := 36) (v := .tu [.ag (ePt (sdP p fr l)), .ag (eFil (sdF p fr l)), .fl (.int .i64 (sdE p fr l))]) rfl (og rfl (op_call rfl Try.func12 nm12 rfl (.cons rfl (.d _) (.cons rfl (.d _) (.cons rfl (.d _) .nil))) (sdR p fr l hp hkk hl) rfl)) ?_
      refine rg_put (d := 32) (v := .tu [.ag (ePt (sdP p fr l)), .ag (eFil (sdF p fr l)), .fl (.int .i64 (sdE p fr l))]) rfl (og rfl (op_move rfl rfl rfl)) ?_
      refine rg_put (d := 37) (v := .d (.ag (ePt (sdP p fr l)))) rfl (og rfl (op_extract rfl rfl rfl rfl)) ?_
      refine rg_put (d := 38) (v := .d (.ag (eFil (sdF p fr l)))) rfl (og rfl (op_extract rfl rfl rfl rfl)) ?_
      refine rg_put (d := 39) (v := .d (.fl (.int .i64 (sdE p fr l)))) rfl (og rfl (op_extract rfl rfl rfl rfl)) ?_
      refine rg_nam (d := 10) (v := .pt 104 0) (m := 104) (nw := [(104, .bx 25 ([.fl (.string (⟨#[]⟩)), .fl (.int .i64 0), .fl (.int .i64 0), .fl (.slice none 0 0), .fl (.slice none 0 0), .fl (.slice none 0 0)]))]) rfl (og rfl (of_eff (s_alloc 104 rfl ti25 (by kernel_rfl) rfl) rfl)) rfl ?_
      refine rg_nam (d := 11) (v := .pt 105 0) (m := 105) (nw := [(105, .bx 27 ([.fl (.string (⟨#[]⟩)), .fl (.string (⟨#[]⟩)), .fl (.int .i64 0), .fl (.slice none 0 0)]))]) rfl (og rfl (of_eff (s_alloc 105 rfl ti27 (by kernel_rfl) rfl) rfl)) rfl ?_
      refine rg_sto (nw := [(104, .bx 25 ((ePt (sdP p fr l))))]) rfl (og rfl (of_eff (s_store rfl rfl ti25 rfl rfl rfl rfl rfl rfl) rfl)) ?_
      refine rg_sto (nw := [(105, .bx 27 ((eFil (sdF p fr l))))]) rfl (og rfl (of_eff (s_store rfl rfl ti27 rfl rfl rfl rfl rfl rfl) rfl)) ?_
      refine rg_put (d := 12) (v := .d (.fl (.int .i64 (sdE p fr l)))) rfl (og rfl (op_assign rfl rfl rfl)) ?_
      refine rg_done rfl ?_
      refine a_rseq ?_
      refine rg_put (d := 41) (v := .d (.fl (.string fr))) rfl (og rfl (op_move rfl rfl rfl)) ?_
      refine rg_put (d := 42) (v := .tu [.ag (ePt (nwP fr)), .fl (.int .i64 (nwE fr))]) rfl (og rfl (op_call rfl Try.func13 nm13 rfl (.cons rfl (.d _) .nil) (nwC fr) rfl)) ?_
      refine rg_put (d := 40) (v := .tu [.ag (ePt (nwP fr)), .fl (.int .i64 (nwE fr))]) rfl (og rfl (op_move rfl rfl rfl)) ?_
      refine rg_put (d := 43) (v := .d (.ag (ePt (nwP fr)))) rfl (og rfl (op_extract rfl rfl rfl rfl)) ?_
      refine rg_put (d := 44) (v := .d (.fl (.int .i64 (nwE fr)))) rfl (og rfl (op_extract rfl rfl rfl rfl)) ?_
      refine rg_nam (d := 13) (v := .pt 106 0) (m := 106) (nw := [(106, .bx 25 ([.fl (.string (⟨#[]⟩)), .fl (.int .i64 0), .fl (.int .i64 0), .fl (.slice none 0 0), .fl (.slice none 0 0), .fl (.slice none 0 0)]))]) rfl (og rfl (of_eff (s_alloc 106 rfl ti25 (by kernel_rfl) rfl) rfl)) rfl ?_
      refine rg_sto (nw := [(106, .bx 25 ((ePt (nwP fr))))]) rfl (og rfl (of_eff (s_store rfl rfl ti25 rfl rfl rfl rfl rfl rfl) rfl)) ?_
      refine rg_put (d := 14) (v := .d (.fl (.int .i64 (nwE fr)))) rfl (og rfl (op_assign rfl rfl rfl)) ?_
      refine rg_done rfl ?_
      refine a_rseq ?_
      refine rg_put (d := 46) (v := .d (.fl (.string fr))) rfl (og rfl (op_move rfl rfl rfl)) ?_
      refine rg_put (d := 47) (v := .tu [.ag (ePt (nwP fr)), .fl (.int .i64 (nwE fr))]) rfl (og rfl (op_call rfl Try.func14 nm14 rfl (.cons rfl (.d _) .nil) (nwR fr) rfl)) ?_
      refine rg_put (d := 45) (v := .tu [.ag (ePt (nwP fr)), .fl (.int .i64 (nwE fr))]) rfl (og rfl (op_move rfl rfl rfl)) ?_
      refine rg_put (d := 48) (v := .d (.ag (ePt (nwP fr)))) rfl (og rfl (op_extract rfl rfl rfl rfl)) ?_
      refine rg_put (d := 49) (v := .d (.fl (.int .i64 (nwE fr)))) rfl (og rfl (op_extract rfl rfl rfl rfl)) ?_
      refine rg_nam (d := 15) (v := .pt 107 0) (m := 107) (nw := [(107, .bx 25 ([.fl (.string (⟨#[]⟩)), .fl (.int .i64 0), .fl (.int .i64 0), .fl (.slice none 0 0), .fl (.slice none 0 0), .fl (.slice none 0 0)]))]) rfl (og rfl (of_eff (s_alloc 107 rfl ti25 (by kernel_rfl) rfl) rfl)) rfl ?_
      refine rg_sto (nw := [(107, .bx 25 ((ePt (nwP fr))))]) rfl (og rfl (of_eff (s_store rfl rfl ti25 rfl rfl rfl rfl rfl rfl) rfl)) ?_
      refine rg_put (d := 16) (v := .d (.fl (.int .i64 (nwE fr)))) rfl (og rfl (op_assign rfl rfl rfl)) ?_
      refine rg_done rfl ?_
      refine a_dseq (by kernel_rfl) ?_
      refine dr_put (d := 50) (v := .d (.ag (ePt (sdP p fr l)))) rfl (og rfl (of_eff (s_load_pts rfl Try.underlying25 rfl ti25 rfl rfl rfl rfl) rfl)) ?_
      refine dr_put (d := 51) (v := .d (.ag (ePt (sdP p fr l)))) rfl (og rfl (of_eff (s_load_pts rfl Try.underlying25 rfl ti25 rfl rfl rfl rfl) rfl)) ?_
      refine dr_put (d := 52) (v := .d (.fl (.bool true))) rfl (og rfl (op_call rfl Try.func10 nm10 rfl (.cons rfl (.d _) (.cons rfl (.d _) .nil)) (sapC _ (sdP_ok hp hl)) rfl)) ?_
      refine dr_put (d := 53) (v := .d (.fl (.bool true))) rfl (og rfl (op_move rfl rfl rfl)) ?_
      refine dr_put (d := 54) (v := .d (.ag (eFil (sdF p fr l)))) rfl (oy rfl rfl rfl rfl (of_eff (s_load_pts rfl Try.underlying27 rfl ti27 rfl rfl rfl rfl) rfl)) ?_
      refine dr_put (d := 55) (v := .d (.sl 4 (List.map eFil [(sdF p fr l)]))) rfl (oy rfl rfl rfl rfl (of_eff (op_slices rfl Try.underlying22 ti27 rfl rfl rfl (by kernel_rfl) (xs := [.ag (eFil (sdF p fr l))]) rfl rfl (.cons rfl rfl (.d _) rfl rfl rfl .nil) rfl) rfl)) ?_
      refine dr_put (d := 56) (v := .d (.ag (eFil (sdF p fr l)))) rfl (oy rfl rfl rfl rfl (of_eff (s_load_pts rfl Try.underlying27 rfl ti27 rfl rfl rfl rfl) rfl)) ?_
      refine dr_put (d := 57) (v := .d (.sl 4 (List.map eFil [(sdF p fr l)]))) rfl (oy rfl rfl rfl rfl (of_eff (op_slices rfl Try.underlying22 ti27 rfl rfl rfl (by kernel_rfl) (xs := [.ag (eFil (sdF p fr l))]) rfl rfl (.cons rfl rfl (.d _) rfl rfl rfl .nil) rfl) rfl)) ?_
      refine dr_put (d := 58) (v := .d (.fl (.bool true))) rfl (oy rfl rfl rfl rfl (op_call rfl Try.func15 nm15 rfl (.cons rfl (.d _) (.cons rfl (.d _) .nil)) (safC _ (by simp) (fun x hx => by rw [List.mem_singleton] at hx; rw [hx]; exact sdF_r hl)) rfl)) ?_
      refine dr_put (d := 59) (v := .d (.fl (.bool true))) rfl (og rfl (op_pick rfl rfl rfl rfl)) ?_
      refine dr_put (d := 60) (v := .d (.fl (.bool true))) rfl (og rfl (op_move rfl rfl rfl)) ?_
      refine dr_put (d := 61) (v := .d (.fl (.int .i64 (sdE p fr l)))) rfl (oy rfl rfl rfl rfl (op_move rfl rfl rfl)) ?_
      refine dr_put (d := 62) (v := .d (.fl (.int .i64 (sdE p fr l)))) rfl (oy rfl rfl rfl rfl (op_move rfl rfl rfl)) ?_
      refine dr_put (d := 63) (v := .d (.fl (.bool (((sdE p fr l) == (sdE p fr l)))))) rfl (oy rfl rfl rfl rfl (op_bin rfl rfl rfl (b_eql _ _ _ _) rfl)) ?_
      refine dr_put (d := 64) (v := .d (.fl (.bool (((sdE p fr l) == (sdE p fr l)))))) rfl (og rfl (op_pick rfl rfl rfl rfl)) ?_
      refine dr_put (d := 65) (v := .d (.fl (.bool (((sdE p fr l) == (sdE p fr l)))))) rfl (og rfl (op_move rfl rfl rfl)) ?_
      refine dr_put (d := 66) (v := .d (.ag (ePt (nwP fr)))) rfl (oy rfl rfl rfl (beq_self_eq_true _) (of_eff (s_load_pts rfl Try.underlying25 rfl ti25 rfl rfl rfl rfl) rfl)) ?_
      refine dr_put (d := 67) (v := .d (.ag (ePt (nwP fr)))) rfl (oy rfl rfl rfl (beq_self_eq_true _) (of_eff (s_load_pts rfl Try.underlying25 rfl ti25 rfl rfl rfl rfl) rfl)) ?_
      refine dr_put (d := 68) (v := .d (.fl (.bool true))) rfl (oy rfl rfl rfl (beq_self_eq_true _) (op_call rfl Try.func10 nm10 rfl (.cons rfl (.d _) (.cons rfl (.d _) .nil)) (sapC _ (nwP_ok fr)) rfl)) ?_
      refine dr_put (d := 69) (v := .d (.fl (.bool true))) rfl (og rfl (op_pick rfl rfl (by rw [(beq_self_eq_true _)]; rfl) rfl)) ?_
      refine dr_put (d := 70) (v := .d (.fl (.bool true))) rfl (og rfl (op_move rfl rfl rfl)) ?_
      refine dr_put (d := 71) (v := .d (.fl (.int .i64 (nwE fr)))) rfl (oy rfl rfl rfl rfl (op_move rfl rfl rfl)) ?_
      refine dr_put (d := 72) (v := .d (.fl (.int .i64 (nwE fr)))) rfl (oy rfl rfl rfl rfl (op_move rfl rfl rfl)) ?_
      refine dr_put (d := 73) (v := .d (.fl (.bool (((nwE fr) == (nwE fr)))))) rfl (oy rfl rfl rfl rfl (op_bin rfl rfl rfl (b_eql _ _ _ _) rfl)) ?_
      refine dr_put (d := 74) (v := .d (.fl (.bool (((nwE fr) == (nwE fr)))))) rfl (og rfl (op_pick rfl rfl rfl rfl)) ?_
      refine dr_put (d := 75) (v := .d (.fl (.bool (((nwE fr) == (nwE fr)))))) rfl (og rfl (op_move rfl rfl rfl)) ?_
      refine dr_put (d := 76) (v := .d (.ag (ePt p))) rfl (oy rfl rfl rfl (beq_self_eq_true _) (of_eff (s_load_pts rfl Try.underlying25 rfl ti25 rfl rfl rfl rfl) rfl)) ?_
      refine dr_put (d := 77) (v := .d (.sl 4 (List.map eFil p.wait))) rfl (oy rfl rfl rfl (beq_self_eq_true _) (op_call rfl Try.func16 nm16 rfl (.cons rfl (.d _) .nil) (rsC p hp) rfl)) ?_
      refine dr_put (d := 78) (v := .pt 101 3) rfl (oy rfl rfl rfl (beq_self_eq_true _) (of_eff (s_field_pt rfl Try.underlying25 rfl ti22 rfl rfl rfl) rfl)) ?_
      refine dr_put (d := 79) (v := .d (.sl 4 (List.map eFil p.wait))) rfl (oy rfl rfl rfl (beq_self_eq_true _) (op_load_pt rfl Try.underlying22 rfl rfl rfl rfl rfl)) ?_
      refine dr_put (d := 80) (v := .d (.fl (.bool true))) rfl (oy rfl rfl rfl (beq_self_eq_true _) (op_call rfl Try.func15 nm15 rfl (.cons rfl (.d _) (.cons rfl (.d _) .nil)) (safC p.wait (by have := hp.w; omega) hp.r) rfl)) ?_
      refine dr_put (d := 81) (v := .d (.fl (.bool true))) rfl (og rfl (op_pick rfl rfl (by rw [(beq_self_eq_true _)]; rfl) rfl)) ?_
      refine dr_put (d := 82) (v := .d (.fl (.bool true))) rfl (og rfl (op_move rfl rfl rfl)) ?_
      refine dr_put (d := 83) (v := .d (.fl (.bool true))) rfl (oy rfl rfl rfl rfl (op_call rfl Try.func7 nm7 rfl .nil alive7 rfl)) ?_
      refine dr_put (d := 84) (v := .d (.fl (.bool true))) rfl (og rfl (op_pick rfl rfl rfl rfl)) ?_
      refine dr_put (d := 6) (v := .d (.fl (.bool true))) rfl (og rfl (op_assign rfl rfl rfl)) ?_
      refine dr_done rfl (sepB_of [0, 0, 3, 7, 15, 31, 15, 79, 255, 511, 1023, 2047, 2047, 8191, 16383, 32767, 65535, 65535, 262143, 524287, 1048575, 2097151, 2097151, 8388607, 16777215, 33554431, 67108863, 134217727, 67108863, 335544319, 1073741823, 2147483647, 4294967295, 8589934591, 17179869183, 34359738367] (by kernel_rfl)) (by kernel_rfl) ?_
      refine a_ret ?_
      show ∃ ds, ResL _ _ _ ds ∧ RV.of ds = _
      refine ⟨[.fl (.bool true)], (.cons (.tmp rfl (.d _)) .nil), ?_⟩
      rfl
  · skip
    refine rg_put (d := 20) (v := .d (.fl undef)) rfl (on rfl rfl rfl h1) ?_
    refine rg_put (d := 21) (v := .d (.fl undef)) rfl (on rfl rfl rfl h1) ?_
    refine rg_put (d := 22) (v := .d (.fl (.bool true))) rfl (og rfl (op_pick rfl rfl (by rw [h1]; rfl) rfl)) ?_
    refine rg_done rfl ?_
    refine a_condK rfl rfl ?_
    refine a_rseq ?_
    refine rg_put (d := 23) (v := .d (.fl (.bool true))) rfl (og rfl (op_call rfl Try.func7 nm7 rfl .nil alive7 rfl)) ?_
    refine rg_put (d := 6) (v := .d (.fl (.bool true))) rfl (og rfl (op_assign rfl rfl rfl)) ?_
    refine rg_done rfl ?_
    refine a_ret ?_
    show ∃ ds, ResL _ _ _ ds ∧ RV.of ds = _
    refine ⟨[.fl (.bool true)], (.cons (.tmp rfl (.d _)) .nil), ?_⟩
    rfl
end Go.Proofs.Ythfdopaefdmdiaa.Wk
