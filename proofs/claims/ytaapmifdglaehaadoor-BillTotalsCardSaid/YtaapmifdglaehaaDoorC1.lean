/- The law of totals. Condition: the table of months reads as it is laid. -/
import Derived.Test.YtaapmifdglaehaaDoorAl
import Derived.Test.YtaapmifdglaehaaDoorB6
set_option linter.unusedSimpArgs false
set_option linter.unusedVariables false
namespace Go.Proofs.YtaapmifdglaehaaDoor.Wk
open Go Go.RowKit Go.Proofs.YtaapmifdglaehaaDoor.Av
set_option maxHeartbeats 4000000 in
set_option maxRecDepth 100000 in
theorem law2 (b : Bil) (n : ByteArray) (i : Iv) (hb1 : b.acc.length ≤ 9223372036854775807) (hb2 : b.caps.length ≤ 9223372036854775807) (hb3 : b.chs.length ≤ 9223372036854775807) : CtrK Tryd.prog KK 3 [.ag (eBil b), .fl (.string n), .ag (eIv i)] (.d (.fl (.bool (true)))) := by
  refine ctrK (n := 66) (rs := #[.tmp 6]) (L := [(0, .d (.ag (eBil b))), (1, .d (.fl (.string n))), (2, .d (.ag (eIv i)))]) Tryd.func3 rfl rfl rfl rfl rfl (fun w0 U0 hG => ?_)
  refine a_rseq ?_
  refine rg_nam (d := 3) (v := .pt 101 0) (m := 101) (nw := [(101, .bx 26 (eBil b))]) rfl (og rfl (of_eff (op_box 101 rfl rfl rfl rfl) rfl)) rfl ?_
  refine rg_nam (d := 5) (v := .pt 102 0) (m := 102) (nw := [(102, .bx 28 (eIv i))]) rfl (og rfl (of_eff (op_box 102 rfl rfl rfl rfl) rfl)) rfl ?_
  refine rg_put (d := 6) (v := .d (.fl (.bool false))) rfl (og rfl (op_assign rfl rfl rfl)) ?_
  refine rg_done rfl ?_
  refine a_seq ?_
  refine a_rseq ?_
  refine rg_put (d := 11) (v := .d (.ag (eBil b))) rfl (og rfl (of_eff (s_load_pts rfl Tryd.underlying26 rfl ti26 rfl rfl rfl rfl) rfl)) ?_
  refine rg_put (d := 12) (v := .d (.fl (.bool (few b)))) rfl (og rfl (op_call rfl Tryd.func4 nm4 rfl (.cons rfl (.d _) .nil) (few13 b (by omega) (by omega) (by omega)) rfl)) ?_
  refine rg_put (d := 13) (v := .d (.fl (.bool ((!(few b)))))) rfl (og rfl (op_un rfl rfl (u_not _) rfl)) ?_
  refine rg_put (d := 14) (v := .d (.fl (.bool ((!(few b)))))) rfl (og rfl (op_move rfl rfl rfl)) ?_
  rcases fot ((!(few b))) with h1 | h1
  · skip
    have h2 := f_not h1
    refine rg_put (d := 15) (v := .d (.fl (.string n))) rfl (oy rfl rfl rfl h1 (op_move rfl rfl rfl)) ?_
    refine rg_put (d := 16) (v := .d (.fl (.int .i64 (n.size : Int)))) rfl (oy rfl rfl rfl h1 (op_len_str rfl Tryd.underlying9 rfl rfl)) ?_
    refine rg_put (d := 17) (v := .d (.fl (.bool ((decide (40 < (n.size : Int))))))) rfl (oy rfl rfl rfl h1 (op_bin rfl rfl rfl (b_gtr _ _ _ _) rfl)) ?_
    refine rg_put (d := 18) (v := .d (.fl (.bool ((decide (40 < (n.size : Int))))))) rfl (og rfl (op_pick rfl rfl (by rw [h1]; rfl) rfl)) ?_
    refine rg_done rfl ?_
    refine a_cond rfl (fun h3 => ?_) (fun h3 => ?_)
    · skip
      have h4 := t_dec h3
      refine a_rseq ?_
      refine rg_put (d := 19) (v := .d (.fl (.bool true))) rfl (og rfl (op_callK kkst hG rfl Tryd.func5 nm5 rfl .nil alive5 rfl)) ?_
      refine rg_put (d := 6) (v := .d (.fl (.bool true))) rfl (og rfl (op_assign rfl rfl rfl)) ?_
      refine rg_done rfl ?_
      refine a_ret ?_
      show ∃ ds, ResL _ _ _ ds ∧ RV.of ds = _
      refine ⟨[.fl (.bool true)], (.cons (.tmp rfl (.d _)) .nil), ?_⟩
      rfl
    · skip
      have h5 := f_dec h3
      refine a_skip ?_
      show A _ _ _ _ _ _ _
      refine a_dseq (by kernel_rfl) ?_
      have hf := few_t h2
      have hc : (cf b).c17.length ≤ 8 := hf.1.1
      have ha : ∀ q, q < (cf b).c17.length → (ix (cf b).c17 q).owned.length ≤ 80 := fun q h => by have := hf.2.1 q h; show (ix b.acc q).owned.length ≤ 80; omega
      have hl := hf.1.2
      have hz := hf.2.2
      refine dr_put (d := 21) (v := .d (.ag (eBil b))) rfl (og rfl (of_eff (s_load_pts rfl Tryd.underlying26 rfl ti26 rfl rfl rfl rfl) rfl)) ?_
      refine dr_put (d := 22) (v := .d (.ag (eCfg (cf b)))) rfl (og rfl (op_call rfl Tryd.func7 nm7 rfl (.cons rfl (.d _) .nil) (cf16 b) rfl)) ?_
      refine dr_put (d := 23) (v := .d (.fl (.string n))) rfl (og rfl (op_move rfl rfl rfl)) ?_
      refine dr_put (d := 24) (v := .pt 101 2) rfl (og rfl (of_eff (s_field_pt rfl Tryd.underlying26 rfl ti24 rfl rfl rfl) rfl)) ?_
      refine dr_put (d := 25) (v := .d (.sl 7 (List.map eChg b.chs))) rfl (og rfl (op_load_pt rfl Tryd.underlying24 rfl rfl rfl rfl rfl)) ?_
      refine dr_put (d := 26) (v := .d (.ag (eIv i))) rfl (og rfl (of_eff (s_load_pts rfl Tryd.underlying28 rfl ti28 rfl rfl rfl rfl) rfl)) ?_
      refine dr_put (d := 27) (v := .tu [.fl (.int .i64 ((tt b.acc n b.chs i).1)), .fl (.int .i64 ((tt b.acc n b.chs i).2))]) rfl (og rfl (op_call rfl Tryd.func6 nm6 rfl (.cons rfl (.d _) (.cons rfl (.d _) (.cons rfl (.d _) (.cons rfl (.d _) .nil)))) (ttP (cf b) n b.chs i hc ha hl hz) rfl)) ?_
      refine dr_put (d := 20) (v := .tu [.fl (.int .i64 ((tt b.acc n b.chs i).1)), .fl (.int .i64 ((tt b.acc n b.chs i).2))]) rfl (og rfl (op_move rfl rfl rfl)) ?_
      refine dr_put (d := 28) (v := .d (.fl (.int .i64 ((tt b.acc n b.chs i).1)))) rfl (og rfl (op_extract rfl rfl rfl rfl)) ?_
      refine dr_put (d := 29) (v := .d (.fl (.int .i64 ((tt b.acc n b.chs i).2)))) rfl (og rfl (op_extract rfl rfl rfl rfl)) ?_
      refine dr_put (d := 7) (v := .d (.fl (.int .i64 ((tt b.acc n b.chs i).1)))) rfl (og rfl (op_assign rfl rfl rfl)) ?_
      refine dr_put (d := 8) (v := .d (.fl (.int .i64 ((tt b.acc n b.chs i).2)))) rfl (og rfl (op_assign rfl rfl rfl)) ?_
      refine dr_done rfl (by kernel_rfl) (by kernel_rfl) ?_
      refine a_dseq (by kernel_rfl) ?_
      refine dr_put (d := 31) (v := .d (.ag (eBil b))) rfl (og rfl (of_eff (s_load_pts rfl Tryd.underlying26 rfl ti26 rfl rfl rfl rfl) rfl)) ?_
      refine dr_put (d := 32) (v := .d (.ag (eCfg (cf b)))) rfl (og rfl (op_call rfl Tryd.func7 nm7 rfl (.cons rfl (.d _) .nil) (cf16 b) rfl)) ?_
      refine dr_put (d := 33) (v := .d (.fl (.string n))) rfl (og rfl (op_move rfl rfl rfl)) ?_
      refine dr_put (d := 34) (v := .pt 101 2) rfl (og rfl (of_eff (s_field_pt rfl Tryd.underlying26 rfl ti24 rfl rfl rfl) rfl)) ?_
      refine dr_put (d := 35) (v := .d (.sl 7 (List.map eChg b.chs))) rfl (og rfl (op_load_pt rfl Tryd.underlying24 rfl rfl rfl rfl rfl)) ?_
      refine dr_put (d := 36) (v := .d (.ag (eIv i))) rfl (og rfl (of_eff (s_load_pts rfl Tryd.underlying28 rfl ti28 rfl rfl rfl rfl) rfl)) ?_
      refine dr_put (d := 37) (v := .tu [.fl (.int .i64 ((tt b.acc n b.chs i).1)), .fl (.int .i64 ((tt b.acc n b.chs i).2))]) rfl (og rfl (op_call rfl Tryd.func8 nm8 rfl (.cons rfl (.d _) (.cons rfl (.d _) (.cons rfl (.d _) (.cons rfl (.d _) .nil)))) (ttR (cf b) n b.chs i hc ha hl hz) rfl)) ?_
      refine dr_put (d := 30) (v := .tu [.fl (.int .i64 ((tt b.acc n b.chs i).1)), .fl (.int .i64 ((tt b.acc n b.chs i).2))]) rfl (og rfl (op_move rfl rfl rfl)) ?_
      refine dr_put (d := 38) (v := .d (.fl (.int .i64 ((tt b.acc n b.chs i).1)))) rfl (og rfl (op_extract rfl rfl rfl rfl)) ?_
      refine dr_put (d := 39) (v := .d (.fl (.int .i64 ((tt b.acc n b.chs i).2)))) rfl (og rfl (op_extract rfl rfl rfl rfl)) ?_
      refine dr_put (d := 9) (v := .d (.fl (.int .i64 ((tt b.acc n b.chs i).1)))) rfl (og rfl (op_assign rfl rfl rfl)) ?_
      refine dr_put (d := 10) (v := .d (.fl (.int .i64 ((tt b.acc n b.chs i).2)))) rfl (og rfl (op_assign rfl rfl rfl)) ?_
      refine dr_done rfl (by kernel_rfl) (by kernel_rfl) ?_
      refine a_dseq (by kernel_rfl) ?_
      refine dr_put (d := 40) (v := .d (.fl (.int .i64 ((tt b.acc n b.chs i).2)))) rfl (og rfl (op_move rfl rfl rfl)) ?_
      refine dr_put (d := 41) (v := .d (.fl (.int .i64 ((tt b.acc n b.chs i).2)))) rfl (og rfl (op_move rfl rfl rfl)) ?_
      refine dr_put (d := 42) (v := .d (.fl (.bool (((tt b.acc n b.chs i).2 == (tt b.acc n b.chs i).2))))) rfl (og rfl (op_bin rfl rfl rfl (b_eql _ _ _ _) rfl)) ?_
      refine dr_put (d := 43) (v := .d (.fl (.bool (((tt b.acc n b.chs i).2 == (tt b.acc n b.chs i).2))))) rfl (og rfl (op_move rfl rfl rfl)) ?_
      refine dr_put (d := 44) (v := .d (.fl (.int .i64 ((tt b.acc n b.chs i).1)))) rfl (oy rfl rfl rfl (beq_self_eq_true _) (op_move rfl rfl rfl)) ?_
      refine dr_put (d := 45) (v := .d (.fl (.int .i64 ((tt b.acc n b.chs i).1)))) rfl (oy rfl rfl rfl (beq_self_eq_true _) (op_move rfl rfl rfl)) ?_
      refine dr_put (d := 46) (v := .d (.fl (.bool (((tt b.acc n b.chs i).1 == (tt b.acc n b.chs i).1))))) rfl (oy rfl rfl rfl (beq_self_eq_true _) (op_bin rfl rfl rfl (b_eql _ _ _ _) rfl)) ?_
      refine dr_put (d := 47) (v := .d (.fl (.bool (((tt b.acc n b.chs i).1 == (tt b.acc n b.chs i).1))))) rfl (og rfl (op_pick rfl rfl (by rw [(beq_self_eq_true _)]; rfl) rfl)) ?_
      refine dr_put (d := 48) (v := .d (.fl (.bool (((tt b.acc n b.chs i).1 == (tt b.acc n b.chs i).1))))) rfl (og rfl (op_move rfl rfl rfl)) ?_
      refine dr_put (d := 49) (v := .d (.ag (eBil b))) rfl (oy rfl rfl rfl (beq_self_eq_true _) (of_eff (s_load_pts rfl Tryd.underlying26 rfl ti26 rfl rfl rfl rfl) rfl)) ?_
      refine dr_put (d := 50) (v := .d (.ag (eCfg (cf b)))) rfl (oy rfl rfl rfl (beq_self_eq_true _) (op_call rfl Tryd.func7 nm7 rfl (.cons rfl (.d _) .nil) (cf16 b) rfl)) ?_
      refine dr_put (d := 51) (v := .d (.fl (.string n))) rfl (oy rfl rfl rfl (beq_self_eq_true _) (op_move rfl rfl rfl)) ?_
      refine dr_put (d := 52) (v := .pt 101 2) rfl (oy rfl rfl rfl (beq_self_eq_true _) (of_eff (s_field_pt rfl Tryd.underlying26 rfl ti24 rfl rfl rfl) rfl)) ?_
      refine dr_put (d := 53) (v := .d (.sl 7 (List.map eChg b.chs))) rfl (oy rfl rfl rfl (beq_self_eq_true _) (op_load_pt rfl Tryd.underlying24 rfl rfl rfl rfl rfl)) ?_
      refine dr_put (d := 54) (v := .d (.sl 7 (List.map eChg (ofl b.acc n b.chs)))) rfl (oy rfl rfl rfl (beq_self_eq_true _) (op_call rfl Tryd.func10 nm10 rfl (.cons rfl (.d _) (.cons rfl (.d _) (.cons rfl (.d _) .nil))) (of15 (cf b) n b.chs hc ha hl hz) rfl)) ?_
      refine dr_put (d := 55) (v := .d (.ag (eBil b))) rfl (oy rfl rfl rfl (beq_self_eq_true _) (of_eff (s_load_pts rfl Tryd.underlying26 rfl ti26 rfl rfl rfl rfl) rfl)) ?_
      refine dr_put (d := 56) (v := .d (.ag (eCfg (cf b)))) rfl (oy rfl rfl rfl (beq_self_eq_true _) (op_call rfl Tryd.func7 nm7 rfl (.cons rfl (.d _) .nil) (cf16 b) rfl)) ?_
      refine dr_put (d := 57) (v := .d (.fl (.string n))) rfl (oy rfl rfl rfl (beq_self_eq_true _) (op_move rfl rfl rfl)) ?_
      refine dr_put (d := 58) (v := .pt 101 2) rfl (oy rfl rfl rfl (beq_self_eq_true _) (of_eff (s_field_pt rfl Tryd.underlying26 rfl ti24 rfl rfl rfl) rfl)) ?_
      refine dr_put (d := 59) (v := .d (.sl 7 (List.map eChg b.chs))) rfl (oy rfl rfl rfl (beq_self_eq_true _) (op_load_pt rfl Tryd.underlying24 rfl rfl rfl rfl rfl)) ?_
      refine dr_put (d := 60) (v := .d (.sl 7 (List.map eChg (ofl b.acc n b.chs)))) rfl (oy rfl rfl rfl (beq_self_eq_true _) (op_call rfl Tryd.func11 nm11 rfl (.cons rfl (.d _) (.cons rfl (.d _) (.cons rfl (.d _) .nil))) (ofR (cf b) n b.chs hc ha hl hz) rfl)) ?_
      refine dr_put (d := 61) (v := .d (.fl (.bool true))) rfl (oy rfl rfl rfl (beq_self_eq_true _) (op_call rfl Tryd.func9 nm9 rfl (.cons rfl (.d _) (.cons rfl (.d _) .nil)) (sasC _ (by have := ofl_len b.acc n b.chs; omega) (ofl_z hz)) rfl)) ?_
      refine dr_put (d := 62) (v := .d (.fl (.bool true))) rfl (og rfl (op_pick rfl rfl (by rw [(beq_self_eq_true _)]; rfl) rfl)) ?_
      refine dr_put (d := 63) (v := .d (.fl (.bool true))) rfl (og rfl (op_move rfl rfl rfl)) ?_
      refine dr_put (d := 64) (v := .d (.fl (.bool true))) rfl (oy rfl rfl rfl rfl (op_callK kkst hG rfl Tryd.func5 nm5 rfl .nil alive5 rfl)) ?_
      refine dr_put (d := 65) (v := .d (.fl (.bool true))) rfl (og rfl (op_pick rfl rfl rfl rfl)) ?_
      refine dr_put (d := 6) (v := .d (.fl (.bool true))) rfl (og rfl (op_assign rfl rfl rfl)) ?_
      refine dr_done rfl (sepB_of [0, 0, 3, 7, 15, 15, 63, 127, 255, 511, 1023, 511, 511, 4607, 16383, 511, 65535, 511, 511, 262655, 1048575, 2097151, 4194303, 8388607, 16777215, 33554431, 67108863] (by kernel_rfl)) (by kernel_rfl) ?_
      refine a_ret ?_
      show ∃ ds, ResL _ _ _ ds ∧ RV.of ds = _
      refine ⟨[.fl (.bool true)], (.cons (.tmp rfl (.d _)) .nil), ?_⟩
      rfl
  · skip
    have h6 := t_not h1
    refine rg_put (d := 15) (v := .d (.fl undef)) rfl (on rfl rfl rfl h1) ?_
    refine rg_put (d := 16) (v := .d (.fl undef)) rfl (on rfl rfl rfl h1) ?_
    refine rg_put (d := 17) (v := .d (.fl undef)) rfl (on rfl rfl rfl h1) ?_
    refine rg_put (d := 18) (v := .d (.fl (.bool true))) rfl (og rfl (op_pick rfl rfl (by rw [h1]; rfl) rfl)) ?_
    refine rg_done rfl ?_
    refine a_condK rfl rfl ?_
    refine a_rseq ?_
    refine rg_put (d := 19) (v := .d (.fl (.bool true))) rfl (og rfl (op_callK kkst hG rfl Tryd.func5 nm5 rfl .nil alive5 rfl)) ?_
    refine rg_put (d := 6) (v := .d (.fl (.bool true))) rfl (og rfl (op_assign rfl rfl rfl)) ?_
    refine rg_done rfl ?_
    refine a_ret ?_
    show ∃ ds, ResL _ _ _ ds ∧ RV.of ds = _
    refine ⟨[.fl (.bool true)], (.cons (.tmp rfl (.d _)) .nil), ?_⟩
    rfl
end Go.Proofs.YtaapmifdglaehaaDoor.Wk
