/- The law of orders. No condition. -/
import Derived.Test.YtidloonhhckkgaaDoorAl
import Derived.Test.YtidloonhhckkgaaDoorB1
set_option linter.unusedSimpArgs false
set_option linter.unusedVariables false
namespace Go.Proofs.YtidloonhhckkgaaDoor.Wk
open Go Go.RowKit Go.Proofs.YtidloonhhckkgaaDoor.Av
theorem eq_self_bb (a : Bool) : (a == a) = true := by cases a <;> rfl
set_option maxHeartbeats 4000000 in
set_option maxRecDepth 100000 in
theorem law3 (a b : Sn) : Ctr Tryd.prog 3 [.ag (eSn a), .ag (eSn b)] (.d (.fl (.bool true))) := by
  refine ctr (n := 59) (rs := #[.tmp 4]) (L := [(0, .d (.ag (eSn a))), (1, .d (.ag (eSn b)))]) Tryd.func3 rfl rfl rfl rfl rfl (fun w0 U0 => ?_)
  refine a_rseq ?_
  refine rg_nam (d := 2) (v := .pt 101 0) (m := 101) (nw := [(101, .bx 25 (eSn a))]) rfl (og rfl (of_eff (op_box 101 rfl rfl rfl rfl) rfl)) rfl ?_
  refine rg_nam (d := 3) (v := .pt 102 0) (m := 102) (nw := [(102, .bx 25 (eSn b))]) rfl (og rfl (of_eff (op_box 102 rfl rfl rfl rfl) rfl)) rfl ?_
  refine rg_put (d := 4) (v := .d (.fl (.bool false))) rfl (og rfl (op_assign rfl rfl rfl)) ?_
  refine rg_done rfl ?_
  refine a_seq ?_
  refine a_rseq ?_
  refine rg_put (d := 7) (v := .pt 101 0) rfl (og rfl (of_eff (s_field_pt rfl Tryd.underlying25 rfl ti23 rfl rfl rfl) rfl)) ?_
  refine rg_put (d := 8) (v := .d (.ag (eDe a.d))) rfl (og rfl (of_eff (s_load_pts rfl Tryd.underlying23 rfl ti23 rfl rfl rfl rfl) rfl)) ?_
  refine rg_put (d := 9) (v := .d (.fl (.bool (sh a.d)))) rfl (og rfl (op_call rfl Tryd.func5 nm5 rfl (.cons rfl (.d _) .nil) (sh5 a.d) rfl)) ?_
  refine rg_put (d := 10) (v := .d (.fl (.bool ((!(sh a.d)))))) rfl (og rfl (op_un rfl rfl (u_not _) rfl)) ?_
  refine rg_put (d := 11) (v := .d (.fl (.bool ((!(sh a.d)))))) rfl (og rfl (op_move rfl rfl rfl)) ?_
  rcases fot ((!(sh a.d))) with h1 | h1
  · skip
    have h2 := f_not h1
    refine rg_put (d := 12) (v := .pt 102 0) rfl (oy rfl rfl rfl h1 (of_eff (s_field_pt rfl Tryd.underlying25 rfl ti23 rfl rfl rfl) rfl)) ?_
    refine rg_put (d := 13) (v := .d (.ag (eDe b.d))) rfl (oy rfl rfl rfl h1 (of_eff (s_load_pts rfl Tryd.underlying23 rfl ti23 rfl rfl rfl rfl) rfl)) ?_
    refine rg_put (d := 14) (v := .d (.fl (.bool (sh b.d)))) rfl (oy rfl rfl rfl h1 (op_call rfl Tryd.func5 nm5 rfl (.cons rfl (.d _) .nil) (sh5 b.d) rfl)) ?_
    refine rg_put (d := 15) (v := .d (.fl (.bool ((!(sh b.d)))))) rfl (oy rfl rfl rfl h1 (op_un rfl rfl (u_not _) rfl)) ?_
    refine rg_put (d := 16) (v := .d (.fl (.bool ((!(sh b.d)))))) rfl (og rfl (op_pick rfl rfl (by rw [h1]; rfl) rfl)) ?_
    refine rg_put (d := 17) (v := .d (.fl (.bool ((!(sh b.d)))))) rfl (og rfl (op_move rfl rfl rfl)) ?_
    rcases fot ((!(sh b.d))) with h3 | h3
    · skip
      have h4 := f_not h3
      refine rg_put (d := 18) (v := .pt 101 8) rfl (oy rfl rfl rfl h3 (of_eff (s_field_pt rfl Tryd.underlying25 rfl ti9 rfl rfl rfl) rfl)) ?_
      refine rg_put (d := 19) (v := .d (.fl (.string a.point))) rfl (oy rfl rfl rfl h3 (op_load_pt rfl Tryd.underlying9 rfl rfl rfl rfl rfl)) ?_
      refine rg_put (d := 20) (v := .d (.fl (.int .i64 (a.point.size : Int)))) rfl (oy rfl rfl rfl h3 (op_len_str rfl Tryd.underlying9 rfl rfl)) ?_
      refine rg_put (d := 21) (v := .d (.fl (.bool ((decide (40 < (a.point.size : Int))))))) rfl (oy rfl rfl rfl h3 (op_bin rfl rfl rfl (b_gtr _ _ _ _) rfl)) ?_
      refine rg_put (d := 22) (v := .d (.fl (.bool ((decide (40 < (a.point.size : Int))))))) rfl (og rfl (op_pick rfl rfl (by rw [h3]; rfl) rfl)) ?_
      refine rg_put (d := 23) (v := .d (.fl (.bool ((decide (40 < (a.point.size : Int))))))) rfl (og rfl (op_move rfl rfl rfl)) ?_
      rcases fot ((decide (40 < (a.point.size : Int)))) with h5 | h5
      · skip
        have h6 := f_dec h5
        refine rg_put (d := 24) (v := .pt 102 8) rfl (oy rfl rfl rfl h5 (of_eff (s_field_pt rfl Tryd.underlying25 rfl ti9 rfl rfl rfl) rfl)) ?_
        refine rg_put (d := 25) (v := .d (.fl (.string b.point))) rfl (oy rfl rfl rfl h5 (op_load_pt rfl Tryd.underlying9 rfl rfl rfl rfl rfl)) ?_
        refine rg_put (d := 26) (v := .d (.fl (.int .i64 (b.point.size : Int)))) rfl (oy rfl rfl rfl h5 (op_len_str rfl Tryd.underlying9 rfl rfl)) ?_
        refine rg_put (d := 27) (v := .d (.fl (.bool ((decide (40 < (b.point.size : Int))))))) rfl (oy rfl rfl rfl h5 (op_bin rfl rfl rfl (b_gtr _ _ _ _) rfl)) ?_
        refine rg_put (d := 28) (v := .d (.fl (.bool ((decide (40 < (b.point.size : Int))))))) rfl (og rfl (op_pick rfl rfl (by rw [h5]; rfl) rfl)) ?_
        refine rg_done rfl ?_
        refine a_cond rfl (fun h7 => ?_) (fun h7 => ?_)
        · skip
          have h8 := t_dec h7
          refine a_rseq ?_
          refine rg_put (d := 29) (v := .d (.fl (.bool true))) rfl (og rfl (op_call rfl Tryd.func6 nm6 rfl .nil alive6 rfl)) ?_
          refine rg_put (d := 4) (v := .d (.fl (.bool true))) rfl (og rfl (op_assign rfl rfl rfl)) ?_
          refine rg_done rfl ?_
          refine a_ret ?_
          show ∃ ds, ResL _ _ _ ds ∧ RV.of ds = _
          refine ⟨[.fl (.bool true)], (.cons (.tmp rfl (.d _)) .nil), ?_⟩
          rfl
        · skip
          have h9 := f_dec h7
          refine a_skip ?_
          show A _ _ _ _ _ _ _
          refine a_dseq (by kernel_rfl) ?_
          have hsa := h2
          have hsb := h4
          refine dr_put (d := 30) (v := .pt 101 0) rfl (og rfl (of_eff (s_field_pt rfl Tryd.underlying25 rfl ti23 rfl rfl rfl) rfl)) ?_
          refine dr_put (d := 31) (v := .d (.ag (eDe a.d))) rfl (og rfl (of_eff (s_load_pts rfl Tryd.underlying23 rfl ti23 rfl rfl rfl rfl) rfl)) ?_
          refine dr_put (d := 32) (v := .pt 101 9) rfl (og rfl (of_eff (s_field_pt rfl Tryd.underlying25 rfl ti3 rfl rfl rfl) rfl)) ?_
          refine dr_put (d := 33) (v := .d (.fl (.int .i64 a.lane))) rfl (og rfl (op_load_pt rfl Tryd.underlying3 rfl rfl rfl rfl rfl)) ?_
          refine dr_put (d := 34) (v := .d (.ag (eRj (Rj.mk a.d a.lane)))) rfl (og rfl (of_eff (op_build rfl Tryd.underlying29 ti29 rfl (by kernel_rfl) (by kernel_rfl) (pl := #[(0, 7), (7, 1)]) (by kernel_rfl) (.cons rfl rfl (.d _) rfl rfl rfl (.cons rfl rfl (.d _) rfl rfl rfl .nil)) rfl) rfl)) ?_
          refine dr_put (d := 35) (v := .pt 102 0) rfl (og rfl (of_eff (s_field_pt rfl Tryd.underlying25 rfl ti23 rfl rfl rfl) rfl)) ?_
          refine dr_put (d := 36) (v := .d (.ag (eDe b.d))) rfl (og rfl (of_eff (s_load_pts rfl Tryd.underlying23 rfl ti23 rfl rfl rfl rfl) rfl)) ?_
          refine dr_put (d := 37) (v := .pt 102 9) rfl (og rfl (of_eff (s_field_pt rfl Tryd.underlying25 rfl ti3 rfl rfl rfl) rfl)) ?_
          refine dr_put (d := 38) (v := .d (.fl (.int .i64 b.lane))) rfl (og rfl (op_load_pt rfl Tryd.underlying3 rfl rfl rfl rfl rfl)) ?_
          refine dr_put (d := 39) (v := .d (.ag (eRj (Rj.mk b.d b.lane)))) rfl (og rfl (of_eff (op_build rfl Tryd.underlying29 ti29 rfl (by kernel_rfl) (by kernel_rfl) (pl := #[(0, 7), (7, 1)]) (by kernel_rfl) (.cons rfl rfl (.d _) rfl rfl rfl (.cons rfl rfl (.d _) rfl rfl rfl .nil)) rfl) rfl)) ?_
          refine dr_nam (d := 5) (v := .pt 103 0) (m := 103) (nw := [(103, .bx 29 ([.fl (.string (⟨#[]⟩)), .fl (.int .i64 0), .fl (.int .i64 0), .fl (.string (⟨#[]⟩)), .fl (.string (⟨#[]⟩)), .fl (.int .i64 0), .fl (.int .i64 0), .fl (.int .i64 0)]))]) rfl (og rfl (of_eff (s_alloc 103 rfl ti29 (by kernel_rfl) rfl) rfl)) ?_
          refine dr_nam (d := 6) (v := .pt 104 0) (m := 104) (nw := [(104, .bx 29 ([.fl (.string (⟨#[]⟩)), .fl (.int .i64 0), .fl (.int .i64 0), .fl (.string (⟨#[]⟩)), .fl (.string (⟨#[]⟩)), .fl (.int .i64 0), .fl (.int .i64 0), .fl (.int .i64 0)]))]) rfl (og rfl (of_eff (s_alloc 104 rfl ti29 (by kernel_rfl) rfl) rfl)) ?_
          refine dr_sto (nw := [(103, .bx 29 ((eRj (Rj.mk a.d a.lane))))]) rfl (og rfl (of_eff (s_store rfl rfl ti29 rfl rfl rfl rfl rfl rfl) rfl)) ?_
          refine dr_sto (nw := [(104, .bx 29 ((eRj (Rj.mk b.d b.lane))))]) rfl (og rfl (of_eff (s_store rfl rfl ti29 rfl rfl rfl rfl rfl rfl) rfl)) ?_
          refine dr_done rfl (by kernel_rfl) (by kernel_rfl) ?_
          refine a_dseq (by kernel_rfl) ?_
          refine dr_put (d := 40) (v := .d (.ag (eSn a))) rfl (og rfl (of_eff (s_load_pts rfl Tryd.underlying25 rfl ti25 rfl rfl rfl rfl) rfl)) ?_
          refine dr_put (d := 41) (v := .d (.ag (eSn b))) rfl (og rfl (of_eff (s_load_pts rfl Tryd.underlying25 rfl ti25 rfl rfl rfl rfl) rfl)) ?_
          refine dr_put (d := 42) (v := .d (.fl (.int .i64 (cs a b)))) rfl (og rfl (op_call rfl Tryd.func7 nm7 rfl (.cons rfl (.d _) (.cons rfl (.d _) .nil)) (cs7 a b) rfl)) ?_
          refine dr_put (d := 43) (v := .d (.ag (eSn a))) rfl (og rfl (of_eff (s_load_pts rfl Tryd.underlying25 rfl ti25 rfl rfl rfl rfl) rfl)) ?_
          refine dr_put (d := 44) (v := .d (.ag (eSn b))) rfl (og rfl (of_eff (s_load_pts rfl Tryd.underlying25 rfl ti25 rfl rfl rfl rfl) rfl)) ?_
          refine dr_put (d := 45) (v := .d (.fl (.int .i64 (cs a b)))) rfl (og rfl (op_call rfl Tryd.func8 nm8 rfl (.cons rfl (.d _) (.cons rfl (.d _) .nil)) (cs8 a b hsa hsb (by omega) (by omega)) rfl)) ?_
          refine dr_put (d := 46) (v := .d (.fl (.bool (((cs a b) == (cs a b)))))) rfl (og rfl (op_bin rfl rfl rfl (b_eql _ _ _ _) rfl)) ?_
          refine dr_put (d := 47) (v := .d (.fl (.bool (((cs a b) == (cs a b)))))) rfl (og rfl (op_move rfl rfl rfl)) ?_
          refine dr_put (d := 48) (v := .d (.ag (eRj (Rj.mk a.d a.lane)))) rfl (oy rfl rfl rfl (eq_self_b _) (of_eff (s_load_pts rfl Tryd.underlying29 rfl ti29 rfl rfl rfl rfl) rfl)) ?_
          refine dr_put (d := 49) (v := .d (.ag (eRj (Rj.mk b.d b.lane)))) rfl (oy rfl rfl rfl (eq_self_b _) (of_eff (s_load_pts rfl Tryd.underlying29 rfl ti29 rfl rfl rfl rfl) rfl)) ?_
          refine dr_put (d := 50) (v := .d (.fl (.bool ((decide (cj (Rj.mk a.d a.lane) (Rj.mk b.d b.lane) < 0)))))) rfl (oy rfl rfl rfl (eq_self_b _) (op_call rfl Tryd.func9 nm9 rfl (.cons rfl (.d _) (.cons rfl (.d _) .nil)) (lj9 (Rj.mk a.d a.lane) (Rj.mk b.d b.lane)) rfl)) ?_
          refine dr_put (d := 51) (v := .d (.ag (eRj (Rj.mk a.d a.lane)))) rfl (oy rfl rfl rfl (eq_self_b _) (of_eff (s_load_pts rfl Tryd.underlying29 rfl ti29 rfl rfl rfl rfl) rfl)) ?_
          refine dr_put (d := 52) (v := .d (.ag (eRj (Rj.mk b.d b.lane)))) rfl (oy rfl rfl rfl (eq_self_b _) (of_eff (s_load_pts rfl Tryd.underlying29 rfl ti29 rfl rfl rfl rfl) rfl)) ?_
          refine dr_put (d := 53) (v := .d (.fl (.bool ((decide (cj (Rj.mk a.d a.lane) (Rj.mk b.d b.lane) < 0)))))) rfl (oy rfl rfl rfl (eq_self_b _) (op_call rfl Tryd.func10 nm10 rfl (.cons rfl (.d _) (.cons rfl (.d _) .nil)) (lj10 (Rj.mk a.d a.lane) (Rj.mk b.d b.lane) hsa hsb) rfl)) ?_
          refine dr_put (d := 54) (v := .d (.fl (.bool (((decide (cj (Rj.mk a.d a.lane) (Rj.mk b.d b.lane) < 0)) == (decide (cj (Rj.mk a.d a.lane) (Rj.mk b.d b.lane) < 0))))))) rfl (oy rfl rfl rfl (eq_self_b _) (op_bin rfl rfl rfl (fun x y w => b_beq _ _ _ x y w Tryd.underlying4) rfl)) ?_
          refine dr_put (d := 55) (v := .d (.fl (.bool (((decide (cj (Rj.mk a.d a.lane) (Rj.mk b.d b.lane) < 0)) == (decide (cj (Rj.mk a.d a.lane) (Rj.mk b.d b.lane) < 0))))))) rfl (og rfl (op_pick rfl rfl (by rw [(eq_self_b _)]; rfl) rfl)) ?_
          refine dr_put (d := 56) (v := .d (.fl (.bool (((decide (cj (Rj.mk a.d a.lane) (Rj.mk b.d b.lane) < 0)) == (decide (cj (Rj.mk a.d a.lane) (Rj.mk b.d b.lane) < 0))))))) rfl (og rfl (op_move rfl rfl rfl)) ?_
          refine dr_put (d := 57) (v := .d (.fl (.bool true))) rfl (oy rfl rfl rfl (eq_self_bb _) (op_call rfl Tryd.func6 nm6 rfl .nil alive6 rfl)) ?_
          refine dr_put (d := 58) (v := .d (.fl (.bool true))) rfl (og rfl (op_pick rfl rfl (by rw [(eq_self_bb _)]; rfl) rfl)) ?_
          refine dr_put (d := 4) (v := .d (.fl (.bool true))) rfl (og rfl (op_assign rfl rfl rfl)) ?_
          refine dr_done rfl (sepB_of [0, 0, 3, 0, 0, 31, 63, 127, 255, 255, 1023, 255, 255, 8191, 16383, 32767, 65535, 131071, 262143, 524287] (by kernel_rfl)) (by kernel_rfl) ?_
          refine a_ret ?_
          show ∃ ds, ResL _ _ _ ds ∧ RV.of ds = _
          refine ⟨[.fl (.bool true)], (.cons (.tmp rfl (.d _)) .nil), ?_⟩
          rfl
      · skip
        have h10 := t_dec h5
        refine rg_put (d := 24) (v := .d (.fl undef)) rfl (on rfl rfl rfl h5) ?_
        refine rg_put (d := 25) (v := .d (.fl undef)) rfl (on rfl rfl rfl h5) ?_
        refine rg_put (d := 26) (v := .d (.fl undef)) rfl (on rfl rfl rfl h5) ?_
        refine rg_put (d := 27) (v := .d (.fl undef)) rfl (on rfl rfl rfl h5) ?_
        refine rg_put (d := 28) (v := .d (.fl (.bool true))) rfl (og rfl (op_pick rfl rfl (by rw [h5]; rfl) rfl)) ?_
        refine rg_done rfl ?_
        refine a_condK rfl rfl ?_
        refine a_rseq ?_
        refine rg_put (d := 29) (v := .d (.fl (.bool true))) rfl (og rfl (op_call rfl Tryd.func6 nm6 rfl .nil alive6 rfl)) ?_
        refine rg_put (d := 4) (v := .d (.fl (.bool true))) rfl (og rfl (op_assign rfl rfl rfl)) ?_
        refine rg_done rfl ?_
        refine a_ret ?_
        show ∃ ds, ResL _ _ _ ds ∧ RV.of ds = _
        refine ⟨[.fl (.bool true)], (.cons (.tmp rfl (.d _)) .nil), ?_⟩
        rfl
    · skip
      have h11 := t_not h3
      refine rg_put (d := 18) (v := .d (.fl undef)) rfl (on rfl rfl rfl h3) ?_
      refine rg_put (d := 19) (v := .d (.fl undef)) rfl (on rfl rfl rfl h3) ?_
      refine rg_put (d := 20) (v := .d (.fl undef)) rfl (on rfl rfl rfl h3) ?_
      refine rg_put (d := 21) (v := .d (.fl undef)) rfl (on rfl rfl rfl h3) ?_
      refine rg_put (d := 22) (v := .d (.fl (.bool true))) rfl (og rfl (op_pick rfl rfl (by rw [h3]; rfl) rfl)) ?_
      refine rg_put (d := 23) (v := .d (.fl (.bool true))) rfl (og rfl (op_move rfl rfl rfl)) ?_
      refine rg_put (d := 24) (v := .d (.fl undef)) rfl (on rfl rfl rfl rfl) ?_
      refine rg_put (d := 25) (v := .d (.fl undef)) rfl (on rfl rfl rfl rfl) ?_
      refine rg_put (d := 26) (v := .d (.fl undef)) rfl (on rfl rfl rfl rfl) ?_
      refine rg_put (d := 27) (v := .d (.fl undef)) rfl (on rfl rfl rfl rfl) ?_
      refine rg_put (d := 28) (v := .d (.fl (.bool true))) rfl (og rfl (op_pick rfl rfl rfl rfl)) ?_
      refine rg_done rfl ?_
      refine a_condK rfl rfl ?_
      refine a_rseq ?_
      refine rg_put (d := 29) (v := .d (.fl (.bool true))) rfl (og rfl (op_call rfl Tryd.func6 nm6 rfl .nil alive6 rfl)) ?_
      refine rg_put (d := 4) (v := .d (.fl (.bool true))) rfl (og rfl (op_assign rfl rfl rfl)) ?_
      refine rg_done rfl ?_
      refine a_ret ?_
      show ∃ ds, ResL _ _ _ ds ∧ RV.of ds = _
      refine ⟨[.fl (.bool true)], (.cons (.tmp rfl (.d _)) .nil), ?_⟩
      rfl
  · skip
    have h12 := t_not h1
    refine rg_put (d := 12) (v := .d (.fl undef)) rfl (on rfl rfl rfl h1) ?_
    refine rg_put (d := 13) (v := .d (.fl undef)) rfl (on rfl rfl rfl h1) ?_
    refine rg_put (d := 14) (v := .d (.fl undef)) rfl (on rfl rfl rfl h1) ?_
    refine rg_put (d := 15) (v := .d (.fl undef)) rfl (on rfl rfl rfl h1) ?_
    refine rg_put (d := 16) (v := .d (.fl (.bool true))) rfl (og rfl (op_pick rfl rfl (by rw [h1]; rfl) rfl)) ?_
    refine rg_put (d := 17) (v := .d (.fl (.bool true))) rfl (og rfl (op_move rfl rfl rfl)) ?_
    refine rg_put (d := 18) (v := .d (.fl undef)) rfl (on rfl rfl rfl rfl) ?_
    refine rg_put (d := 19) (v := .d (.fl undef)) rfl (on rfl rfl rfl rfl) ?_
    refine rg_put (d := 20) (v := .d (.fl undef)) rfl (on rfl rfl rfl rfl) ?_
    refine rg_put (d := 21) (v := .d (.fl undef)) rfl (on rfl rfl rfl rfl) ?_
    refine rg_put (d := 22) (v := .d (.fl (.bool true))) rfl (og rfl (op_pick rfl rfl rfl rfl)) ?_
    refine rg_put (d := 23) (v := .d (.fl (.bool true))) rfl (og rfl (op_move rfl rfl rfl)) ?_
    refine rg_put (d := 24) (v := .d (.fl undef)) rfl (on rfl rfl rfl rfl) ?_
    refine rg_put (d := 25) (v := .d (.fl undef)) rfl (on rfl rfl rfl rfl) ?_
    refine rg_put (d := 26) (v := .d (.fl undef)) rfl (on rfl rfl rfl rfl) ?_
    refine rg_put (d := 27) (v := .d (.fl undef)) rfl (on rfl rfl rfl rfl) ?_
    refine rg_put (d := 28) (v := .d (.fl (.bool true))) rfl (og rfl (op_pick rfl rfl rfl rfl)) ?_
    refine rg_done rfl ?_
    refine a_condK rfl rfl ?_
    refine a_rseq ?_
    refine rg_put (d := 29) (v := .d (.fl (.bool true))) rfl (og rfl (op_call rfl Tryd.func6 nm6 rfl .nil alive6 rfl)) ?_
    refine rg_put (d := 4) (v := .d (.fl (.bool true))) rfl (og rfl (op_assign rfl rfl rfl)) ?_
    refine rg_done rfl ?_
    refine a_ret ?_
    show ∃ ds, ResL _ _ _ ds ∧ RV.of ds = _
    refine ⟨[.fl (.bool true)], (.cons (.tmp rfl (.d _)) .nil), ?_⟩
    rfl
end Go.Proofs.YtidloonhhckkgaaDoor.Wk
