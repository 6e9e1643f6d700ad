/- The law of the total order. No condition. -/
import Derived.Test.YtidloonhhckkgaaDoorC1
import Derived.Test.YtidloonhhckkgaaDoorEq
set_option linter.unusedSimpArgs false
set_option linter.unusedVariables false
namespace Go.Proofs.YtidloonhhckkgaaDoor.Wk
open Go Go.RowKit Go.Proofs.YtidloonhhckkgaaDoor.Av
theorem ne_neg (a b : Sn) : ((cs a b) != (-(cs b a))) = false := by rw [cs_neg a b]; simp
theorem ne_0 (a b : Sn) : (!(((cs a b) == 0) == (eS a b))) = false := by rw [cs_0]; simp

set_option maxHeartbeats 4000000 in
set_option maxRecDepth 100000 in
theorem law4 (a b c : Sn) : Ctr Tryd.prog 4 [.ag (eSn a), .ag (eSn b), .ag (eSn c)] (.d (.fl (.bool true))) := by
  have i1 := cs_in a b
  have i2 := cs_in b c
  have i3 := cs_in a c
  have i4 := cs_in b a
  refine ctr (n := 100) (rs := #[.tmp 6]) (L := [(0, .d (.ag (eSn a))), (1, .d (.ag (eSn b))), (2, .d (.ag (eSn c)))]) Tryd.func4 rfl rfl rfl rfl rfl (fun w0 U0 => ?_)
  refine a_rseq ?_
  refine rg_nam (d := 3) (v := .pt 101 0) (m := 101) (nw := [(101, .bx 25 (eSn a))]) rfl (og rfl (of_eff (op_box 101 rfl rfl rfl rfl) rfl)) rfl ?_
  refine rg_nam (d := 4) (v := .pt 102 0) (m := 102) (nw := [(102, .bx 25 (eSn b))]) rfl (og rfl (of_eff (op_box 102 rfl rfl rfl rfl) rfl)) rfl ?_
  refine rg_nam (d := 5) (v := .pt 103 0) (m := 103) (nw := [(103, .bx 25 (eSn c))]) rfl (og rfl (of_eff (op_box 103 rfl rfl rfl rfl) rfl)) rfl ?_
  refine rg_put (d := 6) (v := .d (.fl (.bool false))) rfl (og rfl (op_assign rfl rfl rfl)) ?_
  refine rg_done rfl ?_
  refine a_seq ?_
  refine a_rseq ?_
  refine rg_put (d := 10) (v := .pt 101 0) rfl (og rfl (of_eff (s_field_pt rfl Tryd.underlying25 rfl ti23 rfl rfl rfl) rfl)) ?_
  refine rg_put (d := 11) (v := .d (.ag (eDe a.d))) rfl (og rfl (of_eff (s_load_pts rfl Tryd.underlying23 rfl ti23 rfl rfl rfl rfl) rfl)) ?_
  refine rg_put (d := 12) (v := .d (.fl (.bool (sh a.d)))) rfl (og rfl (op_call rfl Tryd.func5 nm5 rfl (.cons rfl (.d _) .nil) (sh5 a.d) rfl)) ?_
  refine rg_put (d := 13) (v := .d (.fl (.bool ((!(sh a.d)))))) rfl (og rfl (op_un rfl rfl (u_not _) rfl)) ?_
  refine rg_put (d := 14) (v := .d (.fl (.bool ((!(sh a.d)))))) rfl (og rfl (op_move rfl rfl rfl)) ?_
  rcases fot ((!(sh a.d))) with h1 | h1
  · skip
    have h2 := f_not h1
    refine rg_put (d := 15) (v := .pt 102 0) rfl (oy rfl rfl rfl h1 (of_eff (s_field_pt rfl Tryd.underlying25 rfl ti23 rfl rfl rfl) rfl)) ?_
    refine rg_put (d := 16) (v := .d (.ag (eDe b.d))) rfl (oy rfl rfl rfl h1 (of_eff (s_load_pts rfl Tryd.underlying23 rfl ti23 rfl rfl rfl rfl) rfl)) ?_
    refine rg_put (d := 17) (v := .d (.fl (.bool (sh b.d)))) rfl (oy rfl rfl rfl h1 (op_call rfl Tryd.func5 nm5 rfl (.cons rfl (.d _) .nil) (sh5 b.d) rfl)) ?_
    refine rg_put (d := 18) (v := .d (.fl (.bool ((!(sh b.d)))))) rfl (oy rfl rfl rfl h1 (op_un rfl rfl (u_not _) rfl)) ?_
    refine rg_put (d := 19) (v := .d (.fl (.bool ((!(sh b.d)))))) rfl (og rfl (op_pick rfl rfl (by rw [h1]; rfl) rfl)) ?_
    refine rg_put (d := 20) (v := .d (.fl (.bool ((!(sh b.d)))))) rfl (og rfl (op_move rfl rfl rfl)) ?_
    rcases fot ((!(sh b.d))) with h3 | h3
    · skip
      have h4 := f_not h3
      refine rg_put (d := 21) (v := .pt 103 0) rfl (oy rfl rfl rfl h3 (of_eff (s_field_pt rfl Tryd.underlying25 rfl ti23 rfl rfl rfl) rfl)) ?_
      refine rg_put (d := 22) (v := .d (.ag (eDe c.d))) rfl (oy rfl rfl rfl h3 (of_eff (s_load_pts rfl Tryd.underlying23 rfl ti23 rfl rfl rfl rfl) rfl)) ?_
      refine rg_put (d := 23) (v := .d (.fl (.bool (sh c.d)))) rfl (oy rfl rfl rfl h3 (op_call rfl Tryd.func5 nm5 rfl (.cons rfl (.d _) .nil) (sh5 c.d) rfl)) ?_
      refine rg_put (d := 24) (v := .d (.fl (.bool ((!(sh c.d)))))) rfl (oy rfl rfl rfl h3 (op_un rfl rfl (u_not _) rfl)) ?_
      refine rg_put (d := 25) (v := .d (.fl (.bool ((!(sh c.d)))))) rfl (og rfl (op_pick rfl rfl (by rw [h3]; rfl) rfl)) ?_
      refine rg_put (d := 26) (v := .d (.fl (.bool ((!(sh c.d)))))) rfl (og rfl (op_move rfl rfl rfl)) ?_
      rcases fot ((!(sh c.d))) with h5 | h5
      · skip
        have h6 := f_not h5
        refine rg_put (d := 27) (v := .pt 101 8) rfl (oy rfl rfl rfl h5 (of_eff (s_field_pt rfl Tryd.underlying25 rfl ti9 rfl rfl rfl) rfl)) ?_
        refine rg_put (d := 28) (v := .d (.fl (.string a.point))) rfl (oy rfl rfl rfl h5 (op_load_pt rfl Tryd.underlying9 rfl rfl rfl rfl rfl)) ?_
        refine rg_put (d := 29) (v := .d (.fl (.int .i64 (a.point.size : Int)))) rfl (oy rfl rfl rfl h5 (op_len_str rfl Tryd.underlying9 rfl rfl)) ?_
        refine rg_put (d := 30) (v := .d (.fl (.bool ((decide (40 < (a.point.size : Int))))))) rfl (oy rfl rfl rfl h5 (op_bin rfl rfl rfl (b_gtr _ _ _ _) rfl)) ?_
        refine rg_put (d := 31) (v := .d (.fl (.bool ((decide (40 < (a.point.size : Int))))))) rfl (og rfl (op_pick rfl rfl (by rw [h5]; rfl) rfl)) ?_
        refine rg_put (d := 32) (v := .d (.fl (.bool ((decide (40 < (a.point.size : Int))))))) rfl (og rfl (op_move rfl rfl rfl)) ?_
        rcases fot ((decide (40 < (a.point.size : Int)))) with h7 | h7
        · skip
          have h8 := f_dec h7
          refine rg_put (d := 33) (v := .pt 102 8) rfl (oy rfl rfl rfl h7 (of_eff (s_field_pt rfl Tryd.underlying25 rfl ti9 rfl rfl rfl) rfl)) ?_
          refine rg_put (d := 34) (v := .d (.fl (.string b.point))) rfl (oy rfl rfl rfl h7 (op_load_pt rfl Tryd.underlying9 rfl rfl rfl rfl rfl)) ?_
          refine rg_put (d := 35) (v := .d (.fl (.int .i64 (b.point.size : Int)))) rfl (oy rfl rfl rfl h7 (op_len_str rfl Tryd.underlying9 rfl rfl)) ?_
          refine rg_put (d := 36) (v := .d (.fl (.bool ((decide (40 < (b.point.size : Int))))))) rfl (oy rfl rfl rfl h7 (op_bin rfl rfl rfl (b_gtr _ _ _ _) rfl)) ?_
          refine rg_put (d := 37) (v := .d (.fl (.bool ((decide (40 < (b.point.size : Int))))))) rfl (og rfl (op_pick rfl rfl (by rw [h7]; rfl) rfl)) ?_
          refine rg_put (d := 38) (v := .d (.fl (.bool ((decide (40 < (b.point.size : Int))))))) rfl (og rfl (op_move rfl rfl rfl)) ?_
          rcases fot ((decide (40 < (b.point.size : Int)))) with h9 | h9
          · skip
            have h10 := f_dec h9
            refine rg_put (d := 39) (v := .pt 103 8) rfl (oy rfl rfl rfl h9 (of_eff (s_field_pt rfl Tryd.underlying25 rfl ti9 rfl rfl rfl) rfl)) ?_
            refine rg_put (d := 40) (v := .d (.fl (.string c.point))) rfl (oy rfl rfl rfl h9 (op_load_pt rfl Tryd.underlying9 rfl rfl rfl rfl rfl)) ?_
            refine rg_put (d := 41) (v := .d (.fl (.int .i64 (c.point.size : Int)))) rfl (oy rfl rfl rfl h9 (op_len_str rfl Tryd.underlying9 rfl rfl)) ?_
            refine rg_put (d := 42) (v := .d (.fl (.bool ((decide (40 < (c.point.size : Int))))))) rfl (oy rfl rfl rfl h9 (op_bin rfl rfl rfl (b_gtr _ _ _ _) rfl)) ?_
            refine rg_put (d := 43) (v := .d (.fl (.bool ((decide (40 < (c.point.size : Int))))))) rfl (og rfl (op_pick rfl rfl (by rw [h9]; rfl) rfl)) ?_
            refine rg_done rfl ?_
            refine a_cond rfl (fun h11 => ?_) (fun h11 => ?_)
            · skip
              have h12 := t_dec h11
              refine a_rseq ?_
              refine rg_put (d := 44) (v := .d (.fl (.bool true))) rfl (og rfl (op_call rfl Tryd.func6 nm6 rfl .nil alive6 rfl)) ?_
              refine rg_put (d := 6) (v := .d (.fl (.bool true))) rfl (og rfl (op_assign rfl rfl rfl)) ?_
              refine rg_done rfl ?_
              refine a_ret ?_
              show ∃ ds, ResL _ _ _ ds ∧ RV.of ds = _
              refine ⟨[.fl (.bool true)], (.cons (.tmp rfl (.d _)) .nil), ?_⟩
              rfl
            · skip
              have h13 := f_dec h11
              refine a_skip ?_
              show A _ _ _ _ _ _ _
              refine a_dseq (by kernel_rfl) ?_
              refine dr_put (d := 45) (v := .d (.ag (eSn a))) rfl (og rfl (of_eff (s_load_pts rfl Tryd.underlying25 rfl ti25 rfl rfl rfl rfl) rfl)) ?_
              refine dr_put (d := 46) (v := .d (.ag (eSn b))) rfl (og rfl (of_eff (s_load_pts rfl Tryd.underlying25 rfl ti25 rfl rfl rfl rfl) rfl)) ?_
              refine dr_put (d := 47) (v := .d (.fl (.int .i64 (cs a b)))) rfl (og rfl (op_call rfl Tryd.func7 nm7 rfl (.cons rfl (.d _) (.cons rfl (.d _) .nil)) (cs7 a b) rfl)) ?_
              refine dr_put (d := 48) (v := .d (.ag (eSn b))) rfl (og rfl (of_eff (s_load_pts rfl Tryd.underlying25 rfl ti25 rfl rfl rfl rfl) rfl)) ?_
              refine dr_put (d := 49) (v := .d (.ag (eSn c))) rfl (og rfl (of_eff (s_load_pts rfl Tryd.underlying25 rfl ti25 rfl rfl rfl rfl) rfl)) ?_
              refine dr_put (d := 50) (v := .d (.fl (.int .i64 (cs b c)))) rfl (og rfl (op_call rfl Tryd.func7 nm7 rfl (.cons rfl (.d _) (.cons rfl (.d _) .nil)) (cs7 b c) rfl)) ?_
              refine dr_put (d := 51) (v := .d (.ag (eSn a))) rfl (og rfl (of_eff (s_load_pts rfl Tryd.underlying25 rfl ti25 rfl rfl rfl rfl) rfl)) ?_
              refine dr_put (d := 52) (v := .d (.ag (eSn c))) rfl (og rfl (of_eff (s_load_pts rfl Tryd.underlying25 rfl ti25 rfl rfl rfl rfl) rfl)) ?_
              refine dr_put (d := 53) (v := .d (.fl (.int .i64 (cs a c)))) rfl (og rfl (op_call rfl Tryd.func7 nm7 rfl (.cons rfl (.d _) (.cons rfl (.d _) .nil)) (cs7 a c) rfl)) ?_
              refine dr_put (d := 7) (v := .d (.fl (.int .i64 (cs a b)))) rfl (og rfl (op_assign rfl rfl rfl)) ?_
              refine dr_put (d := 8) (v := .d (.fl (.int .i64 (cs b c)))) rfl (og rfl (op_assign rfl rfl rfl)) ?_
              refine dr_put (d := 9) (v := .d (.fl (.int .i64 (cs a c)))) rfl (og rfl (op_assign rfl rfl rfl)) ?_
              refine dr_done rfl (by kernel_rfl) (by kernel_rfl) ?_
              refine a_seq ?_
              refine a_rseq ?_
              refine rg_put (d := 54) (v := .d (.fl (.int .i64 (cs a b)))) rfl (og rfl (op_move rfl rfl rfl)) ?_
              refine rg_put (d := 55) (v := .d (.ag (eSn b))) rfl (og rfl (of_eff (s_load_pts rfl Tryd.underlying25 rfl ti25 rfl rfl rfl rfl) rfl)) ?_
              refine rg_put (d := 56) (v := .d (.ag (eSn a))) rfl (og rfl (of_eff (s_load_pts rfl Tryd.underlying25 rfl ti25 rfl rfl rfl rfl) rfl)) ?_
              refine rg_put (d := 57) (v := .d (.fl (.int .i64 (cs b a)))) rfl (og rfl (op_call rfl Tryd.func7 nm7 rfl (.cons rfl (.d _) (.cons rfl (.d _) .nil)) (cs7 b a) rfl)) ?_
              refine rg_put (d := 58) (v := .d (.fl (.int .i64 ((-(cs b a)))))) rfl (og rfl (op_un rfl rfl (fun w => u_neg64 _ w (by omega)) rfl)) ?_
              refine rg_put (d := 59) (v := .d (.fl (.bool (((cs a b) != (-(cs b a))))))) rfl (og rfl (op_bin rfl rfl rfl (b_neq _ _ _ _) rfl)) ?_
              refine rg_put (d := 60) (v := .d (.fl (.bool (((cs a b) != (-(cs b a))))))) rfl (og rfl (op_move rfl rfl rfl)) ?_
              refine rg_put (d := 61) (v := .d (.fl (.int .i64 (cs a b)))) rfl (oy rfl rfl rfl (ne_neg a b) (op_move rfl rfl rfl)) ?_
              refine rg_put (d := 62) (v := .d (.fl (.bool ((decide ((cs a b) < (-1))))))) rfl (oy rfl rfl rfl (ne_neg a b) (op_bin rfl rfl rfl (b_lss _ _ _ _) rfl)) ?_
              refine rg_put (d := 63) (v := .d (.fl (.bool ((decide ((cs a b) < (-1))))))) rfl (og rfl (op_pick rfl rfl (by rw [(ne_neg a b)]; rfl) rfl)) ?_
              refine rg_put (d := 64) (v := .d (.fl (.bool ((decide ((cs a b) < (-1))))))) rfl (og rfl (op_move rfl rfl rfl)) ?_
              rcases fot ((decide ((cs a b) < (-1)))) with h14 | h14
              · skip
                have h15 := f_dec h14
                refine rg_put (d := 65) (v := .d (.fl (.int .i64 (cs a b)))) rfl (oy rfl rfl rfl h14 (op_move rfl rfl rfl)) ?_
                refine rg_put (d := 66) (v := .d (.fl (.bool ((decide (1 < (cs a b))))))) rfl (oy rfl rfl rfl h14 (op_bin rfl rfl rfl (b_gtr _ _ _ _) rfl)) ?_
                refine rg_put (d := 67) (v := .d (.fl (.bool ((decide (1 < (cs a b))))))) rfl (og rfl (op_pick rfl rfl (by rw [h14]; rfl) rfl)) ?_
                refine rg_put (d := 68) (v := .d (.fl (.bool ((decide (1 < (cs a b))))))) rfl (og rfl (op_move rfl rfl rfl)) ?_
                rcases fot ((decide (1 < (cs a b)))) with h16 | h16
                · skip
                  have h17 := f_dec h16
                  refine rg_put (d := 69) (v := .d (.fl (.int .i64 (cs a b)))) rfl (oy rfl rfl rfl h16 (op_move rfl rfl rfl)) ?_
                  refine rg_put (d := 70) (v := .d (.fl (.bool (((cs a b) == 0))))) rfl (oy rfl rfl rfl h16 (op_bin rfl rfl rfl (b_eql _ _ _ _) rfl)) ?_
                  refine rg_put (d := 71) (v := .d (.ag (eSn a))) rfl (oy rfl rfl rfl h16 (of_eff (s_load_pts rfl Tryd.underlying25 rfl ti25 rfl rfl rfl rfl) rfl)) ?_
                  refine rg_put (d := 72) (v := .d (.ag (eSn b))) rfl (oy rfl rfl rfl h16 (of_eff (s_load_pts rfl Tryd.underlying25 rfl ti25 rfl rfl rfl rfl) rfl)) ?_
                  refine rg_put (d := 73) (v := .d (.fl (.bool (eS a b)))) rfl (oy rfl rfl rfl h16 (op_eqS [.string a.d.dev, .int .i64 a.d.seq, .int .i64 a.d.time, .string a.d.tag, .string a.d.plate, .int .i64 a.d.axles, .int .i64 a.d.score, .int .i64 a.time, .string a.point, .int .i64 a.lane, .int .i64 a.kind] [.string b.d.dev, .int .i64 b.d.seq, .int .i64 b.d.time, .string b.d.tag, .string b.d.plate, .int .i64 b.d.axles, .int .i64 b.d.score, .int .i64 b.time, .string b.point, .int .i64 b.lane, .int .i64 b.kind] rfl rfl rfl (b := (eS a b)) (fun ww => eqlG25 a b _ _ ww) rfl)) ?_
                  refine rg_put (d := 74) (v := .d (.fl (.bool ((!(((cs a b) == 0) == (eS a b))))))) rfl (oy rfl rfl rfl h16 (op_bin rfl rfl rfl (fun x y w => b_bne _ _ _ x y w Tryd.underlying4) rfl)) ?_
                  refine rg_put (d := 75) (v := .d (.fl (.bool ((!(((cs a b) == 0) == (eS a b))))))) rfl (og rfl (op_pick rfl rfl (by rw [h16]; rfl) rfl)) ?_
                  refine rg_done rfl ?_
                  refine a_condF rfl (ne_0 a b) ?_
                  refine a_skip ?_
                  show A _ _ _ _ _ _ _
                  refine a_rseq ?_
                  refine rg_put (d := 76) (v := .d (.fl (.int .i64 (cs a b)))) rfl (og rfl (op_move rfl rfl rfl)) ?_
                  refine rg_put (d := 77) (v := .d (.fl (.bool ((decide (0 < (cs a b))))))) rfl (og rfl (op_bin rfl rfl rfl (b_gtr _ _ _ _) rfl)) ?_
                  refine rg_put (d := 78) (v := .d (.fl (.bool ((decide (0 < (cs a b))))))) rfl (og rfl (op_move rfl rfl rfl)) ?_
                  rcases fot ((decide (0 < (cs a b)))) with h18 | h18
                  · skip
                    have h19 := f_dec h18
                    refine rg_put (d := 79) (v := .d (.fl (.int .i64 (cs b c)))) rfl (oy rfl rfl rfl h18 (op_move rfl rfl rfl)) ?_
                    refine rg_put (d := 80) (v := .d (.fl (.bool ((decide (0 < (cs b c))))))) rfl (oy rfl rfl rfl h18 (op_bin rfl rfl rfl (b_gtr _ _ _ _) rfl)) ?_
                    refine rg_put (d := 81) (v := .d (.fl (.bool ((decide (0 < (cs b c))))))) rfl (og rfl (op_pick rfl rfl (by rw [h18]; rfl) rfl)) ?_
                    refine rg_put (d := 82) (v := .d (.fl (.bool ((decide (0 < (cs b c))))))) rfl (og rfl (op_move rfl rfl rfl)) ?_
                    rcases fot ((decide (0 < (cs b c)))) with h20 | h20
                    · skip
                      have h21 := f_dec h20
                      refine rg_put (d := 83) (v := .d (.fl (.int .i64 (cs a c)))) rfl (oy rfl rfl rfl h20 (op_move rfl rfl rfl)) ?_
                      refine rg_put (d := 84) (v := .d (.fl (.bool ((decide ((cs a c) ≤ 0)))))) rfl (oy rfl rfl rfl h20 (op_bin rfl rfl rfl (b_leq _ _ _ _) rfl)) ?_
                      refine rg_put (d := 85) (v := .d (.fl (.bool ((decide ((cs a c) ≤ 0)))))) rfl (oy rfl rfl rfl h20 (op_move rfl rfl rfl)) ?_
                      rcases fot ((decide ((cs a c) ≤ 0))) with h22 | h22
                      · skip
                        have h23 := f_dec h22
                        refine rg_put (d := 86) (v := .d (.fl undef)) rfl (on rfl rfl rfl h22) ?_
                        refine rg_put (d := 87) (v := .d (.fl undef)) rfl (on rfl rfl rfl h22) ?_
                        refine rg_put (d := 88) (v := .d (.fl undef)) rfl (on rfl rfl rfl h22) ?_
                        refine rg_put (d := 89) (v := .d (.fl undef)) rfl (on rfl rfl rfl h22) ?_
                        refine rg_put (d := 90) (v := .d (.fl undef)) rfl (on rfl rfl rfl h22) ?_
                        refine rg_put (d := 91) (v := .d (.fl undef)) rfl (ou rfl rfl rfl) ?_
                        refine rg_put (d := 92) (v := .d (.fl undef)) rfl (ou rfl rfl rfl) ?_
                        refine rg_put (d := 93) (v := .d (.fl undef)) rfl (on rfl rfl rfl h22) ?_
                        refine rg_put (d := 94) (v := .d (.fl undef)) rfl (on rfl rfl rfl h22) ?_
                        refine rg_put (d := 95) (v := .d (.fl (.bool false))) rfl (oy rfl rfl rfl h20 (op_pick rfl rfl (by rw [h22]; rfl) rfl)) ?_
                        refine rg_put (d := 96) (v := .d (.fl (.bool false))) rfl (og rfl (op_pick rfl rfl (by rw [h20]; rfl) rfl)) ?_
                        refine rg_put (d := 97) (v := .d (.fl (.bool false))) rfl (og rfl (op_move rfl rfl rfl)) ?_
                        refine rg_put (d := 98) (v := .d (.fl undef)) rfl (on rfl rfl rfl rfl) ?_
                        refine rg_put (d := 99) (v := .d (.fl (.bool false))) rfl (og rfl (op_pick rfl rfl rfl rfl)) ?_
                        refine rg_put (d := 6) (v := .d (.fl (.bool false))) rfl (og rfl (op_assign rfl rfl rfl)) ?_
                        refine rg_done rfl ?_
                        refine a_ret ?_
                        show ∃ ds, ResL _ _ _ ds ∧ RV.of ds = _
                        refine ⟨[.fl (.bool false)], (.cons (.tmp rfl (.d _)) .nil), ?_⟩
                        first
                          | (exfalso; omega)
                          | (exfalso; have hT := cs_tq a b c (by omega) (by omega); omega)
                      · skip
                        have h24 := t_dec h22
                        refine rg_put (d := 86) (v := .d (.fl (.int .i64 (cs a c)))) rfl (oy rfl rfl rfl h22 (op_move rfl rfl rfl)) ?_
                        refine rg_put (d := 87) (v := .d (.fl (.bool ((decide ((cs a c) < 0)))))) rfl (oy rfl rfl rfl h22 (op_bin rfl rfl rfl (b_lss _ _ _ _) rfl)) ?_
                        refine rg_put (d := 88) (v := .d (.fl (.int .i64 (cs a b)))) rfl (oy rfl rfl rfl h22 (op_move rfl rfl rfl)) ?_
                        refine rg_put (d := 89) (v := .d (.fl (.bool ((decide ((cs a b) < 0)))))) rfl (oy rfl rfl rfl h22 (op_bin rfl rfl rfl (b_lss _ _ _ _) rfl)) ?_
                        refine rg_put (d := 90) (v := .d (.fl (.bool ((decide ((cs a b) < 0)))))) rfl (oy rfl rfl rfl h22 (op_move rfl rfl rfl)) ?_
                        rcases fot ((decide ((cs a b) < 0))) with h25 | h25
                        · skip
                          have h26 := f_dec h25
                          refine rg_put (d := 91) (v := .d (.fl (.int .i64 (cs b c)))) rfl (oy rfl rfl rfl h25 (op_move rfl rfl rfl)) ?_
                          refine rg_put (d := 92) (v := .d (.fl (.bool ((decide ((cs b c) < 0)))))) rfl (oy rfl rfl rfl h25 (op_bin rfl rfl rfl (b_lss _ _ _ _) rfl)) ?_
                          refine rg_put (d := 93) (v := .d (.fl (.bool ((decide ((cs b c) < 0)))))) rfl (oy rfl rfl rfl h22 (op_pick rfl rfl (by rw [h25]; rfl) rfl)) ?_
                          refine rg_put (d := 94) (v := .d (.fl (.bool (((decide ((cs a c) < 0)) == (decide ((cs b c) < 0))))))) rfl (oy rfl rfl rfl h22 (op_bin rfl rfl rfl (fun x y w => b_beq _ _ _ x y w Tryd.underlying4) rfl)) ?_
                          refine rg_put (d := 95) (v := .d (.fl (.bool (((decide ((cs a c) < 0)) == (decide ((cs b c) < 0))))))) rfl (oy rfl rfl rfl h20 (op_pick rfl rfl (by rw [h22]; rfl) rfl)) ?_
                          refine rg_put (d := 96) (v := .d (.fl (.bool (((decide ((cs a c) < 0)) == (decide ((cs b c) < 0))))))) rfl (og rfl (op_pick rfl rfl (by rw [h20]; rfl) rfl)) ?_
                          refine rg_put (d := 97) (v := .d (.fl (.bool (((decide ((cs a c) < 0)) == (decide ((cs b c) < 0))))))) rfl (og rfl (op_move rfl rfl rfl)) ?_
                          rcases fot (((decide ((cs a c) < 0)) == (decide ((cs b c) < 0)))) with h27 | h27
                          · skip
                            refine rg_put (d := 98) (v := .d (.fl undef)) rfl (on rfl rfl rfl h27) ?_
                            refine rg_put (d := 99) (v := .d (.fl (.bool false))) rfl (og rfl (op_pick rfl rfl (by rw [h27]; rfl) rfl)) ?_
                            refine rg_put (d := 6) (v := .d (.fl (.bool false))) rfl (og rfl (op_assign rfl rfl rfl)) ?_
                            refine rg_done rfl ?_
                            refine a_ret ?_
                            show ∃ ds, ResL _ _ _ ds ∧ RV.of ds = _
                            refine ⟨[.fl (.bool false)], (.cons (.tmp rfl (.d _)) .nil), ?_⟩
                            first
                              | (exfalso; omega)
                              | (exfalso; have hT := cs_tq a b c (by omega) (by omega); have h9 := h27; simp at h9; omega)
                          · skip
                            refine rg_put (d := 98) (v := .d (.fl (.bool true))) rfl (oy rfl rfl rfl h27 (op_call rfl Tryd.func6 nm6 rfl .nil alive6 rfl)) ?_
                            refine rg_put (d := 99) (v := .d (.fl (.bool true))) rfl (og rfl (op_pick rfl rfl (by rw [h27]; rfl) rfl)) ?_
                            refine rg_put (d := 6) (v := .d (.fl (.bool true))) rfl (og rfl (op_assign rfl rfl rfl)) ?_
                            refine rg_done rfl ?_
                            refine a_ret ?_
                            show ∃ ds, ResL _ _ _ ds ∧ RV.of ds = _
                            refine ⟨[.fl (.bool true)], (.cons (.tmp rfl (.d _)) .nil), ?_⟩
                            rfl
                        · skip
                          have h28 := t_dec h25
                          refine rg_put (d := 91) (v := .d (.fl undef)) rfl (on rfl rfl rfl h25) ?_
                          refine rg_put (d := 92) (v := .d (.fl undef)) rfl (on rfl rfl rfl h25) ?_
                          refine rg_put (d := 93) (v := .d (.fl (.bool true))) rfl (oy rfl rfl rfl h22 (op_pick rfl rfl (by rw [h25]; rfl) rfl)) ?_
                          refine rg_put (d := 94) (v := .d (.fl (.bool (((decide ((cs a c) < 0)) == true))))) rfl (oy rfl rfl rfl h22 (op_bin rfl rfl rfl (fun x y w => b_beq _ _ _ x y w Tryd.underlying4) rfl)) ?_
                          refine rg_put (d := 95) (v := .d (.fl (.bool (((decide ((cs a c) < 0)) == true))))) rfl (oy rfl rfl rfl h20 (op_pick rfl rfl (by rw [h22]; rfl) rfl)) ?_
                          refine rg_put (d := 96) (v := .d (.fl (.bool (((decide ((cs a c) < 0)) == true))))) rfl (og rfl (op_pick rfl rfl (by rw [h20]; rfl) rfl)) ?_
                          refine rg_put (d := 97) (v := .d (.fl (.bool (((decide ((cs a c) < 0)) == true))))) rfl (og rfl (op_move rfl rfl rfl)) ?_
                          rcases fot (((decide ((cs a c) < 0)) == true)) with h29 | h29
                          · skip
                            refine rg_put (d := 98) (v := .d (.fl undef)) rfl (on rfl rfl rfl h29) ?_
                            refine rg_put (d := 99) (v := .d (.fl (.bool false))) rfl (og rfl (op_pick rfl rfl (by rw [h29]; rfl) rfl)) ?_
                            refine rg_put (d := 6) (v := .d (.fl (.bool false))) rfl (og rfl (op_assign rfl rfl rfl)) ?_
                            refine rg_done rfl ?_
                            refine a_ret ?_
                            show ∃ ds, ResL _ _ _ ds ∧ RV.of ds = _
                            refine ⟨[.fl (.bool false)], (.cons (.tmp rfl (.d _)) .nil), ?_⟩
                            first
                              | (exfalso; omega)
                              | (exfalso; have hT := cs_tq a b c (by omega) (by omega); have h9 := h29; simp at h9; omega)
                          · skip
                            refine rg_put (d := 98) (v := .d (.fl (.bool true))) rfl (oy rfl rfl rfl h29 (op_call rfl Tryd.func6 nm6 rfl .nil alive6 rfl)) ?_
                            refine rg_put (d := 99) (v := .d (.fl (.bool true))) rfl (og rfl (op_pick rfl rfl (by rw [h29]; rfl) rfl)) ?_
                            refine rg_put (d := 6) (v := .d (.fl (.bool true))) rfl (og rfl (op_assign rfl rfl rfl)) ?_
                            refine rg_done rfl ?_
                            refine a_ret ?_
                            show ∃ ds, ResL _ _ _ ds ∧ RV.of ds = _
                            refine ⟨[.fl (.bool true)], (.cons (.tmp rfl (.d _)) .nil), ?_⟩
                            rfl
                    · skip
                      have h30 := t_dec h20
                      refine rg_put (d := 83) (v := .d (.fl undef)) rfl (on rfl rfl rfl h20) ?_
                      refine rg_put (d := 84) (v := .d (.fl undef)) rfl (on rfl rfl rfl h20) ?_
                      refine rg_put (d := 85) (v := .d (.fl undef)) rfl (on rfl rfl rfl h20) ?_
                      refine rg_put (d := 86) (v := .d (.fl undef)) rfl (ou rfl rfl rfl) ?_
                      refine rg_put (d := 87) (v := .d (.fl undef)) rfl (ou rfl rfl rfl) ?_
                      refine rg_put (d := 88) (v := .d (.fl undef)) rfl (ou rfl rfl rfl) ?_
                      refine rg_put (d := 89) (v := .d (.fl undef)) rfl (ou rfl rfl rfl) ?_
                      refine rg_put (d := 90) (v := .d (.fl undef)) rfl (ou rfl rfl rfl) ?_
                      refine rg_put (d := 91) (v := .d (.fl undef)) rfl (ou rfl rfl rfl) ?_
                      refine rg_put (d := 92) (v := .d (.fl undef)) rfl (ou rfl rfl rfl) ?_
                      refine rg_put (d := 93) (v := .d (.fl undef)) rfl (ou rfl rfl rfl) ?_
                      refine rg_put (d := 94) (v := .d (.fl undef)) rfl (ou rfl rfl rfl) ?_
                      refine rg_put (d := 95) (v := .d (.fl undef)) rfl (on rfl rfl rfl h20) ?_
                      refine rg_put (d := 96) (v := .d (.fl (.bool true))) rfl (og rfl (op_pick rfl rfl (by rw [h20]; rfl) rfl)) ?_
                      refine rg_put (d := 97) (v := .d (.fl (.bool true))) rfl (og rfl (op_move rfl rfl rfl)) ?_
                      refine rg_put (d := 98) (v := .d (.fl (.bool true))) rfl (oy rfl rfl rfl rfl (op_call rfl Tryd.func6 nm6 rfl .nil alive6 rfl)) ?_
                      refine rg_put (d := 99) (v := .d (.fl (.bool true))) rfl (og rfl (op_pick rfl rfl rfl rfl)) ?_
                      refine rg_put (d := 6) (v := .d (.fl (.bool true))) rfl (og rfl (op_assign rfl rfl rfl)) ?_
                      refine rg_done rfl ?_
                      refine a_ret ?_
                      show ∃ ds, ResL _ _ _ ds ∧ RV.of ds = _
                      refine ⟨[.fl (.bool true)], (.cons (.tmp rfl (.d _)) .nil), ?_⟩
                      rfl
                  · skip
                    have h31 := t_dec h18
                    refine rg_put (d := 79) (v := .d (.fl undef)) rfl (on rfl rfl rfl h18) ?_
                    refine rg_put (d := 80) (v := .d (.fl undef)) rfl (on rfl rfl rfl h18) ?_
                    refine rg_put (d := 81) (v := .d (.fl (.bool true))) rfl (og rfl (op_pick rfl rfl (by rw [h18]; rfl) rfl)) ?_
                    refine rg_put (d := 82) (v := .d (.fl (.bool true))) rfl (og rfl (op_move rfl rfl rfl)) ?_
                    refine rg_put (d := 83) (v := .d (.fl undef)) rfl (on rfl rfl rfl rfl) ?_
                    refine rg_put (d := 84) (v := .d (.fl undef)) rfl (on rfl rfl rfl rfl) ?_
                    refine rg_put (d := 85) (v := .d (.fl undef)) rfl (on rfl rfl rfl rfl) ?_
                    refine rg_put (d := 86) (v := .d (.fl undef)) rfl (ou rfl rfl rfl) ?_
                    refine rg_put (d := 87) (v := .d (.fl undef)) rfl (ou rfl rfl rfl) ?_
                    refine rg_put (d := 88) (v := .d (.fl undef)) rfl (ou rfl rfl rfl) ?_
                    refine rg_put (d := 89) (v := .d (.fl undef)) rfl (ou rfl rfl rfl) ?_
                    refine rg_put (d := 90) (v := .d (.fl undef)) rfl (ou rfl rfl rfl) ?_
                    refine rg_put (d := 91) (v := .d (.fl undef)) rfl (ou rfl rfl rfl) ?_
                    refine rg_put (d := 92) (v := .d (.fl undef)) rfl (ou rfl rfl rfl) ?_
                    refine rg_put (d := 93) (v := .d (.fl undef)) rfl (ou rfl rfl rfl) ?_
                    refine rg_put (d := 94) (v := .d (.fl undef)) rfl (ou rfl rfl rfl) ?_
                    refine rg_put (d := 95) (v := .d (.fl undef)) rfl (on rfl rfl rfl rfl) ?_
                    refine rg_put (d := 96) (v := .d (.fl (.bool true))) rfl (og rfl (op_pick rfl rfl rfl rfl)) ?_
                    refine rg_put (d := 97) (v := .d (.fl (.bool true))) rfl (og rfl (op_move rfl rfl rfl)) ?_
                    refine rg_put (d := 98) (v := .d (.fl (.bool true))) rfl (oy rfl rfl rfl rfl (op_call rfl Tryd.func6 nm6 rfl .nil alive6 rfl)) ?_
                    refine rg_put (d := 99) (v := .d (.fl (.bool true))) rfl (og rfl (op_pick rfl rfl rfl rfl)) ?_
                    refine rg_put (d := 6) (v := .d (.fl (.bool true))) rfl (og rfl (op_assign rfl rfl rfl)) ?_
                    refine rg_done rfl ?_
                    refine a_ret ?_
                    show ∃ ds, ResL _ _ _ ds ∧ RV.of ds = _
                    refine ⟨[.fl (.bool true)], (.cons (.tmp rfl (.d _)) .nil), ?_⟩
                    rfl
                · skip
                  have h32 := t_dec h16
                  refine rg_put (d := 69) (v := .d (.fl undef)) rfl (on rfl rfl rfl h16) ?_
                  refine rg_put (d := 70) (v := .d (.fl undef)) rfl (on rfl rfl rfl h16) ?_
                  refine rg_put (d := 71) (v := .d (.fl undef)) rfl (on rfl rfl rfl h16) ?_
                  refine rg_put (d := 72) (v := .d (.fl undef)) rfl (on rfl rfl rfl h16) ?_
                  refine rg_put (d := 73) (v := .d (.fl undef)) rfl (on rfl rfl rfl h16) ?_
                  refine rg_put (d := 74) (v := .d (.fl undef)) rfl (on rfl rfl rfl h16) ?_
                  refine rg_put (d := 75) (v := .d (.fl (.bool true))) rfl (og rfl (op_pick rfl rfl (by rw [h16]; rfl) rfl)) ?_
                  refine rg_done rfl ?_
                  refine a_condK rfl rfl ?_
                  refine a_rseq ?_
                  refine rg_put (d := 6) (v := .d (.fl (.bool false))) rfl (og rfl (op_assign rfl rfl rfl)) ?_
                  refine rg_done rfl ?_
                  refine a_ret ?_
                  show ∃ ds, ResL _ _ _ ds ∧ RV.of ds = _
                  refine ⟨[.fl (.bool false)], (.cons (.tmp rfl (.d _)) .nil), ?_⟩
                  first
                    | (exfalso; omega)
                    | (exfalso; have hT := cs_tq a b c (by omega) (by omega); omega)
              · skip
                have h33 := t_dec h14
                refine rg_put (d := 65) (v := .d (.fl undef)) rfl (on rfl rfl rfl h14) ?_
                refine rg_put (d := 66) (v := .d (.fl undef)) rfl (on rfl rfl rfl h14) ?_
                refine rg_put (d := 67) (v := .d (.fl (.bool true))) rfl (og rfl (op_pick rfl rfl (by rw [h14]; rfl) rfl)) ?_
                refine rg_put (d := 68) (v := .d (.fl (.bool true))) rfl (og rfl (op_move rfl rfl rfl)) ?_
                refine rg_put (d := 69) (v := .d (.fl undef)) rfl (on rfl rfl rfl rfl) ?_
                refine rg_put (d := 70) (v := .d (.fl undef)) rfl (on rfl rfl rfl rfl) ?_
                refine rg_put (d := 71) (v := .d (.fl undef)) rfl (on rfl rfl rfl rfl) ?_
                refine rg_put (d := 72) (v := .d (.fl undef)) rfl (on rfl rfl rfl rfl) ?_
                refine rg_put (d := 73) (v := .d (.fl undef)) rfl (on rfl rfl rfl rfl) ?_
                refine rg_put (d := 74) (v := .d (.fl undef)) rfl (on rfl rfl rfl rfl) ?_
                refine rg_put (d := 75) (v := .d (.fl (.bool true))) rfl (og rfl (op_pick rfl rfl rfl rfl)) ?_
                refine rg_done rfl ?_
                refine a_condK rfl rfl ?_
                refine a_rseq ?_
                refine rg_put (d := 6) (v := .d (.fl (.bool false))) rfl (og rfl (op_assign rfl rfl rfl)) ?_
                refine rg_done rfl ?_
                refine a_ret ?_
                show ∃ ds, ResL _ _ _ ds ∧ RV.of ds = _
                refine ⟨[.fl (.bool false)], (.cons (.tmp rfl (.d _)) .nil), ?_⟩
                first
                  | (exfalso; omega)
                  | (exfalso; have hT := cs_tq a b c (by omega) (by omega); omega)
          · skip
            have h34 := t_dec h9
            refine rg_put (d := 39) (v := .d (.fl undef)) rfl (on rfl rfl rfl h9) ?_
            refine rg_put (d := 40) (v := .d (.fl undef)) rfl (on rfl rfl rfl h9) ?_
            refine rg_put (d := 41) (v := .d (.fl undef)) rfl (on rfl rfl rfl h9) ?_
            refine rg_put (d := 42) (v := .d (.fl undef)) rfl (on rfl rfl rfl h9) ?_
            refine rg_put (d := 43) (v := .d (.fl (.bool true))) rfl (og rfl (op_pick rfl rfl (by rw [h9]; rfl) rfl)) ?_
            refine rg_done rfl ?_
            refine a_condK rfl rfl ?_
            refine a_rseq ?_
            refine rg_put (d := 44) (v := .d (.fl (.bool true))) rfl (og rfl (op_call rfl Tryd.func6 nm6 rfl .nil alive6 rfl)) ?_
            refine rg_put (d := 6) (v := .d (.fl (.bool true))) rfl (og rfl (op_assign rfl rfl rfl)) ?_
            refine rg_done rfl ?_
            refine a_ret ?_
            show ∃ ds, ResL _ _ _ ds ∧ RV.of ds = _
            refine ⟨[.fl (.bool true)], (.cons (.tmp rfl (.d _)) .nil), ?_⟩
            rfl
        · skip
          have h35 := t_dec h7
          refine rg_put (d := 33) (v := .d (.fl undef)) rfl (on rfl rfl rfl h7) ?_
          refine rg_put (d := 34) (v := .d (.fl undef)) rfl (on rfl rfl rfl h7) ?_
          refine rg_put (d := 35) (v := .d (.fl undef)) rfl (on rfl rfl rfl h7) ?_
          refine rg_put (d := 36) (v := .d (.fl undef)) rfl (on rfl rfl rfl h7) ?_
          refine rg_put (d := 37) (v := .d (.fl (.bool true))) rfl (og rfl (op_pick rfl rfl (by rw [h7]; rfl) rfl)) ?_
          refine rg_put (d := 38) (v := .d (.fl (.bool true))) rfl (og rfl (op_move rfl rfl rfl)) ?_
          refine rg_put (d := 39) (v := .d (.fl undef)) rfl (on rfl rfl rfl rfl) ?_
          refine rg_put (d := 40) (v := .d (.fl undef)) rfl (on rfl rfl rfl rfl) ?_
          refine rg_put (d := 41) (v := .d (.fl undef)) rfl (on rfl rfl rfl rfl) ?_
          refine rg_put (d := 42) (v := .d (.fl undef)) rfl (on rfl rfl rfl rfl) ?_
          refine rg_put (d := 43) (v := .d (.fl (.bool true))) rfl (og rfl (op_pick rfl rfl rfl rfl)) ?_
          refine rg_done rfl ?_
          refine a_condK rfl rfl ?_
          refine a_rseq ?_
          refine rg_put (d := 44) (v := .d (.fl (.bool true))) rfl (og rfl (op_call rfl Tryd.func6 nm6 rfl .nil alive6 rfl)) ?_
          refine rg_put (d := 6) (v := .d (.fl (.bool true))) rfl (og rfl (op_assign rfl rfl rfl)) ?_
          refine rg_done rfl ?_
          refine a_ret ?_
          show ∃ ds, ResL _ _ _ ds ∧ RV.of ds = _
          refine ⟨[.fl (.bool true)], (.cons (.tmp rfl (.d _)) .nil), ?_⟩
          rfl
      · skip
        have h36 := t_not h5
        refine rg_put (d := 27) (v := .d (.fl undef)) rfl (on rfl rfl rfl h5) ?_
        refine rg_put (d := 28) (v := .d (.fl undef)) rfl (on rfl rfl rfl h5) ?_
        refine rg_put (d := 29) (v := .d (.fl undef)) rfl (on rfl rfl rfl h5) ?_
        refine rg_put (d := 30) (v := .d (.fl undef)) rfl (on rfl rfl rfl h5) ?_
        refine rg_put (d := 31) (v := .d (.fl (.bool true))) rfl (og rfl (op_pick rfl rfl (by rw [h5]; rfl) rfl)) ?_
        refine rg_put (d := 32) (v := .d (.fl (.bool true))) rfl (og rfl (op_move rfl rfl rfl)) ?_
        refine rg_put (d := 33) (v := .d (.fl undef)) rfl (on rfl rfl rfl rfl) ?_
        refine rg_put (d := 34) (v := .d (.fl undef)) rfl (on rfl rfl rfl rfl) ?_
        refine rg_put (d := 35) (v := .d (.fl undef)) rfl (on rfl rfl rfl rfl) ?_
        refine rg_put (d := 36) (v := .d (.fl undef)) rfl (on rfl rfl rfl rfl) ?_
        refine rg_put (d := 37) (v := .d (.fl (.bool true))) rfl (og rfl (op_pick rfl rfl rfl rfl)) ?_
        refine rg_put (d := 38) (v := .d (.fl (.bool true))) rfl (og rfl (op_move rfl rfl rfl)) ?_
        refine rg_put (d := 39) (v := .d (.fl undef)) rfl (on rfl rfl rfl rfl) ?_
        refine rg_put (d := 40) (v := .d (.fl undef)) rfl (on rfl rfl rfl rfl) ?_
        refine rg_put (d := 41) (v := .d (.fl undef)) rfl (on rfl rfl rfl rfl) ?_
        refine rg_put (d := 42) (v := .d (.fl undef)) rfl (on rfl rfl rfl rfl) ?_
        refine rg_put (d := 43) (v := .d (.fl (.bool true))) rfl (og rfl (op_pick rfl rfl rfl rfl)) ?_
        refine rg_done rfl ?_
        refine a_condK rfl rfl ?_
        refine a_rseq ?_
        refine rg_put (d := 44) (v := .d (.fl (.bool true))) rfl (og rfl (op_call rfl Tryd.func6 nm6 rfl .nil alive6 rfl)) ?_
        refine rg_put (d := 6) (v := .d (.fl (.bool true))) rfl (og rfl (op_assign rfl rfl rfl)) ?_
        refine rg_done rfl ?_
        refine a_ret ?_
        show ∃ ds, ResL _ _ _ ds ∧ RV.of ds = _
        refine ⟨[.fl (.bool true)], (.cons (.tmp rfl (.d _)) .nil), ?_⟩
        rfl
    · skip
      have h37 := t_not h3
      refine rg_put (d := 21) (v := .d (.fl undef)) rfl (on rfl rfl rfl h3) ?_
      refine rg_put (d := 22) (v := .d (.fl undef)) rfl (on rfl rfl rfl h3) ?_
      refine rg_put (d := 23) (v := .d (.fl undef)) rfl (on rfl rfl rfl h3) ?_
      refine rg_put (d := 24) (v := .d (.fl undef)) rfl (on rfl rfl rfl h3) ?_
      refine rg_put (d := 25) (v := .d (.fl (.bool true))) rfl (og rfl (op_pick rfl rfl (by rw [h3]; rfl) rfl)) ?_
      refine rg_put (d := 26) (v := .d (.fl (.bool true))) rfl (og rfl (op_move rfl rfl rfl)) ?_
      refine rg_put (d := 27) (v := .d (.fl undef)) rfl (on rfl rfl rfl rfl) ?_
      refine rg_put (d := 28) (v := .d (.fl undef)) rfl (on rfl rfl rfl rfl) ?_
      refine rg_put (d := 29) (v := .d (.fl undef)) rfl (on rfl rfl rfl rfl) ?_
      refine rg_put (d := 30) (v := .d (.fl undef)) rfl (on rfl rfl rfl rfl) ?_
      refine rg_put (d := 31) (v := .d (.fl (.bool true))) rfl (og rfl (op_pick rfl rfl rfl rfl)) ?_
      refine rg_put (d := 32) (v := .d (.fl (.bool true))) rfl (og rfl (op_move rfl rfl rfl)) ?_
      refine rg_put (d := 33) (v := .d (.fl undef)) rfl (on rfl rfl rfl rfl) ?_
      refine rg_put (d := 34) (v := .d (.fl undef)) rfl (on rfl rfl rfl rfl) ?_
      refine rg_put (d := 35) (v := .d (.fl undef)) rfl (on rfl rfl rfl rfl) ?_
      refine rg_put (d := 36) (v := .d (.fl undef)) rfl (on rfl rfl rfl rfl) ?_
      refine rg_put (d := 37) (v := .d (.fl (.bool true))) rfl (og rfl (op_pick rfl rfl rfl rfl)) ?_
      refine rg_put (d := 38) (v := .d (.fl (.bool true))) rfl (og rfl (op_move rfl rfl rfl)) ?_
      refine rg_put (d := 39) (v := .d (.fl undef)) rfl (on rfl rfl rfl rfl) ?_
      refine rg_put (d := 40) (v := .d (.fl undef)) rfl (on rfl rfl rfl rfl) ?_
      refine rg_put (d := 41) (v := .d (.fl undef)) rfl (on rfl rfl rfl rfl) ?_
      refine rg_put (d := 42) (v := .d (.fl undef)) rfl (on rfl rfl rfl rfl) ?_
      refine rg_put (d := 43) (v := .d (.fl (.bool true))) rfl (og rfl (op_pick rfl rfl rfl rfl)) ?_
      refine rg_done rfl ?_
      refine a_condK rfl rfl ?_
      refine a_rseq ?_
      refine rg_put (d := 44) (v := .d (.fl (.bool true))) rfl (og rfl (op_call rfl Tryd.func6 nm6 rfl .nil alive6 rfl)) ?_
      refine rg_put (d := 6) (v := .d (.fl (.bool true))) rfl (og rfl (op_assign rfl rfl rfl)) ?_
      refine rg_done rfl ?_
      refine a_ret ?_
      show ∃ ds, ResL _ _ _ ds ∧ RV.of ds = _
      refine ⟨[.fl (.bool true)], (.cons (.tmp rfl (.d _)) .nil), ?_⟩
      rfl
  · skip
    have h38 := t_not h1
    refine rg_put (d := 15) (v := .d (.fl undef)) rfl (on rfl rfl rfl h1) ?_
    refine rg_put (d := 16) (v := .d (.fl undef)) rfl (on rfl rfl rfl h1) ?_
    refine rg_put (d := 17) (v := .d (.fl undef)) rfl (on rfl rfl rfl h1) ?_
    refine rg_put (d := 18) (v := .d (.fl undef)) rfl (on rfl rfl rfl h1) ?_
    refine rg_put (d := 19) (v := .d (.fl (.bool true))) rfl (og rfl (op_pick rfl rfl (by rw [h1]; rfl) rfl)) ?_
    refine rg_put (d := 20) (v := .d (.fl (.bool true))) rfl (og rfl (op_move rfl rfl rfl)) ?_
    refine rg_put (d := 21) (v := .d (.fl undef)) rfl (on rfl rfl rfl rfl) ?_
    refine rg_put (d := 22) (v := .d (.fl undef)) rfl (on rfl rfl rfl rfl) ?_
    refine rg_put (d := 23) (v := .d (.fl undef)) rfl (on rfl rfl rfl rfl) ?_
    refine rg_put (d := 24) (v := .d (.fl undef)) rfl (on rfl rfl rfl rfl) ?_
    refine rg_put (d := 25) (v := .d (.fl (.bool true))) rfl (og rfl (op_pick rfl rfl rfl rfl)) ?_
    refine rg_put (d := 26) (v := .d (.fl (.bool true))) rfl (og rfl (op_move rfl rfl rfl)) ?_
    refine rg_put (d := 27) (v := .d (.fl undef)) rfl (on rfl rfl rfl rfl) ?_
    refine rg_put (d := 28) (v := .d (.fl undef)) rfl (on rfl rfl rfl rfl) ?_
    refine rg_put (d := 29) (v := .d (.fl undef)) rfl (on rfl rfl rfl rfl) ?_
    refine rg_put (d := 30) (v := .d (.fl undef)) rfl (on rfl rfl rfl rfl) ?_
    refine rg_put (d := 31) (v := .d (.fl (.bool true))) rfl (og rfl (op_pick rfl rfl rfl rfl)) ?_
    refine rg_put (d := 32) (v := .d (.fl (.bool true))) rfl (og rfl (op_move rfl rfl rfl)) ?_
    refine rg_put (d := 33) (v := .d (.fl undef)) rfl (on rfl rfl rfl rfl) ?_
    refine rg_put (d := 34) (v := .d (.fl undef)) rfl (on rfl rfl rfl rfl) ?_
    refine rg_put (d := 35) (v := .d (.fl undef)) rfl (on rfl rfl rfl rfl) ?_
    refine rg_put (d := 36) (v := .d (.fl undef)) rfl (on rfl rfl rfl rfl) ?_
    refine rg_put (d := 37) (v := .d (.fl (.bool true))) rfl (og rfl (op_pick rfl rfl rfl rfl)) ?_
    refine rg_put (d := 38) (v := .d (.fl (.bool true))) rfl (og rfl (op_move rfl rfl rfl)) ?_
    refine rg_put (d := 39) (v := .d (.fl undef)) rfl (on rfl rfl rfl rfl) ?_
    refine rg_put (d := 40) (v := .d (.fl undef)) rfl (on rfl rfl rfl rfl) ?_
    refine rg_put (d := 41) (v := .d (.fl undef)) rfl (on rfl rfl rfl rfl) ?_
    refine rg_put (d := 42) (v := .d (.fl undef)) rfl (on rfl rfl rfl rfl) ?_
    refine rg_put (d := 43) (v := .d (.fl (.bool true))) rfl (og rfl (op_pick rfl rfl rfl rfl)) ?_
    refine rg_done rfl ?_
    refine a_condK rfl rfl ?_
    refine a_rseq ?_
    refine rg_put (d := 44) (v := .d (.fl (.bool true))) rfl (og rfl (op_call rfl Tryd.func6 nm6 rfl .nil alive6 rfl)) ?_
    refine rg_put (d := 6) (v := .d (.fl (.bool true))) rfl (og rfl (op_assign rfl rfl rfl)) ?_
    refine rg_done rfl ?_
    refine a_ret ?_
    show ∃ ds, ResL _ _ _ ds ∧ RV.of ds = _
    refine ⟨[.fl (.bool true)], (.cons (.tmp rfl (.d _)) .nil), ?_⟩
    rfl
end Go.Proofs.YtidloonhhckkgaaDoor.Wk
