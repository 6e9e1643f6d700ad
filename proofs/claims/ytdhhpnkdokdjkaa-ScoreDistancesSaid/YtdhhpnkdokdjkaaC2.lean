/- The law of distances. No condition. -/
import Derived.Test.YtdhhpnkdokdjkaaC1
set_option linter.unusedSimpArgs false
set_option linter.unusedVariables false
namespace Go.Proofs.Ytdhhpnkdokdjkaa.Wk
open Go Go.RowKit Go.Proofs.Ytdhhpnkdokdjkaa.Av
set_option maxHeartbeats 4000000 in
set_option maxRecDepth 100000 in
theorem law5 (a b : Sn) (p : Pg) (by9 : Int) : Ctr Try.prog 5 [.ag (eSn a), .ag (eSn b), .ag (ePg p), .fl (.int .i64 by9)] (.d (.fl (.bool true))) := by
  refine ctr (n := 134) (rs := #[.tmp 8]) (L := [(0, .d (.ag (eSn a))), (1, .d (.ag (eSn b))), (2, .d (.ag (ePg p))), (3, .d (.fl (.int .i64 by9)))]) Try.func5 rfl rfl rfl rfl rfl (fun w0 U0 => ?_)
  refine a_rseq ?_
  refine rg_nam (d := 4) (v := .pt 101 0) (m := 101) (nw := [(101, .bx 25 (eSn a))]) rfl (og rfl (of_eff (op_box 101 rfl rfl rfl rfl) rfl)) rfl ?_
  refine rg_nam (d := 5) (v := .pt 102 0) (m := 102) (nw := [(102, .bx 25 (eSn b))]) rfl (og rfl (of_eff (op_box 102 rfl rfl rfl rfl) rfl)) rfl ?_
  refine rg_nam (d := 6) (v := .pt 103 0) (m := 103) (nw := [(103, .bx 28 (ePg p))]) rfl (og rfl (of_eff (op_box 103 rfl rfl rfl rfl) rfl)) rfl ?_
  refine rg_put (d := 8) (v := .d (.fl (.bool false))) rfl (og rfl (op_assign rfl rfl rfl)) ?_
  refine rg_done rfl ?_
  refine a_seq ?_
  refine a_rseq ?_
  refine rg_put (d := 14) (v := .pt 101 7) rfl (og rfl (of_eff (s_field_pt rfl Try.underlying25 rfl ti3 rfl rfl rfl) rfl)) ?_
  refine rg_put (d := 15) (v := .d (.fl (.int .i64 a.time))) rfl (og rfl (op_load_pt rfl Try.underlying3 rfl rfl rfl rfl rfl)) ?_
  refine rg_put (d := 16) (v := .d (.fl (.bool (isT a.time)))) rfl (og rfl (op_call rfl Try.func6 nm6 rfl (.cons rfl (.d _) .nil) (isT6 a.time) rfl)) ?_
  refine rg_put (d := 17) (v := .d (.fl (.bool ((!(isT a.time)))))) rfl (og rfl (op_un rfl rfl (u_not _) rfl)) ?_
  refine rg_put (d := 18) (v := .d (.fl (.bool ((!(isT a.time)))))) rfl (og rfl (op_move rfl rfl rfl)) ?_
  rcases fot ((!(isT a.time))) with h1 | h1
  · skip
    have h2 := f_not h1
    refine rg_put (d := 19) (v := .pt 102 7) rfl (oy rfl rfl rfl h1 (of_eff (s_field_pt rfl Try.underlying25 rfl ti3 rfl rfl rfl) rfl)) ?_
    refine rg_put (d := 20) (v := .d (.fl (.int .i64 b.time))) rfl (oy rfl rfl rfl h1 (op_load_pt rfl Try.underlying3 rfl rfl rfl rfl rfl)) ?_
    refine rg_put (d := 21) (v := .d (.fl (.bool (isT b.time)))) rfl (oy rfl rfl rfl h1 (op_call rfl Try.func6 nm6 rfl (.cons rfl (.d _) .nil) (isT6 b.time) rfl)) ?_
    refine rg_put (d := 22) (v := .d (.fl (.bool ((!(isT b.time)))))) rfl (oy rfl rfl rfl h1 (op_un rfl rfl (u_not _) rfl)) ?_
    refine rg_put (d := 23) (v := .d (.fl (.bool ((!(isT b.time)))))) rfl (og rfl (op_pick rfl rfl (by rw [h1]; rfl) rfl)) ?_
    refine rg_put (d := 24) (v := .d (.fl (.bool ((!(isT b.time)))))) rfl (og rfl (op_move rfl rfl rfl)) ?_
    rcases fot ((!(isT b.time))) with h3 | h3
    · skip
      have h4 := f_not h3
      refine rg_put (d := 25) (v := .pt 103 2) rfl (oy rfl rfl rfl h3 (of_eff (s_field_pt rfl Try.underlying28 rfl ti3 rfl rfl rfl) rfl)) ?_
      refine rg_put (d := 26) (v := .d (.fl (.int .i64 p.time))) rfl (oy rfl rfl rfl h3 (op_load_pt rfl Try.underlying3 rfl rfl rfl rfl rfl)) ?_
      refine rg_put (d := 27) (v := .d (.fl (.bool (isT p.time)))) rfl (oy rfl rfl rfl h3 (op_call rfl Try.func6 nm6 rfl (.cons rfl (.d _) .nil) (isT6 p.time) rfl)) ?_
      refine rg_put (d := 28) (v := .d (.fl (.bool ((!(isT p.time)))))) rfl (oy rfl rfl rfl h3 (op_un rfl rfl (u_not _) rfl)) ?_
      refine rg_put (d := 29) (v := .d (.fl (.bool ((!(isT p.time)))))) rfl (og rfl (op_pick rfl rfl (by rw [h3]; rfl) rfl)) ?_
      refine rg_put (d := 30) (v := .d (.fl (.bool ((!(isT p.time)))))) rfl (og rfl (op_move rfl rfl rfl)) ?_
      rcases fot ((!(isT p.time))) with h5 | h5
      · skip
        have h6 := f_not h5
        refine rg_put (d := 31) (v := .d (.fl (.int .i64 by9))) rfl (oy rfl rfl rfl h5 (op_move rfl rfl rfl)) ?_
        refine rg_put (d := 32) (v := .d (.fl (.bool ((decide (by9 < 0)))))) rfl (oy rfl rfl rfl h5 (op_bin rfl rfl rfl (b_lss _ _ _ _) rfl)) ?_
        refine rg_put (d := 33) (v := .d (.fl (.bool ((decide (by9 < 0)))))) rfl (og rfl (op_pick rfl rfl (by rw [h5]; rfl) rfl)) ?_
        refine rg_put (d := 34) (v := .d (.fl (.bool ((decide (by9 < 0)))))) rfl (og rfl (op_move rfl rfl rfl)) ?_
        rcases fot ((decide (by9 < 0))) with h7 | h7
        · skip
          have h8 := f_dec h7
          refine rg_put (d := 35) (v := .d (.fl (.int .i64 by9))) rfl (oy rfl rfl rfl h7 (op_move rfl rfl rfl)) ?_
          refine rg_put (d := 36) (v := .d (.fl (.bool ((decide (68719476736 < by9)))))) rfl (oy rfl rfl rfl h7 (op_bin rfl rfl rfl (b_gtr _ _ _ _) rfl)) ?_
          refine rg_put (d := 37) (v := .d (.fl (.bool ((decide (68719476736 < by9)))))) rfl (og rfl (op_pick rfl rfl (by rw [h7]; rfl) rfl)) ?_
          refine rg_done rfl ?_
          refine a_cond rfl (fun h9 => ?_) (fun h9 => ?_)
          · skip
            have h10 := t_dec h9
            refine a_rseq ?_
            refine rg_put (d := 38) (v := .d (.fl (.bool true))) rfl (og rfl (op_call rfl Try.func7 nm7 rfl .nil alive7 rfl)) ?_
            refine rg_put (d := 8) (v := .d (.fl (.bool true))) rfl (og rfl (op_assign rfl rfl rfl)) ?_
            refine rg_done rfl ?_
            refine a_ret ?_
            show ∃ ds, ResL _ _ _ ds ∧ RV.of ds = _
            refine ⟨[.fl (.bool true)], (.cons (.tmp rfl (.d _)) .nil), ?_⟩
            rfl
          · skip
            have h11 := f_dec h9
            refine a_skip ?_
            show A _ _ _ _ _ _ _
            refine a_dseq (by kernel_rfl) ?_
            have hta := isT_t h2
            have htb := isT_t h4
            have htp := isT_t h6
            have hp1 := pr_in a b (by omega)
            have hp2 := ax_in p a.lane b
            refine dr_put (d := 39) (v := .d (.ag (eSn a))) rfl (og rfl (of_eff (s_load_pts rfl Try.underlying25 rfl ti25 rfl rfl rfl rfl) rfl)) ?_
            refine dr_put (d := 40) (v := .d (.ag (eSn b))) rfl (og rfl (of_eff (s_load_pts rfl Try.underlying25 rfl ti25 rfl rfl rfl rfl) rfl)) ?_
            refine dr_put (d := 41) (v := .d (.fl (.int .i64 (pr a b)))) rfl (og rfl (op_call rfl Try.func8 nm8 rfl (.cons rfl (.d _) (.cons rfl (.d _) .nil)) (pr8 a b (by first | omega | (dsimp only; omega)) (by first | omega | (dsimp only; omega))) rfl)) ?_
            refine dr_put (d := 42) (v := .d (.ag (ePg p))) rfl (og rfl (of_eff (s_load_pts rfl Try.underlying28 rfl ti28 rfl rfl rfl rfl) rfl)) ?_
            refine dr_put (d := 43) (v := .pt 101 9) rfl (og rfl (of_eff (s_field_pt rfl Try.underlying25 rfl ti3 rfl rfl rfl) rfl)) ?_
            refine dr_put (d := 44) (v := .d (.fl (.int .i64 a.lane))) rfl (og rfl (op_load_pt rfl Try.underlying3 rfl rfl rfl rfl rfl)) ?_
            refine dr_put (d := 45) (v := .d (.ag (eSn b))) rfl (og rfl (of_eff (s_load_pts rfl Try.underlying25 rfl ti25 rfl rfl rfl rfl) rfl)) ?_
            refine dr_put (d := 46) (v := .d (.fl (.int .i64 (ax p a.lane b)))) rfl (og rfl (op_call rfl Try.func10 nm10 rfl (.cons rfl (.d _) (.cons rfl (.d _) (.cons rfl (.d _) .nil))) (ax10 p a.lane b (by first | omega | (dsimp only; omega)) (by first | omega | (dsimp only; omega))) rfl)) ?_
            refine dr_put (d := 9) (v := .d (.fl (.int .i64 (pr a b)))) rfl (og rfl (op_assign rfl rfl rfl)) ?_
            refine dr_put (d := 10) (v := .d (.fl (.int .i64 (ax p a.lane b)))) rfl (og rfl (op_assign rfl rfl rfl)) ?_
            refine dr_done rfl (by kernel_rfl) (by kernel_rfl) ?_
            refine a_seq ?_
            refine a_rseq ?_
            refine rg_put (d := 47) (v := .d (.fl (.int .i64 (pr a b)))) rfl (og rfl (op_move rfl rfl rfl)) ?_
            refine rg_put (d := 48) (v := .d (.fl (.bool ((decide ((pr a b) < (-1))))))) rfl (og rfl (op_bin rfl rfl rfl (b_lss _ _ _ _) rfl)) ?_
            refine rg_put (d := 49) (v := .d (.fl (.bool ((decide ((pr a b) < (-1))))))) rfl (og rfl (op_move rfl rfl rfl)) ?_
            rcases fot ((decide ((pr a b) < (-1)))) with h12 | h12
            · skip
              have h13 := f_dec h12
              refine rg_put (d := 50) (v := .d (.fl (.int .i64 (pr a b)))) rfl (oy rfl rfl rfl h12 (op_move rfl rfl rfl)) ?_
              refine rg_put (d := 51) (v := .d (.fl (.bool ((decide (450 < (pr a b))))))) rfl (oy rfl rfl rfl h12 (op_bin rfl rfl rfl (b_gtr _ _ _ _) rfl)) ?_
              refine rg_put (d := 52) (v := .d (.fl (.bool ((decide (450 < (pr a b))))))) rfl (og rfl (op_pick rfl rfl (by rw [h12]; rfl) rfl)) ?_
              refine rg_put (d := 53) (v := .d (.fl (.bool ((decide (450 < (pr a b))))))) rfl (og rfl (op_move rfl rfl rfl)) ?_
              rcases fot ((decide (450 < (pr a b)))) with h14 | h14
              · skip
                have h15 := f_dec h14
                refine rg_put (d := 54) (v := .d (.fl (.int .i64 (ax p a.lane b)))) rfl (oy rfl rfl rfl h14 (op_move rfl rfl rfl)) ?_
                refine rg_put (d := 55) (v := .d (.fl (.bool ((decide ((ax p a.lane b) < (-1))))))) rfl (oy rfl rfl rfl h14 (op_bin rfl rfl rfl (b_lss _ _ _ _) rfl)) ?_
                refine rg_put (d := 56) (v := .d (.fl (.bool ((decide ((ax p a.lane b) < (-1))))))) rfl (og rfl (op_pick rfl rfl (by rw [h14]; rfl) rfl)) ?_
                refine rg_put (d := 57) (v := .d (.fl (.bool ((decide ((ax p a.lane b) < (-1))))))) rfl (og rfl (op_move rfl rfl rfl)) ?_
                rcases fot ((decide ((ax p a.lane b) < (-1)))) with h16 | h16
                · skip
                  have h17 := f_dec h16
                  refine rg_put (d := 58) (v := .d (.fl (.int .i64 (ax p a.lane b)))) rfl (oy rfl rfl rfl h16 (op_move rfl rfl rfl)) ?_
                  refine rg_put (d := 59) (v := .d (.fl (.bool ((decide (90 < (ax p a.lane b))))))) rfl (oy rfl rfl rfl h16 (op_bin rfl rfl rfl (b_gtr _ _ _ _) rfl)) ?_
                  refine rg_put (d := 60) (v := .d (.fl (.bool ((decide (90 < (ax p a.lane b))))))) rfl (og rfl (op_pick rfl rfl (by rw [h16]; rfl) rfl)) ?_
                  refine rg_done rfl ?_
                  refine a_cond rfl (fun h18 => ?_) (fun h18 => ?_)
                  · skip
                    have h19 := t_dec h18
                    refine a_rseq ?_
                    refine rg_put (d := 8) (v := .d (.fl (.bool false))) rfl (og rfl (op_assign rfl rfl rfl)) ?_
                    refine rg_done rfl ?_
                    refine a_ret ?_
                    show ∃ ds, ResL _ _ _ ds ∧ RV.of ds = _
                    refine ⟨[.fl (.bool false)], (.cons (.tmp rfl (.d _)) .nil), ?_⟩
                    exfalso; omega
                  · skip
                    have h20 := f_dec h18
                    refine a_skip ?_
                    show A _ _ _ _ _ _ _
                    refine a_rseq ?_
                    refine rg_put (d := 61) (v := .d (.ag (eSn b))) rfl (og rfl (of_eff (s_load_pts rfl Try.underlying25 rfl ti25 rfl rfl rfl rfl) rfl)) ?_
                    refine rg_nam (d := 11) (v := .pt 104 0) (m := 104) (nw := [(104, .bx 25 ([.fl (.string (⟨#[]⟩)), .fl (.int .i64 0), .fl (.int .i64 0), .fl (.string (⟨#[]⟩)), .fl (.string (⟨#[]⟩)), .fl (.int .i64 0), .fl (.int .i64 0), .fl (.int .i64 0), .fl (.string (⟨#[]⟩)), .fl (.int .i64 0), .fl (.int .i64 0)]))]) rfl (og rfl (of_eff (s_alloc 104 rfl ti25 (by kernel_rfl) rfl) rfl)) rfl ?_
                    refine rg_sto (nw := [(104, .bx 25 (eSn b))]) rfl (og rfl (of_eff (s_store rfl rfl ti25 rfl rfl rfl rfl rfl rfl) rfl)) ?_
                    refine rg_done rfl ?_
                    refine a_seq ?_
                    refine a_rseq ?_
                    refine rg_put (d := 62) (v := .pt 102 7) rfl (og rfl (of_eff (s_field_pt rfl Try.underlying25 rfl ti3 rfl rfl rfl) rfl)) ?_
                    refine rg_put (d := 63) (v := .d (.fl (.int .i64 b.time))) rfl (og rfl (op_load_pt rfl Try.underlying3 rfl rfl rfl rfl rfl)) ?_
                    refine rg_put (d := 64) (v := .pt 101 7) rfl (og rfl (of_eff (s_field_pt rfl Try.underlying25 rfl ti3 rfl rfl rfl) rfl)) ?_
                    refine rg_put (d := 65) (v := .d (.fl (.int .i64 a.time))) rfl (og rfl (op_load_pt rfl Try.underlying3 rfl rfl rfl rfl rfl)) ?_
                    refine rg_put (d := 66) (v := .d (.fl (.bool ((decide (a.time ≤ b.time)))))) rfl (og rfl (op_bin rfl rfl rfl (b_geq _ _ _ _) rfl)) ?_
                    refine rg_done rfl ?_
                    refine a_cond rfl (fun h21 => ?_) (fun h21 => ?_)
                    · skip
                      have h22 := t_dec h21
                      refine a_region ?_
                      refine rg_put (d := 67) (v := .pt 102 7) rfl (og rfl (of_eff (s_field_pt rfl Try.underlying25 rfl ti3 rfl rfl rfl) rfl)) ?_
                      refine rg_put (d := 68) (v := .d (.fl (.int .i64 b.time))) rfl (og rfl (op_load_pt rfl Try.underlying3 rfl rfl rfl rfl rfl)) ?_
                      refine rg_put (d := 69) (v := .d (.fl (.int .i64 by9))) rfl (og rfl (op_move rfl rfl rfl)) ?_
                      refine rg_put (d := 70) (v := .d (.fl (.int .i64 (b.time + by9)))) rfl (og rfl (op_bin rfl rfl rfl (fun x y w => b_add64 _ _ _ x y w (by omega)) rfl)) ?_
                      refine rg_put (d := 71) (v := .pt 104 7) rfl (og rfl (of_eff (s_field_pt rfl Try.underlying25 rfl ti3 rfl rfl rfl) rfl)) ?_
                      refine rg_sto (nw := [(104, .bx 25 [.fl (.string b.d.dev), .fl (.int .i64 b.d.seq), .fl (.int .i64 b.d.time), .fl (.string b.d.tag), .fl (.string b.d.plate), .fl (.int .i64 b.d.axles), .fl (.int .i64 b.d.score), .fl (.int .i64 (b.time + by9)), .fl (.string b.point), .fl (.int .i64 b.lane), .fl (.int .i64 b.kind)])]) rfl (og rfl (of_eff (s_store rfl rfl ti3 rfl rfl rfl rfl rfl rfl) rfl)) ?_
                      refine rg_done rfl ?_
                      show A _ _ _ _ _ _ _
                      refine a_rseq ?_
                      refine rg_put (d := 77) (v := .d (.ag (eSn a))) rfl (og rfl (of_eff (s_load_pts rfl Try.underlying25 rfl ti25 rfl rfl rfl rfl) rfl)) ?_
                      refine rg_put (d := 78) (v := .d (.ag (eSn ((Sn.mk b.d (b.time + by9) b.point b.lane b.kind))))) rfl (og rfl (of_eff (s_load_pts rfl Try.underlying25 rfl ti25 rfl rfl rfl rfl) rfl)) ?_
                      refine rg_put (d := 79) (v := .d (.fl (.int .i64 ((pr a ((Sn.mk b.d (b.time + by9) b.point b.lane b.kind))))))) rfl (og rfl (op_call rfl Try.func8 nm8 rfl (.cons rfl (.d _) (.cons rfl (.d _) .nil)) (pr8 a ((Sn.mk b.d (b.time + by9) b.point b.lane b.kind)) (by first | omega | (dsimp only; omega)) (by first | omega | (dsimp only; omega))) rfl)) ?_
                      refine rg_put (d := 12) (v := .d (.fl (.int .i64 ((pr a ((Sn.mk b.d (b.time + by9) b.point b.lane b.kind))))))) rfl (og rfl (op_assign rfl rfl rfl)) ?_
                      refine rg_done rfl ?_
                      refine a_seq ?_
                      refine a_rseq ?_
                      have hx1 := pr_lessT a b (b.time + by9) (by rw [dst_eq, dst_eq]; omega)
                      refine rg_put (d := 80) (v := .pt 104 7) rfl (og rfl (of_eff (s_field_pt rfl Try.underlying25 rfl ti3 rfl rfl rfl) rfl)) ?_
                      refine rg_put (d := 81) (v := .d (.fl (.int .i64 (b.time + by9)))) rfl (og rfl (op_load_pt rfl Try.underlying3 rfl rfl rfl rfl rfl)) ?_
                      refine rg_put (d := 82) (v := .d (.fl (.bool ((isT (b.time + by9)))))) rfl (og rfl (op_call rfl Try.func6 nm6 rfl (.cons rfl (.d _) .nil) (isT6 (b.time + by9)) rfl)) ?_
                      refine rg_put (d := 83) (v := .d (.fl (.bool ((isT (b.time + by9)))))) rfl (og rfl (op_move rfl rfl rfl)) ?_
                      rcases fot ((isT (b.time + by9))) with h23 | h23
                      · skip
                        refine rg_put (d := 84) (v := .d (.fl undef)) rfl (on rfl rfl rfl h23) ?_
                        refine rg_put (d := 85) (v := .d (.fl undef)) rfl (on rfl rfl rfl h23) ?_
                        refine rg_put (d := 86) (v := .d (.fl (.bool false))) rfl (og rfl (op_pick rfl rfl (by rw [h23]; rfl) rfl)) ?_
                        refine rg_put (d := 87) (v := .d (.fl (.bool false))) rfl (og rfl (op_move rfl rfl rfl)) ?_
                        refine rg_put (d := 88) (v := .d (.fl undef)) rfl (on rfl rfl rfl rfl) ?_
                        refine rg_put (d := 89) (v := .d (.fl undef)) rfl (on rfl rfl rfl rfl) ?_
                        refine rg_put (d := 90) (v := .d (.fl undef)) rfl (on rfl rfl rfl rfl) ?_
                        refine rg_put (d := 91) (v := .d (.fl undef)) rfl (ou rfl rfl rfl) ?_
                        refine rg_put (d := 92) (v := .d (.fl undef)) rfl (ou rfl rfl rfl) ?_
                        refine rg_put (d := 93) (v := .d (.fl undef)) rfl (ou rfl rfl rfl) ?_
                        refine rg_put (d := 94) (v := .d (.fl undef)) rfl (on rfl rfl rfl rfl) ?_
                        refine rg_put (d := 95) (v := .d (.fl (.bool false))) rfl (og rfl (op_pick rfl rfl rfl rfl)) ?_
                        refine rg_done rfl ?_
                        refine a_condF rfl rfl ?_
                        refine a_skip ?_
                        show A _ _ _ _ _ _ _
                        refine a_rseq ?_
                        refine rg_put (d := 96) (v := .d (.ag (eSn b))) rfl (og rfl (of_eff (s_load_pts rfl Try.underlying25 rfl ti25 rfl rfl rfl rfl) rfl)) ?_
                        refine rg_nam (d := 13) (v := .pt 105 0) (m := 105) (nw := [(105, .bx 25 ([.fl (.string (⟨#[]⟩)), .fl (.int .i64 0), .fl (.int .i64 0), .fl (.string (⟨#[]⟩)), .fl (.string (⟨#[]⟩)), .fl (.int .i64 0), .fl (.int .i64 0), .fl (.int .i64 0), .fl (.string (⟨#[]⟩)), .fl (.int .i64 0), .fl (.int .i64 0)]))]) rfl (og rfl (of_eff (s_alloc 105 rfl ti25 (by kernel_rfl) rfl) rfl)) rfl ?_
                        refine rg_sto (nw := [(105, .bx 25 (eSn b))]) rfl (og rfl (of_eff (s_store rfl rfl ti25 rfl rfl rfl rfl rfl rfl) rfl)) ?_
                        refine rg_done rfl ?_
                        refine a_seq ?_
                        refine a_rseq ?_
                        refine rg_put (d := 97) (v := .pt 102 7) rfl (og rfl (of_eff (s_field_pt rfl Try.underlying25 rfl ti3 rfl rfl rfl) rfl)) ?_
                        refine rg_put (d := 98) (v := .d (.fl (.int .i64 b.time))) rfl (og rfl (op_load_pt rfl Try.underlying3 rfl rfl rfl rfl rfl)) ?_
                        refine rg_put (d := 99) (v := .pt 103 2) rfl (og rfl (of_eff (s_field_pt rfl Try.underlying28 rfl ti3 rfl rfl rfl) rfl)) ?_
                        refine rg_put (d := 100) (v := .d (.fl (.int .i64 p.time))) rfl (og rfl (op_load_pt rfl Try.underlying3 rfl rfl rfl rfl rfl)) ?_
                        refine rg_put (d := 101) (v := .d (.fl (.bool ((decide (p.time ≤ b.time)))))) rfl (og rfl (op_bin rfl rfl rfl (b_geq _ _ _ _) rfl)) ?_
                        refine rg_done rfl ?_
                        refine a_cond rfl (fun h24 => ?_) (fun h24 => ?_)
                        · skip
                          have h25 := t_dec h24
                          refine a_region ?_
                          refine rg_put (d := 102) (v := .pt 102 7) rfl (og rfl (of_eff (s_field_pt rfl Try.underlying25 rfl ti3 rfl rfl rfl) rfl)) ?_
                          refine rg_put (d := 103) (v := .d (.fl (.int .i64 b.time))) rfl (og rfl (op_load_pt rfl Try.underlying3 rfl rfl rfl rfl rfl)) ?_
                          refine rg_put (d := 104) (v := .d (.fl (.int .i64 by9))) rfl (og rfl (op_move rfl rfl rfl)) ?_
                          refine rg_put (d := 105) (v := .d (.fl (.int .i64 (b.time + by9)))) rfl (og rfl (op_bin rfl rfl rfl (fun x y w => b_add64 _ _ _ x y w (by omega)) rfl)) ?_
                          refine rg_put (d := 106) (v := .pt 105 7) rfl (og rfl (of_eff (s_field_pt rfl Try.underlying25 rfl ti3 rfl rfl rfl) rfl)) ?_
                          refine rg_sto (nw := [(105, .bx 25 [.fl (.string b.d.dev), .fl (.int .i64 b.d.seq), .fl (.int .i64 b.d.time), .fl (.string b.d.tag), .fl (.string b.d.plate), .fl (.int .i64 b.d.axles), .fl (.int .i64 b.d.score), .fl (.int .i64 (b.time + by9)), .fl (.string b.point), .fl (.int .i64 b.lane), .fl (.int .i64 b.kind)])]) rfl (og rfl (of_eff (s_store rfl rfl ti3 rfl rfl rfl rfl rfl rfl) rfl)) ?_
                          refine rg_done rfl ?_
                          show A _ _ _ _ _ _ _
                          refine a_rseq ?_
                          refine rg_put (d := 112) (v := .d (.ag (ePg p))) rfl (og rfl (of_eff (s_load_pts rfl Try.underlying28 rfl ti28 rfl rfl rfl rfl) rfl)) ?_
                          refine rg_put (d := 113) (v := .pt 101 9) rfl (og rfl (of_eff (s_field_pt rfl Try.underlying25 rfl ti3 rfl rfl rfl) rfl)) ?_
                          refine rg_put (d := 114) (v := .d (.fl (.int .i64 a.lane))) rfl (og rfl (op_load_pt rfl Try.underlying3 rfl rfl rfl rfl rfl)) ?_
                          refine rg_put (d := 115) (v := .d (.ag (eSn ((Sn.mk b.d (b.time + by9) b.point b.lane b.kind))))) rfl (og rfl (of_eff (s_load_pts rfl Try.underlying25 rfl ti25 rfl rfl rfl rfl) rfl)) ?_
                          refine rg_put (d := 116) (v := .d (.fl (.int .i64 ((ax p a.lane ((Sn.mk b.d (b.time + by9) b.point b.lane b.kind))))))) rfl (og rfl (op_call rfl Try.func10 nm10 rfl (.cons rfl (.d _) (.cons rfl (.d _) (.cons rfl (.d _) .nil))) (ax10 p a.lane ((Sn.mk b.d (b.time + by9) b.point b.lane b.kind)) (by first | omega | (dsimp only; omega)) (by first | omega | (dsimp only; omega))) rfl)) ?_
                          refine rg_put (d := 12) (v := .d (.fl (.int .i64 ((ax p a.lane ((Sn.mk b.d (b.time + by9) b.point b.lane b.kind))))))) rfl (og rfl (op_assign rfl rfl rfl)) ?_
                          refine rg_done rfl ?_
                          refine a_seq ?_
                          refine a_rseq ?_
                          have hx2 := ax_lessT p a.lane b (b.time + by9) (by rw [dst_eq, dst_eq]; omega)
                          refine rg_put (d := 117) (v := .pt 105 7) rfl (og rfl (of_eff (s_field_pt rfl Try.underlying25 rfl ti3 rfl rfl rfl) rfl)) ?_
                          refine rg_put (d := 118) (v := .d (.fl (.int .i64 (b.time + by9)))) rfl (og rfl (op_load_pt rfl Try.underlying3 rfl rfl rfl rfl rfl)) ?_
                          refine rg_put (d := 119) (v := .d (.fl (.bool ((isT (b.time + by9)))))) rfl (og rfl (op_call rfl Try.func6 nm6 rfl (.cons rfl (.d _) .nil) (isT6 (b.time + by9)) rfl)) ?_
                          refine rg_put (d := 120) (v := .d (.fl (.bool ((isT (b.time + by9)))))) rfl (og rfl (op_move rfl rfl rfl)) ?_
                          refine rg_put (d := 121) (v := .d (.fl undef)) rfl (on rfl rfl rfl h23) ?_
                          refine rg_put (d := 122) (v := .d (.fl undef)) rfl (on rfl rfl rfl h23) ?_
                          refine rg_put (d := 123) (v := .d (.fl (.bool false))) rfl (og rfl (op_pick rfl rfl (by rw [h23]; rfl) rfl)) ?_
                          refine rg_put (d := 124) (v := .d (.fl (.bool false))) rfl (og rfl (op_move rfl rfl rfl)) ?_
                          refine rg_put (d := 125) (v := .d (.fl undef)) rfl (on rfl rfl rfl rfl) ?_
                          refine rg_put (d := 126) (v := .d (.fl undef)) rfl (on rfl rfl rfl rfl) ?_
                          refine rg_put (d := 127) (v := .d (.fl undef)) rfl (on rfl rfl rfl rfl) ?_
                          refine rg_put (d := 128) (v := .d (.fl undef)) rfl (ou rfl rfl rfl) ?_
                          refine rg_put (d := 129) (v := .d (.fl undef)) rfl (ou rfl rfl rfl) ?_
                          refine rg_put (d := 130) (v := .d (.fl undef)) rfl (ou rfl rfl rfl) ?_
                          refine rg_put (d := 131) (v := .d (.fl undef)) rfl (on rfl rfl rfl rfl) ?_
                          refine rg_put (d := 132) (v := .d (.fl (.bool false))) rfl (og rfl (op_pick rfl rfl rfl rfl)) ?_
                          refine rg_done rfl ?_
                          refine a_condF rfl rfl ?_
                          refine a_skip ?_
                          show A _ _ _ _ _ _ _
                          refine a_rseq ?_
                          refine rg_put (d := 133) (v := .d (.fl (.bool true))) rfl (og rfl (op_call rfl Try.func7 nm7 rfl .nil alive7 rfl)) ?_
                          refine rg_put (d := 8) (v := .d (.fl (.bool true))) rfl (og rfl (op_assign rfl rfl rfl)) ?_
                          refine rg_done rfl ?_
                          refine a_ret ?_
                          show ∃ ds, ResL _ _ _ ds ∧ RV.of ds = _
                          refine ⟨[.fl (.bool true)], (.cons (.tmp rfl (.d _)) .nil), ?_⟩
                          rfl
                        · skip
                          have h26 := f_dec h24
                          refine a_region ?_
                          refine rg_put (d := 107) (v := .pt 102 7) rfl (og rfl (of_eff (s_field_pt rfl Try.underlying25 rfl ti3 rfl rfl rfl) rfl)) ?_
                          refine rg_put (d := 108) (v := .d (.fl (.int .i64 b.time))) rfl (og rfl (op_load_pt rfl Try.underlying3 rfl rfl rfl rfl rfl)) ?_
                          refine rg_put (d := 109) (v := .d (.fl (.int .i64 by9))) rfl (og rfl (op_move rfl rfl rfl)) ?_
                          refine rg_put (d := 110) (v := .d (.fl (.int .i64 (b.time - by9)))) rfl (og rfl (op_bin rfl rfl rfl (fun x y w => b_sub64 _ _ _ x y w (by omega)) rfl)) ?_
                          refine rg_put (d := 111) (v := .pt 105 7) rfl (og rfl (of_eff (s_field_pt rfl Try.underlying25 rfl ti3 rfl rfl rfl) rfl)) ?_
                          refine rg_sto (nw := [(105, .bx 25 [.fl (.string b.d.dev), .fl (.int .i64 b.d.seq), .fl (.int .i64 b.d.time), .fl (.string b.d.tag), .fl (.string b.d.plate), .fl (.int .i64 b.d.axles), .fl (.int .i64 b.d.score), .fl (.int .i64 (b.time - by9)), .fl (.string b.point), .fl (.int .i64 b.lane), .fl (.int .i64 b.kind)])]) rfl (og rfl (of_eff (s_store rfl rfl ti3 rfl rfl rfl rfl rfl rfl) rfl)) ?_
                          refine rg_done rfl ?_
                          show A _ _ _ _ _ _ _
                          refine a_rseq ?_
                          refine rg_put (d := 112) (v := .d (.ag (ePg p))) rfl (og rfl (of_eff (s_load_pts rfl Try.underlying28 rfl ti28 rfl rfl rfl rfl) rfl)) ?_
                          refine rg_put (d := 113) (v := .pt 101 9) rfl (og rfl (of_eff (s_field_pt rfl Try.underlying25 rfl ti3 rfl rfl rfl) rfl)) ?_
                          refine rg_put (d := 114) (v := .d (.fl (.int .i64 a.lane))) rfl (og rfl (op_load_pt rfl Try.underlying3 rfl rfl rfl rfl rfl)) ?_
                          refine rg_put (d := 115) (v := .d (.ag (eSn ((Sn.mk b.d (b.time - by9) b.point b.lane b.kind))))) rfl (og rfl (of_eff (s_load_pts rfl Try.underlying25 rfl ti25 rfl rfl rfl rfl) rfl)) ?_
                          refine rg_put (d := 116) (v := .d (.fl (.int .i64 ((ax p a.lane ((Sn.mk b.d (b.time - by9) b.point b.lane b.kind))))))) rfl (og rfl (op_call rfl Try.func10 nm10 rfl (.cons rfl (.d _) (.cons rfl (.d _) (.cons rfl (.d _) .nil))) (ax10 p a.lane ((Sn.mk b.d (b.time - by9) b.point b.lane b.kind)) (by first | omega | (dsimp only; omega)) (by first | omega | (dsimp only; omega))) rfl)) ?_
                          refine rg_put (d := 12) (v := .d (.fl (.int .i64 ((ax p a.lane ((Sn.mk b.d (b.time - by9) b.point b.lane b.kind))))))) rfl (og rfl (op_assign rfl rfl rfl)) ?_
                          refine rg_done rfl ?_
                          refine a_seq ?_
                          refine a_rseq ?_
                          have hx2 := ax_lessT p a.lane b (b.time - by9) (by rw [dst_eq, dst_eq]; omega)
                          refine rg_put (d := 117) (v := .pt 105 7) rfl (og rfl (of_eff (s_field_pt rfl Try.underlying25 rfl ti3 rfl rfl rfl) rfl)) ?_
                          refine rg_put (d := 118) (v := .d (.fl (.int .i64 (b.time - by9)))) rfl (og rfl (op_load_pt rfl Try.underlying3 rfl rfl rfl rfl rfl)) ?_
                          refine rg_put (d := 119) (v := .d (.fl (.bool ((isT (b.time - by9)))))) rfl (og rfl (op_call rfl Try.func6 nm6 rfl (.cons rfl (.d _) .nil) (isT6 (b.time - by9)) rfl)) ?_
                          refine rg_put (d := 120) (v := .d (.fl (.bool ((isT (b.time - by9)))))) rfl (og rfl (op_move rfl rfl rfl)) ?_
                          rcases fot ((isT (b.time - by9))) with h27 | h27
                          · skip
                            refine rg_put (d := 121) (v := .d (.fl undef)) rfl (on rfl rfl rfl h27) ?_
                            refine rg_put (d := 122) (v := .d (.fl undef)) rfl (on rfl rfl rfl h27) ?_
                            refine rg_put (d := 123) (v := .d (.fl (.bool false))) rfl (og rfl (op_pick rfl rfl (by rw [h27]; rfl) rfl)) ?_
                            refine rg_put (d := 124) (v := .d (.fl (.bool false))) rfl (og rfl (op_move rfl rfl rfl)) ?_
                            refine rg_put (d := 125) (v := .d (.fl undef)) rfl (on rfl rfl rfl rfl) ?_
                            refine rg_put (d := 126) (v := .d (.fl undef)) rfl (on rfl rfl rfl rfl) ?_
                            refine rg_put (d := 127) (v := .d (.fl undef)) rfl (on rfl rfl rfl rfl) ?_
                            refine rg_put (d := 128) (v := .d (.fl undef)) rfl (ou rfl rfl rfl) ?_
                            refine rg_put (d := 129) (v := .d (.fl undef)) rfl (ou rfl rfl rfl) ?_
                            refine rg_put (d := 130) (v := .d (.fl undef)) rfl (ou rfl rfl rfl) ?_
                            refine rg_put (d := 131) (v := .d (.fl undef)) rfl (on rfl rfl rfl rfl) ?_
                            refine rg_put (d := 132) (v := .d (.fl (.bool false))) rfl (og rfl (op_pick rfl rfl rfl rfl)) ?_
                            refine rg_done rfl ?_
                            refine a_condF rfl rfl ?_
                            refine a_skip ?_
                            show A _ _ _ _ _ _ _
                            refine a_rseq ?_
                            refine rg_put (d := 133) (v := .d (.fl (.bool true))) rfl (og rfl (op_call rfl Try.func7 nm7 rfl .nil alive7 rfl)) ?_
                            refine rg_put (d := 8) (v := .d (.fl (.bool true))) rfl (og rfl (op_assign rfl rfl rfl)) ?_
                            refine rg_done rfl ?_
                            refine a_ret ?_
                            show ∃ ds, ResL _ _ _ ds ∧ RV.of ds = _
                            refine ⟨[.fl (.bool true)], (.cons (.tmp rfl (.d _)) .nil), ?_⟩
                            rfl
                          · skip
                            refine rg_put (d := 121) (v := .d (.fl (.int .i64 ((ax p a.lane ((Sn.mk b.d (b.time - by9) b.point b.lane b.kind))))))) rfl (oy rfl rfl rfl h27 (op_move rfl rfl rfl)) ?_
                            refine rg_put (d := 122) (v := .d (.fl (.bool ((decide (0 ≤ (ax p a.lane ((Sn.mk b.d (b.time - by9) b.point b.lane b.kind))))))))) rfl (oy rfl rfl rfl h27 (op_bin rfl rfl rfl (b_geq _ _ _ _) rfl)) ?_
                            refine rg_put (d := 123) (v := .d (.fl (.bool ((decide (0 ≤ (ax p a.lane ((Sn.mk b.d (b.time - by9) b.point b.lane b.kind))))))))) rfl (og rfl (op_pick rfl rfl (by rw [h27]; rfl) rfl)) ?_
                            refine rg_put (d := 124) (v := .d (.fl (.bool ((decide (0 ≤ (ax p a.lane ((Sn.mk b.d (b.time - by9) b.point b.lane b.kind))))))))) rfl (og rfl (op_move rfl rfl rfl)) ?_
                            rcases fot ((decide (0 ≤ (ax p a.lane ((Sn.mk b.d (b.time - by9) b.point b.lane b.kind)))))) with h28 | h28
                            · skip
                              have h29 := f_dec h28
                              refine rg_put (d := 125) (v := .d (.fl undef)) rfl (on rfl rfl rfl h28) ?_
                              refine rg_put (d := 126) (v := .d (.fl undef)) rfl (on rfl rfl rfl h28) ?_
                              refine rg_put (d := 127) (v := .d (.fl undef)) rfl (on rfl rfl rfl h28) ?_
                              refine rg_put (d := 128) (v := .d (.fl undef)) rfl (ou rfl rfl rfl) ?_
                              refine rg_put (d := 129) (v := .d (.fl undef)) rfl (ou rfl rfl rfl) ?_
                              refine rg_put (d := 130) (v := .d (.fl undef)) rfl (ou rfl rfl rfl) ?_
                              refine rg_put (d := 131) (v := .d (.fl undef)) rfl (on rfl rfl rfl h28) ?_
                              refine rg_put (d := 132) (v := .d (.fl (.bool false))) rfl (og rfl (op_pick rfl rfl (by rw [h28]; rfl) rfl)) ?_
                              refine rg_done rfl ?_
                              refine a_condF rfl rfl ?_
                              refine a_skip ?_
                              show A _ _ _ _ _ _ _
                              refine a_rseq ?_
                              refine rg_put (d := 133) (v := .d (.fl (.bool true))) rfl (og rfl (op_call rfl Try.func7 nm7 rfl .nil alive7 rfl)) ?_
                              refine rg_put (d := 8) (v := .d (.fl (.bool true))) rfl (og rfl (op_assign rfl rfl rfl)) ?_
                              refine rg_done rfl ?_
                              refine a_ret ?_
                              show ∃ ds, ResL _ _ _ ds ∧ RV.of ds = _
                              refine ⟨[.fl (.bool true)], (.cons (.tmp rfl (.d _)) .nil), ?_⟩
                              rfl
                            · skip
                              have h30 := t_dec h28
                              refine rg_put (d := 125) (v := .d (.fl (.int .i64 (ax p a.lane b)))) rfl (oy rfl rfl rfl h28 (op_move rfl rfl rfl)) ?_
                              refine rg_put (d := 126) (v := .d (.fl (.bool ((decide ((ax p a.lane b) < 0)))))) rfl (oy rfl rfl rfl h28 (op_bin rfl rfl rfl (b_lss _ _ _ _) rfl)) ?_
                              refine rg_put (d := 127) (v := .d (.fl (.bool ((decide ((ax p a.lane b) < 0)))))) rfl (oy rfl rfl rfl h28 (op_move rfl rfl rfl)) ?_
                              rcases fot ((decide ((ax p a.lane b) < 0))) with h31 | h31
                              · skip
                                have h32 := f_dec h31
                                refine rg_put (d := 128) (v := .d (.fl (.int .i64 ((ax p a.lane ((Sn.mk b.d (b.time - by9) b.point b.lane b.kind))))))) rfl (oy rfl rfl rfl h31 (op_move rfl rfl rfl)) ?_
                                refine rg_put (d := 129) (v := .d (.fl (.int .i64 (ax p a.lane b)))) rfl (oy rfl rfl rfl h31 (op_move rfl rfl rfl)) ?_
                                refine rg_put (d := 130) (v := .d (.fl (.bool ((decide ((ax p a.lane ((Sn.mk b.d (b.time - by9) b.point b.lane b.kind))) < (ax p a.lane b))))))) rfl (oy rfl rfl rfl h31 (op_bin rfl rfl rfl (b_lss _ _ _ _) rfl)) ?_
                                refine rg_put (d := 131) (v := .d (.fl (.bool ((decide ((ax p a.lane ((Sn.mk b.d (b.time - by9) b.point b.lane b.kind))) < (ax p a.lane b))))))) rfl (oy rfl rfl rfl h28 (op_pick rfl rfl (by rw [h31]; rfl) rfl)) ?_
                                refine rg_put (d := 132) (v := .d (.fl (.bool ((decide ((ax p a.lane ((Sn.mk b.d (b.time - by9) b.point b.lane b.kind))) < (ax p a.lane b))))))) rfl (og rfl (op_pick rfl rfl (by rw [h28]; rfl) rfl)) ?_
                                refine rg_done rfl ?_
                                refine a_cond rfl (fun h33 => ?_) (fun h33 => ?_)
                                · skip
                                  have h34 := t_dec h33
                                  refine a_rseq ?_
                                  refine rg_put (d := 8) (v := .d (.fl (.bool false))) rfl (og rfl (op_assign rfl rfl rfl)) ?_
                                  refine rg_done rfl ?_
                                  refine a_ret ?_
                                  show ∃ ds, ResL _ _ _ ds ∧ RV.of ds = _
                                  refine ⟨[.fl (.bool false)], (.cons (.tmp rfl (.d _)) .nil), ?_⟩
                                  exfalso; omega
                                · skip
                                  have h35 := f_dec h33
                                  refine a_skip ?_
                                  show A _ _ _ _ _ _ _
                                  refine a_rseq ?_
                                  refine rg_put (d := 133) (v := .d (.fl (.bool true))) rfl (og rfl (op_call rfl Try.func7 nm7 rfl .nil alive7 rfl)) ?_
                                  refine rg_put (d := 8) (v := .d (.fl (.bool true))) rfl (og rfl (op_assign rfl rfl rfl)) ?_
                                  refine rg_done rfl ?_
                                  refine a_ret ?_
                                  show ∃ ds, ResL _ _ _ ds ∧ RV.of ds = _
                                  refine ⟨[.fl (.bool true)], (.cons (.tmp rfl (.d _)) .nil), ?_⟩
                                  rfl
                              · skip
                                have h36 := t_dec h31
                                refine rg_put (d := 128) (v := .d (.fl undef)) rfl (on rfl rfl rfl h31) ?_
                                refine rg_put (d := 129) (v := .d (.fl undef)) rfl (on rfl rfl rfl h31) ?_
                                refine rg_put (d := 130) (v := .d (.fl undef)) rfl (on rfl rfl rfl h31) ?_
                                refine rg_put (d := 131) (v := .d (.fl (.bool true))) rfl (oy rfl rfl rfl h28 (op_pick rfl rfl (by rw [h31]; rfl) rfl)) ?_
                                refine rg_put (d := 132) (v := .d (.fl (.bool true))) rfl (og rfl (op_pick rfl rfl (by rw [h28]; rfl) rfl)) ?_
                                refine rg_done rfl ?_
                                refine a_condK rfl rfl ?_
                                refine a_rseq ?_
                                refine rg_put (d := 8) (v := .d (.fl (.bool false))) rfl (og rfl (op_assign rfl rfl rfl)) ?_
                                refine rg_done rfl ?_
                                refine a_ret ?_
                                show ∃ ds, ResL _ _ _ ds ∧ RV.of ds = _
                                refine ⟨[.fl (.bool false)], (.cons (.tmp rfl (.d _)) .nil), ?_⟩
                                exfalso; omega
                      · skip
                        refine rg_put (d := 84) (v := .d (.fl (.int .i64 ((pr a ((Sn.mk b.d (b.time + by9) b.point b.lane b.kind))))))) rfl (oy rfl rfl rfl h23 (op_move rfl rfl rfl)) ?_
                        refine rg_put (d := 85) (v := .d (.fl (.bool ((decide (0 ≤ (pr a ((Sn.mk b.d (b.time + by9) b.point b.lane b.kind))))))))) rfl (oy rfl rfl rfl h23 (op_bin rfl rfl rfl (b_geq _ _ _ _) rfl)) ?_
                        refine rg_put (d := 86) (v := .d (.fl (.bool ((decide (0 ≤ (pr a ((Sn.mk b.d (b.time + by9) b.point b.lane b.kind))))))))) rfl (og rfl (op_pick rfl rfl (by rw [h23]; rfl) rfl)) ?_
                        refine rg_put (d := 87) (v := .d (.fl (.bool ((decide (0 ≤ (pr a ((Sn.mk b.d (b.time + by9) b.point b.lane b.kind))))))))) rfl (og rfl (op_move rfl rfl rfl)) ?_
                        rcases fot ((decide (0 ≤ (pr a ((Sn.mk b.d (b.time + by9) b.point b.lane b.kind)))))) with h37 | h37
                        · skip
                          have h38 := f_dec h37
                          refine rg_put (d := 88) (v := .d (.fl undef)) rfl (on rfl rfl rfl h37) ?_
                          refine rg_put (d := 89) (v := .d (.fl undef)) rfl (on rfl rfl rfl h37) ?_
                          refine rg_put (d := 90) (v := .d (.fl undef)) rfl (on rfl rfl rfl h37) ?_
                          refine rg_put (d := 91) (v := .d (.fl undef)) rfl (ou rfl rfl rfl) ?_
                          refine rg_put (d := 92) (v := .d (.fl undef)) rfl (ou rfl rfl rfl) ?_
                          refine rg_put (d := 93) (v := .d (.fl undef)) rfl (ou rfl rfl rfl) ?_
                          refine rg_put (d := 94) (v := .d (.fl undef)) rfl (on rfl rfl rfl h37) ?_
                          refine rg_put (d := 95) (v := .d (.fl (.bool false))) rfl (og rfl (op_pick rfl rfl (by rw [h37]; rfl) rfl)) ?_
                          refine rg_done rfl ?_
                          refine a_condF rfl rfl ?_
                          refine a_skip ?_
                          show A _ _ _ _ _ _ _
                          refine a_rseq ?_
                          refine rg_put (d := 96) (v := .d (.ag (eSn b))) rfl (og rfl (of_eff (s_load_pts rfl Try.underlying25 rfl ti25 rfl rfl rfl rfl) rfl)) ?_
                          refine rg_nam (d := 13) (v := .pt 106 0) (m := 106) (nw := [(106, .bx 25 ([.fl (.string (⟨#[]⟩)), .fl (.int .i64 0), .fl (.int .i64 0), .fl (.string (⟨#[]⟩)), .fl (.string (⟨#[]⟩)), .fl (.int .i64 0), .fl (.int .i64 0), .fl (.int .i64 0), .fl (.string (⟨#[]⟩)), .fl (.int .i64 0), .fl (.int .i64 0)]))]) rfl (og rfl (of_eff (s_alloc 106 rfl ti25 (by kernel_rfl) rfl) rfl)) rfl ?_
                          refine rg_sto (nw := [(106, .bx 25 (eSn b))]) rfl (og rfl (of_eff (s_store rfl rfl ti25 rfl rfl rfl rfl rfl rfl) rfl)) ?_
                          refine rg_done rfl ?_
                          refine a_seq ?_
                          refine a_rseq ?_
                          refine rg_put (d := 97) (v := .pt 102 7) rfl (og rfl (of_eff (s_field_pt rfl Try.underlying25 rfl ti3 rfl rfl rfl) rfl)) ?_
                          refine rg_put (d := 98) (v := .d (.fl (.int .i64 b.time))) rfl (og rfl (op_load_pt rfl Try.underlying3 rfl rfl rfl rfl rfl)) ?_
                          refine rg_put (d := 99) (v := .pt 103 2) rfl (og rfl (of_eff (s_field_pt rfl Try.underlying28 rfl ti3 rfl rfl rfl) rfl)) ?_
                          refine rg_put (d := 100) (v := .d (.fl (.int .i64 p.time))) rfl (og rfl (op_load_pt rfl Try.underlying3 rfl rfl rfl rfl rfl)) ?_
                          refine rg_put (d := 101) (v := .d (.fl (.bool ((decide (p.time ≤ b.time)))))) rfl (og rfl (op_bin rfl rfl rfl (b_geq _ _ _ _) rfl)) ?_
                          refine rg_done rfl ?_
                          refine a_cond rfl (fun h39 => ?_) (fun h39 => ?_)
                          · skip
                            have h40 := t_dec h39
                            refine a_region ?_
                            refine rg_put (d := 102) (v := .pt 102 7) rfl (og rfl (of_eff (s_field_pt rfl Try.underlying25 rfl ti3 rfl rfl rfl) rfl)) ?_
                            refine rg_put (d := 103) (v := .d (.fl (.int .i64 b.time))) rfl (og rfl (op_load_pt rfl Try.underlying3 rfl rfl rfl rfl rfl)) ?_
                            refine rg_put (d := 104) (v := .d (.fl (.int .i64 by9))) rfl (og rfl (op_move rfl rfl rfl)) ?_
                            refine rg_put (d := 105) (v := .d (.fl (.int .i64 (b.time + by9)))) rfl (og rfl (op_bin rfl rfl rfl (fun x y w => b_add64 _ _ _ x y w (by omega)) rfl)) ?_
                            refine rg_put (d := 106) (v := .pt 106 7) rfl (og rfl (of_eff (s_field_pt rfl Try.underlying25 rfl ti3 rfl rfl rfl) rfl)) ?_
                            refine rg_sto (nw := [(106, .bx 25 [.fl (.string b.d.dev), .fl (.int .i64 b.d.seq), .fl (.int .i64 b.d.time), .fl (.string b.d.tag), .fl (.string b.d.plate), .fl (.int .i64 b.d.axles), .fl (.int .i64 b.d.score), .fl (.int .i64 (b.time + by9)), .fl (.string b.point), .fl (.int .i64 b.lane), .fl (.int .i64 b.kind)])]) rfl (og rfl (of_eff (s_store rfl rfl ti3 rfl rfl rfl rfl rfl rfl) rfl)) ?_
                            refine rg_done rfl ?_
                            show A _ _ _ _ _ _ _
                            refine a_rseq ?_
                            refine rg_put (d := 112) (v := .d (.ag (ePg p))) rfl (og rfl (of_eff (s_load_pts rfl Try.underlying28 rfl ti28 rfl rfl rfl rfl) rfl)) ?_
                            refine rg_put (d := 113) (v := .pt 101 9) rfl (og rfl (of_eff (s_field_pt rfl Try.underlying25 rfl ti3 rfl rfl rfl) rfl)) ?_
                            refine rg_put (d := 114) (v := .d (.fl (.int .i64 a.lane))) rfl (og rfl (op_load_pt rfl Try.underlying3 rfl rfl rfl rfl rfl)) ?_
                            refine rg_put (d := 115) (v := .d (.ag (eSn ((Sn.mk b.d (b.time + by9) b.point b.lane b.kind))))) rfl (og rfl (of_eff (s_load_pts rfl Try.underlying25 rfl ti25 rfl rfl rfl rfl) rfl)) ?_
                            refine rg_put (d := 116) (v := .d (.fl (.int .i64 ((ax p a.lane ((Sn.mk b.d (b.time + by9) b.point b.lane b.kind))))))) rfl (og rfl (op_call rfl Try.func10 nm10 rfl (.cons rfl (.d _) (.cons rfl (.d _) (.cons rfl (.d _) .nil))) (ax10 p a.lane ((Sn.mk b.d (b.time + by9) b.point b.lane b.kind)) (by first | omega | (dsimp only; omega)) (by first | omega | (dsimp only; omega))) rfl)) ?_
                            refine rg_put (d := 12) (v := .d (.fl (.int .i64 ((ax p a.lane ((Sn.mk b.d (b.time + by9) b.point b.lane b.kind))))))) rfl (og rfl (op_assign rfl rfl rfl)) ?_
                            refine rg_done rfl ?_
                            refine a_seq ?_
                            refine a_rseq ?_
                            have hx2 := ax_lessT p a.lane b (b.time + by9) (by rw [dst_eq, dst_eq]; omega)
                            refine rg_put (d := 117) (v := .pt 106 7) rfl (og rfl (of_eff (s_field_pt rfl Try.underlying25 rfl ti3 rfl rfl rfl) rfl)) ?_
                            refine rg_put (d := 118) (v := .d (.fl (.int .i64 (b.time + by9)))) rfl (og rfl (op_load_pt rfl Try.underlying3 rfl rfl rfl rfl rfl)) ?_
                            refine rg_put (d := 119) (v := .d (.fl (.bool ((isT (b.time + by9)))))) rfl (og rfl (op_call rfl Try.func6 nm6 rfl (.cons rfl (.d _) .nil) (isT6 (b.time + by9)) rfl)) ?_
                            refine rg_put (d := 120) (v := .d (.fl (.bool ((isT (b.time + by9)))))) rfl (og rfl (op_move rfl rfl rfl)) ?_
                            refine rg_put (d := 121) (v := .d (.fl (.int .i64 ((ax p a.lane ((Sn.mk b.d (b.time + by9) b.point b.lane b.kind))))))) rfl (oy rfl rfl rfl h23 (op_move rfl rfl rfl)) ?_
                            refine rg_put (d := 122) (v := .d (.fl (.bool ((decide (0 ≤ (ax p a.lane ((Sn.mk b.d (b.time + by9) b.point b.lane b.kind))))))))) rfl (oy rfl rfl rfl h23 (op_bin rfl rfl rfl (b_geq _ _ _ _) rfl)) ?_
                            refine rg_put (d := 123) (v := .d (.fl (.bool ((decide (0 ≤ (ax p a.lane ((Sn.mk b.d (b.time + by9) b.point b.lane b.kind))))))))) rfl (og rfl (op_pick rfl rfl (by rw [h23]; rfl) rfl)) ?_
                            refine rg_put (d := 124) (v := .d (.fl (.bool ((decide (0 ≤ (ax p a.lane ((Sn.mk b.d (b.time + by9) b.point b.lane b.kind))))))))) rfl (og rfl (op_move rfl rfl rfl)) ?_
                            rcases fot ((decide (0 ≤ (ax p a.lane ((Sn.mk b.d (b.time + by9) b.point b.lane b.kind)))))) with h41 | h41
                            · skip
                              have h42 := f_dec h41
                              refine rg_put (d := 125) (v := .d (.fl undef)) rfl (on rfl rfl rfl h41) ?_
                              refine rg_put (d := 126) (v := .d (.fl undef)) rfl (on rfl rfl rfl h41) ?_
                              refine rg_put (d := 127) (v := .d (.fl undef)) rfl (on rfl rfl rfl h41) ?_
                              refine rg_put (d := 128) (v := .d (.fl undef)) rfl (ou rfl rfl rfl) ?_
                              refine rg_put (d := 129) (v := .d (.fl undef)) rfl (ou rfl rfl rfl) ?_
                              refine rg_put (d := 130) (v := .d (.fl undef)) rfl (ou rfl rfl rfl) ?_
                              refine rg_put (d := 131) (v := .d (.fl undef)) rfl (on rfl rfl rfl h41) ?_
                              refine rg_put (d := 132) (v := .d (.fl (.bool false))) rfl (og rfl (op_pick rfl rfl (by rw [h41]; rfl) rfl)) ?_
                              refine rg_done rfl ?_
                              refine a_condF rfl rfl ?_
                              refine a_skip ?_
                              show A _ _ _ _ _ _ _
                              refine a_rseq ?_
                              refine rg_put (d := 133) (v := .d (.fl (.bool true))) rfl (og rfl (op_call rfl Try.func7 nm7 rfl .nil alive7 rfl)) ?_
                              refine rg_put (d := 8) (v := .d (.fl (.bool true))) rfl (og rfl (op_assign rfl rfl rfl)) ?_
                              refine rg_done rfl ?_
                              refine a_ret ?_
                              show ∃ ds, ResL _ _ _ ds ∧ RV.of ds = _
                              refine ⟨[.fl (.bool true)], (.cons (.tmp rfl (.d _)) .nil), ?_⟩
                              rfl
                            · skip
                              have h43 := t_dec h41
                              refine rg_put (d := 125) (v := .d (.fl (.int .i64 (ax p a.lane b)))) rfl (oy rfl rfl rfl h41 (op_move rfl rfl rfl)) ?_
                              refine rg_put (d := 126) (v := .d (.fl (.bool ((decide ((ax p a.lane b) < 0)))))) rfl (oy rfl rfl rfl h41 (op_bin rfl rfl rfl (b_lss _ _ _ _) rfl)) ?_
                              refine rg_put (d := 127) (v := .d (.fl (.bool ((decide ((ax p a.lane b) < 0)))))) rfl (oy rfl rfl rfl h41 (op_move rfl rfl rfl)) ?_
                              rcases fot ((decide ((ax p a.lane b) < 0))) with h44 | h44
                              · skip
                                have h45 := f_dec h44
                                refine rg_put (d := 128) (v := .d (.fl (.int .i64 ((ax p a.lane ((Sn.mk b.d (b.time + by9) b.point b.lane b.kind))))))) rfl (oy rfl rfl rfl h44 (op_move rfl rfl rfl)) ?_
                                refine rg_put (d := 129) (v := .d (.fl (.int .i64 (ax p a.lane b)))) rfl (oy rfl rfl rfl h44 (op_move rfl rfl rfl)) ?_
                                refine rg_put (d := 130) (v := .d (.fl (.bool ((decide ((ax p a.lane ((Sn.mk b.d (b.time + by9) b.point b.lane b.kind))) < (ax p a.lane b))))))) rfl (oy rfl rfl rfl h44 (op_bin rfl rfl rfl (b_lss _ _ _ _) rfl)) ?_
                                refine rg_put (d := 131) (v := .d (.fl (.bool ((decide ((ax p a.lane ((Sn.mk b.d (b.time + by9) b.point b.lane b.kind))) < (ax p a.lane b))))))) rfl (oy rfl rfl rfl h41 (op_pick rfl rfl (by rw [h44]; rfl) rfl)) ?_
                                refine rg_put (d := 132) (v := .d (.fl (.bool ((decide ((ax p a.lane ((Sn.mk b.d (b.time + by9) b.point b.lane b.kind))) < (ax p a.lane b))))))) rfl (og rfl (op_pick rfl rfl (by rw [h41]; rfl) rfl)) ?_
                                refine rg_done rfl ?_
                                refine a_cond rfl (fun h46 => ?_) (fun h46 => ?_)
                                · skip
                                  have h47 := t_dec h46
                                  refine a_rseq ?_
                                  refine rg_put (d := 8) (v := .d (.fl (.bool false))) rfl (og rfl (op_assign rfl rfl rfl)) ?_
                                  refine rg_done rfl ?_
                                  refine a_ret ?_
                                  show ∃ ds, ResL _ _ _ ds ∧ RV.of ds = _
                                  refine ⟨[.fl (.bool false)], (.cons (.tmp rfl (.d _)) .nil), ?_⟩
                                  exfalso; omega
                                · skip
                                  have h48 := f_dec h46
                                  refine a_skip ?_
                                  show A _ _ _ _ _ _ _
                                  refine a_rseq ?_
                                  refine rg_put (d := 133) (v := .d (.fl (.bool true))) rfl (og rfl (op_call rfl Try.func7 nm7 rfl .nil alive7 rfl)) ?_
                                  refine rg_put (d := 8) (v := .d (.fl (.bool true))) rfl (og rfl (op_assign rfl rfl rfl)) ?_
                                  refine rg_done rfl ?_
                                  refine a_ret ?_
                                  show ∃ ds, ResL _ _ _ ds ∧ RV.of ds = _
                                  refine ⟨[.fl (.bool true)], (.cons (.tmp rfl (.d _)) .nil), ?_⟩
                                  rfl
                              · skip
                                have h49 := t_dec h44
                                refine rg_put (d := 128) (v := .d (.fl undef)) rfl (on rfl rfl rfl h44) ?_
                                refine rg_put (d := 129) (v := .d (.fl undef)) rfl (on rfl rfl rfl h44) ?_
                                refine rg_put (d := 130) (v := .d (.fl undef)) rfl (on rfl rfl rfl h44) ?_
                                refine rg_put (d := 131) (v := .d (.fl (.bool true))) rfl (oy rfl rfl rfl h41 (op_pick rfl rfl (by rw [h44]; rfl) rfl)) ?_
                                refine rg_put (d := 132) (v := .d (.fl (.bool true))) rfl (og rfl (op_pick rfl rfl (by rw [h41]; rfl) rfl)) ?_
                                refine rg_done rfl ?_
                                refine a_condK rfl rfl ?_
                                refine a_rseq ?_
                                refine rg_put (d := 8) (v := .d (.fl (.bool false))) rfl (og rfl (op_assign rfl rfl rfl)) ?_
                                refine rg_done rfl ?_
                                refine a_ret ?_
                                show ∃ ds, ResL _ _ _ ds ∧ RV.of ds = _
                                refine ⟨[.fl (.bool false)], (.cons (.tmp rfl (.d _)) .nil), ?_⟩
                                exfalso; omega
                          · skip
                            have h50 := f_dec h39
                            refine a_region ?_
                            refine rg_put (d := 107) (v := .pt 102 7) rfl (og rfl (of_eff (s_field_pt rfl Try.underlying25 rfl ti3 rfl rfl rfl) rfl)) ?_
                            refine rg_put (d := 108) (v := .d (.fl (.int .i64 b.time))) rfl (og rfl (op_load_pt rfl Try.underlying3 rfl rfl rfl rfl rfl)) ?_
                            refine rg_put (d := 109) (v := .d (.fl (.int .i64 by9))) rfl (og rfl (op_move rfl rfl rfl)) ?_
                            refine rg_put (d := 110) (v := .d (.fl (.int .i64 (b.time - by9)))) rfl (og rfl (op_bin rfl rfl rfl (fun x y w => b_sub64 _ _ _ x y w (by omega)) rfl)) ?_
                            refine rg_put (d := 111) (v := .pt 106 7) rfl (og rfl (of_eff (s_field_pt rfl Try.underlying25 rfl ti3 rfl rfl rfl) rfl)) ?_
                            refine rg_sto (nw := [(106, .bx 25 [.fl (.string b.d.dev), .fl (.int .i64 b.d.seq), .fl (.int .i64 b.d.time), .fl (.string b.d.tag), .fl (.string b.d.plate), .fl (.int .i64 b.d.axles), .fl (.int .i64 b.d.score), .fl (.int .i64 (b.time - by9)), .fl (.string b.point), .fl (.int .i64 b.lane), .fl (.int .i64 b.kind)])]) rfl (og rfl (of_eff (s_store rfl rfl ti3 rfl rfl rfl rfl rfl rfl) rfl)) ?_
                            refine rg_done rfl ?_
                            show A _ _ _ _ _ _ _
                            refine a_rseq ?_
                            refine rg_put (d := 112) (v := .d (.ag (ePg p))) rfl (og rfl (of_eff (s_load_pts rfl Try.underlying28 rfl ti28 rfl rfl rfl rfl) rfl)) ?_
                            refine rg_put (d := 113) (v := .pt 101 9) rfl (og rfl (of_eff (s_field_pt rfl Try.underlying25 rfl ti3 rfl rfl rfl) rfl)) ?_
                            refine rg_put (d := 114) (v := .d (.fl (.int .i64 a.lane))) rfl (og rfl (op_load_pt rfl Try.underlying3 rfl rfl rfl rfl rfl)) ?_
                            refine rg_put (d := 115) (v := .d (.ag (eSn ((Sn.mk b.d (b.time - by9) b.point b.lane b.kind))))) rfl (og rfl (of_eff (s_load_pts rfl Try.underlying25 rfl ti25 rfl rfl rfl rfl) rfl)) ?_
                            refine rg_put (d := 116) (v := .d (.fl (.int .i64 ((ax p a.lane ((Sn.mk b.d (b.time - by9) b.point b.lane b.kind))))))) rfl (og rfl (op_call rfl Try.func10 nm10 rfl (.cons rfl (.d _) (.cons rfl (.d _) (.cons rfl (.d _) .nil))) (ax10 p a.lane ((Sn.mk b.d (b.time - by9) b.point b.lane b.kind)) (by first | omega | (dsimp only; omega)) (by first | omega | (dsimp only; omega))) rfl)) ?_
                            refine rg_put (d := 12) (v := .d (.fl (.int .i64 ((ax p a.lane ((Sn.mk b.d (b.time - by9) b.point b.lane b.kind))))))) rfl (og rfl (op_assign rfl rfl rfl)) ?_
                            refine rg_done rfl ?_
                            refine a_seq ?_
                            refine a_rseq ?_
                            have hx2 := ax_lessT p a.lane b (b.time - by9) (by rw [dst_eq, dst_eq]; omega)
                            refine rg_put (d := 117) (v := .pt 106 7) rfl (og rfl (of_eff (s_field_pt rfl Try.underlying25 rfl ti3 rfl rfl rfl) rfl)) ?_
                            refine rg_put (d := 118) (v := .d (.fl (.int .i64 (b.time - by9)))) rfl (og rfl (op_load_pt rfl Try.underlying3 rfl rfl rfl rfl rfl)) ?_
                            refine rg_put (d := 119) (v := .d (.fl (.bool ((isT (b.time - by9)))))) rfl (og rfl (op_call rfl Try.func6 nm6 rfl (.cons rfl (.d _) .nil) (isT6 (b.time - by9)) rfl)) ?_
                            refine rg_put (d := 120) (v := .d (.fl (.bool ((isT (b.time - by9)))))) rfl (og rfl (op_move rfl rfl rfl)) ?_
                            rcases fot ((isT (b.time - by9))) with h51 | h51
                            · skip
                              refine rg_put (d := 121) (v := .d (.fl undef)) rfl (on rfl rfl rfl h51) ?_
                              refine rg_put (d := 122) (v := .d (.fl undef)) rfl (on rfl rfl rfl h51) ?_
                              refine rg_put (d := 123) (v := .d (.fl (.bool false))) rfl (og rfl (op_pick rfl rfl (by rw [h51]; rfl) rfl)) ?_
                              refine rg_put (d := 124) (v := .d (.fl (.bool false))) rfl (og rfl (op_move rfl rfl rfl)) ?_
                              refine rg_put (d := 125) (v := .d (.fl undef)) rfl (on rfl rfl rfl rfl) ?_
                              refine rg_put (d := 126) (v := .d (.fl undef)) rfl (on rfl rfl rfl rfl) ?_
                              refine rg_put (d := 127) (v := .d (.fl undef)) rfl (on rfl rfl rfl rfl) ?_
                              refine rg_put (d := 128) (v := .d (.fl undef)) rfl (ou rfl rfl rfl) ?_
                              refine rg_put (d := 129) (v := .d (.fl undef)) rfl (ou rfl rfl rfl) ?_
                              refine rg_put (d := 130) (v := .d (.fl undef)) rfl (ou rfl rfl rfl) ?_
                              refine rg_put (d := 131) (v := .d (.fl undef)) rfl (on rfl rfl rfl rfl) ?_
                              refine rg_put (d := 132) (v := .d (.fl (.bool false))) rfl (og rfl (op_pick rfl rfl rfl rfl)) ?_
                              refine rg_done rfl ?_
                              refine a_condF rfl rfl ?_
                              refine a_skip ?_
                              show A _ _ _ _ _ _ _
                              refine a_rseq ?_
                              refine rg_put (d := 133) (v := .d (.fl (.bool true))) rfl (og rfl (op_call rfl Try.func7 nm7 rfl .nil alive7 rfl)) ?_
                              refine rg_put (d := 8) (v := .d (.fl (.bool true))) rfl (og rfl (op_assign rfl rfl rfl)) ?_
                              refine rg_done rfl ?_
                              refine a_ret ?_
                              show ∃ ds, ResL _ _ _ ds ∧ RV.of ds = _
                              refine ⟨[.fl (.bool true)], (.cons (.tmp rfl (.d _)) .nil), ?_⟩
                              rfl
                            · skip
                              refine rg_put (d := 121) (v := .d (.fl (.int .i64 ((ax p a.lane ((Sn.mk b.d (b.time - by9) b.point b.lane b.kind))))))) rfl (oy rfl rfl rfl h51 (op_move rfl rfl rfl)) ?_
                              refine rg_put (d := 122) (v := .d (.fl (.bool ((decide (0 ≤ (ax p a.lane ((Sn.mk b.d (b.time - by9) b.point b.lane b.kind))))))))) rfl (oy rfl rfl rfl h51 (op_bin rfl rfl rfl (b_geq _ _ _ _) rfl)) ?_
                              refine rg_put (d := 123) (v := .d (.fl (.bool ((decide (0 ≤ (ax p a.lane ((Sn.mk b.d (b.time - by9) b.point b.lane b.kind))))))))) rfl (og rfl (op_pick rfl rfl (by rw [h51]; rfl) rfl)) ?_
                              refine rg_put (d := 124) (v := .d (.fl (.bool ((decide (0 ≤ (ax p a.lane ((Sn.mk b.d (b.time - by9) b.point b.lane b.kind))))))))) rfl (og rfl (op_move rfl rfl rfl)) ?_
                              rcases fot ((decide (0 ≤ (ax p a.lane ((Sn.mk b.d (b.time - by9) b.point b.lane b.kind)))))) with h52 | h52
                              · skip
                                have h53 := f_dec h52
                                refine rg_put (d := 125) (v := .d (.fl undef)) rfl (on rfl rfl rfl h52) ?_
                                refine rg_put (d := 126) (v := .d (.fl undef)) rfl (on rfl rfl rfl h52) ?_
                                refine rg_put (d := 127) (v := .d (.fl undef)) rfl (on rfl rfl rfl h52) ?_
                                refine rg_put (d := 128) (v := .d (.fl undef)) rfl (ou rfl rfl rfl) ?_
                                refine rg_put (d := 129) (v := .d (.fl undef)) rfl (ou rfl rfl rfl) ?_
                                refine rg_put (d := 130) (v := .d (.fl undef)) rfl (ou rfl rfl rfl) ?_
                                refine rg_put (d := 131) (v := .d (.fl undef)) rfl (on rfl rfl rfl h52) ?_
                                refine rg_put (d := 132) (v := .d (.fl (.bool false))) rfl (og rfl (op_pick rfl rfl (by rw [h52]; rfl) rfl)) ?_
                                refine rg_done rfl ?_
                                refine a_condF rfl rfl ?_
                                refine a_skip ?_
                                show A _ _ _ _ _ _ _
                                refine a_rseq ?_
                                refine rg_put (d := 133) (v := .d (.fl (.bool true))) rfl (og rfl (op_call rfl Try.func7 nm7 rfl .nil alive7 rfl)) ?_
                                refine rg_put (d := 8) (v := .d (.fl (.bool true))) rfl (og rfl (op_assign rfl rfl rfl)) ?_
                                refine rg_done rfl ?_
                                refine a_ret ?_
                                show ∃ ds, ResL _ _ _ ds ∧ RV.of ds = _
                                refine ⟨[.fl (.bool true)], (.cons (.tmp rfl (.d _)) .nil), ?_⟩
                                rfl
                              · skip
                                have h54 := t_dec h52
                                refine rg_put (d := 125) (v := .d (.fl (.int .i64 (ax p a.lane b)))) rfl (oy rfl rfl rfl h52 (op_move rfl rfl rfl)) ?_
                                refine rg_put (d := 126) (v := .d (.fl (.bool ((decide ((ax p a.lane b) < 0)))))) rfl (oy rfl rfl rfl h52 (op_bin rfl rfl rfl (b_lss _ _ _ _) rfl)) ?_
                                refine rg_put (d := 127) (v := .d (.fl (.bool ((decide ((ax p a.lane b) < 0)))))) rfl (oy rfl rfl rfl h52 (op_move rfl rfl rfl)) ?_
                                rcases fot ((decide ((ax p a.lane b) < 0))) with h55 | h55
                                · skip
                                  have h56 := f_dec h55
                                  refine rg_put (d := 128) (v := .d (.fl (.int .i64 ((ax p a.lane ((Sn.mk b.d (b.time - by9) b.point b.lane b.kind))))))) rfl (oy rfl rfl rfl h55 (op_move rfl rfl rfl)) ?_
                                  refine rg_put (d := 129) (v := .d (.fl (.int .i64 (ax p a.lane b)))) rfl (oy rfl rfl rfl h55 (op_move rfl rfl rfl)) ?_
                                  refine rg_put (d := 130) (v := .d (.fl (.bool ((decide ((ax p a.lane ((Sn.mk b.d (b.time - by9) b.point b.lane b.kind))) < (ax p a.lane b))))))) rfl (oy rfl rfl rfl h55 (op_bin rfl rfl rfl (b_lss _ _ _ _) rfl)) ?_
                                  refine rg_put (d := 131) (v := .d (.fl (.bool ((decide ((ax p a.lane ((Sn.mk b.d (b.time - by9) b.point b.lane b.kind))) < (ax p a.lane b))))))) rfl (oy rfl rfl rfl h52 (op_pick rfl rfl (by rw [h55]; rfl) rfl)) ?_
                                  refine rg_put (d := 132) (v := .d (.fl (.bool ((decide ((ax p a.lane ((Sn.mk b.d (b.time - by9) b.point b.lane b.kind))) < (ax p a.lane b))))))) rfl (og rfl (op_pick rfl rfl (by rw [h52]; rfl) rfl)) ?_
                                  refine rg_done rfl ?_
                                  refine a_cond rfl (fun h57 => ?_) (fun h57 => ?_)
                                  · skip
                                    have h58 := t_dec h57
                                    refine a_rseq ?_
                                    refine rg_put (d := 8) (v := .d (.fl (.bool false))) rfl (og rfl (op_assign rfl rfl rfl)) ?_
                                    refine rg_done rfl ?_
                                    refine a_ret ?_
                                    show ∃ ds, ResL _ _ _ ds ∧ RV.of ds = _
                                    refine ⟨[.fl (.bool false)], (.cons (.tmp rfl (.d _)) .nil), ?_⟩
                                    exfalso; omega
                                  · skip
                                    have h59 := f_dec h57
                                    refine a_skip ?_
                                    show A _ _ _ _ _ _ _
                                    refine a_rseq ?_
                                    refine rg_put (d := 133) (v := .d (.fl (.bool true))) rfl (og rfl (op_call rfl Try.func7 nm7 rfl .nil alive7 rfl)) ?_
                                    refine rg_put (d := 8) (v := .d (.fl (.bool true))) rfl (og rfl (op_assign rfl rfl rfl)) ?_
                                    refine rg_done rfl ?_
                                    refine a_ret ?_
                                    show ∃ ds, ResL _ _ _ ds ∧ RV.of ds = _
                                    refine ⟨[.fl (.bool true)], (.cons (.tmp rfl (.d _)) .nil), ?_⟩
                                    rfl
                                · skip
                                  have h60 := t_dec h55
                                  refine rg_put (d := 128) (v := .d (.fl undef)) rfl (on rfl rfl rfl h55) ?_
                                  refine rg_put (d := 129) (v := .d (.fl undef)) rfl (on rfl rfl rfl h55) ?_
                                  refine rg_put (d := 130) (v := .d (.fl undef)) rfl (on rfl rfl rfl h55) ?_
                                  refine rg_put (d := 131) (v := .d (.fl (.bool true))) rfl (oy rfl rfl rfl h52 (op_pick rfl rfl (by rw [h55]; rfl) rfl)) ?_
                                  refine rg_put (d := 132) (v := .d (.fl (.bool true))) rfl (og rfl (op_pick rfl rfl (by rw [h52]; rfl) rfl)) ?_
                                  refine rg_done rfl ?_
                                  refine a_condK rfl rfl ?_
                                  refine a_rseq ?_
                                  refine rg_put (d := 8) (v := .d (.fl (.bool false))) rfl (og rfl (op_assign rfl rfl rfl)) ?_
                                  refine rg_done rfl ?_
                                  refine a_ret ?_
                                  show ∃ ds, ResL _ _ _ ds ∧ RV.of ds = _
                                  refine ⟨[.fl (.bool false)], (.cons (.tmp rfl (.d _)) .nil), ?_⟩
                                  exfalso; omega
                        · skip
                          have h61 := t_dec h37
                          refine rg_put (d := 88) (v := .d (.fl (.int .i64 (pr a b)))) rfl (oy rfl rfl rfl h37 (op_move rfl rfl rfl)) ?_
                          refine rg_put (d := 89) (v := .d (.fl (.bool ((decide ((pr a b) < 0)))))) rfl (oy rfl rfl rfl h37 (op_bin rfl rfl rfl (b_lss _ _ _ _) rfl)) ?_
                          refine rg_put (d := 90) (v := .d (.fl (.bool ((decide ((pr a b) < 0)))))) rfl (oy rfl rfl rfl h37 (op_move rfl rfl rfl)) ?_
                          rcases fot ((decide ((pr a b) < 0))) with h62 | h62
                          · skip
                            have h63 := f_dec h62
                            refine rg_put (d := 91) (v := .d (.fl (.int .i64 ((pr a ((Sn.mk b.d (b.time + by9) b.point b.lane b.kind))))))) rfl (oy rfl rfl rfl h62 (op_move rfl rfl rfl)) ?_
                            refine rg_put (d := 92) (v := .d (.fl (.int .i64 (pr a b)))) rfl (oy rfl rfl rfl h62 (op_move rfl rfl rfl)) ?_
                            refine rg_put (d := 93) (v := .d (.fl (.bool ((decide ((pr a ((Sn.mk b.d (b.time + by9) b.point b.lane b.kind))) < (pr a b))))))) rfl (oy rfl rfl rfl h62 (op_bin rfl rfl rfl (b_lss _ _ _ _) rfl)) ?_
                            refine rg_put (d := 94) (v := .d (.fl (.bool ((decide ((pr a ((Sn.mk b.d (b.time + by9) b.point b.lane b.kind))) < (pr a b))))))) rfl (oy rfl rfl rfl h37 (op_pick rfl rfl (by rw [h62]; rfl) rfl)) ?_
                            refine rg_put (d := 95) (v := .d (.fl (.bool ((decide ((pr a ((Sn.mk b.d (b.time + by9) b.point b.lane b.kind))) < (pr a b))))))) rfl (og rfl (op_pick rfl rfl (by rw [h37]; rfl) rfl)) ?_
                            refine rg_done rfl ?_
                            refine a_cond rfl (fun h64 => ?_) (fun h64 => ?_)
                            · skip
                              have h65 := t_dec h64
                              refine a_rseq ?_
                              refine rg_put (d := 8) (v := .d (.fl (.bool false))) rfl (og rfl (op_assign rfl rfl rfl)) ?_
                              refine rg_done rfl ?_
                              refine a_ret ?_
                              show ∃ ds, ResL _ _ _ ds ∧ RV.of ds = _
                              refine ⟨[.fl (.bool false)], (.cons (.tmp rfl (.d _)) .nil), ?_⟩
                              exfalso; omega
                            · skip
                              have h66 := f_dec h64
                              refine a_skip ?_
                              show A _ _ _ _ _ _ _
                              refine a_rseq ?_
                              refine rg_put (d := 96) (v := .d (.ag (eSn b))) rfl (og rfl (of_eff (s_load_pts rfl Try.underlying25 rfl ti25 rfl rfl rfl rfl) rfl)) ?_
                              refine rg_nam (d := 13) (v := .pt 107 0) (m := 107) (nw := [(107, .bx 25 ([.fl (.string (⟨#[]⟩)), .fl (.int .i64 0), .fl (.int .i64 0), .fl (.string (⟨#[]⟩)), .fl (.string (⟨#[]⟩)), .fl (.int .i64 0), .fl (.int .i64 0), .fl (.int .i64 0), .fl (.string (⟨#[]⟩)), .fl (.int .i64 0), .fl (.int .i64 0)]))]) rfl (og rfl (of_eff (s_alloc 107 rfl ti25 (by kernel_rfl) rfl) rfl)) rfl ?_
                              refine rg_sto (nw := [(107, .bx 25 (eSn b))]) rfl (og rfl (of_eff (s_store rfl rfl ti25 rfl rfl rfl rfl rfl rfl) rfl)) ?_
                              refine rg_done rfl ?_
                              refine a_seq ?_
                              refine a_rseq ?_
                              refine rg_put (d := 97) (v := .pt 102 7) rfl (og rfl (of_eff (s_field_pt rfl Try.underlying25 rfl ti3 rfl rfl rfl) rfl)) ?_
                              refine rg_put (d := 98) (v := .d (.fl (.int .i64 b.time))) rfl (og rfl (op_load_pt rfl Try.underlying3 rfl rfl rfl rfl rfl)) ?_
                              refine rg_put (d := 99) (v := .pt 103 2) rfl (og rfl (of_eff (s_field_pt rfl Try.underlying28 rfl ti3 rfl rfl rfl) rfl)) ?_
                              refine rg_put (d := 100) (v := .d (.fl (.int .i64 p.time))) rfl (og rfl (op_load_pt rfl Try.underlying3 rfl rfl rfl rfl rfl)) ?_
                              refine rg_put (d := 101) (v := .d (.fl (.bool ((decide (p.time ≤ b.time)))))) rfl (og rfl (op_bin rfl rfl rfl (b_geq _ _ _ _) rfl)) ?_
                              refine rg_done rfl ?_
                              refine a_cond rfl (fun h67 => ?_) (fun h67 => ?_)
                              · skip
                                have h68 := t_dec h67
                                refine a_region ?_
                                refine rg_put (d := 102) (v := .pt 102 7) rfl (og rfl (of_eff (s_field_pt rfl Try.underlying25 rfl ti3 rfl rfl rfl) rfl)) ?_
                                refine rg_put (d := 103) (v := .d (.fl (.int .i64 b.time))) rfl (og rfl (op_load_pt rfl Try.underlying3 rfl rfl rfl rfl rfl)) ?_
                                refine rg_put (d := 104) (v := .d (.fl (.int .i64 by9))) rfl (og rfl (op_move rfl rfl rfl)) ?_
                                refine rg_put (d := 105) (v := .d (.fl (.int .i64 (b.time + by9)))) rfl (og rfl (op_bin rfl rfl rfl (fun x y w => b_add64 _ _ _ x y w (by omega)) rfl)) ?_
                                refine rg_put (d := 106) (v := .pt 107 7) rfl (og rfl (of_eff (s_field_pt rfl Try.underlying25 rfl ti3 rfl rfl rfl) rfl)) ?_
                                refine rg_sto (nw := [(107, .bx 25 [.fl (.string b.d.dev), .fl (.int .i64 b.d.seq), .fl (.int .i64 b.d.time), .fl (.string b.d.tag), .fl (.string b.d.plate), .fl (.int .i64 b.d.axles), .fl (.int .i64 b.d.score), .fl (.int .i64 (b.time + by9)), .fl (.string b.point), .fl (.int .i64 b.lane), .fl (.int .i64 b.kind)])]) rfl (og rfl (of_eff (s_store rfl rfl ti3 rfl rfl rfl rfl rfl rfl) rfl)) ?_
                                refine rg_done rfl ?_
                                show A _ _ _ _ _ _ _
                                refine a_rseq ?_
                                refine rg_put (d := 112) (v := .d (.ag (ePg p))) rfl (og rfl (of_eff (s_load_pts rfl Try.underlying28 rfl ti28 rfl rfl rfl rfl) rfl)) ?_
                                refine rg_put (d := 113) (v := .pt 101 9) rfl (og rfl (of_eff (s_field_pt rfl Try.underlying25 rfl ti3 rfl rfl rfl) rfl)) ?_
                                refine rg_put (d := 114) (v := .d (.fl (.int .i64 a.lane))) rfl (og rfl (op_load_pt rfl Try.underlying3 rfl rfl rfl rfl rfl)) ?_
                                refine rg_put (d := 115) (v := .d (.ag (eSn ((Sn.mk b.d (b.time + by9) b.point b.lane b.kind))))) rfl (og rfl (of_eff (s_load_pts rfl Try.underlying25 rfl ti25 rfl rfl rfl rfl) rfl)) ?_
                                refine rg_put (d := 116) (v := .d (.fl (.int .i64 ((ax p a.lane ((Sn.mk b.d (b.time + by9) b.point b.lane b.kind))))))) rfl (og rfl (op_call rfl Try.func10 nm10 rfl (.cons rfl (.d _) (.cons rfl (.d _) (.cons rfl (.d _) .nil))) (ax10 p a.lane ((Sn.mk b.d (b.time + by9) b.point b.lane b.kind)) (by first | omega | (dsimp only; omega)) (by first | omega | (dsimp only; omega))) rfl)) ?_
                                refine rg_put (d := 12) (v := .d (.fl (.int .i64 ((ax p a.lane ((Sn.mk b.d (b.time + by9) b.point b.lane b.kind))))))) rfl (og rfl (op_assign rfl rfl rfl)) ?_
                                refine rg_done rfl ?_
                                refine a_seq ?_
                                refine a_rseq ?_
                                have hx2 := ax_lessT p a.lane b (b.time + by9) (by rw [dst_eq, dst_eq]; omega)
                                refine rg_put (d := 117) (v := .pt 107 7) rfl (og rfl (of_eff (s_field_pt rfl Try.underlying25 rfl ti3 rfl rfl rfl) rfl)) ?_
                                refine rg_put (d := 118) (v := .d (.fl (.int .i64 (b.time + by9)))) rfl (og rfl (op_load_pt rfl Try.underlying3 rfl rfl rfl rfl rfl)) ?_
                                refine rg_put (d := 119) (v := .d (.fl (.bool ((isT (b.time + by9)))))) rfl (og rfl (op_call rfl Try.func6 nm6 rfl (.cons rfl (.d _) .nil) (isT6 (b.time + by9)) rfl)) ?_
                                refine rg_put (d := 120) (v := .d (.fl (.bool ((isT (b.time + by9)))))) rfl (og rfl (op_move rfl rfl rfl)) ?_
                                refine rg_put (d := 121) (v := .d (.fl (.int .i64 ((ax p a.lane ((Sn.mk b.d (b.time + by9) b.point b.lane b.kind))))))) rfl (oy rfl rfl rfl h23 (op_move rfl rfl rfl)) ?_
                                refine rg_put (d := 122) (v := .d (.fl (.bool ((decide (0 ≤ (ax p a.lane ((Sn.mk b.d (b.time + by9) b.point b.lane b.kind))))))))) rfl (oy rfl rfl rfl h23 (op_bin rfl rfl rfl (b_geq _ _ _ _) rfl)) ?_
                                refine rg_put (d := 123) (v := .d (.fl (.bool ((decide (0 ≤ (ax p a.lane ((Sn.mk b.d (b.time + by9) b.point b.lane b.kind))))))))) rfl (og rfl (op_pick rfl rfl (by rw [h23]; rfl) rfl)) ?_
                                refine rg_put (d := 124) (v := .d (.fl (.bool ((decide (0 ≤ (ax p a.lane ((Sn.mk b.d (b.time + by9) b.point b.lane b.kind))))))))) rfl (og rfl (op_move rfl rfl rfl)) ?_
                                rcases fot ((decide (0 ≤ (ax p a.lane ((Sn.mk b.d (b.time + by9) b.point b.lane b.kind)))))) with h69 | h69
                                · skip
                                  have h70 := f_dec h69
                                  refine rg_put (d := 125) (v := .d (.fl undef)) rfl (on rfl rfl rfl h69) ?_
                                  refine rg_put (d := 126) (v := .d (.fl undef)) rfl (on rfl rfl rfl h69) ?_
                                  refine rg_put (d := 127) (v := .d (.fl undef)) rfl (on rfl rfl rfl h69) ?_
                                  refine rg_put (d := 128) (v := .d (.fl undef)) rfl (ou rfl rfl rfl) ?_
                                  refine rg_put (d := 129) (v := .d (.fl undef)) rfl (ou rfl rfl rfl) ?_
                                  refine rg_put (d := 130) (v := .d (.fl undef)) rfl (ou rfl rfl rfl) ?_
                                  refine rg_put (d := 131) (v := .d (.fl undef)) rfl (on rfl rfl rfl h69) ?_
                                  refine rg_put (d := 132) (v := .d (.fl (.bool false))) rfl (og rfl (op_pick rfl rfl (by rw [h69]; rfl) rfl)) ?_
                                  refine rg_done rfl ?_
                                  refine a_condF rfl rfl ?_
                                  refine a_skip ?_
                                  show A _ _ _ _ _ _ _
                                  refine a_rseq ?_
                                  refine rg_put (d := 133) (v := .d (.fl (.bool true))) rfl (og rfl (op_call rfl Try.func7 nm7 rfl .nil alive7 rfl)) ?_
                                  refine rg_put (d := 8) (v := .d (.fl (.bool true))) rfl (og rfl (op_assign rfl rfl rfl)) ?_
                                  refine rg_done rfl ?_
                                  refine a_ret ?_
                                  show ∃ ds, ResL _ _ _ ds ∧ RV.of ds = _
                                  refine ⟨[.fl (.bool true)], (.cons (.tmp rfl (.d _)) .nil), ?_⟩
                                  rfl
                                · skip
                                  have h71 := t_dec h69
                                  refine rg_put (d := 125) (v := .d (.fl (.int .i64 (ax p a.lane b)))) rfl (oy rfl rfl rfl h69 (op_move rfl rfl rfl)) ?_
                                  refine rg_put (d := 126) (v := .d (.fl (.bool ((decide ((ax p a.lane b) < 0)))))) rfl (oy rfl rfl rfl h69 (op_bin rfl rfl rfl (b_lss _ _ _ _) rfl)) ?_
                                  refine rg_put (d := 127) (v := .d (.fl (.bool ((decide ((ax p a.lane b) < 0)))))) rfl (oy rfl rfl rfl h69 (op_move rfl rfl rfl)) ?_
                                  rcases fot ((decide ((ax p a.lane b) < 0))) with h72 | h72
                                  · skip
                                    have h73 := f_dec h72
                                    refine rg_put (d := 128) (v := .d (.fl (.int .i64 ((ax p a.lane ((Sn.mk b.d (b.time + by9) b.point b.lane b.kind))))))) rfl (oy rfl rfl rfl h72 (op_move rfl rfl rfl)) ?_
                                    refine rg_put (d := 129) (v := .d (.fl (.int .i64 (ax p a.lane b)))) rfl (oy rfl rfl rfl h72 (op_move rfl rfl rfl)) ?_
                                    refine rg_put (d := 130) (v := .d (.fl (.bool ((decide ((ax p a.lane ((Sn.mk b.d (b.time + by9) b.point b.lane b.kind))) < (ax p a.lane b))))))) rfl (oy rfl rfl rfl h72 (op_bin rfl rfl rfl (b_lss _ _ _ _) rfl)) ?_
                                    refine rg_put (d := 131) (v := .d (.fl (.bool ((decide ((ax p a.lane ((Sn.mk b.d (b.time + by9) b.point b.lane b.kind))) < (ax p a.lane b))))))) rfl (oy rfl rfl rfl h69 (op_pick rfl rfl (by rw [h72]; rfl) rfl)) ?_
                                    refine rg_put (d := 132) (v := .d (.fl (.bool ((decide ((ax p a.lane ((Sn.mk b.d (b.time + by9) b.point b.lane b.kind))) < (ax p a.lane b))))))) rfl (og rfl (op_pick rfl rfl (by rw [h69]; rfl) rfl)) ?_
                                    refine rg_done rfl ?_
                                    refine a_cond rfl (fun h74 => ?_) (fun h74 => ?_)
                                    · skip
                                      have h75 := t_dec h74
                                      refine a_rseq ?_
                                      refine rg_put (d := 8) (v := .d (.fl (.bool false))) rfl (og rfl (op_assign rfl rfl rfl)) ?_
                                      refine rg_done rfl ?_
                                      refine a_ret ?_
                                      show ∃ ds, ResL _ _ _ ds ∧ RV.of ds = _
                                      refine ⟨[.fl (.bool false)], (.cons (.tmp rfl (.d _)) .nil), ?_⟩
                                      exfalso; omega
                                    · skip
                                      have h76 := f_dec h74
                                      refine a_skip ?_
                                      show A _ _ _ _ _ _ _
                                      refine a_rseq ?_
                                      refine rg_put (d := 133) (v := .d (.fl (.bool true))) rfl (og rfl (op_call rfl Try.func7 nm7 rfl .nil alive7 rfl)) ?_
                                      refine rg_put (d := 8) (v := .d (.fl (.bool true))) rfl (og rfl (op_assign rfl rfl rfl)) ?_
                                      refine rg_done rfl ?_
                                      refine a_ret ?_
                                      show ∃ ds, ResL _ _ _ ds ∧ RV.of ds = _
                                      refine ⟨[.fl (.bool true)], (.cons (.tmp rfl (.d _)) .nil), ?_⟩
                                      rfl
                                  · skip
                                    have h77 := t_dec h72
                                    refine rg_put (d := 128) (v := .d (.fl undef)) rfl (on rfl rfl rfl h72) ?_
                                    refine rg_put (d := 129) (v := .d (.fl undef)) rfl (on rfl rfl rfl h72) ?_
                                    refine rg_put (d := 130) (v := .d (.fl undef)) rfl (on rfl rfl rfl h72) ?_
                                    refine rg_put (d := 131) (v := .d (.fl (.bool true))) rfl (oy rfl rfl rfl h69 (op_pick rfl rfl (by rw [h72]; rfl) rfl)) ?_
                                    refine rg_put (d := 132) (v := .d (.fl (.bool true))) rfl (og rfl (op_pick rfl rfl (by rw [h69]; rfl) rfl)) ?_
                                    refine rg_done rfl ?_
                                    refine a_condK rfl rfl ?_
                                    refine a_rseq ?_
                                    refine rg_put (d := 8) (v := .d (.fl (.bool false))) rfl (og rfl (op_assign rfl rfl rfl)) ?_
                                    refine rg_done rfl ?_
                                    refine a_ret ?_
                                    show ∃ ds, ResL _ _ _ ds ∧ RV.of ds = _
                                    refine ⟨[.fl (.bool false)], (.cons (.tmp rfl (.d _)) .nil), ?_⟩
                                    exfalso; omega
                              · skip
                                have h78 := f_dec h67
                                refine a_region ?_
                                refine rg_put (d := 107) (v := .pt 102 7) rfl (og rfl (of_eff (s_field_pt rfl Try.underlying25 rfl ti3 rfl rfl rfl) rfl)) ?_
                                refine rg_put (d := 108) (v := .d (.fl (.int .i64 b.time))) rfl (og rfl (op_load_pt rfl Try.underlying3 rfl rfl rfl rfl rfl)) ?_
                                refine rg_put (d := 109) (v := .d (.fl (.int .i64 by9))) rfl (og rfl (op_move rfl rfl rfl)) ?_
                                refine rg_put (d := 110) (v := .d (.fl (.int .i64 (b.time - by9)))) rfl (og rfl (op_bin rfl rfl rfl (fun x y w => b_sub64 _ _ _ x y w (by omega)) rfl)) ?_
                                refine rg_put (d := 111) (v := .pt 107 7) rfl (og rfl (of_eff (s_field_pt rfl Try.underlying25 rfl ti3 rfl rfl rfl) rfl)) ?_
                                refine rg_sto (nw := [(107, .bx 25 [.fl (.string b.d.dev), .fl (.int .i64 b.d.seq), .fl (.int .i64 b.d.time), .fl (.string b.d.tag), .fl (.string b.d.plate), .fl (.int .i64 b.d.axles), .fl (.int .i64 b.d.score), .fl (.int .i64 (b.time - by9)), .fl (.string b.point), .fl (.int .i64 b.lane), .fl (.int .i64 b.kind)])]) rfl (og rfl (of_eff (s_store rfl rfl ti3 rfl rfl rfl rfl rfl rfl) rfl)) ?_
                                refine rg_done rfl ?_
                                show A _ _ _ _ _ _ _
                                refine a_rseq ?_
                                refine rg_put (d := 112) (v := .d (.ag (ePg p))) rfl (og rfl (of_eff (s_load_pts rfl Try.underlying28 rfl ti28 rfl rfl rfl rfl) rfl)) ?_
                                refine rg_put (d := 113) (v := .pt 101 9) rfl (og rfl (of_eff (s_field_pt rfl Try.underlying25 rfl ti3 rfl rfl rfl) rfl)) ?_
                                refine rg_put (d := 114) (v := .d (.fl (.int .i64 a.lane))) rfl (og rfl (op_load_pt rfl Try.underlying3 rfl rfl rfl rfl rfl)) ?_
                                refine rg_put (d := 115) (v := .d (.ag (eSn ((Sn.mk b.d (b.time - by9) b.point b.lane b.kind))))) rfl (og rfl (of_eff (s_load_pts rfl Try.underlying25 rfl ti25 rfl rfl rfl rfl) rfl)) ?_
                                refine rg_put (d := 116) (v := .d (.fl (.int .i64 ((ax p a.lane ((Sn.mk b.d (b.time - by9) b.point b.lane b.kind))))))) rfl (og rfl (op_call rfl Try.func10 nm10 rfl (.cons rfl (.d _) (.cons rfl (.d _) (.cons rfl (.d _) .nil))) (ax10 p a.lane ((Sn.mk b.d (b.time - by9) b.point b.lane b.kind)) (by first | omega | (dsimp only; omega)) (by first | omega | (dsimp only; omega))) rfl)) ?_
                                refine rg_put (d := 12) (v := .d (.fl (.int .i64 ((ax p a.lane ((Sn.mk b.d (b.time - by9) b.point b.lane b.kind))))))) rfl (og rfl (op_assign rfl rfl rfl)) ?_
                                refine rg_done rfl ?_
                                refine a_seq ?_
                                refine a_rseq ?_
                                have hx2 := ax_lessT p a.lane b (b.time - by9) (by rw [dst_eq, dst_eq]; omega)
                                refine rg_put (d := 117) (v := .pt 107 7) rfl (og rfl (of_eff (s_field_pt rfl Try.underlying25 rfl ti3 rfl rfl rfl) rfl)) ?_
                                refine rg_put (d := 118) (v := .d (.fl (.int .i64 (b.time - by9)))) rfl (og rfl (op_load_pt rfl Try.underlying3 rfl rfl rfl rfl rfl)) ?_
                                refine rg_put (d := 119) (v := .d (.fl (.bool ((isT (b.time - by9)))))) rfl (og rfl (op_call rfl Try.func6 nm6 rfl (.cons rfl (.d _) .nil) (isT6 (b.time - by9)) rfl)) ?_
                                refine rg_put (d := 120) (v := .d (.fl (.bool ((isT (b.time - by9)))))) rfl (og rfl (op_move rfl rfl rfl)) ?_
                                rcases fot ((isT (b.time - by9))) with h79 | h79
                                · skip
                                  refine rg_put (d := 121) (v := .d (.fl undef)) rfl (on rfl rfl rfl h79) ?_
                                  refine rg_put (d := 122) (v := .d (.fl undef)) rfl (on rfl rfl rfl h79) ?_
                                  refine rg_put (d := 123) (v := .d (.fl (.bool false))) rfl (og rfl (op_pick rfl rfl (by rw [h79]; rfl) rfl)) ?_
                                  refine rg_put (d := 124) (v := .d (.fl (.bool false))) rfl (og rfl (op_move rfl rfl rfl)) ?_
                                  refine rg_put (d := 125) (v := .d (.fl undef)) rfl (on rfl rfl rfl rfl) ?_
                                  refine rg_put (d := 126) (v := .d (.fl undef)) rfl (on rfl rfl rfl rfl) ?_
                                  refine rg_put (d := 127) (v := .d (.fl undef)) rfl (on rfl rfl rfl rfl) ?_
                                  refine rg_put (d := 128) (v := .d (.fl undef)) rfl (ou rfl rfl rfl) ?_
                                  refine rg_put (d := 129) (v := .d (.fl undef)) rfl (ou rfl rfl rfl) ?_
                                  refine rg_put (d := 130) (v := .d (.fl undef)) rfl (ou rfl rfl rfl) ?_
                                  refine rg_put (d := 131) (v := .d (.fl undef)) rfl (on rfl rfl rfl rfl) ?_
                                  refine rg_put (d := 132) (v := .d (.fl (.bool false))) rfl (og rfl (op_pick rfl rfl rfl rfl)) ?_
                                  refine rg_done rfl ?_
                                  refine a_condF rfl rfl ?_
                                  refine a_skip ?_
                                  show A _ _ _ _ _ _ _
                                  refine a_rseq ?_
                                  refine rg_put (d := 133) (v := .d (.fl (.bool true))) rfl (og rfl (op_call rfl Try.func7 nm7 rfl .nil alive7 rfl)) ?_
                                  refine rg_put (d := 8) (v := .d (.fl (.bool true))) rfl (og rfl (op_assign rfl rfl rfl)) ?_
                                  refine rg_done rfl ?_
                                  refine a_ret ?_
                                  show ∃ ds, ResL _ _ _ ds ∧ RV.of ds = _
                                  refine ⟨[.fl (.bool true)], (.cons (.tmp rfl (.d _)) .nil), ?_⟩
                                  rfl
                                · skip
                                  refine rg_put (d := 121) (v := .d (.fl (.int .i64 ((ax p a.lane ((Sn.mk b.d (b.time - by9) b.point b.lane b.kind))))))) rfl (oy rfl rfl rfl h79 (op_move rfl rfl rfl)) ?_
                                  refine rg_put (d := 122) (v := .d (.fl (.bool ((decide (0 ≤ (ax p a.lane ((Sn.mk b.d (b.time - by9) b.point b.lane b.kind))))))))) rfl (oy rfl rfl rfl h79 (op_bin rfl rfl rfl (b_geq _ _ _ _) rfl)) ?_
                                  refine rg_put (d := 123) (v := .d (.fl (.bool ((decide (0 ≤ (ax p a.lane ((Sn.mk b.d (b.time - by9) b.point b.lane b.kind))))))))) rfl (og rfl (op_pick rfl rfl (by rw [h79]; rfl) rfl)) ?_
                                  refine rg_put (d := 124) (v := .d (.fl (.bool ((decide (0 ≤ (ax p a.lane ((Sn.mk b.d (b.time - by9) b.point b.lane b.kind))))))))) rfl (og rfl (op_move rfl rfl rfl)) ?_
                                  rcases fot ((decide (0 ≤ (ax p a.lane ((Sn.mk b.d (b.time - by9) b.point b.lane b.kind)))))) with h80 | h80
                                  · skip
                                    have h81 := f_dec h80
                                    refine rg_put (d := 125) (v := .d (.fl undef)) rfl (on rfl rfl rfl h80) ?_
                                    refine rg_put (d := 126) (v := .d (.fl undef)) rfl (on rfl rfl rfl h80) ?_
                                    refine rg_put (d := 127) (v := .d (.fl undef)) rfl (on rfl rfl rfl h80) ?_
                                    refine rg_put (d := 128) (v := .d (.fl undef)) rfl (ou rfl rfl rfl) ?_
                                    refine rg_put (d := 129) (v := .d (.fl undef)) rfl (ou rfl rfl rfl) ?_
                                    refine rg_put (d := 130) (v := .d (.fl undef)) rfl (ou rfl rfl rfl) ?_
                                    refine rg_put (d := 131) (v := .d (.fl undef)) rfl (on rfl rfl rfl h80) ?_
                                    refine rg_put (d := 132) (v := .d (.fl (.bool false))) rfl (og rfl (op_pick rfl rfl (by rw [h80]; rfl) rfl)) ?_
                                    refine rg_done rfl ?_
                                    refine a_condF rfl rfl ?_
                                    refine a_skip ?_
                                    show A _ _ _ _ _ _ _
                                    refine a_rseq ?_
                                    refine rg_put (d := 133) (v := .d (.fl (.bool true))) rfl (og rfl (op_call rfl Try.func7 nm7 rfl .nil alive7 rfl)) ?_
                                    refine rg_put (d := 8) (v := .d (.fl (.bool true))) rfl (og rfl (op_assign rfl rfl rfl)) ?_
                                    refine rg_done rfl ?_
                                    refine a_ret ?_
                                    show ∃ ds, ResL _ _ _ ds ∧ RV.of ds = _
                                    refine ⟨[.fl (.bool true)], (.cons (.tmp rfl (.d _)) .nil), ?_⟩
                                    rfl
                                  · skip
                                    have h82 := t_dec h80
                                    refine rg_put (d := 125) (v := .d (.fl (.int .i64 (ax p a.lane b)))) rfl (oy rfl rfl rfl h80 (op_move rfl rfl rfl)) ?_
                                    refine rg_put (d := 126) (v := .d (.fl (.bool ((decide ((ax p a.lane b) < 0)))))) rfl (oy rfl rfl rfl h80 (op_bin rfl rfl rfl (b_lss _ _ _ _) rfl)) ?_
                                    refine rg_put (d := 127) (v := .d (.fl (.bool ((decide ((ax p a.lane b) < 0)))))) rfl (oy rfl rfl rfl h80 (op_move rfl rfl rfl)) ?_
                                    rcases fot ((decide ((ax p a.lane b) < 0))) with h83 | h83
                                    · skip
                                      have h84 := f_dec h83
                                      refine rg_put (d := 128) (v := .d (.fl (.int .i64 ((ax p a.lane ((Sn.mk b.d (b.time - by9) b.point b.lane b.kind))))))) rfl (oy rfl rfl rfl h83 (op_move rfl rfl rfl)) ?_
                                      refine rg_put (d := 129) (v := .d (.fl (.int .i64 (ax p a.lane b)))) rfl (oy rfl rfl rfl h83 (op_move rfl rfl rfl)) ?_
                                      refine rg_put (d := 130) (v := .d (.fl (.bool ((decide ((ax p a.lane ((Sn.mk b.d (b.time - by9) b.point b.lane b.kind))) < (ax p a.lane b))))))) rfl (oy rfl rfl rfl h83 (op_bin rfl rfl rfl (b_lss _ _ _ _) rfl)) ?_
                                      refine rg_put (d := 131) (v := .d (.fl (.bool ((decide ((ax p a.lane ((Sn.mk b.d (b.time - by9) b.point b.lane b.kind))) < (ax p a.lane b))))))) rfl (oy rfl rfl rfl h80 (op_pick rfl rfl (by rw [h83]; rfl) rfl)) ?_
                                      refine rg_put (d := 132) (v := .d (.fl (.bool ((decide ((ax p a.lane ((Sn.mk b.d (b.time - by9) b.point b.lane b.kind))) < (ax p a.lane b))))))) rfl (og rfl (op_pick rfl rfl (by rw [h80]; rfl) rfl)) ?_
                                      refine rg_done rfl ?_
                                      refine a_cond rfl (fun h85 => ?_) (fun h85 => ?_)
                                      · skip
                                        have h86 := t_dec h85
                                        refine a_rseq ?_
                                        refine rg_put (d := 8) (v := .d (.fl (.bool false))) rfl (og rfl (op_assign rfl rfl rfl)) ?_
                                        refine rg_done rfl ?_
                                        refine a_ret ?_
                                        show ∃ ds, ResL _ _ _ ds ∧ RV.of ds = _
                                        refine ⟨[.fl (.bool false)], (.cons (.tmp rfl (.d _)) .nil), ?_⟩
                                        exfalso; omega
                                      · skip
                                        have h87 := f_dec h85
                                        refine a_skip ?_
                                        show A _ _ _ _ _ _ _
                                        refine a_rseq ?_
                                        refine rg_put (d := 133) (v := .d (.fl (.bool true))) rfl (og rfl (op_call rfl Try.func7 nm7 rfl .nil alive7 rfl)) ?_
                                        refine rg_put (d := 8) (v := .d (.fl (.bool true))) rfl (og rfl (op_assign rfl rfl rfl)) ?_
                                        refine rg_done rfl ?_
                                        refine a_ret ?_
                                        show ∃ ds, ResL _ _ _ ds ∧ RV.of ds = _
                                        refine ⟨[.fl (.bool true)], (.cons (.tmp rfl (.d _)) .nil), ?_⟩
                                        rfl
                                    · skip
                                      have h88 := t_dec h83
                                      refine rg_put (d := 128) (v := .d (.fl undef)) rfl (on rfl rfl rfl h83) ?_
                                      refine rg_put (d := 129) (v := .d (.fl undef)) rfl (on rfl rfl rfl h83) ?_
                                      refine rg_put (d := 130) (v := .d (.fl undef)) rfl (on rfl rfl rfl h83) ?_
                                      refine rg_put (d := 131) (v := .d (.fl (.bool true))) rfl (oy rfl rfl rfl h80 (op_pick rfl rfl (by rw [h83]; rfl) rfl)) ?_
                                      refine rg_put (d := 132) (v := .d (.fl (.bool true))) rfl (og rfl (op_pick rfl rfl (by rw [h80]; rfl) rfl)) ?_
                                      refine rg_done rfl ?_
                                      refine a_condK rfl rfl ?_
                                      refine a_rseq ?_
                                      refine rg_put (d := 8) (v := .d (.fl (.bool false))) rfl (og rfl (op_assign rfl rfl rfl)) ?_
                                      refine rg_done rfl ?_
                                      refine a_ret ?_
                                      show ∃ ds, ResL _ _ _ ds ∧ RV.of ds = _
                                      refine ⟨[.fl (.bool false)], (.cons (.tmp rfl (.d _)) .nil), ?_⟩
                                      exfalso; omega
                          · skip
                            have h89 := t_dec h62
                            refine rg_put (d := 91) (v := .d (.fl undef)) rfl (on rfl rfl rfl h62) ?_
                            refine rg_put (d := 92) (v := .d (.fl undef)) rfl (on rfl rfl rfl h62) ?_
                            refine rg_put (d := 93) (v := .d (.fl undef)) rfl (on rfl rfl rfl h62) ?_
                            refine rg_put (d := 94) (v := .d (.fl (.bool true))) rfl (oy rfl rfl rfl h37 (op_pick rfl rfl (by rw [h62]; rfl) rfl)) ?_
                            refine rg_put (d := 95) (v := .d (.fl (.bool true))) rfl (og rfl (op_pick rfl rfl (by rw [h37]; rfl) rfl)) ?_
                            refine rg_done rfl ?_
                            refine a_condK rfl rfl ?_
                            refine a_rseq ?_
                            refine rg_put (d := 8) (v := .d (.fl (.bool false))) rfl (og rfl (op_assign rfl rfl rfl)) ?_
                            refine rg_done rfl ?_
                            refine a_ret ?_
                            show ∃ ds, ResL _ _ _ ds ∧ RV.of ds = _
                            refine ⟨[.fl (.bool false)], (.cons (.tmp rfl (.d _)) .nil), ?_⟩
                            exfalso; omega
                    · skip
                      have h90 := f_dec h21
                      refine a_region ?_
                      refine rg_put (d := 72) (v := .pt 102 7) rfl (og rfl (of_eff (s_field_pt rfl Try.underlying25 rfl ti3 rfl rfl rfl) rfl)) ?_
                      refine rg_put (d := 73) (v := .d (.fl (.int .i64 b.time))) rfl (og rfl (op_load_pt rfl Try.underlying3 rfl rfl rfl rfl rfl)) ?_
                      refine rg_put (d := 74) (v := .d (.fl (.int .i64 by9))) rfl (og rfl (op_move rfl rfl rfl)) ?_
                      refine rg_put (d := 75) (v := .d (.fl (.int .i64 (b.time - by9)))) rfl (og rfl (op_bin rfl rfl rfl (fun x y w => b_sub64 _ _ _ x y w (by omega)) rfl)) ?_
                      refine rg_put (d := 76) (v := .pt 104 7) rfl (og rfl (of_eff (s_field_pt rfl Try.underlying25 rfl ti3 rfl rfl rfl) rfl)) ?_
                      refine rg_sto (nw := [(104, .bx 25 [.fl (.string b.d.dev), .fl (.int .i64 b.d.seq), .fl (.int .i64 b.d.time), .fl (.string b.d.tag), .fl (.string b.d.plate), .fl (.int .i64 b.d.axles), .fl (.int .i64 b.d.score), .fl (.int .i64 (b.time - by9)), .fl (.string b.point), .fl (.int .i64 b.lane), .fl (.int .i64 b.kind)])]) rfl (og rfl (of_eff (s_store rfl rfl ti3 rfl rfl rfl rfl rfl rfl) rfl)) ?_
                      refine rg_done rfl ?_
                      show A _ _ _ _ _ _ _
                      refine a_rseq ?_
                      refine rg_put (d := 77) (v := .d (.ag (eSn a))) rfl (og rfl (of_eff (s_load_pts rfl Try.underlying25 rfl ti25 rfl rfl rfl rfl) rfl)) ?_
                      refine rg_put (d := 78) (v := .d (.ag (eSn ((Sn.mk b.d (b.time - by9) b.point b.lane b.kind))))) rfl (og rfl (of_eff (s_load_pts rfl Try.underlying25 rfl ti25 rfl rfl rfl rfl) rfl)) ?_
                      refine rg_put (d := 79) (v := .d (.fl (.int .i64 ((pr a ((Sn.mk b.d (b.time - by9) b.point b.lane b.kind))))))) rfl (og rfl (op_call rfl Try.func8 nm8 rfl (.cons rfl (.d _) (.cons rfl (.d _) .nil)) (pr8 a ((Sn.mk b.d (b.time - by9) b.point b.lane b.kind)) (by first | omega | (dsimp only; omega)) (by first | omega | (dsimp only; omega))) rfl)) ?_
                      refine rg_put (d := 12) (v := .d (.fl (.int .i64 ((pr a ((Sn.mk b.d (b.time - by9) b.point b.lane b.kind))))))) rfl (og rfl (op_assign rfl rfl rfl)) ?_
                      refine rg_done rfl ?_
                      refine a_seq ?_
                      refine a_rseq ?_
                      have hx1 := pr_lessT a b (b.time - by9) (by rw [dst_eq, dst_eq]; omega)
                      refine rg_put (d := 80) (v := .pt 104 7) rfl (og rfl (of_eff (s_field_pt rfl Try.underlying25 rfl ti3 rfl rfl rfl) rfl)) ?_
                      refine rg_put (d := 81) (v := .d (.fl (.int .i64 (b.time - by9)))) rfl (og rfl (op_load_pt rfl Try.underlying3 rfl rfl rfl rfl rfl)) ?_
                      refine rg_put (d := 82) (v := .d (.fl (.bool ((isT (b.time - by9)))))) rfl (og rfl (op_call rfl Try.func6 nm6 rfl (.cons rfl (.d _) .nil) (isT6 (b.time - by9)) rfl)) ?_
                      refine rg_put (d := 83) (v := .d (.fl (.bool ((isT (b.time - by9)))))) rfl (og rfl (op_move rfl rfl rfl)) ?_
                      rcases fot ((isT (b.time - by9))) with h91 | h91
                      · skip
                        refine rg_put (d := 84) (v := .d (.fl undef)) rfl (on rfl rfl rfl h91) ?_
                        refine rg_put (d := 85) (v := .d (.fl undef)) rfl (on rfl rfl rfl h91) ?_
                        refine rg_put (d := 86) (v := .d (.fl (.bool false))) rfl (og rfl (op_pick rfl rfl (by rw [h91]; rfl) rfl)) ?_
                        refine rg_put (d := 87) (v := .d (.fl (.bool false))) rfl (og rfl (op_move rfl rfl rfl)) ?_
                        refine rg_put (d := 88) (v := .d (.fl undef)) rfl (on rfl rfl rfl rfl) ?_
                        refine rg_put (d := 89) (v := .d (.fl undef)) rfl (on rfl rfl rfl rfl) ?_
                        refine rg_put (d := 90) (v := .d (.fl undef)) rfl (on rfl rfl rfl rfl) ?_
                        refine rg_put (d := 91) (v := .d (.fl undef)) rfl (ou rfl rfl rfl) ?_
                        refine rg_put (d := 92) (v := .d (.fl undef)) rfl (ou rfl rfl rfl) ?_
                        refine rg_put (d := 93) (v := .d (.fl undef)) rfl (ou rfl rfl rfl) ?_
                        refine rg_put (d := 94) (v := .d (.fl undef)) rfl (on rfl rfl rfl rfl) ?_
                        refine rg_put (d := 95) (v := .d (.fl (.bool false))) rfl (og rfl (op_pick rfl rfl rfl rfl)) ?_
                        refine rg_done rfl ?_
                        refine a_condF rfl rfl ?_
                        refine a_skip ?_
                        show A _ _ _ _ _ _ _
                        refine a_rseq ?_
                        refine rg_put (d := 96) (v := .d (.ag (eSn b))) rfl (og rfl (of_eff (s_load_pts rfl Try.underlying25 rfl ti25 rfl rfl rfl rfl) rfl)) ?_
                        refine rg_nam (d := 13) (v := .pt 108 0) (m := 108) (nw := [(108, .bx 25 ([.fl (.string (⟨#[]⟩)), .fl (.int .i64 0), .fl (.int .i64 0), .fl (.string (⟨#[]⟩)), .fl (.string (⟨#[]⟩)), .fl (.int .i64 0), .fl (.int .i64 0), .fl (.int .i64 0), .fl (.string (⟨#[]⟩)), .fl (.int .i64 0), .fl (.int .i64 0)]))]) rfl (og rfl (of_eff (s_alloc 108 rfl ti25 (by kernel_rfl) rfl) rfl)) rfl ?_
                        refine rg_sto (nw := [(108, .bx 25 (eSn b))]) rfl (og rfl (of_eff (s_store rfl rfl ti25 rfl rfl rfl rfl rfl rfl) rfl)) ?_
                        refine rg_done rfl ?_
                        refine a_seq ?_
                        refine a_rseq ?_
                        refine rg_put (d := 97) (v := .pt 102 7) rfl (og rfl (of_eff (s_field_pt rfl Try.underlying25 rfl ti3 rfl rfl rfl) rfl)) ?_
                        refine rg_put (d := 98) (v := .d (.fl (.int .i64 b.time))) rfl (og rfl (op_load_pt rfl Try.underlying3 rfl rfl rfl rfl rfl)) ?_
                        refine rg_put (d := 99) (v := .pt 103 2) rfl (og rfl (of_eff (s_field_pt rfl Try.underlying28 rfl ti3 rfl rfl rfl) rfl)) ?_
                        refine rg_put (d := 100) (v := .d (.fl (.int .i64 p.time))) rfl (og rfl (op_load_pt rfl Try.underlying3 rfl rfl rfl rfl rfl)) ?_
                        refine rg_put (d := 101) (v := .d (.fl (.bool ((decide (p.time ≤ b.time)))))) rfl (og rfl (op_bin rfl rfl rfl (b_geq _ _ _ _) rfl)) ?_
                        refine rg_done rfl ?_
                        refine a_cond rfl (fun h92 => ?_) (fun h92 => ?_)
                        · skip
                          have h93 := t_dec h92
                          refine a_region ?_
                          refine rg_put (d := 102) (v := .pt 102 7) rfl (og rfl (of_eff (s_field_pt rfl Try.underlying25 rfl ti3 rfl rfl rfl) rfl)) ?_
                          refine rg_put (d := 103) (v := .d (.fl (.int .i64 b.time))) rfl (og rfl (op_load_pt rfl Try.underlying3 rfl rfl rfl rfl rfl)) ?_
                          refine rg_put (d := 104) (v := .d (.fl (.int .i64 by9))) rfl (og rfl (op_move rfl rfl rfl)) ?_
                          refine rg_put (d := 105) (v := .d (.fl (.int .i64 (b.time + by9)))) rfl (og rfl (op_bin rfl rfl rfl (fun x y w => b_add64 _ _ _ x y w (by omega)) rfl)) ?_
                          refine rg_put (d := 106) (v := .pt 108 7) rfl (og rfl (of_eff (s_field_pt rfl Try.underlying25 rfl ti3 rfl rfl rfl) rfl)) ?_
                          refine rg_sto (nw := [(108, .bx 25 [.fl (.string b.d.dev), .fl (.int .i64 b.d.seq), .fl (.int .i64 b.d.time), .fl (.string b.d.tag), .fl (.string b.d.plate), .fl (.int .i64 b.d.axles), .fl (.int .i64 b.d.score), .fl (.int .i64 (b.time + by9)), .fl (.string b.point), .fl (.int .i64 b.lane), .fl (.int .i64 b.kind)])]) rfl (og rfl (of_eff (s_store rfl rfl ti3 rfl rfl rfl rfl rfl rfl) rfl)) ?_
                          refine rg_done rfl ?_
                          show A _ _ _ _ _ _ _
                          refine a_rseq ?_
                          refine rg_put (d := 112) (v := .d (.ag (ePg p))) rfl (og rfl (of_eff (s_load_pts rfl Try.underlying28 rfl ti28 rfl rfl rfl rfl) rfl)) ?_
                          refine rg_put (d := 113) (v := .pt 101 9) rfl (og rfl (of_eff (s_field_pt rfl Try.underlying25 rfl ti3 rfl rfl rfl) rfl)) ?_
                          refine rg_put (d := 114) (v := .d (.fl (.int .i64 a.lane))) rfl (og rfl (op_load_pt rfl Try.underlying3 rfl rfl rfl rfl rfl)) ?_
                          refine rg_put (d := 115) (v := .d (.ag (eSn ((Sn.mk b.d (b.time + by9) b.point b.lane b.kind))))) rfl (og rfl (of_eff (s_load_pts rfl Try.underlying25 rfl ti25 rfl rfl rfl rfl) rfl)) ?_
                          refine rg_put (d := 116) (v := .d (.fl (.int .i64 ((ax p a.lane ((Sn.mk b.d (b.time + by9) b.point b.lane b.kind))))))) rfl (og rfl (op_call rfl Try.func10 nm10 rfl (.cons rfl (.d _) (.cons rfl (.d _) (.cons rfl (.d _) .nil))) (ax10 p a.lane ((Sn.mk b.d (b.time + by9) b.point b.lane b.kind)) (by first | omega | (dsimp only; omega)) (by first | omega | (dsimp only; omega))) rfl)) ?_
                          refine rg_put (d := 12) (v := .d (.fl (.int .i64 ((ax p a.lane ((Sn.mk b.d (b.time + by9) b.point b.lane b.kind))))))) rfl (og rfl (op_assign rfl rfl rfl)) ?_
                          refine rg_done rfl ?_
                          refine a_seq ?_
                          refine a_rseq ?_
                          have hx2 := ax_lessT p a.lane b (b.time + by9) (by rw [dst_eq, dst_eq]; omega)
                          refine rg_put (d := 117) (v := .pt 108 7) rfl (og rfl (of_eff (s_field_pt rfl Try.underlying25 rfl ti3 rfl rfl rfl) rfl)) ?_
                          refine rg_put (d := 118) (v := .d (.fl (.int .i64 (b.time + by9)))) rfl (og rfl (op_load_pt rfl Try.underlying3 rfl rfl rfl rfl rfl)) ?_
                          refine rg_put (d := 119) (v := .d (.fl (.bool ((isT (b.time + by9)))))) rfl (og rfl (op_call rfl Try.func6 nm6 rfl (.cons rfl (.d _) .nil) (isT6 (b.time + by9)) rfl)) ?_
                          refine rg_put (d := 120) (v := .d (.fl (.bool ((isT (b.time + by9)))))) rfl (og rfl (op_move rfl rfl rfl)) ?_
                          rcases fot ((isT (b.time + by9))) with h94 | h94
                          · skip
                            refine rg_put (d := 121) (v := .d (.fl undef)) rfl (on rfl rfl rfl h94) ?_
                            refine rg_put (d := 122) (v := .d (.fl undef)) rfl (on rfl rfl rfl h94) ?_
                            refine rg_put (d := 123) (v := .d (.fl (.bool false))) rfl (og rfl (op_pick rfl rfl (by rw [h94]; rfl) rfl)) ?_
                            refine rg_put (d := 124) (v := .d (.fl (.bool false))) rfl (og rfl (op_move rfl rfl rfl)) ?_
                            refine rg_put (d := 125) (v := .d (.fl undef)) rfl (on rfl rfl rfl rfl) ?_
                            refine rg_put (d := 126) (v := .d (.fl undef)) rfl (on rfl rfl rfl rfl) ?_
                            refine rg_put (d := 127) (v := .d (.fl undef)) rfl (on rfl rfl rfl rfl) ?_
                            refine rg_put (d := 128) (v := .d (.fl undef)) rfl (ou rfl rfl rfl) ?_
                            refine rg_put (d := 129) (v := .d (.fl undef)) rfl (ou rfl rfl rfl) ?_
                            refine rg_put (d := 130) (v := .d (.fl undef)) rfl (ou rfl rfl rfl) ?_
                            refine rg_put (d := 131) (v := .d (.fl undef)) rfl (on rfl rfl rfl rfl) ?_
                            refine rg_put (d := 132) (v := .d (.fl (.bool false))) rfl (og rfl (op_pick rfl rfl rfl rfl)) ?_
                            refine rg_done rfl ?_
                            refine a_condF rfl rfl ?_
                            refine a_skip ?_
                            show A _ _ _ _ _ _ _
                            refine a_rseq ?_
                            refine rg_put (d := 133) (v := .d (.fl (.bool true))) rfl (og rfl (op_call rfl Try.func7 nm7 rfl .nil alive7 rfl)) ?_
                            refine rg_put (d := 8) (v := .d (.fl (.bool true))) rfl (og rfl (op_assign rfl rfl rfl)) ?_
                            refine rg_done rfl ?_
                            refine a_ret ?_
                            show ∃ ds, ResL _ _ _ ds ∧ RV.of ds = _
                            refine ⟨[.fl (.bool true)], (.cons (.tmp rfl (.d _)) .nil), ?_⟩
                            rfl
                          · skip
                            refine rg_put (d := 121) (v := .d (.fl (.int .i64 ((ax p a.lane ((Sn.mk b.d (b.time + by9) b.point b.lane b.kind))))))) rfl (oy rfl rfl rfl h94 (op_move rfl rfl rfl)) ?_
                            refine rg_put (d := 122) (v := .d (.fl (.bool ((decide (0 ≤ (ax p a.lane ((Sn.mk b.d (b.time + by9) b.point b.lane b.kind))))))))) rfl (oy rfl rfl rfl h94 (op_bin rfl rfl rfl (b_geq _ _ _ _) rfl)) ?_
                            refine rg_put (d := 123) (v := .d (.fl (.bool ((decide (0 ≤ (ax p a.lane ((Sn.mk b.d (b.time + by9) b.point b.lane b.kind))))))))) rfl (og rfl (op_pick rfl rfl (by rw [h94]; rfl) rfl)) ?_
                            refine rg_put (d := 124) (v := .d (.fl (.bool ((decide (0 ≤ (ax p a.lane ((Sn.mk b.d (b.time + by9) b.point b.lane b.kind))))))))) rfl (og rfl (op_move rfl rfl rfl)) ?_
                            rcases fot ((decide (0 ≤ (ax p a.lane ((Sn.mk b.d (b.time + by9) b.point b.lane b.kind)))))) with h95 | h95
                            · skip
                              have h96 := f_dec h95
                              refine rg_put (d := 125) (v := .d (.fl undef)) rfl (on rfl rfl rfl h95) ?_
                              refine rg_put (d := 126) (v := .d (.fl undef)) rfl (on rfl rfl rfl h95) ?_
                              refine rg_put (d := 127) (v := .d (.fl undef)) rfl (on rfl rfl rfl h95) ?_
                              refine rg_put (d := 128) (v := .d (.fl undef)) rfl (ou rfl rfl rfl) ?_
                              refine rg_put (d := 129) (v := .d (.fl undef)) rfl (ou rfl rfl rfl) ?_
                              refine rg_put (d := 130) (v := .d (.fl undef)) rfl (ou rfl rfl rfl) ?_
                              refine rg_put (d := 131) (v := .d (.fl undef)) rfl (on rfl rfl rfl h95) ?_
                              refine rg_put (d := 132) (v := .d (.fl (.bool false))) rfl (og rfl (op_pick rfl rfl (by rw [h95]; rfl) rfl)) ?_
                              refine rg_done rfl ?_
                              refine a_condF rfl rfl ?_
                              refine a_skip ?_
                              show A _ _ _ _ _ _ _
                              refine a_rseq ?_
                              refine rg_put (d := 133) (v := .d (.fl (.bool true))) rfl (og rfl (op_call rfl Try.func7 nm7 rfl .nil alive7 rfl)) ?_
                              refine rg_put (d := 8) (v := .d (.fl (.bool true))) rfl (og rfl (op_assign rfl rfl rfl)) ?_
                              refine rg_done rfl ?_
                              refine a_ret ?_
                              show ∃ ds, ResL _ _ _ ds ∧ RV.of ds = _
                              refine ⟨[.fl (.bool true)], (.cons (.tmp rfl (.d _)) .nil), ?_⟩
                              rfl
                            · skip
                              have h97 := t_dec h95
                              refine rg_put (d := 125) (v := .d (.fl (.int .i64 (ax p a.lane b)))) rfl (oy rfl rfl rfl h95 (op_move rfl rfl rfl)) ?_
                              refine rg_put (d := 126) (v := .d (.fl (.bool ((decide ((ax p a.lane b) < 0)))))) rfl (oy rfl rfl rfl h95 (op_bin rfl rfl rfl (b_lss _ _ _ _) rfl)) ?_
                              refine rg_put (d := 127) (v := .d (.fl (.bool ((decide ((ax p a.lane b) < 0)))))) rfl (oy rfl rfl rfl h95 (op_move rfl rfl rfl)) ?_
                              rcases fot ((decide ((ax p a.lane b) < 0))) with h98 | h98
                              · skip
                                have h99 := f_dec h98
                                refine rg_put (d := 128) (v := .d (.fl (.int .i64 ((ax p a.lane ((Sn.mk b.d (b.time + by9) b.point b.lane b.kind))))))) rfl (oy rfl rfl rfl h98 (op_move rfl rfl rfl)) ?_
                                refine rg_put (d := 129) (v := .d (.fl (.int .i64 (ax p a.lane b)))) rfl (oy rfl rfl rfl h98 (op_move rfl rfl rfl)) ?_
                                refine rg_put (d := 130) (v := .d (.fl (.bool ((decide ((ax p a.lane ((Sn.mk b.d (b.time + by9) b.point b.lane b.kind))) < (ax p a.lane b))))))) rfl (oy rfl rfl rfl h98 (op_bin rfl rfl rfl (b_lss _ _ _ _) rfl)) ?_
                                refine rg_put (d := 131) (v := .d (.fl (.bool ((decide ((ax p a.lane ((Sn.mk b.d (b.time + by9) b.point b.lane b.kind))) < (ax p a.lane b))))))) rfl (oy rfl rfl rfl h95 (op_pick rfl rfl (by rw [h98]; rfl) rfl)) ?_
                                refine rg_put (d := 132) (v := .d (.fl (.bool ((decide ((ax p a.lane ((Sn.mk b.d (b.time + by9) b.point b.lane b.kind))) < (ax p a.lane b))))))) rfl (og rfl (op_pick rfl rfl (by rw [h95]; rfl) rfl)) ?_
                                refine rg_done rfl ?_
                                refine a_cond rfl (fun h100 => ?_) (fun h100 => ?_)
                                · skip
                                  have h101 := t_dec h100
                                  refine a_rseq ?_
                                  refine rg_put (d := 8) (v := .d (.fl (.bool false))) rfl (og rfl (op_assign rfl rfl rfl)) ?_
                                  refine rg_done rfl ?_
                                  refine a_ret ?_
                                  show ∃ ds, ResL _ _ _ ds ∧ RV.of ds = _
                                  refine ⟨[.fl (.bool false)], (.cons (.tmp rfl (.d _)) .nil), ?_⟩
                                  exfalso; omega
                                · skip
                                  have h102 := f_dec h100
                                  refine a_skip ?_
                                  show A _ _ _ _ _ _ _
                                  refine a_rseq ?_
                                  refine rg_put (d := 133) (v := .d (.fl (.bool true))) rfl (og rfl (op_call rfl Try.func7 nm7 rfl .nil alive7 rfl)) ?_
                                  refine rg_put (d := 8) (v := .d (.fl (.bool true))) rfl (og rfl (op_assign rfl rfl rfl)) ?_
                                  refine rg_done rfl ?_
                                  refine a_ret ?_
                                  show ∃ ds, ResL _ _ _ ds ∧ RV.of ds = _
                                  refine ⟨[.fl (.bool true)], (.cons (.tmp rfl (.d _)) .nil), ?_⟩
                                  rfl
                              · skip
                                have h103 := t_dec h98
                                refine rg_put (d := 128) (v := .d (.fl undef)) rfl (on rfl rfl rfl h98) ?_
                                refine rg_put (d := 129) (v := .d (.fl undef)) rfl (on rfl rfl rfl h98) ?_
                                refine rg_put (d := 130) (v := .d (.fl undef)) rfl (on rfl rfl rfl h98) ?_
                                refine rg_put (d := 131) (v := .d (.fl (.bool true))) rfl (oy rfl rfl rfl h95 (op_pick rfl rfl (by rw [h98]; rfl) rfl)) ?_
                                refine rg_put (d := 132) (v := .d (.fl (.bool true))) rfl (og rfl (op_pick rfl rfl (by rw [h95]; rfl) rfl)) ?_
                                refine rg_done rfl ?_
                                refine a_condK rfl rfl ?_
                                refine a_rseq ?_
                                refine rg_put (d := 8) (v := .d (.fl (.bool false))) rfl (og rfl (op_assign rfl rfl rfl)) ?_
                                refine rg_done rfl ?_
                                refine a_ret ?_
                                show ∃ ds, ResL _ _ _ ds ∧ RV.of ds = _
                                refine ⟨[.fl (.bool false)], (.cons (.tmp rfl (.d _)) .nil), ?_⟩
                                exfalso; omega
                        · skip
                          have h104 := f_dec h92
                          refine a_region ?_
                          refine rg_put (d := 107) (v := .pt 102 7) rfl (og rfl (of_eff (s_field_pt rfl Try.underlying25 rfl ti3 rfl rfl rfl) rfl)) ?_
                          refine rg_put (d := 108) (v := .d (.fl (.int .i64 b.time))) rfl (og rfl (op_load_pt rfl Try.underlying3 rfl rfl rfl rfl rfl)) ?_
                          refine rg_put (d := 109) (v := .d (.fl (.int .i64 by9))) rfl (og rfl (op_move rfl rfl rfl)) ?_
                          refine rg_put (d := 110) (v := .d (.fl (.int .i64 (b.time - by9)))) rfl (og rfl (op_bin rfl rfl rfl (fun x y w => b_sub64 _ _ _ x y w (by omega)) rfl)) ?_
                          refine rg_put (d := 111) (v := .pt 108 7) rfl (og rfl (of_eff (s_field_pt rfl Try.underlying25 rfl ti3 rfl rfl rfl) rfl)) ?_
                          refine rg_sto (nw := [(108, .bx 25 [.fl (.string b.d.dev), .fl (.int .i64 b.d.seq), .fl (.int .i64 b.d.time), .fl (.string b.d.tag), .fl (.string b.d.plate), .fl (.int .i64 b.d.axles), .fl (.int .i64 b.d.score), .fl (.int .i64 (b.time - by9)), .fl (.string b.point), .fl (.int .i64 b.lane), .fl (.int .i64 b.kind)])]) rfl (og rfl (of_eff (s_store rfl rfl ti3 rfl rfl rfl rfl rfl rfl) rfl)) ?_
                          refine rg_done rfl ?_
                          show A _ _ _ _ _ _ _
                          refine a_rseq ?_
                          refine rg_put (d := 112) (v := .d (.ag (ePg p))) rfl (og rfl (of_eff (s_load_pts rfl Try.underlying28 rfl ti28 rfl rfl rfl rfl) rfl)) ?_
                          refine rg_put (d := 113) (v := .pt 101 9) rfl (og rfl (of_eff (s_field_pt rfl Try.underlying25 rfl ti3 rfl rfl rfl) rfl)) ?_
                          refine rg_put (d := 114) (v := .d (.fl (.int .i64 a.lane))) rfl (og rfl (op_load_pt rfl Try.underlying3 rfl rfl rfl rfl rfl)) ?_
                          refine rg_put (d := 115) (v := .d (.ag (eSn ((Sn.mk b.d (b.time - by9) b.point b.lane b.kind))))) rfl (og rfl (of_eff (s_load_pts rfl Try.underlying25 rfl ti25 rfl rfl rfl rfl) rfl)) ?_
                          refine rg_put (d := 116) (v := .d (.fl (.int .i64 ((ax p a.lane ((Sn.mk b.d (b.time - by9) b.point b.lane b.kind))))))) rfl (og rfl (op_call rfl Try.func10 nm10 rfl (.cons rfl (.d _) (.cons rfl (.d _) (.cons rfl (.d _) .nil))) (ax10 p a.lane ((Sn.mk b.d (b.time - by9) b.point b.lane b.kind)) (by first | omega | (dsimp only; omega)) (by first | omega | (dsimp only; omega))) rfl)) ?_
                          refine rg_put (d := 12) (v := .d (.fl (.int .i64 ((ax p a.lane ((Sn.mk b.d (b.time - by9) b.point b.lane b.kind))))))) rfl (og rfl (op_assign rfl rfl rfl)) ?_
                          refine rg_done rfl ?_
                          refine a_seq ?_
                          refine a_rseq ?_
                          have hx2 := ax_lessT p a.lane b (b.time - by9) (by rw [dst_eq, dst_eq]; omega)
                          refine rg_put (d := 117) (v := .pt 108 7) rfl (og rfl (of_eff (s_field_pt rfl Try.underlying25 rfl ti3 rfl rfl rfl) rfl)) ?_
                          refine rg_put (d := 118) (v := .d (.fl (.int .i64 (b.time - by9)))) rfl (og rfl (op_load_pt rfl Try.underlying3 rfl rfl rfl rfl rfl)) ?_
                          refine rg_put (d := 119) (v := .d (.fl (.bool ((isT (b.time - by9)))))) rfl (og rfl (op_call rfl Try.func6 nm6 rfl (.cons rfl (.d _) .nil) (isT6 (b.time - by9)) rfl)) ?_
                          refine rg_put (d := 120) (v := .d (.fl (.bool ((isT (b.time - by9)))))) rfl (og rfl (op_move rfl rfl rfl)) ?_
                          refine rg_put (d := 121) (v := .d (.fl undef)) rfl (on rfl rfl rfl h91) ?_
                          refine rg_put (d := 122) (v := .d (.fl undef)) rfl (on rfl rfl rfl h91) ?_
                          refine rg_put (d := 123) (v := .d (.fl (.bool false))) rfl (og rfl (op_pick rfl rfl (by rw [h91]; rfl) rfl)) ?_
                          refine rg_put (d := 124) (v := .d (.fl (.bool false))) rfl (og rfl (op_move rfl rfl rfl)) ?_
                          refine rg_put (d := 125) (v := .d (.fl undef)) rfl (on rfl rfl rfl rfl) ?_
                          refine rg_put (d := 126) (v := .d (.fl undef)) rfl (on rfl rfl rfl rfl) ?_
                          refine rg_put (d := 127) (v := .d (.fl undef)) rfl (on rfl rfl rfl rfl) ?_
                          refine rg_put (d := 128) (v := .d (.fl undef)) rfl (ou rfl rfl rfl) ?_
                          refine rg_put (d := 129) (v := .d (.fl undef)) rfl (ou rfl rfl rfl) ?_
                          refine rg_put (d := 130) (v := .d (.fl undef)) rfl (ou rfl rfl rfl) ?_
                          refine rg_put (d := 131) (v := .d (.fl undef)) rfl (on rfl rfl rfl rfl) ?_
                          refine rg_put (d := 132) (v := .d (.fl (.bool false))) rfl (og rfl (op_pick rfl rfl rfl rfl)) ?_
                          refine rg_done rfl ?_
                          refine a_condF rfl rfl ?_
                          refine a_skip ?_
                          show A _ _ _ _ _ _ _
                          refine a_rseq ?_
                          refine rg_put (d := 133) (v := .d (.fl (.bool true))) rfl (og rfl (op_call rfl Try.func7 nm7 rfl .nil alive7 rfl)) ?_
                          refine rg_put (d := 8) (v := .d (.fl (.bool true))) rfl (og rfl (op_assign rfl rfl rfl)) ?_
                          refine rg_done rfl ?_
                          refine a_ret ?_
                          show ∃ ds, ResL _ _ _ ds ∧ RV.of ds = _
                          refine ⟨[.fl (.bool true)], (.cons (.tmp rfl (.d _)) .nil), ?_⟩
                          rfl
                      · skip
                        refine rg_put (d := 84) (v := .d (.fl (.int .i64 ((pr a ((Sn.mk b.d (b.time - by9) b.point b.lane b.kind))))))) rfl (oy rfl rfl rfl h91 (op_move rfl rfl rfl)) ?_
                        refine rg_put (d := 85) (v := .d (.fl (.bool ((decide (0 ≤ (pr a ((Sn.mk b.d (b.time - by9) b.point b.lane b.kind))))))))) rfl (oy rfl rfl rfl h91 (op_bin rfl rfl rfl (b_geq _ _ _ _) rfl)) ?_
                        refine rg_put (d := 86) (v := .d (.fl (.bool ((decide (0 ≤ (pr a ((Sn.mk b.d (b.time - by9) b.point b.lane b.kind))))))))) rfl (og rfl (op_pick rfl rfl (by rw [h91]; rfl) rfl)) ?_
                        refine rg_put (d := 87) (v := .d (.fl (.bool ((decide (0 ≤ (pr a ((Sn.mk b.d (b.time - by9) b.point b.lane b.kind))))))))) rfl (og rfl (op_move rfl rfl rfl)) ?_
                        rcases fot ((decide (0 ≤ (pr a ((Sn.mk b.d (b.time - by9) b.point b.lane b.kind)))))) with h105 | h105
                        · skip
                          have h106 := f_dec h105
                          refine rg_put (d := 88) (v := .d (.fl undef)) rfl (on rfl rfl rfl h105) ?_
                          refine rg_put (d := 89) (v := .d (.fl undef)) rfl (on rfl rfl rfl h105) ?_
                          refine rg_put (d := 90) (v := .d (.fl undef)) rfl (on rfl rfl rfl h105) ?_
                          refine rg_put (d := 91) (v := .d (.fl undef)) rfl (ou rfl rfl rfl) ?_
                          refine rg_put (d := 92) (v := .d (.fl undef)) rfl (ou rfl rfl rfl) ?_
                          refine rg_put (d := 93) (v := .d (.fl undef)) rfl (ou rfl rfl rfl) ?_
                          refine rg_put (d := 94) (v := .d (.fl undef)) rfl (on rfl rfl rfl h105) ?_
                          refine rg_put (d := 95) (v := .d (.fl (.bool false))) rfl (og rfl (op_pick rfl rfl (by rw [h105]; rfl) rfl)) ?_
                          refine rg_done rfl ?_
                          refine a_condF rfl rfl ?_
                          refine a_skip ?_
                          show A _ _ _ _ _ _ _
                          refine a_rseq ?_
                          refine rg_put (d := 96) (v := .d (.ag (eSn b))) rfl (og rfl (of_eff (s_load_pts rfl Try.underlying25 rfl ti25 rfl rfl rfl rfl) rfl)) ?_
                          refine rg_nam (d := 13) (v := .pt 109 0) (m := 109) (nw := [(109, .bx 25 ([.fl (.string (⟨#[]⟩)), .fl (.int .i64 0), .fl (.int .i64 0), .fl (.string (⟨#[]⟩)), .fl (.string (⟨#[]⟩)), .fl (.int .i64 0), .fl (.int .i64 0), .fl (.int .i64 0), .fl (.string (⟨#[]⟩)), .fl (.int .i64 0), .fl (.int .i64 0)]))]) rfl (og rfl (of_eff (s_alloc 109 rfl ti25 (by kernel_rfl) rfl) rfl)) rfl ?_
                          refine rg_sto (nw := [(109, .bx 25 (eSn b))]) rfl (og rfl (of_eff (s_store rfl rfl ti25 rfl rfl rfl rfl rfl rfl) rfl)) ?_
                          refine rg_done rfl ?_
                          refine a_seq ?_
                          refine a_rseq ?_
                          refine rg_put (d := 97) (v := .pt 102 7) rfl (og rfl (of_eff (s_field_pt rfl Try.underlying25 rfl ti3 rfl rfl rfl) rfl)) ?_
                          refine rg_put (d := 98) (v := .d (.fl (.int .i64 b.time))) rfl (og rfl (op_load_pt rfl Try.underlying3 rfl rfl rfl rfl rfl)) ?_
                          refine rg_put (d := 99) (v := .pt 103 2) rfl (og rfl (of_eff (s_field_pt rfl Try.underlying28 rfl ti3 rfl rfl rfl) rfl)) ?_
                          refine rg_put (d := 100) (v := .d (.fl (.int .i64 p.time))) rfl (og rfl (op_load_pt rfl Try.underlying3 rfl rfl rfl rfl rfl)) ?_
                          refine rg_put (d := 101) (v := .d (.fl (.bool ((decide (p.time ≤ b.time)))))) rfl (og rfl (op_bin rfl rfl rfl (b_geq _ _ _ _) rfl)) ?_
                          refine rg_done rfl ?_
                          refine a_cond rfl (fun h107 => ?_) (fun h107 => ?_)
                          · skip
                            have h108 := t_dec h107
                            refine a_region ?_
                            refine rg_put (d := 102) (v := .pt 102 7) rfl (og rfl (of_eff (s_field_pt rfl Try.underlying25 rfl ti3 rfl rfl rfl) rfl)) ?_
                            refine rg_put (d := 103) (v := .d (.fl (.int .i64 b.time))) rfl (og rfl (op_load_pt rfl Try.underlying3 rfl rfl rfl rfl rfl)) ?_
                            refine rg_put (d := 104) (v := .d (.fl (.int .i64 by9))) rfl (og rfl (op_move rfl rfl rfl)) ?_
                            refine rg_put (d := 105) (v := .d (.fl (.int .i64 (b.time + by9)))) rfl (og rfl (op_bin rfl rfl rfl (fun x y w => b_add64 _ _ _ x y w (by omega)) rfl)) ?_
                            refine rg_put (d := 106) (v := .pt 109 7) rfl (og rfl (of_eff (s_field_pt rfl Try.underlying25 rfl ti3 rfl rfl rfl) rfl)) ?_
                            refine rg_sto (nw := [(109, .bx 25 [.fl (.string b.d.dev), .fl (.int .i64 b.d.seq), .fl (.int .i64 b.d.time), .fl (.string b.d.tag), .fl (.string b.d.plate), .fl (.int .i64 b.d.axles), .fl (.int .i64 b.d.score), .fl (.int .i64 (b.time + by9)), .fl (.string b.point), .fl (.int .i64 b.lane), .fl (.int .i64 b.kind)])]) rfl (og rfl (of_eff (s_store rfl rfl ti3 rfl rfl rfl rfl rfl rfl) rfl)) ?_
                            refine rg_done rfl ?_
                            show A _ _ _ _ _ _ _
                            refine a_rseq ?_
                            refine rg_put (d := 112) (v := .d (.ag (ePg p))) rfl (og rfl (of_eff (s_load_pts rfl Try.underlying28 rfl ti28 rfl rfl rfl rfl) rfl)) ?_
                            refine rg_put (d := 113) (v := .pt 101 9) rfl (og rfl (of_eff (s_field_pt rfl Try.underlying25 rfl ti3 rfl rfl rfl) rfl)) ?_
                            refine rg_put (d := 114) (v := .d (.fl (.int .i64 a.lane))) rfl (og rfl (op_load_pt rfl Try.underlying3 rfl rfl rfl rfl rfl)) ?_
                            refine rg_put (d := 115) (v := .d (.ag (eSn ((Sn.mk b.d (b.time + by9) b.point b.lane b.kind))))) rfl (og rfl (of_eff (s_load_pts rfl Try.underlying25 rfl ti25 rfl rfl rfl rfl) rfl)) ?_
                            refine rg_put (d := 116) (v := .d (.fl (.int .i64 ((ax p a.lane ((Sn.mk b.d (b.time + by9) b.point b.lane b.kind))))))) rfl (og rfl (op_call rfl Try.func10 nm10 rfl (.cons rfl (.d _) (.cons rfl (.d _) (.cons rfl (.d _) .nil))) (ax10 p a.lane ((Sn.mk b.d (b.time + by9) b.point b.lane b.kind)) (by first | omega | (dsimp only; omega)) (by first | omega | (dsimp only; omega))) rfl)) ?_
                            refine rg_put (d := 12) (v := .d (.fl (.int .i64 ((ax p a.lane ((Sn.mk b.d (b.time + by9) b.point b.lane b.kind))))))) rfl (og rfl (op_assign rfl rfl rfl)) ?_
                            refine rg_done rfl ?_
                            refine a_seq ?_
                            refine a_rseq ?_
                            have hx2 := ax_lessT p a.lane b (b.time + by9) (by rw [dst_eq, dst_eq]; omega)
                            refine rg_put (d := 117) (v := .pt 109 7) rfl (og rfl (of_eff (s_field_pt rfl Try.underlying25 rfl ti3 rfl rfl rfl) rfl)) ?_
                            refine rg_put (d := 118) (v := .d (.fl (.int .i64 (b.time + by9)))) rfl (og rfl (op_load_pt rfl Try.underlying3 rfl rfl rfl rfl rfl)) ?_
                            refine rg_put (d := 119) (v := .d (.fl (.bool ((isT (b.time + by9)))))) rfl (og rfl (op_call rfl Try.func6 nm6 rfl (.cons rfl (.d _) .nil) (isT6 (b.time + by9)) rfl)) ?_
                            refine rg_put (d := 120) (v := .d (.fl (.bool ((isT (b.time + by9)))))) rfl (og rfl (op_move rfl rfl rfl)) ?_
                            rcases fot ((isT (b.time + by9))) with h109 | h109
                            · skip
                              refine rg_put (d := 121) (v := .d (.fl undef)) rfl (on rfl rfl rfl h109) ?_
                              refine rg_put (d := 122) (v := .d (.fl undef)) rfl (on rfl rfl rfl h109) ?_
                              refine rg_put (d := 123) (v := .d (.fl (.bool false))) rfl (og rfl (op_pick rfl rfl (by rw [h109]; rfl) rfl)) ?_
                              refine rg_put (d := 124) (v := .d (.fl (.bool false))) rfl (og rfl (op_move rfl rfl rfl)) ?_
                              refine rg_put (d := 125) (v := .d (.fl undef)) rfl (on rfl rfl rfl rfl) ?_
                              refine rg_put (d := 126) (v := .d (.fl undef)) rfl (on rfl rfl rfl rfl) ?_
                              refine rg_put (d := 127) (v := .d (.fl undef)) rfl (on rfl rfl rfl rfl) ?_
                              refine rg_put (d := 128) (v := .d (.fl undef)) rfl (ou rfl rfl rfl) ?_
                              refine rg_put (d := 129) (v := .d (.fl undef)) rfl (ou rfl rfl rfl) ?_
                              refine rg_put (d := 130) (v := .d (.fl undef)) rfl (ou rfl rfl rfl) ?_
                              refine rg_put (d := 131) (v := .d (.fl undef)) rfl (on rfl rfl rfl rfl) ?_
                              refine rg_put (d := 132) (v := .d (.fl (.bool false))) rfl (og rfl (op_pick rfl rfl rfl rfl)) ?_
                              refine rg_done rfl ?_
                              refine a_condF rfl rfl ?_
                              refine a_skip ?_
                              show A _ _ _ _ _ _ _
                              refine a_rseq ?_
                              refine rg_put (d := 133) (v := .d (.fl (.bool true))) rfl (og rfl (op_call rfl Try.func7 nm7 rfl .nil alive7 rfl)) ?_
                              refine rg_put (d := 8) (v := .d (.fl (.bool true))) rfl (og rfl (op_assign rfl rfl rfl)) ?_
                              refine rg_done rfl ?_
                              refine a_ret ?_
                              show ∃ ds, ResL _ _ _ ds ∧ RV.of ds = _
                              refine ⟨[.fl (.bool true)], (.cons (.tmp rfl (.d _)) .nil), ?_⟩
                              rfl
                            · skip
                              refine rg_put (d := 121) (v := .d (.fl (.int .i64 ((ax p a.lane ((Sn.mk b.d (b.time + by9) b.point b.lane b.kind))))))) rfl (oy rfl rfl rfl h109 (op_move rfl rfl rfl)) ?_
                              refine rg_put (d := 122) (v := .d (.fl (.bool ((decide (0 ≤ (ax p a.lane ((Sn.mk b.d (b.time + by9) b.point b.lane b.kind))))))))) rfl (oy rfl rfl rfl h109 (op_bin rfl rfl rfl (b_geq _ _ _ _) rfl)) ?_
                              refine rg_put (d := 123) (v := .d (.fl (.bool ((decide (0 ≤ (ax p a.lane ((Sn.mk b.d (b.time + by9) b.point b.lane b.kind))))))))) rfl (og rfl (op_pick rfl rfl (by rw [h109]; rfl) rfl)) ?_
                              refine rg_put (d := 124) (v := .d (.fl (.bool ((decide (0 ≤ (ax p a.lane ((Sn.mk b.d (b.time + by9) b.point b.lane b.kind))))))))) rfl (og rfl (op_move rfl rfl rfl)) ?_
                              rcases fot ((decide (0 ≤ (ax p a.lane ((Sn.mk b.d (b.time + by9) b.point b.lane b.kind)))))) with h110 | h110
                              · skip
                                have h111 := f_dec h110
                                refine rg_put (d := 125) (v := .d (.fl undef)) rfl (on rfl rfl rfl h110) ?_
                                refine rg_put (d := 126) (v := .d (.fl undef)) rfl (on rfl rfl rfl h110) ?_
                                refine rg_put (d := 127) (v := .d (.fl undef)) rfl (on rfl rfl rfl h110) ?_
                                refine rg_put (d := 128) (v := .d (.fl undef)) rfl (ou rfl rfl rfl) ?_
                                refine rg_put (d := 129) (v := .d (.fl undef)) rfl (ou rfl rfl rfl) ?_
                                refine rg_put (d := 130) (v := .d (.fl undef)) rfl (ou rfl rfl rfl) ?_
                                refine rg_put (d := 131) (v := .d (.fl undef)) rfl (on rfl rfl rfl h110) ?_
                                refine rg_put (d := 132) (v := .d (.fl (.bool false))) rfl (og rfl (op_pick rfl rfl (by rw [h110]; rfl) rfl)) ?_
                                refine rg_done rfl ?_
                                refine a_condF rfl rfl ?_
                                refine a_skip ?_
                                show A _ _ _ _ _ _ _
                                refine a_rseq ?_
                                refine rg_put (d := 133) (v := .d (.fl (.bool true))) rfl (og rfl (op_call rfl Try.func7 nm7 rfl .nil alive7 rfl)) ?_
                                refine rg_put (d := 8) (v := .d (.fl (.bool true))) rfl (og rfl (op_assign rfl rfl rfl)) ?_
                                refine rg_done rfl ?_
                                refine a_ret ?_
                                show ∃ ds, ResL _ _ _ ds ∧ RV.of ds = _
                                refine ⟨[.fl (.bool true)], (.cons (.tmp rfl (.d _)) .nil), ?_⟩
                                rfl
                              · skip
                                have h112 := t_dec h110
                                refine rg_put (d := 125) (v := .d (.fl (.int .i64 (ax p a.lane b)))) rfl (oy rfl rfl rfl h110 (op_move rfl rfl rfl)) ?_
                                refine rg_put (d := 126) (v := .d (.fl (.bool ((decide ((ax p a.lane b) < 0)))))) rfl (oy rfl rfl rfl h110 (op_bin rfl rfl rfl (b_lss _ _ _ _) rfl)) ?_
                                refine rg_put (d := 127) (v := .d (.fl (.bool ((decide ((ax p a.lane b) < 0)))))) rfl (oy rfl rfl rfl h110 (op_move rfl rfl rfl)) ?_
                                rcases fot ((decide ((ax p a.lane b) < 0))) with h113 | h113
                                · skip
                                  have h114 := f_dec h113
                                  refine rg_put (d := 128) (v := .d (.fl (.int .i64 ((ax p a.lane ((Sn.mk b.d (b.time + by9) b.point b.lane b.kind))))))) rfl (oy rfl rfl rfl h113 (op_move rfl rfl rfl)) ?_
                                  refine rg_put (d := 129) (v := .d (.fl (.int .i64 (ax p a.lane b)))) rfl (oy rfl rfl rfl h113 (op_move rfl rfl rfl)) ?_
                                  refine rg_put (d := 130) (v := .d (.fl (.bool ((decide ((ax p a.lane ((Sn.mk b.d (b.time + by9) b.point b.lane b.kind))) < (ax p a.lane b))))))) rfl (oy rfl rfl rfl h113 (op_bin rfl rfl rfl (b_lss _ _ _ _) rfl)) ?_
                                  refine rg_put (d := 131) (v := .d (.fl (.bool ((decide ((ax p a.lane ((Sn.mk b.d (b.time + by9) b.point b.lane b.kind))) < (ax p a.lane b))))))) rfl (oy rfl rfl rfl h110 (op_pick rfl rfl (by rw [h113]; rfl) rfl)) ?_
                                  refine rg_put (d := 132) (v := .d (.fl (.bool ((decide ((ax p a.lane ((Sn.mk b.d (b.time + by9) b.point b.lane b.kind))) < (ax p a.lane b))))))) rfl (og rfl (op_pick rfl rfl (by rw [h110]; rfl) rfl)) ?_
                                  refine rg_done rfl ?_
                                  refine a_cond rfl (fun h115 => ?_) (fun h115 => ?_)
                                  · skip
                                    have h116 := t_dec h115
                                    refine a_rseq ?_
                                    refine rg_put (d := 8) (v := .d (.fl (.bool false))) rfl (og rfl (op_assign rfl rfl rfl)) ?_
                                    refine rg_done rfl ?_
                                    refine a_ret ?_
                                    show ∃ ds, ResL _ _ _ ds ∧ RV.of ds = _
                                    refine ⟨[.fl (.bool false)], (.cons (.tmp rfl (.d _)) .nil), ?_⟩
                                    exfalso; omega
                                  · skip
                                    have h117 := f_dec h115
                                    refine a_skip ?_
                                    show A _ _ _ _ _ _ _
                                    refine a_rseq ?_
                                    refine rg_put (d := 133) (v := .d (.fl (.bool true))) rfl (og rfl (op_call rfl Try.func7 nm7 rfl .nil alive7 rfl)) ?_
                                    refine rg_put (d := 8) (v := .d (.fl (.bool true))) rfl (og rfl (op_assign rfl rfl rfl)) ?_
                                    refine rg_done rfl ?_
                                    refine a_ret ?_
                                    show ∃ ds, ResL _ _ _ ds ∧ RV.of ds = _
                                    refine ⟨[.fl (.bool true)], (.cons (.tmp rfl (.d _)) .nil), ?_⟩
                                    rfl
                                · skip
                                  have h118 := t_dec h113
                                  refine rg_put (d := 128) (v := .d (.fl undef)) rfl (on rfl rfl rfl h113) ?_
                                  refine rg_put (d := 129) (v := .d (.fl undef)) rfl (on rfl rfl rfl h113) ?_
                                  refine rg_put (d := 130) (v := .d (.fl undef)) rfl (on rfl rfl rfl h113) ?_
                                  refine rg_put (d := 131) (v := .d (.fl (.bool true))) rfl (oy rfl rfl rfl h110 (op_pick rfl rfl (by rw [h113]; rfl) rfl)) ?_
                                  refine rg_put (d := 132) (v := .d (.fl (.bool true))) rfl (og rfl (op_pick rfl rfl (by rw [h110]; rfl) rfl)) ?_
                                  refine rg_done rfl ?_
                                  refine a_condK rfl rfl ?_
                                  refine a_rseq ?_
                                  refine rg_put (d := 8) (v := .d (.fl (.bool false))) rfl (og rfl (op_assign rfl rfl rfl)) ?_
                                  refine rg_done rfl ?_
                                  refine a_ret ?_
                                  show ∃ ds, ResL _ _ _ ds ∧ RV.of ds = _
                                  refine ⟨[.fl (.bool false)], (.cons (.tmp rfl (.d _)) .nil), ?_⟩
                                  exfalso; omega
                          · skip
                            have h119 := f_dec h107
                            refine a_region ?_
                            refine rg_put (d := 107) (v := .pt 102 7) rfl (og rfl (of_eff (s_field_pt rfl Try.underlying25 rfl ti3 rfl rfl rfl) rfl)) ?_
                            refine rg_put (d := 108) (v := .d (.fl (.int .i64 b.time))) rfl (og rfl (op_load_pt rfl Try.underlying3 rfl rfl rfl rfl rfl)) ?_
                            refine rg_put (d := 109) (v := .d (.fl (.int .i64 by9))) rfl (og rfl (op_move rfl rfl rfl)) ?_
                            refine rg_put (d := 110) (v := .d (.fl (.int .i64 (b.time - by9)))) rfl (og rfl (op_bin rfl rfl rfl (fun x y w => b_sub64 _ _ _ x y w (by omega)) rfl)) ?_
                            refine rg_put (d := 111) (v := .pt 109 7) rfl (og rfl (of_eff (s_field_pt rfl Try.underlying25 rfl ti3 rfl rfl rfl) rfl)) ?_
                            refine rg_sto (nw := [(109, .bx 25 [.fl (.string b.d.dev), .fl (.int .i64 b.d.seq), .fl (.int .i64 b.d.time), .fl (.string b.d.tag), .fl (.string b.d.plate), .fl (.int .i64 b.d.axles), .fl (.int .i64 b.d.score), .fl (.int .i64 (b.time - by9)), .fl (.string b.point), .fl (.int .i64 b.lane), .fl (.int .i64 b.kind)])]) rfl (og rfl (of_eff (s_store rfl rfl ti3 rfl rfl rfl rfl rfl rfl) rfl)) ?_
                            refine rg_done rfl ?_
                            show A _ _ _ _ _ _ _
                            refine a_rseq ?_
                            refine rg_put (d := 112) (v := .d (.ag (ePg p))) rfl (og rfl (of_eff (s_load_pts rfl Try.underlying28 rfl ti28 rfl rfl rfl rfl) rfl)) ?_
                            refine rg_put (d := 113) (v := .pt 101 9) rfl (og rfl (of_eff (s_field_pt rfl Try.underlying25 rfl ti3 rfl rfl rfl) rfl)) ?_
                            refine rg_put (d := 114) (v := .d (.fl (.int .i64 a.lane))) rfl (og rfl (op_load_pt rfl Try.underlying3 rfl rfl rfl rfl rfl)) ?_
                            refine rg_put (d := 115) (v := .d (.ag (eSn ((Sn.mk b.d (b.time - by9) b.point b.lane b.kind))))) rfl (og rfl (of_eff (s_load_pts rfl Try.underlying25 rfl ti25 rfl rfl rfl rfl) rfl)) ?_
                            refine rg_put (d := 116) (v := .d (.fl (.int .i64 ((ax p a.lane ((Sn.mk b.d (b.time - by9) b.point b.lane b.kind))))))) rfl (og rfl (op_call rfl Try.func10 nm10 rfl (.cons rfl (.d _) (.cons rfl (.d _) (.cons rfl (.d _) .nil))) (ax10 p a.lane ((Sn.mk b.d (b.time - by9) b.point b.lane b.kind)) (by first | omega | (dsimp only; omega)) (by first | omega | (dsimp only; omega))) rfl)) ?_
                            refine rg_put (d := 12) (v := .d (.fl (.int .i64 ((ax p a.lane ((Sn.mk b.d (b.time - by9) b.point b.lane b.kind))))))) rfl (og rfl (op_assign rfl rfl rfl)) ?_
                            refine rg_done rfl ?_
                            refine a_seq ?_
                            refine a_rseq ?_
                            have hx2 := ax_lessT p a.lane b (b.time - by9) (by rw [dst_eq, dst_eq]; omega)
                            refine rg_put (d := 117) (v := .pt 109 7) rfl (og rfl (of_eff (s_field_pt rfl Try.underlying25 rfl ti3 rfl rfl rfl) rfl)) ?_
                            refine rg_put (d := 118) (v := .d (.fl (.int .i64 (b.time - by9)))) rfl (og rfl (op_load_pt rfl Try.underlying3 rfl rfl rfl rfl rfl)) ?_
                            refine rg_put (d := 119) (v := .d (.fl (.bool ((isT (b.time - by9)))))) rfl (og rfl (op_call rfl Try.func6 nm6 rfl (.cons rfl (.d _) .nil) (isT6 (b.time - by9)) rfl)) ?_
                            refine rg_put (d := 120) (v := .d (.fl (.bool ((isT (b.time - by9)))))) rfl (og rfl (op_move rfl rfl rfl)) ?_
                            refine rg_put (d := 121) (v := .d (.fl (.int .i64 ((ax p a.lane ((Sn.mk b.d (b.time - by9) b.point b.lane b.kind))))))) rfl (oy rfl rfl rfl h91 (op_move rfl rfl rfl)) ?_
                            refine rg_put (d := 122) (v := .d (.fl (.bool ((decide (0 ≤ (ax p a.lane ((Sn.mk b.d (b.time - by9) b.point b.lane b.kind))))))))) rfl (oy rfl rfl rfl h91 (op_bin rfl rfl rfl (b_geq _ _ _ _) rfl)) ?_
                            refine rg_put (d := 123) (v := .d (.fl (.bool ((decide (0 ≤ (ax p a.lane ((Sn.mk b.d (b.time - by9) b.point b.lane b.kind))))))))) rfl (og rfl (op_pick rfl rfl (by rw [h91]; rfl) rfl)) ?_
                            refine rg_put (d := 124) (v := .d (.fl (.bool ((decide (0 ≤ (ax p a.lane ((Sn.mk b.d (b.time - by9) b.point b.lane b.kind))))))))) rfl (og rfl (op_move rfl rfl rfl)) ?_
                            rcases fot ((decide (0 ≤ (ax p a.lane ((Sn.mk b.d (b.time - by9) b.point b.lane b.kind)))))) with h120 | h120
                            · skip
                              have h121 := f_dec h120
                              refine rg_put (d := 125) (v := .d (.fl undef)) rfl (on rfl rfl rfl h120) ?_
                              refine rg_put (d := 126) (v := .d (.fl undef)) rfl (on rfl rfl rfl h120) ?_
                              refine rg_put (d := 127) (v := .d (.fl undef)) rfl (on rfl rfl rfl h120) ?_
                              refine rg_put (d := 128) (v := .d (.fl undef)) rfl (ou rfl rfl rfl) ?_
                              refine rg_put (d := 129) (v := .d (.fl undef)) rfl (ou rfl rfl rfl) ?_
                              refine rg_put (d := 130) (v := .d (.fl undef)) rfl (ou rfl rfl rfl) ?_
                              refine rg_put (d := 131) (v := .d (.fl undef)) rfl (on rfl rfl rfl h120) ?_
                              refine rg_put (d := 132) (v := .d (.fl (.bool false))) rfl (og rfl (op_pick rfl rfl (by rw [h120]; rfl) rfl)) ?_
                              refine rg_done rfl ?_
                              refine a_condF rfl rfl ?_
                              refine a_skip ?_
                              show A _ _ _ _ _ _ _
                              refine a_rseq ?_
                              refine rg_put (d := 133) (v := .d (.fl (.bool true))) rfl (og rfl (op_call rfl Try.func7 nm7 rfl .nil alive7 rfl)) ?_
                              refine rg_put (d := 8) (v := .d (.fl (.bool true))) rfl (og rfl (op_assign rfl rfl rfl)) ?_
                              refine rg_done rfl ?_
                              refine a_ret ?_
                              show ∃ ds, ResL _ _ _ ds ∧ RV.of ds = _
                              refine ⟨[.fl (.bool true)], (.cons (.tmp rfl (.d _)) .nil), ?_⟩
                              rfl
                            · skip
                              have h122 := t_dec h120
                              refine rg_put (d := 125) (v := .d (.fl (.int .i64 (ax p a.lane b)))) rfl (oy rfl rfl rfl h120 (op_move rfl rfl rfl)) ?_
                              refine rg_put (d := 126) (v := .d (.fl (.bool ((decide ((ax p a.lane b) < 0)))))) rfl (oy rfl rfl rfl h120 (op_bin rfl rfl rfl (b_lss _ _ _ _) rfl)) ?_
                              refine rg_put (d := 127) (v := .d (.fl (.bool ((decide ((ax p a.lane b) < 0)))))) rfl (oy rfl rfl rfl h120 (op_move rfl rfl rfl)) ?_
                              rcases fot ((decide ((ax p a.lane b) < 0))) with h123 | h123
                              · skip
                                have h124 := f_dec h123
                                refine rg_put (d := 128) (v := .d (.fl (.int .i64 ((ax p a.lane ((Sn.mk b.d (b.time - by9) b.point b.lane b.kind))))))) rfl (oy rfl rfl rfl h123 (op_move rfl rfl rfl)) ?_
                                refine rg_put (d := 129) (v := .d (.fl (.int .i64 (ax p a.lane b)))) rfl (oy rfl rfl rfl h123 (op_move rfl rfl rfl)) ?_
                                refine rg_put (d := 130) (v := .d (.fl (.bool ((decide ((ax p a.lane ((Sn.mk b.d (b.time - by9) b.point b.lane b.kind))) < (ax p a.lane b))))))) rfl (oy rfl rfl rfl h123 (op_bin rfl rfl rfl (b_lss _ _ _ _) rfl)) ?_
                                refine rg_put (d := 131) (v := .d (.fl (.bool ((decide ((ax p a.lane ((Sn.mk b.d (b.time - by9) b.point b.lane b.kind))) < (ax p a.lane b))))))) rfl (oy rfl rfl rfl h120 (op_pick rfl rfl (by rw [h123]; rfl) rfl)) ?_
                                refine rg_put (d := 132) (v := .d (.fl (.bool ((decide ((ax p a.lane ((Sn.mk b.d (b.time - by9) b.point b.lane b.kind))) < (ax p a.lane b))))))) rfl (og rfl (op_pick rfl rfl (by rw [h120]; rfl) rfl)) ?_
                                refine rg_done rfl ?_
                                refine a_cond rfl (fun h125 => ?_) (fun h125 => ?_)
                                · skip
                                  have h126 := t_dec h125
                                  refine a_rseq ?_
                                  refine rg_put (d := 8) (v := .d (.fl (.bool false))) rfl (og rfl (op_assign rfl rfl rfl)) ?_
                                  refine rg_done rfl ?_
                                  refine a_ret ?_
                                  show ∃ ds, ResL _ _ _ ds ∧ RV.of ds = _
                                  refine ⟨[.fl (.bool false)], (.cons (.tmp rfl (.d _)) .nil), ?_⟩
                                  exfalso; omega
                                · skip
                                  have h127 := f_dec h125
                                  refine a_skip ?_
                                  show A _ _ _ _ _ _ _
                                  refine a_rseq ?_
                                  refine rg_put (d := 133) (v := .d (.fl (.bool true))) rfl (og rfl (op_call rfl Try.func7 nm7 rfl .nil alive7 rfl)) ?_
                                  refine rg_put (d := 8) (v := .d (.fl (.bool true))) rfl (og rfl (op_assign rfl rfl rfl)) ?_
                                  refine rg_done rfl ?_
                                  refine a_ret ?_
                                  show ∃ ds, ResL _ _ _ ds ∧ RV.of ds = _
                                  refine ⟨[.fl (.bool true)], (.cons (.tmp rfl (.d _)) .nil), ?_⟩
                                  rfl
                              · skip
                                have h128 := t_dec h123
                                refine rg_put (d := 128) (v := .d (.fl undef)) rfl (on rfl rfl rfl h123) ?_
                                refine rg_put (d := 129) (v := .d (.fl undef)) rfl (on rfl rfl rfl h123) ?_
                                refine rg_put (d := 130) (v := .d (.fl undef)) rfl (on rfl rfl rfl h123) ?_
                                refine rg_put (d := 131) (v := .d (.fl (.bool true))) rfl (oy rfl rfl rfl h120 (op_pick rfl rfl (by rw [h123]; rfl) rfl)) ?_
                                refine rg_put (d := 132) (v := .d (.fl (.bool true))) rfl (og rfl (op_pick rfl rfl (by rw [h120]; rfl) rfl)) ?_
                                refine rg_done rfl ?_
                                refine a_condK rfl rfl ?_
                                refine a_rseq ?_
                                refine rg_put (d := 8) (v := .d (.fl (.bool false))) rfl (og rfl (op_assign rfl rfl rfl)) ?_
                                refine rg_done rfl ?_
                                refine a_ret ?_
                                show ∃ ds, ResL _ _ _ ds ∧ RV.of ds = _
                                refine ⟨[.fl (.bool false)], (.cons (.tmp rfl (.d _)) .nil), ?_⟩
                                exfalso; omega
                        · skip
                          have h129 := t_dec h105
                          refine rg_put (d := 88) (v := .d (.fl (.int .i64 (pr a b)))) rfl (oy rfl rfl rfl h105 (op_move rfl rfl rfl)) ?_
                          refine rg_put (d := 89) (v := .d (.fl (.bool ((decide ((pr a b) < 0)))))) rfl (oy rfl rfl rfl h105 (op_bin rfl rfl rfl (b_lss _ _ _ _) rfl)) ?_
                          refine rg_put (d := 90) (v := .d (.fl (.bool ((decide ((pr a b) < 0)))))) rfl (oy rfl rfl rfl h105 (op_move rfl rfl rfl)) ?_
                          rcases fot ((decide ((pr a b) < 0))) with h130 | h130
                          · skip
                            have h131 := f_dec h130
                            refine rg_put (d := 91) (v := .d (.fl (.int .i64 ((pr a ((Sn.mk b.d (b.time - by9) b.point b.lane b.kind))))))) rfl (oy rfl rfl rfl h130 (op_move rfl rfl rfl)) ?_
                            refine rg_put (d := 92) (v := .d (.fl (.int .i64 (pr a b)))) rfl (oy rfl rfl rfl h130 (op_move rfl rfl rfl)) ?_
                            refine rg_put (d := 93) (v := .d (.fl (.bool ((decide ((pr a ((Sn.mk b.d (b.time - by9) b.point b.lane b.kind))) < (pr a b))))))) rfl (oy rfl rfl rfl h130 (op_bin rfl rfl rfl (b_lss _ _ _ _) rfl)) ?_
                            refine rg_put (d := 94) (v := .d (.fl (.bool ((decide ((pr a ((Sn.mk b.d (b.time - by9) b.point b.lane b.kind))) < (pr a b))))))) rfl (oy rfl rfl rfl h105 (op_pick rfl rfl (by rw [h130]; rfl) rfl)) ?_
                            refine rg_put (d := 95) (v := .d (.fl (.bool ((decide ((pr a ((Sn.mk b.d (b.time - by9) b.point b.lane b.kind))) < (pr a b))))))) rfl (og rfl (op_pick rfl rfl (by rw [h105]; rfl) rfl)) ?_
                            refine rg_done rfl ?_
                            refine a_cond rfl (fun h132 => ?_) (fun h132 => ?_)
                            · skip
                              have h133 := t_dec h132
                              refine a_rseq ?_
                              refine rg_put (d := 8) (v := .d (.fl (.bool false))) rfl (og rfl (op_assign rfl rfl rfl)) ?_
                              refine rg_done rfl ?_
                              refine a_ret ?_
                              show ∃ ds, ResL _ _ _ ds ∧ RV.of ds = _
                              refine ⟨[.fl (.bool false)], (.cons (.tmp rfl (.d _)) .nil), ?_⟩
                              exfalso; omega
                            · skip
                              have h134 := f_dec h132
                              refine a_skip ?_
                              show A _ _ _ _ _ _ _
                              refine a_rseq ?_
                              refine rg_put (d := 96) (v := .d (.ag (eSn b))) rfl (og rfl (of_eff (s_load_pts rfl Try.underlying25 rfl ti25 rfl rfl rfl rfl) rfl)) ?_
                              refine rg_nam (d := 13) (v := .pt 110 0) (m := 110) (nw := [(110, .bx 25 ([.fl (.string (⟨#[]⟩)), .fl (.int .i64 0), .fl (.int .i64 0), .fl (.string (⟨#[]⟩)), .fl (.string (⟨#[]⟩)), .fl (.int .i64 0), .fl (.int .i64 0), .fl (.int .i64 0), .fl (.string (⟨#[]⟩)), .fl (.int .i64 0), .fl (.int .i64 0)]))]) rfl (og rfl (of_eff (s_alloc 110 rfl ti25 (by kernel_rfl) rfl) rfl)) rfl ?_
                              refine rg_sto (nw := [(110, .bx 25 (eSn b))]) rfl (og rfl (of_eff (s_store rfl rfl ti25 rfl rfl rfl rfl rfl rfl) rfl)) ?_
                              refine rg_done rfl ?_
                              refine a_seq ?_
                              refine a_rseq ?_
                              refine rg_put (d := 97) (v := .pt 102 7) rfl (og rfl (of_eff (s_field_pt rfl Try.underlying25 rfl ti3 rfl rfl rfl) rfl)) ?_
                              refine rg_put (d := 98) (v := .d (.fl (.int .i64 b.time))) rfl (og rfl (op_load_pt rfl Try.underlying3 rfl rfl rfl rfl rfl)) ?_
                              refine rg_put (d := 99) (v := .pt 103 2) rfl (og rfl (of_eff (s_field_pt rfl Try.underlying28 rfl ti3 rfl rfl rfl) rfl)) ?_
                              refine rg_put (d := 100) (v := .d (.fl (.int .i64 p.time))) rfl (og rfl (op_load_pt rfl Try.underlying3 rfl rfl rfl rfl rfl)) ?_
                              refine rg_put (d := 101) (v := .d (.fl (.bool ((decide (p.time ≤ b.time)))))) rfl (og rfl (op_bin rfl rfl rfl (b_geq _ _ _ _) rfl)) ?_
                              refine rg_done rfl ?_
                              refine a_cond rfl (fun h135 => ?_) (fun h135 => ?_)
                              · skip
                                have h136 := t_dec h135
                                refine a_region ?_
                                refine rg_put (d := 102) (v := .pt 102 7) rfl (og rfl (of_eff (s_field_pt rfl Try.underlying25 rfl ti3 rfl rfl rfl) rfl)) ?_
                                refine rg_put (d := 103) (v := .d (.fl (.int .i64 b.time))) rfl (og rfl (op_load_pt rfl Try.underlying3 rfl rfl rfl rfl rfl)) ?_
                                refine rg_put (d := 104) (v := .d (.fl (.int .i64 by9))) rfl (og rfl (op_move rfl rfl rfl)) ?_
                                refine rg_put (d := 105) (v := .d (.fl (.int .i64 (b.time + by9)))) rfl (og rfl (op_bin rfl rfl rfl (fun x y w => b_add64 _ _ _ x y w (by omega)) rfl)) ?_
                                refine rg_put (d := 106) (v := .pt 110 7) rfl (og rfl (of_eff (s_field_pt rfl Try.underlying25 rfl ti3 rfl rfl rfl) rfl)) ?_
                                refine rg_sto (nw := [(110, .bx 25 [.fl (.string b.d.dev), .fl (.int .i64 b.d.seq), .fl (.int .i64 b.d.time), .fl (.string b.d.tag), .fl (.string b.d.plate), .fl (.int .i64 b.d.axles), .fl (.int .i64 b.d.score), .fl (.int .i64 (b.time + by9)), .fl (.string b.point), .fl (.int .i64 b.lane), .fl (.int .i64 b.kind)])]) rfl (og rfl (of_eff (s_store rfl rfl ti3 rfl rfl rfl rfl rfl rfl) rfl)) ?_
                                refine rg_done rfl ?_
                                show A _ _ _ _ _ _ _
                                refine a_rseq ?_
                                refine rg_put (d := 112) (v := .d (.ag (ePg p))) rfl (og rfl (of_eff (s_load_pts rfl Try.underlying28 rfl ti28 rfl rfl rfl rfl) rfl)) ?_
                                refine rg_put (d := 113) (v := .pt 101 9) rfl (og rfl (of_eff (s_field_pt rfl Try.underlying25 rfl ti3 rfl rfl rfl) rfl)) ?_
                                refine rg_put (d := 114) (v := .d (.fl (.int .i64 a.lane))) rfl (og rfl (op_load_pt rfl Try.underlying3 rfl rfl rfl rfl rfl)) ?_
                                refine rg_put (d := 115) (v := .d (.ag (eSn ((Sn.mk b.d (b.time + by9) b.point b.lane b.kind))))) rfl (og rfl (of_eff (s_load_pts rfl Try.underlying25 rfl ti25 rfl rfl rfl rfl) rfl)) ?_
                                refine rg_put (d := 116) (v := .d (.fl (.int .i64 ((ax p a.lane ((Sn.mk b.d (b.time + by9) b.point b.lane b.kind))))))) rfl (og rfl (op_call rfl Try.func10 nm10 rfl (.cons rfl (.d _) (.cons rfl (.d _) (.cons rfl (.d _) .nil))) (ax10 p a.lane ((Sn.mk b.d (b.time + by9) b.point b.lane b.kind)) (by first | omega | (dsimp only; omega)) (by first | omega | (dsimp only; omega))) rfl)) ?_
                                refine rg_put (d := 12) (v := .d (.fl (.int .i64 ((ax p a.lane ((Sn.mk b.d (b.time + by9) b.point b.lane b.kind))))))) rfl (og rfl (op_assign rfl rfl rfl)) ?_
                                refine rg_done rfl ?_
                                refine a_seq ?_
                                refine a_rseq ?_
                                have hx2 := ax_lessT p a.lane b (b.time + by9) (by rw [dst_eq, dst_eq]; omega)
                                refine rg_put (d := 117) (v := .pt 110 7) rfl (og rfl (of_eff (s_field_pt rfl Try.underlying25 rfl ti3 rfl rfl rfl) rfl)) ?_
                                refine rg_put (d := 118) (v := .d (.fl (.int .i64 (b.time + by9)))) rfl (og rfl (op_load_pt rfl Try.underlying3 rfl rfl rfl rfl rfl)) ?_
                                refine rg_put (d := 119) (v := .d (.fl (.bool ((isT (b.time + by9)))))) rfl (og rfl (op_call rfl Try.func6 nm6 rfl (.cons rfl (.d _) .nil) (isT6 (b.time + by9)) rfl)) ?_
                                refine rg_put (d := 120) (v := .d (.fl (.bool ((isT (b.time + by9)))))) rfl (og rfl (op_move rfl rfl rfl)) ?_
                                rcases fot ((isT (b.time + by9))) with h137 | h137
                                · skip
                                  refine rg_put (d := 121) (v := .d (.fl undef)) rfl (on rfl rfl rfl h137) ?_
                                  refine rg_put (d := 122) (v := .d (.fl undef)) rfl (on rfl rfl rfl h137) ?_
                                  refine rg_put (d := 123) (v := .d (.fl (.bool false))) rfl (og rfl (op_pick rfl rfl (by rw [h137]; rfl) rfl)) ?_
                                  refine rg_put (d := 124) (v := .d (.fl (.bool false))) rfl (og rfl (op_move rfl rfl rfl)) ?_
                                  refine rg_put (d := 125) (v := .d (.fl undef)) rfl (on rfl rfl rfl rfl) ?_
                                  refine rg_put (d := 126) (v := .d (.fl undef)) rfl (on rfl rfl rfl rfl) ?_
                                  refine rg_put (d := 127) (v := .d (.fl undef)) rfl (on rfl rfl rfl rfl) ?_
                                  refine rg_put (d := 128) (v := .d (.fl undef)) rfl (ou rfl rfl rfl) ?_
                                  refine rg_put (d := 129) (v := .d (.fl undef)) rfl (ou rfl rfl rfl) ?_
                                  refine rg_put (d := 130) (v := .d (.fl undef)) rfl (ou rfl rfl rfl) ?_
                                  refine rg_put (d := 131) (v := .d (.fl undef)) rfl (on rfl rfl rfl rfl) ?_
                                  refine rg_put (d := 132) (v := .d (.fl (.bool false))) rfl (og rfl (op_pick rfl rfl rfl rfl)) ?_
                                  refine rg_done rfl ?_
                                  refine a_condF rfl rfl ?_
                                  refine a_skip ?_
                                  show A _ _ _ _ _ _ _
                                  refine a_rseq ?_
                                  refine rg_put (d := 133) (v := .d (.fl (.bool true))) rfl (og rfl (op_call rfl Try.func7 nm7 rfl .nil alive7 rfl)) ?_
                                  refine rg_put (d := 8) (v := .d (.fl (.bool true))) rfl (og rfl (op_assign rfl rfl rfl)) ?_
                                  refine rg_done rfl ?_
                                  refine a_ret ?_
                                  show ∃ ds, ResL _ _ _ ds ∧ RV.of ds = _
                                  refine ⟨[.fl (.bool true)], (.cons (.tmp rfl (.d _)) .nil), ?_⟩
                                  rfl
                                · skip
                                  refine rg_put (d := 121) (v := .d (.fl (.int .i64 ((ax p a.lane ((Sn.mk b.d (b.time + by9) b.point b.lane b.kind))))))) rfl (oy rfl rfl rfl h137 (op_move rfl rfl rfl)) ?_
                                  refine rg_put (d := 122) (v := .d (.fl (.bool ((decide (0 ≤ (ax p a.lane ((Sn.mk b.d (b.time + by9) b.point b.lane b.kind))))))))) rfl (oy rfl rfl rfl h137 (op_bin rfl rfl rfl (b_geq _ _ _ _) rfl)) ?_
                                  refine rg_put (d := 123) (v := .d (.fl (.bool ((decide (0 ≤ (ax p a.lane ((Sn.mk b.d (b.time + by9) b.point b.lane b.kind))))))))) rfl (og rfl (op_pick rfl rfl (by rw [h137]; rfl) rfl)) ?_
                                  refine rg_put (d := 124) (v := .d (.fl (.bool ((decide (0 ≤ (ax p a.lane ((Sn.mk b.d (b.time + by9) b.point b.lane b.kind))))))))) rfl (og rfl (op_move rfl rfl rfl)) ?_
                                  rcases fot ((decide (0 ≤ (ax p a.lane ((Sn.mk b.d (b.time + by9) b.point b.lane b.kind)))))) with h138 | h138
                                  · skip
                                    have h139 := f_dec h138
                                    refine rg_put (d := 125) (v := .d (.fl undef)) rfl (on rfl rfl rfl h138) ?_
                                    refine rg_put (d := 126) (v := .d (.fl undef)) rfl (on rfl rfl rfl h138) ?_
                                    refine rg_put (d := 127) (v := .d (.fl undef)) rfl (on rfl rfl rfl h138) ?_
                                    refine rg_put (d := 128) (v := .d (.fl undef)) rfl (ou rfl rfl rfl) ?_
                                    refine rg_put (d := 129) (v := .d (.fl undef)) rfl (ou rfl rfl rfl) ?_
                                    refine rg_put (d := 130) (v := .d (.fl undef)) rfl (ou rfl rfl rfl) ?_
                                    refine rg_put (d := 131) (v := .d (.fl undef)) rfl (on rfl rfl rfl h138) ?_
                                    refine rg_put (d := 132) (v := .d (.fl (.bool false))) rfl (og rfl (op_pick rfl rfl (by rw [h138]; rfl) rfl)) ?_
                                    refine rg_done rfl ?_
                                    refine a_condF rfl rfl ?_
                                    refine a_skip ?_
                                    show A _ _ _ _ _ _ _
                                    refine a_rseq ?_
                                    refine rg_put (d := 133) (v := .d (.fl (.bool true))) rfl (og rfl (op_call rfl Try.func7 nm7 rfl .nil alive7 rfl)) ?_
                                    refine rg_put (d := 8) (v := .d (.fl (.bool true))) rfl (og rfl (op_assign rfl rfl rfl)) ?_
                                    refine rg_done rfl ?_
                                    refine a_ret ?_
                                    show ∃ ds, ResL _ _ _ ds ∧ RV.of ds = _
                                    refine ⟨[.fl (.bool true)], (.cons (.tmp rfl (.d _)) .nil), ?_⟩
                                    rfl
                                  · skip
                                    have h140 := t_dec h138
                                    refine rg_put (d := 125) (v := .d (.fl (.int .i64 (ax p a.lane b)))) rfl (oy rfl rfl rfl h138 (op_move rfl rfl rfl)) ?_
                                    refine rg_put (d := 126) (v := .d (.fl (.bool ((decide ((ax p a.lane b) < 0)))))) rfl (oy rfl rfl rfl h138 (op_bin rfl rfl rfl (b_lss _ _ _ _) rfl)) ?_
                                    refine rg_put (d := 127) (v := .d (.fl (.bool ((decide ((ax p a.lane b) < 0)))))) rfl (oy rfl rfl rfl h138 (op_move rfl rfl rfl)) ?_
                                    rcases fot ((decide ((ax p a.lane b) < 0))) with h141 | h141
                                    · skip
                                      have h142 := f_dec h141
                                      refine rg_put (d := 128) (v := .d (.fl (.int .i64 ((ax p a.lane ((Sn.mk b.d (b.time + by9) b.point b.lane b.kind))))))) rfl (oy rfl rfl rfl h141 (op_move rfl rfl rfl)) ?_
                                      refine rg_put (d := 129) (v := .d (.fl (.int .i64 (ax p a.lane b)))) rfl (oy rfl rfl rfl h141 (op_move rfl rfl rfl)) ?_
                                      refine rg_put (d := 130) (v := .d (.fl (.bool ((decide ((ax p a.lane ((Sn.mk b.d (b.time + by9) b.point b.lane b.kind))) < (ax p a.lane b))))))) rfl (oy rfl rfl rfl h141 (op_bin rfl rfl rfl (b_lss _ _ _ _) rfl)) ?_
                                      refine rg_put (d := 131) (v := .d (.fl (.bool ((decide ((ax p a.lane ((Sn.mk b.d (b.time + by9) b.point b.lane b.kind))) < (ax p a.lane b))))))) rfl (oy rfl rfl rfl h138 (op_pick rfl rfl (by rw [h141]; rfl) rfl)) ?_
                                      refine rg_put (d := 132) (v := .d (.fl (.bool ((decide ((ax p a.lane ((Sn.mk b.d (b.time + by9) b.point b.lane b.kind))) < (ax p a.lane b))))))) rfl (og rfl (op_pick rfl rfl (by rw [h138]; rfl) rfl)) ?_
                                      refine rg_done rfl ?_
                                      refine a_cond rfl (fun h143 => ?_) (fun h143 => ?_)
                                      · skip
                                        have h144 := t_dec h143
                                        refine a_rseq ?_
                                        refine rg_put (d := 8) (v := .d (.fl (.bool false))) rfl (og rfl (op_assign rfl rfl rfl)) ?_
                                        refine rg_done rfl ?_
                                        refine a_ret ?_
                                        show ∃ ds, ResL _ _ _ ds ∧ RV.of ds = _
                                        refine ⟨[.fl (.bool false)], (.cons (.tmp rfl (.d _)) .nil), ?_⟩
                                        exfalso; omega
                                      · skip
                                        have h145 := f_dec h143
                                        refine a_skip ?_
                                        show A _ _ _ _ _ _ _
                                        refine a_rseq ?_
                                        refine rg_put (d := 133) (v := .d (.fl (.bool true))) rfl (og rfl (op_call rfl Try.func7 nm7 rfl .nil alive7 rfl)) ?_
                                        refine rg_put (d := 8) (v := .d (.fl (.bool true))) rfl (og rfl (op_assign rfl rfl rfl)) ?_
                                        refine rg_done rfl ?_
                                        refine a_ret ?_
                                        show ∃ ds, ResL _ _ _ ds ∧ RV.of ds = _
                                        refine ⟨[.fl (.bool true)], (.cons (.tmp rfl (.d _)) .nil), ?_⟩
                                        rfl
                                    · skip
                                      have h146 := t_dec h141
                                      refine rg_put (d := 128) (v := .d (.fl undef)) rfl (on rfl rfl rfl h141) ?_
                                      refine rg_put (d := 129) (v := .d (.fl undef)) rfl (on rfl rfl rfl h141) ?_
                                      refine rg_put (d := 130) (v := .d (.fl undef)) rfl (on rfl rfl rfl h141) ?_
                                      refine rg_put (d := 131) (v := .d (.fl (.bool true))) rfl (oy rfl rfl rfl h138 (op_pick rfl rfl (by rw [h141]; rfl) rfl)) ?_
                                      refine rg_put (d := 132) (v := .d (.fl (.bool true))) rfl (og rfl (op_pick rfl rfl (by rw [h138]; rfl) rfl)) ?_
                                      refine rg_done rfl ?_
                                      refine a_condK rfl rfl ?_
                                      refine a_rseq ?_
                                      refine rg_put (d := 8) (v := .d (.fl (.bool false))) rfl (og rfl (op_assign rfl rfl rfl)) ?_
                                      refine rg_done rfl ?_
                                      refine a_ret ?_
                                      show ∃ ds, ResL _ _ _ ds ∧ RV.of ds = _
                                      refine ⟨[.fl (.bool false)], (.cons (.tmp rfl (.d _)) .nil), ?_⟩
                                      exfalso; omega
                              · skip
                                have h147 := f_dec h135
                                refine a_region ?_
                                refine rg_put (d := 107) (v := .pt 102 7) rfl (og rfl (of_eff (s_field_pt rfl Try.underlying25 rfl ti3 rfl rfl rfl) rfl)) ?_
                                refine rg_put (d := 108) (v := .d (.fl (.int .i64 b.time))) rfl (og rfl (op_load_pt rfl Try.underlying3 rfl rfl rfl rfl rfl)) ?_
                                refine rg_put (d := 109) (v := .d (.fl (.int .i64 by9))) rfl (og rfl (op_move rfl rfl rfl)) ?_
                                refine rg_put (d := 110) (v := .d (.fl (.int .i64 (b.time - by9)))) rfl (og rfl (op_bin rfl rfl rfl (fun x y w => b_sub64 _ _ _ x y w (by omega)) rfl)) ?_
                                refine rg_put (d := 111) (v := .pt 110 7) rfl (og rfl (of_eff (s_field_pt rfl Try.underlying25 rfl ti3 rfl rfl rfl) rfl)) ?_
                                refine rg_sto (nw := [(110, .bx 25 [.fl (.string b.d.dev), .fl (.int .i64 b.d.seq), .fl (.int .i64 b.d.time), .fl (.string b.d.tag), .fl (.string b.d.plate), .fl (.int .i64 b.d.axles), .fl (.int .i64 b.d.score), .fl (.int .i64 (b.time - by9)), .fl (.string b.point), .fl (.int .i64 b.lane), .fl (.int .i64 b.kind)])]) rfl (og rfl (of_eff (s_store rfl rfl ti3 rfl rfl rfl rfl rfl rfl) rfl)) ?_
                                refine rg_done rfl ?_
                                show A _ _ _ _ _ _ _
                                refine a_rseq ?_
                                refine rg_put (d := 112) (v := .d (.ag (ePg p))) rfl (og rfl (of_eff (s_load_pts rfl Try.underlying28 rfl ti28 rfl rfl rfl rfl) rfl)) ?_
                                refine rg_put (d := 113) (v := .pt 101 9) rfl (og rfl (of_eff (s_field_pt rfl Try.underlying25 rfl ti3 rfl rfl rfl) rfl)) ?_
                                refine rg_put (d := 114) (v := .d (.fl (.int .i64 a.lane))) rfl (og rfl (op_load_pt rfl Try.underlying3 rfl rfl rfl rfl rfl)) ?_
                                refine rg_put (d := 115) (v := .d (.ag (eSn ((Sn.mk b.d (b.time - by9) b.point b.lane b.kind))))) rfl (og rfl (of_eff (s_load_pts rfl Try.underlying25 rfl ti25 rfl rfl rfl rfl) rfl)) ?_
                                refine rg_put (d := 116) (v := .d (.fl (.int .i64 ((ax p a.lane ((Sn.mk b.d (b.time - by9) b.point b.lane b.kind))))))) rfl (og rfl (op_call rfl Try.func10 nm10 rfl (.cons rfl (.d _) (.cons rfl (.d _) (.cons rfl (.d _) .nil))) (ax10 p a.lane ((Sn.mk b.d (b.time - by9) b.point b.lane b.kind)) (by first | omega | (dsimp only; omega)) (by first | omega | (dsimp only; omega))) rfl)) ?_
                                refine rg_put (d := 12) (v := .d (.fl (.int .i64 ((ax p a.lane ((Sn.mk b.d (b.time - by9) b.point b.lane b.kind))))))) rfl (og rfl (op_assign rfl rfl rfl)) ?_
                                refine rg_done rfl ?_
                                refine a_seq ?_
                                refine a_rseq ?_
                                have hx2 := ax_lessT p a.lane b (b.time - by9) (by rw [dst_eq, dst_eq]; omega)
                                refine rg_put (d := 117) (v := .pt 110 7) rfl (og rfl (of_eff (s_field_pt rfl Try.underlying25 rfl ti3 rfl rfl rfl) rfl)) ?_
                                refine rg_put (d := 118) (v := .d (.fl (.int .i64 (b.time - by9)))) rfl (og rfl (op_load_pt rfl Try.underlying3 rfl rfl rfl rfl rfl)) ?_
                                refine rg_put (d := 119) (v := .d (.fl (.bool ((isT (b.time - by9)))))) rfl (og rfl (op_call rfl Try.func6 nm6 rfl (.cons rfl (.d _) .nil) (isT6 (b.time - by9)) rfl)) ?_
                                refine rg_put (d := 120) (v := .d (.fl (.bool ((isT (b.time - by9)))))) rfl (og rfl (op_move rfl rfl rfl)) ?_
                                refine rg_put (d := 121) (v := .d (.fl (.int .i64 ((ax p a.lane ((Sn.mk b.d (b.time - by9) b.point b.lane b.kind))))))) rfl (oy rfl rfl rfl h91 (op_move rfl rfl rfl)) ?_
                                refine rg_put (d := 122) (v := .d (.fl (.bool ((decide (0 ≤ (ax p a.lane ((Sn.mk b.d (b.time - by9) b.point b.lane b.kind))))))))) rfl (oy rfl rfl rfl h91 (op_bin rfl rfl rfl (b_geq _ _ _ _) rfl)) ?_
                                refine rg_put (d := 123) (v := .d (.fl (.bool ((decide (0 ≤ (ax p a.lane ((Sn.mk b.d (b.time - by9) b.point b.lane b.kind))))))))) rfl (og rfl (op_pick rfl rfl (by rw [h91]; rfl) rfl)) ?_
                                refine rg_put (d := 124) (v := .d (.fl (.bool ((decide (0 ≤ (ax p a.lane ((Sn.mk b.d (b.time - by9) b.point b.lane b.kind))))))))) rfl (og rfl (op_move rfl rfl rfl)) ?_
                                rcases fot ((decide (0 ≤ (ax p a.lane ((Sn.mk b.d (b.time - by9) b.point b.lane b.kind)))))) with h148 | h148
                                · skip
                                  have h149 := f_dec h148
                                  refine rg_put (d := 125) (v := .d (.fl undef)) rfl (on rfl rfl rfl h148) ?_
                                  refine rg_put (d := 126) (v := .d (.fl undef)) rfl (on rfl rfl rfl h148) ?_
                                  refine rg_put (d := 127) (v := .d (.fl undef)) rfl (on rfl rfl rfl h148) ?_
                                  refine rg_put (d := 128) (v := .d (.fl undef)) rfl (ou rfl rfl rfl) ?_
                                  refine rg_put (d := 129) (v := .d (.fl undef)) rfl (ou rfl rfl rfl) ?_
                                  refine rg_put (d := 130) (v := .d (.fl undef)) rfl (ou rfl rfl rfl) ?_
                                  refine rg_put (d := 131) (v := .d (.fl undef)) rfl (on rfl rfl rfl h148) ?_
                                  refine rg_put (d := 132) (v := .d (.fl (.bool false))) rfl (og rfl (op_pick rfl rfl (by rw [h148]; rfl) rfl)) ?_
                                  refine rg_done rfl ?_
                                  refine a_condF rfl rfl ?_
                                  refine a_skip ?_
                                  show A _ _ _ _ _ _ _
                                  refine a_rseq ?_
                                  refine rg_put (d := 133) (v := .d (.fl (.bool true))) rfl (og rfl (op_call rfl Try.func7 nm7 rfl .nil alive7 rfl)) ?_
                                  refine rg_put (d := 8) (v := .d (.fl (.bool true))) rfl (og rfl (op_assign rfl rfl rfl)) ?_
                                  refine rg_done rfl ?_
                                  refine a_ret ?_
                                  show ∃ ds, ResL _ _ _ ds ∧ RV.of ds = _
                                  refine ⟨[.fl (.bool true)], (.cons (.tmp rfl (.d _)) .nil), ?_⟩
                                  rfl
                                · skip
                                  have h150 := t_dec h148
                                  refine rg_put (d := 125) (v := .d (.fl (.int .i64 (ax p a.lane b)))) rfl (oy rfl rfl rfl h148 (op_move rfl rfl rfl)) ?_
                                  refine rg_put (d := 126) (v := .d (.fl (.bool ((decide ((ax p a.lane b) < 0)))))) rfl (oy rfl rfl rfl h148 (op_bin rfl rfl rfl (b_lss _ _ _ _) rfl)) ?_
                                  refine rg_put (d := 127) (v := .d (.fl (.bool ((decide ((ax p a.lane b) < 0)))))) rfl (oy rfl rfl rfl h148 (op_move rfl rfl rfl)) ?_
                                  rcases fot ((decide ((ax p a.lane b) < 0))) with h151 | h151
                                  · skip
                                    have h152 := f_dec h151
                                    refine rg_put (d := 128) (v := .d (.fl (.int .i64 ((ax p a.lane ((Sn.mk b.d (b.time - by9) b.point b.lane b.kind))))))) rfl (oy rfl rfl rfl h151 (op_move rfl rfl rfl)) ?_
                                    refine rg_put (d := 129) (v := .d (.fl (.int .i64 (ax p a.lane b)))) rfl (oy rfl rfl rfl h151 (op_move rfl rfl rfl)) ?_
                                    refine rg_put (d := 130) (v := .d (.fl (.bool ((decide ((ax p a.lane ((Sn.mk b.d (b.time - by9) b.point b.lane b.kind))) < (ax p a.lane b))))))) rfl (oy rfl rfl rfl h151 (op_bin rfl rfl rfl (b_lss _ _ _ _) rfl)) ?_
                                    refine rg_put (d := 131) (v := .d (.fl (.bool ((decide ((ax p a.lane ((Sn.mk b.d (b.time - by9) b.point b.lane b.kind))) < (ax p a.lane b))))))) rfl (oy rfl rfl rfl h148 (op_pick rfl rfl (by rw [h151]; rfl) rfl)) ?_
                                    refine rg_put (d := 132) (v := .d (.fl (.bool ((decide ((ax p a.lane ((Sn.mk b.d (b.time - by9) b.point b.lane b.kind))) < (ax p a.lane b))))))) rfl (og rfl (op_pick rfl rfl (by rw [h148]; rfl) rfl)) ?_
                                    refine rg_done rfl ?_
                                    refine a_cond rfl (fun h153 => ?_) (fun h153 => ?_)
                                    · skip
                                      have h154 := t_dec h153
                                      refine a_rseq ?_
                                      refine rg_put (d := 8) (v := .d (.fl (.bool false))) rfl (og rfl (op_assign rfl rfl rfl)) ?_
                                      refine rg_done rfl ?_
                                      refine a_ret ?_
                                      show ∃ ds, ResL _ _ _ ds ∧ RV.of ds = _
                                      refine ⟨[.fl (.bool false)], (.cons (.tmp rfl (.d _)) .nil), ?_⟩
                                      exfalso; omega
                                    · skip
                                      have h155 := f_dec h153
                                      refine a_skip ?_
                                      show A _ _ _ _ _ _ _
                                      refine a_rseq ?_
                                      refine rg_put (d := 133) (v := .d (.fl (.bool true))) rfl (og rfl (op_call rfl Try.func7 nm7 rfl .nil alive7 rfl)) ?_
                                      refine rg_put (d := 8) (v := .d (.fl (.bool true))) rfl (og rfl (op_assign rfl rfl rfl)) ?_
                                      refine rg_done rfl ?_
                                      refine a_ret ?_
                                      show ∃ ds, ResL _ _ _ ds ∧ RV.of ds = _
                                      refine ⟨[.fl (.bool true)], (.cons (.tmp rfl (.d _)) .nil), ?_⟩
                                      rfl
                                  · skip
                                    have h156 := t_dec h151
                                    refine rg_put (d := 128) (v := .d (.fl undef)) rfl (on rfl rfl rfl h151) ?_
                                    refine rg_put (d := 129) (v := .d (.fl undef)) rfl (on rfl rfl rfl h151) ?_
                                    refine rg_put (d := 130) (v := .d (.fl undef)) rfl (on rfl rfl rfl h151) ?_
                                    refine rg_put (d := 131) (v := .d (.fl (.bool true))) rfl (oy rfl rfl rfl h148 (op_pick rfl rfl (by rw [h151]; rfl) rfl)) ?_
                                    refine rg_put (d := 132) (v := .d (.fl (.bool true))) rfl (og rfl (op_pick rfl rfl (by rw [h148]; rfl) rfl)) ?_
                                    refine rg_done rfl ?_
                                    refine a_condK rfl rfl ?_
                                    refine a_rseq ?_
                                    refine rg_put (d := 8) (v := .d (.fl (.bool false))) rfl (og rfl (op_assign rfl rfl rfl)) ?_
                                    refine rg_done rfl ?_
                                    refine a_ret ?_
                                    show ∃ ds, ResL _ _ _ ds ∧ RV.of ds = _
                                    refine ⟨[.fl (.bool false)], (.cons (.tmp rfl (.d _)) .nil), ?_⟩
                                    exfalso; omega
                          · skip
                            have h157 := t_dec h130
                            refine rg_put (d := 91) (v := .d (.fl undef)) rfl (on rfl rfl rfl h130) ?_
                            refine rg_put (d := 92) (v := .d (.fl undef)) rfl (on rfl rfl rfl h130) ?_
                            refine rg_put (d := 93) (v := .d (.fl undef)) rfl (on rfl rfl rfl h130) ?_
                            refine rg_put (d := 94) (v := .d (.fl (.bool true))) rfl (oy rfl rfl rfl h105 (op_pick rfl rfl (by rw [h130]; rfl) rfl)) ?_
                            refine rg_put (d := 95) (v := .d (.fl (.bool true))) rfl (og rfl (op_pick rfl rfl (by rw [h105]; rfl) rfl)) ?_
                            refine rg_done rfl ?_
                            refine a_condK rfl rfl ?_
                            refine a_rseq ?_
                            refine rg_put (d := 8) (v := .d (.fl (.bool false))) rfl (og rfl (op_assign rfl rfl rfl)) ?_
                            refine rg_done rfl ?_
                            refine a_ret ?_
                            show ∃ ds, ResL _ _ _ ds ∧ RV.of ds = _
                            refine ⟨[.fl (.bool false)], (.cons (.tmp rfl (.d _)) .nil), ?_⟩
                            exfalso; omega
                · skip
                  have h158 := t_dec h16
                  refine rg_put (d := 58) (v := .d (.fl undef)) rfl (on rfl rfl rfl h16) ?_
                  refine rg_put (d := 59) (v := .d (.fl undef)) rfl (on rfl rfl rfl h16) ?_
                  refine rg_put (d := 60) (v := .d (.fl (.bool true))) rfl (og rfl (op_pick rfl rfl (by rw [h16]; rfl) rfl)) ?_
                  refine rg_done rfl ?_
                  refine a_condK rfl rfl ?_
                  refine a_rseq ?_
                  refine rg_put (d := 8) (v := .d (.fl (.bool false))) rfl (og rfl (op_assign rfl rfl rfl)) ?_
                  refine rg_done rfl ?_
                  refine a_ret ?_
                  show ∃ ds, ResL _ _ _ ds ∧ RV.of ds = _
                  refine ⟨[.fl (.bool false)], (.cons (.tmp rfl (.d _)) .nil), ?_⟩
                  exfalso; omega
              · skip
                have h159 := t_dec h14
                refine rg_put (d := 54) (v := .d (.fl undef)) rfl (on rfl rfl rfl h14) ?_
                refine rg_put (d := 55) (v := .d (.fl undef)) rfl (on rfl rfl rfl h14) ?_
                refine rg_put (d := 56) (v := .d (.fl (.bool true))) rfl (og rfl (op_pick rfl rfl (by rw [h14]; rfl) rfl)) ?_
                refine rg_put (d := 57) (v := .d (.fl (.bool true))) rfl (og rfl (op_move rfl rfl rfl)) ?_
                refine rg_put (d := 58) (v := .d (.fl undef)) rfl (on rfl rfl rfl rfl) ?_
                refine rg_put (d := 59) (v := .d (.fl undef)) rfl (on rfl rfl rfl rfl) ?_
                refine rg_put (d := 60) (v := .d (.fl (.bool true))) rfl (og rfl (op_pick rfl rfl rfl rfl)) ?_
                refine rg_done rfl ?_
                refine a_condK rfl rfl ?_
                refine a_rseq ?_
                refine rg_put (d := 8) (v := .d (.fl (.bool false))) rfl (og rfl (op_assign rfl rfl rfl)) ?_
                refine rg_done rfl ?_
                refine a_ret ?_
                show ∃ ds, ResL _ _ _ ds ∧ RV.of ds = _
                refine ⟨[.fl (.bool false)], (.cons (.tmp rfl (.d _)) .nil), ?_⟩
                exfalso; omega
            · skip
              have h160 := t_dec h12
              refine rg_put (d := 50) (v := .d (.fl undef)) rfl (on rfl rfl rfl h12) ?_
              refine rg_put (d := 51) (v := .d (.fl undef)) rfl (on rfl rfl rfl h12) ?_
              refine rg_put (d := 52) (v := .d (.fl (.bool true))) rfl (og rfl (op_pick rfl rfl (by rw [h12]; rfl) rfl)) ?_
              refine rg_put (d := 53) (v := .d (.fl (.bool true))) rfl (og rfl (op_move rfl rfl rfl)) ?_
              refine rg_put (d := 54) (v := .d (.fl undef)) rfl (on rfl rfl rfl rfl) ?_
              refine rg_put (d := 55) (v := .d (.fl undef)) rfl (on rfl rfl rfl rfl) ?_
              refine rg_put (d := 56) (v := .d (.fl (.bool true))) rfl (og rfl (op_pick rfl rfl rfl rfl)) ?_
              refine rg_put (d := 57) (v := .d (.fl (.bool true))) rfl (og rfl (op_move rfl rfl rfl)) ?_
              refine rg_put (d := 58) (v := .d (.fl undef)) rfl (on rfl rfl rfl rfl) ?_
              refine rg_put (d := 59) (v := .d (.fl undef)) rfl (on rfl rfl rfl rfl) ?_
              refine rg_put (d := 60) (v := .d (.fl (.bool true))) rfl (og rfl (op_pick rfl rfl rfl rfl)) ?_
              refine rg_done rfl ?_
              refine a_condK rfl rfl ?_
              refine a_rseq ?_
              refine rg_put (d := 8) (v := .d (.fl (.bool false))) rfl (og rfl (op_assign rfl rfl rfl)) ?_
              refine rg_done rfl ?_
              refine a_ret ?_
              show ∃ ds, ResL _ _ _ ds ∧ RV.of ds = _
              refine ⟨[.fl (.bool false)], (.cons (.tmp rfl (.d _)) .nil), ?_⟩
              exfalso; omega
        · skip
          have h161 := t_dec h7
          refine rg_put (d := 35) (v := .d (.fl undef)) rfl (on rfl rfl rfl h7) ?_
          refine rg_put (d := 36) (v := .d (.fl undef)) rfl (on rfl rfl rfl h7) ?_
          refine rg_put (d := 37) (v := .d (.fl (.bool true))) rfl (og rfl (op_pick rfl rfl (by rw [h7]; rfl) rfl)) ?_
          refine rg_done rfl ?_
          refine a_condK rfl rfl ?_
          refine a_rseq ?_
          refine rg_put (d := 38) (v := .d (.fl (.bool true))) rfl (og rfl (op_call rfl Try.func7 nm7 rfl .nil alive7 rfl)) ?_
          refine rg_put (d := 8) (v := .d (.fl (.bool true))) rfl (og rfl (op_assign rfl rfl rfl)) ?_
          refine rg_done rfl ?_
          refine a_ret ?_
          show ∃ ds, ResL _ _ _ ds ∧ RV.of ds = _
          refine ⟨[.fl (.bool true)], (.cons (.tmp rfl (.d _)) .nil), ?_⟩
          rfl
      · skip
        have h162 := t_not h5
        refine rg_put (d := 31) (v := .d (.fl undef)) rfl (on rfl rfl rfl h5) ?_
        refine rg_put (d := 32) (v := .d (.fl undef)) rfl (on rfl rfl rfl h5) ?_
        refine rg_put (d := 33) (v := .d (.fl (.bool true))) rfl (og rfl (op_pick rfl rfl (by rw [h5]; rfl) rfl)) ?_
        refine rg_put (d := 34) (v := .d (.fl (.bool true))) rfl (og rfl (op_move rfl rfl rfl)) ?_
        refine rg_put (d := 35) (v := .d (.fl undef)) rfl (on rfl rfl rfl rfl) ?_
        refine rg_put (d := 36) (v := .d (.fl undef)) rfl (on rfl rfl rfl rfl) ?_
        refine rg_put (d := 37) (v := .d (.fl (.bool true))) rfl (og rfl (op_pick rfl rfl rfl rfl)) ?_
        refine rg_done rfl ?_
        refine a_condK rfl rfl ?_
        refine a_rseq ?_
        refine rg_put (d := 38) (v := .d (.fl (.bool true))) rfl (og rfl (op_call rfl Try.func7 nm7 rfl .nil alive7 rfl)) ?_
        refine rg_put (d := 8) (v := .d (.fl (.bool true))) rfl (og rfl (op_assign rfl rfl rfl)) ?_
        refine rg_done rfl ?_
        refine a_ret ?_
        show ∃ ds, ResL _ _ _ ds ∧ RV.of ds = _
        refine ⟨[.fl (.bool true)], (.cons (.tmp rfl (.d _)) .nil), ?_⟩
        rfl
    · skip
      have h163 := t_not h3
      refine rg_put (d := 25) (v := .d (.fl undef)) rfl (on rfl rfl rfl h3) ?_
      refine rg_put (d := 26) (v := .d (.fl undef)) rfl (on rfl rfl rfl h3) ?_
      refine rg_put (d := 27) (v := .d (.fl undef)) rfl (on rfl rfl rfl h3) ?_
      refine rg_put (d := 28) (v := .d (.fl undef)) rfl (on rfl rfl rfl h3) ?_
      refine rg_put (d := 29) (v := .d (.fl (.bool true))) rfl (og rfl (op_pick rfl rfl (by rw [h3]; rfl) rfl)) ?_
      refine rg_put (d := 30) (v := .d (.fl (.bool true))) rfl (og rfl (op_move rfl rfl rfl)) ?_
      refine rg_put (d := 31) (v := .d (.fl undef)) rfl (on rfl rfl rfl rfl) ?_
      refine rg_put (d := 32) (v := .d (.fl undef)) rfl (on rfl rfl rfl rfl) ?_
      refine rg_put (d := 33) (v := .d (.fl (.bool true))) rfl (og rfl (op_pick rfl rfl rfl rfl)) ?_
      refine rg_put (d := 34) (v := .d (.fl (.bool true))) rfl (og rfl (op_move rfl rfl rfl)) ?_
      refine rg_put (d := 35) (v := .d (.fl undef)) rfl (on rfl rfl rfl rfl) ?_
      refine rg_put (d := 36) (v := .d (.fl undef)) rfl (on rfl rfl rfl rfl) ?_
      refine rg_put (d := 37) (v := .d (.fl (.bool true))) rfl (og rfl (op_pick rfl rfl rfl rfl)) ?_
      refine rg_done rfl ?_
      refine a_condK rfl rfl ?_
      refine a_rseq ?_
      refine rg_put (d := 38) (v := .d (.fl (.bool true))) rfl (og rfl (op_call rfl Try.func7 nm7 rfl .nil alive7 rfl)) ?_
      refine rg_put (d := 8) (v := .d (.fl (.bool true))) rfl (og rfl (op_assign rfl rfl rfl)) ?_
      refine rg_done rfl ?_
      refine a_ret ?_
      show ∃ ds, ResL _ _ _ ds ∧ RV.of ds = _
      refine ⟨[.fl (.bool true)], (.cons (.tmp rfl (.d _)) .nil), ?_⟩
      rfl
  · skip
    have h164 := t_not h1
    refine rg_put (d := 19) (v := .d (.fl undef)) rfl (on rfl rfl rfl h1) ?_
    refine rg_put (d := 20) (v := .d (.fl undef)) rfl (on rfl rfl rfl h1) ?_
    refine rg_put (d := 21) (v := .d (.fl undef)) rfl (on rfl rfl rfl h1) ?_
    refine rg_put (d := 22) (v := .d (.fl undef)) rfl (on rfl rfl rfl h1) ?_
    refine rg_put (d := 23) (v := .d (.fl (.bool true))) rfl (og rfl (op_pick rfl rfl (by rw [h1]; rfl) rfl)) ?_
    refine rg_put (d := 24) (v := .d (.fl (.bool true))) rfl (og rfl (op_move rfl rfl rfl)) ?_
    refine rg_put (d := 25) (v := .d (.fl undef)) rfl (on rfl rfl rfl rfl) ?_
    refine rg_put (d := 26) (v := .d (.fl undef)) rfl (on rfl rfl rfl rfl) ?_
    refine rg_put (d := 27) (v := .d (.fl undef)) rfl (on rfl rfl rfl rfl) ?_
    refine rg_put (d := 28) (v := .d (.fl undef)) rfl (on rfl rfl rfl rfl) ?_
    refine rg_put (d := 29) (v := .d (.fl (.bool true))) rfl (og rfl (op_pick rfl rfl rfl rfl)) ?_
    refine rg_put (d := 30) (v := .d (.fl (.bool true))) rfl (og rfl (op_move rfl rfl rfl)) ?_
    refine rg_put (d := 31) (v := .d (.fl undef)) rfl (on rfl rfl rfl rfl) ?_
    refine rg_put (d := 32) (v := .d (.fl undef)) rfl (on rfl rfl rfl rfl) ?_
    refine rg_put (d := 33) (v := .d (.fl (.bool true))) rfl (og rfl (op_pick rfl rfl rfl rfl)) ?_
    refine rg_put (d := 34) (v := .d (.fl (.bool true))) rfl (og rfl (op_move rfl rfl rfl)) ?_
    refine rg_put (d := 35) (v := .d (.fl undef)) rfl (on rfl rfl rfl rfl) ?_
    refine rg_put (d := 36) (v := .d (.fl undef)) rfl (on rfl rfl rfl rfl) ?_
    refine rg_put (d := 37) (v := .d (.fl (.bool true))) rfl (og rfl (op_pick rfl rfl rfl rfl)) ?_
    refine rg_done rfl ?_
    refine a_condK rfl rfl ?_
    refine a_rseq ?_
    refine rg_put (d := 38) (v := .d (.fl (.bool true))) rfl (og rfl (op_call rfl Try.func7 nm7 rfl .nil alive7 rfl)) ?_
    refine rg_put (d := 8) (v := .d (.fl (.bool true))) rfl (og rfl (op_assign rfl rfl rfl)) ?_
    refine rg_done rfl ?_
    refine a_ret ?_
    show ∃ ds, ResL _ _ _ ds ∧ RV.of ds = _
    refine ⟨[.fl (.bool true)], (.cons (.tmp rfl (.d _)) .nil), ?_⟩
    rfl
end Go.Proofs.Ytdhhpnkdokdjkaa.Wk
