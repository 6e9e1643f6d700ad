/- The law of what is next. No condition. -/
import Derived.Test.YteplcjhnmmpicaaNx
set_option linter.unusedSimpArgs false
set_option linter.unusedVariables false
namespace Go.Proofs.Yteplcjhnmmpicaa.Wk
open Go Go.RowKit Go.Proofs.Yteplcjhnmmpicaa.Av
set_option maxHeartbeats 4000000 in
set_option maxRecDepth 100000 in
theorem law8 (s : Sto) (t : Int) (x : Int) : Ctr Try.prog 8 [.ag (eSto s), .fl (.int .i64 t), .fl (.int .i64 x)] (.d (.fl (.bool true))) := by
  refine ctr (n := 116) (rs := #[.tmp 6]) (L := [(0, .d (.ag (eSto s))), (1, .d (.fl (.int .i64 t))), (2, .d (.fl (.int .i64 x)))]) Try.func8 rfl rfl rfl rfl rfl (fun w0 U0 => ?_)
  refine a_rseq ?_
  refine rg_nam (d := 3) (v := .pt 101 0) (m := 101) (nw := [(101, .bx 39 (eSto s))]) rfl (og rfl (of_eff (op_box 101 rfl rfl rfl rfl) rfl)) rfl ?_
  refine rg_put (d := 6) (v := .d (.fl (.bool false))) rfl (og rfl (op_assign rfl rfl rfl)) ?_
  refine rg_done rfl ?_
  refine a_seq ?_
  refine a_rseq ?_
  refine rg_put (d := 18) (v := .d (.ag (eSto s))) rfl (og rfl (of_eff (s_load_pts rfl Try.underlying39 rfl ti39 rfl rfl rfl rfl) rfl)) ?_
  refine rg_put (d := 19) (v := .d (.fl (.bool (gre s)))) rfl (og rfl (op_call rfl Try.func14 nm14 rfl (.cons rfl (.d _) .nil) (great_is s) rfl)) ?_
  refine rg_done rfl ?_
  refine a_cond rfl (fun h1 => ?_) (fun h1 => ?_)
  · skip
    refine a_rseq ?_
    refine rg_put (d := 20) (v := .d (.fl (.bool true))) rfl (og rfl (op_call rfl Try.func9 nm9 rfl .nil awake_true rfl)) ?_
    refine rg_put (d := 6) (v := .d (.fl (.bool true))) rfl (og rfl (op_assign rfl rfl rfl)) ?_
    refine rg_done rfl ?_
    refine a_ret ?_
    show ∃ ds, ResL _ _ _ ds ∧ RV.of ds = _
    refine ⟨[.fl (.bool true)], (.cons (.tmp rfl (.d _)) .nil), ?_⟩
    rfl
  · skip
    refine a_skip ?_
    show A _ _ _ _ _ _ _
    refine a_rseq ?_
    obtain ⟨g1, g2, g3, g4⟩ := gre_f h1
    have hp := purge_ok (l := s.rules) (c := s.closed) t (n := 40) (N := 200) g2 g4
    refine rg_put (d := 22) (v := .pt 101 0) rfl (og rfl (of_eff (s_field_pt rfl Try.underlying39 rfl ti22 rfl rfl rfl) rfl)) ?_
    refine rg_put (d := 23) (v := .d (.sl 3 (List.map eKp s.rules))) rfl (og rfl (op_load_pt rfl Try.underlying22 rfl rfl rfl rfl rfl)) ?_
    refine rg_put (d := 24) (v := .pt 101 1) rfl (og rfl (of_eff (s_field_pt rfl Try.underlying39 rfl ti36 rfl rfl rfl) rfl)) ?_
    refine rg_put (d := 25) (v := .d (.sl 5 (List.map eIm s.images))) rfl (og rfl (op_load_pt rfl Try.underlying36 rfl rfl rfl rfl rfl)) ?_
    refine rg_put (d := 26) (v := .pt 101 2) rfl (og rfl (of_eff (s_field_pt rfl Try.underlying39 rfl ti37 rfl rfl rfl) rfl)) ?_
    refine rg_put (d := 27) (v := .d (.sl 1 (List.map (rI .i64) s.closed))) rfl (og rfl (op_load_pt rfl Try.underlying37 rfl rfl rfl rfl rfl)) ?_
    refine rg_put (d := 28) (v := .d (.fl (.int .i64 t))) rfl (og rfl (op_move rfl rfl rfl)) ?_
    refine rg_put (d := 29) (v := .tu [.sl 5 (List.map eIm ((purge s.rules s.images s.closed t).1.1)), .sl 1 (List.map rS ((purge s.rules s.images s.closed t).1.2)), .fl (.int .i64 ((purge s.rules s.images s.closed t).2))]) rfl (og rfl (op_call rfl Try.func15 nm15 rfl (.cons rfl (.d _) (.cons rfl (.d _) (.cons rfl (.d _) (.cons rfl (.d _) .nil)))) (ret_purge s.rules s.images s.closed t (by omega) (fun q h => by have := g4 q h; omega)) rfl)) ?_
    refine rg_put (d := 21) (v := .tu [.sl 5 (List.map eIm ((purge s.rules s.images s.closed t).1.1)), .sl 1 (List.map rS ((purge s.rules s.images s.closed t).1.2)), .fl (.int .i64 ((purge s.rules s.images s.closed t).2))]) rfl (og rfl (op_move rfl rfl rfl)) ?_
    refine rg_put (d := 30) (v := .d (.sl 5 (List.map eIm ((purge s.rules s.images s.closed t).1.1)))) rfl (og rfl (op_extract rfl rfl rfl rfl)) ?_
    refine rg_put (d := 31) (v := .d (.sl 1 (List.map rS ((purge s.rules s.images s.closed t).1.2)))) rfl (og rfl (op_extract rfl rfl rfl rfl)) ?_
    refine rg_put (d := 32) (v := .d (.fl (.int .i64 ((purge s.rules s.images s.closed t).2)))) rfl (og rfl (op_extract rfl rfl rfl rfl)) ?_
    refine rg_put (d := 7) (v := .d (.sl 5 (List.map eIm ((purge s.rules s.images s.closed t).1.1)))) rfl (og rfl (op_assign rfl rfl rfl)) ?_
    refine rg_put (d := 8) (v := .d (.sl 1 (List.map rS ((purge s.rules s.images s.closed t).1.2)))) rfl (og rfl (op_assign rfl rfl rfl)) ?_
    refine rg_put (d := 9) (v := .d (.fl (.int .i64 ((purge s.rules s.images s.closed t).2)))) rfl (og rfl (op_assign rfl rfl rfl)) ?_
    refine rg_done rfl ?_
    refine a_seq ?_
    refine a_rseq ?_
    refine rg_put (d := 33) (v := .d (.fl (.int .i64 ((purge s.rules s.images s.closed t).2)))) rfl (og rfl (op_move rfl rfl rfl)) ?_
    refine rg_put (d := 34) (v := .d (.fl (.bool (((purge s.rules s.images s.closed t).2 != 0))))) rfl (og rfl (op_bin rfl rfl rfl (b_neq _ _ _ _) rfl)) ?_
    refine rg_done rfl ?_
    refine a_cond rfl (fun h2 => ?_) (fun h2 => ?_)
    · skip
      have h3 := t_bne h2
      refine a_rseq ?_
      refine rg_put (d := 35) (v := .d (.fl (.bool true))) rfl (og rfl (op_call rfl Try.func9 nm9 rfl .nil awake_true rfl)) ?_
      refine rg_put (d := 6) (v := .d (.fl (.bool true))) rfl (og rfl (op_assign rfl rfl rfl)) ?_
      refine rg_done rfl ?_
      refine a_ret ?_
      show ∃ ds, ResL _ _ _ ds ∧ RV.of ds = _
      refine ⟨[.fl (.bool true)], (.cons (.tmp rfl (.d _)) .nil), ?_⟩
      rfl
    · skip
      have h4 := f_bne h2
      refine a_skip ?_
      show A _ _ _ _ _ _ _
      refine a_rseq ?_
      have hz := PZ.of (f_bne h2)
      refine rg_put (d := 37) (v := .pt 101 0) rfl (og rfl (of_eff (s_field_pt rfl Try.underlying39 rfl ti22 rfl rfl rfl) rfl)) ?_
      refine rg_put (d := 38) (v := .d (.sl 3 (List.map eKp s.rules))) rfl (og rfl (op_load_pt rfl Try.underlying22 rfl rfl rfl rfl rfl)) ?_
      refine rg_put (d := 39) (v := .pt 101 1) rfl (og rfl (of_eff (s_field_pt rfl Try.underlying39 rfl ti36 rfl rfl rfl) rfl)) ?_
      refine rg_put (d := 40) (v := .d (.sl 5 (List.map eIm s.images))) rfl (og rfl (op_load_pt rfl Try.underlying36 rfl rfl rfl rfl rfl)) ?_
      refine rg_put (d := 41) (v := .pt 101 2) rfl (og rfl (of_eff (s_field_pt rfl Try.underlying39 rfl ti37 rfl rfl rfl) rfl)) ?_
      refine rg_put (d := 42) (v := .d (.sl 1 (List.map (rI .i64) s.closed))) rfl (og rfl (op_load_pt rfl Try.underlying37 rfl rfl rfl rfl rfl)) ?_
      refine rg_put (d := 43) (v := .d (.fl (.int .i64 t))) rfl (og rfl (op_move rfl rfl rfl)) ?_
      refine rg_put (d := 44) (v := .tu [.fl (.int .i64 ((nxt s.rules s.images s.closed t).1)), .fl (.bool ((nxt s.rules s.images s.closed t).2))]) rfl (og rfl (op_call rfl Try.func17 nm17 rfl (.cons rfl (.d _) (.cons rfl (.d _) (.cons rfl (.d _) (.cons rfl (.d _) .nil)))) (ret_next s.rules s.images s.closed t (by omega)) rfl)) ?_
      refine rg_put (d := 36) (v := .tu [.fl (.int .i64 ((nxt s.rules s.images s.closed t).1)), .fl (.bool ((nxt s.rules s.images s.closed t).2))]) rfl (og rfl (op_move rfl rfl rfl)) ?_
      refine rg_put (d := 45) (v := .d (.fl (.int .i64 ((nxt s.rules s.images s.closed t).1)))) rfl (og rfl (op_extract rfl rfl rfl rfl)) ?_
      refine rg_put (d := 46) (v := .d (.fl (.bool ((nxt s.rules s.images s.closed t).2)))) rfl (og rfl (op_extract rfl rfl rfl rfl)) ?_
      refine rg_put (d := 10) (v := .d (.fl (.int .i64 ((nxt s.rules s.images s.closed t).1)))) rfl (og rfl (op_assign rfl rfl rfl)) ?_
      refine rg_put (d := 11) (v := .d (.fl (.bool ((nxt s.rules s.images s.closed t).2)))) rfl (og rfl (op_assign rfl rfl rfl)) ?_
      refine rg_done rfl ?_
      refine a_seq ?_
      refine a_rseq ?_
      refine rg_put (d := 47) (v := .d (.fl (.bool ((nxt s.rules s.images s.closed t).2)))) rfl (og rfl (op_move rfl rfl rfl)) ?_
      refine rg_put (d := 48) (v := .d (.fl (.bool ((nxt s.rules s.images s.closed t).2)))) rfl (og rfl (op_move rfl rfl rfl)) ?_
      rcases fot ((nxt s.rules s.images s.closed t).2) with h5 | h5
      · skip
        refine rg_put (d := 49) (v := .d (.fl undef)) rfl (on rfl rfl rfl h5) ?_
        refine rg_put (d := 50) (v := .d (.fl undef)) rfl (on rfl rfl rfl h5) ?_
        refine rg_put (d := 51) (v := .d (.fl undef)) rfl (on rfl rfl rfl h5) ?_
        refine rg_put (d := 52) (v := .d (.fl (.bool false))) rfl (og rfl (op_pick rfl rfl (by rw [h5]; rfl) rfl)) ?_
        refine rg_done rfl ?_
        refine a_condF rfl rfl ?_
        refine a_skip ?_
        show A _ _ _ _ _ _ _
        refine a_seq ?_
        refine a_rseq ?_
        refine rg_put (d := 53) (v := .d (.fl (.int .i64 x))) rfl (og rfl (op_move rfl rfl rfl)) ?_
        refine rg_put (d := 54) (v := .d (.fl (.int .i64 t))) rfl (og rfl (op_move rfl rfl rfl)) ?_
        refine rg_put (d := 55) (v := .d (.fl (.bool ((decide (t ≤ x)))))) rfl (og rfl (op_bin rfl rfl rfl (b_geq _ _ _ _) rfl)) ?_
        refine rg_put (d := 56) (v := .d (.fl (.bool ((decide (t ≤ x)))))) rfl (og rfl (op_move rfl rfl rfl)) ?_
        rcases fot ((decide (t ≤ x))) with h6 | h6
        · skip
          have h7 := f_dec h6
          refine rg_put (d := 57) (v := .d (.fl undef)) rfl (on rfl rfl rfl h6) ?_
          refine rg_put (d := 58) (v := .d (.fl undef)) rfl (on rfl rfl rfl h6) ?_
          refine rg_put (d := 59) (v := .d (.fl (.bool false))) rfl (og rfl (op_pick rfl rfl (by rw [h6]; rfl) rfl)) ?_
          refine rg_put (d := 60) (v := .d (.fl (.bool false))) rfl (og rfl (op_move rfl rfl rfl)) ?_
          refine rg_put (d := 61) (v := .d (.fl undef)) rfl (on rfl rfl rfl rfl) ?_
          refine rg_put (d := 62) (v := .d (.fl undef)) rfl (on rfl rfl rfl rfl) ?_
          refine rg_put (d := 63) (v := .d (.fl undef)) rfl (on rfl rfl rfl rfl) ?_
          refine rg_put (d := 64) (v := .d (.fl undef)) rfl (ou rfl rfl rfl) ?_
          refine rg_put (d := 65) (v := .d (.fl undef)) rfl (ou rfl rfl rfl) ?_
          refine rg_put (d := 66) (v := .d (.fl undef)) rfl (ou rfl rfl rfl) ?_
          refine rg_put (d := 67) (v := .d (.fl undef)) rfl (on rfl rfl rfl rfl) ?_
          refine rg_put (d := 68) (v := .d (.fl (.bool false))) rfl (og rfl (op_pick rfl rfl rfl rfl)) ?_
          refine rg_done rfl ?_
          refine a_condF rfl rfl ?_
          refine a_skip ?_
          show A _ _ _ _ _ _ _
          refine a_seq ?_
          refine a_rseq ?_
          refine rg_put (d := 89) (v := .d (.fl (.bool ((nxt s.rules s.images s.closed t).2)))) rfl (og rfl (op_move rfl rfl rfl)) ?_
          refine rg_put (d := 90) (v := .d (.fl (.bool ((nxt s.rules s.images s.closed t).2)))) rfl (og rfl (op_move rfl rfl rfl)) ?_
          refine rg_put (d := 91) (v := .d (.fl undef)) rfl (on rfl rfl rfl h5) ?_
          refine rg_put (d := 92) (v := .d (.fl undef)) rfl (on rfl rfl rfl h5) ?_
          refine rg_put (d := 93) (v := .d (.fl (.bool false))) rfl (og rfl (op_pick rfl rfl (by rw [h5]; rfl) rfl)) ?_
          refine rg_done rfl ?_
          refine a_condF rfl rfl ?_
          refine a_skip ?_
          show A _ _ _ _ _ _ _
          refine a_rseq ?_
          refine rg_put (d := 115) (v := .d (.fl (.bool true))) rfl (og rfl (op_call rfl Try.func9 nm9 rfl .nil awake_true rfl)) ?_
          refine rg_put (d := 6) (v := .d (.fl (.bool true))) rfl (og rfl (op_assign rfl rfl rfl)) ?_
          refine rg_done rfl ?_
          refine a_ret ?_
          show ∃ ds, ResL _ _ _ ds ∧ RV.of ds = _
          refine ⟨[.fl (.bool true)], (.cons (.tmp rfl (.d _)) .nil), ?_⟩
          rfl
        · skip
          have h8 := t_dec h6
          refine rg_put (d := 57) (v := .d (.fl (.int .i64 x))) rfl (oy rfl rfl rfl h6 (op_move rfl rfl rfl)) ?_
          refine rg_put (d := 58) (v := .d (.fl (.bool ((decide (x < 68719476736)))))) rfl (oy rfl rfl rfl h6 (op_bin rfl rfl rfl (b_lss _ _ _ _) rfl)) ?_
          refine rg_put (d := 59) (v := .d (.fl (.bool ((decide (x < 68719476736)))))) rfl (og rfl (op_pick rfl rfl (by rw [h6]; rfl) rfl)) ?_
          refine rg_put (d := 60) (v := .d (.fl (.bool ((decide (x < 68719476736)))))) rfl (og rfl (op_move rfl rfl rfl)) ?_
          rcases fot ((decide (x < 68719476736))) with h9 | h9
          · skip
            have h10 := f_dec h9
            refine rg_put (d := 61) (v := .d (.fl undef)) rfl (on rfl rfl rfl h9) ?_
            refine rg_put (d := 62) (v := .d (.fl undef)) rfl (on rfl rfl rfl h9) ?_
            refine rg_put (d := 63) (v := .d (.fl undef)) rfl (on rfl rfl rfl h9) ?_
            refine rg_put (d := 64) (v := .d (.fl undef)) rfl (ou rfl rfl rfl) ?_
            refine rg_put (d := 65) (v := .d (.fl undef)) rfl (ou rfl rfl rfl) ?_
            refine rg_put (d := 66) (v := .d (.fl undef)) rfl (ou rfl rfl rfl) ?_
            refine rg_put (d := 67) (v := .d (.fl undef)) rfl (on rfl rfl rfl h9) ?_
            refine rg_put (d := 68) (v := .d (.fl (.bool false))) rfl (og rfl (op_pick rfl rfl (by rw [h9]; rfl) rfl)) ?_
            refine rg_done rfl ?_
            refine a_condF rfl rfl ?_
            refine a_skip ?_
            show A _ _ _ _ _ _ _
            refine a_seq ?_
            refine a_rseq ?_
            refine rg_put (d := 89) (v := .d (.fl (.bool ((nxt s.rules s.images s.closed t).2)))) rfl (og rfl (op_move rfl rfl rfl)) ?_
            refine rg_put (d := 90) (v := .d (.fl (.bool ((nxt s.rules s.images s.closed t).2)))) rfl (og rfl (op_move rfl rfl rfl)) ?_
            refine rg_put (d := 91) (v := .d (.fl undef)) rfl (on rfl rfl rfl h5) ?_
            refine rg_put (d := 92) (v := .d (.fl undef)) rfl (on rfl rfl rfl h5) ?_
            refine rg_put (d := 93) (v := .d (.fl (.bool false))) rfl (og rfl (op_pick rfl rfl (by rw [h5]; rfl) rfl)) ?_
            refine rg_done rfl ?_
            refine a_condF rfl rfl ?_
            refine a_skip ?_
            show A _ _ _ _ _ _ _
            refine a_rseq ?_
            refine rg_put (d := 115) (v := .d (.fl (.bool true))) rfl (og rfl (op_call rfl Try.func9 nm9 rfl .nil awake_true rfl)) ?_
            refine rg_put (d := 6) (v := .d (.fl (.bool true))) rfl (og rfl (op_assign rfl rfl rfl)) ?_
            refine rg_done rfl ?_
            refine a_ret ?_
            show ∃ ds, ResL _ _ _ ds ∧ RV.of ds = _
            refine ⟨[.fl (.bool true)], (.cons (.tmp rfl (.d _)) .nil), ?_⟩
            rfl
          · skip
            have h11 := t_dec h9
            refine rg_put (d := 61) (v := .d (.fl (.bool ((nxt s.rules s.images s.closed t).2)))) rfl (oy rfl rfl rfl h9 (op_move rfl rfl rfl)) ?_
            refine rg_put (d := 62) (v := .d (.fl (.bool ((!((nxt s.rules s.images s.closed t).2)))))) rfl (oy rfl rfl rfl h9 (op_un rfl rfl (u_not _) rfl)) ?_
            refine rg_put (d := 63) (v := .d (.fl (.bool ((!((nxt s.rules s.images s.closed t).2)))))) rfl (oy rfl rfl rfl h9 (op_move rfl rfl rfl)) ?_
            refine rg_put (d := 64) (v := .d (.fl undef)) rfl (on rfl rfl rfl (not_t' h5)) ?_
            refine rg_put (d := 65) (v := .d (.fl undef)) rfl (on rfl rfl rfl (not_t' h5)) ?_
            refine rg_put (d := 66) (v := .d (.fl undef)) rfl (on rfl rfl rfl (not_t' h5)) ?_
            refine rg_put (d := 67) (v := .d (.fl (.bool true))) rfl (oy rfl rfl rfl h9 (op_pick rfl rfl (by rw [(not_t' h5)]; rfl) rfl)) ?_
            refine rg_put (d := 68) (v := .d (.fl (.bool true))) rfl (og rfl (op_pick rfl rfl (by rw [h9]; rfl) rfl)) ?_
            refine rg_done rfl ?_
            refine a_condK rfl rfl ?_
            refine a_rseq ?_
            refine rg_put (d := 70) (v := .pt 101 0) rfl (og rfl (of_eff (s_field_pt rfl Try.underlying39 rfl ti22 rfl rfl rfl) rfl)) ?_
            refine rg_put (d := 71) (v := .d (.sl 3 (List.map eKp s.rules))) rfl (og rfl (op_load_pt rfl Try.underlying22 rfl rfl rfl rfl rfl)) ?_
            refine rg_put (d := 72) (v := .pt 101 1) rfl (og rfl (of_eff (s_field_pt rfl Try.underlying39 rfl ti36 rfl rfl rfl) rfl)) ?_
            refine rg_put (d := 73) (v := .d (.sl 5 (List.map eIm s.images))) rfl (og rfl (op_load_pt rfl Try.underlying36 rfl rfl rfl rfl rfl)) ?_
            refine rg_put (d := 74) (v := .pt 101 2) rfl (og rfl (of_eff (s_field_pt rfl Try.underlying39 rfl ti37 rfl rfl rfl) rfl)) ?_
            refine rg_put (d := 75) (v := .d (.sl 1 (List.map (rI .i64) s.closed))) rfl (og rfl (op_load_pt rfl Try.underlying37 rfl rfl rfl rfl rfl)) ?_
            refine rg_put (d := 76) (v := .d (.fl (.int .i64 x))) rfl (og rfl (op_move rfl rfl rfl)) ?_
            refine rg_put (d := 77) (v := .tu [.sl 5 (List.map eIm ((purge s.rules s.images s.closed x).1.1)), .sl 1 (List.map rS ((purge s.rules s.images s.closed x).1.2)), .fl (.int .i64 ((purge s.rules s.images s.closed x).2))]) rfl (og rfl (op_call rfl Try.func15 nm15 rfl (.cons rfl (.d _) (.cons rfl (.d _) (.cons rfl (.d _) (.cons rfl (.d _) .nil)))) (ret_purge s.rules s.images s.closed x (by omega) (fun q h => by have := g4 q h; omega)) rfl)) ?_
            refine rg_put (d := 69) (v := .tu [.sl 5 (List.map eIm ((purge s.rules s.images s.closed x).1.1)), .sl 1 (List.map rS ((purge s.rules s.images s.closed x).1.2)), .fl (.int .i64 ((purge s.rules s.images s.closed x).2))]) rfl (og rfl (op_move rfl rfl rfl)) ?_
            refine rg_put (d := 78) (v := .d (.sl 5 (List.map eIm ((purge s.rules s.images s.closed x).1.1)))) rfl (og rfl (op_extract rfl rfl rfl rfl)) ?_
            refine rg_put (d := 79) (v := .d (.sl 1 (List.map rS ((purge s.rules s.images s.closed x).1.2)))) rfl (og rfl (op_extract rfl rfl rfl rfl)) ?_
            refine rg_put (d := 80) (v := .d (.fl (.int .i64 ((purge s.rules s.images s.closed x).2)))) rfl (og rfl (op_extract rfl rfl rfl rfl)) ?_
            refine rg_put (d := 12) (v := .d (.sl 5 (List.map eIm ((purge s.rules s.images s.closed x).1.1)))) rfl (og rfl (op_assign rfl rfl rfl)) ?_
            refine rg_put (d := 13) (v := .d (.sl 1 (List.map rS ((purge s.rules s.images s.closed x).1.2)))) rfl (og rfl (op_assign rfl rfl rfl)) ?_
            refine rg_put (d := 14) (v := .d (.fl (.int .i64 ((purge s.rules s.images s.closed x).2)))) rfl (og rfl (op_assign rfl rfl rfl)) ?_
            refine rg_done rfl ?_
            refine a_rseq ?_
            have hx := next_same hz (x := x) (by omega) (by omega) (fun h => absurd h (by rw [h5]; simp))
            refine rg_put (d := 81) (v := .d (.fl (.int .i64 ((purge s.rules s.images s.closed x).2)))) rfl (og rfl (op_move rfl rfl rfl)) ?_
            refine rg_put (d := 82) (v := .d (.fl (.bool (((purge s.rules s.images s.closed x).2 != 0))))) rfl (og rfl (op_bin rfl rfl rfl (b_neq _ _ _ _) rfl)) ?_
            refine rg_put (d := 83) (v := .d (.fl (.bool (((purge s.rules s.images s.closed x).2 != 0))))) rfl (og rfl (op_move rfl rfl rfl)) ?_
            refine rg_put (d := 84) (v := .d (.sl 1 (List.map rS ((purge s.rules s.images s.closed t).1.2)))) rfl (oy rfl rfl rfl (bne_z hx.1) (op_move rfl rfl rfl)) ?_
            refine rg_put (d := 85) (v := .d (.sl 1 (List.map rS ((purge s.rules s.images s.closed x).1.2)))) rfl (oy rfl rfl rfl (bne_z hx.1) (op_move rfl rfl rfl)) ?_
            refine rg_put (d := 86) (v := .d (.fl (.bool true))) rfl (oy rfl rfl rfl (bne_z hx.1) (op_call rfl Try.func20 nm20 rfl (.cons rfl (.d _) (.cons rfl (.d _) .nil)) (texts_eq hx.2 (by omega)) rfl)) ?_
            refine rg_put (d := 87) (v := .d (.fl (.bool (!true)))) rfl (oy rfl rfl rfl (bne_z hx.1) (op_un rfl rfl (u_not _) rfl)) ?_
            refine rg_put (d := 88) (v := .d (.fl (.bool (!true)))) rfl (og rfl (op_pick rfl rfl (by rw [(bne_z hx.1)]; rfl) rfl)) ?_
            refine rg_done rfl ?_
            refine a_condF rfl (not_f rfl) ?_
            refine a_skip ?_
            show A _ _ _ _ _ _ _
            refine a_seq ?_
            refine a_rseq ?_
            refine rg_put (d := 89) (v := .d (.fl (.bool ((nxt s.rules s.images s.closed t).2)))) rfl (og rfl (op_move rfl rfl rfl)) ?_
            refine rg_put (d := 90) (v := .d (.fl (.bool ((nxt s.rules s.images s.closed t).2)))) rfl (og rfl (op_move rfl rfl rfl)) ?_
            refine rg_put (d := 91) (v := .d (.fl undef)) rfl (on rfl rfl rfl h5) ?_
            refine rg_put (d := 92) (v := .d (.fl undef)) rfl (on rfl rfl rfl h5) ?_
            refine rg_put (d := 93) (v := .d (.fl (.bool false))) rfl (og rfl (op_pick rfl rfl (by rw [h5]; rfl) rfl)) ?_
            refine rg_done rfl ?_
            refine a_condF rfl rfl ?_
            refine a_skip ?_
            show A _ _ _ _ _ _ _
            refine a_rseq ?_
            refine rg_put (d := 115) (v := .d (.fl (.bool true))) rfl (og rfl (op_call rfl Try.func9 nm9 rfl .nil awake_true rfl)) ?_
            refine rg_put (d := 6) (v := .d (.fl (.bool true))) rfl (og rfl (op_assign rfl rfl rfl)) ?_
            refine rg_done rfl ?_
            refine a_ret ?_
            show ∃ ds, ResL _ _ _ ds ∧ RV.of ds = _
            refine ⟨[.fl (.bool true)], (.cons (.tmp rfl (.d _)) .nil), ?_⟩
            rfl
      · skip
        have hgt := nxt_gt hz h5
        refine rg_put (d := 49) (v := .d (.fl (.int .i64 ((nxt s.rules s.images s.closed t).1)))) rfl (oy rfl rfl rfl h5 (op_move rfl rfl rfl)) ?_
        refine rg_put (d := 50) (v := .d (.fl (.int .i64 t))) rfl (oy rfl rfl rfl h5 (op_move rfl rfl rfl)) ?_
        refine rg_put (d := 51) (v := .d (.fl (.bool ((decide ((nxt s.rules s.images s.closed t).1 ≤ t)))))) rfl (oy rfl rfl rfl h5 (op_bin rfl rfl rfl (b_leq _ _ _ _) rfl)) ?_
        refine rg_put (d := 52) (v := .d (.fl (.bool ((decide ((nxt s.rules s.images s.closed t).1 ≤ t)))))) rfl (og rfl (op_pick rfl rfl (by rw [h5]; rfl) rfl)) ?_
        refine rg_done rfl ?_
        refine a_condF rfl (dle_f hgt) ?_
        refine a_skip ?_
        show A _ _ _ _ _ _ _
        refine a_seq ?_
        refine a_rseq ?_
        refine rg_put (d := 53) (v := .d (.fl (.int .i64 x))) rfl (og rfl (op_move rfl rfl rfl)) ?_
        refine rg_put (d := 54) (v := .d (.fl (.int .i64 t))) rfl (og rfl (op_move rfl rfl rfl)) ?_
        refine rg_put (d := 55) (v := .d (.fl (.bool ((decide (t ≤ x)))))) rfl (og rfl (op_bin rfl rfl rfl (b_geq _ _ _ _) rfl)) ?_
        refine rg_put (d := 56) (v := .d (.fl (.bool ((decide (t ≤ x)))))) rfl (og rfl (op_move rfl rfl rfl)) ?_
        rcases fot ((decide (t ≤ x))) with h12 | h12
        · skip
          have h13 := f_dec h12
          refine rg_put (d := 57) (v := .d (.fl undef)) rfl (on rfl rfl rfl h12) ?_
          refine rg_put (d := 58) (v := .d (.fl undef)) rfl (on rfl rfl rfl h12) ?_
          refine rg_put (d := 59) (v := .d (.fl (.bool false))) rfl (og rfl (op_pick rfl rfl (by rw [h12]; rfl) rfl)) ?_
          refine rg_put (d := 60) (v := .d (.fl (.bool false))) rfl (og rfl (op_move rfl rfl rfl)) ?_
          refine rg_put (d := 61) (v := .d (.fl undef)) rfl (on rfl rfl rfl rfl) ?_
          refine rg_put (d := 62) (v := .d (.fl undef)) rfl (on rfl rfl rfl rfl) ?_
          refine rg_put (d := 63) (v := .d (.fl undef)) rfl (on rfl rfl rfl rfl) ?_
          refine rg_put (d := 64) (v := .d (.fl undef)) rfl (ou rfl rfl rfl) ?_
          refine rg_put (d := 65) (v := .d (.fl undef)) rfl (ou rfl rfl rfl) ?_
          refine rg_put (d := 66) (v := .d (.fl undef)) rfl (ou rfl rfl rfl) ?_
          refine rg_put (d := 67) (v := .d (.fl undef)) rfl (on rfl rfl rfl rfl) ?_
          refine rg_put (d := 68) (v := .d (.fl (.bool false))) rfl (og rfl (op_pick rfl rfl rfl rfl)) ?_
          refine rg_done rfl ?_
          refine a_condF rfl rfl ?_
          refine a_skip ?_
          show A _ _ _ _ _ _ _
          refine a_seq ?_
          refine a_rseq ?_
          refine rg_put (d := 89) (v := .d (.fl (.bool ((nxt s.rules s.images s.closed t).2)))) rfl (og rfl (op_move rfl rfl rfl)) ?_
          refine rg_put (d := 90) (v := .d (.fl (.bool ((nxt s.rules s.images s.closed t).2)))) rfl (og rfl (op_move rfl rfl rfl)) ?_
          refine rg_put (d := 91) (v := .d (.fl (.int .i64 ((nxt s.rules s.images s.closed t).1)))) rfl (oy rfl rfl rfl h5 (op_move rfl rfl rfl)) ?_
          refine rg_put (d := 92) (v := .d (.fl (.bool ((decide ((nxt s.rules s.images s.closed t).1 < 68719476736)))))) rfl (oy rfl rfl rfl h5 (op_bin rfl rfl rfl (b_lss _ _ _ _) rfl)) ?_
          refine rg_put (d := 93) (v := .d (.fl (.bool ((decide ((nxt s.rules s.images s.closed t).1 < 68719476736)))))) rfl (og rfl (op_pick rfl rfl (by rw [h5]; rfl) rfl)) ?_
          refine rg_done rfl ?_
          refine a_cond rfl (fun h14 => ?_) (fun h14 => ?_)
          · skip
            have h15 := t_dec h14
            refine a_rseq ?_
            refine rg_put (d := 95) (v := .pt 101 0) rfl (og rfl (of_eff (s_field_pt rfl Try.underlying39 rfl ti22 rfl rfl rfl) rfl)) ?_
            refine rg_put (d := 96) (v := .d (.sl 3 (List.map eKp s.rules))) rfl (og rfl (op_load_pt rfl Try.underlying22 rfl rfl rfl rfl rfl)) ?_
            refine rg_put (d := 97) (v := .pt 101 1) rfl (og rfl (of_eff (s_field_pt rfl Try.underlying39 rfl ti36 rfl rfl rfl) rfl)) ?_
            refine rg_put (d := 98) (v := .d (.sl 5 (List.map eIm s.images))) rfl (og rfl (op_load_pt rfl Try.underlying36 rfl rfl rfl rfl rfl)) ?_
            refine rg_put (d := 99) (v := .pt 101 2) rfl (og rfl (of_eff (s_field_pt rfl Try.underlying39 rfl ti37 rfl rfl rfl) rfl)) ?_
            refine rg_put (d := 100) (v := .d (.sl 1 (List.map (rI .i64) s.closed))) rfl (og rfl (op_load_pt rfl Try.underlying37 rfl rfl rfl rfl rfl)) ?_
            refine rg_put (d := 101) (v := .d (.fl (.int .i64 ((nxt s.rules s.images s.closed t).1)))) rfl (og rfl (op_move rfl rfl rfl)) ?_
            refine rg_put (d := 102) (v := .tu [.sl 5 (List.map eIm ((purge s.rules s.images s.closed ((nxt s.rules s.images s.closed t).1)).1.1)), .sl 1 (List.map rS ((purge s.rules s.images s.closed ((nxt s.rules s.images s.closed t).1)).1.2)), .fl (.int .i64 ((purge s.rules s.images s.closed ((nxt s.rules s.images s.closed t).1)).2))]) rfl (og rfl (op_call rfl Try.func15 nm15 rfl (.cons rfl (.d _) (.cons rfl (.d _) (.cons rfl (.d _) (.cons rfl (.d _) .nil)))) (ret_purge s.rules s.images s.closed ((nxt s.rules s.images s.closed t).1) (by omega) (fun q h => by have := g4 q h; omega)) rfl)) ?_
            refine rg_put (d := 94) (v := .tu [.sl 5 (List.map eIm ((purge s.rules s.images s.closed ((nxt s.rules s.images s.closed t).1)).1.1)), .sl 1 (List.map rS ((purge s.rules s.images s.closed ((nxt s.rules s.images s.closed t).1)).1.2)), .fl (.int .i64 ((purge s.rules s.images s.closed ((nxt s.rules s.images s.closed t).1)).2))]) rfl (og rfl (op_move rfl rfl rfl)) ?_
            refine rg_put (d := 103) (v := .d (.sl 5 (List.map eIm ((purge s.rules s.images s.closed ((nxt s.rules s.images s.closed t).1)).1.1)))) rfl (og rfl (op_extract rfl rfl rfl rfl)) ?_
            refine rg_put (d := 104) (v := .d (.sl 1 (List.map rS ((purge s.rules s.images s.closed ((nxt s.rules s.images s.closed t).1)).1.2)))) rfl (og rfl (op_extract rfl rfl rfl rfl)) ?_
            refine rg_put (d := 105) (v := .d (.fl (.int .i64 ((purge s.rules s.images s.closed ((nxt s.rules s.images s.closed t).1)).2)))) rfl (og rfl (op_extract rfl rfl rfl rfl)) ?_
            refine rg_put (d := 15) (v := .d (.sl 5 (List.map eIm ((purge s.rules s.images s.closed ((nxt s.rules s.images s.closed t).1)).1.1)))) rfl (og rfl (op_assign rfl rfl rfl)) ?_
            refine rg_put (d := 16) (v := .d (.sl 1 (List.map rS ((purge s.rules s.images s.closed ((nxt s.rules s.images s.closed t).1)).1.2)))) rfl (og rfl (op_assign rfl rfl rfl)) ?_
            refine rg_put (d := 17) (v := .d (.fl (.int .i64 ((purge s.rules s.images s.closed ((nxt s.rules s.images s.closed t).1)).2)))) rfl (og rfl (op_assign rfl rfl rfl)) ?_
            refine rg_done rfl ?_
            refine a_rseq ?_
            have hx := next_more hz h5 (by omega)
            refine rg_put (d := 106) (v := .d (.fl (.int .i64 ((purge s.rules s.images s.closed ((nxt s.rules s.images s.closed t).1)).2)))) rfl (og rfl (op_move rfl rfl rfl)) ?_
            refine rg_put (d := 107) (v := .d (.fl (.bool (((purge s.rules s.images s.closed ((nxt s.rules s.images s.closed t).1)).2 != 0))))) rfl (og rfl (op_bin rfl rfl rfl (b_neq _ _ _ _) rfl)) ?_
            refine rg_put (d := 108) (v := .d (.fl (.bool (((purge s.rules s.images s.closed ((nxt s.rules s.images s.closed t).1)).2 != 0))))) rfl (og rfl (op_move rfl rfl rfl)) ?_
            refine rg_put (d := 109) (v := .d (.sl 1 (List.map rS ((purge s.rules s.images s.closed ((nxt s.rules s.images s.closed t).1)).1.2)))) rfl (oy rfl rfl rfl (bne_z hx.1) (op_move rfl rfl rfl)) ?_
            refine rg_put (d := 110) (v := .d (.fl (.int .i64 ((((purge s.rules s.images s.closed ((nxt s.rules s.images s.closed t).1)).1.2).length : Int))))) rfl (oy rfl rfl rfl (bne_z hx.1) (s_len rfl Try.underlying23 rfl rfl)) ?_
            refine rg_put (d := 111) (v := .d (.sl 1 (List.map rS ((purge s.rules s.images s.closed t).1.2)))) rfl (oy rfl rfl rfl (bne_z hx.1) (op_move rfl rfl rfl)) ?_
            refine rg_put (d := 112) (v := .d (.fl (.int .i64 ((((purge s.rules s.images s.closed t).1.2).length : Int))))) rfl (oy rfl rfl rfl (bne_z hx.1) (s_len rfl Try.underlying23 rfl rfl)) ?_
            refine rg_put (d := 113) (v := .d (.fl (.bool ((decide ((((purge s.rules s.images s.closed ((nxt s.rules s.images s.closed t).1)).1.2).length : Int) ≤ (((purge s.rules s.images s.closed t).1.2).length : Int))))))) rfl (oy rfl rfl rfl (bne_z hx.1) (op_bin rfl rfl rfl (b_leq _ _ _ _) rfl)) ?_
            refine rg_put (d := 114) (v := .d (.fl (.bool ((decide ((((purge s.rules s.images s.closed ((nxt s.rules s.images s.closed t).1)).1.2).length : Int) ≤ (((purge s.rules s.images s.closed t).1.2).length : Int))))))) rfl (og rfl (op_pick rfl rfl (by rw [(bne_z hx.1)]; rfl) rfl)) ?_
            refine rg_done rfl ?_
            refine a_cond rfl (fun h16 => ?_) (fun h16 => ?_)
            · skip
              have h17 := t_dec h16
              refine a_rseq ?_
              refine rg_put (d := 6) (v := .d (.fl (.bool false))) rfl (og rfl (op_assign rfl rfl rfl)) ?_
              refine rg_done rfl ?_
              refine a_ret ?_
              show ∃ ds, ResL _ _ _ ds ∧ RV.of ds = _
              refine ⟨[.fl (.bool false)], (.cons (.tmp rfl (.d _)) .nil), ?_⟩
              exfalso
              obtain ⟨hx1, hx2⟩ := hx
              omega
            · skip
              have h18 := f_dec h16
              refine a_skip ?_
              show A _ _ _ _ _ _ _
              refine a_rseq ?_
              refine rg_put (d := 115) (v := .d (.fl (.bool true))) rfl (og rfl (op_call rfl Try.func9 nm9 rfl .nil awake_true rfl)) ?_
              refine rg_put (d := 6) (v := .d (.fl (.bool true))) rfl (og rfl (op_assign rfl rfl rfl)) ?_
              refine rg_done rfl ?_
              refine a_ret ?_
              show ∃ ds, ResL _ _ _ ds ∧ RV.of ds = _
              refine ⟨[.fl (.bool true)], (.cons (.tmp rfl (.d _)) .nil), ?_⟩
              rfl
          · skip
            have h19 := f_dec h14
            refine a_skip ?_
            show A _ _ _ _ _ _ _
            refine a_rseq ?_
            refine rg_put (d := 115) (v := .d (.fl (.bool true))) rfl (og rfl (op_call rfl Try.func9 nm9 rfl .nil awake_true rfl)) ?_
            refine rg_put (d := 6) (v := .d (.fl (.bool true))) rfl (og rfl (op_assign rfl rfl rfl)) ?_
            refine rg_done rfl ?_
            refine a_ret ?_
            show ∃ ds, ResL _ _ _ ds ∧ RV.of ds = _
            refine ⟨[.fl (.bool true)], (.cons (.tmp rfl (.d _)) .nil), ?_⟩
            rfl
        · skip
          have h20 := t_dec h12
          refine rg_put (d := 57) (v := .d (.fl (.int .i64 x))) rfl (oy rfl rfl rfl h12 (op_move rfl rfl rfl)) ?_
          refine rg_put (d := 58) (v := .d (.fl (.bool ((decide (x < 68719476736)))))) rfl (oy rfl rfl rfl h12 (op_bin rfl rfl rfl (b_lss _ _ _ _) rfl)) ?_
          refine rg_put (d := 59) (v := .d (.fl (.bool ((decide (x < 68719476736)))))) rfl (og rfl (op_pick rfl rfl (by rw [h12]; rfl) rfl)) ?_
          refine rg_put (d := 60) (v := .d (.fl (.bool ((decide (x < 68719476736)))))) rfl (og rfl (op_move rfl rfl rfl)) ?_
          rcases fot ((decide (x < 68719476736))) with h21 | h21
          · skip
            have h22 := f_dec h21
            refine rg_put (d := 61) (v := .d (.fl undef)) rfl (on rfl rfl rfl h21) ?_
            refine rg_put (d := 62) (v := .d (.fl undef)) rfl (on rfl rfl rfl h21) ?_
            refine rg_put (d := 63) (v := .d (.fl undef)) rfl (on rfl rfl rfl h21) ?_
            refine rg_put (d := 64) (v := .d (.fl undef)) rfl (ou rfl rfl rfl) ?_
            refine rg_put (d := 65) (v := .d (.fl undef)) rfl (ou rfl rfl rfl) ?_
            refine rg_put (d := 66) (v := .d (.fl undef)) rfl (ou rfl rfl rfl) ?_
            refine rg_put (d := 67) (v := .d (.fl undef)) rfl (on rfl rfl rfl h21) ?_
            refine rg_put (d := 68) (v := .d (.fl (.bool false))) rfl (og rfl (op_pick rfl rfl (by rw [h21]; rfl) rfl)) ?_
            refine rg_done rfl ?_
            refine a_condF rfl rfl ?_
            refine a_skip ?_
            show A _ _ _ _ _ _ _
            refine a_seq ?_
            refine a_rseq ?_
            refine rg_put (d := 89) (v := .d (.fl (.bool ((nxt s.rules s.images s.closed t).2)))) rfl (og rfl (op_move rfl rfl rfl)) ?_
            refine rg_put (d := 90) (v := .d (.fl (.bool ((nxt s.rules s.images s.closed t).2)))) rfl (og rfl (op_move rfl rfl rfl)) ?_
            refine rg_put (d := 91) (v := .d (.fl (.int .i64 ((nxt s.rules s.images s.closed t).1)))) rfl (oy rfl rfl rfl h5 (op_move rfl rfl rfl)) ?_
            refine rg_put (d := 92) (v := .d (.fl (.bool ((decide ((nxt s.rules s.images s.closed t).1 < 68719476736)))))) rfl (oy rfl rfl rfl h5 (op_bin rfl rfl rfl (b_lss _ _ _ _) rfl)) ?_
            refine rg_put (d := 93) (v := .d (.fl (.bool ((decide ((nxt s.rules s.images s.closed t).1 < 68719476736)))))) rfl (og rfl (op_pick rfl rfl (by rw [h5]; rfl) rfl)) ?_
            refine rg_done rfl ?_
            refine a_cond rfl (fun h23 => ?_) (fun h23 => ?_)
            · skip
              have h24 := t_dec h23
              refine a_rseq ?_
              refine rg_put (d := 95) (v := .pt 101 0) rfl (og rfl (of_eff (s_field_pt rfl Try.underlying39 rfl ti22 rfl rfl rfl) rfl)) ?_
              refine rg_put (d := 96) (v := .d (.sl 3 (List.map eKp s.rules))) rfl (og rfl (op_load_pt rfl Try.underlying22 rfl rfl rfl rfl rfl)) ?_
              refine rg_put (d := 97) (v := .pt 101 1) rfl (og rfl (of_eff (s_field_pt rfl Try.underlying39 rfl ti36 rfl rfl rfl) rfl)) ?_
              refine rg_put (d := 98) (v := .d (.sl 5 (List.map eIm s.images))) rfl (og rfl (op_load_pt rfl Try.underlying36 rfl rfl rfl rfl rfl)) ?_
              refine rg_put (d := 99) (v := .pt 101 2) rfl (og rfl (of_eff (s_field_pt rfl Try.underlying39 rfl ti37 rfl rfl rfl) rfl)) ?_
              refine rg_put (d := 100) (v := .d (.sl 1 (List.map (rI .i64) s.closed))) rfl (og rfl (op_load_pt rfl Try.underlying37 rfl rfl rfl rfl rfl)) ?_
              refine rg_put (d := 101) (v := .d (.fl (.int .i64 ((nxt s.rules s.images s.closed t).1)))) rfl (og rfl (op_move rfl rfl rfl)) ?_
              refine rg_put (d := 102) (v := .tu [.sl 5 (List.map eIm ((purge s.rules s.images s.closed ((nxt s.rules s.images s.closed t).1)).1.1)), .sl 1 (List.map rS ((purge s.rules s.images s.closed ((nxt s.rules s.images s.closed t).1)).1.2)), .fl (.int .i64 ((purge s.rules s.images s.closed ((nxt s.rules s.images s.closed t).1)).2))]) rfl (og rfl (op_call rfl Try.func15 nm15 rfl (.cons rfl (.d _) (.cons rfl (.d _) (.cons rfl (.d _) (.cons rfl (.d _) .nil)))) (ret_purge s.rules s.images s.closed ((nxt s.rules s.images s.closed t).1) (by omega) (fun q h => by have := g4 q h; omega)) rfl)) ?_
              refine rg_put (d := 94) (v := .tu [.sl 5 (List.map eIm ((purge s.rules s.images s.closed ((nxt s.rules s.images s.closed t).1)).1.1)), .sl 1 (List.map rS ((purge s.rules s.images s.closed ((nxt s.rules s.images s.closed t).1)).1.2)), .fl (.int .i64 ((purge s.rules s.images s.closed ((nxt s.rules s.images s.closed t).1)).2))]) rfl (og rfl (op_move rfl rfl rfl)) ?_
              refine rg_put (d := 103) (v := .d (.sl 5 (List.map eIm ((purge s.rules s.images s.closed ((nxt s.rules s.images s.closed t).1)).1.1)))) rfl (og rfl (op_extract rfl rfl rfl rfl)) ?_
              refine rg_put (d := 104) (v := .d (.sl 1 (List.map rS ((purge s.rules s.images s.closed ((nxt s.rules s.images s.closed t).1)).1.2)))) rfl (og rfl (op_extract rfl rfl rfl rfl)) ?_
              refine rg_put (d := 105) (v := .d (.fl (.int .i64 ((purge s.rules s.images s.closed ((nxt s.rules s.images s.closed t).1)).2)))) rfl (og rfl (op_extract rfl rfl rfl rfl)) ?_
              refine rg_put (d := 15) (v := .d (.sl 5 (List.map eIm ((purge s.rules s.images s.closed ((nxt s.rules s.images s.closed t).1)).1.1)))) rfl (og rfl (op_assign rfl rfl rfl)) ?_
              refine rg_put (d := 16) (v := .d (.sl 1 (List.map rS ((purge s.rules s.images s.closed ((nxt s.rules s.images s.closed t).1)).1.2)))) rfl (og rfl (op_assign rfl rfl rfl)) ?_
              refine rg_put (d := 17) (v := .d (.fl (.int .i64 ((purge s.rules s.images s.closed ((nxt s.rules s.images s.closed t).1)).2)))) rfl (og rfl (op_assign rfl rfl rfl)) ?_
              refine rg_done rfl ?_
              refine a_rseq ?_
              have hx := next_more hz h5 (by omega)
              refine rg_put (d := 106) (v := .d (.fl (.int .i64 ((purge s.rules s.images s.closed ((nxt s.rules s.images s.closed t).1)).2)))) rfl (og rfl (op_move rfl rfl rfl)) ?_
              refine rg_put (d := 107) (v := .d (.fl (.bool (((purge s.rules s.images s.closed ((nxt s.rules s.images s.closed t).1)).2 != 0))))) rfl (og rfl (op_bin rfl rfl rfl (b_neq _ _ _ _) rfl)) ?_
              refine rg_put (d := 108) (v := .d (.fl (.bool (((purge s.rules s.images s.closed ((nxt s.rules s.images s.closed t).1)).2 != 0))))) rfl (og rfl (op_move rfl rfl rfl)) ?_
              refine rg_put (d := 109) (v := .d (.sl 1 (List.map rS ((purge s.rules s.images s.closed ((nxt s.rules s.images s.closed t).1)).1.2)))) rfl (oy rfl rfl rfl (bne_z hx.1) (op_move rfl rfl rfl)) ?_
              refine rg_put (d := 110) (v := .d (.fl (.int .i64 ((((purge s.rules s.images s.closed ((nxt s.rules s.images s.closed t).1)).1.2).length : Int))))) rfl (oy rfl rfl rfl (bne_z hx.1) (s_len rfl Try.underlying23 rfl rfl)) ?_
              refine rg_put (d := 111) (v := .d (.sl 1 (List.map rS ((purge s.rules s.images s.closed t).1.2)))) rfl (oy rfl rfl rfl (bne_z hx.1) (op_move rfl rfl rfl)) ?_
              refine rg_put (d := 112) (v := .d (.fl (.int .i64 ((((purge s.rules s.images s.closed t).1.2).length : Int))))) rfl (oy rfl rfl rfl (bne_z hx.1) (s_len rfl Try.underlying23 rfl rfl)) ?_
              refine rg_put (d := 113) (v := .d (.fl (.bool ((decide ((((purge s.rules s.images s.closed ((nxt s.rules s.images s.closed t).1)).1.2).length : Int) ≤ (((purge s.rules s.images s.closed t).1.2).length : Int))))))) rfl (oy rfl rfl rfl (bne_z hx.1) (op_bin rfl rfl rfl (b_leq _ _ _ _) rfl)) ?_
              refine rg_put (d := 114) (v := .d (.fl (.bool ((decide ((((purge s.rules s.images s.closed ((nxt s.rules s.images s.closed t).1)).1.2).length : Int) ≤ (((purge s.rules s.images s.closed t).1.2).length : Int))))))) rfl (og rfl (op_pick rfl rfl (by rw [(bne_z hx.1)]; rfl) rfl)) ?_
              refine rg_done rfl ?_
              refine a_cond rfl (fun h25 => ?_) (fun h25 => ?_)
              · skip
                have h26 := t_dec h25
                refine a_rseq ?_
                refine rg_put (d := 6) (v := .d (.fl (.bool false))) rfl (og rfl (op_assign rfl rfl rfl)) ?_
                refine rg_done rfl ?_
                refine a_ret ?_
                show ∃ ds, ResL _ _ _ ds ∧ RV.of ds = _
                refine ⟨[.fl (.bool false)], (.cons (.tmp rfl (.d _)) .nil), ?_⟩
                exfalso
                obtain ⟨hx1, hx2⟩ := hx
                omega
              · skip
                have h27 := f_dec h25
                refine a_skip ?_
                show A _ _ _ _ _ _ _
                refine a_rseq ?_
                refine rg_put (d := 115) (v := .d (.fl (.bool true))) rfl (og rfl (op_call rfl Try.func9 nm9 rfl .nil awake_true rfl)) ?_
                refine rg_put (d := 6) (v := .d (.fl (.bool true))) rfl (og rfl (op_assign rfl rfl rfl)) ?_
                refine rg_done rfl ?_
                refine a_ret ?_
                show ∃ ds, ResL _ _ _ ds ∧ RV.of ds = _
                refine ⟨[.fl (.bool true)], (.cons (.tmp rfl (.d _)) .nil), ?_⟩
                rfl
            · skip
              have h28 := f_dec h23
              refine a_skip ?_
              show A _ _ _ _ _ _ _
              refine a_rseq ?_
              refine rg_put (d := 115) (v := .d (.fl (.bool true))) rfl (og rfl (op_call rfl Try.func9 nm9 rfl .nil awake_true rfl)) ?_
              refine rg_put (d := 6) (v := .d (.fl (.bool true))) rfl (og rfl (op_assign rfl rfl rfl)) ?_
              refine rg_done rfl ?_
              refine a_ret ?_
              show ∃ ds, ResL _ _ _ ds ∧ RV.of ds = _
              refine ⟨[.fl (.bool true)], (.cons (.tmp rfl (.d _)) .nil), ?_⟩
              rfl
          · skip
            have h29 := t_dec h21
            refine rg_put (d := 61) (v := .d (.fl (.bool ((nxt s.rules s.images s.closed t).2)))) rfl (oy rfl rfl rfl h21 (op_move rfl rfl rfl)) ?_
            refine rg_put (d := 62) (v := .d (.fl (.bool ((!((nxt s.rules s.images s.closed t).2)))))) rfl (oy rfl rfl rfl h21 (op_un rfl rfl (u_not _) rfl)) ?_
            refine rg_put (d := 63) (v := .d (.fl (.bool ((!((nxt s.rules s.images s.closed t).2)))))) rfl (oy rfl rfl rfl h21 (op_move rfl rfl rfl)) ?_
            refine rg_put (d := 64) (v := .d (.fl (.int .i64 x))) rfl (oy rfl rfl rfl (not_f h5) (op_move rfl rfl rfl)) ?_
            refine rg_put (d := 65) (v := .d (.fl (.int .i64 ((nxt s.rules s.images s.closed t).1)))) rfl (oy rfl rfl rfl (not_f h5) (op_move rfl rfl rfl)) ?_
            refine rg_put (d := 66) (v := .d (.fl (.bool ((decide (x < (nxt s.rules s.images s.closed t).1)))))) rfl (oy rfl rfl rfl (not_f h5) (op_bin rfl rfl rfl (b_lss _ _ _ _) rfl)) ?_
            refine rg_put (d := 67) (v := .d (.fl (.bool ((decide (x < (nxt s.rules s.images s.closed t).1)))))) rfl (oy rfl rfl rfl h21 (op_pick rfl rfl (by rw [(not_f h5)]; rfl) rfl)) ?_
            refine rg_put (d := 68) (v := .d (.fl (.bool ((decide (x < (nxt s.rules s.images s.closed t).1)))))) rfl (og rfl (op_pick rfl rfl (by rw [h21]; rfl) rfl)) ?_
            refine rg_done rfl ?_
            refine a_cond rfl (fun h30 => ?_) (fun h30 => ?_)
            · skip
              have h31 := t_dec h30
              refine a_rseq ?_
              refine rg_put (d := 70) (v := .pt 101 0) rfl (og rfl (of_eff (s_field_pt rfl Try.underlying39 rfl ti22 rfl rfl rfl) rfl)) ?_
              refine rg_put (d := 71) (v := .d (.sl 3 (List.map eKp s.rules))) rfl (og rfl (op_load_pt rfl Try.underlying22 rfl rfl rfl rfl rfl)) ?_
              refine rg_put (d := 72) (v := .pt 101 1) rfl (og rfl (of_eff (s_field_pt rfl Try.underlying39 rfl ti36 rfl rfl rfl) rfl)) ?_
              refine rg_put (d := 73) (v := .d (.sl 5 (List.map eIm s.images))) rfl (og rfl (op_load_pt rfl Try.underlying36 rfl rfl rfl rfl rfl)) ?_
              refine rg_put (d := 74) (v := .pt 101 2) rfl (og rfl (of_eff (s_field_pt rfl Try.underlying39 rfl ti37 rfl rfl rfl) rfl)) ?_
              refine rg_put (d := 75) (v := .d (.sl 1 (List.map (rI .i64) s.closed))) rfl (og rfl (op_load_pt rfl Try.underlying37 rfl rfl rfl rfl rfl)) ?_
              refine rg_put (d := 76) (v := .d (.fl (.int .i64 x))) rfl (og rfl (op_move rfl rfl rfl)) ?_
              refine rg_put (d := 77) (v := .tu [.sl 5 (List.map eIm ((purge s.rules s.images s.closed x).1.1)), .sl 1 (List.map rS ((purge s.rules s.images s.closed x).1.2)), .fl (.int .i64 ((purge s.rules s.images s.closed x).2))]) rfl (og rfl (op_call rfl Try.func15 nm15 rfl (.cons rfl (.d _) (.cons rfl (.d _) (.cons rfl (.d _) (.cons rfl (.d _) .nil)))) (ret_purge s.rules s.images s.closed x (by omega) (fun q h => by have := g4 q h; omega)) rfl)) ?_
              refine rg_put (d := 69) (v := .tu [.sl 5 (List.map eIm ((purge s.rules s.images s.closed x).1.1)), .sl 1 (List.map rS ((purge s.rules s.images s.closed x).1.2)), .fl (.int .i64 ((purge s.rules s.images s.closed x).2))]) rfl (og rfl (op_move rfl rfl rfl)) ?_
              refine rg_put (d := 78) (v := .d (.sl 5 (List.map eIm ((purge s.rules s.images s.closed x).1.1)))) rfl (og rfl (op_extract rfl rfl rfl rfl)) ?_
              refine rg_put (d := 79) (v := .d (.sl 1 (List.map rS ((purge s.rules s.images s.closed x).1.2)))) rfl (og rfl (op_extract rfl rfl rfl rfl)) ?_
              refine rg_put (d := 80) (v := .d (.fl (.int .i64 ((purge s.rules s.images s.closed x).2)))) rfl (og rfl (op_extract rfl rfl rfl rfl)) ?_
              refine rg_put (d := 12) (v := .d (.sl 5 (List.map eIm ((purge s.rules s.images s.closed x).1.1)))) rfl (og rfl (op_assign rfl rfl rfl)) ?_
              refine rg_put (d := 13) (v := .d (.sl 1 (List.map rS ((purge s.rules s.images s.closed x).1.2)))) rfl (og rfl (op_assign rfl rfl rfl)) ?_
              refine rg_put (d := 14) (v := .d (.fl (.int .i64 ((purge s.rules s.images s.closed x).2)))) rfl (og rfl (op_assign rfl rfl rfl)) ?_
              refine rg_done rfl ?_
              refine a_rseq ?_
              have hx := next_same hz (x := x) (by omega) (by omega) (fun _ => by omega)
              refine rg_put (d := 81) (v := .d (.fl (.int .i64 ((purge s.rules s.images s.closed x).2)))) rfl (og rfl (op_move rfl rfl rfl)) ?_
              refine rg_put (d := 82) (v := .d (.fl (.bool (((purge s.rules s.images s.closed x).2 != 0))))) rfl (og rfl (op_bin rfl rfl rfl (b_neq _ _ _ _) rfl)) ?_
              refine rg_put (d := 83) (v := .d (.fl (.bool (((purge s.rules s.images s.closed x).2 != 0))))) rfl (og rfl (op_move rfl rfl rfl)) ?_
              refine rg_put (d := 84) (v := .d (.sl 1 (List.map rS ((purge s.rules s.images s.closed t).1.2)))) rfl (oy rfl rfl rfl (bne_z hx.1) (op_move rfl rfl rfl)) ?_
              refine rg_put (d := 85) (v := .d (.sl 1 (List.map rS ((purge s.rules s.images s.closed x).1.2)))) rfl (oy rfl rfl rfl (bne_z hx.1) (op_move rfl rfl rfl)) ?_
              refine rg_put (d := 86) (v := .d (.fl (.bool true))) rfl (oy rfl rfl rfl (bne_z hx.1) (op_call rfl Try.func20 nm20 rfl (.cons rfl (.d _) (.cons rfl (.d _) .nil)) (texts_eq hx.2 (by omega)) rfl)) ?_
              refine rg_put (d := 87) (v := .d (.fl (.bool (!true)))) rfl (oy rfl rfl rfl (bne_z hx.1) (op_un rfl rfl (u_not _) rfl)) ?_
              refine rg_put (d := 88) (v := .d (.fl (.bool (!true)))) rfl (og rfl (op_pick rfl rfl (by rw [(bne_z hx.1)]; rfl) rfl)) ?_
              refine rg_done rfl ?_
              refine a_condF rfl (not_f rfl) ?_
              refine a_skip ?_
              show A _ _ _ _ _ _ _
              refine a_seq ?_
              refine a_rseq ?_
              refine rg_put (d := 89) (v := .d (.fl (.bool ((nxt s.rules s.images s.closed t).2)))) rfl (og rfl (op_move rfl rfl rfl)) ?_
              refine rg_put (d := 90) (v := .d (.fl (.bool ((nxt s.rules s.images s.closed t).2)))) rfl (og rfl (op_move rfl rfl rfl)) ?_
              refine rg_put (d := 91) (v := .d (.fl (.int .i64 ((nxt s.rules s.images s.closed t).1)))) rfl (oy rfl rfl rfl h5 (op_move rfl rfl rfl)) ?_
              refine rg_put (d := 92) (v := .d (.fl (.bool ((decide ((nxt s.rules s.images s.closed t).1 < 68719476736)))))) rfl (oy rfl rfl rfl h5 (op_bin rfl rfl rfl (b_lss _ _ _ _) rfl)) ?_
              refine rg_put (d := 93) (v := .d (.fl (.bool ((decide ((nxt s.rules s.images s.closed t).1 < 68719476736)))))) rfl (og rfl (op_pick rfl rfl (by rw [h5]; rfl) rfl)) ?_
              refine rg_done rfl ?_
              refine a_cond rfl (fun h32 => ?_) (fun h32 => ?_)
              · skip
                have h33 := t_dec h32
                refine a_rseq ?_
                refine rg_put (d := 95) (v := .pt 101 0) rfl (og rfl (of_eff (s_field_pt rfl Try.underlying39 rfl ti22 rfl rfl rfl) rfl)) ?_
                refine rg_put (d := 96) (v := .d (.sl 3 (List.map eKp s.rules))) rfl (og rfl (op_load_pt rfl Try.underlying22 rfl rfl rfl rfl rfl)) ?_
                refine rg_put (d := 97) (v := .pt 101 1) rfl (og rfl (of_eff (s_field_pt rfl Try.underlying39 rfl ti36 rfl rfl rfl) rfl)) ?_
                refine rg_put (d := 98) (v := .d (.sl 5 (List.map eIm s.images))) rfl (og rfl (op_load_pt rfl Try.underlying36 rfl rfl rfl rfl rfl)) ?_
                refine rg_put (d := 99) (v := .pt 101 2) rfl (og rfl (of_eff (s_field_pt rfl Try.underlying39 rfl ti37 rfl rfl rfl) rfl)) ?_
                refine rg_put (d := 100) (v := .d (.sl 1 (List.map (rI .i64) s.closed))) rfl (og rfl (op_load_pt rfl Try.underlying37 rfl rfl rfl rfl rfl)) ?_
                refine rg_put (d := 101) (v := .d (.fl (.int .i64 ((nxt s.rules s.images s.closed t).1)))) rfl (og rfl (op_move rfl rfl rfl)) ?_
                refine rg_put (d := 102) (v := .tu [.sl 5 (List.map eIm ((purge s.rules s.images s.closed ((nxt s.rules s.images s.closed t).1)).1.1)), .sl 1 (List.map rS ((purge s.rules s.images s.closed ((nxt s.rules s.images s.closed t).1)).1.2)), .fl (.int .i64 ((purge s.rules s.images s.closed ((nxt s.rules s.images s.closed t).1)).2))]) rfl (og rfl (op_call rfl Try.func15 nm15 rfl (.cons rfl (.d _) (.cons rfl (.d _) (.cons rfl (.d _) (.cons rfl (.d _) .nil)))) (ret_purge s.rules s.images s.closed ((nxt s.rules s.images s.closed t).1) (by omega) (fun q h => by have := g4 q h; omega)) rfl)) ?_
                refine rg_put (d := 94) (v := .tu [.sl 5 (List.map eIm ((purge s.rules s.images s.closed ((nxt s.rules s.images s.closed t).1)).1.1)), .sl 1 (List.map rS ((purge s.rules s.images s.closed ((nxt s.rules s.images s.closed t).1)).1.2)), .fl (.int .i64 ((purge s.rules s.images s.closed ((nxt s.rules s.images s.closed t).1)).2))]) rfl (og rfl (op_move rfl rfl rfl)) ?_
                refine rg_put (d := 103) (v := .d (.sl 5 (List.map eIm ((purge s.rules s.images s.closed ((nxt s.rules s.images s.closed t).1)).1.1)))) rfl (og rfl (op_extract rfl rfl rfl rfl)) ?_
                refine rg_put (d := 104) (v := .d (.sl 1 (List.map rS ((purge s.rules s.images s.closed ((nxt s.rules s.images s.closed t).1)).1.2)))) rfl (og rfl (op_extract rfl rfl rfl rfl)) ?_
                refine rg_put (d := 105) (v := .d (.fl (.int .i64 ((purge s.rules s.images s.closed ((nxt s.rules s.images s.closed t).1)).2)))) rfl (og rfl (op_extract rfl rfl rfl rfl)) ?_
                refine rg_put (d := 15) (v := .d (.sl 5 (List.map eIm ((purge s.rules s.images s.closed ((nxt s.rules s.images s.closed t).1)).1.1)))) rfl (og rfl (op_assign rfl rfl rfl)) ?_
                refine rg_put (d := 16) (v := .d (.sl 1 (List.map rS ((purge s.rules s.images s.closed ((nxt s.rules s.images s.closed t).1)).1.2)))) rfl (og rfl (op_assign rfl rfl rfl)) ?_
                refine rg_put (d := 17) (v := .d (.fl (.int .i64 ((purge s.rules s.images s.closed ((nxt s.rules s.images s.closed t).1)).2)))) rfl (og rfl (op_assign rfl rfl rfl)) ?_
                refine rg_done rfl ?_
                refine a_rseq ?_
                have hx := next_more hz h5 (by omega)
                refine rg_put (d := 106) (v := .d (.fl (.int .i64 ((purge s.rules s.images s.closed ((nxt s.rules s.images s.closed t).1)).2)))) rfl (og rfl (op_move rfl rfl rfl)) ?_
                refine rg_put (d := 107) (v := .d (.fl (.bool (((purge s.rules s.images s.closed ((nxt s.rules s.images s.closed t).1)).2 != 0))))) rfl (og rfl (op_bin rfl rfl rfl (b_neq _ _ _ _) rfl)) ?_
                refine rg_put (d := 108) (v := .d (.fl (.bool (((purge s.rules s.images s.closed ((nxt s.rules s.images s.closed t).1)).2 != 0))))) rfl (og rfl (op_move rfl rfl rfl)) ?_
                refine rg_put (d := 109) (v := .d (.sl 1 (List.map rS ((purge s.rules s.images s.closed ((nxt s.rules s.images s.closed t).1)).1.2)))) rfl (oy rfl rfl rfl (bne_z hx.1) (op_move rfl rfl rfl)) ?_
                refine rg_put (d := 110) (v := .d (.fl (.int .i64 ((((purge s.rules s.images s.closed ((nxt s.rules s.images s.closed t).1)).1.2).length : Int))))) rfl (oy rfl rfl rfl (bne_z hx.1) (s_len rfl Try.underlying23 rfl rfl)) ?_
                refine rg_put (d := 111) (v := .d (.sl 1 (List.map rS ((purge s.rules s.images s.closed t).1.2)))) rfl (oy rfl rfl rfl (bne_z hx.1) (op_move rfl rfl rfl)) ?_
                refine rg_put (d := 112) (v := .d (.fl (.int .i64 ((((purge s.rules s.images s.closed t).1.2).length : Int))))) rfl (oy rfl rfl rfl (bne_z hx.1) (s_len rfl Try.underlying23 rfl rfl)) ?_
                refine rg_put (d := 113) (v := .d (.fl (.bool ((decide ((((purge s.rules s.images s.closed ((nxt s.rules s.images s.closed t).1)).1.2).length : Int) ≤ (((purge s.rules s.images s.closed t).1.2).length : Int))))))) rfl (oy rfl rfl rfl (bne_z hx.1) (op_bin rfl rfl rfl (b_leq _ _ _ _) rfl)) ?_
                refine rg_put (d := 114) (v := .d (.fl (.bool ((decide ((((purge s.rules s.images s.closed ((nxt s.rules s.images s.closed t).1)).1.2).length : Int) ≤ (((purge s.rules s.images s.closed t).1.2).length : Int))))))) rfl (og rfl (op_pick rfl rfl (by rw [(bne_z hx.1)]; rfl) rfl)) ?_
                refine rg_done rfl ?_
                refine a_cond rfl (fun h34 => ?_) (fun h34 => ?_)
                · skip
                  have h35 := t_dec h34
                  refine a_rseq ?_
                  refine rg_put (d := 6) (v := .d (.fl (.bool false))) rfl (og rfl (op_assign rfl rfl rfl)) ?_
                  refine rg_done rfl ?_
                  refine a_ret ?_
                  show ∃ ds, ResL _ _ _ ds ∧ RV.of ds = _
                  refine ⟨[.fl (.bool false)], (.cons (.tmp rfl (.d _)) .nil), ?_⟩
                  exfalso
                  obtain ⟨hx1, hx2⟩ := hx
                  omega
                · skip
                  have h36 := f_dec h34
                  refine a_skip ?_
                  show A _ _ _ _ _ _ _
                  refine a_rseq ?_
                  refine rg_put (d := 115) (v := .d (.fl (.bool true))) rfl (og rfl (op_call rfl Try.func9 nm9 rfl .nil awake_true rfl)) ?_
                  refine rg_put (d := 6) (v := .d (.fl (.bool true))) rfl (og rfl (op_assign rfl rfl rfl)) ?_
                  refine rg_done rfl ?_
                  refine a_ret ?_
                  show ∃ ds, ResL _ _ _ ds ∧ RV.of ds = _
                  refine ⟨[.fl (.bool true)], (.cons (.tmp rfl (.d _)) .nil), ?_⟩
                  rfl
              · skip
                have h37 := f_dec h32
                refine a_skip ?_
                show A _ _ _ _ _ _ _
                refine a_rseq ?_
                refine rg_put (d := 115) (v := .d (.fl (.bool true))) rfl (og rfl (op_call rfl Try.func9 nm9 rfl .nil awake_true rfl)) ?_
                refine rg_put (d := 6) (v := .d (.fl (.bool true))) rfl (og rfl (op_assign rfl rfl rfl)) ?_
                refine rg_done rfl ?_
                refine a_ret ?_
                show ∃ ds, ResL _ _ _ ds ∧ RV.of ds = _
                refine ⟨[.fl (.bool true)], (.cons (.tmp rfl (.d _)) .nil), ?_⟩
                rfl
            · skip
              have h38 := f_dec h30
              refine a_skip ?_
              show A _ _ _ _ _ _ _
              refine a_seq ?_
              refine a_rseq ?_
              refine rg_put (d := 89) (v := .d (.fl (.bool ((nxt s.rules s.images s.closed t).2)))) rfl (og rfl (op_move rfl rfl rfl)) ?_
              refine rg_put (d := 90) (v := .d (.fl (.bool ((nxt s.rules s.images s.closed t).2)))) rfl (og rfl (op_move rfl rfl rfl)) ?_
              refine rg_put (d := 91) (v := .d (.fl (.int .i64 ((nxt s.rules s.images s.closed t).1)))) rfl (oy rfl rfl rfl h5 (op_move rfl rfl rfl)) ?_
              refine rg_put (d := 92) (v := .d (.fl (.bool ((decide ((nxt s.rules s.images s.closed t).1 < 68719476736)))))) rfl (oy rfl rfl rfl h5 (op_bin rfl rfl rfl (b_lss _ _ _ _) rfl)) ?_
              refine rg_put (d := 93) (v := .d (.fl (.bool ((decide ((nxt s.rules s.images s.closed t).1 < 68719476736)))))) rfl (og rfl (op_pick rfl rfl (by rw [h5]; rfl) rfl)) ?_
              refine rg_done rfl ?_
              refine a_cond rfl (fun h39 => ?_) (fun h39 => ?_)
              · skip
                have h40 := t_dec h39
                refine a_rseq ?_
                refine rg_put (d := 95) (v := .pt 101 0) rfl (og rfl (of_eff (s_field_pt rfl Try.underlying39 rfl ti22 rfl rfl rfl) rfl)) ?_
                refine rg_put (d := 96) (v := .d (.sl 3 (List.map eKp s.rules))) rfl (og rfl (op_load_pt rfl Try.underlying22 rfl rfl rfl rfl rfl)) ?_
                refine rg_put (d := 97) (v := .pt 101 1) rfl (og rfl (of_eff (s_field_pt rfl Try.underlying39 rfl ti36 rfl rfl rfl) rfl)) ?_
                refine rg_put (d := 98) (v := .d (.sl 5 (List.map eIm s.images))) rfl (og rfl (op_load_pt rfl Try.underlying36 rfl rfl rfl rfl rfl)) ?_
                refine rg_put (d := 99) (v := .pt 101 2) rfl (og rfl (of_eff (s_field_pt rfl Try.underlying39 rfl ti37 rfl rfl rfl) rfl)) ?_
                refine rg_put (d := 100) (v := .d (.sl 1 (List.map (rI .i64) s.closed))) rfl (og rfl (op_load_pt rfl Try.underlying37 rfl rfl rfl rfl rfl)) ?_
                refine rg_put (d := 101) (v := .d (.fl (.int .i64 ((nxt s.rules s.images s.closed t).1)))) rfl (og rfl (op_move rfl rfl rfl)) ?_
                refine rg_put (d := 102) (v := .tu [.sl 5 (List.map eIm ((purge s.rules s.images s.closed ((nxt s.rules s.images s.closed t).1)).1.1)), .sl 1 (List.map rS ((purge s.rules s.images s.closed ((nxt s.rules s.images s.closed t).1)).1.2)), .fl (.int .i64 ((purge s.rules s.images s.closed ((nxt s.rules s.images s.closed t).1)).2))]) rfl (og rfl (op_call rfl Try.func15 nm15 rfl (.cons rfl (.d _) (.cons rfl (.d _) (.cons rfl (.d _) (.cons rfl (.d _) .nil)))) (ret_purge s.rules s.images s.closed ((nxt s.rules s.images s.closed t).1) (by omega) (fun q h => by have := g4 q h; omega)) rfl)) ?_
                refine rg_put (d := 94) (v := .tu [.sl 5 (List.map eIm ((purge s.rules s.images s.closed ((nxt s.rules s.images s.closed t).1)).1.1)), .sl 1 (List.map rS ((purge s.rules s.images s.closed ((nxt s.rules s.images s.closed t).1)).1.2)), .fl (.int .i64 ((purge s.rules s.images s.closed ((nxt s.rules s.images s.closed t).1)).2))]) rfl (og rfl (op_move rfl rfl rfl)) ?_
                refine rg_put (d := 103) (v := .d (.sl 5 (List.map eIm ((purge s.rules s.images s.closed ((nxt s.rules s.images s.closed t).1)).1.1)))) rfl (og rfl (op_extract rfl rfl rfl rfl)) ?_
                refine rg_put (d := 104) (v := .d (.sl 1 (List.map rS ((purge s.rules s.images s.closed ((nxt s.rules s.images s.closed t).1)).1.2)))) rfl (og rfl (op_extract rfl rfl rfl rfl)) ?_
                refine rg_put (d := 105) (v := .d (.fl (.int .i64 ((purge s.rules s.images s.closed ((nxt s.rules s.images s.closed t).1)).2)))) rfl (og rfl (op_extract rfl rfl rfl rfl)) ?_
                refine rg_put (d := 15) (v := .d (.sl 5 (List.map eIm ((purge s.rules s.images s.closed ((nxt s.rules s.images s.closed t).1)).1.1)))) rfl (og rfl (op_assign rfl rfl rfl)) ?_
                refine rg_put (d := 16) (v := .d (.sl 1 (List.map rS ((purge s.rules s.images s.closed ((nxt s.rules s.images s.closed t).1)).1.2)))) rfl (og rfl (op_assign rfl rfl rfl)) ?_
                refine rg_put (d := 17) (v := .d (.fl (.int .i64 ((purge s.rules s.images s.closed ((nxt s.rules s.images s.closed t).1)).2)))) rfl (og rfl (op_assign rfl rfl rfl)) ?_
                refine rg_done rfl ?_
                refine a_rseq ?_
                have hx := next_more hz h5 (by omega)
                refine rg_put (d := 106) (v := .d (.fl (.int .i64 ((purge s.rules s.images s.closed ((nxt s.rules s.images s.closed t).1)).2)))) rfl (og rfl (op_move rfl rfl rfl)) ?_
                refine rg_put (d := 107) (v := .d (.fl (.bool (((purge s.rules s.images s.closed ((nxt s.rules s.images s.closed t).1)).2 != 0))))) rfl (og rfl (op_bin rfl rfl rfl (b_neq _ _ _ _) rfl)) ?_
                refine rg_put (d := 108) (v := .d (.fl (.bool (((purge s.rules s.images s.closed ((nxt s.rules s.images s.closed t).1)).2 != 0))))) rfl (og rfl (op_move rfl rfl rfl)) ?_
                refine rg_put (d := 109) (v := .d (.sl 1 (List.map rS ((purge s.rules s.images s.closed ((nxt s.rules s.images s.closed t).1)).1.2)))) rfl (oy rfl rfl rfl (bne_z hx.1) (op_move rfl rfl rfl)) ?_
                refine rg_put (d := 110) (v := .d (.fl (.int .i64 ((((purge s.rules s.images s.closed ((nxt s.rules s.images s.closed t).1)).1.2).length : Int))))) rfl (oy rfl rfl rfl (bne_z hx.1) (s_len rfl Try.underlying23 rfl rfl)) ?_
                refine rg_put (d := 111) (v := .d (.sl 1 (List.map rS ((purge s.rules s.images s.closed t).1.2)))) rfl (oy rfl rfl rfl (bne_z hx.1) (op_move rfl rfl rfl)) ?_
                refine rg_put (d := 112) (v := .d (.fl (.int .i64 ((((purge s.rules s.images s.closed t).1.2).length : Int))))) rfl (oy rfl rfl rfl (bne_z hx.1) (s_len rfl Try.underlying23 rfl rfl)) ?_
                refine rg_put (d := 113) (v := .d (.fl (.bool ((decide ((((purge s.rules s.images s.closed ((nxt s.rules s.images s.closed t).1)).1.2).length : Int) ≤ (((purge s.rules s.images s.closed t).1.2).length : Int))))))) rfl (oy rfl rfl rfl (bne_z hx.1) (op_bin rfl rfl rfl (b_leq _ _ _ _) rfl)) ?_
                refine rg_put (d := 114) (v := .d (.fl (.bool ((decide ((((purge s.rules s.images s.closed ((nxt s.rules s.images s.closed t).1)).1.2).length : Int) ≤ (((purge s.rules s.images s.closed t).1.2).length : Int))))))) rfl (og rfl (op_pick rfl rfl (by rw [(bne_z hx.1)]; rfl) rfl)) ?_
                refine rg_done rfl ?_
                refine a_cond rfl (fun h41 => ?_) (fun h41 => ?_)
                · skip
                  have h42 := t_dec h41
                  refine a_rseq ?_
                  refine rg_put (d := 6) (v := .d (.fl (.bool false))) rfl (og rfl (op_assign rfl rfl rfl)) ?_
                  refine rg_done rfl ?_
                  refine a_ret ?_
                  show ∃ ds, ResL _ _ _ ds ∧ RV.of ds = _
                  refine ⟨[.fl (.bool false)], (.cons (.tmp rfl (.d _)) .nil), ?_⟩
                  exfalso
                  obtain ⟨hx1, hx2⟩ := hx
                  omega
                · skip
                  have h43 := f_dec h41
                  refine a_skip ?_
                  show A _ _ _ _ _ _ _
                  refine a_rseq ?_
                  refine rg_put (d := 115) (v := .d (.fl (.bool true))) rfl (og rfl (op_call rfl Try.func9 nm9 rfl .nil awake_true rfl)) ?_
                  refine rg_put (d := 6) (v := .d (.fl (.bool true))) rfl (og rfl (op_assign rfl rfl rfl)) ?_
                  refine rg_done rfl ?_
                  refine a_ret ?_
                  show ∃ ds, ResL _ _ _ ds ∧ RV.of ds = _
                  refine ⟨[.fl (.bool true)], (.cons (.tmp rfl (.d _)) .nil), ?_⟩
                  rfl
              · skip
                have h44 := f_dec h39
                refine a_skip ?_
                show A _ _ _ _ _ _ _
                refine a_rseq ?_
                refine rg_put (d := 115) (v := .d (.fl (.bool true))) rfl (og rfl (op_call rfl Try.func9 nm9 rfl .nil awake_true rfl)) ?_
                refine rg_put (d := 6) (v := .d (.fl (.bool true))) rfl (og rfl (op_assign rfl rfl rfl)) ?_
                refine rg_done rfl ?_
                refine a_ret ?_
                show ∃ ds, ResL _ _ _ ds ∧ RV.of ds = _
                refine ⟨[.fl (.bool true)], (.cons (.tmp rfl (.d _)) .nil), ?_⟩
                rfl
end Go.Proofs.Yteplcjhnmmpicaa.Wk
