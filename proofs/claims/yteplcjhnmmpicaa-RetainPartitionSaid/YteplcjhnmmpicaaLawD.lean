/- The law of the parts. No condition. -/
import Derived.Test.YteplcjhnmmpicaaPt
set_option linter.unusedSimpArgs false
set_option linter.unusedVariables false
namespace Go.Proofs.Yteplcjhnmmpicaa.Wk
open Go Go.RowKit Go.Proofs.Yteplcjhnmmpicaa.Av
set_option maxHeartbeats 4000000 in
set_option maxRecDepth 100000 in
theorem law6 (s : Sto) (t : Int) (later : Int) : Ctr Try.prog 6 [.ag (eSto s), .fl (.int .i64 t), .fl (.int .i64 later)] (.d (.fl (.bool true))) := by
  refine ctr (n := 181) (rs := #[.tmp 6]) (L := [(0, .d (.ag (eSto s))), (1, .d (.fl (.int .i64 t))), (2, .d (.fl (.int .i64 later)))]) Try.func6 rfl rfl rfl rfl rfl (fun w0 U0 => ?_)
  refine a_rseq ?_
  refine rg_nam (d := 3) (v := .pt 101 0) (m := 101) (nw := [(101, .bx 39 (eSto s))]) rfl (og rfl (of_eff (op_box 101 rfl rfl rfl rfl) rfl)) rfl ?_
  refine rg_put (d := 6) (v := .d (.fl (.bool false))) rfl (og rfl (op_assign rfl rfl rfl)) ?_
  refine rg_done rfl ?_
  refine a_seq ?_
  refine a_rseq ?_
  refine rg_put (d := 19) (v := .d (.ag (eSto s))) rfl (og rfl (of_eff (s_load_pts rfl Try.underlying39 rfl ti39 rfl rfl rfl rfl) rfl)) ?_
  refine rg_put (d := 20) (v := .d (.fl (.bool (gre s)))) rfl (og rfl (op_call rfl Try.func14 nm14 rfl (.cons rfl (.d _) .nil) (great_is s) rfl)) ?_
  refine rg_put (d := 21) (v := .d (.fl (.bool (gre s)))) rfl (og rfl (op_move rfl rfl rfl)) ?_
  rcases fot (gre s) with h1 | h1
  · skip
    refine rg_put (d := 22) (v := .d (.fl (.int .i64 later))) rfl (oy rfl rfl rfl h1 (op_move rfl rfl rfl)) ?_
    refine rg_put (d := 23) (v := .d (.fl (.int .i64 t))) rfl (oy rfl rfl rfl h1 (op_move rfl rfl rfl)) ?_
    refine rg_put (d := 24) (v := .d (.fl (.bool ((decide (later < t)))))) rfl (oy rfl rfl rfl h1 (op_bin rfl rfl rfl (b_lss _ _ _ _) rfl)) ?_
    refine rg_put (d := 25) (v := .d (.fl (.bool ((decide (later < t)))))) rfl (og rfl (op_pick rfl rfl (by rw [h1]; rfl) rfl)) ?_
    refine rg_done rfl ?_
    refine a_cond rfl (fun h2 => ?_) (fun h2 => ?_)
    · skip
      have h3 := t_dec h2
      refine a_rseq ?_
      refine rg_put (d := 26) (v := .d (.fl (.bool true))) rfl (og rfl (op_call rfl Try.func9 nm9 rfl .nil awake_true rfl)) ?_
      refine rg_put (d := 6) (v := .d (.fl (.bool true))) rfl (og rfl (op_assign rfl rfl rfl)) ?_
      refine rg_done rfl ?_
      refine a_ret ?_
      show ∃ ds, ResL _ _ _ ds ∧ RV.of ds = _
      refine ⟨[.fl (.bool true)], (.cons (.tmp rfl (.d _)) .nil), ?_⟩
      rfl
    · skip
      have h4 := f_dec h2
      refine a_skip ?_
      show A _ _ _ _ _ _ _
      refine a_rseq ?_
      obtain ⟨g1, g2, g3, g4⟩ := gre_f h1
      have hp := purge_ok (l := s.rules) (c := s.closed) t (n := 40) (N := 200) g2 g4
      refine rg_put (d := 28) (v := .pt 101 0) rfl (og rfl (of_eff (s_field_pt rfl Try.underlying39 rfl ti22 rfl rfl rfl) rfl)) ?_
      refine rg_put (d := 29) (v := .d (.sl 3 (List.map eKp s.rules))) rfl (og rfl (op_load_pt rfl Try.underlying22 rfl rfl rfl rfl rfl)) ?_
      refine rg_put (d := 30) (v := .pt 101 1) rfl (og rfl (of_eff (s_field_pt rfl Try.underlying39 rfl ti36 rfl rfl rfl) rfl)) ?_
      refine rg_put (d := 31) (v := .d (.sl 5 (List.map eIm s.images))) rfl (og rfl (op_load_pt rfl Try.underlying36 rfl rfl rfl rfl rfl)) ?_
      refine rg_put (d := 32) (v := .pt 101 2) rfl (og rfl (of_eff (s_field_pt rfl Try.underlying39 rfl ti37 rfl rfl rfl) rfl)) ?_
      refine rg_put (d := 33) (v := .d (.sl 1 (List.map (rI .i64) s.closed))) rfl (og rfl (op_load_pt rfl Try.underlying37 rfl rfl rfl rfl rfl)) ?_
      refine rg_put (d := 34) (v := .d (.fl (.int .i64 t))) rfl (og rfl (op_move rfl rfl rfl)) ?_
      refine rg_put (d := 35) (v := .tu [.sl 5 (List.map eIm ((purge s.rules s.images s.closed t).1.1)), .sl 1 (List.map rS ((purge s.rules s.images s.closed t).1.2)), .fl (.int .i64 ((purge s.rules s.images s.closed t).2))]) rfl (og rfl (op_call rfl Try.func15 nm15 rfl (.cons rfl (.d _) (.cons rfl (.d _) (.cons rfl (.d _) (.cons rfl (.d _) .nil)))) (ret_purge s.rules s.images s.closed t (by omega) (fun q h => by have := g4 q h; omega)) rfl)) ?_
      refine rg_put (d := 27) (v := .tu [.sl 5 (List.map eIm ((purge s.rules s.images s.closed t).1.1)), .sl 1 (List.map rS ((purge s.rules s.images s.closed t).1.2)), .fl (.int .i64 ((purge s.rules s.images s.closed t).2))]) rfl (og rfl (op_move rfl rfl rfl)) ?_
      refine rg_put (d := 36) (v := .d (.sl 5 (List.map eIm ((purge s.rules s.images s.closed t).1.1)))) rfl (og rfl (op_extract rfl rfl rfl rfl)) ?_
      refine rg_put (d := 37) (v := .d (.sl 1 (List.map rS ((purge s.rules s.images s.closed t).1.2)))) rfl (og rfl (op_extract rfl rfl rfl rfl)) ?_
      refine rg_put (d := 38) (v := .d (.fl (.int .i64 ((purge s.rules s.images s.closed t).2)))) rfl (og rfl (op_extract rfl rfl rfl rfl)) ?_
      refine rg_put (d := 7) (v := .d (.sl 5 (List.map eIm ((purge s.rules s.images s.closed t).1.1)))) rfl (og rfl (op_assign rfl rfl rfl)) ?_
      refine rg_put (d := 8) (v := .d (.sl 1 (List.map rS ((purge s.rules s.images s.closed t).1.2)))) rfl (og rfl (op_assign rfl rfl rfl)) ?_
      refine rg_put (d := 9) (v := .d (.fl (.int .i64 ((purge s.rules s.images s.closed t).2)))) rfl (og rfl (op_assign rfl rfl rfl)) ?_
      refine rg_done rfl ?_
      refine a_seq ?_
      refine a_rseq ?_
      refine rg_put (d := 39) (v := .d (.fl (.int .i64 ((purge s.rules s.images s.closed t).2)))) rfl (og rfl (op_move rfl rfl rfl)) ?_
      refine rg_put (d := 40) (v := .d (.fl (.bool (((purge s.rules s.images s.closed t).2 != 0))))) rfl (og rfl (op_bin rfl rfl rfl (b_neq _ _ _ _) rfl)) ?_
      refine rg_done rfl ?_
      refine a_cond rfl (fun h5 => ?_) (fun h5 => ?_)
      · skip
        have h6 := t_bne h5
        refine a_rseq ?_
        refine rg_put (d := 41) (v := .d (.sl 5 (List.map eIm ((purge s.rules s.images s.closed t).1.1)))) rfl (og rfl (op_move rfl rfl rfl)) ?_
        refine rg_put (d := 42) (v := .d (.fl (.int .i64 ((((purge s.rules s.images s.closed t).1.1).length : Int))))) rfl (og rfl (s_len rfl Try.underlying36 rfl rfl)) ?_
        refine rg_put (d := 43) (v := .d (.fl (.bool (((((purge s.rules s.images s.closed t).1.1).length : Int) == 0))))) rfl (og rfl (op_bin rfl rfl rfl (b_eql _ _ _ _) rfl)) ?_
        refine rg_put (d := 44) (v := .d (.fl (.bool (((((purge s.rules s.images s.closed t).1.1).length : Int) == 0))))) rfl (og rfl (op_move rfl rfl rfl)) ?_
        rcases fot (((((purge s.rules s.images s.closed t).1.1).length : Int) == 0)) with h7 | h7
        · skip
          have h8 := f_beq h7
          refine rg_put (d := 45) (v := .d (.fl undef)) rfl (on rfl rfl rfl h7) ?_
          refine rg_put (d := 46) (v := .d (.fl undef)) rfl (on rfl rfl rfl h7) ?_
          refine rg_put (d := 47) (v := .d (.fl undef)) rfl (on rfl rfl rfl h7) ?_
          refine rg_put (d := 48) (v := .d (.fl (.bool false))) rfl (og rfl (op_pick rfl rfl (by rw [h7]; rfl) rfl)) ?_
          refine rg_put (d := 49) (v := .d (.fl (.bool false))) rfl (og rfl (op_move rfl rfl rfl)) ?_
          refine rg_put (d := 50) (v := .d (.fl undef)) rfl (on rfl rfl rfl rfl) ?_
          refine rg_put (d := 51) (v := .d (.fl (.bool false))) rfl (og rfl (op_pick rfl rfl rfl rfl)) ?_
          refine rg_put (d := 6) (v := .d (.fl (.bool false))) rfl (og rfl (op_assign rfl rfl rfl)) ?_
          refine rg_done rfl ?_
          refine a_ret ?_
          show ∃ ds, ResL _ _ _ ds ∧ RV.of ds = _
          refine ⟨[.fl (.bool false)], (.cons (.tmp rfl (.d _)) .nil), ?_⟩
          exfalso
          obtain ⟨hx1, hx2⟩ := purge_bad (t_bne h5)
          omega
        · skip
          have h9 := t_beq h7
          refine rg_put (d := 45) (v := .d (.sl 1 (List.map rS ((purge s.rules s.images s.closed t).1.2)))) rfl (oy rfl rfl rfl h7 (op_move rfl rfl rfl)) ?_
          refine rg_put (d := 46) (v := .d (.fl (.int .i64 ((((purge s.rules s.images s.closed t).1.2).length : Int))))) rfl (oy rfl rfl rfl h7 (s_len rfl Try.underlying23 rfl rfl)) ?_
          refine rg_put (d := 47) (v := .d (.fl (.bool (((((purge s.rules s.images s.closed t).1.2).length : Int) == 0))))) rfl (oy rfl rfl rfl h7 (op_bin rfl rfl rfl (b_eql _ _ _ _) rfl)) ?_
          refine rg_put (d := 48) (v := .d (.fl (.bool (((((purge s.rules s.images s.closed t).1.2).length : Int) == 0))))) rfl (og rfl (op_pick rfl rfl (by rw [h7]; rfl) rfl)) ?_
          refine rg_put (d := 49) (v := .d (.fl (.bool (((((purge s.rules s.images s.closed t).1.2).length : Int) == 0))))) rfl (og rfl (op_move rfl rfl rfl)) ?_
          rcases fot (((((purge s.rules s.images s.closed t).1.2).length : Int) == 0)) with h10 | h10
          · skip
            have h11 := f_beq h10
            refine rg_put (d := 50) (v := .d (.fl undef)) rfl (on rfl rfl rfl h10) ?_
            refine rg_put (d := 51) (v := .d (.fl (.bool false))) rfl (og rfl (op_pick rfl rfl (by rw [h10]; rfl) rfl)) ?_
            refine rg_put (d := 6) (v := .d (.fl (.bool false))) rfl (og rfl (op_assign rfl rfl rfl)) ?_
            refine rg_done rfl ?_
            refine a_ret ?_
            show ∃ ds, ResL _ _ _ ds ∧ RV.of ds = _
            refine ⟨[.fl (.bool false)], (.cons (.tmp rfl (.d _)) .nil), ?_⟩
            exfalso
            obtain ⟨hx1, hx2⟩ := purge_bad (t_bne h5)
            omega
          · skip
            have h12 := t_beq h10
            refine rg_put (d := 50) (v := .d (.fl (.bool true))) rfl (oy rfl rfl rfl h10 (op_call rfl Try.func9 nm9 rfl .nil awake_true rfl)) ?_
            refine rg_put (d := 51) (v := .d (.fl (.bool true))) rfl (og rfl (op_pick rfl rfl (by rw [h10]; rfl) rfl)) ?_
            refine rg_put (d := 6) (v := .d (.fl (.bool true))) rfl (og rfl (op_assign rfl rfl rfl)) ?_
            refine rg_done rfl ?_
            refine a_ret ?_
            show ∃ ds, ResL _ _ _ ds ∧ RV.of ds = _
            refine ⟨[.fl (.bool true)], (.cons (.tmp rfl (.d _)) .nil), ?_⟩
            rfl
      · skip
        have h13 := f_bne h5
        refine a_skip ?_
        show A _ _ _ _ _ _ _
        refine a_seq ?_
        refine a_rseq ?_
        have hz := PZ.of (f_bne h5)
        have hlen := part_len hz
        have hcl := f_bne hz.hb
        refine rg_put (d := 52) (v := .pt 101 2) rfl (og rfl (of_eff (s_field_pt rfl Try.underlying39 rfl ti37 rfl rfl rfl) rfl)) ?_
        refine rg_put (d := 53) (v := .d (.sl 1 (List.map (rI .i64) s.closed))) rfl (og rfl (op_load_pt rfl Try.underlying37 rfl rfl rfl rfl rfl)) ?_
        refine rg_put (d := 54) (v := .d (.fl (.int .i64 (s.closed.length : Int)))) rfl (og rfl (s_len rfl Try.underlying37 rfl rfl)) ?_
        refine rg_put (d := 55) (v := .pt 101 1) rfl (og rfl (of_eff (s_field_pt rfl Try.underlying39 rfl ti36 rfl rfl rfl) rfl)) ?_
        refine rg_put (d := 56) (v := .d (.sl 5 (List.map eIm s.images))) rfl (og rfl (op_load_pt rfl Try.underlying36 rfl rfl rfl rfl rfl)) ?_
        refine rg_put (d := 57) (v := .d (.fl (.int .i64 (s.images.length : Int)))) rfl (og rfl (s_len rfl Try.underlying36 rfl rfl)) ?_
        refine rg_put (d := 58) (v := .d (.fl (.bool (((s.closed.length : Int) != (s.images.length : Int)))))) rfl (og rfl (op_bin rfl rfl rfl (b_neq _ _ _ _) rfl)) ?_
        refine rg_put (d := 59) (v := .d (.fl (.bool (((s.closed.length : Int) != (s.images.length : Int)))))) rfl (og rfl (op_move rfl rfl rfl)) ?_
        refine rg_put (d := 60) (v := .d (.sl 5 (List.map eIm ((purge s.rules s.images s.closed t).1.1)))) rfl (oy rfl rfl rfl hz.hb (op_move rfl rfl rfl)) ?_
        refine rg_put (d := 61) (v := .d (.fl (.int .i64 ((((purge s.rules s.images s.closed t).1.1).length : Int))))) rfl (oy rfl rfl rfl hz.hb (s_len rfl Try.underlying36 rfl rfl)) ?_
        refine rg_put (d := 62) (v := .d (.sl 1 (List.map rS ((purge s.rules s.images s.closed t).1.2)))) rfl (oy rfl rfl rfl hz.hb (op_move rfl rfl rfl)) ?_
        refine rg_put (d := 63) (v := .d (.fl (.int .i64 ((((purge s.rules s.images s.closed t).1.2).length : Int))))) rfl (oy rfl rfl rfl hz.hb (s_len rfl Try.underlying23 rfl rfl)) ?_
        refine rg_put (d := 64) (v := .d (.fl (.int .i64 (((((purge s.rules s.images s.closed t).1.1).length : Int) + (((purge s.rules s.images s.closed t).1.2).length : Int)))))) rfl (oy rfl rfl rfl hz.hb (op_bin rfl rfl rfl (fun x y w => b_add64 _ _ _ x y w (by omega)) rfl)) ?_
        refine rg_put (d := 65) (v := .pt 101 1) rfl (oy rfl rfl rfl hz.hb (of_eff (s_field_pt rfl Try.underlying39 rfl ti36 rfl rfl rfl) rfl)) ?_
        refine rg_put (d := 66) (v := .d (.sl 5 (List.map eIm s.images))) rfl (oy rfl rfl rfl hz.hb (op_load_pt rfl Try.underlying36 rfl rfl rfl rfl rfl)) ?_
        refine rg_put (d := 67) (v := .d (.fl (.int .i64 (s.images.length : Int)))) rfl (oy rfl rfl rfl hz.hb (s_len rfl Try.underlying36 rfl rfl)) ?_
        refine rg_put (d := 68) (v := .d (.fl (.bool ((((((purge s.rules s.images s.closed t).1.1).length : Int) + (((purge s.rules s.images s.closed t).1.2).length : Int)) != (s.images.length : Int)))))) rfl (oy rfl rfl rfl hz.hb (op_bin rfl rfl rfl (b_neq _ _ _ _) rfl)) ?_
        refine rg_put (d := 69) (v := .d (.fl (.bool ((((((purge s.rules s.images s.closed t).1.1).length : Int) + (((purge s.rules s.images s.closed t).1.2).length : Int)) != (s.images.length : Int)))))) rfl (og rfl (op_pick rfl rfl (by rw [hz.hb]; rfl) rfl)) ?_
        refine rg_done rfl ?_
        refine a_cond rfl (fun h14 => ?_) (fun h14 => ?_)
        · skip
          have h15 := t_bne h14
          refine a_rseq ?_
          refine rg_put (d := 6) (v := .d (.fl (.bool false))) rfl (og rfl (op_assign rfl rfl rfl)) ?_
          refine rg_done rfl ?_
          refine a_ret ?_
          show ∃ ds, ResL _ _ _ ds ∧ RV.of ds = _
          refine ⟨[.fl (.bool false)], (.cons (.tmp rfl (.d _)) .nil), ?_⟩
          exfalso
          omega
        · skip
          have h16 := f_bne h14
          refine a_skip ?_
          show A _ _ _ _ _ _ _
          refine a_rseq ?_
          refine rg_put (d := 71) (v := .pt 101 0) rfl (og rfl (of_eff (s_field_pt rfl Try.underlying39 rfl ti22 rfl rfl rfl) rfl)) ?_
          refine rg_put (d := 72) (v := .d (.sl 3 (List.map eKp s.rules))) rfl (og rfl (op_load_pt rfl Try.underlying22 rfl rfl rfl rfl rfl)) ?_
          refine rg_put (d := 73) (v := .pt 101 1) rfl (og rfl (of_eff (s_field_pt rfl Try.underlying39 rfl ti36 rfl rfl rfl) rfl)) ?_
          refine rg_put (d := 74) (v := .d (.sl 5 (List.map eIm s.images))) rfl (og rfl (op_load_pt rfl Try.underlying36 rfl rfl rfl rfl rfl)) ?_
          refine rg_put (d := 75) (v := .pt 101 2) rfl (og rfl (of_eff (s_field_pt rfl Try.underlying39 rfl ti37 rfl rfl rfl) rfl)) ?_
          refine rg_put (d := 76) (v := .d (.sl 1 (List.map (rI .i64) s.closed))) rfl (og rfl (op_load_pt rfl Try.underlying37 rfl rfl rfl rfl rfl)) ?_
          refine rg_put (d := 77) (v := .d (.fl (.int .i64 later))) rfl (og rfl (op_move rfl rfl rfl)) ?_
          refine rg_put (d := 78) (v := .tu [.sl 5 (List.map eIm ((purge s.rules s.images s.closed later).1.1)), .sl 1 (List.map rS ((purge s.rules s.images s.closed later).1.2)), .fl (.int .i64 ((purge s.rules s.images s.closed later).2))]) rfl (og rfl (op_call rfl Try.func15 nm15 rfl (.cons rfl (.d _) (.cons rfl (.d _) (.cons rfl (.d _) (.cons rfl (.d _) .nil)))) (ret_purge s.rules s.images s.closed later (by omega) (fun q h => by have := g4 q h; omega)) rfl)) ?_
          refine rg_put (d := 70) (v := .tu [.sl 5 (List.map eIm ((purge s.rules s.images s.closed later).1.1)), .sl 1 (List.map rS ((purge s.rules s.images s.closed later).1.2)), .fl (.int .i64 ((purge s.rules s.images s.closed later).2))]) rfl (og rfl (op_move rfl rfl rfl)) ?_
          refine rg_put (d := 79) (v := .d (.sl 5 (List.map eIm ((purge s.rules s.images s.closed later).1.1)))) rfl (og rfl (op_extract rfl rfl rfl rfl)) ?_
          refine rg_put (d := 80) (v := .d (.sl 1 (List.map rS ((purge s.rules s.images s.closed later).1.2)))) rfl (og rfl (op_extract rfl rfl rfl rfl)) ?_
          refine rg_put (d := 81) (v := .d (.fl (.int .i64 ((purge s.rules s.images s.closed later).2)))) rfl (og rfl (op_extract rfl rfl rfl rfl)) ?_
          refine rg_put (d := 10) (v := .d (.sl 5 (List.map eIm ((purge s.rules s.images s.closed later).1.1)))) rfl (og rfl (op_assign rfl rfl rfl)) ?_
          refine rg_put (d := 11) (v := .d (.sl 1 (List.map rS ((purge s.rules s.images s.closed later).1.2)))) rfl (og rfl (op_assign rfl rfl rfl)) ?_
          refine rg_put (d := 12) (v := .d (.fl (.int .i64 ((purge s.rules s.images s.closed later).2)))) rfl (og rfl (op_assign rfl rfl rfl)) ?_
          refine rg_done rfl ?_
          refine a_seq ?_
          refine a_rseq ?_
          refine rg_put (d := 82) (v := .d (.fl (.int .i64 later))) rfl (og rfl (op_move rfl rfl rfl)) ?_
          refine rg_put (d := 83) (v := .d (.fl (.bool ((decide (later < 68719476736)))))) rfl (og rfl (op_bin rfl rfl rfl (b_lss _ _ _ _) rfl)) ?_
          refine rg_put (d := 84) (v := .d (.fl (.bool ((decide (later < 68719476736)))))) rfl (og rfl (op_move rfl rfl rfl)) ?_
          rcases fot ((decide (later < 68719476736))) with h17 | h17
          · skip
            have h18 := f_dec h17
            refine rg_put (d := 85) (v := .d (.fl undef)) rfl (on rfl rfl rfl h17) ?_
            refine rg_put (d := 86) (v := .d (.fl undef)) rfl (on rfl rfl rfl h17) ?_
            refine rg_put (d := 87) (v := .d (.fl undef)) rfl (on rfl rfl rfl h17) ?_
            refine rg_put (d := 88) (v := .d (.fl undef)) rfl (ou rfl rfl rfl) ?_
            refine rg_put (d := 89) (v := .d (.fl undef)) rfl (ou rfl rfl rfl) ?_
            refine rg_put (d := 90) (v := .d (.fl undef)) rfl (ou rfl rfl rfl) ?_
            refine rg_put (d := 91) (v := .d (.fl undef)) rfl (ou rfl rfl rfl) ?_
            refine rg_put (d := 92) (v := .d (.fl undef)) rfl (ou rfl rfl rfl) ?_
            refine rg_put (d := 93) (v := .d (.fl undef)) rfl (on rfl rfl rfl h17) ?_
            refine rg_put (d := 94) (v := .d (.fl undef)) rfl (on rfl rfl rfl h17) ?_
            refine rg_put (d := 95) (v := .d (.fl undef)) rfl (ou rfl rfl rfl) ?_
            refine rg_put (d := 96) (v := .d (.fl undef)) rfl (ou rfl rfl rfl) ?_
            refine rg_put (d := 97) (v := .d (.fl undef)) rfl (ou rfl rfl rfl) ?_
            refine rg_put (d := 98) (v := .d (.fl undef)) rfl (ou rfl rfl rfl) ?_
            refine rg_put (d := 99) (v := .d (.fl undef)) rfl (ou rfl rfl rfl) ?_
            refine rg_put (d := 100) (v := .d (.fl undef)) rfl (on rfl rfl rfl h17) ?_
            refine rg_put (d := 101) (v := .d (.fl (.bool false))) rfl (og rfl (op_pick rfl rfl (by rw [h17]; rfl) rfl)) ?_
            refine rg_done rfl ?_
            refine a_condF rfl rfl ?_
            refine a_skip ?_
            show A _ _ _ _ _ _ _
            refine a_rseq ?_
            refine rg_put (d := 13) (v := .d (.fl (.int .i64 0))) rfl (og rfl (op_assign rfl rfl rfl)) ?_
            refine rg_put (d := 14) (v := .d (.fl (.int .i64 0))) rfl (og rfl (op_assign rfl rfl rfl)) ?_
            refine rg_done rfl ?_
            refine a_seq ?_
            refine a_rseq ?_
            refine rg_put (d := 102) (v := .pt 101 1) rfl (og rfl (of_eff (s_field_pt rfl Try.underlying39 rfl ti36 rfl rfl rfl) rfl)) ?_
            refine rg_put (d := 103) (v := .d (.sl 5 (List.map eIm s.images))) rfl (og rfl (op_load_pt rfl Try.underlying36 rfl rfl rfl rfl rfl)) ?_
            refine rg_put (d := 104) (v := .d (.fl (.int .i64 (s.images.length : Int)))) rfl (og rfl (s_len rfl Try.underlying36 rfl rfl)) ?_
            refine rg_put (d := 105) (v := .d (.fl (.int .i64 0))) rfl (og rfl (op_move rfl rfl rfl)) ?_
            refine rg_done rfl ?_
            refine a_block ?_
            refine a_loop (ι := Nat) (fun k => SS [(0, .d (.ag (eSto s))), (1, .d (.fl (.int .i64 t))), (2, .d (.fl (.int .i64 later))), (3, .pt 101 0), (7, .d (.sl 5 (List.map eIm ((purge s.rules s.images s.closed t).1.1)))), (8, .d (.sl 1 (List.map rS ((purge s.rules s.images s.closed t).1.2)))), (9, .d (.fl (.int .i64 ((purge s.rules s.images s.closed t).2)))), (10, .d (.sl 5 (List.map eIm ((purge s.rules s.images s.closed later).1.1)))), (11, .d (.sl 1 (List.map rS ((purge s.rules s.images s.closed later).1.2)))), (12, .d (.fl (.int .i64 ((purge s.rules s.images s.closed later).2)))), (25, .d (.fl (.bool ((decide (later < t)))))), (40, .d (.fl (.bool (((purge s.rules s.images s.closed t).2 != 0))))), (69, .d (.fl (.bool ((((((purge s.rules s.images s.closed t).1.1).length : Int) + (((purge s.rules s.images s.closed t).1.2).length : Int)) != (s.images.length : Int)))))), (101, .d (.fl (.bool false))), (103, .d (.sl 5 (List.map eIm s.images))), (104, .d (.fl (.int .i64 (s.images.length : Int)))), (105, .d (.fl (.int .i64 (k : Int)))), (13, .d (.fl (.int .i64 (((kA s.rules s.images s.closed t k).length : Int))))), (14, .d (.fl (.int .i64 (((kB s.rules s.images s.closed t k).length : Int)))))] [(101, .bx 39 (eSto s))]) (fun k => k ≤ s.images.length) (fun k => s.images.length - k) 0 (by omega) (imp_forget rfl ⟨rfl, rfl, rfl, rfl, rfl, rfl, rfl, rfl, rfl, rfl, rfl, rfl, rfl, rfl, rfl, rfl, (by first | rfl | exact ci (by omega) | exact ci (by simp) | exact cd (by simp) | simp), (by first | rfl | exact ci (by omega) | exact ci (by simp) | exact cd (by simp) | simp), (by first | rfl | exact ci (by omega) | exact ci (by simp) | exact cd (by simp) | simp), trivial⟩ ⟨rfl, trivial⟩) (fun k hok => ?_)
            have hk := hok
            have hka := kA_len (l := s.rules) (m := s.images) (c := s.closed) (t := t) k
            have hkb := kB_len (l := s.rules) (m := s.images) (c := s.closed) (t := t) k
            refine a_rseq ?_
            refine rg_put (d := 106) (v := .d (.fl (.bool ((decide ((k : Int) < (s.images.length : Int))))))) rfl (og rfl (op_bin rfl rfl rfl (b_lss _ _ _ _) rfl)) ?_
            refine rg_done rfl ?_
            refine a_seq ?_
            refine a_cond rfl (fun h19 => ?_) (fun h19 => ?_)
            · skip
              have h20 := t_dec h19
              refine a_skip ?_
              show A _ _ _ _ _ _ _
              refine a_seq ?_
              refine a_block ?_
              refine a_rseq ?_
              refine rg_put (d := 107) (v := .d (.fl (.int .i64 (k : Int)))) rfl (og rfl (op_move rfl rfl rfl)) ?_
              refine rg_put (d := 108) (v := .el ((eIm (ix s.images k)))) rfl (og rfl (s_index rfl Try.underlying36 ti26 rfl rfl (by omega) (row_at (by omega)) rfl)) ?_
              refine rg_put (d := 109) (v := .d (.ag (eIm (ix s.images k)))) rfl (og rfl (of_eff (s_load_els rfl Try.underlying26 rfl ti26 rfl rfl rfl) rfl)) ?_
              refine rg_nam (d := 16) (v := .pt 102 0) (m := 102) (nw := [(102, .bx 26 ([.fl (.string (⟨#[]⟩)), .fl (.int .i64 0), .fl (.int .i64 0), .fl (.slice none 0 0), .fl (.int .u64 0)]))]) rfl (og rfl (of_eff (s_alloc 102 rfl ti26 (by kernel_rfl) rfl) rfl)) rfl ?_
              refine rg_put (d := 15) (v := .d (.fl (.int .i64 (k : Int)))) rfl (og rfl (op_assign rfl rfl rfl)) ?_
              refine rg_sto (nw := [(102, .bx 26 ((eIm (ix s.images k))))]) rfl (og rfl (of_eff (s_store rfl rfl ti26 rfl rfl rfl rfl rfl rfl) rfl)) ?_
              refine rg_done rfl ?_
              refine a_dseq (by kernel_rfl) ?_
              refine dr_put (d := 111) (v := .pt 101 0) rfl (og rfl (of_eff (s_field_pt rfl Try.underlying39 rfl ti22 rfl rfl rfl) rfl)) ?_
              refine dr_put (d := 112) (v := .d (.sl 3 (List.map eKp s.rules))) rfl (og rfl (op_load_pt rfl Try.underlying22 rfl rfl rfl rfl rfl)) ?_
              refine dr_put (d := 113) (v := .d (.ag (eIm (ix s.images k)))) rfl (og rfl (of_eff (s_load_pts rfl Try.underlying26 rfl ti26 rfl rfl rfl rfl) rfl)) ?_
              refine dr_put (d := 114) (v := .pt 101 2) rfl (og rfl (of_eff (s_field_pt rfl Try.underlying39 rfl ti37 rfl rfl rfl) rfl)) ?_
              refine dr_put (d := 115) (v := .d (.sl 1 (List.map (rI .i64) s.closed))) rfl (og rfl (op_load_pt rfl Try.underlying37 rfl rfl rfl rfl rfl)) ?_
              refine dr_put (d := 116) (v := .d (.fl (.int .i64 (k : Int)))) rfl (og rfl (op_move rfl rfl rfl)) ?_
              refine dr_put (d := 117) (v := .el ((rI .i64 (ix s.closed k)))) rfl (og rfl (s_index rfl Try.underlying37 ti3 rfl rfl (by omega) (row_at (by omega)) rfl)) ?_
              refine dr_put (d := 118) (v := .d (.fl (.int .i64 (ix s.closed k)))) rfl (og rfl (op_load_el rfl Try.underlying3 rfl rfl rfl rfl)) ?_
              refine dr_put (d := 119) (v := .tu [.fl (.int .i64 ((unt s.rules (ix s.images k) (ix s.closed k)).1)), .fl (.int .i64 ((unt s.rules (ix s.images k) (ix s.closed k)).2))]) rfl (og rfl (op_call rfl Try.func10 nm10 rfl (.cons rfl (.d _) (.cons rfl (.d _) (.cons rfl (.d _) .nil))) (ret_until s.rules (ix s.images k) (ix s.closed k)) rfl)) ?_
              refine dr_put (d := 110) (v := .tu [.fl (.int .i64 ((unt s.rules (ix s.images k) (ix s.closed k)).1)), .fl (.int .i64 ((unt s.rules (ix s.images k) (ix s.closed k)).2))]) rfl (og rfl (op_move rfl rfl rfl)) ?_
              refine dr_put (d := 120) (v := .d (.fl (.int .i64 ((unt s.rules (ix s.images k) (ix s.closed k)).1)))) rfl (og rfl (op_extract rfl rfl rfl rfl)) ?_
              refine dr_put (d := 121) (v := .d (.fl (.int .i64 ((unt s.rules (ix s.images k) (ix s.closed k)).2)))) rfl (og rfl (op_extract rfl rfl rfl rfl)) ?_
              refine dr_put (d := 17) (v := .d (.fl (.int .i64 ((unt s.rules (ix s.images k) (ix s.closed k)).1)))) rfl (og rfl (op_assign rfl rfl rfl)) ?_
              refine dr_put (d := 18) (v := .d (.fl (.int .i64 ((unt s.rules (ix s.images k) (ix s.closed k)).2)))) rfl (og rfl (op_assign rfl rfl rfl)) ?_
              refine dr_done rfl (by kernel_rfl) (by kernel_rfl) ?_
              refine a_seq ?_
              refine a_rseq ?_
              refine rg_put (d := 122) (v := .d (.fl (.int .i64 ((unt s.rules (ix s.images k) (ix s.closed k)).2)))) rfl (og rfl (op_move rfl rfl rfl)) ?_
              refine rg_put (d := 123) (v := .d (.fl (.bool (((unt s.rules (ix s.images k) (ix s.closed k)).2 == 0))))) rfl (og rfl (op_bin rfl rfl rfl (b_eql _ _ _ _) rfl)) ?_
              refine rg_put (d := 124) (v := .d (.fl (.bool (((unt s.rules (ix s.images k) (ix s.closed k)).2 == 0))))) rfl (og rfl (op_move rfl rfl rfl)) ?_
              rcases fot (((unt s.rules (ix s.images k) (ix s.closed k)).2 == 0)) with h21 | h21
              · skip
                have h22 := f_beq h21
                refine rg_put (d := 125) (v := .d (.fl undef)) rfl (on rfl rfl rfl h21) ?_
                refine rg_put (d := 126) (v := .d (.fl undef)) rfl (on rfl rfl rfl h21) ?_
                refine rg_put (d := 127) (v := .d (.fl undef)) rfl (on rfl rfl rfl h21) ?_
                refine rg_put (d := 128) (v := .d (.fl (.bool false))) rfl (og rfl (op_pick rfl rfl (by rw [h21]; rfl) rfl)) ?_
                refine rg_done rfl ?_
                refine a_condF rfl rfl ?_
                refine a_skip ?_
                show A _ _ _ _ _ _ _
                refine a_seq ?_
                refine a_dseq (by kernel_rfl) ?_
                have hd := part_kept hz (k := k) (by omega) (.inl (f_beq h21))
                have hbu := kA_up hd.1
                have hd1 := hd.2.1
                refine dr_put (d := 158) (v := .d (.fl (.int .i64 (((kA s.rules s.images s.closed t k).length : Int))))) rfl (og rfl (op_move rfl rfl rfl)) ?_
                refine dr_put (d := 159) (v := .d (.sl 5 (List.map eIm ((purge s.rules s.images s.closed t).1.1)))) rfl (og rfl (op_move rfl rfl rfl)) ?_
                refine dr_put (d := 160) (v := .d (.fl (.int .i64 ((((purge s.rules s.images s.closed t).1.1).length : Int))))) rfl (og rfl (s_len rfl Try.underlying36 rfl rfl)) ?_
                refine dr_put (d := 161) (v := .d (.fl (.bool ((decide ((((purge s.rules s.images s.closed t).1.1).length : Int) ≤ ((kA s.rules s.images s.closed t k).length : Int))))))) rfl (og rfl (op_bin rfl rfl rfl (b_geq _ _ _ _) rfl)) ?_
                refine dr_put (d := 162) (v := .d (.fl (.bool ((decide ((((purge s.rules s.images s.closed t).1.1).length : Int) ≤ ((kA s.rules s.images s.closed t k).length : Int))))))) rfl (og rfl (op_move rfl rfl rfl)) ?_
                rcases fot ((decide ((((purge s.rules s.images s.closed t).1.1).length : Int) ≤ ((kA s.rules s.images s.closed t k).length : Int)))) with h23 | h23
                · skip
                  have h24 := f_dec h23
                  refine dr_put (d := 163) (v := .d (.sl 5 (List.map eIm ((purge s.rules s.images s.closed t).1.1)))) rfl (oy rfl rfl rfl h23 (op_move rfl rfl rfl)) ?_
                  refine dr_put (d := 164) (v := .d (.fl (.int .i64 (((kA s.rules s.images s.closed t k).length : Int))))) rfl (oy rfl rfl rfl h23 (op_move rfl rfl rfl)) ?_
                  refine dr_put (d := 165) (v := .d (.fl (.int .i64 (((kA s.rules s.images s.closed t k).length : Int))))) rfl (oy rfl rfl rfl h23 (op_move rfl rfl rfl)) ?_
                  refine dr_put (d := 166) (v := .d (.fl (.int .i64 ((((kA s.rules s.images s.closed t k).length : Int) + 1))))) rfl (oy rfl rfl rfl h23 (op_bin rfl rfl rfl (fun x y w => b_add64 _ _ _ x y w (by omega)) rfl)) ?_
                  refine dr_put (d := 167) (v := .d (.sl 5 (List.map eIm (((((purge s.rules s.images s.closed t).1.1).drop ((kA s.rules s.images s.closed t k).length)).take (((((kA s.rules s.images s.closed t k).length : Int) + 1)).toNat - ((kA s.rules s.images s.closed t k).length))))))) rfl (oy rfl rfl rfl h23 (s_slice rfl Try.underlying36 ti26 rfl (.so (n := (kA s.rules s.images s.closed t k).length) _ rfl (by omega)) (.so (n := ((((kA s.rules s.images s.closed t k).length : Int) + 1)).toNat) _ rfl (by omega)) (by omega) (by omega) rfl)) ?_
                  refine dr_put (d := 168) (v := .pt 101 1) rfl (oy rfl rfl rfl h23 (of_eff (s_field_pt rfl Try.underlying39 rfl ti36 rfl rfl rfl) rfl)) ?_
                  refine dr_put (d := 169) (v := .d (.sl 5 (List.map eIm s.images))) rfl (oy rfl rfl rfl h23 (op_load_pt rfl Try.underlying36 rfl rfl rfl rfl rfl)) ?_
                  refine dr_put (d := 170) (v := .d (.fl (.int .i64 (k : Int)))) rfl (oy rfl rfl rfl h23 (op_move rfl rfl rfl)) ?_
                  refine dr_put (d := 171) (v := .d (.fl (.int .i64 (k : Int)))) rfl (oy rfl rfl rfl h23 (op_move rfl rfl rfl)) ?_
                  refine dr_put (d := 172) (v := .d (.fl (.int .i64 (((k : Int) + 1))))) rfl (oy rfl rfl rfl h23 (op_bin rfl rfl rfl (fun x y w => b_add64 _ _ _ x y w (by omega)) rfl)) ?_
                  refine dr_put (d := 173) (v := .d (.sl 5 (List.map eIm (((s.images.drop k).take ((((k : Int) + 1)).toNat - k)))))) rfl (oy rfl rfl rfl h23 (s_slice rfl Try.underlying36 ti26 rfl (.so (n := k) _ rfl (by omega)) (.so (n := (((k : Int) + 1)).toNat) _ rfl (by omega)) (by omega) (by omega) rfl)) ?_
                  refine dr_put (d := 174) (v := .d (.fl (.bool true))) rfl (oy rfl rfl rfl h23 (op_call rfl Try.func19 nm19 rfl (.cons rfl (.d _) (.cons rfl (.d _) .nil)) (same_eq (a := (((((purge s.rules s.images s.closed t).1.1).drop ((kA s.rules s.images s.closed t k).length)).take (((((kA s.rules s.images s.closed t k).length : Int) + 1)).toNat - ((kA s.rules s.images s.closed t k).length))))) (b := (((s.images.drop k).take ((((k : Int) + 1)).toNat - k)))) (by rw [take_oneI (by omega), take_oneI (by omega), hd.2.2]) (by rw [take_oneI (by omega)]; simp) (by rw [take_oneI (by omega)]; intro q h; have : q = 0 := (by simpa using h); subst this; show (ix (purge s.rules s.images s.closed t).1.1 ((kA s.rules s.images s.closed t k).length)).hold.length ≤ 1000; rw [hd.2.2]; have := g4 k (by omega); omega)) rfl)) ?_
                  refine dr_put (d := 175) (v := .d (.fl (.bool (!true)))) rfl (oy rfl rfl rfl h23 (op_un rfl rfl (u_not _) rfl)) ?_
                  refine dr_put (d := 176) (v := .d (.fl (.bool (!true)))) rfl (og rfl (op_pick rfl rfl (by rw [h23]; rfl) rfl)) ?_
                  refine dr_done rfl (by kernel_rfl) (by kernel_rfl) ?_
                  refine a_condF rfl (not_f rfl) ?_
                  refine a_skip ?_
                  show A _ _ _ _ _ _ _
                  refine a_region ?_
                  refine rg_put (d := 177) (v := .d (.fl (.int .i64 (((kA s.rules s.images s.closed t k).length : Int))))) rfl (og rfl (op_move rfl rfl rfl)) ?_
                  refine rg_put (d := 178) (v := .d (.fl (.int .i64 ((((kA s.rules s.images s.closed t k).length : Int) + 1))))) rfl (og rfl (op_bin rfl rfl rfl (fun x y w => b_add64 _ _ _ x y w (by omega)) rfl)) ?_
                  refine rg_put (d := 13) (v := .d (.fl (.int .i64 ((((kA s.rules s.images s.closed t k).length : Int) + 1))))) rfl (og rfl (op_assign rfl rfl rfl)) ?_
                  refine rg_done rfl ?_
                  show A _ _ _ _ _ _ _
                  refine a_region ?_
                  refine rg_put (d := 179) (v := .d (.fl (.int .i64 (((k : Int) + 1))))) rfl (og rfl (op_bin rfl rfl rfl (fun x y w => b_add64 _ _ _ x y w (by omega)) rfl)) ?_
                  refine rg_put (d := 105) (v := .d (.fl (.int .i64 (((k : Int) + 1))))) rfl (og rfl (op_move rfl rfl rfl)) ?_
                  refine rg_done rfl ?_
                  show ∃ i, _ ∧ _ ∧ Imp _ _ _ _ _
                  refine ⟨k + 1, (by omega), by omega, imp_forget rfl ⟨rfl, rfl, rfl, rfl, rfl, rfl, rfl, rfl, rfl, rfl, rfl, rfl, rfl, rfl, rfl, rfl, (by first | rfl | exact ci (by omega) | exact ci (by simp) | exact cd (by simp) | simp), (ci (by omega)), (ci (by omega)), trivial⟩ ⟨rfl, trivial⟩⟩
                · skip
                  have h25 := t_dec h23
                  refine dr_put (d := 163) (v := .d (.fl undef)) rfl (on rfl rfl rfl h23) ?_
                  refine dr_put (d := 164) (v := .d (.fl undef)) rfl (on rfl rfl rfl h23) ?_
                  refine dr_put (d := 165) (v := .d (.fl undef)) rfl (on rfl rfl rfl h23) ?_
                  refine dr_put (d := 166) (v := .d (.fl undef)) rfl (on rfl rfl rfl h23) ?_
                  refine dr_put (d := 167) (v := .d (.fl undef)) rfl (on rfl rfl rfl h23) ?_
                  refine dr_put (d := 168) (v := .d (.fl undef)) rfl (on rfl rfl rfl h23) ?_
                  refine dr_put (d := 169) (v := .d (.fl undef)) rfl (on rfl rfl rfl h23) ?_
                  refine dr_put (d := 170) (v := .d (.fl undef)) rfl (on rfl rfl rfl h23) ?_
                  refine dr_put (d := 171) (v := .d (.fl undef)) rfl (on rfl rfl rfl h23) ?_
                  refine dr_put (d := 172) (v := .d (.fl undef)) rfl (on rfl rfl rfl h23) ?_
                  refine dr_put (d := 173) (v := .d (.fl undef)) rfl (on rfl rfl rfl h23) ?_
                  refine dr_put (d := 174) (v := .d (.fl undef)) rfl (on rfl rfl rfl h23) ?_
                  refine dr_put (d := 175) (v := .d (.fl undef)) rfl (on rfl rfl rfl h23) ?_
                  refine dr_put (d := 176) (v := .d (.fl (.bool true))) rfl (og rfl (op_pick rfl rfl (by rw [h23]; rfl) rfl)) ?_
                  refine dr_done rfl (by kernel_rfl) (by kernel_rfl) ?_
                  refine a_condK rfl rfl ?_
                  refine a_rseq ?_
                  refine rg_put (d := 6) (v := .d (.fl (.bool false))) rfl (og rfl (op_assign rfl rfl rfl)) ?_
                  refine rg_done rfl ?_
                  refine a_ret ?_
                  show ∃ ds, ResL _ _ _ ds ∧ RV.of ds = _
                  refine ⟨[.fl (.bool false)], (.cons (.tmp rfl (.d _)) .nil), ?_⟩
                  exfalso
                  omega
              · skip
                have h26 := t_beq h21
                refine rg_put (d := 125) (v := .d (.fl (.int .i64 ((unt s.rules (ix s.images k) (ix s.closed k)).1)))) rfl (oy rfl rfl rfl h21 (op_move rfl rfl rfl)) ?_
                refine rg_put (d := 126) (v := .d (.fl (.int .i64 t))) rfl (oy rfl rfl rfl h21 (op_move rfl rfl rfl)) ?_
                refine rg_put (d := 127) (v := .d (.fl (.bool ((decide ((unt s.rules (ix s.images k) (ix s.closed k)).1 ≤ t)))))) rfl (oy rfl rfl rfl h21 (op_bin rfl rfl rfl (b_leq _ _ _ _) rfl)) ?_
                refine rg_put (d := 128) (v := .d (.fl (.bool ((decide ((unt s.rules (ix s.images k) (ix s.closed k)).1 ≤ t)))))) rfl (og rfl (op_pick rfl rfl (by rw [h21]; rfl) rfl)) ?_
                refine rg_done rfl ?_
                refine a_cond rfl (fun h27 => ?_) (fun h27 => ?_)
                · skip
                  have h28 := t_dec h27
                  refine a_seq ?_
                  refine a_dseq (by kernel_rfl) ?_
                  have hd := part_gone hz (k := k) (by omega) (t_beq h21) (by omega)
                  have hbu := kB_up hd.1
                  obtain ⟨hd0, hd1, hd2, hd3, hd4⟩ := hd
                  refine dr_put (d := 129) (v := .pt 102 3) rfl (og rfl (of_eff (s_field_pt rfl Try.underlying26 rfl ti23 rfl rfl rfl) rfl)) ?_
                  refine dr_put (d := 130) (v := .d (.sl 1 (List.map rS ((ix s.images k).hold)))) rfl (og rfl (op_load_pt rfl Try.underlying23 rfl rfl rfl rfl rfl)) ?_
                  refine dr_put (d := 131) (v := .d (.fl (.int .i64 ((((ix s.images k).hold).length : Int))))) rfl (og rfl (s_len rfl Try.underlying23 rfl rfl)) ?_
                  refine dr_put (d := 132) (v := .d (.fl (.bool ((decide (0 < (((ix s.images k).hold).length : Int))))))) rfl (og rfl (op_bin rfl rfl rfl (b_gtr _ _ _ _) rfl)) ?_
                  refine dr_put (d := 133) (v := .d (.fl (.bool ((decide (0 < (((ix s.images k).hold).length : Int))))))) rfl (og rfl (op_move rfl rfl rfl)) ?_
                  rcases fot ((decide (0 < (((ix s.images k).hold).length : Int)))) with h29 | h29
                  · skip
                    have h30 := f_dec h29
                    refine dr_put (d := 134) (v := .pt 101 2) rfl (oy rfl rfl rfl h29 (of_eff (s_field_pt rfl Try.underlying39 rfl ti37 rfl rfl rfl) rfl)) ?_
                    refine dr_put (d := 135) (v := .d (.sl 1 (List.map (rI .i64) s.closed))) rfl (oy rfl rfl rfl h29 (op_load_pt rfl Try.underlying37 rfl rfl rfl rfl rfl)) ?_
                    refine dr_put (d := 136) (v := .d (.fl (.int .i64 (k : Int)))) rfl (oy rfl rfl rfl h29 (op_move rfl rfl rfl)) ?_
                    refine dr_put (d := 137) (v := .el ((rI .i64 (ix s.closed k)))) rfl (oy rfl rfl rfl h29 (s_index rfl Try.underlying37 ti3 rfl rfl (by omega) (row_at (by omega)) rfl)) ?_
                    refine dr_put (d := 138) (v := .d (.fl (.int .i64 (ix s.closed k)))) rfl (oy rfl rfl rfl h29 (op_load_el rfl Try.underlying3 rfl rfl rfl rfl)) ?_
                    refine dr_put (d := 139) (v := .d (.fl (.bool ((decide ((ix s.closed k) < 0)))))) rfl (oy rfl rfl rfl h29 (op_bin rfl rfl rfl (b_lss _ _ _ _) rfl)) ?_
                    refine dr_put (d := 140) (v := .d (.fl (.bool ((decide ((ix s.closed k) < 0)))))) rfl (og rfl (op_pick rfl rfl (by rw [h29]; rfl) rfl)) ?_
                    refine dr_put (d := 141) (v := .d (.fl (.bool ((decide ((ix s.closed k) < 0)))))) rfl (og rfl (op_move rfl rfl rfl)) ?_
                    rcases fot ((decide ((ix s.closed k) < 0))) with h31 | h31
                    · skip
                      have h32 := f_dec h31
                      refine dr_put (d := 142) (v := .d (.fl (.int .i64 (((kB s.rules s.images s.closed t k).length : Int))))) rfl (oy rfl rfl rfl h31 (op_move rfl rfl rfl)) ?_
                      refine dr_put (d := 143) (v := .d (.sl 1 (List.map rS ((purge s.rules s.images s.closed t).1.2)))) rfl (oy rfl rfl rfl h31 (op_move rfl rfl rfl)) ?_
                      refine dr_put (d := 144) (v := .d (.fl (.int .i64 ((((purge s.rules s.images s.closed t).1.2).length : Int))))) rfl (oy rfl rfl rfl h31 (s_len rfl Try.underlying23 rfl rfl)) ?_
                      refine dr_put (d := 145) (v := .d (.fl (.bool ((decide ((((purge s.rules s.images s.closed t).1.2).length : Int) ≤ ((kB s.rules s.images s.closed t k).length : Int))))))) rfl (oy rfl rfl rfl h31 (op_bin rfl rfl rfl (b_geq _ _ _ _) rfl)) ?_
                      refine dr_put (d := 146) (v := .d (.fl (.bool ((decide ((((purge s.rules s.images s.closed t).1.2).length : Int) ≤ ((kB s.rules s.images s.closed t k).length : Int))))))) rfl (og rfl (op_pick rfl rfl (by rw [h31]; rfl) rfl)) ?_
                      refine dr_put (d := 147) (v := .d (.fl (.bool ((decide ((((purge s.rules s.images s.closed t).1.2).length : Int) ≤ ((kB s.rules s.images s.closed t k).length : Int))))))) rfl (og rfl (op_move rfl rfl rfl)) ?_
                      rcases fot ((decide ((((purge s.rules s.images s.closed t).1.2).length : Int) ≤ ((kB s.rules s.images s.closed t k).length : Int)))) with h33 | h33
                      · skip
                        have h34 := f_dec h33
                        refine dr_put (d := 148) (v := .d (.sl 1 (List.map rS ((purge s.rules s.images s.closed t).1.2)))) rfl (oy rfl rfl rfl h33 (op_move rfl rfl rfl)) ?_
                        refine dr_put (d := 149) (v := .d (.fl (.int .i64 (((kB s.rules s.images s.closed t k).length : Int))))) rfl (oy rfl rfl rfl h33 (op_move rfl rfl rfl)) ?_
                        refine dr_put (d := 150) (v := .el ((rS ((ix ((purge s.rules s.images s.closed t).1.2) ((kB s.rules s.images s.closed t k).length)))))) rfl (oy rfl rfl rfl h33 (s_index rfl Try.underlying23 ti9 rfl rfl (by omega) (row_at (by omega)) rfl)) ?_
                        refine dr_put (d := 151) (v := .d (.fl (.string ((ix ((purge s.rules s.images s.closed t).1.2) ((kB s.rules s.images s.closed t k).length)))))) rfl (oy rfl rfl rfl h33 (op_load_el rfl Try.underlying9 rfl rfl rfl rfl)) ?_
                        refine dr_put (d := 152) (v := .pt 102 0) rfl (oy rfl rfl rfl h33 (of_eff (s_field_pt rfl Try.underlying26 rfl ti9 rfl rfl rfl) rfl)) ?_
                        refine dr_put (d := 153) (v := .d (.fl (.string ((ix s.images k).id)))) rfl (oy rfl rfl rfl h33 (op_load_pt rfl Try.underlying9 rfl rfl rfl rfl rfl)) ?_
                        refine dr_put (d := 154) (v := .d (.fl (.bool ((!(sEq ((ix ((purge s.rules s.images s.closed t).1.2) ((kB s.rules s.images s.closed t k).length))) ((ix s.images k).id))))))) rfl (oy rfl rfl rfl h33 (op_bin rfl rfl rfl (b_sne _ _ _) rfl)) ?_
                        refine dr_put (d := 155) (v := .d (.fl (.bool ((!(sEq ((ix ((purge s.rules s.images s.closed t).1.2) ((kB s.rules s.images s.closed t k).length))) ((ix s.images k).id))))))) rfl (og rfl (op_pick rfl rfl (by rw [h33]; rfl) rfl)) ?_
                        refine dr_done rfl (by kernel_rfl) (by kernel_rfl) ?_
                        refine a_cond rfl (fun h35 => ?_) (fun h35 => ?_)
                        · skip
                          have h36 := t_not h35
                          refine a_rseq ?_
                          refine rg_put (d := 6) (v := .d (.fl (.bool false))) rfl (og rfl (op_assign rfl rfl rfl)) ?_
                          refine rg_done rfl ?_
                          refine a_ret ?_
                          show ∃ ds, ResL _ _ _ ds ∧ RV.of ds = _
                          refine ⟨[.fl (.bool false)], (.cons (.tmp rfl (.d _)) .nil), ?_⟩
                          exact absurd (sEq_of hd4) (by rw [h36]; simp)
                        · skip
                          have h37 := f_not h35
                          refine a_skip ?_
                          show A _ _ _ _ _ _ _
                          refine a_rseq ?_
                          refine rg_put (d := 156) (v := .d (.fl (.int .i64 (((kB s.rules s.images s.closed t k).length : Int))))) rfl (og rfl (op_move rfl rfl rfl)) ?_
                          refine rg_put (d := 157) (v := .d (.fl (.int .i64 ((((kB s.rules s.images s.closed t k).length : Int) + 1))))) rfl (og rfl (op_bin rfl rfl rfl (fun x y w => b_add64 _ _ _ x y w (by omega)) rfl)) ?_
                          refine rg_put (d := 14) (v := .d (.fl (.int .i64 ((((kB s.rules s.images s.closed t k).length : Int) + 1))))) rfl (og rfl (op_assign rfl rfl rfl)) ?_
                          refine rg_done rfl ?_
                          refine a_exit ?_
                          show A _ _ _ _ _ _ _
                          refine a_region ?_
                          refine rg_put (d := 179) (v := .d (.fl (.int .i64 (((k : Int) + 1))))) rfl (og rfl (op_bin rfl rfl rfl (fun x y w => b_add64 _ _ _ x y w (by omega)) rfl)) ?_
                          refine rg_put (d := 105) (v := .d (.fl (.int .i64 (((k : Int) + 1))))) rfl (og rfl (op_move rfl rfl rfl)) ?_
                          refine rg_done rfl ?_
                          show ∃ i, _ ∧ _ ∧ Imp _ _ _ _ _
                          refine ⟨k + 1, (by omega), by omega, imp_forget rfl ⟨rfl, rfl, rfl, rfl, rfl, rfl, rfl, rfl, rfl, rfl, rfl, rfl, rfl, rfl, rfl, rfl, (by first | rfl | exact ci (by omega) | exact ci (by simp) | exact cd (by simp) | simp), (ci (by omega)), (ci (by omega)), trivial⟩ ⟨rfl, trivial⟩⟩
                      · skip
                        have h38 := t_dec h33
                        refine dr_put (d := 148) (v := .d (.fl undef)) rfl (on rfl rfl rfl h33) ?_
                        refine dr_put (d := 149) (v := .d (.fl undef)) rfl (on rfl rfl rfl h33) ?_
                        refine dr_put (d := 150) (v := .d (.fl undef)) rfl (on rfl rfl rfl h33) ?_
                        refine dr_put (d := 151) (v := .d (.fl undef)) rfl (on rfl rfl rfl h33) ?_
                        refine dr_put (d := 152) (v := .d (.fl undef)) rfl (on rfl rfl rfl h33) ?_
                        refine dr_put (d := 153) (v := .d (.fl undef)) rfl (on rfl rfl rfl h33) ?_
                        refine dr_put (d := 154) (v := .d (.fl undef)) rfl (on rfl rfl rfl h33) ?_
                        refine dr_put (d := 155) (v := .d (.fl (.bool true))) rfl (og rfl (op_pick rfl rfl (by rw [h33]; rfl) rfl)) ?_
                        refine dr_done rfl (by kernel_rfl) (by kernel_rfl) ?_
                        refine a_condK rfl rfl ?_
                        refine a_rseq ?_
                        refine rg_put (d := 6) (v := .d (.fl (.bool false))) rfl (og rfl (op_assign rfl rfl rfl)) ?_
                        refine rg_done rfl ?_
                        refine a_ret ?_
                        show ∃ ds, ResL _ _ _ ds ∧ RV.of ds = _
                        refine ⟨[.fl (.bool false)], (.cons (.tmp rfl (.d _)) .nil), ?_⟩
                        exfalso
                        omega
                    · skip
                      have h39 := t_dec h31
                      refine dr_put (d := 142) (v := .d (.fl undef)) rfl (on rfl rfl rfl h31) ?_
                      refine dr_put (d := 143) (v := .d (.fl undef)) rfl (on rfl rfl rfl h31) ?_
                      refine dr_put (d := 144) (v := .d (.fl undef)) rfl (on rfl rfl rfl h31) ?_
                      refine dr_put (d := 145) (v := .d (.fl undef)) rfl (on rfl rfl rfl h31) ?_
                      refine dr_put (d := 146) (v := .d (.fl (.bool true))) rfl (og rfl (op_pick rfl rfl (by rw [h31]; rfl) rfl)) ?_
                      refine dr_put (d := 147) (v := .d (.fl (.bool true))) rfl (og rfl (op_move rfl rfl rfl)) ?_
                      refine dr_put (d := 148) (v := .d (.fl undef)) rfl (on rfl rfl rfl rfl) ?_
                      refine dr_put (d := 149) (v := .d (.fl undef)) rfl (on rfl rfl rfl rfl) ?_
                      refine dr_put (d := 150) (v := .d (.fl undef)) rfl (on rfl rfl rfl rfl) ?_
                      refine dr_put (d := 151) (v := .d (.fl undef)) rfl (on rfl rfl rfl rfl) ?_
                      refine dr_put (d := 152) (v := .d (.fl undef)) rfl (on rfl rfl rfl rfl) ?_
                      refine dr_put (d := 153) (v := .d (.fl undef)) rfl (on rfl rfl rfl rfl) ?_
                      refine dr_put (d := 154) (v := .d (.fl undef)) rfl (on rfl rfl rfl rfl) ?_
                      refine dr_put (d := 155) (v := .d (.fl (.bool true))) rfl (og rfl (op_pick rfl rfl rfl rfl)) ?_
                      refine dr_done rfl (by kernel_rfl) (by kernel_rfl) ?_
                      refine a_condK rfl rfl ?_
                      refine a_rseq ?_
                      refine rg_put (d := 6) (v := .d (.fl (.bool false))) rfl (og rfl (op_assign rfl rfl rfl)) ?_
                      refine rg_done rfl ?_
                      refine a_ret ?_
                      show ∃ ds, ResL _ _ _ ds ∧ RV.of ds = _
                      refine ⟨[.fl (.bool false)], (.cons (.tmp rfl (.d _)) .nil), ?_⟩
                      exfalso
                      omega
                  · skip
                    have h40 := t_dec h29
                    refine dr_put (d := 134) (v := .d (.fl undef)) rfl (on rfl rfl rfl h29) ?_
                    refine dr_put (d := 135) (v := .d (.fl undef)) rfl (on rfl rfl rfl h29) ?_
                    refine dr_put (d := 136) (v := .d (.fl undef)) rfl (on rfl rfl rfl h29) ?_
                    refine dr_put (d := 137) (v := .d (.fl undef)) rfl (on rfl rfl rfl h29) ?_
                    refine dr_put (d := 138) (v := .d (.fl undef)) rfl (on rfl rfl rfl h29) ?_
                    refine dr_put (d := 139) (v := .d (.fl undef)) rfl (on rfl rfl rfl h29) ?_
                    refine dr_put (d := 140) (v := .d (.fl (.bool true))) rfl (og rfl (op_pick rfl rfl (by rw [h29]; rfl) rfl)) ?_
                    refine dr_put (d := 141) (v := .d (.fl (.bool true))) rfl (og rfl (op_move rfl rfl rfl)) ?_
                    refine dr_put (d := 142) (v := .d (.fl undef)) rfl (on rfl rfl rfl rfl) ?_
                    refine dr_put (d := 143) (v := .d (.fl undef)) rfl (on rfl rfl rfl rfl) ?_
                    refine dr_put (d := 144) (v := .d (.fl undef)) rfl (on rfl rfl rfl rfl) ?_
                    refine dr_put (d := 145) (v := .d (.fl undef)) rfl (on rfl rfl rfl rfl) ?_
                    refine dr_put (d := 146) (v := .d (.fl (.bool true))) rfl (og rfl (op_pick rfl rfl rfl rfl)) ?_
                    refine dr_put (d := 147) (v := .d (.fl (.bool true))) rfl (og rfl (op_move rfl rfl rfl)) ?_
                    refine dr_put (d := 148) (v := .d (.fl undef)) rfl (on rfl rfl rfl rfl) ?_
                    refine dr_put (d := 149) (v := .d (.fl undef)) rfl (on rfl rfl rfl rfl) ?_
                    refine dr_put (d := 150) (v := .d (.fl undef)) rfl (on rfl rfl rfl rfl) ?_
                    refine dr_put (d := 151) (v := .d (.fl undef)) rfl (on rfl rfl rfl rfl) ?_
                    refine dr_put (d := 152) (v := .d (.fl undef)) rfl (on rfl rfl rfl rfl) ?_
                    refine dr_put (d := 153) (v := .d (.fl undef)) rfl (on rfl rfl rfl rfl) ?_
                    refine dr_put (d := 154) (v := .d (.fl undef)) rfl (on rfl rfl rfl rfl) ?_
                    refine dr_put (d := 155) (v := .d (.fl (.bool true))) rfl (og rfl (op_pick rfl rfl rfl rfl)) ?_
                    refine dr_done rfl (by kernel_rfl) (by kernel_rfl) ?_
                    refine a_condK rfl rfl ?_
                    refine a_rseq ?_
                    refine rg_put (d := 6) (v := .d (.fl (.bool false))) rfl (og rfl (op_assign rfl rfl rfl)) ?_
                    refine rg_done rfl ?_
                    refine a_ret ?_
                    show ∃ ds, ResL _ _ _ ds ∧ RV.of ds = _
                    refine ⟨[.fl (.bool false)], (.cons (.tmp rfl (.d _)) .nil), ?_⟩
                    exfalso
                    omega
                · skip
                  have h41 := f_dec h27
                  refine a_skip ?_
                  show A _ _ _ _ _ _ _
                  refine a_seq ?_
                  refine a_dseq (by kernel_rfl) ?_
                  have hd := part_kept hz (k := k) (by omega) (.inr (by omega))
                  have hbu := kA_up hd.1
                  have hd1 := hd.2.1
                  refine dr_put (d := 158) (v := .d (.fl (.int .i64 (((kA s.rules s.images s.closed t k).length : Int))))) rfl (og rfl (op_move rfl rfl rfl)) ?_
                  refine dr_put (d := 159) (v := .d (.sl 5 (List.map eIm ((purge s.rules s.images s.closed t).1.1)))) rfl (og rfl (op_move rfl rfl rfl)) ?_
                  refine dr_put (d := 160) (v := .d (.fl (.int .i64 ((((purge s.rules s.images s.closed t).1.1).length : Int))))) rfl (og rfl (s_len rfl Try.underlying36 rfl rfl)) ?_
                  refine dr_put (d := 161) (v := .d (.fl (.bool ((decide ((((purge s.rules s.images s.closed t).1.1).length : Int) ≤ ((kA s.rules s.images s.closed t k).length : Int))))))) rfl (og rfl (op_bin rfl rfl rfl (b_geq _ _ _ _) rfl)) ?_
                  refine dr_put (d := 162) (v := .d (.fl (.bool ((decide ((((purge s.rules s.images s.closed t).1.1).length : Int) ≤ ((kA s.rules s.images s.closed t k).length : Int))))))) rfl (og rfl (op_move rfl rfl rfl)) ?_
                  rcases fot ((decide ((((purge s.rules s.images s.closed t).1.1).length : Int) ≤ ((kA s.rules s.images s.closed t k).length : Int)))) with h42 | h42
                  · skip
                    have h43 := f_dec h42
                    refine dr_put (d := 163) (v := .d (.sl 5 (List.map eIm ((purge s.rules s.images s.closed t).1.1)))) rfl (oy rfl rfl rfl h42 (op_move rfl rfl rfl)) ?_
                    refine dr_put (d := 164) (v := .d (.fl (.int .i64 (((kA s.rules s.images s.closed t k).length : Int))))) rfl (oy rfl rfl rfl h42 (op_move rfl rfl rfl)) ?_
                    refine dr_put (d := 165) (v := .d (.fl (.int .i64 (((kA s.rules s.images s.closed t k).length : Int))))) rfl (oy rfl rfl rfl h42 (op_move rfl rfl rfl)) ?_
                    refine dr_put (d := 166) (v := .d (.fl (.int .i64 ((((kA s.rules s.images s.closed t k).length : Int) + 1))))) rfl (oy rfl rfl rfl h42 (op_bin rfl rfl rfl (fun x y w => b_add64 _ _ _ x y w (by omega)) rfl)) ?_
                    refine dr_put (d := 167) (v := .d (.sl 5 (List.map eIm (((((purge s.rules s.images s.closed t).1.1).drop ((kA s.rules s.images s.closed t k).length)).take (((((kA s.rules s.images s.closed t k).length : Int) + 1)).toNat - ((kA s.rules s.images s.closed t k).length))))))) rfl (oy rfl rfl rfl h42 (s_slice rfl Try.underlying36 ti26 rfl (.so (n := (kA s.rules s.images s.closed t k).length) _ rfl (by omega)) (.so (n := ((((kA s.rules s.images s.closed t k).length : Int) + 1)).toNat) _ rfl (by omega)) (by omega) (by omega) rfl)) ?_
                    refine dr_put (d := 168) (v := .pt 101 1) rfl (oy rfl rfl rfl h42 (of_eff (s_field_pt rfl Try.underlying39 rfl ti36 rfl rfl rfl) rfl)) ?_
                    refine dr_put (d := 169) (v := .d (.sl 5 (List.map eIm s.images))) rfl (oy rfl rfl rfl h42 (op_load_pt rfl Try.underlying36 rfl rfl rfl rfl rfl)) ?_
                    refine dr_put (d := 170) (v := .d (.fl (.int .i64 (k : Int)))) rfl (oy rfl rfl rfl h42 (op_move rfl rfl rfl)) ?_
                    refine dr_put (d := 171) (v := .d (.fl (.int .i64 (k : Int)))) rfl (oy rfl rfl rfl h42 (op_move rfl rfl rfl)) ?_
                    refine dr_put (d := 172) (v := .d (.fl (.int .i64 (((k : Int) + 1))))) rfl (oy rfl rfl rfl h42 (op_bin rfl rfl rfl (fun x y w => b_add64 _ _ _ x y w (by omega)) rfl)) ?_
                    refine dr_put (d := 173) (v := .d (.sl 5 (List.map eIm (((s.images.drop k).take ((((k : Int) + 1)).toNat - k)))))) rfl (oy rfl rfl rfl h42 (s_slice rfl Try.underlying36 ti26 rfl (.so (n := k) _ rfl (by omega)) (.so (n := (((k : Int) + 1)).toNat) _ rfl (by omega)) (by omega) (by omega) rfl)) ?_
                    refine dr_put (d := 174) (v := .d (.fl (.bool true))) rfl (oy rfl rfl rfl h42 (op_call rfl Try.func19 nm19 rfl (.cons rfl (.d _) (.cons rfl (.d _) .nil)) (same_eq (a := (((((purge s.rules s.images s.closed t).1.1).drop ((kA s.rules s.images s.closed t k).length)).take (((((kA s.rules s.images s.closed t k).length : Int) + 1)).toNat - ((kA s.rules s.images s.closed t k).length))))) (b := (((s.images.drop k).take ((((k : Int) + 1)).toNat - k)))) (by rw [take_oneI (by omega), take_oneI (by omega), hd.2.2]) (by rw [take_oneI (by omega)]; simp) (by rw [take_oneI (by omega)]; intro q h; have : q = 0 := (by simpa using h); subst this; show (ix (purge s.rules s.images s.closed t).1.1 ((kA s.rules s.images s.closed t k).length)).hold.length ≤ 1000; rw [hd.2.2]; have := g4 k (by omega); omega)) rfl)) ?_
                    refine dr_put (d := 175) (v := .d (.fl (.bool (!true)))) rfl (oy rfl rfl rfl h42 (op_un rfl rfl (u_not _) rfl)) ?_
                    refine dr_put (d := 176) (v := .d (.fl (.bool (!true)))) rfl (og rfl (op_pick rfl rfl (by rw [h42]; rfl) rfl)) ?_
                    refine dr_done rfl (by kernel_rfl) (by kernel_rfl) ?_
                    refine a_condF rfl (not_f rfl) ?_
                    refine a_skip ?_
                    show A _ _ _ _ _ _ _
                    refine a_region ?_
                    refine rg_put (d := 177) (v := .d (.fl (.int .i64 (((kA s.rules s.images s.closed t k).length : Int))))) rfl (og rfl (op_move rfl rfl rfl)) ?_
                    refine rg_put (d := 178) (v := .d (.fl (.int .i64 ((((kA s.rules s.images s.closed t k).length : Int) + 1))))) rfl (og rfl (op_bin rfl rfl rfl (fun x y w => b_add64 _ _ _ x y w (by omega)) rfl)) ?_
                    refine rg_put (d := 13) (v := .d (.fl (.int .i64 ((((kA s.rules s.images s.closed t k).length : Int) + 1))))) rfl (og rfl (op_assign rfl rfl rfl)) ?_
                    refine rg_done rfl ?_
                    show A _ _ _ _ _ _ _
                    refine a_region ?_
                    refine rg_put (d := 179) (v := .d (.fl (.int .i64 (((k : Int) + 1))))) rfl (og rfl (op_bin rfl rfl rfl (fun x y w => b_add64 _ _ _ x y w (by omega)) rfl)) ?_
                    refine rg_put (d := 105) (v := .d (.fl (.int .i64 (((k : Int) + 1))))) rfl (og rfl (op_move rfl rfl rfl)) ?_
                    refine rg_done rfl ?_
                    show ∃ i, _ ∧ _ ∧ Imp _ _ _ _ _
                    refine ⟨k + 1, (by omega), by omega, imp_forget rfl ⟨rfl, rfl, rfl, rfl, rfl, rfl, rfl, rfl, rfl, rfl, rfl, rfl, rfl, rfl, rfl, rfl, (by first | rfl | exact ci (by omega) | exact ci (by simp) | exact cd (by simp) | simp), (ci (by omega)), (ci (by omega)), trivial⟩ ⟨rfl, trivial⟩⟩
                  · skip
                    have h44 := t_dec h42
                    refine dr_put (d := 163) (v := .d (.fl undef)) rfl (on rfl rfl rfl h42) ?_
                    refine dr_put (d := 164) (v := .d (.fl undef)) rfl (on rfl rfl rfl h42) ?_
                    refine dr_put (d := 165) (v := .d (.fl undef)) rfl (on rfl rfl rfl h42) ?_
                    refine dr_put (d := 166) (v := .d (.fl undef)) rfl (on rfl rfl rfl h42) ?_
                    refine dr_put (d := 167) (v := .d (.fl undef)) rfl (on rfl rfl rfl h42) ?_
                    refine dr_put (d := 168) (v := .d (.fl undef)) rfl (on rfl rfl rfl h42) ?_
                    refine dr_put (d := 169) (v := .d (.fl undef)) rfl (on rfl rfl rfl h42) ?_
                    refine dr_put (d := 170) (v := .d (.fl undef)) rfl (on rfl rfl rfl h42) ?_
                    refine dr_put (d := 171) (v := .d (.fl undef)) rfl (on rfl rfl rfl h42) ?_
                    refine dr_put (d := 172) (v := .d (.fl undef)) rfl (on rfl rfl rfl h42) ?_
                    refine dr_put (d := 173) (v := .d (.fl undef)) rfl (on rfl rfl rfl h42) ?_
                    refine dr_put (d := 174) (v := .d (.fl undef)) rfl (on rfl rfl rfl h42) ?_
                    refine dr_put (d := 175) (v := .d (.fl undef)) rfl (on rfl rfl rfl h42) ?_
                    refine dr_put (d := 176) (v := .d (.fl (.bool true))) rfl (og rfl (op_pick rfl rfl (by rw [h42]; rfl) rfl)) ?_
                    refine dr_done rfl (by kernel_rfl) (by kernel_rfl) ?_
                    refine a_condK rfl rfl ?_
                    refine a_rseq ?_
                    refine rg_put (d := 6) (v := .d (.fl (.bool false))) rfl (og rfl (op_assign rfl rfl rfl)) ?_
                    refine rg_done rfl ?_
                    refine a_ret ?_
                    show ∃ ds, ResL _ _ _ ds ∧ RV.of ds = _
                    refine ⟨[.fl (.bool false)], (.cons (.tmp rfl (.d _)) .nil), ?_⟩
                    exfalso
                    omega
            · skip
              have h45 := f_dec h19
              refine a_exit ?_
              show A _ _ _ _ _ _ _
              refine a_rseq ?_
              refine rg_put (d := 180) (v := .d (.fl (.bool true))) rfl (og rfl (op_call rfl Try.func9 nm9 rfl .nil awake_true rfl)) ?_
              refine rg_put (d := 6) (v := .d (.fl (.bool true))) rfl (og rfl (op_assign rfl rfl rfl)) ?_
              refine rg_done rfl ?_
              refine a_ret ?_
              show ∃ ds, ResL _ _ _ ds ∧ RV.of ds = _
              refine ⟨[.fl (.bool true)], (.cons (.tmp rfl (.d _)) .nil), ?_⟩
              rfl
          · skip
            have h46 := t_dec h17
            refine rg_put (d := 85) (v := .d (.fl (.int .i64 ((purge s.rules s.images s.closed later).2)))) rfl (oy rfl rfl rfl h17 (op_move rfl rfl rfl)) ?_
            refine rg_put (d := 86) (v := .d (.fl (.bool (((purge s.rules s.images s.closed later).2 != 0))))) rfl (oy rfl rfl rfl h17 (op_bin rfl rfl rfl (b_neq _ _ _ _) rfl)) ?_
            refine rg_put (d := 87) (v := .d (.fl (.bool (((purge s.rules s.images s.closed later).2 != 0))))) rfl (oy rfl rfl rfl h17 (op_move rfl rfl rfl)) ?_
            rcases fot (((purge s.rules s.images s.closed later).2 != 0)) with h47 | h47
            · skip
              have h48 := f_bne h47
              refine rg_put (d := 88) (v := .d (.sl 1 (List.map rS ((purge s.rules s.images s.closed later).1.2)))) rfl (oy rfl rfl rfl h47 (op_move rfl rfl rfl)) ?_
              refine rg_put (d := 89) (v := .d (.fl (.int .i64 ((((purge s.rules s.images s.closed later).1.2).length : Int))))) rfl (oy rfl rfl rfl h47 (s_len rfl Try.underlying23 rfl rfl)) ?_
              refine rg_put (d := 90) (v := .d (.sl 1 (List.map rS ((purge s.rules s.images s.closed t).1.2)))) rfl (oy rfl rfl rfl h47 (op_move rfl rfl rfl)) ?_
              refine rg_put (d := 91) (v := .d (.fl (.int .i64 ((((purge s.rules s.images s.closed t).1.2).length : Int))))) rfl (oy rfl rfl rfl h47 (s_len rfl Try.underlying23 rfl rfl)) ?_
              refine rg_put (d := 92) (v := .d (.fl (.bool ((decide ((((purge s.rules s.images s.closed later).1.2).length : Int) < (((purge s.rules s.images s.closed t).1.2).length : Int))))))) rfl (oy rfl rfl rfl h47 (op_bin rfl rfl rfl (b_lss _ _ _ _) rfl)) ?_
              refine rg_put (d := 93) (v := .d (.fl (.bool ((decide ((((purge s.rules s.images s.closed later).1.2).length : Int) < (((purge s.rules s.images s.closed t).1.2).length : Int))))))) rfl (oy rfl rfl rfl h17 (op_pick rfl rfl (by rw [h47]; rfl) rfl)) ?_
              refine rg_put (d := 94) (v := .d (.fl (.bool ((decide ((((purge s.rules s.images s.closed later).1.2).length : Int) < (((purge s.rules s.images s.closed t).1.2).length : Int))))))) rfl (oy rfl rfl rfl h17 (op_move rfl rfl rfl)) ?_
              rcases fot ((decide ((((purge s.rules s.images s.closed later).1.2).length : Int) < (((purge s.rules s.images s.closed t).1.2).length : Int)))) with h49 | h49
              · skip
                have h50 := f_dec h49
                refine rg_put (d := 95) (v := .d (.sl 5 (List.map eIm ((purge s.rules s.images s.closed later).1.1)))) rfl (oy rfl rfl rfl h49 (op_move rfl rfl rfl)) ?_
                refine rg_put (d := 96) (v := .d (.fl (.int .i64 ((((purge s.rules s.images s.closed later).1.1).length : Int))))) rfl (oy rfl rfl rfl h49 (s_len rfl Try.underlying36 rfl rfl)) ?_
                refine rg_put (d := 97) (v := .d (.sl 5 (List.map eIm ((purge s.rules s.images s.closed t).1.1)))) rfl (oy rfl rfl rfl h49 (op_move rfl rfl rfl)) ?_
                refine rg_put (d := 98) (v := .d (.fl (.int .i64 ((((purge s.rules s.images s.closed t).1.1).length : Int))))) rfl (oy rfl rfl rfl h49 (s_len rfl Try.underlying36 rfl rfl)) ?_
                refine rg_put (d := 99) (v := .d (.fl (.bool ((decide ((((purge s.rules s.images s.closed t).1.1).length : Int) < (((purge s.rules s.images s.closed later).1.1).length : Int))))))) rfl (oy rfl rfl rfl h49 (op_bin rfl rfl rfl (b_gtr _ _ _ _) rfl)) ?_
                refine rg_put (d := 100) (v := .d (.fl (.bool ((decide ((((purge s.rules s.images s.closed t).1.1).length : Int) < (((purge s.rules s.images s.closed later).1.1).length : Int))))))) rfl (oy rfl rfl rfl h17 (op_pick rfl rfl (by rw [h49]; rfl) rfl)) ?_
                refine rg_put (d := 101) (v := .d (.fl (.bool ((decide ((((purge s.rules s.images s.closed t).1.1).length : Int) < (((purge s.rules s.images s.closed later).1.1).length : Int))))))) rfl (og rfl (op_pick rfl rfl (by rw [h17]; rfl) rfl)) ?_
                refine rg_done rfl ?_
                refine a_cond rfl (fun h51 => ?_) (fun h51 => ?_)
                · skip
                  have h52 := t_dec h51
                  refine a_rseq ?_
                  refine rg_put (d := 6) (v := .d (.fl (.bool false))) rfl (og rfl (op_assign rfl rfl rfl)) ?_
                  refine rg_done rfl ?_
                  refine a_ret ?_
                  show ∃ ds, ResL _ _ _ ds ∧ RV.of ds = _
                  refine ⟨[.fl (.bool false)], (.cons (.tmp rfl (.d _)) .nil), ?_⟩
                  exfalso
                  obtain ⟨hx1, hx2, hx3⟩ := part_later hz (x := later) (by omega) (by omega)
                  omega
                · skip
                  have h53 := f_dec h51
                  refine a_skip ?_
                  show A _ _ _ _ _ _ _
                  refine a_rseq ?_
                  refine rg_put (d := 13) (v := .d (.fl (.int .i64 0))) rfl (og rfl (op_assign rfl rfl rfl)) ?_
                  refine rg_put (d := 14) (v := .d (.fl (.int .i64 0))) rfl (og rfl (op_assign rfl rfl rfl)) ?_
                  refine rg_done rfl ?_
                  refine a_seq ?_
                  refine a_rseq ?_
                  refine rg_put (d := 102) (v := .pt 101 1) rfl (og rfl (of_eff (s_field_pt rfl Try.underlying39 rfl ti36 rfl rfl rfl) rfl)) ?_
                  refine rg_put (d := 103) (v := .d (.sl 5 (List.map eIm s.images))) rfl (og rfl (op_load_pt rfl Try.underlying36 rfl rfl rfl rfl rfl)) ?_
                  refine rg_put (d := 104) (v := .d (.fl (.int .i64 (s.images.length : Int)))) rfl (og rfl (s_len rfl Try.underlying36 rfl rfl)) ?_
                  refine rg_put (d := 105) (v := .d (.fl (.int .i64 0))) rfl (og rfl (op_move rfl rfl rfl)) ?_
                  refine rg_done rfl ?_
                  refine a_block ?_
                  refine a_loop (ι := Nat) (fun k => SS [(0, .d (.ag (eSto s))), (1, .d (.fl (.int .i64 t))), (2, .d (.fl (.int .i64 later))), (3, .pt 101 0), (7, .d (.sl 5 (List.map eIm ((purge s.rules s.images s.closed t).1.1)))), (8, .d (.sl 1 (List.map rS ((purge s.rules s.images s.closed t).1.2)))), (9, .d (.fl (.int .i64 ((purge s.rules s.images s.closed t).2)))), (10, .d (.sl 5 (List.map eIm ((purge s.rules s.images s.closed later).1.1)))), (11, .d (.sl 1 (List.map rS ((purge s.rules s.images s.closed later).1.2)))), (12, .d (.fl (.int .i64 ((purge s.rules s.images s.closed later).2)))), (25, .d (.fl (.bool ((decide (later < t)))))), (40, .d (.fl (.bool (((purge s.rules s.images s.closed t).2 != 0))))), (69, .d (.fl (.bool ((((((purge s.rules s.images s.closed t).1.1).length : Int) + (((purge s.rules s.images s.closed t).1.2).length : Int)) != (s.images.length : Int)))))), (101, .d (.fl (.bool ((decide ((((purge s.rules s.images s.closed t).1.1).length : Int) < (((purge s.rules s.images s.closed later).1.1).length : Int))))))), (103, .d (.sl 5 (List.map eIm s.images))), (104, .d (.fl (.int .i64 (s.images.length : Int)))), (105, .d (.fl (.int .i64 (k : Int)))), (13, .d (.fl (.int .i64 (((kA s.rules s.images s.closed t k).length : Int))))), (14, .d (.fl (.int .i64 (((kB s.rules s.images s.closed t k).length : Int)))))] [(101, .bx 39 (eSto s))]) (fun k => k ≤ s.images.length) (fun k => s.images.length - k) 0 (by omega) (imp_forget rfl ⟨rfl, rfl, rfl, rfl, rfl, rfl, rfl, rfl, rfl, rfl, rfl, rfl, rfl, rfl, rfl, rfl, (by first | rfl | exact ci (by omega) | exact ci (by simp) | exact cd (by simp) | simp), (by first | rfl | exact ci (by omega) | exact ci (by simp) | exact cd (by simp) | simp), (by first | rfl | exact ci (by omega) | exact ci (by simp) | exact cd (by simp) | simp), trivial⟩ ⟨rfl, trivial⟩) (fun k hok => ?_)
                  have hk := hok
                  have hka := kA_len (l := s.rules) (m := s.images) (c := s.closed) (t := t) k
                  have hkb := kB_len (l := s.rules) (m := s.images) (c := s.closed) (t := t) k
                  refine a_rseq ?_
                  refine rg_put (d := 106) (v := .d (.fl (.bool ((decide ((k : Int) < (s.images.length : Int))))))) rfl (og rfl (op_bin rfl rfl rfl (b_lss _ _ _ _) rfl)) ?_
                  refine rg_done rfl ?_
                  refine a_seq ?_
                  refine a_cond rfl (fun h54 => ?_) (fun h54 => ?_)
                  · skip
                    have h55 := t_dec h54
                    refine a_skip ?_
                    show A _ _ _ _ _ _ _
                    refine a_seq ?_
                    refine a_block ?_
                    refine a_rseq ?_
                    refine rg_put (d := 107) (v := .d (.fl (.int .i64 (k : Int)))) rfl (og rfl (op_move rfl rfl rfl)) ?_
                    refine rg_put (d := 108) (v := .el ((eIm (ix s.images k)))) rfl (og rfl (s_index rfl Try.underlying36 ti26 rfl rfl (by omega) (row_at (by omega)) rfl)) ?_
                    refine rg_put (d := 109) (v := .d (.ag (eIm (ix s.images k)))) rfl (og rfl (of_eff (s_load_els rfl Try.underlying26 rfl ti26 rfl rfl rfl) rfl)) ?_
                    refine rg_nam (d := 16) (v := .pt 103 0) (m := 103) (nw := [(103, .bx 26 ([.fl (.string (⟨#[]⟩)), .fl (.int .i64 0), .fl (.int .i64 0), .fl (.slice none 0 0), .fl (.int .u64 0)]))]) rfl (og rfl (of_eff (s_alloc 103 rfl ti26 (by kernel_rfl) rfl) rfl)) rfl ?_
                    refine rg_put (d := 15) (v := .d (.fl (.int .i64 (k : Int)))) rfl (og rfl (op_assign rfl rfl rfl)) ?_
                    refine rg_sto (nw := [(103, .bx 26 ((eIm (ix s.images k))))]) rfl (og rfl (of_eff (s_store rfl rfl ti26 rfl rfl rfl rfl rfl rfl) rfl)) ?_
                    refine rg_done rfl ?_
                    refine a_dseq (by kernel_rfl) ?_
                    refine dr_put (d := 111) (v := .pt 101 0) rfl (og rfl (of_eff (s_field_pt rfl Try.underlying39 rfl ti22 rfl rfl rfl) rfl)) ?_
                    refine dr_put (d := 112) (v := .d (.sl 3 (List.map eKp s.rules))) rfl (og rfl (op_load_pt rfl Try.underlying22 rfl rfl rfl rfl rfl)) ?_
                    refine dr_put (d := 113) (v := .d (.ag (eIm (ix s.images k)))) rfl (og rfl (of_eff (s_load_pts rfl Try.underlying26 rfl ti26 rfl rfl rfl rfl) rfl)) ?_
                    refine dr_put (d := 114) (v := .pt 101 2) rfl (og rfl (of_eff (s_field_pt rfl Try.underlying39 rfl ti37 rfl rfl rfl) rfl)) ?_
                    refine dr_put (d := 115) (v := .d (.sl 1 (List.map (rI .i64) s.closed))) rfl (og rfl (op_load_pt rfl Try.underlying37 rfl rfl rfl rfl rfl)) ?_
                    refine dr_put (d := 116) (v := .d (.fl (.int .i64 (k : Int)))) rfl (og rfl (op_move rfl rfl rfl)) ?_
                    refine dr_put (d := 117) (v := .el ((rI .i64 (ix s.closed k)))) rfl (og rfl (s_index rfl Try.underlying37 ti3 rfl rfl (by omega) (row_at (by omega)) rfl)) ?_
                    refine dr_put (d := 118) (v := .d (.fl (.int .i64 (ix s.closed k)))) rfl (og rfl (op_load_el rfl Try.underlying3 rfl rfl rfl rfl)) ?_
                    refine dr_put (d := 119) (v := .tu [.fl (.int .i64 ((unt s.rules (ix s.images k) (ix s.closed k)).1)), .fl (.int .i64 ((unt s.rules (ix s.images k) (ix s.closed k)).2))]) rfl (og rfl (op_call rfl Try.func10 nm10 rfl (.cons rfl (.d _) (.cons rfl (.d _) (.cons rfl (.d _) .nil))) (ret_until s.rules (ix s.images k) (ix s.closed k)) rfl)) ?_
                    refine dr_put (d := 110) (v := .tu [.fl (.int .i64 ((unt s.rules (ix s.images k) (ix s.closed k)).1)), .fl (.int .i64 ((unt s.rules (ix s.images k) (ix s.closed k)).2))]) rfl (og rfl (op_move rfl rfl rfl)) ?_
                    refine dr_put (d := 120) (v := .d (.fl (.int .i64 ((unt s.rules (ix s.images k) (ix s.closed k)).1)))) rfl (og rfl (op_extract rfl rfl rfl rfl)) ?_
                    refine dr_put (d := 121) (v := .d (.fl (.int .i64 ((unt s.rules (ix s.images k) (ix s.closed k)).2)))) rfl (og rfl (op_extract rfl rfl rfl rfl)) ?_
                    refine dr_put (d := 17) (v := .d (.fl (.int .i64 ((unt s.rules (ix s.images k) (ix s.closed k)).1)))) rfl (og rfl (op_assign rfl rfl rfl)) ?_
                    refine dr_put (d := 18) (v := .d (.fl (.int .i64 ((unt s.rules (ix s.images k) (ix s.closed k)).2)))) rfl (og rfl (op_assign rfl rfl rfl)) ?_
                    refine dr_done rfl (by kernel_rfl) (by kernel_rfl) ?_
                    refine a_seq ?_
                    refine a_rseq ?_
                    refine rg_put (d := 122) (v := .d (.fl (.int .i64 ((unt s.rules (ix s.images k) (ix s.closed k)).2)))) rfl (og rfl (op_move rfl rfl rfl)) ?_
                    refine rg_put (d := 123) (v := .d (.fl (.bool (((unt s.rules (ix s.images k) (ix s.closed k)).2 == 0))))) rfl (og rfl (op_bin rfl rfl rfl (b_eql _ _ _ _) rfl)) ?_
                    refine rg_put (d := 124) (v := .d (.fl (.bool (((unt s.rules (ix s.images k) (ix s.closed k)).2 == 0))))) rfl (og rfl (op_move rfl rfl rfl)) ?_
                    rcases fot (((unt s.rules (ix s.images k) (ix s.closed k)).2 == 0)) with h56 | h56
                    · skip
                      have h57 := f_beq h56
                      refine rg_put (d := 125) (v := .d (.fl undef)) rfl (on rfl rfl rfl h56) ?_
                      refine rg_put (d := 126) (v := .d (.fl undef)) rfl (on rfl rfl rfl h56) ?_
                      refine rg_put (d := 127) (v := .d (.fl undef)) rfl (on rfl rfl rfl h56) ?_
                      refine rg_put (d := 128) (v := .d (.fl (.bool false))) rfl (og rfl (op_pick rfl rfl (by rw [h56]; rfl) rfl)) ?_
                      refine rg_done rfl ?_
                      refine a_condF rfl rfl ?_
                      refine a_skip ?_
                      show A _ _ _ _ _ _ _
                      refine a_seq ?_
                      refine a_dseq (by kernel_rfl) ?_
                      have hd := part_kept hz (k := k) (by omega) (.inl (f_beq h56))
                      have hbu := kA_up hd.1
                      have hd1 := hd.2.1
                      refine dr_put (d := 158) (v := .d (.fl (.int .i64 (((kA s.rules s.images s.closed t k).length : Int))))) rfl (og rfl (op_move rfl rfl rfl)) ?_
                      refine dr_put (d := 159) (v := .d (.sl 5 (List.map eIm ((purge s.rules s.images s.closed t).1.1)))) rfl (og rfl (op_move rfl rfl rfl)) ?_
                      refine dr_put (d := 160) (v := .d (.fl (.int .i64 ((((purge s.rules s.images s.closed t).1.1).length : Int))))) rfl (og rfl (s_len rfl Try.underlying36 rfl rfl)) ?_
                      refine dr_put (d := 161) (v := .d (.fl (.bool ((decide ((((purge s.rules s.images s.closed t).1.1).length : Int) ≤ ((kA s.rules s.images s.closed t k).length : Int))))))) rfl (og rfl (op_bin rfl rfl rfl (b_geq _ _ _ _) rfl)) ?_
                      refine dr_put (d := 162) (v := .d (.fl (.bool ((decide ((((purge s.rules s.images s.closed t).1.1).length : Int) ≤ ((kA s.rules s.images s.closed t k).length : Int))))))) rfl (og rfl (op_move rfl rfl rfl)) ?_
                      rcases fot ((decide ((((purge s.rules s.images s.closed t).1.1).length : Int) ≤ ((kA s.rules s.images s.closed t k).length : Int)))) with h58 | h58
                      · skip
                        have h59 := f_dec h58
                        refine dr_put (d := 163) (v := .d (.sl 5 (List.map eIm ((purge s.rules s.images s.closed t).1.1)))) rfl (oy rfl rfl rfl h58 (op_move rfl rfl rfl)) ?_
                        refine dr_put (d := 164) (v := .d (.fl (.int .i64 (((kA s.rules s.images s.closed t k).length : Int))))) rfl (oy rfl rfl rfl h58 (op_move rfl rfl rfl)) ?_
                        refine dr_put (d := 165) (v := .d (.fl (.int .i64 (((kA s.rules s.images s.closed t k).length : Int))))) rfl (oy rfl rfl rfl h58 (op_move rfl rfl rfl)) ?_
                        refine dr_put (d := 166) (v := .d (.fl (.int .i64 ((((kA s.rules s.images s.closed t k).length : Int) + 1))))) rfl (oy rfl rfl rfl h58 (op_bin rfl rfl rfl (fun x y w => b_add64 _ _ _ x y w (by omega)) rfl)) ?_
                        refine dr_put (d := 167) (v := .d (.sl 5 (List.map eIm (((((purge s.rules s.images s.closed t).1.1).drop ((kA s.rules s.images s.closed t k).length)).take (((((kA s.rules s.images s.closed t k).length : Int) + 1)).toNat - ((kA s.rules s.images s.closed t k).length))))))) rfl (oy rfl rfl rfl h58 (s_slice rfl Try.underlying36 ti26 rfl (.so (n := (kA s.rules s.images s.closed t k).length) _ rfl (by omega)) (.so (n := ((((kA s.rules s.images s.closed t k).length : Int) + 1)).toNat) _ rfl (by omega)) (by omega) (by omega) rfl)) ?_
                        refine dr_put (d := 168) (v := .pt 101 1) rfl (oy rfl rfl rfl h58 (of_eff (s_field_pt rfl Try.underlying39 rfl ti36 rfl rfl rfl) rfl)) ?_
                        refine dr_put (d := 169) (v := .d (.sl 5 (List.map eIm s.images))) rfl (oy rfl rfl rfl h58 (op_load_pt rfl Try.underlying36 rfl rfl rfl rfl rfl)) ?_
                        refine dr_put (d := 170) (v := .d (.fl (.int .i64 (k : Int)))) rfl (oy rfl rfl rfl h58 (op_move rfl rfl rfl)) ?_
                        refine dr_put (d := 171) (v := .d (.fl (.int .i64 (k : Int)))) rfl (oy rfl rfl rfl h58 (op_move rfl rfl rfl)) ?_
                        refine dr_put (d := 172) (v := .d (.fl (.int .i64 (((k : Int) + 1))))) rfl (oy rfl rfl rfl h58 (op_bin rfl rfl rfl (fun x y w => b_add64 _ _ _ x y w (by omega)) rfl)) ?_
                        refine dr_put (d := 173) (v := .d (.sl 5 (List.map eIm (((s.images.drop k).take ((((k : Int) + 1)).toNat - k)))))) rfl (oy rfl rfl rfl h58 (s_slice rfl Try.underlying36 ti26 rfl (.so (n := k) _ rfl (by omega)) (.so (n := (((k : Int) + 1)).toNat) _ rfl (by omega)) (by omega) (by omega) rfl)) ?_
                        refine dr_put (d := 174) (v := .d (.fl (.bool true))) rfl (oy rfl rfl rfl h58 (op_call rfl Try.func19 nm19 rfl (.cons rfl (.d _) (.cons rfl (.d _) .nil)) (same_eq (a := (((((purge s.rules s.images s.closed t).1.1).drop ((kA s.rules s.images s.closed t k).length)).take (((((kA s.rules s.images s.closed t k).length : Int) + 1)).toNat - ((kA s.rules s.images s.closed t k).length))))) (b := (((s.images.drop k).take ((((k : Int) + 1)).toNat - k)))) (by rw [take_oneI (by omega), take_oneI (by omega), hd.2.2]) (by rw [take_oneI (by omega)]; simp) (by rw [take_oneI (by omega)]; intro q h; have : q = 0 := (by simpa using h); subst this; show (ix (purge s.rules s.images s.closed t).1.1 ((kA s.rules s.images s.closed t k).length)).hold.length ≤ 1000; rw [hd.2.2]; have := g4 k (by omega); omega)) rfl)) ?_
                        refine dr_put (d := 175) (v := .d (.fl (.bool (!true)))) rfl (oy rfl rfl rfl h58 (op_un rfl rfl (u_not _) rfl)) ?_
                        refine dr_put (d := 176) (v := .d (.fl (.bool (!true)))) rfl (og rfl (op_pick rfl rfl (by rw [h58]; rfl) rfl)) ?_
                        refine dr_done rfl (by kernel_rfl) (by kernel_rfl) ?_
                        refine a_condF rfl (not_f rfl) ?_
                        refine a_skip ?_
                        show A _ _ _ _ _ _ _
                        refine a_region ?_
                        refine rg_put (d := 177) (v := .d (.fl (.int .i64 (((kA s.rules s.images s.closed t k).length : Int))))) rfl (og rfl (op_move rfl rfl rfl)) ?_
                        refine rg_put (d := 178) (v := .d (.fl (.int .i64 ((((kA s.rules s.images s.closed t k).length : Int) + 1))))) rfl (og rfl (op_bin rfl rfl rfl (fun x y w => b_add64 _ _ _ x y w (by omega)) rfl)) ?_
                        refine rg_put (d := 13) (v := .d (.fl (.int .i64 ((((kA s.rules s.images s.closed t k).length : Int) + 1))))) rfl (og rfl (op_assign rfl rfl rfl)) ?_
                        refine rg_done rfl ?_
                        show A _ _ _ _ _ _ _
                        refine a_region ?_
                        refine rg_put (d := 179) (v := .d (.fl (.int .i64 (((k : Int) + 1))))) rfl (og rfl (op_bin rfl rfl rfl (fun x y w => b_add64 _ _ _ x y w (by omega)) rfl)) ?_
                        refine rg_put (d := 105) (v := .d (.fl (.int .i64 (((k : Int) + 1))))) rfl (og rfl (op_move rfl rfl rfl)) ?_
                        refine rg_done rfl ?_
                        show ∃ i, _ ∧ _ ∧ Imp _ _ _ _ _
                        refine ⟨k + 1, (by omega), by omega, imp_forget rfl ⟨rfl, rfl, rfl, rfl, rfl, rfl, rfl, rfl, rfl, rfl, rfl, rfl, rfl, rfl, rfl, rfl, (by first | rfl | exact ci (by omega) | exact ci (by simp) | exact cd (by simp) | simp), (ci (by omega)), (ci (by omega)), trivial⟩ ⟨rfl, trivial⟩⟩
                      · skip
                        have h60 := t_dec h58
                        refine dr_put (d := 163) (v := .d (.fl undef)) rfl (on rfl rfl rfl h58) ?_
                        refine dr_put (d := 164) (v := .d (.fl undef)) rfl (on rfl rfl rfl h58) ?_
                        refine dr_put (d := 165) (v := .d (.fl undef)) rfl (on rfl rfl rfl h58) ?_
                        refine dr_put (d := 166) (v := .d (.fl undef)) rfl (on rfl rfl rfl h58) ?_
                        refine dr_put (d := 167) (v := .d (.fl undef)) rfl (on rfl rfl rfl h58) ?_
                        refine dr_put (d := 168) (v := .d (.fl undef)) rfl (on rfl rfl rfl h58) ?_
                        refine dr_put (d := 169) (v := .d (.fl undef)) rfl (on rfl rfl rfl h58) ?_
                        refine dr_put (d := 170) (v := .d (.fl undef)) rfl (on rfl rfl rfl h58) ?_
                        refine dr_put (d := 171) (v := .d (.fl undef)) rfl (on rfl rfl rfl h58) ?_
                        refine dr_put (d := 172) (v := .d (.fl undef)) rfl (on rfl rfl rfl h58) ?_
                        refine dr_put (d := 173) (v := .d (.fl undef)) rfl (on rfl rfl rfl h58) ?_
                        refine dr_put (d := 174) (v := .d (.fl undef)) rfl (on rfl rfl rfl h58) ?_
                        refine dr_put (d := 175) (v := .d (.fl undef)) rfl (on rfl rfl rfl h58) ?_
                        refine dr_put (d := 176) (v := .d (.fl (.bool true))) rfl (og rfl (op_pick rfl rfl (by rw [h58]; rfl) rfl)) ?_
                        refine dr_done rfl (by kernel_rfl) (by kernel_rfl) ?_
                        refine a_condK rfl rfl ?_
                        refine a_rseq ?_
                        refine rg_put (d := 6) (v := .d (.fl (.bool false))) rfl (og rfl (op_assign rfl rfl rfl)) ?_
                        refine rg_done rfl ?_
                        refine a_ret ?_
                        show ∃ ds, ResL _ _ _ ds ∧ RV.of ds = _
                        refine ⟨[.fl (.bool false)], (.cons (.tmp rfl (.d _)) .nil), ?_⟩
                        exfalso
                        omega
                    · skip
                      have h61 := t_beq h56
                      refine rg_put (d := 125) (v := .d (.fl (.int .i64 ((unt s.rules (ix s.images k) (ix s.closed k)).1)))) rfl (oy rfl rfl rfl h56 (op_move rfl rfl rfl)) ?_
                      refine rg_put (d := 126) (v := .d (.fl (.int .i64 t))) rfl (oy rfl rfl rfl h56 (op_move rfl rfl rfl)) ?_
                      refine rg_put (d := 127) (v := .d (.fl (.bool ((decide ((unt s.rules (ix s.images k) (ix s.closed k)).1 ≤ t)))))) rfl (oy rfl rfl rfl h56 (op_bin rfl rfl rfl (b_leq _ _ _ _) rfl)) ?_
                      refine rg_put (d := 128) (v := .d (.fl (.bool ((decide ((unt s.rules (ix s.images k) (ix s.closed k)).1 ≤ t)))))) rfl (og rfl (op_pick rfl rfl (by rw [h56]; rfl) rfl)) ?_
                      refine rg_done rfl ?_
                      refine a_cond rfl (fun h62 => ?_) (fun h62 => ?_)
                      · skip
                        have h63 := t_dec h62
                        refine a_seq ?_
                        refine a_dseq (by kernel_rfl) ?_
                        have hd := part_gone hz (k := k) (by omega) (t_beq h56) (by omega)
                        have hbu := kB_up hd.1
                        obtain ⟨hd0, hd1, hd2, hd3, hd4⟩ := hd
                        refine dr_put (d := 129) (v := .pt 103 3) rfl (og rfl (of_eff (s_field_pt rfl Try.underlying26 rfl ti23 rfl rfl rfl) rfl)) ?_
                        refine dr_put (d := 130) (v := .d (.sl 1 (List.map rS ((ix s.images k).hold)))) rfl (og rfl (op_load_pt rfl Try.underlying23 rfl rfl rfl rfl rfl)) ?_
                        refine dr_put (d := 131) (v := .d (.fl (.int .i64 ((((ix s.images k).hold).length : Int))))) rfl (og rfl (s_len rfl Try.underlying23 rfl rfl)) ?_
                        refine dr_put (d := 132) (v := .d (.fl (.bool ((decide (0 < (((ix s.images k).hold).length : Int))))))) rfl (og rfl (op_bin rfl rfl rfl (b_gtr _ _ _ _) rfl)) ?_
                        refine dr_put (d := 133) (v := .d (.fl (.bool ((decide (0 < (((ix s.images k).hold).length : Int))))))) rfl (og rfl (op_move rfl rfl rfl)) ?_
                        rcases fot ((decide (0 < (((ix s.images k).hold).length : Int)))) with h64 | h64
                        · skip
                          have h65 := f_dec h64
                          refine dr_put (d := 134) (v := .pt 101 2) rfl (oy rfl rfl rfl h64 (of_eff (s_field_pt rfl Try.underlying39 rfl ti37 rfl rfl rfl) rfl)) ?_
                          refine dr_put (d := 135) (v := .d (.sl 1 (List.map (rI .i64) s.closed))) rfl (oy rfl rfl rfl h64 (op_load_pt rfl Try.underlying37 rfl rfl rfl rfl rfl)) ?_
                          refine dr_put (d := 136) (v := .d (.fl (.int .i64 (k : Int)))) rfl (oy rfl rfl rfl h64 (op_move rfl rfl rfl)) ?_
                          refine dr_put (d := 137) (v := .el ((rI .i64 (ix s.closed k)))) rfl (oy rfl rfl rfl h64 (s_index rfl Try.underlying37 ti3 rfl rfl (by omega) (row_at (by omega)) rfl)) ?_
                          refine dr_put (d := 138) (v := .d (.fl (.int .i64 (ix s.closed k)))) rfl (oy rfl rfl rfl h64 (op_load_el rfl Try.underlying3 rfl rfl rfl rfl)) ?_
                          refine dr_put (d := 139) (v := .d (.fl (.bool ((decide ((ix s.closed k) < 0)))))) rfl (oy rfl rfl rfl h64 (op_bin rfl rfl rfl (b_lss _ _ _ _) rfl)) ?_
                          refine dr_put (d := 140) (v := .d (.fl (.bool ((decide ((ix s.closed k) < 0)))))) rfl (og rfl (op_pick rfl rfl (by rw [h64]; rfl) rfl)) ?_
                          refine dr_put (d := 141) (v := .d (.fl (.bool ((decide ((ix s.closed k) < 0)))))) rfl (og rfl (op_move rfl rfl rfl)) ?_
                          rcases fot ((decide ((ix s.closed k) < 0))) with h66 | h66
                          · skip
                            have h67 := f_dec h66
                            refine dr_put (d := 142) (v := .d (.fl (.int .i64 (((kB s.rules s.images s.closed t k).length : Int))))) rfl (oy rfl rfl rfl h66 (op_move rfl rfl rfl)) ?_
                            refine dr_put (d := 143) (v := .d (.sl 1 (List.map rS ((purge s.rules s.images s.closed t).1.2)))) rfl (oy rfl rfl rfl h66 (op_move rfl rfl rfl)) ?_
                            refine dr_put (d := 144) (v := .d (.fl (.int .i64 ((((purge s.rules s.images s.closed t).1.2).length : Int))))) rfl (oy rfl rfl rfl h66 (s_len rfl Try.underlying23 rfl rfl)) ?_
                            refine dr_put (d := 145) (v := .d (.fl (.bool ((decide ((((purge s.rules s.images s.closed t).1.2).length : Int) ≤ ((kB s.rules s.images s.closed t k).length : Int))))))) rfl (oy rfl rfl rfl h66 (op_bin rfl rfl rfl (b_geq _ _ _ _) rfl)) ?_
                            refine dr_put (d := 146) (v := .d (.fl (.bool ((decide ((((purge s.rules s.images s.closed t).1.2).length : Int) ≤ ((kB s.rules s.images s.closed t k).length : Int))))))) rfl (og rfl (op_pick rfl rfl (by rw [h66]; rfl) rfl)) ?_
                            refine dr_put (d := 147) (v := .d (.fl (.bool ((decide ((((purge s.rules s.images s.closed t).1.2).length : Int) ≤ ((kB s.rules s.images s.closed t k).length : Int))))))) rfl (og rfl (op_move rfl rfl rfl)) ?_
                            rcases fot ((decide ((((purge s.rules s.images s.closed t).1.2).length : Int) ≤ ((kB s.rules s.images s.closed t k).length : Int)))) with h68 | h68
                            · skip
                              have h69 := f_dec h68
                              refine dr_put (d := 148) (v := .d (.sl 1 (List.map rS ((purge s.rules s.images s.closed t).1.2)))) rfl (oy rfl rfl rfl h68 (op_move rfl rfl rfl)) ?_
                              refine dr_put (d := 149) (v := .d (.fl (.int .i64 (((kB s.rules s.images s.closed t k).length : Int))))) rfl (oy rfl rfl rfl h68 (op_move rfl rfl rfl)) ?_
                              refine dr_put (d := 150) (v := .el ((rS ((ix ((purge s.rules s.images s.closed t).1.2) ((kB s.rules s.images s.closed t k).length)))))) rfl (oy rfl rfl rfl h68 (s_index rfl Try.underlying23 ti9 rfl rfl (by omega) (row_at (by omega)) rfl)) ?_
                              refine dr_put (d := 151) (v := .d (.fl (.string ((ix ((purge s.rules s.images s.closed t).1.2) ((kB s.rules s.images s.closed t k).length)))))) rfl (oy rfl rfl rfl h68 (op_load_el rfl Try.underlying9 rfl rfl rfl rfl)) ?_
                              refine dr_put (d := 152) (v := .pt 103 0) rfl (oy rfl rfl rfl h68 (of_eff (s_field_pt rfl Try.underlying26 rfl ti9 rfl rfl rfl) rfl)) ?_
                              refine dr_put (d := 153) (v := .d (.fl (.string ((ix s.images k).id)))) rfl (oy rfl rfl rfl h68 (op_load_pt rfl Try.underlying9 rfl rfl rfl rfl rfl)) ?_
                              refine dr_put (d := 154) (v := .d (.fl (.bool ((!(sEq ((ix ((purge s.rules s.images s.closed t).1.2) ((kB s.rules s.images s.closed t k).length))) ((ix s.images k).id))))))) rfl (oy rfl rfl rfl h68 (op_bin rfl rfl rfl (b_sne _ _ _) rfl)) ?_
                              refine dr_put (d := 155) (v := .d (.fl (.bool ((!(sEq ((ix ((purge s.rules s.images s.closed t).1.2) ((kB s.rules s.images s.closed t k).length))) ((ix s.images k).id))))))) rfl (og rfl (op_pick rfl rfl (by rw [h68]; rfl) rfl)) ?_
                              refine dr_done rfl (by kernel_rfl) (by kernel_rfl) ?_
                              refine a_cond rfl (fun h70 => ?_) (fun h70 => ?_)
                              · skip
                                have h71 := t_not h70
                                refine a_rseq ?_
                                refine rg_put (d := 6) (v := .d (.fl (.bool false))) rfl (og rfl (op_assign rfl rfl rfl)) ?_
                                refine rg_done rfl ?_
                                refine a_ret ?_
                                show ∃ ds, ResL _ _ _ ds ∧ RV.of ds = _
                                refine ⟨[.fl (.bool false)], (.cons (.tmp rfl (.d _)) .nil), ?_⟩
                                exact absurd (sEq_of hd4) (by rw [h71]; simp)
                              · skip
                                have h72 := f_not h70
                                refine a_skip ?_
                                show A _ _ _ _ _ _ _
                                refine a_rseq ?_
                                refine rg_put (d := 156) (v := .d (.fl (.int .i64 (((kB s.rules s.images s.closed t k).length : Int))))) rfl (og rfl (op_move rfl rfl rfl)) ?_
                                refine rg_put (d := 157) (v := .d (.fl (.int .i64 ((((kB s.rules s.images s.closed t k).length : Int) + 1))))) rfl (og rfl (op_bin rfl rfl rfl (fun x y w => b_add64 _ _ _ x y w (by omega)) rfl)) ?_
                                refine rg_put (d := 14) (v := .d (.fl (.int .i64 ((((kB s.rules s.images s.closed t k).length : Int) + 1))))) rfl (og rfl (op_assign rfl rfl rfl)) ?_
                                refine rg_done rfl ?_
                                refine a_exit ?_
                                show A _ _ _ _ _ _ _
                                refine a_region ?_
                                refine rg_put (d := 179) (v := .d (.fl (.int .i64 (((k : Int) + 1))))) rfl (og rfl (op_bin rfl rfl rfl (fun x y w => b_add64 _ _ _ x y w (by omega)) rfl)) ?_
                                refine rg_put (d := 105) (v := .d (.fl (.int .i64 (((k : Int) + 1))))) rfl (og rfl (op_move rfl rfl rfl)) ?_
                                refine rg_done rfl ?_
                                show ∃ i, _ ∧ _ ∧ Imp _ _ _ _ _
                                refine ⟨k + 1, (by omega), by omega, imp_forget rfl ⟨rfl, rfl, rfl, rfl, rfl, rfl, rfl, rfl, rfl, rfl, rfl, rfl, rfl, rfl, rfl, rfl, (by first | rfl | exact ci (by omega) | exact ci (by simp) | exact cd (by simp) | simp), (ci (by omega)), (ci (by omega)), trivial⟩ ⟨rfl, trivial⟩⟩
                            · skip
                              have h73 := t_dec h68
                              refine dr_put (d := 148) (v := .d (.fl undef)) rfl (on rfl rfl rfl h68) ?_
                              refine dr_put (d := 149) (v := .d (.fl undef)) rfl (on rfl rfl rfl h68) ?_
                              refine dr_put (d := 150) (v := .d (.fl undef)) rfl (on rfl rfl rfl h68) ?_
                              refine dr_put (d := 151) (v := .d (.fl undef)) rfl (on rfl rfl rfl h68) ?_
                              refine dr_put (d := 152) (v := .d (.fl undef)) rfl (on rfl rfl rfl h68) ?_
                              refine dr_put (d := 153) (v := .d (.fl undef)) rfl (on rfl rfl rfl h68) ?_
                              refine dr_put (d := 154) (v := .d (.fl undef)) rfl (on rfl rfl rfl h68) ?_
                              refine dr_put (d := 155) (v := .d (.fl (.bool true))) rfl (og rfl (op_pick rfl rfl (by rw [h68]; rfl) rfl)) ?_
                              refine dr_done rfl (by kernel_rfl) (by kernel_rfl) ?_
                              refine a_condK rfl rfl ?_
                              refine a_rseq ?_
                              refine rg_put (d := 6) (v := .d (.fl (.bool false))) rfl (og rfl (op_assign rfl rfl rfl)) ?_
                              refine rg_done rfl ?_
                              refine a_ret ?_
                              show ∃ ds, ResL _ _ _ ds ∧ RV.of ds = _
                              refine ⟨[.fl (.bool false)], (.cons (.tmp rfl (.d _)) .nil), ?_⟩
                              exfalso
                              omega
                          · skip
                            have h74 := t_dec h66
                            refine dr_put (d := 142) (v := .d (.fl undef)) rfl (on rfl rfl rfl h66) ?_
                            refine dr_put (d := 143) (v := .d (.fl undef)) rfl (on rfl rfl rfl h66) ?_
                            refine dr_put (d := 144) (v := .d (.fl undef)) rfl (on rfl rfl rfl h66) ?_
                            refine dr_put (d := 145) (v := .d (.fl undef)) rfl (on rfl rfl rfl h66) ?_
                            refine dr_put (d := 146) (v := .d (.fl (.bool true))) rfl (og rfl (op_pick rfl rfl (by rw [h66]; rfl) rfl)) ?_
                            refine dr_put (d := 147) (v := .d (.fl (.bool true))) rfl (og rfl (op_move rfl rfl rfl)) ?_
                            refine dr_put (d := 148) (v := .d (.fl undef)) rfl (on rfl rfl rfl rfl) ?_
                            refine dr_put (d := 149) (v := .d (.fl undef)) rfl (on rfl rfl rfl rfl) ?_
                            refine dr_put (d := 150) (v := .d (.fl undef)) rfl (on rfl rfl rfl rfl) ?_
                            refine dr_put (d := 151) (v := .d (.fl undef)) rfl (on rfl rfl rfl rfl) ?_
                            refine dr_put (d := 152) (v := .d (.fl undef)) rfl (on rfl rfl rfl rfl) ?_
                            refine dr_put (d := 153) (v := .d (.fl undef)) rfl (on rfl rfl rfl rfl) ?_
                            refine dr_put (d := 154) (v := .d (.fl undef)) rfl (on rfl rfl rfl rfl) ?_
                            refine dr_put (d := 155) (v := .d (.fl (.bool true))) rfl (og rfl (op_pick rfl rfl rfl rfl)) ?_
                            refine dr_done rfl (by kernel_rfl) (by kernel_rfl) ?_
                            refine a_condK rfl rfl ?_
                            refine a_rseq ?_
                            refine rg_put (d := 6) (v := .d (.fl (.bool false))) rfl (og rfl (op_assign rfl rfl rfl)) ?_
                            refine rg_done rfl ?_
                            refine a_ret ?_
                            show ∃ ds, ResL _ _ _ ds ∧ RV.of ds = _
                            refine ⟨[.fl (.bool false)], (.cons (.tmp rfl (.d _)) .nil), ?_⟩
                            exfalso
                            omega
                        · skip
                          have h75 := t_dec h64
                          refine dr_put (d := 134) (v := .d (.fl undef)) rfl (on rfl rfl rfl h64) ?_
                          refine dr_put (d := 135) (v := .d (.fl undef)) rfl (on rfl rfl rfl h64) ?_
                          refine dr_put (d := 136) (v := .d (.fl undef)) rfl (on rfl rfl rfl h64) ?_
                          refine dr_put (d := 137) (v := .d (.fl undef)) rfl (on rfl rfl rfl h64) ?_
                          refine dr_put (d := 138) (v := .d (.fl undef)) rfl (on rfl rfl rfl h64) ?_
                          refine dr_put (d := 139) (v := .d (.fl undef)) rfl (on rfl rfl rfl h64) ?_
                          refine dr_put (d := 140) (v := .d (.fl (.bool true))) rfl (og rfl (op_pick rfl rfl (by rw [h64]; rfl) rfl)) ?_
                          refine dr_put (d := 141) (v := .d (.fl (.bool true))) rfl (og rfl (op_move rfl rfl rfl)) ?_
                          refine dr_put (d := 142) (v := .d (.fl undef)) rfl (on rfl rfl rfl rfl) ?_
                          refine dr_put (d := 143) (v := .d (.fl undef)) rfl (on rfl rfl rfl rfl) ?_
                          refine dr_put (d := 144) (v := .d (.fl undef)) rfl (on rfl rfl rfl rfl) ?_
                          refine dr_put (d := 145) (v := .d (.fl undef)) rfl (on rfl rfl rfl rfl) ?_
                          refine dr_put (d := 146) (v := .d (.fl (.bool true))) rfl (og rfl (op_pick rfl rfl rfl rfl)) ?_
                          refine dr_put (d := 147) (v := .d (.fl (.bool true))) rfl (og rfl (op_move rfl rfl rfl)) ?_
                          refine dr_put (d := 148) (v := .d (.fl undef)) rfl (on rfl rfl rfl rfl) ?_
                          refine dr_put (d := 149) (v := .d (.fl undef)) rfl (on rfl rfl rfl rfl) ?_
                          refine dr_put (d := 150) (v := .d (.fl undef)) rfl (on rfl rfl rfl rfl) ?_
                          refine dr_put (d := 151) (v := .d (.fl undef)) rfl (on rfl rfl rfl rfl) ?_
                          refine dr_put (d := 152) (v := .d (.fl undef)) rfl (on rfl rfl rfl rfl) ?_
                          refine dr_put (d := 153) (v := .d (.fl undef)) rfl (on rfl rfl rfl rfl) ?_
                          refine dr_put (d := 154) (v := .d (.fl undef)) rfl (on rfl rfl rfl rfl) ?_
                          refine dr_put (d := 155) (v := .d (.fl (.bool true))) rfl (og rfl (op_pick rfl rfl rfl rfl)) ?_
                          refine dr_done rfl (by kernel_rfl) (by kernel_rfl) ?_
                          refine a_condK rfl rfl ?_
                          refine a_rseq ?_
                          refine rg_put (d := 6) (v := .d (.fl (.bool false))) rfl (og rfl (op_assign rfl rfl rfl)) ?_
                          refine rg_done rfl ?_
                          refine a_ret ?_
                          show ∃ ds, ResL _ _ _ ds ∧ RV.of ds = _
                          refine ⟨[.fl (.bool false)], (.cons (.tmp rfl (.d _)) .nil), ?_⟩
                          exfalso
                          omega
                      · skip
                        have h76 := f_dec h62
                        refine a_skip ?_
                        show A _ _ _ _ _ _ _
                        refine a_seq ?_
                        refine a_dseq (by kernel_rfl) ?_
                        have hd := part_kept hz (k := k) (by omega) (.inr (by omega))
                        have hbu := kA_up hd.1
                        have hd1 := hd.2.1
                        refine dr_put (d := 158) (v := .d (.fl (.int .i64 (((kA s.rules s.images s.closed t k).length : Int))))) rfl (og rfl (op_move rfl rfl rfl)) ?_
                        refine dr_put (d := 159) (v := .d (.sl 5 (List.map eIm ((purge s.rules s.images s.closed t).1.1)))) rfl (og rfl (op_move rfl rfl rfl)) ?_
                        refine dr_put (d := 160) (v := .d (.fl (.int .i64 ((((purge s.rules s.images s.closed t).1.1).length : Int))))) rfl (og rfl (s_len rfl Try.underlying36 rfl rfl)) ?_
                        refine dr_put (d := 161) (v := .d (.fl (.bool ((decide ((((purge s.rules s.images s.closed t).1.1).length : Int) ≤ ((kA s.rules s.images s.closed t k).length : Int))))))) rfl (og rfl (op_bin rfl rfl rfl (b_geq _ _ _ _) rfl)) ?_
                        refine dr_put (d := 162) (v := .d (.fl (.bool ((decide ((((purge s.rules s.images s.closed t).1.1).length : Int) ≤ ((kA s.rules s.images s.closed t k).length : Int))))))) rfl (og rfl (op_move rfl rfl rfl)) ?_
                        rcases fot ((decide ((((purge s.rules s.images s.closed t).1.1).length : Int) ≤ ((kA s.rules s.images s.closed t k).length : Int)))) with h77 | h77
                        · skip
                          have h78 := f_dec h77
                          refine dr_put (d := 163) (v := .d (.sl 5 (List.map eIm ((purge s.rules s.images s.closed t).1.1)))) rfl (oy rfl rfl rfl h77 (op_move rfl rfl rfl)) ?_
                          refine dr_put (d := 164) (v := .d (.fl (.int .i64 (((kA s.rules s.images s.closed t k).length : Int))))) rfl (oy rfl rfl rfl h77 (op_move rfl rfl rfl)) ?_
                          refine dr_put (d := 165) (v := .d (.fl (.int .i64 (((kA s.rules s.images s.closed t k).length : Int))))) rfl (oy rfl rfl rfl h77 (op_move rfl rfl rfl)) ?_
                          refine dr_put (d := 166) (v := .d (.fl (.int .i64 ((((kA s.rules s.images s.closed t k).length : Int) + 1))))) rfl (oy rfl rfl rfl h77 (op_bin rfl rfl rfl (fun x y w => b_add64 _ _ _ x y w (by omega)) rfl)) ?_
                          refine dr_put (d := 167) (v := .d (.sl 5 (List.map eIm (((((purge s.rules s.images s.closed t).1.1).drop ((kA s.rules s.images s.closed t k).length)).take (((((kA s.rules s.images s.closed t k).length : Int) + 1)).toNat - ((kA s.rules s.images s.closed t k).length))))))) rfl (oy rfl rfl rfl h77 (s_slice rfl Try.underlying36 ti26 rfl (.so (n := (kA s.rules s.images s.closed t k).length) _ rfl (by omega)) (.so (n := ((((kA s.rules s.images s.closed t k).length : Int) + 1)).toNat) _ rfl (by omega)) (by omega) (by omega) rfl)) ?_
                          refine dr_put (d := 168) (v := .pt 101 1) rfl (oy rfl rfl rfl h77 (of_eff (s_field_pt rfl Try.underlying39 rfl ti36 rfl rfl rfl) rfl)) ?_
                          refine dr_put (d := 169) (v := .d (.sl 5 (List.map eIm s.images))) rfl (oy rfl rfl rfl h77 (op_load_pt rfl Try.underlying36 rfl rfl rfl rfl rfl)) ?_
                          refine dr_put (d := 170) (v := .d (.fl (.int .i64 (k : Int)))) rfl (oy rfl rfl rfl h77 (op_move rfl rfl rfl)) ?_
                          refine dr_put (d := 171) (v := .d (.fl (.int .i64 (k : Int)))) rfl (oy rfl rfl rfl h77 (op_move rfl rfl rfl)) ?_
                          refine dr_put (d := 172) (v := .d (.fl (.int .i64 (((k : Int) + 1))))) rfl (oy rfl rfl rfl h77 (op_bin rfl rfl rfl (fun x y w => b_add64 _ _ _ x y w (by omega)) rfl)) ?_
                          refine dr_put (d := 173) (v := .d (.sl 5 (List.map eIm (((s.images.drop k).take ((((k : Int) + 1)).toNat - k)))))) rfl (oy rfl rfl rfl h77 (s_slice rfl Try.underlying36 ti26 rfl (.so (n := k) _ rfl (by omega)) (.so (n := (((k : Int) + 1)).toNat) _ rfl (by omega)) (by omega) (by omega) rfl)) ?_
                          refine dr_put (d := 174) (v := .d (.fl (.bool true))) rfl (oy rfl rfl rfl h77 (op_call rfl Try.func19 nm19 rfl (.cons rfl (.d _) (.cons rfl (.d _) .nil)) (same_eq (a := (((((purge s.rules s.images s.closed t).1.1).drop ((kA s.rules s.images s.closed t k).length)).take (((((kA s.rules s.images s.closed t k).length : Int) + 1)).toNat - ((kA s.rules s.images s.closed t k).length))))) (b := (((s.images.drop k).take ((((k : Int) + 1)).toNat - k)))) (by rw [take_oneI (by omega), take_oneI (by omega), hd.2.2]) (by rw [take_oneI (by omega)]; simp) (by rw [take_oneI (by omega)]; intro q h; have : q = 0 := (by simpa using h); subst this; show (ix (purge s.rules s.images s.closed t).1.1 ((kA s.rules s.images s.closed t k).length)).hold.length ≤ 1000; rw [hd.2.2]; have := g4 k (by omega); omega)) rfl)) ?_
                          refine dr_put (d := 175) (v := .d (.fl (.bool (!true)))) rfl (oy rfl rfl rfl h77 (op_un rfl rfl (u_not _) rfl)) ?_
                          refine dr_put (d := 176) (v := .d (.fl (.bool (!true)))) rfl (og rfl (op_pick rfl rfl (by rw [h77]; rfl) rfl)) ?_
                          refine dr_done rfl (by kernel_rfl) (by kernel_rfl) ?_
                          refine a_condF rfl (not_f rfl) ?_
                          refine a_skip ?_
                          show A _ _ _ _ _ _ _
                          refine a_region ?_
                          refine rg_put (d := 177) (v := .d (.fl (.int .i64 (((kA s.rules s.images s.closed t k).length : Int))))) rfl (og rfl (op_move rfl rfl rfl)) ?_
                          refine rg_put (d := 178) (v := .d (.fl (.int .i64 ((((kA s.rules s.images s.closed t k).length : Int) + 1))))) rfl (og rfl (op_bin rfl rfl rfl (fun x y w => b_add64 _ _ _ x y w (by omega)) rfl)) ?_
                          refine rg_put (d := 13) (v := .d (.fl (.int .i64 ((((kA s.rules s.images s.closed t k).length : Int) + 1))))) rfl (og rfl (op_assign rfl rfl rfl)) ?_
                          refine rg_done rfl ?_
                          show A _ _ _ _ _ _ _
                          refine a_region ?_
                          refine rg_put (d := 179) (v := .d (.fl (.int .i64 (((k : Int) + 1))))) rfl (og rfl (op_bin rfl rfl rfl (fun x y w => b_add64 _ _ _ x y w (by omega)) rfl)) ?_
                          refine rg_put (d := 105) (v := .d (.fl (.int .i64 (((k : Int) + 1))))) rfl (og rfl (op_move rfl rfl rfl)) ?_
                          refine rg_done rfl ?_
                          show ∃ i, _ ∧ _ ∧ Imp _ _ _ _ _
                          refine ⟨k + 1, (by omega), by omega, imp_forget rfl ⟨rfl, rfl, rfl, rfl, rfl, rfl, rfl, rfl, rfl, rfl, rfl, rfl, rfl, rfl, rfl, rfl, (by first | rfl | exact ci (by omega) | exact ci (by simp) | exact cd (by simp) | simp), (ci (by omega)), (ci (by omega)), trivial⟩ ⟨rfl, trivial⟩⟩
                        · skip
                          have h79 := t_dec h77
                          refine dr_put (d := 163) (v := .d (.fl undef)) rfl (on rfl rfl rfl h77) ?_
                          refine dr_put (d := 164) (v := .d (.fl undef)) rfl (on rfl rfl rfl h77) ?_
                          refine dr_put (d := 165) (v := .d (.fl undef)) rfl (on rfl rfl rfl h77) ?_
                          refine dr_put (d := 166) (v := .d (.fl undef)) rfl (on rfl rfl rfl h77) ?_
                          refine dr_put (d := 167) (v := .d (.fl undef)) rfl (on rfl rfl rfl h77) ?_
                          refine dr_put (d := 168) (v := .d (.fl undef)) rfl (on rfl rfl rfl h77) ?_
                          refine dr_put (d := 169) (v := .d (.fl undef)) rfl (on rfl rfl rfl h77) ?_
                          refine dr_put (d := 170) (v := .d (.fl undef)) rfl (on rfl rfl rfl h77) ?_
                          refine dr_put (d := 171) (v := .d (.fl undef)) rfl (on rfl rfl rfl h77) ?_
                          refine dr_put (d := 172) (v := .d (.fl undef)) rfl (on rfl rfl rfl h77) ?_
                          refine dr_put (d := 173) (v := .d (.fl undef)) rfl (on rfl rfl rfl h77) ?_
                          refine dr_put (d := 174) (v := .d (.fl undef)) rfl (on rfl rfl rfl h77) ?_
                          refine dr_put (d := 175) (v := .d (.fl undef)) rfl (on rfl rfl rfl h77) ?_
                          refine dr_put (d := 176) (v := .d (.fl (.bool true))) rfl (og rfl (op_pick rfl rfl (by rw [h77]; rfl) rfl)) ?_
                          refine dr_done rfl (by kernel_rfl) (by kernel_rfl) ?_
                          refine a_condK rfl rfl ?_
                          refine a_rseq ?_
                          refine rg_put (d := 6) (v := .d (.fl (.bool false))) rfl (og rfl (op_assign rfl rfl rfl)) ?_
                          refine rg_done rfl ?_
                          refine a_ret ?_
                          show ∃ ds, ResL _ _ _ ds ∧ RV.of ds = _
                          refine ⟨[.fl (.bool false)], (.cons (.tmp rfl (.d _)) .nil), ?_⟩
                          exfalso
                          omega
                  · skip
                    have h80 := f_dec h54
                    refine a_exit ?_
                    show A _ _ _ _ _ _ _
                    refine a_rseq ?_
                    refine rg_put (d := 180) (v := .d (.fl (.bool true))) rfl (og rfl (op_call rfl Try.func9 nm9 rfl .nil awake_true rfl)) ?_
                    refine rg_put (d := 6) (v := .d (.fl (.bool true))) rfl (og rfl (op_assign rfl rfl rfl)) ?_
                    refine rg_done rfl ?_
                    refine a_ret ?_
                    show ∃ ds, ResL _ _ _ ds ∧ RV.of ds = _
                    refine ⟨[.fl (.bool true)], (.cons (.tmp rfl (.d _)) .nil), ?_⟩
                    rfl
              · skip
                have h81 := t_dec h49
                refine rg_put (d := 95) (v := .d (.fl undef)) rfl (on rfl rfl rfl h49) ?_
                refine rg_put (d := 96) (v := .d (.fl undef)) rfl (on rfl rfl rfl h49) ?_
                refine rg_put (d := 97) (v := .d (.fl undef)) rfl (on rfl rfl rfl h49) ?_
                refine rg_put (d := 98) (v := .d (.fl undef)) rfl (on rfl rfl rfl h49) ?_
                refine rg_put (d := 99) (v := .d (.fl undef)) rfl (on rfl rfl rfl h49) ?_
                refine rg_put (d := 100) (v := .d (.fl (.bool true))) rfl (oy rfl rfl rfl h17 (op_pick rfl rfl (by rw [h49]; rfl) rfl)) ?_
                refine rg_put (d := 101) (v := .d (.fl (.bool true))) rfl (og rfl (op_pick rfl rfl (by rw [h17]; rfl) rfl)) ?_
                refine rg_done rfl ?_
                refine a_condK rfl rfl ?_
                refine a_rseq ?_
                refine rg_put (d := 6) (v := .d (.fl (.bool false))) rfl (og rfl (op_assign rfl rfl rfl)) ?_
                refine rg_done rfl ?_
                refine a_ret ?_
                show ∃ ds, ResL _ _ _ ds ∧ RV.of ds = _
                refine ⟨[.fl (.bool false)], (.cons (.tmp rfl (.d _)) .nil), ?_⟩
                exfalso
                obtain ⟨hx1, hx2, hx3⟩ := part_later hz (x := later) (by omega) (by omega)
                omega
            · skip
              have h82 := t_bne h47
              refine rg_put (d := 88) (v := .d (.fl undef)) rfl (on rfl rfl rfl h47) ?_
              refine rg_put (d := 89) (v := .d (.fl undef)) rfl (on rfl rfl rfl h47) ?_
              refine rg_put (d := 90) (v := .d (.fl undef)) rfl (on rfl rfl rfl h47) ?_
              refine rg_put (d := 91) (v := .d (.fl undef)) rfl (on rfl rfl rfl h47) ?_
              refine rg_put (d := 92) (v := .d (.fl undef)) rfl (on rfl rfl rfl h47) ?_
              refine rg_put (d := 93) (v := .d (.fl (.bool true))) rfl (oy rfl rfl rfl h17 (op_pick rfl rfl (by rw [h47]; rfl) rfl)) ?_
              refine rg_put (d := 94) (v := .d (.fl (.bool true))) rfl (oy rfl rfl rfl h17 (op_move rfl rfl rfl)) ?_
              refine rg_put (d := 95) (v := .d (.fl undef)) rfl (on rfl rfl rfl rfl) ?_
              refine rg_put (d := 96) (v := .d (.fl undef)) rfl (on rfl rfl rfl rfl) ?_
              refine rg_put (d := 97) (v := .d (.fl undef)) rfl (on rfl rfl rfl rfl) ?_
              refine rg_put (d := 98) (v := .d (.fl undef)) rfl (on rfl rfl rfl rfl) ?_
              refine rg_put (d := 99) (v := .d (.fl undef)) rfl (on rfl rfl rfl rfl) ?_
              refine rg_put (d := 100) (v := .d (.fl (.bool true))) rfl (oy rfl rfl rfl h17 (op_pick rfl rfl rfl rfl)) ?_
              refine rg_put (d := 101) (v := .d (.fl (.bool true))) rfl (og rfl (op_pick rfl rfl (by rw [h17]; rfl) rfl)) ?_
              refine rg_done rfl ?_
              refine a_condK rfl rfl ?_
              refine a_rseq ?_
              refine rg_put (d := 6) (v := .d (.fl (.bool false))) rfl (og rfl (op_assign rfl rfl rfl)) ?_
              refine rg_done rfl ?_
              refine a_ret ?_
              show ∃ ds, ResL _ _ _ ds ∧ RV.of ds = _
              refine ⟨[.fl (.bool false)], (.cons (.tmp rfl (.d _)) .nil), ?_⟩
              exfalso
              obtain ⟨hx1, hx2, hx3⟩ := part_later hz (x := later) (by omega) (by omega)
              omega
  · skip
    refine rg_put (d := 22) (v := .d (.fl undef)) rfl (on rfl rfl rfl h1) ?_
    refine rg_put (d := 23) (v := .d (.fl undef)) rfl (on rfl rfl rfl h1) ?_
    refine rg_put (d := 24) (v := .d (.fl undef)) rfl (on rfl rfl rfl h1) ?_
    refine rg_put (d := 25) (v := .d (.fl (.bool true))) rfl (og rfl (op_pick rfl rfl (by rw [h1]; rfl) rfl)) ?_
    refine rg_done rfl ?_
    refine a_condK rfl rfl ?_
    refine a_rseq ?_
    refine rg_put (d := 26) (v := .d (.fl (.bool true))) rfl (og rfl (op_call rfl Try.func9 nm9 rfl .nil awake_true rfl)) ?_
    refine rg_put (d := 6) (v := .d (.fl (.bool true))) rfl (og rfl (op_assign rfl rfl rfl)) ?_
    refine rg_done rfl ?_
    refine a_ret ?_
    show ∃ ds, ResL _ _ _ ds ∧ RV.of ds = _
    refine ⟨[.fl (.bool true)], (.cons (.tmp rfl (.d _)) .nil), ?_⟩
    rfl
end Go.Proofs.Yteplcjhnmmpicaa.Wk
