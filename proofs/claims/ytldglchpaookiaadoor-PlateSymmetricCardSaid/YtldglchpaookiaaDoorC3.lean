/- The law of both ways. No condition. -/
import Derived.Test.YtldglchpaookiaaDoorAl
import Derived.Test.YtldglchpaookiaaDoorB4
set_option linter.unusedSimpArgs false
set_option linter.unusedVariables false
namespace Go.Proofs.YtldglchpaookiaaDoor.Wk
open Go Go.RowKit Go.Proofs.YtldglchpaookiaaDoor.Av
set_option maxHeartbeats 4000000 in
set_option maxRecDepth 100000 in
theorem law8 (a b : ByteArray) : Ctr Tryd.prog 8 [.fl (.string a), .fl (.string b)] (.d (.fl (.bool true))) := by
  refine ctr (n := 66) (rs := #[.tmp 4]) (L := [(0, .d (.fl (.string a))), (1, .d (.fl (.string b)))]) Tryd.func8 rfl rfl rfl rfl rfl (fun w0 U0 => ?_)
  refine a_rseq ?_
  refine rg_put (d := 4) (v := .d (.fl (.bool false))) rfl (og rfl (op_assign rfl rfl rfl)) ?_
  refine rg_done rfl ?_
  refine a_seq ?_
  refine a_rseq ?_
  refine rg_put (d := 7) (v := .d (.fl (.string a))) rfl (og rfl (op_move rfl rfl rfl)) ?_
  refine rg_put (d := 8) (v := .d (.fl (.int .i64 (a.size : Int)))) rfl (og rfl (op_len_str rfl Tryd.underlying9 rfl rfl)) ?_
  refine rg_put (d := 9) (v := .d (.fl (.bool ((decide (60 < (a.size : Int))))))) rfl (og rfl (op_bin rfl rfl rfl (b_gtr _ _ _ _) rfl)) ?_
  refine rg_put (d := 10) (v := .d (.fl (.bool ((decide (60 < (a.size : Int))))))) rfl (og rfl (op_move rfl rfl rfl)) ?_
  rcases fot ((decide (60 < (a.size : Int)))) with h1 | h1
  · skip
    have h2 := f_dec h1
    refine rg_put (d := 11) (v := .d (.fl (.string b))) rfl (oy rfl rfl rfl h1 (op_move rfl rfl rfl)) ?_
    refine rg_put (d := 12) (v := .d (.fl (.int .i64 (b.size : Int)))) rfl (oy rfl rfl rfl h1 (op_len_str rfl Tryd.underlying9 rfl rfl)) ?_
    refine rg_put (d := 13) (v := .d (.fl (.bool ((decide (60 < (b.size : Int))))))) rfl (oy rfl rfl rfl h1 (op_bin rfl rfl rfl (b_gtr _ _ _ _) rfl)) ?_
    refine rg_put (d := 14) (v := .d (.fl (.bool ((decide (60 < (b.size : Int))))))) rfl (og rfl (op_pick rfl rfl (by rw [h1]; rfl) rfl)) ?_
    refine rg_done rfl ?_
    refine a_cond rfl (fun h3 => ?_) (fun h3 => ?_)
    · skip
      have h4 := t_dec h3
      refine a_rseq ?_
      refine rg_put (d := 15) (v := .d (.fl (.bool true))) rfl (og rfl (op_call rfl Tryd.func11 nm11 rfl .nil alive11 rfl)) ?_
      refine rg_put (d := 4) (v := .d (.fl (.bool true))) rfl (og rfl (op_assign rfl rfl rfl)) ?_
      refine rg_done rfl ?_
      refine a_ret ?_
      show ∃ ds, ResL _ _ _ ds ∧ RV.of ds = _
      refine ⟨[.fl (.bool true)], (.cons (.tmp rfl (.d _)) .nil), ?_⟩
      first
        | rfl
        | (exfalso; omega)
    · skip
      have h5 := f_dec h3
      refine a_skip ?_
      show A _ _ _ _ _ _ _
      refine a_rseq ?_
      have hza := hd_sz a
      have hzb := hd_sz b
      have hlo := dst_lo a b
      have hhi := dst_hi a b
      refine rg_put (d := 16) (v := .d (.fl (.string a))) rfl (og rfl (op_move rfl rfl rfl)) ?_
      refine rg_put (d := 17) (v := .d (.fl (.string b))) rfl (og rfl (op_move rfl rfl rfl)) ?_
      refine rg_put (d := 18) (v := .d (.fl (.int .i64 (dst a b)))) rfl (og rfl (op_call rfl Tryd.func16 nm16 rfl (.cons rfl (.d _) (.cons rfl (.d _) .nil)) (dsD a b (by omega) (by omega)) rfl)) ?_
      refine rg_put (d := 5) (v := .d (.fl (.int .i64 (dst a b)))) rfl (og rfl (op_assign rfl rfl rfl)) ?_
      refine rg_done rfl ?_
      refine a_rseq ?_
      refine rg_put (d := 19) (v := .d (.fl (.string a))) rfl (og rfl (op_move rfl rfl rfl)) ?_
      refine rg_put (d := 20) (v := .d (.fl (.string (hd a)))) rfl (og rfl (op_call rfl Tryd.func26 nm26 rfl (.cons rfl (.d _) .nil) (hdW a (by omega)) rfl)) ?_
      refine rg_put (d := 21) (v := .d (.fl (.int .i64 (((hd a).size : Int))))) rfl (og rfl (op_len_str rfl Tryd.underlying9 rfl rfl)) ?_
      refine rg_put (d := 22) (v := .d (.fl (.string b))) rfl (og rfl (op_move rfl rfl rfl)) ?_
      refine rg_put (d := 23) (v := .d (.fl (.string (hd b)))) rfl (og rfl (op_call rfl Tryd.func26 nm26 rfl (.cons rfl (.d _) .nil) (hdW b (by omega)) rfl)) ?_
      refine rg_put (d := 24) (v := .d (.fl (.int .i64 (((hd b).size : Int))))) rfl (og rfl (op_len_str rfl Tryd.underlying9 rfl rfl)) ?_
      refine rg_put (d := 25) (v := .d (.fl (.int .i64 ((((hd a).size : Int) - ((hd b).size : Int)))))) rfl (og rfl (op_bin rfl rfl rfl (fun x y w => b_sub64 _ _ _ x y w (by omega)) rfl)) ?_
      refine rg_put (d := 6) (v := .d (.fl (.int .i64 ((((hd a).size : Int) - ((hd b).size : Int)))))) rfl (og rfl (op_assign rfl rfl rfl)) ?_
      refine rg_done rfl ?_
      refine a_seq ?_
      refine a_rseq ?_
      refine rg_put (d := 26) (v := .d (.fl (.int .i64 ((((hd a).size : Int) - ((hd b).size : Int)))))) rfl (og rfl (op_move rfl rfl rfl)) ?_
      refine rg_put (d := 27) (v := .d (.fl (.bool ((decide ((((hd a).size : Int) - ((hd b).size : Int)) < 0)))))) rfl (og rfl (op_bin rfl rfl rfl (b_lss _ _ _ _) rfl)) ?_
      refine rg_done rfl ?_
      refine a_cond rfl (fun h6 => ?_) (fun h6 => ?_)
      · skip
        have h7 := t_dec h6
        refine a_region ?_
        refine rg_put (d := 28) (v := .d (.fl (.int .i64 ((((hd a).size : Int) - ((hd b).size : Int)))))) rfl (og rfl (op_move rfl rfl rfl)) ?_
        refine rg_put (d := 29) (v := .d (.fl (.int .i64 ((-((((hd a).size : Int) - ((hd b).size : Int)))))))) rfl (og rfl (op_un rfl rfl (fun w => u_neg64 _ w (by omega)) rfl)) ?_
        refine rg_put (d := 6) (v := .d (.fl (.int .i64 ((-((((hd a).size : Int) - ((hd b).size : Int)))))))) rfl (og rfl (op_assign rfl rfl rfl)) ?_
        refine rg_done rfl ?_
        show A _ _ _ _ _ _ _
        refine a_rseq ?_
        refine rg_put (d := 30) (v := .d (.fl (.int .i64 (dst a b)))) rfl (og rfl (op_move rfl rfl rfl)) ?_
        refine rg_put (d := 31) (v := .d (.fl (.string b))) rfl (og rfl (op_move rfl rfl rfl)) ?_
        refine rg_put (d := 32) (v := .d (.fl (.string a))) rfl (og rfl (op_move rfl rfl rfl)) ?_
        refine rg_put (d := 33) (v := .d (.fl (.int .i64 (dst a b)))) rfl (og rfl (op_call rfl Tryd.func16 nm16 rfl (.cons rfl (.d _) (.cons rfl (.d _) .nil)) (dsDs a b (by omega) (by omega)) rfl)) ?_
        refine rg_put (d := 34) (v := .d (.fl (.bool (((dst a b) == (dst a b)))))) rfl (og rfl (op_bin rfl rfl rfl (b_eql _ _ _ _) rfl)) ?_
        refine rg_put (d := 35) (v := .d (.fl (.bool (((dst a b) == (dst a b)))))) rfl (og rfl (op_move rfl rfl rfl)) ?_
        refine rg_put (d := 36) (v := .d (.fl (.int .i64 (dst a b)))) rfl (oy rfl rfl rfl (beq_self_eq_true _) (op_move rfl rfl rfl)) ?_
        refine rg_put (d := 37) (v := .d (.fl (.bool (((dst a b) == 0))))) rfl (oy rfl rfl rfl (beq_self_eq_true _) (op_bin rfl rfl rfl (b_eql _ _ _ _) rfl)) ?_
        refine rg_put (d := 38) (v := .d (.fl (.string a))) rfl (oy rfl rfl rfl (beq_self_eq_true _) (op_move rfl rfl rfl)) ?_
        refine rg_put (d := 39) (v := .d (.fl (.string (hd a)))) rfl (oy rfl rfl rfl (beq_self_eq_true _) (op_call rfl Tryd.func26 nm26 rfl (.cons rfl (.d _) .nil) (hdW a (by omega)) rfl)) ?_
        refine rg_put (d := 40) (v := .d (.fl (.string b))) rfl (oy rfl rfl rfl (beq_self_eq_true _) (op_move rfl rfl rfl)) ?_
        refine rg_put (d := 41) (v := .d (.fl (.string (hd b)))) rfl (oy rfl rfl rfl (beq_self_eq_true _) (op_call rfl Tryd.func26 nm26 rfl (.cons rfl (.d _) .nil) (hdW b (by omega)) rfl)) ?_
        refine rg_put (d := 42) (v := .d (.fl (.bool ((sEq (hd a) (hd b)))))) rfl (oy rfl rfl rfl (beq_self_eq_true _) (op_bin rfl rfl rfl (b_seq _ _ _) rfl)) ?_
        refine rg_put (d := 43) (v := .d (.fl (.bool ((((dst a b) == 0) == (sEq (hd a) (hd b))))))) rfl (oy rfl rfl rfl (beq_self_eq_true _) (op_bin rfl rfl rfl (fun x y w => b_beq _ _ _ x y w Tryd.underlying4) rfl)) ?_
        refine rg_put (d := 44) (v := .d (.fl (.bool ((((dst a b) == 0) == (sEq (hd a) (hd b))))))) rfl (og rfl (op_pick rfl rfl (by rw [(beq_self_eq_true _)]; rfl) rfl)) ?_
        refine rg_put (d := 45) (v := .d (.fl (.bool ((((dst a b) == 0) == (sEq (hd a) (hd b))))))) rfl (og rfl (op_move rfl rfl rfl)) ?_
        refine rg_put (d := 46) (v := .d (.fl (.int .i64 (dst a b)))) rfl (oy rfl rfl rfl (dst_0 a b) (op_move rfl rfl rfl)) ?_
        refine rg_put (d := 47) (v := .d (.fl (.int .i64 ((-((((hd a).size : Int) - ((hd b).size : Int)))))))) rfl (oy rfl rfl rfl (dst_0 a b) (op_move rfl rfl rfl)) ?_
        refine rg_put (d := 48) (v := .d (.fl (.int .i64 ((3 * (-((((hd a).size : Int) - ((hd b).size : Int))))))))) rfl (oy rfl rfl rfl (dst_0 a b) (op_bin rfl rfl rfl (fun x y w => b_mul64 _ _ _ x y w (by omega)) rfl)) ?_
        refine rg_put (d := 49) (v := .d (.fl (.bool ((decide ((3 * (-((((hd a).size : Int) - ((hd b).size : Int))))) ≤ (dst a b))))))) rfl (oy rfl rfl rfl (dst_0 a b) (op_bin rfl rfl rfl (b_geq _ _ _ _) rfl)) ?_
        refine rg_put (d := 50) (v := .d (.fl (.bool ((decide ((3 * (-((((hd a).size : Int) - ((hd b).size : Int))))) ≤ (dst a b))))))) rfl (og rfl (op_pick rfl rfl (by rw [(dst_0 a b)]; rfl) rfl)) ?_
        refine rg_put (d := 51) (v := .d (.fl (.bool ((decide ((3 * (-((((hd a).size : Int) - ((hd b).size : Int))))) ≤ (dst a b))))))) rfl (og rfl (op_move rfl rfl rfl)) ?_
        rcases fot ((decide ((3 * (-((((hd a).size : Int) - ((hd b).size : Int))))) ≤ (dst a b)))) with h8 | h8
        · skip
          have h9 := f_dec h8
          refine rg_put (d := 52) (v := .d (.fl undef)) rfl (on rfl rfl rfl h8) ?_
          refine rg_put (d := 53) (v := .d (.fl undef)) rfl (on rfl rfl rfl h8) ?_
          refine rg_put (d := 54) (v := .d (.fl (.bool false))) rfl (og rfl (op_pick rfl rfl (by rw [h8]; rfl) rfl)) ?_
          refine rg_put (d := 55) (v := .d (.fl (.bool false))) rfl (og rfl (op_move rfl rfl rfl)) ?_
          refine rg_put (d := 56) (v := .d (.fl undef)) rfl (on rfl rfl rfl rfl) ?_
          refine rg_put (d := 57) (v := .d (.fl undef)) rfl (on rfl rfl rfl rfl) ?_
          refine rg_put (d := 58) (v := .d (.fl undef)) rfl (on rfl rfl rfl rfl) ?_
          refine rg_put (d := 59) (v := .d (.fl undef)) rfl (on rfl rfl rfl rfl) ?_
          refine rg_put (d := 60) (v := .d (.fl undef)) rfl (on rfl rfl rfl rfl) ?_
          refine rg_put (d := 61) (v := .d (.fl undef)) rfl (on rfl rfl rfl rfl) ?_
          refine rg_put (d := 62) (v := .d (.fl (.bool false))) rfl (og rfl (op_pick rfl rfl rfl rfl)) ?_
          refine rg_put (d := 63) (v := .d (.fl (.bool false))) rfl (og rfl (op_move rfl rfl rfl)) ?_
          refine rg_put (d := 64) (v := .d (.fl undef)) rfl (on rfl rfl rfl rfl) ?_
          refine rg_put (d := 65) (v := .d (.fl (.bool false))) rfl (og rfl (op_pick rfl rfl rfl rfl)) ?_
          refine rg_put (d := 4) (v := .d (.fl (.bool false))) rfl (og rfl (op_assign rfl rfl rfl)) ?_
          refine rg_done rfl ?_
          refine a_ret ?_
          show ∃ ds, ResL _ _ _ ds ∧ RV.of ds = _
          refine ⟨[.fl (.bool false)], (.cons (.tmp rfl (.d _)) .nil), ?_⟩
          first
            | rfl
            | (exfalso; omega)
        · skip
          have h10 := t_dec h8
          refine rg_put (d := 52) (v := .d (.fl (.int .i64 (dst a b)))) rfl (oy rfl rfl rfl h8 (op_move rfl rfl rfl)) ?_
          refine rg_put (d := 53) (v := .d (.fl (.bool ((decide ((dst a b) ≤ 96)))))) rfl (oy rfl rfl rfl h8 (op_bin rfl rfl rfl (b_leq _ _ _ _) rfl)) ?_
          refine rg_put (d := 54) (v := .d (.fl (.bool ((decide ((dst a b) ≤ 96)))))) rfl (og rfl (op_pick rfl rfl (by rw [h8]; rfl) rfl)) ?_
          refine rg_put (d := 55) (v := .d (.fl (.bool ((decide ((dst a b) ≤ 96)))))) rfl (og rfl (op_move rfl rfl rfl)) ?_
          rcases fot ((decide ((dst a b) ≤ 96))) with h11 | h11
          · skip
            have h12 := f_dec h11
            refine rg_put (d := 56) (v := .d (.fl undef)) rfl (on rfl rfl rfl h11) ?_
            refine rg_put (d := 57) (v := .d (.fl undef)) rfl (on rfl rfl rfl h11) ?_
            refine rg_put (d := 58) (v := .d (.fl undef)) rfl (on rfl rfl rfl h11) ?_
            refine rg_put (d := 59) (v := .d (.fl undef)) rfl (on rfl rfl rfl h11) ?_
            refine rg_put (d := 60) (v := .d (.fl undef)) rfl (on rfl rfl rfl h11) ?_
            refine rg_put (d := 61) (v := .d (.fl undef)) rfl (on rfl rfl rfl h11) ?_
            refine rg_put (d := 62) (v := .d (.fl (.bool false))) rfl (og rfl (op_pick rfl rfl (by rw [h11]; rfl) rfl)) ?_
            refine rg_put (d := 63) (v := .d (.fl (.bool false))) rfl (og rfl (op_move rfl rfl rfl)) ?_
            refine rg_put (d := 64) (v := .d (.fl undef)) rfl (on rfl rfl rfl rfl) ?_
            refine rg_put (d := 65) (v := .d (.fl (.bool false))) rfl (og rfl (op_pick rfl rfl rfl rfl)) ?_
            refine rg_put (d := 4) (v := .d (.fl (.bool false))) rfl (og rfl (op_assign rfl rfl rfl)) ?_
            refine rg_done rfl ?_
            refine a_ret ?_
            show ∃ ds, ResL _ _ _ ds ∧ RV.of ds = _
            refine ⟨[.fl (.bool false)], (.cons (.tmp rfl (.d _)) .nil), ?_⟩
            first
              | rfl
              | (exfalso; omega)
          · skip
            have h13 := t_dec h11
            refine rg_put (d := 56) (v := .d (.fl (.string a))) rfl (oy rfl rfl rfl h11 (op_move rfl rfl rfl)) ?_
            refine rg_put (d := 57) (v := .d (.fl (.string b))) rfl (oy rfl rfl rfl h11 (op_move rfl rfl rfl)) ?_
            refine rg_put (d := 58) (v := .d (.fl (.bool (sm a b)))) rfl (oy rfl rfl rfl h11 (op_call rfl Tryd.func18 nm18 rfl (.cons rfl (.d _) (.cons rfl (.d _) .nil)) (smP a b (by omega) (by omega)) rfl)) ?_
            refine rg_put (d := 59) (v := .d (.fl (.int .i64 (dst a b)))) rfl (oy rfl rfl rfl h11 (op_move rfl rfl rfl)) ?_
            refine rg_put (d := 60) (v := .d (.fl (.bool ((decide ((dst a b) ≤ 2)))))) rfl (oy rfl rfl rfl h11 (op_bin rfl rfl rfl (b_leq _ _ _ _) rfl)) ?_
            refine rg_put (d := 61) (v := .d (.fl (.bool (((sm a b) == (decide ((dst a b) ≤ 2))))))) rfl (oy rfl rfl rfl h11 (op_bin rfl rfl rfl (fun x y w => b_beq _ _ _ x y w Tryd.underlying4) rfl)) ?_
            refine rg_put (d := 62) (v := .d (.fl (.bool (((sm a b) == (decide ((dst a b) ≤ 2))))))) rfl (og rfl (op_pick rfl rfl (by rw [h11]; rfl) rfl)) ?_
            refine rg_put (d := 63) (v := .d (.fl (.bool (((sm a b) == (decide ((dst a b) ≤ 2))))))) rfl (og rfl (op_move rfl rfl rfl)) ?_
            refine rg_put (d := 64) (v := .d (.fl (.bool true))) rfl (oy rfl rfl rfl (smE a b) (op_call rfl Tryd.func11 nm11 rfl .nil alive11 rfl)) ?_
            refine rg_put (d := 65) (v := .d (.fl (.bool true))) rfl (og rfl (op_pick rfl rfl (by rw [(smE a b)]; rfl) rfl)) ?_
            refine rg_put (d := 4) (v := .d (.fl (.bool true))) rfl (og rfl (op_assign rfl rfl rfl)) ?_
            refine rg_done rfl ?_
            refine a_ret ?_
            show ∃ ds, ResL _ _ _ ds ∧ RV.of ds = _
            refine ⟨[.fl (.bool true)], (.cons (.tmp rfl (.d _)) .nil), ?_⟩
            first
              | rfl
              | (exfalso; omega)
      · skip
        have h14 := f_dec h6
        refine a_skip ?_
        show A _ _ _ _ _ _ _
        refine a_rseq ?_
        refine rg_put (d := 30) (v := .d (.fl (.int .i64 (dst a b)))) rfl (og rfl (op_move rfl rfl rfl)) ?_
        refine rg_put (d := 31) (v := .d (.fl (.string b))) rfl (og rfl (op_move rfl rfl rfl)) ?_
        refine rg_put (d := 32) (v := .d (.fl (.string a))) rfl (og rfl (op_move rfl rfl rfl)) ?_
        refine rg_put (d := 33) (v := .d (.fl (.int .i64 (dst a b)))) rfl (og rfl (op_call rfl Tryd.func16 nm16 rfl (.cons rfl (.d _) (.cons rfl (.d _) .nil)) (dsDs a b (by omega) (by omega)) rfl)) ?_
        refine rg_put (d := 34) (v := .d (.fl (.bool (((dst a b) == (dst a b)))))) rfl (og rfl (op_bin rfl rfl rfl (b_eql _ _ _ _) rfl)) ?_
        refine rg_put (d := 35) (v := .d (.fl (.bool (((dst a b) == (dst a b)))))) rfl (og rfl (op_move rfl rfl rfl)) ?_
        refine rg_put (d := 36) (v := .d (.fl (.int .i64 (dst a b)))) rfl (oy rfl rfl rfl (beq_self_eq_true _) (op_move rfl rfl rfl)) ?_
        refine rg_put (d := 37) (v := .d (.fl (.bool (((dst a b) == 0))))) rfl (oy rfl rfl rfl (beq_self_eq_true _) (op_bin rfl rfl rfl (b_eql _ _ _ _) rfl)) ?_
        refine rg_put (d := 38) (v := .d (.fl (.string a))) rfl (oy rfl rfl rfl (beq_self_eq_true _) (op_move rfl rfl rfl)) ?_
        refine rg_put (d := 39) (v := .d (.fl (.string (hd a)))) rfl (oy rfl rfl rfl (beq_self_eq_true _) (op_call rfl Tryd.func26 nm26 rfl (.cons rfl (.d _) .nil) (hdW a (by omega)) rfl)) ?_
        refine rg_put (d := 40) (v := .d (.fl (.string b))) rfl (oy rfl rfl rfl (beq_self_eq_true _) (op_move rfl rfl rfl)) ?_
        refine rg_put (d := 41) (v := .d (.fl (.string (hd b)))) rfl (oy rfl rfl rfl (beq_self_eq_true _) (op_call rfl Tryd.func26 nm26 rfl (.cons rfl (.d _) .nil) (hdW b (by omega)) rfl)) ?_
        refine rg_put (d := 42) (v := .d (.fl (.bool ((sEq (hd a) (hd b)))))) rfl (oy rfl rfl rfl (beq_self_eq_true _) (op_bin rfl rfl rfl (b_seq _ _ _) rfl)) ?_
        refine rg_put (d := 43) (v := .d (.fl (.bool ((((dst a b) == 0) == (sEq (hd a) (hd b))))))) rfl (oy rfl rfl rfl (beq_self_eq_true _) (op_bin rfl rfl rfl (fun x y w => b_beq _ _ _ x y w Tryd.underlying4) rfl)) ?_
        refine rg_put (d := 44) (v := .d (.fl (.bool ((((dst a b) == 0) == (sEq (hd a) (hd b))))))) rfl (og rfl (op_pick rfl rfl (by rw [(beq_self_eq_true _)]; rfl) rfl)) ?_
        refine rg_put (d := 45) (v := .d (.fl (.bool ((((dst a b) == 0) == (sEq (hd a) (hd b))))))) rfl (og rfl (op_move rfl rfl rfl)) ?_
        refine rg_put (d := 46) (v := .d (.fl (.int .i64 (dst a b)))) rfl (oy rfl rfl rfl (dst_0 a b) (op_move rfl rfl rfl)) ?_
        refine rg_put (d := 47) (v := .d (.fl (.int .i64 ((((hd a).size : Int) - ((hd b).size : Int)))))) rfl (oy rfl rfl rfl (dst_0 a b) (op_move rfl rfl rfl)) ?_
        refine rg_put (d := 48) (v := .d (.fl (.int .i64 ((3 * (((hd a).size : Int) - ((hd b).size : Int))))))) rfl (oy rfl rfl rfl (dst_0 a b) (op_bin rfl rfl rfl (fun x y w => b_mul64 _ _ _ x y w (by omega)) rfl)) ?_
        refine rg_put (d := 49) (v := .d (.fl (.bool ((decide ((3 * (((hd a).size : Int) - ((hd b).size : Int))) ≤ (dst a b))))))) rfl (oy rfl rfl rfl (dst_0 a b) (op_bin rfl rfl rfl (b_geq _ _ _ _) rfl)) ?_
        refine rg_put (d := 50) (v := .d (.fl (.bool ((decide ((3 * (((hd a).size : Int) - ((hd b).size : Int))) ≤ (dst a b))))))) rfl (og rfl (op_pick rfl rfl (by rw [(dst_0 a b)]; rfl) rfl)) ?_
        refine rg_put (d := 51) (v := .d (.fl (.bool ((decide ((3 * (((hd a).size : Int) - ((hd b).size : Int))) ≤ (dst a b))))))) rfl (og rfl (op_move rfl rfl rfl)) ?_
        rcases fot ((decide ((3 * (((hd a).size : Int) - ((hd b).size : Int))) ≤ (dst a b)))) with h15 | h15
        · skip
          have h16 := f_dec h15
          refine rg_put (d := 52) (v := .d (.fl undef)) rfl (on rfl rfl rfl h15) ?_
          refine rg_put (d := 53) (v := .d (.fl undef)) rfl (on rfl rfl rfl h15) ?_
          refine rg_put (d := 54) (v := .d (.fl (.bool false))) rfl (og rfl (op_pick rfl rfl (by rw [h15]; rfl) rfl)) ?_
          refine rg_put (d := 55) (v := .d (.fl (.bool false))) rfl (og rfl (op_move rfl rfl rfl)) ?_
          refine rg_put (d := 56) (v := .d (.fl undef)) rfl (on rfl rfl rfl rfl) ?_
          refine rg_put (d := 57) (v := .d (.fl undef)) rfl (on rfl rfl rfl rfl) ?_
          refine rg_put (d := 58) (v := .d (.fl undef)) rfl (on rfl rfl rfl rfl) ?_
          refine rg_put (d := 59) (v := .d (.fl undef)) rfl (on rfl rfl rfl rfl) ?_
          refine rg_put (d := 60) (v := .d (.fl undef)) rfl (on rfl rfl rfl rfl) ?_
          refine rg_put (d := 61) (v := .d (.fl undef)) rfl (on rfl rfl rfl rfl) ?_
          refine rg_put (d := 62) (v := .d (.fl (.bool false))) rfl (og rfl (op_pick rfl rfl rfl rfl)) ?_
          refine rg_put (d := 63) (v := .d (.fl (.bool false))) rfl (og rfl (op_move rfl rfl rfl)) ?_
          refine rg_put (d := 64) (v := .d (.fl undef)) rfl (on rfl rfl rfl rfl) ?_
          refine rg_put (d := 65) (v := .d (.fl (.bool false))) rfl (og rfl (op_pick rfl rfl rfl rfl)) ?_
          refine rg_put (d := 4) (v := .d (.fl (.bool false))) rfl (og rfl (op_assign rfl rfl rfl)) ?_
          refine rg_done rfl ?_
          refine a_ret ?_
          show ∃ ds, ResL _ _ _ ds ∧ RV.of ds = _
          refine ⟨[.fl (.bool false)], (.cons (.tmp rfl (.d _)) .nil), ?_⟩
          first
            | rfl
            | (exfalso; omega)
        · skip
          have h17 := t_dec h15
          refine rg_put (d := 52) (v := .d (.fl (.int .i64 (dst a b)))) rfl (oy rfl rfl rfl h15 (op_move rfl rfl rfl)) ?_
          refine rg_put (d := 53) (v := .d (.fl (.bool ((decide ((dst a b) ≤ 96)))))) rfl (oy rfl rfl rfl h15 (op_bin rfl rfl rfl (b_leq _ _ _ _) rfl)) ?_
          refine rg_put (d := 54) (v := .d (.fl (.bool ((decide ((dst a b) ≤ 96)))))) rfl (og rfl (op_pick rfl rfl (by rw [h15]; rfl) rfl)) ?_
          refine rg_put (d := 55) (v := .d (.fl (.bool ((decide ((dst a b) ≤ 96)))))) rfl (og rfl (op_move rfl rfl rfl)) ?_
          rcases fot ((decide ((dst a b) ≤ 96))) with h18 | h18
          · skip
            have h19 := f_dec h18
            refine rg_put (d := 56) (v := .d (.fl undef)) rfl (on rfl rfl rfl h18) ?_
            refine rg_put (d := 57) (v := .d (.fl undef)) rfl (on rfl rfl rfl h18) ?_
            refine rg_put (d := 58) (v := .d (.fl undef)) rfl (on rfl rfl rfl h18) ?_
            refine rg_put (d := 59) (v := .d (.fl undef)) rfl (on rfl rfl rfl h18) ?_
            refine rg_put (d := 60) (v := .d (.fl undef)) rfl (on rfl rfl rfl h18) ?_
            refine rg_put (d := 61) (v := .d (.fl undef)) rfl (on rfl rfl rfl h18) ?_
            refine rg_put (d := 62) (v := .d (.fl (.bool false))) rfl (og rfl (op_pick rfl rfl (by rw [h18]; rfl) rfl)) ?_
            refine rg_put (d := 63) (v := .d (.fl (.bool false))) rfl (og rfl (op_move rfl rfl rfl)) ?_
            refine rg_put (d := 64) (v := .d (.fl undef)) rfl (on rfl rfl rfl rfl) ?_
            refine rg_put (d := 65) (v := .d (.fl (.bool false))) rfl (og rfl (op_pick rfl rfl rfl rfl)) ?_
            refine rg_put (d := 4) (v := .d (.fl (.bool false))) rfl (og rfl (op_assign rfl rfl rfl)) ?_
            refine rg_done rfl ?_
            refine a_ret ?_
            show ∃ ds, ResL _ _ _ ds ∧ RV.of ds = _
            refine ⟨[.fl (.bool false)], (.cons (.tmp rfl (.d _)) .nil), ?_⟩
            first
              | rfl
              | (exfalso; omega)
          · skip
            have h20 := t_dec h18
            refine rg_put (d := 56) (v := .d (.fl (.string a))) rfl (oy rfl rfl rfl h18 (op_move rfl rfl rfl)) ?_
            refine rg_put (d := 57) (v := .d (.fl (.string b))) rfl (oy rfl rfl rfl h18 (op_move rfl rfl rfl)) ?_
            refine rg_put (d := 58) (v := .d (.fl (.bool (sm a b)))) rfl (oy rfl rfl rfl h18 (op_call rfl Tryd.func18 nm18 rfl (.cons rfl (.d _) (.cons rfl (.d _) .nil)) (smP a b (by omega) (by omega)) rfl)) ?_
            refine rg_put (d := 59) (v := .d (.fl (.int .i64 (dst a b)))) rfl (oy rfl rfl rfl h18 (op_move rfl rfl rfl)) ?_
            refine rg_put (d := 60) (v := .d (.fl (.bool ((decide ((dst a b) ≤ 2)))))) rfl (oy rfl rfl rfl h18 (op_bin rfl rfl rfl (b_leq _ _ _ _) rfl)) ?_
            refine rg_put (d := 61) (v := .d (.fl (.bool (((sm a b) == (decide ((dst a b) ≤ 2))))))) rfl (oy rfl rfl rfl h18 (op_bin rfl rfl rfl (fun x y w => b_beq _ _ _ x y w Tryd.underlying4) rfl)) ?_
            refine rg_put (d := 62) (v := .d (.fl (.bool (((sm a b) == (decide ((dst a b) ≤ 2))))))) rfl (og rfl (op_pick rfl rfl (by rw [h18]; rfl) rfl)) ?_
            refine rg_put (d := 63) (v := .d (.fl (.bool (((sm a b) == (decide ((dst a b) ≤ 2))))))) rfl (og rfl (op_move rfl rfl rfl)) ?_
            refine rg_put (d := 64) (v := .d (.fl (.bool true))) rfl (oy rfl rfl rfl (smE a b) (op_call rfl Tryd.func11 nm11 rfl .nil alive11 rfl)) ?_
            refine rg_put (d := 65) (v := .d (.fl (.bool true))) rfl (og rfl (op_pick rfl rfl (by rw [(smE a b)]; rfl) rfl)) ?_
            refine rg_put (d := 4) (v := .d (.fl (.bool true))) rfl (og rfl (op_assign rfl rfl rfl)) ?_
            refine rg_done rfl ?_
            refine a_ret ?_
            show ∃ ds, ResL _ _ _ ds ∧ RV.of ds = _
            refine ⟨[.fl (.bool true)], (.cons (.tmp rfl (.d _)) .nil), ?_⟩
            first
              | rfl
              | (exfalso; omega)
  · skip
    have h21 := t_dec h1
    refine rg_put (d := 11) (v := .d (.fl undef)) rfl (on rfl rfl rfl h1) ?_
    refine rg_put (d := 12) (v := .d (.fl undef)) rfl (on rfl rfl rfl h1) ?_
    refine rg_put (d := 13) (v := .d (.fl undef)) rfl (on rfl rfl rfl h1) ?_
    refine rg_put (d := 14) (v := .d (.fl (.bool true))) rfl (og rfl (op_pick rfl rfl (by rw [h1]; rfl) rfl)) ?_
    refine rg_done rfl ?_
    refine a_condK rfl rfl ?_
    refine a_rseq ?_
    refine rg_put (d := 15) (v := .d (.fl (.bool true))) rfl (og rfl (op_call rfl Tryd.func11 nm11 rfl .nil alive11 rfl)) ?_
    refine rg_put (d := 4) (v := .d (.fl (.bool true))) rfl (og rfl (op_assign rfl rfl rfl)) ?_
    refine rg_done rfl ?_
    refine a_ret ?_
    show ∃ ds, ResL _ _ _ ds ∧ RV.of ds = _
    refine ⟨[.fl (.bool true)], (.cons (.tmp rfl (.d _)) .nil), ?_⟩
    first
      | rfl
      | (exfalso; omega)
end Go.Proofs.YtldglchpaookiaaDoor.Wk
