/- The law of distances. No condition. -/
import Derived.Test.YtldglchpaookiaaDoorAl
import Derived.Test.YtldglchpaookiaaDoorB3
set_option linter.unusedSimpArgs false
set_option linter.unusedVariables false
namespace Go.Proofs.YtldglchpaookiaaDoor.Wk
open Go Go.RowKit Go.Proofs.YtldglchpaookiaaDoor.Av
set_option maxHeartbeats 4000000 in
set_option maxRecDepth 100000 in
theorem law4 (a b : ByteArray) : Ctr Tryd.prog 4 [.fl (.string a), .fl (.string b)] (.d (.fl (.bool true))) := by
  refine ctr (n := 56) (rs := #[.tmp 4]) (L := [(0, .d (.fl (.string a))), (1, .d (.fl (.string b)))]) Tryd.func4 rfl rfl rfl rfl rfl (fun w0 U0 => ?_)
  refine a_rseq ?_
  refine rg_put (d := 4) (v := .d (.fl (.bool false))) rfl (og rfl (op_assign rfl rfl rfl)) ?_
  refine rg_done rfl ?_
  refine a_seq ?_
  refine a_rseq ?_
  refine rg_put (d := 6) (v := .d (.fl (.string a))) rfl (og rfl (op_move rfl rfl rfl)) ?_
  refine rg_put (d := 7) (v := .d (.fl (.int .i64 (a.size : Int)))) rfl (og rfl (op_len_str rfl Tryd.underlying9 rfl rfl)) ?_
  refine rg_put (d := 8) (v := .d (.fl (.bool ((decide (60 < (a.size : Int))))))) rfl (og rfl (op_bin rfl rfl rfl (b_gtr _ _ _ _) rfl)) ?_
  refine rg_put (d := 9) (v := .d (.fl (.bool ((decide (60 < (a.size : Int))))))) rfl (og rfl (op_move rfl rfl rfl)) ?_
  rcases fot ((decide (60 < (a.size : Int)))) with h1 | h1
  · skip
    have h2 := f_dec h1
    refine rg_put (d := 10) (v := .d (.fl (.string b))) rfl (oy rfl rfl rfl h1 (op_move rfl rfl rfl)) ?_
    refine rg_put (d := 11) (v := .d (.fl (.int .i64 (b.size : Int)))) rfl (oy rfl rfl rfl h1 (op_len_str rfl Tryd.underlying9 rfl rfl)) ?_
    refine rg_put (d := 12) (v := .d (.fl (.bool ((decide (60 < (b.size : Int))))))) rfl (oy rfl rfl rfl h1 (op_bin rfl rfl rfl (b_gtr _ _ _ _) rfl)) ?_
    refine rg_put (d := 13) (v := .d (.fl (.bool ((decide (60 < (b.size : Int))))))) rfl (og rfl (op_pick rfl rfl (by rw [h1]; rfl) rfl)) ?_
    refine rg_done rfl ?_
    refine a_cond rfl (fun h3 => ?_) (fun h3 => ?_)
    · skip
      have h4 := t_dec h3
      refine a_rseq ?_
      refine rg_put (d := 14) (v := .d (.fl (.bool true))) rfl (og rfl (op_call rfl Tryd.func11 nm11 rfl .nil alive11 rfl)) ?_
      refine rg_put (d := 4) (v := .d (.fl (.bool true))) rfl (og rfl (op_assign rfl rfl rfl)) ?_
      refine rg_done rfl ?_
      refine a_ret ?_
      show ∃ ds, ResL _ _ _ ds ∧ RV.of ds = _
      refine ⟨[.fl (.bool true)], (.cons (.tmp rfl (.d _)) .nil), ?_⟩
      rfl
    · skip
      have h5 := f_dec h3
      refine a_skip ?_
      show A _ _ _ _ _ _ _
      refine a_rseq ?_
      refine rg_put (d := 5) (v := .d (.fl (.bool true))) rfl (og rfl (op_assign rfl rfl rfl)) ?_
      refine rg_done rfl ?_
      refine a_seq ?_
      refine a_rseq ?_
      refine rg_put (d := 15) (v := .d (.fl (.string a))) rfl (og rfl (op_move rfl rfl rfl)) ?_
      refine rg_put (d := 16) (v := .d (.fl (.int .i64 (a.size : Int)))) rfl (og rfl (op_len_str rfl Tryd.underlying9 rfl rfl)) ?_
      refine rg_put (d := 17) (v := .d (.fl (.bool ((decide (0 < (a.size : Int))))))) rfl (og rfl (op_bin rfl rfl rfl (b_gtr _ _ _ _) rfl)) ?_
      refine rg_put (d := 18) (v := .d (.fl (.bool ((decide (0 < (a.size : Int))))))) rfl (og rfl (op_move rfl rfl rfl)) ?_
      rcases fot ((decide (0 < (a.size : Int)))) with h6 | h6
      · skip
        have h7 := f_dec h6
        refine rg_put (d := 19) (v := .d (.fl undef)) rfl (on rfl rfl rfl h6) ?_
        refine rg_put (d := 20) (v := .d (.fl undef)) rfl (on rfl rfl rfl h6) ?_
        refine rg_put (d := 21) (v := .d (.fl undef)) rfl (on rfl rfl rfl h6) ?_
        refine rg_put (d := 22) (v := .d (.fl (.bool false))) rfl (og rfl (op_pick rfl rfl (by rw [h6]; rfl) rfl)) ?_
        refine rg_done rfl ?_
        refine a_condF rfl rfl ?_
        refine a_skip ?_
        show A _ _ _ _ _ _ _
        refine a_rseq ?_
        refine rg_put (d := 34) (v := .d (.fl (.string a))) rfl (og rfl (op_move rfl rfl rfl)) ?_
        refine rg_put (d := 35) (v := .d (.fl (.string b))) rfl (og rfl (op_move rfl rfl rfl)) ?_
        refine rg_put (d := 36) (v := .d (.fl (.int .i64 (dst a b)))) rfl (og rfl (op_call rfl Tryd.func16 nm16 rfl (.cons rfl (.d _) (.cons rfl (.d _) .nil)) (dsD a b (by omega) (by omega)) rfl)) ?_
        refine rg_put (d := 37) (v := .d (.fl (.string a))) rfl (og rfl (op_move rfl rfl rfl)) ?_
        refine rg_put (d := 38) (v := .d (.fl (.string b))) rfl (og rfl (op_move rfl rfl rfl)) ?_
        refine rg_put (d := 39) (v := .d (.fl (.int .i64 (dst a b)))) rfl (og rfl (op_call rfl Tryd.func17 nm17 rfl (.cons rfl (.d _) (.cons rfl (.d _) .nil)) (dsR a b (by omega) (by omega)) rfl)) ?_
        refine rg_put (d := 40) (v := .d (.fl (.bool (((dst a b) == (dst a b)))))) rfl (og rfl (op_bin rfl rfl rfl (b_eql _ _ _ _) rfl)) ?_
        refine rg_put (d := 41) (v := .d (.fl (.bool (((dst a b) == (dst a b)))))) rfl (og rfl (op_move rfl rfl rfl)) ?_
        refine rg_put (d := 42) (v := .d (.fl (.string a))) rfl (oy rfl rfl rfl (beq_self_eq_true _) (op_move rfl rfl rfl)) ?_
        refine rg_put (d := 43) (v := .d (.fl (.string b))) rfl (oy rfl rfl rfl (beq_self_eq_true _) (op_move rfl rfl rfl)) ?_
        refine rg_put (d := 44) (v := .d (.fl (.bool (sm a b)))) rfl (oy rfl rfl rfl (beq_self_eq_true _) (op_call rfl Tryd.func18 nm18 rfl (.cons rfl (.d _) (.cons rfl (.d _) .nil)) (smP a b (by omega) (by omega)) rfl)) ?_
        refine rg_put (d := 45) (v := .d (.fl (.string a))) rfl (oy rfl rfl rfl (beq_self_eq_true _) (op_move rfl rfl rfl)) ?_
        refine rg_put (d := 46) (v := .d (.fl (.string b))) rfl (oy rfl rfl rfl (beq_self_eq_true _) (op_move rfl rfl rfl)) ?_
        refine rg_put (d := 47) (v := .d (.fl (.bool (sm a b)))) rfl (oy rfl rfl rfl (beq_self_eq_true _) (op_call rfl Tryd.func19 nm19 rfl (.cons rfl (.d _) (.cons rfl (.d _) .nil)) (smR a b (by omega) (by omega)) rfl)) ?_
        refine rg_put (d := 48) (v := .d (.fl (.bool (((sm a b) == (sm a b)))))) rfl (oy rfl rfl rfl (beq_self_eq_true _) (op_bin rfl rfl rfl (fun x y w => b_beq _ _ _ x y w Tryd.underlying4) rfl)) ?_
        refine rg_put (d := 49) (v := .d (.fl (.bool (((sm a b) == (sm a b)))))) rfl (og rfl (op_pick rfl rfl (by rw [(beq_self_eq_true _)]; rfl) rfl)) ?_
        refine rg_put (d := 50) (v := .d (.fl (.bool (((sm a b) == (sm a b)))))) rfl (og rfl (op_move rfl rfl rfl)) ?_
        refine rg_put (d := 51) (v := .d (.fl (.bool true))) rfl (oy rfl rfl rfl (beq_self_eq_true _) (op_move rfl rfl rfl)) ?_
        refine rg_put (d := 52) (v := .d (.fl (.bool true))) rfl (og rfl (op_pick rfl rfl (by rw [(beq_self_eq_true _)]; rfl) rfl)) ?_
        refine rg_put (d := 53) (v := .d (.fl (.bool true))) rfl (og rfl (op_move rfl rfl rfl)) ?_
        refine rg_put (d := 54) (v := .d (.fl (.bool true))) rfl (oy rfl rfl rfl rfl (op_call rfl Tryd.func11 nm11 rfl .nil alive11 rfl)) ?_
        refine rg_put (d := 55) (v := .d (.fl (.bool true))) rfl (og rfl (op_pick rfl rfl rfl rfl)) ?_
        refine rg_put (d := 4) (v := .d (.fl (.bool true))) rfl (og rfl (op_assign rfl rfl rfl)) ?_
        refine rg_done rfl ?_
        refine a_ret ?_
        show ∃ ds, ResL _ _ _ ds ∧ RV.of ds = _
        refine ⟨[.fl (.bool true)], (.cons (.tmp rfl (.d _)) .nil), ?_⟩
        rfl
      · skip
        have h8 := t_dec h6
        refine rg_put (d := 19) (v := .d (.fl (.string b))) rfl (oy rfl rfl rfl h6 (op_move rfl rfl rfl)) ?_
        refine rg_put (d := 20) (v := .d (.fl (.int .i64 (b.size : Int)))) rfl (oy rfl rfl rfl h6 (op_len_str rfl Tryd.underlying9 rfl rfl)) ?_
        refine rg_put (d := 21) (v := .d (.fl (.bool ((decide (0 < (b.size : Int))))))) rfl (oy rfl rfl rfl h6 (op_bin rfl rfl rfl (b_gtr _ _ _ _) rfl)) ?_
        refine rg_put (d := 22) (v := .d (.fl (.bool ((decide (0 < (b.size : Int))))))) rfl (og rfl (op_pick rfl rfl (by rw [h6]; rfl) rfl)) ?_
        refine rg_done rfl ?_
        refine a_cond rfl (fun h9 => ?_) (fun h9 => ?_)
        · skip
          have h10 := t_dec h9
          refine a_draw (by kernel_rfl) ?_
          have hby := UInt8.toNat_lt (bt b 0)
          refine dr_put (d := 23) (v := .d (.fl (.string a))) rfl (og rfl (op_move rfl rfl rfl)) ?_
          refine dr_put (d := 24) (v := .d (.fl (.int .u8 (((bt a 0).toNat : Int))))) rfl (og rfl (op_strindex rfl Tryd.underlying9 rfl rfl (by omega) (byte_ix (by omega)) rfl)) ?_
          refine dr_put (d := 25) (v := .d (.fl (.string b))) rfl (og rfl (op_move rfl rfl rfl)) ?_
          refine dr_put (d := 26) (v := .d (.fl (.int .u8 (((bt b 0).toNat : Int))))) rfl (og rfl (op_strindex rfl Tryd.underlying9 rfl rfl (by omega) (byte_ix (by omega)) rfl)) ?_
          refine dr_put (d := 27) (v := .d (.fl (.bool ((lk (((bt a 0).toNat : Int)) (((bt b 0).toNat : Int))))))) rfl (og rfl (op_call rfl Tryd.func14 nm14 rfl (.cons rfl (.d _) (.cons rfl (.d _) .nil)) (lkP (((bt a 0).toNat : Int)) (((bt b 0).toNat : Int))) rfl)) ?_
          refine dr_put (d := 28) (v := .d (.fl (.string a))) rfl (og rfl (op_move rfl rfl rfl)) ?_
          refine dr_put (d := 29) (v := .d (.fl (.int .u8 (((bt a 0).toNat : Int))))) rfl (og rfl (op_strindex rfl Tryd.underlying9 rfl rfl (by omega) (byte_ix (by omega)) rfl)) ?_
          refine dr_put (d := 30) (v := .d (.fl (.string b))) rfl (og rfl (op_move rfl rfl rfl)) ?_
          refine dr_put (d := 31) (v := .d (.fl (.int .u8 (((bt b 0).toNat : Int))))) rfl (og rfl (op_strindex rfl Tryd.underlying9 rfl rfl (by omega) (byte_ix (by omega)) rfl)) ?_
          refine dr_put (d := 32) (v := .d (.fl (.bool ((lk (((bt a 0).toNat : Int)) (((bt b 0).toNat : Int))))))) rfl (og rfl (op_call rfl Tryd.func15 nm15 rfl (.cons rfl (.d _) (.cons rfl (.d _) .nil)) (lkR15 (((bt a 0).toNat : Int)) (((bt b 0).toNat : Int)) (by omega)) rfl)) ?_
          refine dr_put (d := 33) (v := .d (.fl (.bool (((lk (((bt a 0).toNat : Int)) (((bt b 0).toNat : Int))) == (lk (((bt a 0).toNat : Int)) (((bt b 0).toNat : Int)))))))) rfl (og rfl (op_bin rfl rfl rfl (fun x y w => b_beq _ _ _ x y w Tryd.underlying4) rfl)) ?_
          refine dr_put (d := 5) (v := .d (.fl (.bool (((lk (((bt a 0).toNat : Int)) (((bt b 0).toNat : Int))) == (lk (((bt a 0).toNat : Int)) (((bt b 0).toNat : Int)))))))) rfl (og rfl (op_assign rfl rfl rfl)) ?_
          refine dr_done rfl (by kernel_rfl) (by kernel_rfl) ?_
          show A _ _ _ _ _ _ _
          refine a_rseq ?_
          refine rg_put (d := 34) (v := .d (.fl (.string a))) rfl (og rfl (op_move rfl rfl rfl)) ?_
          refine rg_put (d := 35) (v := .d (.fl (.string b))) rfl (og rfl (op_move rfl rfl rfl)) ?_
          refine rg_put (d := 36) (v := .d (.fl (.int .i64 (dst a b)))) rfl (og rfl (op_call rfl Tryd.func16 nm16 rfl (.cons rfl (.d _) (.cons rfl (.d _) .nil)) (dsD a b (by omega) (by omega)) rfl)) ?_
          refine rg_put (d := 37) (v := .d (.fl (.string a))) rfl (og rfl (op_move rfl rfl rfl)) ?_
          refine rg_put (d := 38) (v := .d (.fl (.string b))) rfl (og rfl (op_move rfl rfl rfl)) ?_
          refine rg_put (d := 39) (v := .d (.fl (.int .i64 (dst a b)))) rfl (og rfl (op_call rfl Tryd.func17 nm17 rfl (.cons rfl (.d _) (.cons rfl (.d _) .nil)) (dsR a b (by omega) (by omega)) rfl)) ?_
          refine rg_put (d := 40) (v := .d (.fl (.bool (((dst a b) == (dst a b)))))) rfl (og rfl (op_bin rfl rfl rfl (b_eql _ _ _ _) rfl)) ?_
          refine rg_put (d := 41) (v := .d (.fl (.bool (((dst a b) == (dst a b)))))) rfl (og rfl (op_move rfl rfl rfl)) ?_
          refine rg_put (d := 42) (v := .d (.fl (.string a))) rfl (oy rfl rfl rfl (beq_self_eq_true _) (op_move rfl rfl rfl)) ?_
          refine rg_put (d := 43) (v := .d (.fl (.string b))) rfl (oy rfl rfl rfl (beq_self_eq_true _) (op_move rfl rfl rfl)) ?_
          refine rg_put (d := 44) (v := .d (.fl (.bool (sm a b)))) rfl (oy rfl rfl rfl (beq_self_eq_true _) (op_call rfl Tryd.func18 nm18 rfl (.cons rfl (.d _) (.cons rfl (.d _) .nil)) (smP a b (by omega) (by omega)) rfl)) ?_
          refine rg_put (d := 45) (v := .d (.fl (.string a))) rfl (oy rfl rfl rfl (beq_self_eq_true _) (op_move rfl rfl rfl)) ?_
          refine rg_put (d := 46) (v := .d (.fl (.string b))) rfl (oy rfl rfl rfl (beq_self_eq_true _) (op_move rfl rfl rfl)) ?_
          refine rg_put (d := 47) (v := .d (.fl (.bool (sm a b)))) rfl (oy rfl rfl rfl (beq_self_eq_true _) (op_call rfl Tryd.func19 nm19 rfl (.cons rfl (.d _) (.cons rfl (.d _) .nil)) (smR a b (by omega) (by omega)) rfl)) ?_
          refine rg_put (d := 48) (v := .d (.fl (.bool (((sm a b) == (sm a b)))))) rfl (oy rfl rfl rfl (beq_self_eq_true _) (op_bin rfl rfl rfl (fun x y w => b_beq _ _ _ x y w Tryd.underlying4) rfl)) ?_
          refine rg_put (d := 49) (v := .d (.fl (.bool (((sm a b) == (sm a b)))))) rfl (og rfl (op_pick rfl rfl (by rw [(beq_self_eq_true _)]; rfl) rfl)) ?_
          refine rg_put (d := 50) (v := .d (.fl (.bool (((sm a b) == (sm a b)))))) rfl (og rfl (op_move rfl rfl rfl)) ?_
          refine rg_put (d := 51) (v := .d (.fl (.bool (((lk (((bt a 0).toNat : Int)) (((bt b 0).toNat : Int))) == (lk (((bt a 0).toNat : Int)) (((bt b 0).toNat : Int)))))))) rfl (oy rfl rfl rfl (beq_self_eq_true _) (op_move rfl rfl rfl)) ?_
          refine rg_put (d := 52) (v := .d (.fl (.bool (((lk (((bt a 0).toNat : Int)) (((bt b 0).toNat : Int))) == (lk (((bt a 0).toNat : Int)) (((bt b 0).toNat : Int)))))))) rfl (og rfl (op_pick rfl rfl (by rw [(beq_self_eq_true _)]; rfl) rfl)) ?_
          refine rg_put (d := 53) (v := .d (.fl (.bool (((lk (((bt a 0).toNat : Int)) (((bt b 0).toNat : Int))) == (lk (((bt a 0).toNat : Int)) (((bt b 0).toNat : Int)))))))) rfl (og rfl (op_move rfl rfl rfl)) ?_
          refine rg_put (d := 54) (v := .d (.fl (.bool true))) rfl (oy rfl rfl rfl (beq_self_eq_true _) (op_call rfl Tryd.func11 nm11 rfl .nil alive11 rfl)) ?_
          refine rg_put (d := 55) (v := .d (.fl (.bool true))) rfl (og rfl (op_pick rfl rfl (by rw [(beq_self_eq_true _)]; rfl) rfl)) ?_
          refine rg_put (d := 4) (v := .d (.fl (.bool true))) rfl (og rfl (op_assign rfl rfl rfl)) ?_
          refine rg_done rfl ?_
          refine a_ret ?_
          show ∃ ds, ResL _ _ _ ds ∧ RV.of ds = _
          refine ⟨[.fl (.bool true)], (.cons (.tmp rfl (.d _)) .nil), ?_⟩
          rfl
        · skip
          have h11 := f_dec h9
          refine a_skip ?_
          show A _ _ _ _ _ _ _
          refine a_rseq ?_
          refine rg_put (d := 34) (v := .d (.fl (.string a))) rfl (og rfl (op_move rfl rfl rfl)) ?_
          refine rg_put (d := 35) (v := .d (.fl (.string b))) rfl (og rfl (op_move rfl rfl rfl)) ?_
          refine rg_put (d := 36) (v := .d (.fl (.int .i64 (dst a b)))) rfl (og rfl (op_call rfl Tryd.func16 nm16 rfl (.cons rfl (.d _) (.cons rfl (.d _) .nil)) (dsD a b (by omega) (by omega)) rfl)) ?_
          refine rg_put (d := 37) (v := .d (.fl (.string a))) rfl (og rfl (op_move rfl rfl rfl)) ?_
          refine rg_put (d := 38) (v := .d (.fl (.string b))) rfl (og rfl (op_move rfl rfl rfl)) ?_
          refine rg_put (d := 39) (v := .d (.fl (.int .i64 (dst a b)))) rfl (og rfl (op_call rfl Tryd.func17 nm17 rfl (.cons rfl (.d _) (.cons rfl (.d _) .nil)) (dsR a b (by omega) (by omega)) rfl)) ?_
          refine rg_put (d := 40) (v := .d (.fl (.bool (((dst a b) == (dst a b)))))) rfl (og rfl (op_bin rfl rfl rfl (b_eql _ _ _ _) rfl)) ?_
          refine rg_put (d := 41) (v := .d (.fl (.bool (((dst a b) == (dst a b)))))) rfl (og rfl (op_move rfl rfl rfl)) ?_
          refine rg_put (d := 42) (v := .d (.fl (.string a))) rfl (oy rfl rfl rfl (beq_self_eq_true _) (op_move rfl rfl rfl)) ?_
          refine rg_put (d := 43) (v := .d (.fl (.string b))) rfl (oy rfl rfl rfl (beq_self_eq_true _) (op_move rfl rfl rfl)) ?_
          refine rg_put (d := 44) (v := .d (.fl (.bool (sm a b)))) rfl (oy rfl rfl rfl (beq_self_eq_true _) (op_call rfl Tryd.func18 nm18 rfl (.cons rfl (.d _) (.cons rfl (.d _) .nil)) (smP a b (by omega) (by omega)) rfl)) ?_
          refine rg_put (d := 45) (v := .d (.fl (.string a))) rfl (oy rfl rfl rfl (beq_self_eq_true _) (op_move rfl rfl rfl)) ?_
          refine rg_put (d := 46) (v := .d (.fl (.string b))) rfl (oy rfl rfl rfl (beq_self_eq_true _) (op_move rfl rfl rfl)) ?_
          refine rg_put (d := 47) (v := .d (.fl (.bool (sm a b)))) rfl (oy rfl rfl rfl (beq_self_eq_true _) (op_call rfl Tryd.func19 nm19 rfl (.cons rfl (.d _) (.cons rfl (.d _) .nil)) (smR a b (by omega) (by omega)) rfl)) ?_
          refine rg_put (d := 48) (v := .d (.fl (.bool (((sm a b) == (sm a b)))))) rfl (oy rfl rfl rfl (beq_self_eq_true _) (op_bin rfl rfl rfl (fun x y w => b_beq _ _ _ x y w Tryd.underlying4) rfl)) ?_
          refine rg_put (d := 49) (v := .d (.fl (.bool (((sm a b) == (sm a b)))))) rfl (og rfl (op_pick rfl rfl (by rw [(beq_self_eq_true _)]; rfl) rfl)) ?_
          refine rg_put (d := 50) (v := .d (.fl (.bool (((sm a b) == (sm a b)))))) rfl (og rfl (op_move rfl rfl rfl)) ?_
          refine rg_put (d := 51) (v := .d (.fl (.bool true))) rfl (oy rfl rfl rfl (beq_self_eq_true _) (op_move rfl rfl rfl)) ?_
          refine rg_put (d := 52) (v := .d (.fl (.bool true))) rfl (og rfl (op_pick rfl rfl (by rw [(beq_self_eq_true _)]; rfl) rfl)) ?_
          refine rg_put (d := 53) (v := .d (.fl (.bool true))) rfl (og rfl (op_move rfl rfl rfl)) ?_
          refine rg_put (d := 54) (v := .d (.fl (.bool true))) rfl (oy rfl rfl rfl rfl (op_call rfl Tryd.func11 nm11 rfl .nil alive11 rfl)) ?_
          refine rg_put (d := 55) (v := .d (.fl (.bool true))) rfl (og rfl (op_pick rfl rfl rfl rfl)) ?_
          refine rg_put (d := 4) (v := .d (.fl (.bool true))) rfl (og rfl (op_assign rfl rfl rfl)) ?_
          refine rg_done rfl ?_
          refine a_ret ?_
          show ∃ ds, ResL _ _ _ ds ∧ RV.of ds = _
          refine ⟨[.fl (.bool true)], (.cons (.tmp rfl (.d _)) .nil), ?_⟩
          rfl
  · skip
    have h12 := t_dec h1
    refine rg_put (d := 10) (v := .d (.fl undef)) rfl (on rfl rfl rfl h1) ?_
    refine rg_put (d := 11) (v := .d (.fl undef)) rfl (on rfl rfl rfl h1) ?_
    refine rg_put (d := 12) (v := .d (.fl undef)) rfl (on rfl rfl rfl h1) ?_
    refine rg_put (d := 13) (v := .d (.fl (.bool true))) rfl (og rfl (op_pick rfl rfl (by rw [h1]; rfl) rfl)) ?_
    refine rg_done rfl ?_
    refine a_condK rfl rfl ?_
    refine a_rseq ?_
    refine rg_put (d := 14) (v := .d (.fl (.bool true))) rfl (og rfl (op_call rfl Tryd.func11 nm11 rfl .nil alive11 rfl)) ?_
    refine rg_put (d := 4) (v := .d (.fl (.bool true))) rfl (og rfl (op_assign rfl rfl rfl)) ?_
    refine rg_done rfl ?_
    refine a_ret ?_
    show ∃ ds, ResL _ _ _ ds ∧ RV.of ds = _
    refine ⟨[.fl (.bool true)], (.cons (.tmp rfl (.d _)) .nil), ?_⟩
    rfl
end Go.Proofs.YtldglchpaookiaaDoor.Wk
