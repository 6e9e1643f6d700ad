/- The laws of differences. No condition. -/
import Derived.Test.YtakmjlpciicaiaaGreatDoorAl
import Derived.Test.YtakmjlpciicaiaaGreatDoorB7
set_option linter.unusedSimpArgs false
set_option linter.unusedVariables false
namespace Go.Proofs.YtakmjlpciicaiaaGreatDoor.Wk
open Go Go.RowKit Go.Proofs.YtakmjlpciicaiaaGreatDoor.Av
set_option maxHeartbeats 4000000 in
set_option maxRecDepth 100000 in
theorem law5 (a b : List Psg) (ha9 : a.length ≤ 9223372036854775807) (hma : ∀ x ∈ a, x.src.length ≤ 9223372036854775807) (hb9 : b.length ≤ 9223372036854775807) (hmb : ∀ x ∈ b, x.src.length ≤ 9223372036854775807) : Ctr Tryz.prog 5 [.sl 8 (List.map ePsg a), .sl 8 (List.map ePsg b)] (.d (.fl (.bool true))) := by
  refine ctr (n := 41) (rs := #[.tmp 4]) (L := [(0, .d (.sl 8 (List.map ePsg a))), (1, .d (.sl 8 (List.map ePsg b)))]) Tryz.func5 rfl rfl rfl rfl rfl (fun w0 U0 => ?_)
  refine a_rseq ?_
  refine rg_put (d := 4) (v := .d (.fl (.bool false))) rfl (og rfl (op_assign rfl rfl rfl)) ?_
  refine rg_done rfl ?_
  refine a_seq ?_
  refine a_rseq ?_
  refine rg_put (d := 9) (v := .d (.sl 8 (List.map ePsg a))) rfl (og rfl (op_move rfl rfl rfl)) ?_
  refine rg_put (d := 10) (v := .d (.fl (.bool (fewP a)))) rfl (og rfl (op_call rfl Tryz.func19 nm19 rfl (.cons rfl (.d _) .nil) (fewC a ha9 hma) rfl)) ?_
  refine rg_put (d := 11) (v := .d (.fl (.bool ((!(fewP a)))))) rfl (og rfl (op_un rfl rfl (u_not _) rfl)) ?_
  refine rg_put (d := 12) (v := .d (.fl (.bool ((!(fewP a)))))) rfl (og rfl (op_move rfl rfl rfl)) ?_
  rcases fot ((!(fewP a))) with h1 | h1
  · skip
    have h2 := f_not h1
    refine rg_put (d := 13) (v := .d (.sl 8 (List.map ePsg b))) rfl (oy rfl rfl rfl h1 (op_move rfl rfl rfl)) ?_
    refine rg_put (d := 14) (v := .d (.fl (.bool (fewP b)))) rfl (oy rfl rfl rfl h1 (op_call rfl Tryz.func19 nm19 rfl (.cons rfl (.d _) .nil) (fewC b hb9 hmb) rfl)) ?_
    refine rg_put (d := 15) (v := .d (.fl (.bool ((!(fewP b)))))) rfl (oy rfl rfl rfl h1 (op_un rfl rfl (u_not _) rfl)) ?_
    refine rg_put (d := 16) (v := .d (.fl (.bool ((!(fewP b)))))) rfl (og rfl (op_pick rfl rfl (by rw [h1]; rfl) rfl)) ?_
    refine rg_done rfl ?_
    refine a_cond rfl (fun h3 => ?_) (fun h3 => ?_)
    · skip
      have h4 := t_not h3
      refine a_rseq ?_
      refine rg_put (d := 17) (v := .d (.fl (.bool true))) rfl (og rfl (op_call rfl Tryz.func12 nm12 rfl .nil aliveT rfl)) ?_
      refine rg_put (d := 4) (v := .d (.fl (.bool true))) rfl (og rfl (op_assign rfl rfl rfl)) ?_
      refine rg_done rfl ?_
      refine a_ret ?_
      show ∃ ds, ResL _ _ _ ds ∧ RV.of ds = _
      refine ⟨[.fl (.bool true)], (.cons (.tmp rfl (.d _)) .nil), ?_⟩
      rfl
    · skip
      have h5 := f_not h3
      refine a_skip ?_
      show A _ _ _ _ _ _ _
      refine a_rseq ?_
      obtain ⟨ha40, hza⟩ := few_t h2
      obtain ⟨hb40, hzb⟩ := few_t h5
      have hg := wo_len a b
      have hc := wo_len b a
      refine rg_put (d := 19) (v := .d (.sl 8 (List.map ePsg a))) rfl (og rfl (op_move rfl rfl rfl)) ?_
      refine rg_put (d := 20) (v := .d (.sl 8 (List.map ePsg b))) rfl (og rfl (op_move rfl rfl rfl)) ?_
      refine rg_put (d := 21) (v := .tu [.sl 8 (List.map ePsg ((wo (dfl a) (dfl b)))), .sl 8 (List.map ePsg ((wo (dfl b) (dfl a))))]) rfl (og rfl (op_call rfl Tryz.func23 nm23 rfl (.cons rfl (.d _) (.cons rfl (.d _) .nil)) (difC a b (by omega) (by omega) (fun y hy => (hza y hy).n) (fun y hy => (hzb y hy).n)) rfl)) ?_
      refine rg_put (d := 18) (v := .tu [.sl 8 (List.map ePsg ((wo (dfl a) (dfl b)))), .sl 8 (List.map ePsg ((wo (dfl b) (dfl a))))]) rfl (og rfl (op_move rfl rfl rfl)) ?_
      refine rg_put (d := 22) (v := .d (.sl 8 (List.map ePsg ((wo (dfl a) (dfl b)))))) rfl (og rfl (op_extract rfl rfl rfl rfl)) ?_
      refine rg_put (d := 23) (v := .d (.sl 8 (List.map ePsg ((wo (dfl b) (dfl a)))))) rfl (og rfl (op_extract rfl rfl rfl rfl)) ?_
      refine rg_put (d := 5) (v := .d (.sl 8 (List.map ePsg ((wo (dfl a) (dfl b)))))) rfl (og rfl (op_assign rfl rfl rfl)) ?_
      refine rg_put (d := 6) (v := .d (.sl 8 (List.map ePsg ((wo (dfl b) (dfl a)))))) rfl (og rfl (op_assign rfl rfl rfl)) ?_
      refine rg_done rfl ?_
      refine a_rseq ?_
      refine rg_put (d := 25) (v := .d (.sl 8 (List.map ePsg a))) rfl (og rfl (op_move rfl rfl rfl)) ?_
      refine rg_put (d := 26) (v := .d (.sl 8 (List.map ePsg b))) rfl (og rfl (op_move rfl rfl rfl)) ?_
      refine rg_put (d := 27) (v := .tu [.sl 8 (List.map ePsg ((wo (dfl a) (dfl b)))), .sl 8 (List.map ePsg ((wo (dfl b) (dfl a))))]) rfl (og rfl (op_call rfl Tryz.func24 nm24 rfl (.cons rfl (.d _) (.cons rfl (.d _) .nil)) (difR a b (by omega) (by omega) hza hzb) rfl)) ?_
      refine rg_put (d := 24) (v := .tu [.sl 8 (List.map ePsg ((wo (dfl a) (dfl b)))), .sl 8 (List.map ePsg ((wo (dfl b) (dfl a))))]) rfl (og rfl (op_move rfl rfl rfl)) ?_
      refine rg_put (d := 28) (v := .d (.sl 8 (List.map ePsg ((wo (dfl a) (dfl b)))))) rfl (og rfl (op_extract rfl rfl rfl rfl)) ?_
      refine rg_put (d := 29) (v := .d (.sl 8 (List.map ePsg ((wo (dfl b) (dfl a)))))) rfl (og rfl (op_extract rfl rfl rfl rfl)) ?_
      refine rg_put (d := 7) (v := .d (.sl 8 (List.map ePsg ((wo (dfl a) (dfl b)))))) rfl (og rfl (op_assign rfl rfl rfl)) ?_
      refine rg_put (d := 8) (v := .d (.sl 8 (List.map ePsg ((wo (dfl b) (dfl a)))))) rfl (og rfl (op_assign rfl rfl rfl)) ?_
      refine rg_done rfl ?_
      refine a_rseq ?_
      refine rg_put (d := 30) (v := .d (.sl 8 (List.map ePsg ((wo (dfl a) (dfl b)))))) rfl (og rfl (op_move rfl rfl rfl)) ?_
      refine rg_put (d := 31) (v := .d (.sl 8 (List.map ePsg ((wo (dfl a) (dfl b)))))) rfl (og rfl (op_move rfl rfl rfl)) ?_
      refine rg_put (d := 32) (v := .d (.fl (.bool true))) rfl (og rfl (op_call rfl Tryz.func20 nm20 rfl (.cons rfl (.d _) (.cons rfl (.d _) .nil)) (sameR ((wo (dfl a) (dfl b))) (by omega) (fun y hy => hza y (wo_sub hy))) rfl)) ?_
      refine rg_put (d := 33) (v := .d (.fl (.bool true))) rfl (og rfl (op_move rfl rfl rfl)) ?_
      refine rg_put (d := 34) (v := .d (.sl 8 (List.map ePsg ((wo (dfl b) (dfl a)))))) rfl (oy rfl rfl rfl rfl (op_move rfl rfl rfl)) ?_
      refine rg_put (d := 35) (v := .d (.sl 8 (List.map ePsg ((wo (dfl b) (dfl a)))))) rfl (oy rfl rfl rfl rfl (op_move rfl rfl rfl)) ?_
      refine rg_put (d := 36) (v := .d (.fl (.bool true))) rfl (oy rfl rfl rfl rfl (op_call rfl Tryz.func20 nm20 rfl (.cons rfl (.d _) (.cons rfl (.d _) .nil)) (sameR ((wo (dfl b) (dfl a))) (by omega) (fun y hy => hzb y (wo_sub hy))) rfl)) ?_
      refine rg_put (d := 37) (v := .d (.fl (.bool true))) rfl (og rfl (op_pick rfl rfl rfl rfl)) ?_
      refine rg_put (d := 38) (v := .d (.fl (.bool true))) rfl (og rfl (op_move rfl rfl rfl)) ?_
      refine rg_put (d := 39) (v := .d (.fl (.bool true))) rfl (oy rfl rfl rfl rfl (op_call rfl Tryz.func12 nm12 rfl .nil aliveT rfl)) ?_
      refine rg_put (d := 40) (v := .d (.fl (.bool true))) rfl (og rfl (op_pick rfl rfl rfl rfl)) ?_
      refine rg_put (d := 4) (v := .d (.fl (.bool true))) rfl (og rfl (op_assign rfl rfl rfl)) ?_
      refine rg_done rfl ?_
      refine a_ret ?_
      show ∃ ds, ResL _ _ _ ds ∧ RV.of ds = _
      refine ⟨[.fl (.bool true)], (.cons (.tmp rfl (.d _)) .nil), ?_⟩
      rfl
  · skip
    have h6 := t_not h1
    refine rg_put (d := 13) (v := .d (.fl undef)) rfl (on rfl rfl rfl h1) ?_
    refine rg_put (d := 14) (v := .d (.fl undef)) rfl (on rfl rfl rfl h1) ?_
    refine rg_put (d := 15) (v := .d (.fl undef)) rfl (on rfl rfl rfl h1) ?_
    refine rg_put (d := 16) (v := .d (.fl (.bool true))) rfl (og rfl (op_pick rfl rfl (by rw [h1]; rfl) rfl)) ?_
    refine rg_done rfl ?_
    refine a_condK rfl rfl ?_
    refine a_rseq ?_
    refine rg_put (d := 17) (v := .d (.fl (.bool true))) rfl (og rfl (op_call rfl Tryz.func12 nm12 rfl .nil aliveT rfl)) ?_
    refine rg_put (d := 4) (v := .d (.fl (.bool true))) rfl (og rfl (op_assign rfl rfl rfl)) ?_
    refine rg_done rfl ?_
    refine a_ret ?_
    show ∃ ds, ResL _ _ _ ds ∧ RV.of ds = _
    refine ⟨[.fl (.bool true)], (.cons (.tmp rfl (.d _)) .nil), ?_⟩
    rfl
theorem nb_eq (b : Bool) : ((!b) == b) = false := by cases b <;> rfl
set_option maxHeartbeats 4000000 in
set_option maxRecDepth 100000 in
theorem law10 (a b : List Psg) (ha9 : a.length ≤ 9223372036854775807) (hma : ∀ x ∈ a, x.src.length ≤ 9223372036854775807) (hb9 : b.length ≤ 9223372036854775807) (hmb : ∀ x ∈ b, x.src.length ≤ 9223372036854775807) : Ctr Tryz.prog 10 [.sl 8 (List.map ePsg a), .sl 8 (List.map ePsg b)] (.d (.fl (.bool true))) := by
  refine ctr (n := 111) (rs := #[.tmp 4]) (L := [(0, .d (.sl 8 (List.map ePsg a))), (1, .d (.sl 8 (List.map ePsg b)))]) Tryz.func10 rfl rfl rfl rfl rfl (fun w0 U0 => ?_)
  refine a_rseq ?_
  refine rg_put (d := 4) (v := .d (.fl (.bool false))) rfl (og rfl (op_assign rfl rfl rfl)) ?_
  refine rg_done rfl ?_
  refine a_seq ?_
  refine a_rseq ?_
  refine rg_put (d := 11) (v := .d (.sl 8 (List.map ePsg a))) rfl (og rfl (op_move rfl rfl rfl)) ?_
  refine rg_put (d := 12) (v := .d (.fl (.bool (fewP a)))) rfl (og rfl (op_call rfl Tryz.func19 nm19 rfl (.cons rfl (.d _) .nil) (fewC a ha9 hma) rfl)) ?_
  refine rg_put (d := 13) (v := .d (.fl (.bool ((!(fewP a)))))) rfl (og rfl (op_un rfl rfl (u_not _) rfl)) ?_
  refine rg_put (d := 14) (v := .d (.fl (.bool ((!(fewP a)))))) rfl (og rfl (op_move rfl rfl rfl)) ?_
  rcases fot ((!(fewP a))) with h1 | h1
  · skip
    have h2 := f_not h1
    refine rg_put (d := 15) (v := .d (.sl 8 (List.map ePsg b))) rfl (oy rfl rfl rfl h1 (op_move rfl rfl rfl)) ?_
    refine rg_put (d := 16) (v := .d (.fl (.bool (fewP b)))) rfl (oy rfl rfl rfl h1 (op_call rfl Tryz.func19 nm19 rfl (.cons rfl (.d _) .nil) (fewC b hb9 hmb) rfl)) ?_
    refine rg_put (d := 17) (v := .d (.fl (.bool ((!(fewP b)))))) rfl (oy rfl rfl rfl h1 (op_un rfl rfl (u_not _) rfl)) ?_
    refine rg_put (d := 18) (v := .d (.fl (.bool ((!(fewP b)))))) rfl (og rfl (op_pick rfl rfl (by rw [h1]; rfl) rfl)) ?_
    refine rg_done rfl ?_
    refine a_cond rfl (fun h3 => ?_) (fun h3 => ?_)
    · skip
      have h4 := t_not h3
      refine a_rseq ?_
      refine rg_put (d := 19) (v := .d (.fl (.bool true))) rfl (og rfl (op_call rfl Tryz.func12 nm12 rfl .nil aliveT rfl)) ?_
      refine rg_put (d := 4) (v := .d (.fl (.bool true))) rfl (og rfl (op_assign rfl rfl rfl)) ?_
      refine rg_done rfl ?_
      refine a_ret ?_
      show ∃ ds, ResL _ _ _ ds ∧ RV.of ds = _
      refine ⟨[.fl (.bool true)], (.cons (.tmp rfl (.d _)) .nil), ?_⟩
      rfl
    · skip
      have h5 := f_not h3
      refine a_skip ?_
      show A _ _ _ _ _ _ _
      refine a_rseq ?_
      obtain ⟨ha40, hza⟩ := few_t h2
      obtain ⟨hb40, hzb⟩ := few_t h5
      have hg := wo_len a b
      have hc := wo_len b a
      refine rg_put (d := 21) (v := .d (.sl 8 (List.map ePsg a))) rfl (og rfl (op_move rfl rfl rfl)) ?_
      refine rg_put (d := 22) (v := .d (.sl 8 (List.map ePsg b))) rfl (og rfl (op_move rfl rfl rfl)) ?_
      refine rg_put (d := 23) (v := .tu [.sl 8 (List.map ePsg ((wo (dfl a) (dfl b)))), .sl 8 (List.map ePsg ((wo (dfl b) (dfl a))))]) rfl (og rfl (op_call rfl Tryz.func23 nm23 rfl (.cons rfl (.d _) (.cons rfl (.d _) .nil)) (difC a b (by omega) (by omega) (fun y hy => (hza y hy).n) (fun y hy => (hzb y hy).n)) rfl)) ?_
      refine rg_put (d := 20) (v := .tu [.sl 8 (List.map ePsg ((wo (dfl a) (dfl b)))), .sl 8 (List.map ePsg ((wo (dfl b) (dfl a))))]) rfl (og rfl (op_move rfl rfl rfl)) ?_
      refine rg_put (d := 24) (v := .d (.sl 8 (List.map ePsg ((wo (dfl a) (dfl b)))))) rfl (og rfl (op_extract rfl rfl rfl rfl)) ?_
      refine rg_put (d := 25) (v := .d (.sl 8 (List.map ePsg ((wo (dfl b) (dfl a)))))) rfl (og rfl (op_extract rfl rfl rfl rfl)) ?_
      refine rg_put (d := 5) (v := .d (.sl 8 (List.map ePsg ((wo (dfl a) (dfl b)))))) rfl (og rfl (op_assign rfl rfl rfl)) ?_
      refine rg_put (d := 6) (v := .d (.sl 8 (List.map ePsg ((wo (dfl b) (dfl a)))))) rfl (og rfl (op_assign rfl rfl rfl)) ?_
      refine rg_done rfl ?_
      refine a_rseq ?_
      refine rg_put (d := 27) (v := .d (.sl 8 (List.map ePsg a))) rfl (og rfl (op_move rfl rfl rfl)) ?_
      refine rg_put (d := 28) (v := .d (.sl 8 (List.map ePsg a))) rfl (og rfl (op_move rfl rfl rfl)) ?_
      refine rg_put (d := 29) (v := .tu [.sl 8 (List.map ePsg ((wo (dfl a) (dfl a)))), .sl 8 (List.map ePsg ((wo (dfl a) (dfl a))))]) rfl (og rfl (op_call rfl Tryz.func23 nm23 rfl (.cons rfl (.d _) (.cons rfl (.d _) .nil)) (difC a a (by omega) (by omega) (fun y hy => (hza y hy).n) (fun y hy => (hza y hy).n)) rfl)) ?_
      refine rg_put (d := 26) (v := .tu [.sl 8 (List.map ePsg ((wo (dfl a) (dfl a)))), .sl 8 (List.map ePsg ((wo (dfl a) (dfl a))))]) rfl (og rfl (op_move rfl rfl rfl)) ?_
      refine rg_put (d := 30) (v := .d (.sl 8 (List.map ePsg ((wo (dfl a) (dfl a)))))) rfl (og rfl (op_extract rfl rfl rfl rfl)) ?_
      refine rg_put (d := 31) (v := .d (.sl 8 (List.map ePsg ((wo (dfl a) (dfl a)))))) rfl (og rfl (op_extract rfl rfl rfl rfl)) ?_
      refine rg_put (d := 7) (v := .d (.sl 8 (List.map ePsg ((wo (dfl a) (dfl a)))))) rfl (og rfl (op_assign rfl rfl rfl)) ?_
      refine rg_put (d := 8) (v := .d (.sl 8 (List.map ePsg ((wo (dfl a) (dfl a)))))) rfl (og rfl (op_assign rfl rfl rfl)) ?_
      refine rg_done rfl ?_
      refine a_seq ?_
      refine a_rseq ?_
      have hwz : (((wo (dfl a) (dfl a)).length : Int) == 0) = true := by rw [wo_self]; rfl
      refine rg_put (d := 9) (v := .d (.fl (.int .i64 0))) rfl (og rfl (op_assign rfl rfl rfl)) ?_
      refine rg_done rfl ?_
      refine a_block ?_
      refine a_loop (ι := Nat) (fun i => SS [(0, .d (.sl 8 (List.map ePsg a))), (1, .d (.sl 8 (List.map ePsg b))), (5, .d (.sl 8 (List.map ePsg ((wo (dfl a) (dfl b)))))), (6, .d (.sl 8 (List.map ePsg ((wo (dfl b) (dfl a)))))), (7, .d (.sl 8 (List.map ePsg ((wo (dfl a) (dfl a)))))), (8, .d (.sl 8 (List.map ePsg ((wo (dfl a) (dfl a)))))), (18, .d (.fl (.bool ((!(fewP b)))))), (9, .d (.fl (.int .i64 (i : Int))))] []) (fun i => i ≤ a.length) (fun i => a.length - i) 0 (by omega) (imp_forget rfl ⟨rfl, rfl, rfl, rfl, rfl, rfl, rfl, (by first | rfl | exact ci (by omega) | exact ci (by simp) | exact cd (by simp) | simp), trivial⟩ trivial) (fun i hok => ?_)
      have hi := hok
      refine a_seq ?_
      refine a_rseq ?_
      refine rg_put (d := 32) (v := .d (.fl (.int .i64 (i : Int)))) rfl (og rfl (op_move rfl rfl rfl)) ?_
      refine rg_put (d := 33) (v := .d (.sl 8 (List.map ePsg a))) rfl (og rfl (op_move rfl rfl rfl)) ?_
      refine rg_put (d := 34) (v := .d (.fl (.int .i64 (a.length : Int)))) rfl (og rfl (s_len rfl Tryz.underlying38 rfl rfl)) ?_
      refine rg_put (d := 35) (v := .d (.fl (.bool ((decide ((i : Int) < (a.length : Int))))))) rfl (og rfl (op_bin rfl rfl rfl (b_lss _ _ _ _) rfl)) ?_
      refine rg_done rfl ?_
      refine a_cond rfl (fun h6 => ?_) (fun h6 => ?_)
      · skip
        have h7 := t_dec h6
        refine a_skip ?_
        show A _ _ _ _ _ _ _
        refine a_seq ?_
        refine a_block ?_
        refine a_dseq (by kernel_rfl) ?_
        refine dr_put (d := 38) (v := .d (.sl 8 (List.map ePsg ((wo (dfl a) (dfl b)))))) rfl (og rfl (op_move rfl rfl rfl)) ?_
        refine dr_put (d := 39) (v := .d (.sl 8 (List.map ePsg a))) rfl (og rfl (op_move rfl rfl rfl)) ?_
        refine dr_put (d := 40) (v := .d (.fl (.int .i64 (i : Int)))) rfl (og rfl (op_move rfl rfl rfl)) ?_
        refine dr_put (d := 41) (v := .el ((ePsg (ix a i)))) rfl (og rfl (s_index rfl Tryz.underlying38 ti24 rfl rfl (by omega) (row_at (by omega)) rfl)) ?_
        refine dr_put (d := 42) (v := .d (.ag (ePsg (ix a i)))) rfl (og rfl (of_eff (s_load_els rfl Tryz.underlying24 rfl ti24 rfl rfl rfl) rfl)) ?_
        refine dr_put (d := 43) (v := .d (.fl (.bool ((!(hasB b (ix a i))))))) rfl (og rfl (op_call rfl Tryz.func33 nm33 rfl (.cons rfl (.d _) (.cons rfl (.d _) .nil)) (((wo_gone (a := a) (b := b) (x := (ix a i)) (ix_mem (by omega))) ▸ hasC (wo (dfl a) (dfl b)) (ix a i) (by omega) (fun y hy => hza y (wo_sub hy)) (hza _ (ix_mem (by omega))))) rfl)) ?_
        refine dr_put (d := 44) (v := .d (.sl 8 (List.map ePsg b))) rfl (og rfl (op_move rfl rfl rfl)) ?_
        refine dr_put (d := 45) (v := .d (.sl 8 (List.map ePsg a))) rfl (og rfl (op_move rfl rfl rfl)) ?_
        refine dr_put (d := 46) (v := .d (.fl (.int .i64 (i : Int)))) rfl (og rfl (op_move rfl rfl rfl)) ?_
        refine dr_put (d := 47) (v := .el ((ePsg (ix a i)))) rfl (og rfl (s_index rfl Tryz.underlying38 ti24 rfl rfl (by omega) (row_at (by omega)) rfl)) ?_
        refine dr_put (d := 48) (v := .d (.ag (ePsg (ix a i)))) rfl (og rfl (of_eff (s_load_els rfl Tryz.underlying24 rfl ti24 rfl rfl rfl) rfl)) ?_
        refine dr_put (d := 49) (v := .d (.fl (.bool ((hasB b (ix a i)))))) rfl (og rfl (op_call rfl Tryz.func33 nm33 rfl (.cons rfl (.d _) (.cons rfl (.d _) .nil)) (hasC b (ix a i) (by omega) hzb (hza _ (ix_mem (by omega)))) rfl)) ?_
        refine dr_put (d := 50) (v := .d (.fl (.bool (((!(hasB b (ix a i))) == (hasB b (ix a i))))))) rfl (og rfl (op_bin rfl rfl rfl (fun x y w => b_beq _ _ _ x y w Tryz.underlying4) rfl)) ?_
        refine dr_put (d := 51) (v := .d (.fl (.bool (((!(hasB b (ix a i))) == (hasB b (ix a i))))))) rfl (og rfl (op_move rfl rfl rfl)) ?_
        refine dr_put (d := 52) (v := .d (.sl 8 (List.map ePsg ((wo (dfl b) (dfl a)))))) rfl (oy rfl rfl rfl (nb_eq _) (op_move rfl rfl rfl)) ?_
        refine dr_put (d := 53) (v := .d (.sl 8 (List.map ePsg a))) rfl (oy rfl rfl rfl (nb_eq _) (op_move rfl rfl rfl)) ?_
        refine dr_put (d := 54) (v := .d (.fl (.int .i64 (i : Int)))) rfl (oy rfl rfl rfl (nb_eq _) (op_move rfl rfl rfl)) ?_
        refine dr_put (d := 55) (v := .el ((ePsg (ix a i)))) rfl (oy rfl rfl rfl (nb_eq _) (s_index rfl Tryz.underlying38 ti24 rfl rfl (by omega) (row_at (by omega)) rfl)) ?_
        refine dr_put (d := 56) (v := .d (.ag (ePsg (ix a i)))) rfl (oy rfl rfl rfl (nb_eq _) (of_eff (s_load_els rfl Tryz.underlying24 rfl ti24 rfl rfl rfl) rfl)) ?_
        refine dr_put (d := 57) (v := .d (.fl (.bool false))) rfl (oy rfl rfl rfl (nb_eq _) (op_call rfl Tryz.func33 nm33 rfl (.cons rfl (.d _) (.cons rfl (.d _) .nil)) (((wo_come (a := a) (b := b) (x := (ix a i)) (ix_mem (by omega))) ▸ hasC (wo (dfl b) (dfl a)) (ix a i) (by omega) (fun y hy => hzb y (wo_sub hy)) (hza _ (ix_mem (by omega))))) rfl)) ?_
        refine dr_put (d := 58) (v := .d (.fl (.bool false))) rfl (og rfl (op_pick rfl rfl (by rw [(nb_eq _)]; rfl) rfl)) ?_
        refine dr_done rfl (sepB_of [0, 0, 0, 6, 14, 31, 0, 0, 0, 384, 896, 2047, 4095, 8191, 16383, 16383, 16383, 114687, 245759, 524287, 1048575] (by kernel_rfl)) (by kernel_rfl) ?_
        refine a_condF rfl rfl ?_
        refine a_skip ?_
        show A _ _ _ _ _ _ _
        refine a_region ?_
        refine rg_put (d := 36) (v := .d (.fl (.int .i64 (i : Int)))) rfl (og rfl (op_move rfl rfl rfl)) ?_
        refine rg_put (d := 37) (v := .d (.fl (.int .i64 (((i : Int) + 1))))) rfl (og rfl (op_bin rfl rfl rfl (fun x y w => b_add64 _ _ _ x y w (by omega)) rfl)) ?_
        refine rg_put (d := 9) (v := .d (.fl (.int .i64 (((i : Int) + 1))))) rfl (og rfl (op_assign rfl rfl rfl)) ?_
        refine rg_done rfl ?_
        show ∃ i, _ ∧ _ ∧ Imp _ _ _ _ _
        refine ⟨i + 1, (by omega), by omega, imp_forget rfl ⟨rfl, rfl, rfl, rfl, rfl, rfl, rfl, (by first | rfl | exact ci (by omega) | exact ci (by simp) | exact cd (by simp) | simp), trivial⟩ trivial⟩
      · skip
        have h8 := f_dec h6
        refine a_exit ?_
        show A _ _ _ _ _ _ _
        refine a_seq ?_
        refine a_rseq ?_
        refine rg_put (d := 10) (v := .d (.fl (.int .i64 0))) rfl (og rfl (op_assign rfl rfl rfl)) ?_
        refine rg_done rfl ?_
        refine a_block ?_
        refine a_loop (ι := Nat) (fun j => SS [(0, .d (.sl 8 (List.map ePsg a))), (1, .d (.sl 8 (List.map ePsg b))), (5, .d (.sl 8 (List.map ePsg ((wo (dfl a) (dfl b)))))), (6, .d (.sl 8 (List.map ePsg ((wo (dfl b) (dfl a)))))), (7, .d (.sl 8 (List.map ePsg ((wo (dfl a) (dfl a)))))), (8, .d (.sl 8 (List.map ePsg ((wo (dfl a) (dfl a)))))), (9, .d (.fl (.int .i64 (i : Int)))), (18, .d (.fl (.bool ((!(fewP b)))))), (35, .d (.fl (.bool ((decide ((i : Int) < (a.length : Int))))))), (10, .d (.fl (.int .i64 (j : Int))))] []) (fun j => j ≤ b.length) (fun j => b.length - j) 0 (by omega) (imp_forget rfl ⟨rfl, rfl, rfl, rfl, rfl, rfl, rfl, rfl, rfl, (by first | rfl | exact ci (by omega) | exact ci (by simp) | exact cd (by simp) | simp), trivial⟩ trivial) (fun j hok => ?_)
        have hj := hok
        refine a_seq ?_
        refine a_rseq ?_
        refine rg_put (d := 59) (v := .d (.fl (.int .i64 (j : Int)))) rfl (og rfl (op_move rfl rfl rfl)) ?_
        refine rg_put (d := 60) (v := .d (.sl 8 (List.map ePsg b))) rfl (og rfl (op_move rfl rfl rfl)) ?_
        refine rg_put (d := 61) (v := .d (.fl (.int .i64 (b.length : Int)))) rfl (og rfl (s_len rfl Tryz.underlying38 rfl rfl)) ?_
        refine rg_put (d := 62) (v := .d (.fl (.bool ((decide ((j : Int) < (b.length : Int))))))) rfl (og rfl (op_bin rfl rfl rfl (b_lss _ _ _ _) rfl)) ?_
        refine rg_done rfl ?_
        refine a_cond rfl (fun h9 => ?_) (fun h9 => ?_)
        · skip
          have h10 := t_dec h9
          refine a_skip ?_
          show A _ _ _ _ _ _ _
          refine a_seq ?_
          refine a_block ?_
          refine a_dseq (by kernel_rfl) ?_
          refine dr_put (d := 65) (v := .d (.sl 8 (List.map ePsg ((wo (dfl b) (dfl a)))))) rfl (og rfl (op_move rfl rfl rfl)) ?_
          refine dr_put (d := 66) (v := .d (.sl 8 (List.map ePsg b))) rfl (og rfl (op_move rfl rfl rfl)) ?_
          refine dr_put (d := 67) (v := .d (.fl (.int .i64 (j : Int)))) rfl (og rfl (op_move rfl rfl rfl)) ?_
          refine dr_put (d := 68) (v := .el ((ePsg (ix b j)))) rfl (og rfl (s_index rfl Tryz.underlying38 ti24 rfl rfl (by omega) (row_at (by omega)) rfl)) ?_
          refine dr_put (d := 69) (v := .d (.ag (ePsg (ix b j)))) rfl (og rfl (of_eff (s_load_els rfl Tryz.underlying24 rfl ti24 rfl rfl rfl) rfl)) ?_
          refine dr_put (d := 70) (v := .d (.fl (.bool ((!(hasB a (ix b j))))))) rfl (og rfl (op_call rfl Tryz.func33 nm33 rfl (.cons rfl (.d _) (.cons rfl (.d _) .nil)) (((wo_gone (a := b) (b := a) (x := (ix b j)) (ix_mem (by omega))) ▸ hasC (wo (dfl b) (dfl a)) (ix b j) (by omega) (fun y hy => hzb y (wo_sub hy)) (hzb _ (ix_mem (by omega))))) rfl)) ?_
          refine dr_put (d := 71) (v := .d (.sl 8 (List.map ePsg a))) rfl (og rfl (op_move rfl rfl rfl)) ?_
          refine dr_put (d := 72) (v := .d (.sl 8 (List.map ePsg b))) rfl (og rfl (op_move rfl rfl rfl)) ?_
          refine dr_put (d := 73) (v := .d (.fl (.int .i64 (j : Int)))) rfl (og rfl (op_move rfl rfl rfl)) ?_
          refine dr_put (d := 74) (v := .el ((ePsg (ix b j)))) rfl (og rfl (s_index rfl Tryz.underlying38 ti24 rfl rfl (by omega) (row_at (by omega)) rfl)) ?_
          refine dr_put (d := 75) (v := .d (.ag (ePsg (ix b j)))) rfl (og rfl (of_eff (s_load_els rfl Tryz.underlying24 rfl ti24 rfl rfl rfl) rfl)) ?_
          refine dr_put (d := 76) (v := .d (.fl (.bool ((hasB a (ix b j)))))) rfl (og rfl (op_call rfl Tryz.func33 nm33 rfl (.cons rfl (.d _) (.cons rfl (.d _) .nil)) (hasC a (ix b j) (by omega) hza (hzb _ (ix_mem (by omega)))) rfl)) ?_
          refine dr_put (d := 77) (v := .d (.fl (.bool (((!(hasB a (ix b j))) == (hasB a (ix b j))))))) rfl (og rfl (op_bin rfl rfl rfl (fun x y w => b_beq _ _ _ x y w Tryz.underlying4) rfl)) ?_
          refine dr_put (d := 78) (v := .d (.fl (.bool (((!(hasB a (ix b j))) == (hasB a (ix b j))))))) rfl (og rfl (op_move rfl rfl rfl)) ?_
          refine dr_put (d := 79) (v := .d (.sl 8 (List.map ePsg ((wo (dfl a) (dfl b)))))) rfl (oy rfl rfl rfl (nb_eq _) (op_move rfl rfl rfl)) ?_
          refine dr_put (d := 80) (v := .d (.sl 8 (List.map ePsg b))) rfl (oy rfl rfl rfl (nb_eq _) (op_move rfl rfl rfl)) ?_
          refine dr_put (d := 81) (v := .d (.fl (.int .i64 (j : Int)))) rfl (oy rfl rfl rfl (nb_eq _) (op_move rfl rfl rfl)) ?_
          refine dr_put (d := 82) (v := .el ((ePsg (ix b j)))) rfl (oy rfl rfl rfl (nb_eq _) (s_index rfl Tryz.underlying38 ti24 rfl rfl (by omega) (row_at (by omega)) rfl)) ?_
          refine dr_put (d := 83) (v := .d (.ag (ePsg (ix b j)))) rfl (oy rfl rfl rfl (nb_eq _) (of_eff (s_load_els rfl Tryz.underlying24 rfl ti24 rfl rfl rfl) rfl)) ?_
          refine dr_put (d := 84) (v := .d (.fl (.bool false))) rfl (oy rfl rfl rfl (nb_eq _) (op_call rfl Tryz.func33 nm33 rfl (.cons rfl (.d _) (.cons rfl (.d _) .nil)) (((wo_come (a := b) (b := a) (x := (ix b j)) (ix_mem (by omega))) ▸ hasC (wo (dfl a) (dfl b)) (ix b j) (by omega) (fun y hy => hza y (wo_sub hy)) (hzb _ (ix_mem (by omega))))) rfl)) ?_
          refine dr_put (d := 85) (v := .d (.fl (.bool false))) rfl (og rfl (op_pick rfl rfl (by rw [(nb_eq _)]; rfl) rfl)) ?_
          refine dr_done rfl (sepB_of [0, 0, 0, 6, 14, 31, 0, 0, 0, 384, 896, 2047, 4095, 8191, 16383, 16383, 16383, 114687, 245759, 524287, 1048575] (by kernel_rfl)) (by kernel_rfl) ?_
          refine a_condF rfl rfl ?_
          refine a_skip ?_
          show A _ _ _ _ _ _ _
          refine a_region ?_
          refine rg_put (d := 63) (v := .d (.fl (.int .i64 (j : Int)))) rfl (og rfl (op_move rfl rfl rfl)) ?_
          refine rg_put (d := 64) (v := .d (.fl (.int .i64 (((j : Int) + 1))))) rfl (og rfl (op_bin rfl rfl rfl (fun x y w => b_add64 _ _ _ x y w (by omega)) rfl)) ?_
          refine rg_put (d := 10) (v := .d (.fl (.int .i64 (((j : Int) + 1))))) rfl (og rfl (op_assign rfl rfl rfl)) ?_
          refine rg_done rfl ?_
          show ∃ i, _ ∧ _ ∧ Imp _ _ _ _ _
          refine ⟨j + 1, (by omega), by omega, imp_forget rfl ⟨rfl, rfl, rfl, rfl, rfl, rfl, rfl, rfl, rfl, (by first | rfl | exact ci (by omega) | exact ci (by simp) | exact cd (by simp) | simp), trivial⟩ trivial⟩
        · skip
          have h11 := f_dec h9
          refine a_exit ?_
          show A _ _ _ _ _ _ _
          refine a_rseq ?_
          refine rg_put (d := 86) (v := .d (.sl 8 (List.map ePsg ((wo (dfl a) (dfl b)))))) rfl (og rfl (op_move rfl rfl rfl)) ?_
          refine rg_put (d := 87) (v := .d (.fl (.int .i64 ((((wo (dfl a) (dfl b))).length : Int))))) rfl (og rfl (s_len rfl Tryz.underlying38 rfl rfl)) ?_
          refine rg_put (d := 88) (v := .d (.sl 8 (List.map ePsg a))) rfl (og rfl (op_move rfl rfl rfl)) ?_
          refine rg_put (d := 89) (v := .d (.fl (.int .i64 (a.length : Int)))) rfl (og rfl (s_len rfl Tryz.underlying38 rfl rfl)) ?_
          refine rg_put (d := 90) (v := .d (.fl (.bool ((decide ((((wo (dfl a) (dfl b))).length : Int) ≤ (a.length : Int))))))) rfl (og rfl (op_bin rfl rfl rfl (b_leq _ _ _ _) rfl)) ?_
          refine rg_put (d := 91) (v := .d (.fl (.bool ((decide ((((wo (dfl a) (dfl b))).length : Int) ≤ (a.length : Int))))))) rfl (og rfl (op_move rfl rfl rfl)) ?_
          refine rg_put (d := 92) (v := .d (.sl 8 (List.map ePsg ((wo (dfl b) (dfl a)))))) rfl (oy rfl rfl rfl (decide_eq_true (by omega)) (op_move rfl rfl rfl)) ?_
          refine rg_put (d := 93) (v := .d (.fl (.int .i64 ((((wo (dfl b) (dfl a))).length : Int))))) rfl (oy rfl rfl rfl (decide_eq_true (by omega)) (s_len rfl Tryz.underlying38 rfl rfl)) ?_
          refine rg_put (d := 94) (v := .d (.sl 8 (List.map ePsg b))) rfl (oy rfl rfl rfl (decide_eq_true (by omega)) (op_move rfl rfl rfl)) ?_
          refine rg_put (d := 95) (v := .d (.fl (.int .i64 (b.length : Int)))) rfl (oy rfl rfl rfl (decide_eq_true (by omega)) (s_len rfl Tryz.underlying38 rfl rfl)) ?_
          refine rg_put (d := 96) (v := .d (.fl (.bool ((decide ((((wo (dfl b) (dfl a))).length : Int) ≤ (b.length : Int))))))) rfl (oy rfl rfl rfl (decide_eq_true (by omega)) (op_bin rfl rfl rfl (b_leq _ _ _ _) rfl)) ?_
          refine rg_put (d := 97) (v := .d (.fl (.bool ((decide ((((wo (dfl b) (dfl a))).length : Int) ≤ (b.length : Int))))))) rfl (og rfl (op_pick rfl rfl (by rw [(decide_eq_true (by omega))]; rfl) rfl)) ?_
          refine rg_put (d := 98) (v := .d (.fl (.bool ((decide ((((wo (dfl b) (dfl a))).length : Int) ≤ (b.length : Int))))))) rfl (og rfl (op_move rfl rfl rfl)) ?_
          refine rg_put (d := 99) (v := .d (.sl 8 (List.map ePsg ((wo (dfl a) (dfl a)))))) rfl (oy rfl rfl rfl (decide_eq_true (by omega)) (op_move rfl rfl rfl)) ?_
          refine rg_put (d := 100) (v := .d (.fl (.int .i64 ((((wo (dfl a) (dfl a))).length : Int))))) rfl (oy rfl rfl rfl (decide_eq_true (by omega)) (s_len rfl Tryz.underlying38 rfl rfl)) ?_
          refine rg_put (d := 101) (v := .d (.fl (.bool (((((wo (dfl a) (dfl a))).length : Int) == 0))))) rfl (oy rfl rfl rfl (decide_eq_true (by omega)) (op_bin rfl rfl rfl (b_eql _ _ _ _) rfl)) ?_
          refine rg_put (d := 102) (v := .d (.fl (.bool (((((wo (dfl a) (dfl a))).length : Int) == 0))))) rfl (og rfl (op_pick rfl rfl (by rw [(decide_eq_true (by omega))]; rfl) rfl)) ?_
          refine rg_put (d := 103) (v := .d (.fl (.bool (((((wo (dfl a) (dfl a))).length : Int) == 0))))) rfl (og rfl (op_move rfl rfl rfl)) ?_
          refine rg_put (d := 104) (v := .d (.sl 8 (List.map ePsg ((wo (dfl a) (dfl a)))))) rfl (oy rfl rfl rfl hwz (op_move rfl rfl rfl)) ?_
          refine rg_put (d := 105) (v := .d (.fl (.int .i64 ((((wo (dfl a) (dfl a))).length : Int))))) rfl (oy rfl rfl rfl hwz (s_len rfl Tryz.underlying38 rfl rfl)) ?_
          refine rg_put (d := 106) (v := .d (.fl (.bool (((((wo (dfl a) (dfl a))).length : Int) == 0))))) rfl (oy rfl rfl rfl hwz (op_bin rfl rfl rfl (b_eql _ _ _ _) rfl)) ?_
          refine rg_put (d := 107) (v := .d (.fl (.bool (((((wo (dfl a) (dfl a))).length : Int) == 0))))) rfl (og rfl (op_pick rfl rfl (by rw [hwz]; rfl) rfl)) ?_
          refine rg_put (d := 108) (v := .d (.fl (.bool (((((wo (dfl a) (dfl a))).length : Int) == 0))))) rfl (og rfl (op_move rfl rfl rfl)) ?_
          refine rg_put (d := 109) (v := .d (.fl (.bool true))) rfl (oy rfl rfl rfl hwz (op_call rfl Tryz.func12 nm12 rfl .nil aliveT rfl)) ?_
          refine rg_put (d := 110) (v := .d (.fl (.bool true))) rfl (og rfl (op_pick rfl rfl (by rw [hwz]; rfl) rfl)) ?_
          refine rg_put (d := 4) (v := .d (.fl (.bool true))) rfl (og rfl (op_assign rfl rfl rfl)) ?_
          refine rg_done rfl ?_
          refine a_ret ?_
          show ∃ ds, ResL _ _ _ ds ∧ RV.of ds = _
          refine ⟨[.fl (.bool true)], (.cons (.tmp rfl (.d _)) .nil), ?_⟩
          rfl
  · skip
    have h12 := t_not h1
    refine rg_put (d := 15) (v := .d (.fl undef)) rfl (on rfl rfl rfl h1) ?_
    refine rg_put (d := 16) (v := .d (.fl undef)) rfl (on rfl rfl rfl h1) ?_
    refine rg_put (d := 17) (v := .d (.fl undef)) rfl (on rfl rfl rfl h1) ?_
    refine rg_put (d := 18) (v := .d (.fl (.bool true))) rfl (og rfl (op_pick rfl rfl (by rw [h1]; rfl) rfl)) ?_
    refine rg_done rfl ?_
    refine a_condK rfl rfl ?_
    refine a_rseq ?_
    refine rg_put (d := 19) (v := .d (.fl (.bool true))) rfl (og rfl (op_call rfl Tryz.func12 nm12 rfl .nil aliveT rfl)) ?_
    refine rg_put (d := 4) (v := .d (.fl (.bool true))) rfl (og rfl (op_assign rfl rfl rfl)) ?_
    refine rg_done rfl ?_
    refine a_ret ?_
    show ∃ ds, ResL _ _ _ ds ∧ RV.of ds = _
    refine ⟨[.fl (.bool true)], (.cons (.tmp rfl (.d _)) .nil), ?_⟩
    rfl
end Go.Proofs.YtakmjlpciicaiaaGreatDoor.Wk
