/- The law of tags. No condition. -/
import Derived.Test.YtakmjlpciicaiaaGreatDoorAl
import Derived.Test.YtakmjlpciicaiaaGreatDoorB5
set_option linter.unusedSimpArgs false
set_option linter.unusedVariables false
namespace Go.Proofs.YtakmjlpciicaiaaGreatDoor.Wk
open Go Go.RowKit Go.Proofs.YtakmjlpciicaiaaGreatDoor.Av
set_option maxHeartbeats 4000000 in
set_option maxRecDepth 100000 in
theorem law9 (l : List Psg) (s : ByteArray) (hl9 : l.length ≤ 9223372036854775807) (hm9 : ∀ x ∈ l, x.src.length ≤ 9223372036854775807) : Ctr Tryz.prog 9 [.sl 8 (List.map ePsg l), .fl (.string s)] (.d (.fl (.bool true))) := by
  refine ctr (n := 112) (rs := #[.tmp 4]) (L := [(0, .d (.sl 8 (List.map ePsg l))), (1, .d (.fl (.string s)))]) Tryz.func9 rfl rfl rfl rfl rfl (fun w0 U0 => ?_)
  refine a_rseq ?_
  refine rg_put (d := 4) (v := .d (.fl (.bool false))) rfl (og rfl (op_assign rfl rfl rfl)) ?_
  refine rg_done rfl ?_
  refine a_seq ?_
  refine a_rseq ?_
  refine rg_put (d := 10) (v := .d (.sl 8 (List.map ePsg l))) rfl (og rfl (op_move rfl rfl rfl)) ?_
  refine rg_put (d := 11) (v := .d (.fl (.bool (fewP l)))) rfl (og rfl (op_call rfl Tryz.func19 nm19 rfl (.cons rfl (.d _) .nil) (fewC l hl9 hm9) rfl)) ?_
  refine rg_put (d := 12) (v := .d (.fl (.bool ((!(fewP l)))))) rfl (og rfl (op_un rfl rfl (u_not _) rfl)) ?_
  refine rg_put (d := 13) (v := .d (.fl (.bool ((!(fewP l)))))) rfl (og rfl (op_move rfl rfl rfl)) ?_
  rcases fot ((!(fewP l))) with h1 | h1
  · skip
    have h2 := f_not h1
    refine rg_put (d := 14) (v := .d (.fl (.string s))) rfl (oy rfl rfl rfl h1 (op_move rfl rfl rfl)) ?_
    refine rg_put (d := 15) (v := .d (.fl (.bool ((sEq s (⟨#[]⟩)))))) rfl (oy rfl rfl rfl h1 (op_bin rfl rfl rfl (b_seq _ _ _) rfl)) ?_
    refine rg_put (d := 16) (v := .d (.fl (.bool ((sEq s (⟨#[]⟩)))))) rfl (og rfl (op_pick rfl rfl (by rw [h1]; rfl) rfl)) ?_
    refine rg_done rfl ?_
    refine a_cond rfl (fun h3 => ?_) (fun h3 => ?_)
    · skip
      refine a_rseq ?_
      refine rg_put (d := 17) (v := .d (.fl (.bool true))) rfl (og rfl (op_call rfl Tryz.func12 nm12 rfl .nil aliveT rfl)) ?_
      refine rg_put (d := 4) (v := .d (.fl (.bool true))) rfl (og rfl (op_assign rfl rfl rfl)) ?_
      refine rg_done rfl ?_
      refine a_ret ?_
      show ∃ ds, ResL _ _ _ ds ∧ RV.of ds = _
      refine ⟨[.fl (.bool true)], (.cons (.tmp rfl (.d _)) .nil), ?_⟩
      rfl
    · skip
      refine a_skip ?_
      show A _ _ _ _ _ _ _
      refine a_rseq ?_
      obtain ⟨hl40, hsz⟩ := few_t h2
      have hs : sEq s em = false := h3
      have hun : ∀ y ∈ (srt (l.filter (bq l s))), y ∈ l.filter (bq l s) := fun y hy => (srt_perm _).subset hy
      have hsu : ∀ y ∈ (srt (l.filter (bq l s))), szP y := fun y hy => hsz y ((List.mem_filter.1 (hun y hy)).1)
      have hul : (srt (l.filter (bq l s))).length ≤ l.length := by rw [srt_len]; exact List.length_filter_le _ _
      refine rg_put (d := 18) (v := .d (.sl 8 (List.map ePsg l))) rfl (og rfl (op_move rfl rfl rfl)) ?_
      refine rg_put (d := 19) (v := .d (.fl (.string s))) rfl (og rfl (op_move rfl rfl rfl)) ?_
      refine rg_put (d := 20) (v := .d (.sl 8 (List.map ePsg ((srt (l.filter (bq l s))))))) rfl (og rfl (op_call rfl Tryz.func25 nm25 rfl (.cons rfl (.d _) (.cons rfl (.d _) .nil)) (ofP l s (by omega) (fun x hx => (hsz x hx).n)) rfl)) ?_
      refine rg_put (d := 5) (v := .d (.sl 8 (List.map ePsg ((srt (l.filter (bq l s))))))) rfl (og rfl (op_assign rfl rfl rfl)) ?_
      refine rg_done rfl ?_
      refine a_seq ?_
      refine a_rseq ?_
      refine rg_put (d := 6) (v := .d (.fl (.int .i64 0))) rfl (og rfl (op_assign rfl rfl rfl)) ?_
      refine rg_done rfl ?_
      refine a_block ?_
      refine a_loop (ι := Nat) (fun i => SS [(0, .d (.sl 8 (List.map ePsg l))), (1, .d (.fl (.string s))), (5, .d (.sl 8 (List.map ePsg ((srt (l.filter (bq l s))))))), (16, .d (.fl (.bool ((sEq s (⟨#[]⟩)))))), (6, .d (.fl (.int .i64 (i : Int))))] []) (fun i => i ≤ l.length) (fun i => l.length - i) 0 (by omega) (imp_forget rfl ⟨rfl, rfl, rfl, rfl, (by first | rfl | exact ci (by omega) | exact ci (by simp) | exact cd (by simp) | simp), trivial⟩ trivial) (fun i hok => ?_)
      have hi := hok
      refine a_seq ?_
      refine a_rseq ?_
      refine rg_put (d := 21) (v := .d (.fl (.int .i64 (i : Int)))) rfl (og rfl (op_move rfl rfl rfl)) ?_
      refine rg_put (d := 22) (v := .d (.sl 8 (List.map ePsg l))) rfl (og rfl (op_move rfl rfl rfl)) ?_
      refine rg_put (d := 23) (v := .d (.fl (.int .i64 (l.length : Int)))) rfl (og rfl (s_len rfl Tryz.underlying38 rfl rfl)) ?_
      refine rg_put (d := 24) (v := .d (.fl (.bool ((decide ((i : Int) < (l.length : Int))))))) rfl (og rfl (op_bin rfl rfl rfl (b_lss _ _ _ _) rfl)) ?_
      refine rg_done rfl ?_
      refine a_cond rfl (fun h4 => ?_) (fun h4 => ?_)
      · skip
        have h5 := t_dec h4
        refine a_skip ?_
        show A _ _ _ _ _ _ _
        refine a_seq ?_
        refine a_block ?_
        refine a_rseq ?_
        refine rg_put (d := 27) (v := .d (.sl 8 (List.map ePsg l))) rfl (og rfl (op_move rfl rfl rfl)) ?_
        refine rg_put (d := 28) (v := .d (.fl (.int .i64 (i : Int)))) rfl (og rfl (op_move rfl rfl rfl)) ?_
        refine rg_put (d := 29) (v := .el ((ePsg (ix l i)))) rfl (og rfl (s_index rfl Tryz.underlying38 ti24 rfl rfl (by omega) (row_at (by omega)) rfl)) ?_
        refine rg_put (d := 30) (v := .el ((List.drop 3 ((ePsg (ix l i)))))) rfl (og rfl (of_eff (s_field_el rfl Tryz.underlying24 rfl ti9 rfl rfl rfl) rfl)) ?_
        refine rg_put (d := 31) (v := .d (.fl (.string ((ix l i).tag)))) rfl (og rfl (op_load_el rfl Tryz.underlying9 rfl rfl rfl rfl)) ?_
        refine rg_put (d := 32) (v := .d (.fl (.string s))) rfl (og rfl (op_move rfl rfl rfl)) ?_
        refine rg_put (d := 33) (v := .d (.fl (.bool ((sEq ((ix l i).tag) s))))) rfl (og rfl (op_bin rfl rfl rfl (b_seq _ _ _) rfl)) ?_
        refine rg_put (d := 34) (v := .d (.fl (.bool ((sEq ((ix l i).tag) s))))) rfl (og rfl (op_move rfl rfl rfl)) ?_
        rcases fot ((sEq ((ix l i).tag) s)) with h6 | h6
        · skip
          refine rg_put (d := 35) (v := .d (.fl undef)) rfl (on rfl rfl rfl h6) ?_
          refine rg_put (d := 36) (v := .d (.fl undef)) rfl (on rfl rfl rfl h6) ?_
          refine rg_put (d := 37) (v := .d (.fl undef)) rfl (on rfl rfl rfl h6) ?_
          refine rg_put (d := 38) (v := .d (.fl undef)) rfl (on rfl rfl rfl h6) ?_
          refine rg_put (d := 39) (v := .d (.fl undef)) rfl (on rfl rfl rfl h6) ?_
          refine rg_put (d := 40) (v := .d (.fl undef)) rfl (on rfl rfl rfl h6) ?_
          refine rg_put (d := 41) (v := .d (.fl undef)) rfl (on rfl rfl rfl h6) ?_
          refine rg_put (d := 42) (v := .d (.fl (.bool false))) rfl (og rfl (op_pick rfl rfl (by rw [h6]; rfl) rfl)) ?_
          refine rg_done rfl ?_
          refine a_condF rfl rfl ?_
          refine a_skip ?_
          show A _ _ _ _ _ _ _
          refine a_region ?_
          refine rg_put (d := 25) (v := .d (.fl (.int .i64 (i : Int)))) rfl (og rfl (op_move rfl rfl rfl)) ?_
          refine rg_put (d := 26) (v := .d (.fl (.int .i64 (((i : Int) + 1))))) rfl (og rfl (op_bin rfl rfl rfl (fun x y w => b_add64 _ _ _ x y w (by omega)) rfl)) ?_
          refine rg_put (d := 6) (v := .d (.fl (.int .i64 (((i : Int) + 1))))) rfl (og rfl (op_assign rfl rfl rfl)) ?_
          refine rg_done rfl ?_
          show ∃ i, _ ∧ _ ∧ Imp _ _ _ _ _
          refine ⟨i + 1, (by omega), by omega, imp_forget rfl ⟨rfl, rfl, rfl, rfl, (by first | rfl | exact ci (by omega) | exact ci (by simp) | exact cd (by simp) | simp), trivial⟩ trivial⟩
        · skip
          refine rg_put (d := 35) (v := .d (.sl 8 (List.map ePsg ((srt (l.filter (bq l s))))))) rfl (oy rfl rfl rfl h6 (op_move rfl rfl rfl)) ?_
          refine rg_put (d := 36) (v := .d (.sl 8 (List.map ePsg l))) rfl (oy rfl rfl rfl h6 (op_move rfl rfl rfl)) ?_
          refine rg_put (d := 37) (v := .d (.fl (.int .i64 (i : Int)))) rfl (oy rfl rfl rfl h6 (op_move rfl rfl rfl)) ?_
          refine rg_put (d := 38) (v := .el ((ePsg (ix l i)))) rfl (oy rfl rfl rfl h6 (s_index rfl Tryz.underlying38 ti24 rfl rfl (by omega) (row_at (by omega)) rfl)) ?_
          refine rg_put (d := 39) (v := .d (.ag (ePsg (ix l i)))) rfl (oy rfl rfl rfl h6 (of_eff (s_load_els rfl Tryz.underlying24 rfl ti24 rfl rfl rfl) rfl)) ?_
          refine rg_put (d := 40) (v := .d (.fl (.bool ((hasB ((srt (l.filter (bq l s)))) (ix l i)))))) rfl (oy rfl rfl rfl h6 (op_call rfl Tryz.func33 nm33 rfl (.cons rfl (.d _) (.cons rfl (.d _) .nil)) (hasC ((srt (l.filter (bq l s)))) (ix l i) (by omega) hsu (hsz _ (ix_mem (by omega)))) rfl)) ?_
          refine rg_put (d := 41) (v := .d (.fl (.bool ((!((hasB ((srt (l.filter (bq l s)))) (ix l i)))))))) rfl (oy rfl rfl rfl h6 (op_un rfl rfl (u_not _) rfl)) ?_
          refine rg_put (d := 42) (v := .d (.fl (.bool ((!((hasB ((srt (l.filter (bq l s)))) (ix l i)))))))) rfl (og rfl (op_pick rfl rfl (by rw [h6]; rfl) rfl)) ?_
          refine rg_done rfl ?_
          refine a_cond rfl (fun h7 => ?_) (fun h7 => ?_)
          · skip
            have h8 := t_not h7
            refine a_rseq ?_
            refine rg_put (d := 4) (v := .d (.fl (.bool false))) rfl (og rfl (op_assign rfl rfl rfl)) ?_
            refine rg_done rfl ?_
            refine a_ret ?_
            show ∃ ds, ResL _ _ _ ds ∧ RV.of ds = _
            refine ⟨[.fl (.bool false)], (.cons (.tmp rfl (.d _)) .nil), ?_⟩
            exfalso; have h := h8; rw [has_of ((srt_perm _).symm.subset (in_of hs (ix_mem (by omega)) h6))] at h; cases h
          · skip
            have h9 := f_not h7
            refine a_skip ?_
            show A _ _ _ _ _ _ _
            refine a_region ?_
            refine rg_put (d := 25) (v := .d (.fl (.int .i64 (i : Int)))) rfl (og rfl (op_move rfl rfl rfl)) ?_
            refine rg_put (d := 26) (v := .d (.fl (.int .i64 (((i : Int) + 1))))) rfl (og rfl (op_bin rfl rfl rfl (fun x y w => b_add64 _ _ _ x y w (by omega)) rfl)) ?_
            refine rg_put (d := 6) (v := .d (.fl (.int .i64 (((i : Int) + 1))))) rfl (og rfl (op_assign rfl rfl rfl)) ?_
            refine rg_done rfl ?_
            show ∃ i, _ ∧ _ ∧ Imp _ _ _ _ _
            refine ⟨i + 1, (by omega), by omega, imp_forget rfl ⟨rfl, rfl, rfl, rfl, (by first | rfl | exact ci (by omega) | exact ci (by simp) | exact cd (by simp) | simp), trivial⟩ trivial⟩
      · skip
        have h10 := f_dec h4
        refine a_exit ?_
        show A _ _ _ _ _ _ _
        refine a_seq ?_
        refine a_rseq ?_
        refine rg_put (d := 7) (v := .d (.fl (.int .i64 0))) rfl (og rfl (op_assign rfl rfl rfl)) ?_
        refine rg_done rfl ?_
        refine a_block ?_
        refine a_loop (ι := Nat) (fun j => SS [(0, .d (.sl 8 (List.map ePsg l))), (1, .d (.fl (.string s))), (5, .d (.sl 8 (List.map ePsg ((srt (l.filter (bq l s))))))), (6, .d (.fl (.int .i64 (i : Int)))), (16, .d (.fl (.bool ((sEq s (⟨#[]⟩)))))), (24, .d (.fl (.bool ((decide ((i : Int) < (l.length : Int))))))), (7, .d (.fl (.int .i64 (j : Int))))] []) (fun j => j ≤ (srt (l.filter (bq l s))).length) (fun j => (srt (l.filter (bq l s))).length - j) 0 (by omega) (imp_forget rfl ⟨rfl, rfl, rfl, rfl, rfl, rfl, (by first | rfl | exact ci (by omega) | exact ci (by simp) | exact cd (by simp) | simp), trivial⟩ trivial) (fun j hok => ?_)
        have hj := hok
        refine a_seq ?_
        refine a_rseq ?_
        refine rg_put (d := 43) (v := .d (.fl (.int .i64 (j : Int)))) rfl (og rfl (op_move rfl rfl rfl)) ?_
        refine rg_put (d := 44) (v := .d (.sl 8 (List.map ePsg ((srt (l.filter (bq l s))))))) rfl (og rfl (op_move rfl rfl rfl)) ?_
        refine rg_put (d := 45) (v := .d (.fl (.int .i64 ((((srt (l.filter (bq l s)))).length : Int))))) rfl (og rfl (s_len rfl Tryz.underlying38 rfl rfl)) ?_
        refine rg_put (d := 46) (v := .d (.fl (.bool ((decide ((j : Int) < (((srt (l.filter (bq l s)))).length : Int))))))) rfl (og rfl (op_bin rfl rfl rfl (b_lss _ _ _ _) rfl)) ?_
        refine rg_done rfl ?_
        refine a_cond rfl (fun h11 => ?_) (fun h11 => ?_)
        · skip
          have h12 := t_dec h11
          refine a_skip ?_
          show A _ _ _ _ _ _ _
          refine a_seq ?_
          refine a_block ?_
          refine a_seq ?_
          refine a_rseq ?_
          refine rg_put (d := 49) (v := .d (.sl 8 (List.map ePsg ((srt (l.filter (bq l s))))))) rfl (og rfl (op_move rfl rfl rfl)) ?_
          refine rg_put (d := 50) (v := .d (.fl (.int .i64 (j : Int)))) rfl (og rfl (op_move rfl rfl rfl)) ?_
          refine rg_put (d := 51) (v := .el ((ePsg ((ix ((srt (l.filter (bq l s)))) j))))) rfl (og rfl (s_index rfl Tryz.underlying38 ti24 rfl rfl (by omega) (row_at (by omega)) rfl)) ?_
          refine rg_put (d := 52) (v := .el ((List.drop 3 ((ePsg ((ix ((srt (l.filter (bq l s)))) j))))))) rfl (og rfl (of_eff (s_field_el rfl Tryz.underlying24 rfl ti9 rfl rfl rfl) rfl)) ?_
          refine rg_put (d := 53) (v := .d (.fl (.string (((ix ((srt (l.filter (bq l s)))) j)).tag)))) rfl (og rfl (op_load_el rfl Tryz.underlying9 rfl rfl rfl rfl)) ?_
          refine rg_put (d := 54) (v := .d (.fl (.bool ((!(sEq (((ix ((srt (l.filter (bq l s)))) j)).tag) (⟨#[]⟩))))))) rfl (og rfl (op_bin rfl rfl rfl (b_sne _ _ _) rfl)) ?_
          refine rg_put (d := 55) (v := .d (.fl (.bool ((!(sEq (((ix ((srt (l.filter (bq l s)))) j)).tag) (⟨#[]⟩))))))) rfl (og rfl (op_move rfl rfl rfl)) ?_
          rcases fot ((!(sEq (((ix ((srt (l.filter (bq l s)))) j)).tag) (⟨#[]⟩)))) with h13 | h13
          · skip
            have h14 := f_not h13
            refine rg_put (d := 56) (v := .d (.fl undef)) rfl (on rfl rfl rfl h13) ?_
            refine rg_put (d := 57) (v := .d (.fl undef)) rfl (on rfl rfl rfl h13) ?_
            refine rg_put (d := 58) (v := .d (.fl undef)) rfl (on rfl rfl rfl h13) ?_
            refine rg_put (d := 59) (v := .d (.fl undef)) rfl (on rfl rfl rfl h13) ?_
            refine rg_put (d := 60) (v := .d (.fl undef)) rfl (on rfl rfl rfl h13) ?_
            refine rg_put (d := 61) (v := .d (.fl undef)) rfl (on rfl rfl rfl h13) ?_
            refine rg_put (d := 62) (v := .d (.fl undef)) rfl (on rfl rfl rfl h13) ?_
            refine rg_put (d := 63) (v := .d (.fl (.bool false))) rfl (og rfl (op_pick rfl rfl (by rw [h13]; rfl) rfl)) ?_
            refine rg_done rfl ?_
            refine a_condF rfl rfl ?_
            refine a_skip ?_
            show A _ _ _ _ _ _ _
            refine a_rseq ?_
            refine rg_put (d := 64) (v := .d (.sl 8 (List.map ePsg ((srt (l.filter (bq l s))))))) rfl (og rfl (op_move rfl rfl rfl)) ?_
            refine rg_put (d := 65) (v := .d (.fl (.int .i64 (j : Int)))) rfl (og rfl (op_move rfl rfl rfl)) ?_
            refine rg_put (d := 66) (v := .el ((ePsg ((ix ((srt (l.filter (bq l s)))) j))))) rfl (og rfl (s_index rfl Tryz.underlying38 ti24 rfl rfl (by omega) (row_at (by omega)) rfl)) ?_
            refine rg_put (d := 67) (v := .el ((List.drop 3 ((ePsg ((ix ((srt (l.filter (bq l s)))) j))))))) rfl (og rfl (of_eff (s_field_el rfl Tryz.underlying24 rfl ti9 rfl rfl rfl) rfl)) ?_
            refine rg_put (d := 68) (v := .d (.fl (.string (((ix ((srt (l.filter (bq l s)))) j)).tag)))) rfl (og rfl (op_load_el rfl Tryz.underlying9 rfl rfl rfl rfl)) ?_
            refine rg_put (d := 69) (v := .d (.fl (.string s))) rfl (og rfl (op_move rfl rfl rfl)) ?_
            refine rg_put (d := 70) (v := .d (.fl (.bool ((sEq (((ix ((srt (l.filter (bq l s)))) j)).tag) s))))) rfl (og rfl (op_bin rfl rfl rfl (b_seq _ _ _) rfl)) ?_
            refine rg_put (d := 71) (v := .d (.fl (.bool ((sEq (((ix ((srt (l.filter (bq l s)))) j)).tag) s))))) rfl (og rfl (op_move rfl rfl rfl)) ?_
            rcases fot ((sEq (((ix ((srt (l.filter (bq l s)))) j)).tag) s)) with h15 | h15
            · skip
              refine rg_put (d := 72) (v := .d (.sl 8 (List.map ePsg ((srt (l.filter (bq l s))))))) rfl (oy rfl rfl rfl h15 (op_move rfl rfl rfl)) ?_
              refine rg_put (d := 73) (v := .d (.fl (.int .i64 (j : Int)))) rfl (oy rfl rfl rfl h15 (op_move rfl rfl rfl)) ?_
              refine rg_put (d := 74) (v := .el ((ePsg ((ix ((srt (l.filter (bq l s)))) j))))) rfl (oy rfl rfl rfl h15 (s_index rfl Tryz.underlying38 ti24 rfl rfl (by omega) (row_at (by omega)) rfl)) ?_
              refine rg_put (d := 75) (v := .el ((List.drop 4 ((ePsg ((ix ((srt (l.filter (bq l s)))) j))))))) rfl (oy rfl rfl rfl h15 (of_eff (s_field_el rfl Tryz.underlying24 rfl ti9 rfl rfl rfl) rfl)) ?_
              refine rg_put (d := 76) (v := .d (.fl (.string (((ix ((srt (l.filter (bq l s)))) j)).plate)))) rfl (oy rfl rfl rfl h15 (op_load_el rfl Tryz.underlying9 rfl rfl rfl rfl)) ?_
              refine rg_put (d := 77) (v := .d (.fl (.string s))) rfl (oy rfl rfl rfl h15 (op_move rfl rfl rfl)) ?_
              refine rg_put (d := 78) (v := .d (.fl (.bool ((sEq (((ix ((srt (l.filter (bq l s)))) j)).plate) s))))) rfl (oy rfl rfl rfl h15 (op_bin rfl rfl rfl (b_seq _ _ _) rfl)) ?_
              refine rg_put (d := 79) (v := .d (.fl (.bool ((sEq (((ix ((srt (l.filter (bq l s)))) j)).plate) s))))) rfl (og rfl (op_pick rfl rfl (by rw [h15]; rfl) rfl)) ?_
              refine rg_put (d := 8) (v := .d (.fl (.bool ((sEq (((ix ((srt (l.filter (bq l s)))) j)).plate) s))))) rfl (og rfl (op_assign rfl rfl rfl)) ?_
              refine rg_done rfl ?_
              refine a_seq ?_
              refine a_rseq ?_
              refine rg_put (d := 9) (v := .d (.fl (.int .i64 0))) rfl (og rfl (op_assign rfl rfl rfl)) ?_
              refine rg_done rfl ?_
              refine a_block ?_
              refine a_loop (ι := Nat) (fun k => SS [(0, .d (.sl 8 (List.map ePsg l))), (1, .d (.fl (.string s))), (5, .d (.sl 8 (List.map ePsg ((srt (l.filter (bq l s))))))), (6, .d (.fl (.int .i64 (i : Int)))), (7, .d (.fl (.int .i64 (j : Int)))), (16, .d (.fl (.bool ((sEq s (⟨#[]⟩)))))), (24, .d (.fl (.bool ((decide ((i : Int) < (l.length : Int))))))), (46, .d (.fl (.bool ((decide ((j : Int) < (((srt (l.filter (bq l s)))).length : Int))))))), (63, .d (.fl (.bool false))), (9, .d (.fl (.int .i64 (k : Int)))), (8, .d (.fl (.bool ((okb (ix (srt (l.filter (bq l s))) j) s l k)))))] []) (fun k => k ≤ l.length) (fun k => l.length - k) 0 (by omega) (imp_forget rfl ⟨rfl, rfl, rfl, rfl, rfl, rfl, rfl, rfl, rfl, (by first | rfl | exact ci (by omega) | exact ci (by simp) | exact cd (by simp) | simp), (cd (congrArg (fun z => DV.fl (.bool z)) (show (sEq (((ix ((srt (l.filter (bq l s)))) j)).plate) s) = okb (ix (srt (l.filter (bq l s))) j) s l 0 from by simp only [okb, h1, h2, h3, h4, h11, h13, h14, h15, Bool.true_or, Bool.false_or, Bool.or_true, Bool.or_false, Bool.not_true, Bool.not_false, cond_true, cond_false, Bool.true_and, Bool.false_and, Bool.and_true, Bool.and_false] <;> rfl))), trivial⟩ trivial) (fun k hok => ?_)
              have hk := hok
              refine a_seq ?_
              refine a_rseq ?_
              refine rg_put (d := 80) (v := .d (.fl (.int .i64 (k : Int)))) rfl (og rfl (op_move rfl rfl rfl)) ?_
              refine rg_put (d := 81) (v := .d (.sl 8 (List.map ePsg l))) rfl (og rfl (op_move rfl rfl rfl)) ?_
              refine rg_put (d := 82) (v := .d (.fl (.int .i64 (l.length : Int)))) rfl (og rfl (s_len rfl Tryz.underlying38 rfl rfl)) ?_
              refine rg_put (d := 83) (v := .d (.fl (.bool ((decide ((k : Int) < (l.length : Int))))))) rfl (og rfl (op_bin rfl rfl rfl (b_lss _ _ _ _) rfl)) ?_
              refine rg_done rfl ?_
              refine a_cond rfl (fun h16 => ?_) (fun h16 => ?_)
              · skip
                have h17 := t_dec h16
                refine a_skip ?_
                show A _ _ _ _ _ _ _
                refine a_seq ?_
                refine a_block ?_
                refine a_draw (by kernel_rfl) ?_
                refine dr_put (d := 86) (v := .d (.fl (.bool ((okb (ix (srt (l.filter (bq l s))) j) s l k))))) rfl (og rfl (op_move rfl rfl rfl)) ?_
                refine dr_put (d := 87) (v := .d (.fl (.bool ((okb (ix (srt (l.filter (bq l s))) j) s l k))))) rfl (og rfl (op_move rfl rfl rfl)) ?_
                rcases fot ((okb (ix (srt (l.filter (bq l s))) j) s l k)) with h18 | h18
                · skip
                  refine dr_put (d := 88) (v := .d (.sl 8 (List.map ePsg l))) rfl (oy rfl rfl rfl h18 (op_move rfl rfl rfl)) ?_
                  refine dr_put (d := 89) (v := .d (.fl (.int .i64 (k : Int)))) rfl (oy rfl rfl rfl h18 (op_move rfl rfl rfl)) ?_
                  refine dr_put (d := 90) (v := .el ((ePsg (ix l k)))) rfl (oy rfl rfl rfl h18 (s_index rfl Tryz.underlying38 ti24 rfl rfl (by omega) (row_at (by omega)) rfl)) ?_
                  refine dr_put (d := 91) (v := .el ((List.drop 3 ((ePsg (ix l k)))))) rfl (oy rfl rfl rfl h18 (of_eff (s_field_el rfl Tryz.underlying24 rfl ti9 rfl rfl rfl) rfl)) ?_
                  refine dr_put (d := 92) (v := .d (.fl (.string ((ix l k).tag)))) rfl (oy rfl rfl rfl h18 (op_load_el rfl Tryz.underlying9 rfl rfl rfl rfl)) ?_
                  refine dr_put (d := 93) (v := .d (.fl (.string s))) rfl (oy rfl rfl rfl h18 (op_move rfl rfl rfl)) ?_
                  refine dr_put (d := 94) (v := .d (.fl (.bool ((sEq ((ix l k).tag) s))))) rfl (oy rfl rfl rfl h18 (op_bin rfl rfl rfl (b_seq _ _ _) rfl)) ?_
                  refine dr_put (d := 95) (v := .d (.fl (.bool ((sEq ((ix l k).tag) s))))) rfl (oy rfl rfl rfl h18 (op_move rfl rfl rfl)) ?_
                  rcases fot ((sEq ((ix l k).tag) s)) with h19 | h19
                  · skip
                    refine dr_put (d := 96) (v := .d (.fl undef)) rfl (on rfl rfl rfl h19) ?_
                    refine dr_put (d := 97) (v := .d (.fl undef)) rfl (on rfl rfl rfl h19) ?_
                    refine dr_put (d := 98) (v := .d (.fl undef)) rfl (on rfl rfl rfl h19) ?_
                    refine dr_put (d := 99) (v := .d (.fl undef)) rfl (on rfl rfl rfl h19) ?_
                    refine dr_put (d := 100) (v := .d (.fl undef)) rfl (on rfl rfl rfl h19) ?_
                    refine dr_put (d := 101) (v := .d (.fl undef)) rfl (on rfl rfl rfl h19) ?_
                    refine dr_put (d := 102) (v := .d (.fl undef)) rfl (on rfl rfl rfl h19) ?_
                    refine dr_put (d := 103) (v := .d (.fl undef)) rfl (on rfl rfl rfl h19) ?_
                    refine dr_put (d := 104) (v := .d (.fl undef)) rfl (on rfl rfl rfl h19) ?_
                    refine dr_put (d := 105) (v := .d (.fl undef)) rfl (on rfl rfl rfl h19) ?_
                    refine dr_put (d := 106) (v := .d (.fl undef)) rfl (on rfl rfl rfl h19) ?_
                    refine dr_put (d := 107) (v := .d (.fl (.bool false))) rfl (oy rfl rfl rfl h18 (op_pick rfl rfl (by rw [h19]; rfl) rfl)) ?_
                    refine dr_put (d := 108) (v := .d (.fl (.bool false))) rfl (og rfl (op_pick rfl rfl (by rw [h18]; rfl) rfl)) ?_
                    refine dr_put (d := 8) (v := .d (.fl (.bool false))) rfl (og rfl (op_assign rfl rfl rfl)) ?_
                    refine dr_done rfl (sepB_of [0, 1, 3, 3, 15, 31, 63, 3, 255, 511, 1023, 1023, 4095, 8191, 16383, 1023, 1023, 99327, 230399, 492543, 1048575, 2097151, 4194303, 8388607] (by kernel_rfl)) (by kernel_rfl) ?_
                    show A _ _ _ _ _ _ _
                    refine a_region ?_
                    refine rg_put (d := 84) (v := .d (.fl (.int .i64 (k : Int)))) rfl (og rfl (op_move rfl rfl rfl)) ?_
                    refine rg_put (d := 85) (v := .d (.fl (.int .i64 (((k : Int) + 1))))) rfl (og rfl (op_bin rfl rfl rfl (fun x y w => b_add64 _ _ _ x y w (by omega)) rfl)) ?_
                    refine rg_put (d := 9) (v := .d (.fl (.int .i64 (((k : Int) + 1))))) rfl (og rfl (op_assign rfl rfl rfl)) ?_
                    refine rg_done rfl ?_
                    have hst : false = okb (ix (srt (l.filter (bq l s))) j) s l (k + 1) := by simp only [okb, h1, h2, h3, h4, h11, h13, h14, h15, h16, h18, h19, Bool.true_or, Bool.false_or, Bool.or_true, Bool.or_false, Bool.not_true, Bool.not_false, cond_true, cond_false, Bool.true_and, Bool.false_and, Bool.and_true, Bool.and_false] <;> rfl
                    show ∃ i, _ ∧ _ ∧ Imp _ _ _ _ _
                    refine ⟨k + 1, (by omega), by omega, imp_forget rfl ⟨rfl, rfl, rfl, rfl, rfl, rfl, rfl, rfl, rfl, (by first | rfl | exact ci (by omega) | exact ci (by simp) | exact cd (by simp) | simp), (cd (congrArg (fun z => DV.fl (.bool z)) hst)), trivial⟩ trivial⟩
                  · skip
                    refine dr_put (d := 96) (v := .d (.sl 8 (List.map ePsg l))) rfl (oy rfl rfl rfl h19 (op_move rfl rfl rfl)) ?_
                    refine dr_put (d := 97) (v := .d (.fl (.int .i64 (k : Int)))) rfl (oy rfl rfl rfl h19 (op_move rfl rfl rfl)) ?_
                    refine dr_put (d := 98) (v := .el ((ePsg (ix l k)))) rfl (oy rfl rfl rfl h19 (s_index rfl Tryz.underlying38 ti24 rfl rfl (by omega) (row_at (by omega)) rfl)) ?_
                    refine dr_put (d := 99) (v := .el ((List.drop 4 ((ePsg (ix l k)))))) rfl (oy rfl rfl rfl h19 (of_eff (s_field_el rfl Tryz.underlying24 rfl ti9 rfl rfl rfl) rfl)) ?_
                    refine dr_put (d := 100) (v := .d (.fl (.string ((ix l k).plate)))) rfl (oy rfl rfl rfl h19 (op_load_el rfl Tryz.underlying9 rfl rfl rfl rfl)) ?_
                    refine dr_put (d := 101) (v := .d (.sl 8 (List.map ePsg ((srt (l.filter (bq l s))))))) rfl (oy rfl rfl rfl h19 (op_move rfl rfl rfl)) ?_
                    refine dr_put (d := 102) (v := .d (.fl (.int .i64 (j : Int)))) rfl (oy rfl rfl rfl h19 (op_move rfl rfl rfl)) ?_
                    refine dr_put (d := 103) (v := .el ((ePsg ((ix ((srt (l.filter (bq l s)))) j))))) rfl (oy rfl rfl rfl h19 (s_index rfl Tryz.underlying38 ti24 rfl rfl (by omega) (row_at (by omega)) rfl)) ?_
                    refine dr_put (d := 104) (v := .el ((List.drop 4 ((ePsg ((ix ((srt (l.filter (bq l s)))) j))))))) rfl (oy rfl rfl rfl h19 (of_eff (s_field_el rfl Tryz.underlying24 rfl ti9 rfl rfl rfl) rfl)) ?_
                    refine dr_put (d := 105) (v := .d (.fl (.string (((ix ((srt (l.filter (bq l s)))) j)).plate)))) rfl (oy rfl rfl rfl h19 (op_load_el rfl Tryz.underlying9 rfl rfl rfl rfl)) ?_
                    refine dr_put (d := 106) (v := .d (.fl (.bool ((sEq ((ix l k).plate) (((ix ((srt (l.filter (bq l s)))) j)).plate)))))) rfl (oy rfl rfl rfl h19 (op_bin rfl rfl rfl (b_seq _ _ _) rfl)) ?_
                    refine dr_put (d := 107) (v := .d (.fl (.bool ((sEq ((ix l k).plate) (((ix ((srt (l.filter (bq l s)))) j)).plate)))))) rfl (oy rfl rfl rfl h18 (op_pick rfl rfl (by rw [h19]; rfl) rfl)) ?_
                    refine dr_put (d := 108) (v := .d (.fl (.bool ((sEq ((ix l k).plate) (((ix ((srt (l.filter (bq l s)))) j)).plate)))))) rfl (og rfl (op_pick rfl rfl (by rw [h18]; rfl) rfl)) ?_
                    refine dr_put (d := 8) (v := .d (.fl (.bool ((sEq ((ix l k).plate) (((ix ((srt (l.filter (bq l s)))) j)).plate)))))) rfl (og rfl (op_assign rfl rfl rfl)) ?_
                    refine dr_done rfl (sepB_of [0, 1, 3, 3, 15, 31, 63, 3, 255, 511, 1023, 1023, 4095, 8191, 16383, 1023, 1023, 99327, 230399, 492543, 1048575, 2097151, 4194303, 8388607] (by kernel_rfl)) (by kernel_rfl) ?_
                    show A _ _ _ _ _ _ _
                    refine a_region ?_
                    refine rg_put (d := 84) (v := .d (.fl (.int .i64 (k : Int)))) rfl (og rfl (op_move rfl rfl rfl)) ?_
                    refine rg_put (d := 85) (v := .d (.fl (.int .i64 (((k : Int) + 1))))) rfl (og rfl (op_bin rfl rfl rfl (fun x y w => b_add64 _ _ _ x y w (by omega)) rfl)) ?_
                    refine rg_put (d := 9) (v := .d (.fl (.int .i64 (((k : Int) + 1))))) rfl (og rfl (op_assign rfl rfl rfl)) ?_
                    refine rg_done rfl ?_
                    have hst : (sEq ((ix l k).plate) (((ix ((srt (l.filter (bq l s)))) j)).plate)) = okb (ix (srt (l.filter (bq l s))) j) s l (k + 1) := by simp only [okb, h1, h2, h3, h4, h11, h13, h14, h15, h16, h18, h19, Bool.true_or, Bool.false_or, Bool.or_true, Bool.or_false, Bool.not_true, Bool.not_false, cond_true, cond_false, Bool.true_and, Bool.false_and, Bool.and_true, Bool.and_false] <;> rfl
                    show ∃ i, _ ∧ _ ∧ Imp _ _ _ _ _
                    refine ⟨k + 1, (by omega), by omega, imp_forget rfl ⟨rfl, rfl, rfl, rfl, rfl, rfl, rfl, rfl, rfl, (by first | rfl | exact ci (by omega) | exact ci (by simp) | exact cd (by simp) | simp), (cd (congrArg (fun z => DV.fl (.bool z)) hst)), trivial⟩ trivial⟩
                · skip
                  refine dr_put (d := 88) (v := .d (.fl undef)) rfl (on rfl rfl rfl h18) ?_
                  refine dr_put (d := 89) (v := .d (.fl undef)) rfl (on rfl rfl rfl h18) ?_
                  refine dr_put (d := 90) (v := .d (.fl undef)) rfl (on rfl rfl rfl h18) ?_
                  refine dr_put (d := 91) (v := .d (.fl undef)) rfl (on rfl rfl rfl h18) ?_
                  refine dr_put (d := 92) (v := .d (.fl undef)) rfl (on rfl rfl rfl h18) ?_
                  refine dr_put (d := 93) (v := .d (.fl undef)) rfl (on rfl rfl rfl h18) ?_
                  refine dr_put (d := 94) (v := .d (.fl undef)) rfl (on rfl rfl rfl h18) ?_
                  refine dr_put (d := 95) (v := .d (.fl undef)) rfl (on rfl rfl rfl h18) ?_
                  refine dr_put (d := 96) (v := .d (.fl undef)) rfl (ou rfl rfl rfl) ?_
                  refine dr_put (d := 97) (v := .d (.fl undef)) rfl (ou rfl rfl rfl) ?_
                  refine dr_put (d := 98) (v := .d (.fl undef)) rfl (ou rfl rfl rfl) ?_
                  refine dr_put (d := 99) (v := .d (.fl undef)) rfl (ou rfl rfl rfl) ?_
                  refine dr_put (d := 100) (v := .d (.fl undef)) rfl (ou rfl rfl rfl) ?_
                  refine dr_put (d := 101) (v := .d (.fl undef)) rfl (ou rfl rfl rfl) ?_
                  refine dr_put (d := 102) (v := .d (.fl undef)) rfl (ou rfl rfl rfl) ?_
                  refine dr_put (d := 103) (v := .d (.fl undef)) rfl (ou rfl rfl rfl) ?_
                  refine dr_put (d := 104) (v := .d (.fl undef)) rfl (ou rfl rfl rfl) ?_
                  refine dr_put (d := 105) (v := .d (.fl undef)) rfl (ou rfl rfl rfl) ?_
                  refine dr_put (d := 106) (v := .d (.fl undef)) rfl (ou rfl rfl rfl) ?_
                  refine dr_put (d := 107) (v := .d (.fl undef)) rfl (on rfl rfl rfl h18) ?_
                  refine dr_put (d := 108) (v := .d (.fl (.bool true))) rfl (og rfl (op_pick rfl rfl (by rw [h18]; rfl) rfl)) ?_
                  refine dr_put (d := 8) (v := .d (.fl (.bool true))) rfl (og rfl (op_assign rfl rfl rfl)) ?_
                  refine dr_done rfl (sepB_of [0, 1, 3, 3, 15, 31, 63, 3, 255, 511, 1023, 1023, 4095, 8191, 16383, 1023, 1023, 99327, 230399, 492543, 1048575, 2097151, 4194303, 8388607] (by kernel_rfl)) (by kernel_rfl) ?_
                  show A _ _ _ _ _ _ _
                  refine a_region ?_
                  refine rg_put (d := 84) (v := .d (.fl (.int .i64 (k : Int)))) rfl (og rfl (op_move rfl rfl rfl)) ?_
                  refine rg_put (d := 85) (v := .d (.fl (.int .i64 (((k : Int) + 1))))) rfl (og rfl (op_bin rfl rfl rfl (fun x y w => b_add64 _ _ _ x y w (by omega)) rfl)) ?_
                  refine rg_put (d := 9) (v := .d (.fl (.int .i64 (((k : Int) + 1))))) rfl (og rfl (op_assign rfl rfl rfl)) ?_
                  refine rg_done rfl ?_
                  have hst : true = okb (ix (srt (l.filter (bq l s))) j) s l (k + 1) := by simp only [okb, h1, h2, h3, h4, h11, h13, h14, h15, h16, h18, Bool.true_or, Bool.false_or, Bool.or_true, Bool.or_false, Bool.not_true, Bool.not_false, cond_true, cond_false, Bool.true_and, Bool.false_and, Bool.and_true, Bool.and_false] <;> rfl
                  show ∃ i, _ ∧ _ ∧ Imp _ _ _ _ _
                  refine ⟨k + 1, (by omega), by omega, imp_forget rfl ⟨rfl, rfl, rfl, rfl, rfl, rfl, rfl, rfl, rfl, (by first | rfl | exact ci (by omega) | exact ci (by simp) | exact cd (by simp) | simp), (cd (congrArg (fun z => DV.fl (.bool z)) hst)), trivial⟩ trivial⟩
              · skip
                have h20 := f_dec h16
                refine a_exit ?_
                show A _ _ _ _ _ _ _
                refine a_rseq ?_
                have hkl : k = l.length := by omega
                rw [show (okb (ix (srt (l.filter (bq l s))) j) s l k) = true from (by rw [hkl]; exact okb_all hs (hun _ (ix_mem (by omega))))]
                refine rg_put (d := 109) (v := .d (.fl (.bool true))) rfl (og rfl (op_move rfl rfl rfl)) ?_
                refine rg_put (d := 110) (v := .d (.fl (.bool (!true)))) rfl (og rfl (op_un rfl rfl (u_not _) rfl)) ?_
                refine rg_done rfl ?_
                refine a_condF rfl rfl ?_
                refine a_skip ?_
                show A _ _ _ _ _ _ _
                refine a_region ?_
                refine rg_put (d := 47) (v := .d (.fl (.int .i64 (j : Int)))) rfl (og rfl (op_move rfl rfl rfl)) ?_
                refine rg_put (d := 48) (v := .d (.fl (.int .i64 (((j : Int) + 1))))) rfl (og rfl (op_bin rfl rfl rfl (fun x y w => b_add64 _ _ _ x y w (by omega)) rfl)) ?_
                refine rg_put (d := 7) (v := .d (.fl (.int .i64 (((j : Int) + 1))))) rfl (og rfl (op_assign rfl rfl rfl)) ?_
                refine rg_done rfl ?_
                show ∃ i, _ ∧ _ ∧ Imp _ _ _ _ _
                refine ⟨j + 1, (by omega), by omega, imp_forget rfl ⟨rfl, rfl, rfl, rfl, rfl, rfl, (by first | rfl | exact ci (by omega) | exact ci (by simp) | exact cd (by simp) | simp), trivial⟩ trivial⟩
            · skip
              refine rg_put (d := 72) (v := .d (.fl undef)) rfl (on rfl rfl rfl h15) ?_
              refine rg_put (d := 73) (v := .d (.fl undef)) rfl (on rfl rfl rfl h15) ?_
              refine rg_put (d := 74) (v := .d (.fl undef)) rfl (on rfl rfl rfl h15) ?_
              refine rg_put (d := 75) (v := .d (.fl undef)) rfl (on rfl rfl rfl h15) ?_
              refine rg_put (d := 76) (v := .d (.fl undef)) rfl (on rfl rfl rfl h15) ?_
              refine rg_put (d := 77) (v := .d (.fl undef)) rfl (on rfl rfl rfl h15) ?_
              refine rg_put (d := 78) (v := .d (.fl undef)) rfl (on rfl rfl rfl h15) ?_
              refine rg_put (d := 79) (v := .d (.fl (.bool true))) rfl (og rfl (op_pick rfl rfl (by rw [h15]; rfl) rfl)) ?_
              refine rg_put (d := 8) (v := .d (.fl (.bool true))) rfl (og rfl (op_assign rfl rfl rfl)) ?_
              refine rg_done rfl ?_
              refine a_seq ?_
              refine a_rseq ?_
              refine rg_put (d := 9) (v := .d (.fl (.int .i64 0))) rfl (og rfl (op_assign rfl rfl rfl)) ?_
              refine rg_done rfl ?_
              refine a_block ?_
              refine a_loop (ι := Nat) (fun k => SS [(0, .d (.sl 8 (List.map ePsg l))), (1, .d (.fl (.string s))), (5, .d (.sl 8 (List.map ePsg ((srt (l.filter (bq l s))))))), (6, .d (.fl (.int .i64 (i : Int)))), (7, .d (.fl (.int .i64 (j : Int)))), (16, .d (.fl (.bool ((sEq s (⟨#[]⟩)))))), (24, .d (.fl (.bool ((decide ((i : Int) < (l.length : Int))))))), (46, .d (.fl (.bool ((decide ((j : Int) < (((srt (l.filter (bq l s)))).length : Int))))))), (63, .d (.fl (.bool false))), (9, .d (.fl (.int .i64 (k : Int)))), (8, .d (.fl (.bool ((okb (ix (srt (l.filter (bq l s))) j) s l k)))))] []) (fun k => k ≤ l.length) (fun k => l.length - k) 0 (by omega) (imp_forget rfl ⟨rfl, rfl, rfl, rfl, rfl, rfl, rfl, rfl, rfl, (by first | rfl | exact ci (by omega) | exact ci (by simp) | exact cd (by simp) | simp), (cd (congrArg (fun z => DV.fl (.bool z)) (show true = okb (ix (srt (l.filter (bq l s))) j) s l 0 from by simp only [okb, h1, h2, h3, h4, h11, h13, h14, h15, Bool.true_or, Bool.false_or, Bool.or_true, Bool.or_false, Bool.not_true, Bool.not_false, cond_true, cond_false, Bool.true_and, Bool.false_and, Bool.and_true, Bool.and_false] <;> rfl))), trivial⟩ trivial) (fun k hok => ?_)
              have hk := hok
              refine a_seq ?_
              refine a_rseq ?_
              refine rg_put (d := 80) (v := .d (.fl (.int .i64 (k : Int)))) rfl (og rfl (op_move rfl rfl rfl)) ?_
              refine rg_put (d := 81) (v := .d (.sl 8 (List.map ePsg l))) rfl (og rfl (op_move rfl rfl rfl)) ?_
              refine rg_put (d := 82) (v := .d (.fl (.int .i64 (l.length : Int)))) rfl (og rfl (s_len rfl Tryz.underlying38 rfl rfl)) ?_
              refine rg_put (d := 83) (v := .d (.fl (.bool ((decide ((k : Int) < (l.length : Int))))))) rfl (og rfl (op_bin rfl rfl rfl (b_lss _ _ _ _) rfl)) ?_
              refine rg_done rfl ?_
              refine a_cond rfl (fun h21 => ?_) (fun h21 => ?_)
              · skip
                have h22 := t_dec h21
                refine a_skip ?_
                show A _ _ _ _ _ _ _
                refine a_seq ?_
                refine a_block ?_
                refine a_draw (by kernel_rfl) ?_
                refine dr_put (d := 86) (v := .d (.fl (.bool ((okb (ix (srt (l.filter (bq l s))) j) s l k))))) rfl (og rfl (op_move rfl rfl rfl)) ?_
                refine dr_put (d := 87) (v := .d (.fl (.bool ((okb (ix (srt (l.filter (bq l s))) j) s l k))))) rfl (og rfl (op_move rfl rfl rfl)) ?_
                rcases fot ((okb (ix (srt (l.filter (bq l s))) j) s l k)) with h23 | h23
                · skip
                  refine dr_put (d := 88) (v := .d (.sl 8 (List.map ePsg l))) rfl (oy rfl rfl rfl h23 (op_move rfl rfl rfl)) ?_
                  refine dr_put (d := 89) (v := .d (.fl (.int .i64 (k : Int)))) rfl (oy rfl rfl rfl h23 (op_move rfl rfl rfl)) ?_
                  refine dr_put (d := 90) (v := .el ((ePsg (ix l k)))) rfl (oy rfl rfl rfl h23 (s_index rfl Tryz.underlying38 ti24 rfl rfl (by omega) (row_at (by omega)) rfl)) ?_
                  refine dr_put (d := 91) (v := .el ((List.drop 3 ((ePsg (ix l k)))))) rfl (oy rfl rfl rfl h23 (of_eff (s_field_el rfl Tryz.underlying24 rfl ti9 rfl rfl rfl) rfl)) ?_
                  refine dr_put (d := 92) (v := .d (.fl (.string ((ix l k).tag)))) rfl (oy rfl rfl rfl h23 (op_load_el rfl Tryz.underlying9 rfl rfl rfl rfl)) ?_
                  refine dr_put (d := 93) (v := .d (.fl (.string s))) rfl (oy rfl rfl rfl h23 (op_move rfl rfl rfl)) ?_
                  refine dr_put (d := 94) (v := .d (.fl (.bool ((sEq ((ix l k).tag) s))))) rfl (oy rfl rfl rfl h23 (op_bin rfl rfl rfl (b_seq _ _ _) rfl)) ?_
                  refine dr_put (d := 95) (v := .d (.fl (.bool ((sEq ((ix l k).tag) s))))) rfl (oy rfl rfl rfl h23 (op_move rfl rfl rfl)) ?_
                  rcases fot ((sEq ((ix l k).tag) s)) with h24 | h24
                  · skip
                    refine dr_put (d := 96) (v := .d (.fl undef)) rfl (on rfl rfl rfl h24) ?_
                    refine dr_put (d := 97) (v := .d (.fl undef)) rfl (on rfl rfl rfl h24) ?_
                    refine dr_put (d := 98) (v := .d (.fl undef)) rfl (on rfl rfl rfl h24) ?_
                    refine dr_put (d := 99) (v := .d (.fl undef)) rfl (on rfl rfl rfl h24) ?_
                    refine dr_put (d := 100) (v := .d (.fl undef)) rfl (on rfl rfl rfl h24) ?_
                    refine dr_put (d := 101) (v := .d (.fl undef)) rfl (on rfl rfl rfl h24) ?_
                    refine dr_put (d := 102) (v := .d (.fl undef)) rfl (on rfl rfl rfl h24) ?_
                    refine dr_put (d := 103) (v := .d (.fl undef)) rfl (on rfl rfl rfl h24) ?_
                    refine dr_put (d := 104) (v := .d (.fl undef)) rfl (on rfl rfl rfl h24) ?_
                    refine dr_put (d := 105) (v := .d (.fl undef)) rfl (on rfl rfl rfl h24) ?_
                    refine dr_put (d := 106) (v := .d (.fl undef)) rfl (on rfl rfl rfl h24) ?_
                    refine dr_put (d := 107) (v := .d (.fl (.bool false))) rfl (oy rfl rfl rfl h23 (op_pick rfl rfl (by rw [h24]; rfl) rfl)) ?_
                    refine dr_put (d := 108) (v := .d (.fl (.bool false))) rfl (og rfl (op_pick rfl rfl (by rw [h23]; rfl) rfl)) ?_
                    refine dr_put (d := 8) (v := .d (.fl (.bool false))) rfl (og rfl (op_assign rfl rfl rfl)) ?_
                    refine dr_done rfl (sepB_of [0, 1, 3, 3, 15, 31, 63, 3, 255, 511, 1023, 1023, 4095, 8191, 16383, 1023, 1023, 99327, 230399, 492543, 1048575, 2097151, 4194303, 8388607] (by kernel_rfl)) (by kernel_rfl) ?_
                    show A _ _ _ _ _ _ _
                    refine a_region ?_
                    refine rg_put (d := 84) (v := .d (.fl (.int .i64 (k : Int)))) rfl (og rfl (op_move rfl rfl rfl)) ?_
                    refine rg_put (d := 85) (v := .d (.fl (.int .i64 (((k : Int) + 1))))) rfl (og rfl (op_bin rfl rfl rfl (fun x y w => b_add64 _ _ _ x y w (by omega)) rfl)) ?_
                    refine rg_put (d := 9) (v := .d (.fl (.int .i64 (((k : Int) + 1))))) rfl (og rfl (op_assign rfl rfl rfl)) ?_
                    refine rg_done rfl ?_
                    have hst : false = okb (ix (srt (l.filter (bq l s))) j) s l (k + 1) := by simp only [okb, h1, h2, h3, h4, h11, h13, h14, h15, h21, h23, h24, Bool.true_or, Bool.false_or, Bool.or_true, Bool.or_false, Bool.not_true, Bool.not_false, cond_true, cond_false, Bool.true_and, Bool.false_and, Bool.and_true, Bool.and_false] <;> rfl
                    show ∃ i, _ ∧ _ ∧ Imp _ _ _ _ _
                    refine ⟨k + 1, (by omega), by omega, imp_forget rfl ⟨rfl, rfl, rfl, rfl, rfl, rfl, rfl, rfl, rfl, (by first | rfl | exact ci (by omega) | exact ci (by simp) | exact cd (by simp) | simp), (cd (congrArg (fun z => DV.fl (.bool z)) hst)), trivial⟩ trivial⟩
                  · skip
                    refine dr_put (d := 96) (v := .d (.sl 8 (List.map ePsg l))) rfl (oy rfl rfl rfl h24 (op_move rfl rfl rfl)) ?_
                    refine dr_put (d := 97) (v := .d (.fl (.int .i64 (k : Int)))) rfl (oy rfl rfl rfl h24 (op_move rfl rfl rfl)) ?_
                    refine dr_put (d := 98) (v := .el ((ePsg (ix l k)))) rfl (oy rfl rfl rfl h24 (s_index rfl Tryz.underlying38 ti24 rfl rfl (by omega) (row_at (by omega)) rfl)) ?_
                    refine dr_put (d := 99) (v := .el ((List.drop 4 ((ePsg (ix l k)))))) rfl (oy rfl rfl rfl h24 (of_eff (s_field_el rfl Tryz.underlying24 rfl ti9 rfl rfl rfl) rfl)) ?_
                    refine dr_put (d := 100) (v := .d (.fl (.string ((ix l k).plate)))) rfl (oy rfl rfl rfl h24 (op_load_el rfl Tryz.underlying9 rfl rfl rfl rfl)) ?_
                    refine dr_put (d := 101) (v := .d (.sl 8 (List.map ePsg ((srt (l.filter (bq l s))))))) rfl (oy rfl rfl rfl h24 (op_move rfl rfl rfl)) ?_
                    refine dr_put (d := 102) (v := .d (.fl (.int .i64 (j : Int)))) rfl (oy rfl rfl rfl h24 (op_move rfl rfl rfl)) ?_
                    refine dr_put (d := 103) (v := .el ((ePsg ((ix ((srt (l.filter (bq l s)))) j))))) rfl (oy rfl rfl rfl h24 (s_index rfl Tryz.underlying38 ti24 rfl rfl (by omega) (row_at (by omega)) rfl)) ?_
                    refine dr_put (d := 104) (v := .el ((List.drop 4 ((ePsg ((ix ((srt (l.filter (bq l s)))) j))))))) rfl (oy rfl rfl rfl h24 (of_eff (s_field_el rfl Tryz.underlying24 rfl ti9 rfl rfl rfl) rfl)) ?_
                    refine dr_put (d := 105) (v := .d (.fl (.string (((ix ((srt (l.filter (bq l s)))) j)).plate)))) rfl (oy rfl rfl rfl h24 (op_load_el rfl Tryz.underlying9 rfl rfl rfl rfl)) ?_
                    refine dr_put (d := 106) (v := .d (.fl (.bool ((sEq ((ix l k).plate) (((ix ((srt (l.filter (bq l s)))) j)).plate)))))) rfl (oy rfl rfl rfl h24 (op_bin rfl rfl rfl (b_seq _ _ _) rfl)) ?_
                    refine dr_put (d := 107) (v := .d (.fl (.bool ((sEq ((ix l k).plate) (((ix ((srt (l.filter (bq l s)))) j)).plate)))))) rfl (oy rfl rfl rfl h23 (op_pick rfl rfl (by rw [h24]; rfl) rfl)) ?_
                    refine dr_put (d := 108) (v := .d (.fl (.bool ((sEq ((ix l k).plate) (((ix ((srt (l.filter (bq l s)))) j)).plate)))))) rfl (og rfl (op_pick rfl rfl (by rw [h23]; rfl) rfl)) ?_
                    refine dr_put (d := 8) (v := .d (.fl (.bool ((sEq ((ix l k).plate) (((ix ((srt (l.filter (bq l s)))) j)).plate)))))) rfl (og rfl (op_assign rfl rfl rfl)) ?_
                    refine dr_done rfl (sepB_of [0, 1, 3, 3, 15, 31, 63, 3, 255, 511, 1023, 1023, 4095, 8191, 16383, 1023, 1023, 99327, 230399, 492543, 1048575, 2097151, 4194303, 8388607] (by kernel_rfl)) (by kernel_rfl) ?_
                    show A _ _ _ _ _ _ _
                    refine a_region ?_
                    refine rg_put (d := 84) (v := .d (.fl (.int .i64 (k : Int)))) rfl (og rfl (op_move rfl rfl rfl)) ?_
                    refine rg_put (d := 85) (v := .d (.fl (.int .i64 (((k : Int) + 1))))) rfl (og rfl (op_bin rfl rfl rfl (fun x y w => b_add64 _ _ _ x y w (by omega)) rfl)) ?_
                    refine rg_put (d := 9) (v := .d (.fl (.int .i64 (((k : Int) + 1))))) rfl (og rfl (op_assign rfl rfl rfl)) ?_
                    refine rg_done rfl ?_
                    have hst : (sEq ((ix l k).plate) (((ix ((srt (l.filter (bq l s)))) j)).plate)) = okb (ix (srt (l.filter (bq l s))) j) s l (k + 1) := by simp only [okb, h1, h2, h3, h4, h11, h13, h14, h15, h21, h23, h24, Bool.true_or, Bool.false_or, Bool.or_true, Bool.or_false, Bool.not_true, Bool.not_false, cond_true, cond_false, Bool.true_and, Bool.false_and, Bool.and_true, Bool.and_false] <;> rfl
                    show ∃ i, _ ∧ _ ∧ Imp _ _ _ _ _
                    refine ⟨k + 1, (by omega), by omega, imp_forget rfl ⟨rfl, rfl, rfl, rfl, rfl, rfl, rfl, rfl, rfl, (by first | rfl | exact ci (by omega) | exact ci (by simp) | exact cd (by simp) | simp), (cd (congrArg (fun z => DV.fl (.bool z)) hst)), trivial⟩ trivial⟩
                · skip
                  refine dr_put (d := 88) (v := .d (.fl undef)) rfl (on rfl rfl rfl h23) ?_
                  refine dr_put (d := 89) (v := .d (.fl undef)) rfl (on rfl rfl rfl h23) ?_
                  refine dr_put (d := 90) (v := .d (.fl undef)) rfl (on rfl rfl rfl h23) ?_
                  refine dr_put (d := 91) (v := .d (.fl undef)) rfl (on rfl rfl rfl h23) ?_
                  refine dr_put (d := 92) (v := .d (.fl undef)) rfl (on rfl rfl rfl h23) ?_
                  refine dr_put (d := 93) (v := .d (.fl undef)) rfl (on rfl rfl rfl h23) ?_
                  refine dr_put (d := 94) (v := .d (.fl undef)) rfl (on rfl rfl rfl h23) ?_
                  refine dr_put (d := 95) (v := .d (.fl undef)) rfl (on rfl rfl rfl h23) ?_
                  refine dr_put (d := 96) (v := .d (.fl undef)) rfl (ou rfl rfl rfl) ?_
                  refine dr_put (d := 97) (v := .d (.fl undef)) rfl (ou rfl rfl rfl) ?_
                  refine dr_put (d := 98) (v := .d (.fl undef)) rfl (ou rfl rfl rfl) ?_
                  refine dr_put (d := 99) (v := .d (.fl undef)) rfl (ou rfl rfl rfl) ?_
                  refine dr_put (d := 100) (v := .d (.fl undef)) rfl (ou rfl rfl rfl) ?_
                  refine dr_put (d := 101) (v := .d (.fl undef)) rfl (ou rfl rfl rfl) ?_
                  refine dr_put (d := 102) (v := .d (.fl undef)) rfl (ou rfl rfl rfl) ?_
                  refine dr_put (d := 103) (v := .d (.fl undef)) rfl (ou rfl rfl rfl) ?_
                  refine dr_put (d := 104) (v := .d (.fl undef)) rfl (ou rfl rfl rfl) ?_
                  refine dr_put (d := 105) (v := .d (.fl undef)) rfl (ou rfl rfl rfl) ?_
                  refine dr_put (d := 106) (v := .d (.fl undef)) rfl (ou rfl rfl rfl) ?_
                  refine dr_put (d := 107) (v := .d (.fl undef)) rfl (on rfl rfl rfl h23) ?_
                  refine dr_put (d := 108) (v := .d (.fl (.bool true))) rfl (og rfl (op_pick rfl rfl (by rw [h23]; rfl) rfl)) ?_
                  refine dr_put (d := 8) (v := .d (.fl (.bool true))) rfl (og rfl (op_assign rfl rfl rfl)) ?_
                  refine dr_done rfl (sepB_of [0, 1, 3, 3, 15, 31, 63, 3, 255, 511, 1023, 1023, 4095, 8191, 16383, 1023, 1023, 99327, 230399, 492543, 1048575, 2097151, 4194303, 8388607] (by kernel_rfl)) (by kernel_rfl) ?_
                  show A _ _ _ _ _ _ _
                  refine a_region ?_
                  refine rg_put (d := 84) (v := .d (.fl (.int .i64 (k : Int)))) rfl (og rfl (op_move rfl rfl rfl)) ?_
                  refine rg_put (d := 85) (v := .d (.fl (.int .i64 (((k : Int) + 1))))) rfl (og rfl (op_bin rfl rfl rfl (fun x y w => b_add64 _ _ _ x y w (by omega)) rfl)) ?_
                  refine rg_put (d := 9) (v := .d (.fl (.int .i64 (((k : Int) + 1))))) rfl (og rfl (op_assign rfl rfl rfl)) ?_
                  refine rg_done rfl ?_
                  have hst : true = okb (ix (srt (l.filter (bq l s))) j) s l (k + 1) := by simp only [okb, h1, h2, h3, h4, h11, h13, h14, h15, h21, h23, Bool.true_or, Bool.false_or, Bool.or_true, Bool.or_false, Bool.not_true, Bool.not_false, cond_true, cond_false, Bool.true_and, Bool.false_and, Bool.and_true, Bool.and_false] <;> rfl
                  show ∃ i, _ ∧ _ ∧ Imp _ _ _ _ _
                  refine ⟨k + 1, (by omega), by omega, imp_forget rfl ⟨rfl, rfl, rfl, rfl, rfl, rfl, rfl, rfl, rfl, (by first | rfl | exact ci (by omega) | exact ci (by simp) | exact cd (by simp) | simp), (cd (congrArg (fun z => DV.fl (.bool z)) hst)), trivial⟩ trivial⟩
              · skip
                have h25 := f_dec h21
                refine a_exit ?_
                show A _ _ _ _ _ _ _
                refine a_rseq ?_
                have hkl : k = l.length := by omega
                rw [show (okb (ix (srt (l.filter (bq l s))) j) s l k) = true from (by rw [hkl]; exact okb_all hs (hun _ (ix_mem (by omega))))]
                refine rg_put (d := 109) (v := .d (.fl (.bool true))) rfl (og rfl (op_move rfl rfl rfl)) ?_
                refine rg_put (d := 110) (v := .d (.fl (.bool (!true)))) rfl (og rfl (op_un rfl rfl (u_not _) rfl)) ?_
                refine rg_done rfl ?_
                refine a_condF rfl rfl ?_
                refine a_skip ?_
                show A _ _ _ _ _ _ _
                refine a_region ?_
                refine rg_put (d := 47) (v := .d (.fl (.int .i64 (j : Int)))) rfl (og rfl (op_move rfl rfl rfl)) ?_
                refine rg_put (d := 48) (v := .d (.fl (.int .i64 (((j : Int) + 1))))) rfl (og rfl (op_bin rfl rfl rfl (fun x y w => b_add64 _ _ _ x y w (by omega)) rfl)) ?_
                refine rg_put (d := 7) (v := .d (.fl (.int .i64 (((j : Int) + 1))))) rfl (og rfl (op_assign rfl rfl rfl)) ?_
                refine rg_done rfl ?_
                show ∃ i, _ ∧ _ ∧ Imp _ _ _ _ _
                refine ⟨j + 1, (by omega), by omega, imp_forget rfl ⟨rfl, rfl, rfl, rfl, rfl, rfl, (by first | rfl | exact ci (by omega) | exact ci (by simp) | exact cd (by simp) | simp), trivial⟩ trivial⟩
          · skip
            have h26 := t_not h13
            refine rg_put (d := 56) (v := .d (.sl 8 (List.map ePsg ((srt (l.filter (bq l s))))))) rfl (oy rfl rfl rfl h13 (op_move rfl rfl rfl)) ?_
            refine rg_put (d := 57) (v := .d (.fl (.int .i64 (j : Int)))) rfl (oy rfl rfl rfl h13 (op_move rfl rfl rfl)) ?_
            refine rg_put (d := 58) (v := .el ((ePsg ((ix ((srt (l.filter (bq l s)))) j))))) rfl (oy rfl rfl rfl h13 (s_index rfl Tryz.underlying38 ti24 rfl rfl (by omega) (row_at (by omega)) rfl)) ?_
            refine rg_put (d := 59) (v := .el ((List.drop 3 ((ePsg ((ix ((srt (l.filter (bq l s)))) j))))))) rfl (oy rfl rfl rfl h13 (of_eff (s_field_el rfl Tryz.underlying24 rfl ti9 rfl rfl rfl) rfl)) ?_
            refine rg_put (d := 60) (v := .d (.fl (.string (((ix ((srt (l.filter (bq l s)))) j)).tag)))) rfl (oy rfl rfl rfl h13 (op_load_el rfl Tryz.underlying9 rfl rfl rfl rfl)) ?_
            refine rg_put (d := 61) (v := .d (.fl (.string s))) rfl (oy rfl rfl rfl h13 (op_move rfl rfl rfl)) ?_
            refine rg_put (d := 62) (v := .d (.fl (.bool ((!(sEq (((ix ((srt (l.filter (bq l s)))) j)).tag) s)))))) rfl (oy rfl rfl rfl h13 (op_bin rfl rfl rfl (b_sne _ _ _) rfl)) ?_
            refine rg_put (d := 63) (v := .d (.fl (.bool ((!(sEq (((ix ((srt (l.filter (bq l s)))) j)).tag) s)))))) rfl (og rfl (op_pick rfl rfl (by rw [h13]; rfl) rfl)) ?_
            refine rg_done rfl ?_
            refine a_cond rfl (fun h27 => ?_) (fun h27 => ?_)
            · skip
              have h28 := t_not h27
              refine a_rseq ?_
              refine rg_put (d := 4) (v := .d (.fl (.bool false))) rfl (og rfl (op_assign rfl rfl rfl)) ?_
              refine rg_done rfl ?_
              refine a_ret ?_
              show ∃ ds, ResL _ _ _ ds ∧ RV.of ds = _
              refine ⟨[.fl (.bool false)], (.cons (.tmp rfl (.d _)) .nil), ?_⟩
              exfalso; have h := tag_of hs (hun _ (ix_mem (by omega))) h26; rw [h28] at h; cases h
            · skip
              have h29 := f_not h27
              refine a_skip ?_
              show A _ _ _ _ _ _ _
              refine a_rseq ?_
              refine rg_put (d := 64) (v := .d (.sl 8 (List.map ePsg ((srt (l.filter (bq l s))))))) rfl (og rfl (op_move rfl rfl rfl)) ?_
              refine rg_put (d := 65) (v := .d (.fl (.int .i64 (j : Int)))) rfl (og rfl (op_move rfl rfl rfl)) ?_
              refine rg_put (d := 66) (v := .el ((ePsg ((ix ((srt (l.filter (bq l s)))) j))))) rfl (og rfl (s_index rfl Tryz.underlying38 ti24 rfl rfl (by omega) (row_at (by omega)) rfl)) ?_
              refine rg_put (d := 67) (v := .el ((List.drop 3 ((ePsg ((ix ((srt (l.filter (bq l s)))) j))))))) rfl (og rfl (of_eff (s_field_el rfl Tryz.underlying24 rfl ti9 rfl rfl rfl) rfl)) ?_
              refine rg_put (d := 68) (v := .d (.fl (.string (((ix ((srt (l.filter (bq l s)))) j)).tag)))) rfl (og rfl (op_load_el rfl Tryz.underlying9 rfl rfl rfl rfl)) ?_
              refine rg_put (d := 69) (v := .d (.fl (.string s))) rfl (og rfl (op_move rfl rfl rfl)) ?_
              refine rg_put (d := 70) (v := .d (.fl (.bool ((sEq (((ix ((srt (l.filter (bq l s)))) j)).tag) s))))) rfl (og rfl (op_bin rfl rfl rfl (b_seq _ _ _) rfl)) ?_
              refine rg_put (d := 71) (v := .d (.fl (.bool ((sEq (((ix ((srt (l.filter (bq l s)))) j)).tag) s))))) rfl (og rfl (op_move rfl rfl rfl)) ?_
              refine rg_put (d := 72) (v := .d (.fl undef)) rfl (on rfl rfl rfl h29) ?_
              refine rg_put (d := 73) (v := .d (.fl undef)) rfl (on rfl rfl rfl h29) ?_
              refine rg_put (d := 74) (v := .d (.fl undef)) rfl (on rfl rfl rfl h29) ?_
              refine rg_put (d := 75) (v := .d (.fl undef)) rfl (on rfl rfl rfl h29) ?_
              refine rg_put (d := 76) (v := .d (.fl undef)) rfl (on rfl rfl rfl h29) ?_
              refine rg_put (d := 77) (v := .d (.fl undef)) rfl (on rfl rfl rfl h29) ?_
              refine rg_put (d := 78) (v := .d (.fl undef)) rfl (on rfl rfl rfl h29) ?_
              refine rg_put (d := 79) (v := .d (.fl (.bool true))) rfl (og rfl (op_pick rfl rfl (by rw [h29]; rfl) rfl)) ?_
              refine rg_put (d := 8) (v := .d (.fl (.bool true))) rfl (og rfl (op_assign rfl rfl rfl)) ?_
              refine rg_done rfl ?_
              refine a_seq ?_
              refine a_rseq ?_
              refine rg_put (d := 9) (v := .d (.fl (.int .i64 0))) rfl (og rfl (op_assign rfl rfl rfl)) ?_
              refine rg_done rfl ?_
              refine a_block ?_
              refine a_loop (ι := Nat) (fun k => SS [(0, .d (.sl 8 (List.map ePsg l))), (1, .d (.fl (.string s))), (5, .d (.sl 8 (List.map ePsg ((srt (l.filter (bq l s))))))), (6, .d (.fl (.int .i64 (i : Int)))), (7, .d (.fl (.int .i64 (j : Int)))), (16, .d (.fl (.bool ((sEq s (⟨#[]⟩)))))), (24, .d (.fl (.bool ((decide ((i : Int) < (l.length : Int))))))), (46, .d (.fl (.bool ((decide ((j : Int) < (((srt (l.filter (bq l s)))).length : Int))))))), (63, .d (.fl (.bool ((!(sEq (((ix ((srt (l.filter (bq l s)))) j)).tag) s)))))), (9, .d (.fl (.int .i64 (k : Int)))), (8, .d (.fl (.bool ((okb (ix (srt (l.filter (bq l s))) j) s l k)))))] []) (fun k => k ≤ l.length) (fun k => l.length - k) 0 (by omega) (imp_forget rfl ⟨rfl, rfl, rfl, rfl, rfl, rfl, rfl, rfl, rfl, (by first | rfl | exact ci (by omega) | exact ci (by simp) | exact cd (by simp) | simp), (cd (congrArg (fun z => DV.fl (.bool z)) (show true = okb (ix (srt (l.filter (bq l s))) j) s l 0 from by simp only [okb, h1, h2, h3, h4, h11, h13, h26, h27, h29, Bool.true_or, Bool.false_or, Bool.or_true, Bool.or_false, Bool.not_true, Bool.not_false, cond_true, cond_false, Bool.true_and, Bool.false_and, Bool.and_true, Bool.and_false] <;> rfl))), trivial⟩ trivial) (fun k hok => ?_)
              have hk := hok
              refine a_seq ?_
              refine a_rseq ?_
              refine rg_put (d := 80) (v := .d (.fl (.int .i64 (k : Int)))) rfl (og rfl (op_move rfl rfl rfl)) ?_
              refine rg_put (d := 81) (v := .d (.sl 8 (List.map ePsg l))) rfl (og rfl (op_move rfl rfl rfl)) ?_
              refine rg_put (d := 82) (v := .d (.fl (.int .i64 (l.length : Int)))) rfl (og rfl (s_len rfl Tryz.underlying38 rfl rfl)) ?_
              refine rg_put (d := 83) (v := .d (.fl (.bool ((decide ((k : Int) < (l.length : Int))))))) rfl (og rfl (op_bin rfl rfl rfl (b_lss _ _ _ _) rfl)) ?_
              refine rg_done rfl ?_
              refine a_cond rfl (fun h30 => ?_) (fun h30 => ?_)
              · skip
                have h31 := t_dec h30
                refine a_skip ?_
                show A _ _ _ _ _ _ _
                refine a_seq ?_
                refine a_block ?_
                refine a_draw (by kernel_rfl) ?_
                refine dr_put (d := 86) (v := .d (.fl (.bool ((okb (ix (srt (l.filter (bq l s))) j) s l k))))) rfl (og rfl (op_move rfl rfl rfl)) ?_
                refine dr_put (d := 87) (v := .d (.fl (.bool ((okb (ix (srt (l.filter (bq l s))) j) s l k))))) rfl (og rfl (op_move rfl rfl rfl)) ?_
                rcases fot ((okb (ix (srt (l.filter (bq l s))) j) s l k)) with h32 | h32
                · skip
                  refine dr_put (d := 88) (v := .d (.sl 8 (List.map ePsg l))) rfl (oy rfl rfl rfl h32 (op_move rfl rfl rfl)) ?_
                  refine dr_put (d := 89) (v := .d (.fl (.int .i64 (k : Int)))) rfl (oy rfl rfl rfl h32 (op_move rfl rfl rfl)) ?_
                  refine dr_put (d := 90) (v := .el ((ePsg (ix l k)))) rfl (oy rfl rfl rfl h32 (s_index rfl Tryz.underlying38 ti24 rfl rfl (by omega) (row_at (by omega)) rfl)) ?_
                  refine dr_put (d := 91) (v := .el ((List.drop 3 ((ePsg (ix l k)))))) rfl (oy rfl rfl rfl h32 (of_eff (s_field_el rfl Tryz.underlying24 rfl ti9 rfl rfl rfl) rfl)) ?_
                  refine dr_put (d := 92) (v := .d (.fl (.string ((ix l k).tag)))) rfl (oy rfl rfl rfl h32 (op_load_el rfl Tryz.underlying9 rfl rfl rfl rfl)) ?_
                  refine dr_put (d := 93) (v := .d (.fl (.string s))) rfl (oy rfl rfl rfl h32 (op_move rfl rfl rfl)) ?_
                  refine dr_put (d := 94) (v := .d (.fl (.bool ((sEq ((ix l k).tag) s))))) rfl (oy rfl rfl rfl h32 (op_bin rfl rfl rfl (b_seq _ _ _) rfl)) ?_
                  refine dr_put (d := 95) (v := .d (.fl (.bool ((sEq ((ix l k).tag) s))))) rfl (oy rfl rfl rfl h32 (op_move rfl rfl rfl)) ?_
                  rcases fot ((sEq ((ix l k).tag) s)) with h33 | h33
                  · skip
                    refine dr_put (d := 96) (v := .d (.fl undef)) rfl (on rfl rfl rfl h33) ?_
                    refine dr_put (d := 97) (v := .d (.fl undef)) rfl (on rfl rfl rfl h33) ?_
                    refine dr_put (d := 98) (v := .d (.fl undef)) rfl (on rfl rfl rfl h33) ?_
                    refine dr_put (d := 99) (v := .d (.fl undef)) rfl (on rfl rfl rfl h33) ?_
                    refine dr_put (d := 100) (v := .d (.fl undef)) rfl (on rfl rfl rfl h33) ?_
                    refine dr_put (d := 101) (v := .d (.fl undef)) rfl (on rfl rfl rfl h33) ?_
                    refine dr_put (d := 102) (v := .d (.fl undef)) rfl (on rfl rfl rfl h33) ?_
                    refine dr_put (d := 103) (v := .d (.fl undef)) rfl (on rfl rfl rfl h33) ?_
                    refine dr_put (d := 104) (v := .d (.fl undef)) rfl (on rfl rfl rfl h33) ?_
                    refine dr_put (d := 105) (v := .d (.fl undef)) rfl (on rfl rfl rfl h33) ?_
                    refine dr_put (d := 106) (v := .d (.fl undef)) rfl (on rfl rfl rfl h33) ?_
                    refine dr_put (d := 107) (v := .d (.fl (.bool false))) rfl (oy rfl rfl rfl h32 (op_pick rfl rfl (by rw [h33]; rfl) rfl)) ?_
                    refine dr_put (d := 108) (v := .d (.fl (.bool false))) rfl (og rfl (op_pick rfl rfl (by rw [h32]; rfl) rfl)) ?_
                    refine dr_put (d := 8) (v := .d (.fl (.bool false))) rfl (og rfl (op_assign rfl rfl rfl)) ?_
                    refine dr_done rfl (sepB_of [0, 1, 3, 3, 15, 31, 63, 3, 255, 511, 1023, 1023, 4095, 8191, 16383, 1023, 1023, 99327, 230399, 492543, 1048575, 2097151, 4194303, 8388607] (by kernel_rfl)) (by kernel_rfl) ?_
                    show A _ _ _ _ _ _ _
                    refine a_region ?_
                    refine rg_put (d := 84) (v := .d (.fl (.int .i64 (k : Int)))) rfl (og rfl (op_move rfl rfl rfl)) ?_
                    refine rg_put (d := 85) (v := .d (.fl (.int .i64 (((k : Int) + 1))))) rfl (og rfl (op_bin rfl rfl rfl (fun x y w => b_add64 _ _ _ x y w (by omega)) rfl)) ?_
                    refine rg_put (d := 9) (v := .d (.fl (.int .i64 (((k : Int) + 1))))) rfl (og rfl (op_assign rfl rfl rfl)) ?_
                    refine rg_done rfl ?_
                    have hst : false = okb (ix (srt (l.filter (bq l s))) j) s l (k + 1) := by simp only [okb, h1, h2, h3, h4, h11, h13, h26, h27, h29, h30, h32, h33, Bool.true_or, Bool.false_or, Bool.or_true, Bool.or_false, Bool.not_true, Bool.not_false, cond_true, cond_false, Bool.true_and, Bool.false_and, Bool.and_true, Bool.and_false] <;> rfl
                    show ∃ i, _ ∧ _ ∧ Imp _ _ _ _ _
                    refine ⟨k + 1, (by omega), by omega, imp_forget rfl ⟨rfl, rfl, rfl, rfl, rfl, rfl, rfl, rfl, rfl, (by first | rfl | exact ci (by omega) | exact ci (by simp) | exact cd (by simp) | simp), (cd (congrArg (fun z => DV.fl (.bool z)) hst)), trivial⟩ trivial⟩
                  · skip
                    refine dr_put (d := 96) (v := .d (.sl 8 (List.map ePsg l))) rfl (oy rfl rfl rfl h33 (op_move rfl rfl rfl)) ?_
                    refine dr_put (d := 97) (v := .d (.fl (.int .i64 (k : Int)))) rfl (oy rfl rfl rfl h33 (op_move rfl rfl rfl)) ?_
                    refine dr_put (d := 98) (v := .el ((ePsg (ix l k)))) rfl (oy rfl rfl rfl h33 (s_index rfl Tryz.underlying38 ti24 rfl rfl (by omega) (row_at (by omega)) rfl)) ?_
                    refine dr_put (d := 99) (v := .el ((List.drop 4 ((ePsg (ix l k)))))) rfl (oy rfl rfl rfl h33 (of_eff (s_field_el rfl Tryz.underlying24 rfl ti9 rfl rfl rfl) rfl)) ?_
                    refine dr_put (d := 100) (v := .d (.fl (.string ((ix l k).plate)))) rfl (oy rfl rfl rfl h33 (op_load_el rfl Tryz.underlying9 rfl rfl rfl rfl)) ?_
                    refine dr_put (d := 101) (v := .d (.sl 8 (List.map ePsg ((srt (l.filter (bq l s))))))) rfl (oy rfl rfl rfl h33 (op_move rfl rfl rfl)) ?_
                    refine dr_put (d := 102) (v := .d (.fl (.int .i64 (j : Int)))) rfl (oy rfl rfl rfl h33 (op_move rfl rfl rfl)) ?_
                    refine dr_put (d := 103) (v := .el ((ePsg ((ix ((srt (l.filter (bq l s)))) j))))) rfl (oy rfl rfl rfl h33 (s_index rfl Tryz.underlying38 ti24 rfl rfl (by omega) (row_at (by omega)) rfl)) ?_
                    refine dr_put (d := 104) (v := .el ((List.drop 4 ((ePsg ((ix ((srt (l.filter (bq l s)))) j))))))) rfl (oy rfl rfl rfl h33 (of_eff (s_field_el rfl Tryz.underlying24 rfl ti9 rfl rfl rfl) rfl)) ?_
                    refine dr_put (d := 105) (v := .d (.fl (.string (((ix ((srt (l.filter (bq l s)))) j)).plate)))) rfl (oy rfl rfl rfl h33 (op_load_el rfl Tryz.underlying9 rfl rfl rfl rfl)) ?_
                    refine dr_put (d := 106) (v := .d (.fl (.bool ((sEq ((ix l k).plate) (((ix ((srt (l.filter (bq l s)))) j)).plate)))))) rfl (oy rfl rfl rfl h33 (op_bin rfl rfl rfl (b_seq _ _ _) rfl)) ?_
                    refine dr_put (d := 107) (v := .d (.fl (.bool ((sEq ((ix l k).plate) (((ix ((srt (l.filter (bq l s)))) j)).plate)))))) rfl (oy rfl rfl rfl h32 (op_pick rfl rfl (by rw [h33]; rfl) rfl)) ?_
                    refine dr_put (d := 108) (v := .d (.fl (.bool ((sEq ((ix l k).plate) (((ix ((srt (l.filter (bq l s)))) j)).plate)))))) rfl (og rfl (op_pick rfl rfl (by rw [h32]; rfl) rfl)) ?_
                    refine dr_put (d := 8) (v := .d (.fl (.bool ((sEq ((ix l k).plate) (((ix ((srt (l.filter (bq l s)))) j)).plate)))))) rfl (og rfl (op_assign rfl rfl rfl)) ?_
                    refine dr_done rfl (sepB_of [0, 1, 3, 3, 15, 31, 63, 3, 255, 511, 1023, 1023, 4095, 8191, 16383, 1023, 1023, 99327, 230399, 492543, 1048575, 2097151, 4194303, 8388607] (by kernel_rfl)) (by kernel_rfl) ?_
                    show A _ _ _ _ _ _ _
                    refine a_region ?_
                    refine rg_put (d := 84) (v := .d (.fl (.int .i64 (k : Int)))) rfl (og rfl (op_move rfl rfl rfl)) ?_
                    refine rg_put (d := 85) (v := .d (.fl (.int .i64 (((k : Int) + 1))))) rfl (og rfl (op_bin rfl rfl rfl (fun x y w => b_add64 _ _ _ x y w (by omega)) rfl)) ?_
                    refine rg_put (d := 9) (v := .d (.fl (.int .i64 (((k : Int) + 1))))) rfl (og rfl (op_assign rfl rfl rfl)) ?_
                    refine rg_done rfl ?_
                    have hst : (sEq ((ix l k).plate) (((ix ((srt (l.filter (bq l s)))) j)).plate)) = okb (ix (srt (l.filter (bq l s))) j) s l (k + 1) := by simp only [okb, h1, h2, h3, h4, h11, h13, h26, h27, h29, h30, h32, h33, Bool.true_or, Bool.false_or, Bool.or_true, Bool.or_false, Bool.not_true, Bool.not_false, cond_true, cond_false, Bool.true_and, Bool.false_and, Bool.and_true, Bool.and_false] <;> rfl
                    show ∃ i, _ ∧ _ ∧ Imp _ _ _ _ _
                    refine ⟨k + 1, (by omega), by omega, imp_forget rfl ⟨rfl, rfl, rfl, rfl, rfl, rfl, rfl, rfl, rfl, (by first | rfl | exact ci (by omega) | exact ci (by simp) | exact cd (by simp) | simp), (cd (congrArg (fun z => DV.fl (.bool z)) hst)), trivial⟩ trivial⟩
                · skip
                  refine dr_put (d := 88) (v := .d (.fl undef)) rfl (on rfl rfl rfl h32) ?_
                  refine dr_put (d := 89) (v := .d (.fl undef)) rfl (on rfl rfl rfl h32) ?_
                  refine dr_put (d := 90) (v := .d (.fl undef)) rfl (on rfl rfl rfl h32) ?_
                  refine dr_put (d := 91) (v := .d (.fl undef)) rfl (on rfl rfl rfl h32) ?_
                  refine dr_put (d := 92) (v := .d (.fl undef)) rfl (on rfl rfl rfl h32) ?_
                  refine dr_put (d := 93) (v := .d (.fl undef)) rfl (on rfl rfl rfl h32) ?_
                  refine dr_put (d := 94) (v := .d (.fl undef)) rfl (on rfl rfl rfl h32) ?_
                  refine dr_put (d := 95) (v := .d (.fl undef)) rfl (on rfl rfl rfl h32) ?_
                  refine dr_put (d := 96) (v := .d (.fl undef)) rfl (ou rfl rfl rfl) ?_
                  refine dr_put (d := 97) (v := .d (.fl undef)) rfl (ou rfl rfl rfl) ?_
                  refine dr_put (d := 98) (v := .d (.fl undef)) rfl (ou rfl rfl rfl) ?_
                  refine dr_put (d := 99) (v := .d (.fl undef)) rfl (ou rfl rfl rfl) ?_
                  refine dr_put (d := 100) (v := .d (.fl undef)) rfl (ou rfl rfl rfl) ?_
                  refine dr_put (d := 101) (v := .d (.fl undef)) rfl (ou rfl rfl rfl) ?_
                  refine dr_put (d := 102) (v := .d (.fl undef)) rfl (ou rfl rfl rfl) ?_
                  refine dr_put (d := 103) (v := .d (.fl undef)) rfl (ou rfl rfl rfl) ?_
                  refine dr_put (d := 104) (v := .d (.fl undef)) rfl (ou rfl rfl rfl) ?_
                  refine dr_put (d := 105) (v := .d (.fl undef)) rfl (ou rfl rfl rfl) ?_
                  refine dr_put (d := 106) (v := .d (.fl undef)) rfl (ou rfl rfl rfl) ?_
                  refine dr_put (d := 107) (v := .d (.fl undef)) rfl (on rfl rfl rfl h32) ?_
                  refine dr_put (d := 108) (v := .d (.fl (.bool true))) rfl (og rfl (op_pick rfl rfl (by rw [h32]; rfl) rfl)) ?_
                  refine dr_put (d := 8) (v := .d (.fl (.bool true))) rfl (og rfl (op_assign rfl rfl rfl)) ?_
                  refine dr_done rfl (sepB_of [0, 1, 3, 3, 15, 31, 63, 3, 255, 511, 1023, 1023, 4095, 8191, 16383, 1023, 1023, 99327, 230399, 492543, 1048575, 2097151, 4194303, 8388607] (by kernel_rfl)) (by kernel_rfl) ?_
                  show A _ _ _ _ _ _ _
                  refine a_region ?_
                  refine rg_put (d := 84) (v := .d (.fl (.int .i64 (k : Int)))) rfl (og rfl (op_move rfl rfl rfl)) ?_
                  refine rg_put (d := 85) (v := .d (.fl (.int .i64 (((k : Int) + 1))))) rfl (og rfl (op_bin rfl rfl rfl (fun x y w => b_add64 _ _ _ x y w (by omega)) rfl)) ?_
                  refine rg_put (d := 9) (v := .d (.fl (.int .i64 (((k : Int) + 1))))) rfl (og rfl (op_assign rfl rfl rfl)) ?_
                  refine rg_done rfl ?_
                  have hst : true = okb (ix (srt (l.filter (bq l s))) j) s l (k + 1) := by simp only [okb, h1, h2, h3, h4, h11, h13, h26, h27, h29, h30, h32, Bool.true_or, Bool.false_or, Bool.or_true, Bool.or_false, Bool.not_true, Bool.not_false, cond_true, cond_false, Bool.true_and, Bool.false_and, Bool.and_true, Bool.and_false] <;> rfl
                  show ∃ i, _ ∧ _ ∧ Imp _ _ _ _ _
                  refine ⟨k + 1, (by omega), by omega, imp_forget rfl ⟨rfl, rfl, rfl, rfl, rfl, rfl, rfl, rfl, rfl, (by first | rfl | exact ci (by omega) | exact ci (by simp) | exact cd (by simp) | simp), (cd (congrArg (fun z => DV.fl (.bool z)) hst)), trivial⟩ trivial⟩
              · skip
                have h34 := f_dec h30
                refine a_exit ?_
                show A _ _ _ _ _ _ _
                refine a_rseq ?_
                have hkl : k = l.length := by omega
                rw [show (okb (ix (srt (l.filter (bq l s))) j) s l k) = true from (by rw [hkl]; exact okb_all hs (hun _ (ix_mem (by omega))))]
                refine rg_put (d := 109) (v := .d (.fl (.bool true))) rfl (og rfl (op_move rfl rfl rfl)) ?_
                refine rg_put (d := 110) (v := .d (.fl (.bool (!true)))) rfl (og rfl (op_un rfl rfl (u_not _) rfl)) ?_
                refine rg_done rfl ?_
                refine a_condF rfl rfl ?_
                refine a_skip ?_
                show A _ _ _ _ _ _ _
                refine a_region ?_
                refine rg_put (d := 47) (v := .d (.fl (.int .i64 (j : Int)))) rfl (og rfl (op_move rfl rfl rfl)) ?_
                refine rg_put (d := 48) (v := .d (.fl (.int .i64 (((j : Int) + 1))))) rfl (og rfl (op_bin rfl rfl rfl (fun x y w => b_add64 _ _ _ x y w (by omega)) rfl)) ?_
                refine rg_put (d := 7) (v := .d (.fl (.int .i64 (((j : Int) + 1))))) rfl (og rfl (op_assign rfl rfl rfl)) ?_
                refine rg_done rfl ?_
                show ∃ i, _ ∧ _ ∧ Imp _ _ _ _ _
                refine ⟨j + 1, (by omega), by omega, imp_forget rfl ⟨rfl, rfl, rfl, rfl, rfl, rfl, (by first | rfl | exact ci (by omega) | exact ci (by simp) | exact cd (by simp) | simp), trivial⟩ trivial⟩
        · skip
          have h35 := f_dec h11
          refine a_exit ?_
          show A _ _ _ _ _ _ _
          refine a_rseq ?_
          refine rg_put (d := 111) (v := .d (.fl (.bool true))) rfl (og rfl (op_call rfl Tryz.func12 nm12 rfl .nil aliveT rfl)) ?_
          refine rg_put (d := 4) (v := .d (.fl (.bool true))) rfl (og rfl (op_assign rfl rfl rfl)) ?_
          refine rg_done rfl ?_
          refine a_ret ?_
          show ∃ ds, ResL _ _ _ ds ∧ RV.of ds = _
          refine ⟨[.fl (.bool true)], (.cons (.tmp rfl (.d _)) .nil), ?_⟩
          rfl
  · skip
    have h36 := t_not h1
    refine rg_put (d := 14) (v := .d (.fl undef)) rfl (on rfl rfl rfl h1) ?_
    refine rg_put (d := 15) (v := .d (.fl undef)) rfl (on rfl rfl rfl h1) ?_
    refine rg_put (d := 16) (v := .d (.fl (.bool true))) rfl (og rfl (op_pick rfl rfl (by rw [h1]; rfl) rfl)) ?_
    refine rg_done rfl ?_
    refine a_condK rfl rfl ?_
    refine a_rseq ?_
    refine rg_put (d := 17) (v := .d (.fl (.bool true))) rfl (og rfl (op_call rfl Tryz.func12 nm12 rfl .nil aliveT rfl)) ?_
    refine rg_put (d := 4) (v := .d (.fl (.bool true))) rfl (og rfl (op_assign rfl rfl rfl)) ?_
    refine rg_done rfl ?_
    refine a_ret ?_
    show ∃ ds, ResL _ _ _ ds ∧ RV.of ds = _
    refine ⟨[.fl (.bool true)], (.cons (.tmp rfl (.d _)) .nil), ?_⟩
    rfl
end Go.Proofs.YtakmjlpciicaiaaGreatDoor.Wk
