/- To whom a passage belongs, by the reference. No condition. -/
import Derived.Test.YtakmjlpciicaiaaGreatDoorB9
set_option linter.unusedSimpArgs false
set_option linter.unusedVariables false
namespace Go.Proofs.YtakmjlpciicaiaaGreatDoor.Wk
open Go Go.RowKit Go.Proofs.YtakmjlpciicaiaaGreatDoor.Av
set_option maxHeartbeats 4000000 in
set_option maxRecDepth 100000 in
theorem blgR (l : List Psg) (x : Psg) (hl : l.length ≤ 1000) : Ctr Tryz.prog 54 [.sl 8 (List.map ePsg l), .ag (ePsg x)] (.d (.fl (.string (bel (ow l l.length) x)))) := by
  refine ctr (n := 62) (rs := #[.tmp 4]) (L := [(0, .d (.sl 8 (List.map ePsg l))), (1, .d (.ag (ePsg x)))]) Tryz.func54 rfl rfl rfl rfl rfl (fun w0 U0 => ?_)
  refine a_rseq ?_
  refine rg_nam (d := 3) (v := .pt 101 0) (m := 101) (nw := [(101, .bx 24 (ePsg x))]) rfl (og rfl (of_eff (op_box 101 rfl rfl rfl rfl) rfl)) rfl ?_
  refine rg_put (d := 4) (v := .d (.fl (.string (⟨#[]⟩)))) rfl (og rfl (op_assign rfl rfl rfl)) ?_
  refine rg_done rfl ?_
  refine a_seq ?_
  refine a_rseq ?_
  refine rg_put (d := 7) (v := .pt 101 3) rfl (og rfl (of_eff (s_field_pt rfl Tryz.underlying24 rfl ti9 rfl rfl rfl) rfl)) ?_
  refine rg_put (d := 8) (v := .d (.fl (.string x.tag))) rfl (og rfl (op_load_pt rfl Tryz.underlying9 rfl rfl rfl rfl rfl)) ?_
  refine rg_put (d := 9) (v := .d (.fl (.bool ((!(sEq x.tag (⟨#[]⟩))))))) rfl (og rfl (op_bin rfl rfl rfl (b_sne _ _ _) rfl)) ?_
  refine rg_put (d := 10) (v := .d (.fl (.bool ((!(sEq x.tag (⟨#[]⟩))))))) rfl (og rfl (op_move rfl rfl rfl)) ?_
  rcases fot ((!(sEq x.tag (⟨#[]⟩)))) with h1 | h1
  · skip
    have h2 := f_not h1
    refine rg_put (d := 11) (v := .pt 101 4) rfl (oy rfl rfl rfl h1 (of_eff (s_field_pt rfl Tryz.underlying24 rfl ti9 rfl rfl rfl) rfl)) ?_
    refine rg_put (d := 12) (v := .d (.fl (.string x.plate))) rfl (oy rfl rfl rfl h1 (op_load_pt rfl Tryz.underlying9 rfl rfl rfl rfl rfl)) ?_
    refine rg_put (d := 13) (v := .d (.fl (.bool ((sEq x.plate (⟨#[]⟩)))))) rfl (oy rfl rfl rfl h1 (op_bin rfl rfl rfl (b_seq _ _ _) rfl)) ?_
    refine rg_put (d := 14) (v := .d (.fl (.bool ((sEq x.plate (⟨#[]⟩)))))) rfl (og rfl (op_pick rfl rfl (by rw [h1]; rfl) rfl)) ?_
    refine rg_done rfl ?_
    refine a_cond rfl (fun h3 => ?_) (fun h3 => ?_)
    · skip
      refine a_rseq ?_
      refine rg_put (d := 15) (v := .pt 101 3) rfl (og rfl (of_eff (s_field_pt rfl Tryz.underlying24 rfl ti9 rfl rfl rfl) rfl)) ?_
      refine rg_put (d := 16) (v := .d (.fl (.string x.tag))) rfl (og rfl (op_load_pt rfl Tryz.underlying9 rfl rfl rfl rfl rfl)) ?_
      refine rg_put (d := 4) (v := .d (.fl (.string x.tag))) rfl (og rfl (op_assign rfl rfl rfl)) ?_
      refine rg_done rfl ?_
      refine a_ret ?_
      show ∃ ds, ResL _ _ _ ds ∧ RV.of ds = _
      refine ⟨[.fl (.string x.tag)], (.cons (.tmp rfl (.d _)) .nil), ?_⟩
      have hn : fO (ow l l.length) x.plate = none := by rw [sEq_eq h3]; exact ow_empty l _
      rw [bel_p h2 h3 hn]; rfl
    · skip
      refine a_skip ?_
      show A _ _ _ _ _ _ _
      refine a_rseq ?_
      refine rg_put (d := 5) (v := .d (.fl (.string (⟨#[]⟩)))) rfl (og rfl (op_assign rfl rfl rfl)) ?_
      refine rg_done rfl ?_
      refine a_seq ?_
      refine a_rseq ?_
      refine rg_put (d := 6) (v := .d (.fl (.int .i64 0))) rfl (og rfl (op_assign rfl rfl rfl)) ?_
      refine rg_done rfl ?_
      refine a_block ?_
      have hp : sEq x.plate em = false := h3
      refine a_loop (ι := Nat × ByteArray) (fun pr => SS [(0, .d (.sl 8 (List.map ePsg l))), (1, .d (.ag (ePsg x))), (3, .pt 101 0), (14, .d (.fl (.bool ((sEq x.plate (⟨#[]⟩)))))), (6, .d (.fl (.int .i64 (pr.1 : Int)))), (5, .d (.fl (.string pr.2)))] [(101, .bx 24 (ePsg x))]) (fun pr => pr.1 ≤ l.length ∧ fO (ow l pr.1) x.plate = fT pr.2) (fun pr => l.length - pr.1) (0, ⟨#[]⟩) (⟨Nat.zero_le _, rfl⟩) (imp_forget rfl ⟨rfl, rfl, rfl, rfl, rfl, rfl, trivial⟩ ⟨rfl, trivial⟩) (fun pr hok => ?_)
      obtain ⟨hk, hf⟩ := hok
      refine a_seq ?_
      refine a_rseq ?_
      refine rg_put (d := 17) (v := .d (.fl (.int .i64 (pr.1 : Int)))) rfl (og rfl (op_move rfl rfl rfl)) ?_
      refine rg_put (d := 18) (v := .d (.sl 8 (List.map ePsg l))) rfl (og rfl (op_move rfl rfl rfl)) ?_
      refine rg_put (d := 19) (v := .d (.fl (.int .i64 (l.length : Int)))) rfl (og rfl (s_len rfl Tryz.underlying38 rfl rfl)) ?_
      refine rg_put (d := 20) (v := .d (.fl (.bool ((decide ((pr.1 : Int) < (l.length : Int))))))) rfl (og rfl (op_bin rfl rfl rfl (b_lss _ _ _ _) rfl)) ?_
      refine rg_done rfl ?_
      refine a_cond rfl (fun h4 => ?_) (fun h4 => ?_)
      · skip
        have h5 := t_dec h4
        refine a_skip ?_
        show A _ _ _ _ _ _ _
        refine a_seq ?_
        refine a_block ?_
        refine a_dseq (by kernel_rfl) ?_
        refine dr_put (d := 23) (v := .d (.sl 8 (List.map ePsg l))) rfl (og rfl (op_move rfl rfl rfl)) ?_
        refine dr_put (d := 24) (v := .d (.fl (.int .i64 (pr.1 : Int)))) rfl (og rfl (op_move rfl rfl rfl)) ?_
        refine dr_put (d := 25) (v := .el ((ePsg (ix l pr.1)))) rfl (og rfl (s_index rfl Tryz.underlying38 ti24 rfl rfl (by omega) (row_at (by omega)) rfl)) ?_
        refine dr_put (d := 26) (v := .el ((List.drop 4 ((ePsg (ix l pr.1)))))) rfl (og rfl (of_eff (s_field_el rfl Tryz.underlying24 rfl ti9 rfl rfl rfl) rfl)) ?_
        refine dr_put (d := 27) (v := .d (.fl (.string ((ix l pr.1).plate)))) rfl (og rfl (op_load_el rfl Tryz.underlying9 rfl rfl rfl rfl)) ?_
        refine dr_put (d := 28) (v := .pt 101 4) rfl (og rfl (of_eff (s_field_pt rfl Tryz.underlying24 rfl ti9 rfl rfl rfl) rfl)) ?_
        refine dr_put (d := 29) (v := .d (.fl (.string x.plate))) rfl (og rfl (op_load_pt rfl Tryz.underlying9 rfl rfl rfl rfl rfl)) ?_
        refine dr_put (d := 30) (v := .d (.fl (.bool ((sEq ((ix l pr.1).plate) x.plate))))) rfl (og rfl (op_bin rfl rfl rfl (b_seq _ _ _) rfl)) ?_
        refine dr_put (d := 31) (v := .d (.fl (.bool ((sEq ((ix l pr.1).plate) x.plate))))) rfl (og rfl (op_move rfl rfl rfl)) ?_
        rcases fot ((sEq ((ix l pr.1).plate) x.plate)) with h6 | h6
        · skip
          refine dr_put (d := 32) (v := .d (.fl undef)) rfl (on rfl rfl rfl h6) ?_
          refine dr_put (d := 33) (v := .d (.fl undef)) rfl (on rfl rfl rfl h6) ?_
          refine dr_put (d := 34) (v := .d (.fl undef)) rfl (on rfl rfl rfl h6) ?_
          refine dr_put (d := 35) (v := .d (.fl undef)) rfl (on rfl rfl rfl h6) ?_
          refine dr_put (d := 36) (v := .d (.fl undef)) rfl (on rfl rfl rfl h6) ?_
          refine dr_put (d := 37) (v := .d (.fl undef)) rfl (on rfl rfl rfl h6) ?_
          refine dr_put (d := 38) (v := .d (.fl (.bool false))) rfl (og rfl (op_pick rfl rfl (by rw [h6]; rfl) rfl)) ?_
          refine dr_done rfl (sepB_of [0, 0, 3, 7, 15, 0, 32, 127, 255, 511, 511, 2047, 4095, 8191, 16383, 32767] (by kernel_rfl)) (by kernel_rfl) ?_
          refine a_condF rfl rfl ?_
          refine a_skip ?_
          show A _ _ _ _ _ _ _
          refine a_region ?_
          refine rg_put (d := 21) (v := .d (.fl (.int .i64 (pr.1 : Int)))) rfl (og rfl (op_move rfl rfl rfl)) ?_
          refine rg_put (d := 22) (v := .d (.fl (.int .i64 (((pr.1 : Int) + 1))))) rfl (og rfl (op_bin rfl rfl rfl (fun x y w => b_add64 _ _ _ x y w (by omega)) rfl)) ?_
          refine rg_put (d := 6) (v := .d (.fl (.int .i64 (((pr.1 : Int) + 1))))) rfl (og rfl (op_assign rfl rfl rfl)) ?_
          refine rg_done rfl ?_
          have hst : fO (ow l (pr.1 + 1)) x.plate = fT pr.2 := (ow_step hp).trans (by rw [show sEq (ix l pr.1).plate x.plate = false from h6]; exact hf)
          show ∃ i, _ ∧ _ ∧ Imp _ _ _ _ _
          refine ⟨(pr.1 + 1, pr.2), ⟨by show _ + 1 ≤ _; omega, hst⟩, (by show _ - (_ + 1) < _; omega), imp_forget rfl ⟨rfl, rfl, rfl, rfl, (by first | rfl | exact ci (by show _ = _; omega)), rfl, trivial⟩ ⟨rfl, trivial⟩⟩
        · skip
          refine dr_put (d := 32) (v := .d (.sl 8 (List.map ePsg l))) rfl (oy rfl rfl rfl h6 (op_move rfl rfl rfl)) ?_
          refine dr_put (d := 33) (v := .d (.fl (.int .i64 (pr.1 : Int)))) rfl (oy rfl rfl rfl h6 (op_move rfl rfl rfl)) ?_
          refine dr_put (d := 34) (v := .el ((ePsg (ix l pr.1)))) rfl (oy rfl rfl rfl h6 (s_index rfl Tryz.underlying38 ti24 rfl rfl (by omega) (row_at (by omega)) rfl)) ?_
          refine dr_put (d := 35) (v := .el ((List.drop 3 ((ePsg (ix l pr.1)))))) rfl (oy rfl rfl rfl h6 (of_eff (s_field_el rfl Tryz.underlying24 rfl ti9 rfl rfl rfl) rfl)) ?_
          refine dr_put (d := 36) (v := .d (.fl (.string ((ix l pr.1).tag)))) rfl (oy rfl rfl rfl h6 (op_load_el rfl Tryz.underlying9 rfl rfl rfl rfl)) ?_
          refine dr_put (d := 37) (v := .d (.fl (.bool ((!(sEq ((ix l pr.1).tag) (⟨#[]⟩))))))) rfl (oy rfl rfl rfl h6 (op_bin rfl rfl rfl (b_sne _ _ _) rfl)) ?_
          refine dr_put (d := 38) (v := .d (.fl (.bool ((!(sEq ((ix l pr.1).tag) (⟨#[]⟩))))))) rfl (og rfl (op_pick rfl rfl (by rw [h6]; rfl) rfl)) ?_
          refine dr_done rfl (sepB_of [0, 0, 3, 7, 15, 0, 32, 127, 255, 511, 511, 2047, 4095, 8191, 16383, 32767] (by kernel_rfl)) (by kernel_rfl) ?_
          refine a_cond rfl (fun h7 => ?_) (fun h7 => ?_)
          · skip
            have h8 := t_not h7
            refine a_seq ?_
            refine a_rseq ?_
            refine rg_put (d := 39) (v := .d (.fl (.string pr.2))) rfl (og rfl (op_move rfl rfl rfl)) ?_
            refine rg_put (d := 40) (v := .d (.fl (.bool ((!(sEq pr.2 (⟨#[]⟩))))))) rfl (og rfl (op_bin rfl rfl rfl (b_sne _ _ _) rfl)) ?_
            refine rg_put (d := 41) (v := .d (.fl (.bool ((!(sEq pr.2 (⟨#[]⟩))))))) rfl (og rfl (op_move rfl rfl rfl)) ?_
            rcases fot ((!(sEq pr.2 (⟨#[]⟩)))) with h9 | h9
            · skip
              have h10 := f_not h9
              refine rg_put (d := 42) (v := .d (.fl undef)) rfl (on rfl rfl rfl h9) ?_
              refine rg_put (d := 43) (v := .d (.fl undef)) rfl (on rfl rfl rfl h9) ?_
              refine rg_put (d := 44) (v := .d (.fl undef)) rfl (on rfl rfl rfl h9) ?_
              refine rg_put (d := 45) (v := .d (.fl undef)) rfl (on rfl rfl rfl h9) ?_
              refine rg_put (d := 46) (v := .d (.fl undef)) rfl (on rfl rfl rfl h9) ?_
              refine rg_put (d := 47) (v := .d (.fl undef)) rfl (on rfl rfl rfl h9) ?_
              refine rg_put (d := 48) (v := .d (.fl undef)) rfl (on rfl rfl rfl h9) ?_
              refine rg_put (d := 49) (v := .d (.fl (.bool false))) rfl (og rfl (op_pick rfl rfl (by rw [h9]; rfl) rfl)) ?_
              refine rg_done rfl ?_
              refine a_condF rfl rfl ?_
              refine a_skip ?_
              show A _ _ _ _ _ _ _
              refine a_region ?_
              refine rg_put (d := 52) (v := .d (.sl 8 (List.map ePsg l))) rfl (og rfl (op_move rfl rfl rfl)) ?_
              refine rg_put (d := 53) (v := .d (.fl (.int .i64 (pr.1 : Int)))) rfl (og rfl (op_move rfl rfl rfl)) ?_
              refine rg_put (d := 54) (v := .el ((ePsg (ix l pr.1)))) rfl (og rfl (s_index rfl Tryz.underlying38 ti24 rfl rfl (by omega) (row_at (by omega)) rfl)) ?_
              refine rg_put (d := 55) (v := .el ((List.drop 3 ((ePsg (ix l pr.1)))))) rfl (og rfl (of_eff (s_field_el rfl Tryz.underlying24 rfl ti9 rfl rfl rfl) rfl)) ?_
              refine rg_put (d := 56) (v := .d (.fl (.string ((ix l pr.1).tag)))) rfl (og rfl (op_load_el rfl Tryz.underlying9 rfl rfl rfl rfl)) ?_
              refine rg_put (d := 5) (v := .d (.fl (.string ((ix l pr.1).tag)))) rfl (og rfl (op_assign rfl rfl rfl)) ?_
              refine rg_done rfl ?_
              show A _ _ _ _ _ _ _
              refine a_region ?_
              refine rg_put (d := 21) (v := .d (.fl (.int .i64 (pr.1 : Int)))) rfl (og rfl (op_move rfl rfl rfl)) ?_
              refine rg_put (d := 22) (v := .d (.fl (.int .i64 (((pr.1 : Int) + 1))))) rfl (og rfl (op_bin rfl rfl rfl (fun x y w => b_add64 _ _ _ x y w (by omega)) rfl)) ?_
              refine rg_put (d := 6) (v := .d (.fl (.int .i64 (((pr.1 : Int) + 1))))) rfl (og rfl (op_assign rfl rfl rfl)) ?_
              refine rg_done rfl ?_
              have hst : fO (ow l (pr.1 + 1)) x.plate = fT ((ix l pr.1).tag) := (ow_step hp).trans (by rw [show sEq (ix l pr.1).plate x.plate = true from h6, show sEq (ix l pr.1).tag em = false from h8, hf]; simp only [fT, show sEq pr.2 em = true from h10, show sEq (ix l pr.1).tag em = false from h8, cond_true, cond_false, Bool.not_false, Bool.and_self])
              show ∃ i, _ ∧ _ ∧ Imp _ _ _ _ _
              refine ⟨(pr.1 + 1, (ix l pr.1).tag), ⟨by show _ + 1 ≤ _; omega, hst⟩, (by show _ - (_ + 1) < _; omega), imp_forget rfl ⟨rfl, rfl, rfl, rfl, (by first | rfl | exact ci (by show _ = _; omega)), rfl, trivial⟩ ⟨rfl, trivial⟩⟩
            · skip
              have h11 := t_not h9
              refine rg_put (d := 42) (v := .d (.fl (.string pr.2))) rfl (oy rfl rfl rfl h9 (op_move rfl rfl rfl)) ?_
              refine rg_put (d := 43) (v := .d (.sl 8 (List.map ePsg l))) rfl (oy rfl rfl rfl h9 (op_move rfl rfl rfl)) ?_
              refine rg_put (d := 44) (v := .d (.fl (.int .i64 (pr.1 : Int)))) rfl (oy rfl rfl rfl h9 (op_move rfl rfl rfl)) ?_
              refine rg_put (d := 45) (v := .el ((ePsg (ix l pr.1)))) rfl (oy rfl rfl rfl h9 (s_index rfl Tryz.underlying38 ti24 rfl rfl (by omega) (row_at (by omega)) rfl)) ?_
              refine rg_put (d := 46) (v := .el ((List.drop 3 ((ePsg (ix l pr.1)))))) rfl (oy rfl rfl rfl h9 (of_eff (s_field_el rfl Tryz.underlying24 rfl ti9 rfl rfl rfl) rfl)) ?_
              refine rg_put (d := 47) (v := .d (.fl (.string ((ix l pr.1).tag)))) rfl (oy rfl rfl rfl h9 (op_load_el rfl Tryz.underlying9 rfl rfl rfl rfl)) ?_
              refine rg_put (d := 48) (v := .d (.fl (.bool ((!(sEq pr.2 ((ix l pr.1).tag))))))) rfl (oy rfl rfl rfl h9 (op_bin rfl rfl rfl (b_sne _ _ _) rfl)) ?_
              refine rg_put (d := 49) (v := .d (.fl (.bool ((!(sEq pr.2 ((ix l pr.1).tag))))))) rfl (og rfl (op_pick rfl rfl (by rw [h9]; rfl) rfl)) ?_
              refine rg_done rfl ?_
              refine a_cond rfl (fun h12 => ?_) (fun h12 => ?_)
              · skip
                have h13 := t_not h12
                refine a_rseq ?_
                refine rg_put (d := 50) (v := .pt 101 4) rfl (og rfl (of_eff (s_field_pt rfl Tryz.underlying24 rfl ti9 rfl rfl rfl) rfl)) ?_
                refine rg_put (d := 51) (v := .d (.fl (.string x.plate))) rfl (og rfl (op_load_pt rfl Tryz.underlying9 rfl rfl rfl rfl rfl)) ?_
                refine rg_put (d := 4) (v := .d (.fl (.string x.plate))) rfl (og rfl (op_assign rfl rfl rfl)) ?_
                refine rg_done rfl ?_
                refine a_ret ?_
                show ∃ ds, ResL _ _ _ ds ∧ RV.of ds = _
                refine ⟨[.fl (.string x.plate)], (.cons (.tmp rfl (.d _)) .nil), ?_⟩
                have hst : fO (ow l (pr.1 + 1)) x.plate = some em := (ow_step hp).trans (by rw [show sEq (ix l pr.1).plate x.plate = true from h6, show sEq (ix l pr.1).tag em = false from h8, hf]; simp only [fT, show sEq pr.2 em = false from h11, show sEq pr.2 (ix l pr.1).tag = false from h13, cond_true, cond_false, Bool.not_false, Bool.and_self])
                rw [bel_none h2 h3 (.inr (ow_two_stay h3 (by omega) hst))]; rfl
              · skip
                have h14 := f_not h12
                refine a_skip ?_
                show A _ _ _ _ _ _ _
                refine a_region ?_
                refine rg_put (d := 52) (v := .d (.sl 8 (List.map ePsg l))) rfl (og rfl (op_move rfl rfl rfl)) ?_
                refine rg_put (d := 53) (v := .d (.fl (.int .i64 (pr.1 : Int)))) rfl (og rfl (op_move rfl rfl rfl)) ?_
                refine rg_put (d := 54) (v := .el ((ePsg (ix l pr.1)))) rfl (og rfl (s_index rfl Tryz.underlying38 ti24 rfl rfl (by omega) (row_at (by omega)) rfl)) ?_
                refine rg_put (d := 55) (v := .el ((List.drop 3 ((ePsg (ix l pr.1)))))) rfl (og rfl (of_eff (s_field_el rfl Tryz.underlying24 rfl ti9 rfl rfl rfl) rfl)) ?_
                refine rg_put (d := 56) (v := .d (.fl (.string ((ix l pr.1).tag)))) rfl (og rfl (op_load_el rfl Tryz.underlying9 rfl rfl rfl rfl)) ?_
                refine rg_put (d := 5) (v := .d (.fl (.string ((ix l pr.1).tag)))) rfl (og rfl (op_assign rfl rfl rfl)) ?_
                refine rg_done rfl ?_
                show A _ _ _ _ _ _ _
                refine a_region ?_
                refine rg_put (d := 21) (v := .d (.fl (.int .i64 (pr.1 : Int)))) rfl (og rfl (op_move rfl rfl rfl)) ?_
                refine rg_put (d := 22) (v := .d (.fl (.int .i64 (((pr.1 : Int) + 1))))) rfl (og rfl (op_bin rfl rfl rfl (fun x y w => b_add64 _ _ _ x y w (by omega)) rfl)) ?_
                refine rg_put (d := 6) (v := .d (.fl (.int .i64 (((pr.1 : Int) + 1))))) rfl (og rfl (op_assign rfl rfl rfl)) ?_
                refine rg_done rfl ?_
                have hst : fO (ow l (pr.1 + 1)) x.plate = fT ((ix l pr.1).tag) := (ow_step hp).trans (by rw [show sEq (ix l pr.1).plate x.plate = true from h6, show sEq (ix l pr.1).tag em = false from h8, hf]; simp only [fT, show sEq pr.2 em = false from h11, show sEq (ix l pr.1).tag em = false from h8, show sEq pr.2 (ix l pr.1).tag = true from h14, cond_true, cond_false, Bool.not_false, Bool.and_self])
                show ∃ i, _ ∧ _ ∧ Imp _ _ _ _ _
                refine ⟨(pr.1 + 1, (ix l pr.1).tag), ⟨by show _ + 1 ≤ _; omega, hst⟩, (by show _ - (_ + 1) < _; omega), imp_forget rfl ⟨rfl, rfl, rfl, rfl, (by first | rfl | exact ci (by show _ = _; omega)), rfl, trivial⟩ ⟨rfl, trivial⟩⟩
          · skip
            have h15 := f_not h7
            refine a_skip ?_
            show A _ _ _ _ _ _ _
            refine a_region ?_
            refine rg_put (d := 21) (v := .d (.fl (.int .i64 (pr.1 : Int)))) rfl (og rfl (op_move rfl rfl rfl)) ?_
            refine rg_put (d := 22) (v := .d (.fl (.int .i64 (((pr.1 : Int) + 1))))) rfl (og rfl (op_bin rfl rfl rfl (fun x y w => b_add64 _ _ _ x y w (by omega)) rfl)) ?_
            refine rg_put (d := 6) (v := .d (.fl (.int .i64 (((pr.1 : Int) + 1))))) rfl (og rfl (op_assign rfl rfl rfl)) ?_
            refine rg_done rfl ?_
            have hst : fO (ow l (pr.1 + 1)) x.plate = fT pr.2 := (ow_step hp).trans (by rw [show sEq (ix l pr.1).tag em = true from h15, Bool.not_true, Bool.and_false]; exact hf)
            show ∃ i, _ ∧ _ ∧ Imp _ _ _ _ _
            refine ⟨(pr.1 + 1, pr.2), ⟨by show _ + 1 ≤ _; omega, hst⟩, (by show _ - (_ + 1) < _; omega), imp_forget rfl ⟨rfl, rfl, rfl, rfl, (by first | rfl | exact ci (by show _ = _; omega)), rfl, trivial⟩ ⟨rfl, trivial⟩⟩
      · skip
        have h16 := f_dec h4
        refine a_exit ?_
        show A _ _ _ _ _ _ _
        refine a_seq ?_
        refine a_rseq ?_
        refine rg_put (d := 57) (v := .d (.fl (.string pr.2))) rfl (og rfl (op_move rfl rfl rfl)) ?_
        refine rg_put (d := 58) (v := .d (.fl (.bool ((!(sEq pr.2 (⟨#[]⟩))))))) rfl (og rfl (op_bin rfl rfl rfl (b_sne _ _ _) rfl)) ?_
        refine rg_done rfl ?_
        refine a_cond rfl (fun h17 => ?_) (fun h17 => ?_)
        · skip
          have h18 := t_not h17
          refine a_rseq ?_
          refine rg_put (d := 59) (v := .d (.fl (.string pr.2))) rfl (og rfl (op_move rfl rfl rfl)) ?_
          refine rg_put (d := 4) (v := .d (.fl (.string pr.2))) rfl (og rfl (op_assign rfl rfl rfl)) ?_
          refine rg_done rfl ?_
          refine a_ret ?_
          show ∃ ds, ResL _ _ _ ds ∧ RV.of ds = _
          refine ⟨[.fl (.string pr.2)], (.cons (.tmp rfl (.d _)) .nil), ?_⟩
          have hkl : pr.1 = l.length := by omega
          rw [hkl] at hf
          rw [bel_some h2 h18 (hf.trans (by simp only [fT, show sEq pr.2 em = false from h18, cond_false]))]; rfl
        · skip
          have h19 := f_not h17
          refine a_skip ?_
          show A _ _ _ _ _ _ _
          refine a_rseq ?_
          refine rg_put (d := 60) (v := .pt 101 4) rfl (og rfl (of_eff (s_field_pt rfl Tryz.underlying24 rfl ti9 rfl rfl rfl) rfl)) ?_
          refine rg_put (d := 61) (v := .d (.fl (.string x.plate))) rfl (og rfl (op_load_pt rfl Tryz.underlying9 rfl rfl rfl rfl rfl)) ?_
          refine rg_put (d := 4) (v := .d (.fl (.string x.plate))) rfl (og rfl (op_assign rfl rfl rfl)) ?_
          refine rg_done rfl ?_
          refine a_ret ?_
          show ∃ ds, ResL _ _ _ ds ∧ RV.of ds = _
          refine ⟨[.fl (.string x.plate)], (.cons (.tmp rfl (.d _)) .nil), ?_⟩
          have hkl : pr.1 = l.length := by omega
          rw [hkl] at hf
          rw [bel_none h2 h3 (.inl (hf.trans (by simp only [fT, show sEq pr.2 em = true from h19, cond_true])))]; rfl
  · skip
    have h20 := t_not h1
    refine rg_put (d := 11) (v := .d (.fl undef)) rfl (on rfl rfl rfl h1) ?_
    refine rg_put (d := 12) (v := .d (.fl undef)) rfl (on rfl rfl rfl h1) ?_
    refine rg_put (d := 13) (v := .d (.fl undef)) rfl (on rfl rfl rfl h1) ?_
    refine rg_put (d := 14) (v := .d (.fl (.bool true))) rfl (og rfl (op_pick rfl rfl (by rw [h1]; rfl) rfl)) ?_
    refine rg_done rfl ?_
    refine a_condK rfl rfl ?_
    refine a_rseq ?_
    refine rg_put (d := 15) (v := .pt 101 3) rfl (og rfl (of_eff (s_field_pt rfl Tryz.underlying24 rfl ti9 rfl rfl rfl) rfl)) ?_
    refine rg_put (d := 16) (v := .d (.fl (.string x.tag))) rfl (og rfl (op_load_pt rfl Tryz.underlying9 rfl rfl rfl rfl rfl)) ?_
    refine rg_put (d := 4) (v := .d (.fl (.string x.tag))) rfl (og rfl (op_assign rfl rfl rfl)) ?_
    refine rg_done rfl ?_
    refine a_ret ?_
    show ∃ ds, ResL _ _ _ ds ∧ RV.of ds = _
    refine ⟨[.fl (.string x.tag)], (.cons (.tmp rfl (.d _)) .nil), ?_⟩
    rw [bel_t h20]; rfl
end Go.Proofs.YtakmjlpciicaiaaGreatDoor.Wk
