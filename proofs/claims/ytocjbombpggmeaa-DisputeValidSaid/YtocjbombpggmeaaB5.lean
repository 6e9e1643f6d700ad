/- Disputes checked, the plain way. Condition: strings of a possible length. -/
import Derived.Test.YtocjbombpggmeaaB4
set_option linter.unusedSimpArgs false
set_option linter.unusedVariables false
namespace Go.Proofs.Ytocjbombpggmeaa.Wk
open Go Go.RowKit Go.Proofs.Ytocjbombpggmeaa.Av
set_option maxHeartbeats 4000000 in
set_option maxRecDepth 100000 in
theorem ref_check (l : List Dp) (hz : SZ l) : Ctr Try.prog 11 [.sl 5 (List.map eDp l)] (.d (.fl (.int .i64 (ck l)))) := by
  refine ctr (n := 39) (rs := #[.tmp 2]) (L := [(0, .d (.sl 5 (List.map eDp l)))]) Try.func11 rfl rfl rfl rfl rfl (fun w0 U0 => ?_)
  refine a_rseq ?_
  refine rg_put (d := 2) (v := .d (.fl (.int .i64 0))) rfl (og rfl (op_assign rfl rfl rfl)) ?_
  refine rg_done rfl ?_
  refine a_seq ?_
  refine a_rseq ?_
  refine rg_put (d := 5) (v := .d (.sl 5 (List.map eDp l))) rfl (og rfl (op_move rfl rfl rfl)) ?_
  refine rg_put (d := 6) (v := .d (.fl (.int .i64 (l.length : Int)))) rfl (og rfl (s_len rfl Try.underlying22 rfl rfl)) ?_
  refine rg_put (d := 7) (v := .d (.fl (.bool ((decide (1024 < (l.length : Int))))))) rfl (og rfl (op_bin rfl rfl rfl (b_gtr _ _ _ _) rfl)) ?_
  refine rg_done rfl ?_
  refine a_cond rfl (fun h1 => ?_) (fun h1 => ?_)
  · skip
    have h2 := t_dec h1
    refine a_rseq ?_
    refine rg_put (d := 2) (v := .d (.fl (.int .i64 3))) rfl (og rfl (op_assign rfl rfl rfl)) ?_
    refine rg_done rfl ?_
    refine a_ret ?_
    show ∃ ds, ResL _ _ _ ds ∧ RV.of ds = _
    refine ⟨[.fl (.int .i64 3)], (.cons (.tmp rfl (.d _)) .nil), ?_⟩
    have hc : ck l = 3 := by unfold ck; rw [h1]; rfl
    rw [hc]; rfl
  · skip
    have h3 := f_dec h1
    refine a_skip ?_
    show A _ _ _ _ _ _ _
    refine a_seq ?_
    refine a_rseq ?_
    refine rg_put (d := 3) (v := .d (.fl (.int .i64 0))) rfl (og rfl (op_assign rfl rfl rfl)) ?_
    refine rg_done rfl ?_
    refine a_block ?_
    refine a_loop (ι := Nat) (fun k => SS [(0, .d (.sl 5 (List.map eDp l))), (7, .d (.fl (.bool ((decide (1024 < (l.length : Int))))))), (3, .d (.fl (.int .i64 (k : Int))))] []) (fun k => k ≤ l.length ∧ ck l = fe (bad l) k (l.length - k)) (fun k => l.length - k) 0 (⟨by omega, ck_go h1⟩) (imp_forget rfl ⟨rfl, rfl, (by first | rfl | exact ci (by omega) | exact ci (by simp) | exact cd (by simp) | simp), trivial⟩ trivial) (fun k hok => ?_)
    obtain ⟨hk, hc⟩ := hok
    refine a_seq ?_
    refine a_rseq ?_
    refine rg_put (d := 8) (v := .d (.fl (.int .i64 (k : Int)))) rfl (og rfl (op_move rfl rfl rfl)) ?_
    refine rg_put (d := 9) (v := .d (.sl 5 (List.map eDp l))) rfl (og rfl (op_move rfl rfl rfl)) ?_
    refine rg_put (d := 10) (v := .d (.fl (.int .i64 (l.length : Int)))) rfl (og rfl (s_len rfl Try.underlying22 rfl rfl)) ?_
    refine rg_put (d := 11) (v := .d (.fl (.bool ((decide ((k : Int) < (l.length : Int))))))) rfl (og rfl (op_bin rfl rfl rfl (b_lss _ _ _ _) rfl)) ?_
    refine rg_done rfl ?_
    refine a_cond rfl (fun h4 => ?_) (fun h4 => ?_)
    · skip
      have h5 := t_dec h4
      refine a_skip ?_
      show A _ _ _ _ _ _ _
      refine a_seq ?_
      refine a_block ?_
      refine a_seq ?_
      refine a_rseq ?_
      refine rg_put (d := 14) (v := .d (.sl 5 (List.map eDp l))) rfl (og rfl (op_move rfl rfl rfl)) ?_
      refine rg_put (d := 15) (v := .d (.fl (.int .i64 (k : Int)))) rfl (og rfl (op_move rfl rfl rfl)) ?_
      refine rg_put (d := 16) (v := .el ((eDp (ix l k)))) rfl (og rfl (s_index rfl Try.underlying22 ti40 rfl rfl (by omega) (row_at (by omega)) rfl)) ?_
      refine rg_put (d := 17) (v := .el ((List.drop 0 ((eDp (ix l k)))))) rfl (og rfl (of_eff (s_field_el rfl Try.underlying40 rfl ti9 rfl rfl rfl) rfl)) ?_
      refine rg_put (d := 18) (v := .d (.fl (.string ((ix l k).key)))) rfl (og rfl (op_load_el rfl Try.underlying9 rfl rfl rfl rfl)) ?_
      refine rg_put (d := 19) (v := .d (.fl (.bool ((isR ((ix l k).key)))))) rfl (og rfl (op_call rfl Try.func23 nm23 rfl (.cons rfl (.d _) .nil) (ref_isR ((ix l k).key) (by have := (hz k (by omega)).1; omega)) rfl)) ?_
      refine rg_put (d := 20) (v := .d (.fl (.bool ((!((isR ((ix l k).key)))))))) rfl (og rfl (op_un rfl rfl (u_not _) rfl)) ?_
      refine rg_done rfl ?_
      refine a_cond rfl (fun h6 => ?_) (fun h6 => ?_)
      · skip
        have h7 := t_not h6
        refine a_rseq ?_
        refine rg_put (d := 2) (v := .d (.fl (.int .i64 5))) rfl (og rfl (op_assign rfl rfl rfl)) ?_
        refine rg_done rfl ?_
        refine a_ret ?_
        show ∃ ds, ResL _ _ _ ds ∧ RV.of ds = _
        refine ⟨[.fl (.int .i64 5)], (.cons (.tmp rfl (.d _)) .nil), ?_⟩
        have hb : bad l k = 5 := by
          unfold bad; simp only [h1, h4, h6, h7]; rfl
        rw [fe_yes (by omega) hc hb (by decide)]; rfl
      · skip
        have h8 := f_not h6
        refine a_skip ?_
        show A _ _ _ _ _ _ _
        refine a_seq ?_
        refine a_dseq (by kernel_rfl) ?_
        refine dr_put (d := 21) (v := .d (.sl 5 (List.map eDp l))) rfl (og rfl (op_move rfl rfl rfl)) ?_
        refine dr_put (d := 22) (v := .d (.fl (.int .i64 (k : Int)))) rfl (og rfl (op_move rfl rfl rfl)) ?_
        refine dr_put (d := 23) (v := .d (.sl 5 (List.map eDp (((l.drop 0).take (k - 0)))))) rfl (og rfl (s_slice rfl Try.underlying22 ti40 rfl (.no _) (.so (n := k) _ rfl (by omega)) (by omega) (by omega) rfl)) ?_
        refine dr_put (d := 24) (v := .d (.sl 5 (List.map eDp l))) rfl (og rfl (op_move rfl rfl rfl)) ?_
        refine dr_put (d := 25) (v := .d (.fl (.int .i64 (k : Int)))) rfl (og rfl (op_move rfl rfl rfl)) ?_
        refine dr_put (d := 26) (v := .el ((eDp (ix l k)))) rfl (og rfl (s_index rfl Try.underlying22 ti40 rfl rfl (by omega) (row_at (by omega)) rfl)) ?_
        refine dr_put (d := 27) (v := .el ((List.drop 0 ((eDp (ix l k)))))) rfl (og rfl (of_eff (s_field_el rfl Try.underlying40 rfl ti9 rfl rfl rfl) rfl)) ?_
        refine dr_put (d := 28) (v := .d (.fl (.string ((ix l k).key)))) rfl (og rfl (op_load_el rfl Try.underlying9 rfl rfl rfl rfl)) ?_
        refine dr_put (d := 29) (v := .d (.fl (.int .i64 ((dfind (((l.drop 0).take (k - 0))) ((ix l k).key)))))) rfl (og rfl (op_call rfl Try.func24 nm24 rfl (.cons rfl (.d _) (.cons rfl (.d _) .nil)) (ref_find (((l.drop 0).take (k - 0))) ((ix l k).key) (by simp only [List.length_take, List.length_drop]; omega)) rfl)) ?_
        refine dr_put (d := 30) (v := .d (.fl (.bool ((decide (0 ≤ (dfind (((l.drop 0).take (k - 0))) ((ix l k).key)))))))) rfl (og rfl (op_bin rfl rfl rfl (b_geq _ _ _ _) rfl)) ?_
        refine dr_done rfl (by kernel_rfl) (by kernel_rfl) ?_
        refine a_cond rfl (fun h9 => ?_) (fun h9 => ?_)
        · skip
          have h10 := t_dec h9
          refine a_rseq ?_
          refine rg_put (d := 2) (v := .d (.fl (.int .i64 9))) rfl (og rfl (op_assign rfl rfl rfl)) ?_
          refine rg_done rfl ?_
          refine a_ret ?_
          show ∃ ds, ResL _ _ _ ds ∧ RV.of ds = _
          refine ⟨[.fl (.int .i64 9)], (.cons (.tmp rfl (.d _)) .nil), ?_⟩
          have hdup : dup l k = true := dup_find.symm.trans h9
          have hb : bad l k = 9 := by
            unfold bad; simp only [h1, h4, h6, h8, h9, hdup]; rfl
          rw [fe_yes (by omega) hc hb (by decide)]; rfl
        · skip
          have h11 := f_dec h9
          refine a_skip ?_
          show A _ _ _ _ _ _ _
          refine a_rseq ?_
          refine rg_put (d := 31) (v := .d (.sl 5 (List.map eDp l))) rfl (og rfl (op_move rfl rfl rfl)) ?_
          refine rg_put (d := 32) (v := .d (.fl (.int .i64 (k : Int)))) rfl (og rfl (op_move rfl rfl rfl)) ?_
          refine rg_put (d := 33) (v := .el ((eDp (ix l k)))) rfl (og rfl (s_index rfl Try.underlying22 ti40 rfl rfl (by omega) (row_at (by omega)) rfl)) ?_
          refine rg_put (d := 34) (v := .d (.ag (eDp (ix l k)))) rfl (og rfl (of_eff (s_load_els rfl Try.underlying40 rfl ti40 rfl rfl rfl) rfl)) ?_
          refine rg_put (d := 35) (v := .d (.fl (.int .i64 ((one (ix l k)))))) rfl (og rfl (op_call rfl Try.func25 nm25 rfl (.cons rfl (.d _) .nil) (one25 (ix l k) (hz k (by omega)).2) rfl)) ?_
          refine rg_put (d := 4) (v := .d (.fl (.int .i64 ((one (ix l k)))))) rfl (og rfl (op_assign rfl rfl rfl)) ?_
          refine rg_done rfl ?_
          refine a_rseq ?_
          refine rg_put (d := 36) (v := .d (.fl (.int .i64 ((one (ix l k)))))) rfl (og rfl (op_move rfl rfl rfl)) ?_
          refine rg_put (d := 37) (v := .d (.fl (.bool (((one (ix l k)) != 0))))) rfl (og rfl (op_bin rfl rfl rfl (b_neq _ _ _ _) rfl)) ?_
          refine rg_done rfl ?_
          refine a_cond rfl (fun h12 => ?_) (fun h12 => ?_)
          · skip
            have h13 := t_bne h12
            refine a_rseq ?_
            refine rg_put (d := 38) (v := .d (.fl (.int .i64 ((one (ix l k)))))) rfl (og rfl (op_move rfl rfl rfl)) ?_
            refine rg_put (d := 2) (v := .d (.fl (.int .i64 ((one (ix l k)))))) rfl (og rfl (op_assign rfl rfl rfl)) ?_
            refine rg_done rfl ?_
            refine a_ret ?_
            show ∃ ds, ResL _ _ _ ds ∧ RV.of ds = _
            refine ⟨[.fl (.int .i64 ((one (ix l k))))], (.cons (.tmp rfl (.d _)) .nil), ?_⟩
            have hdup : dup l k = false := dup_find.symm.trans h9
            have hb : bad l k = (one (ix l k)) := by
              unfold bad; simp only [h1, h4, h6, h8, h9, h12, hdup]; rfl
            rw [fe_yes (by omega) hc hb (t_bne h12)]; rfl
          · skip
            have h14 := f_bne h12
            refine a_skip ?_
            show A _ _ _ _ _ _ _
            refine a_region ?_
            refine rg_put (d := 12) (v := .d (.fl (.int .i64 (k : Int)))) rfl (og rfl (op_move rfl rfl rfl)) ?_
            refine rg_put (d := 13) (v := .d (.fl (.int .i64 (((k : Int) + 1))))) rfl (og rfl (op_bin rfl rfl rfl (fun x y w => b_add64 _ _ _ x y w (by omega)) rfl)) ?_
            refine rg_put (d := 3) (v := .d (.fl (.int .i64 (((k : Int) + 1))))) rfl (og rfl (op_assign rfl rfl rfl)) ?_
            refine rg_done rfl ?_
            have hdup : dup l k = false := dup_find.symm.trans h9
            have hone := f_bne h12
            have hb : bad l k = 0 := by
              unfold bad; simp only [h1, h4, h6, h8, h9, h12, hdup, hone]; rfl
            show ∃ i, _ ∧ _ ∧ Imp _ _ _ _ _
            refine ⟨k + 1, ⟨by omega, fe_no (by omega) hc hb⟩, by omega, imp_forget rfl ⟨rfl, rfl, (by first | rfl | exact ci (by omega) | exact ci (by simp) | exact cd (by simp) | simp), trivial⟩ trivial⟩
    · skip
      have h15 := f_dec h4
      refine a_exit ?_
      show A _ _ _ _ _ _ _
      refine a_rseq ?_
      refine rg_put (d := 2) (v := .d (.fl (.int .i64 0))) rfl (og rfl (op_assign rfl rfl rfl)) ?_
      refine rg_done rfl ?_
      refine a_ret ?_
      show ∃ ds, ResL _ _ _ ds ∧ RV.of ds = _
      refine ⟨[.fl (.int .i64 0)], (.cons (.tmp rfl (.d _)) .nil), ?_⟩
      rw [fe_end (by omega)] at hc
      rw [hc]; rfl
end Go.Proofs.Ytocjbombpggmeaa.Wk
