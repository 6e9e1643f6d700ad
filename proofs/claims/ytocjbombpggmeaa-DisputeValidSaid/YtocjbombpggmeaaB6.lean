/- Disputes checked. No condition. -/
import Derived.Test.YtocjbombpggmeaaB5
set_option linter.unusedSimpArgs false
set_option linter.unusedVariables false
namespace Go.Proofs.Ytocjbombpggmeaa.Wk
open Go Go.RowKit Go.Proofs.Ytocjbombpggmeaa.Av
set_option maxHeartbeats 4000000 in
set_option maxRecDepth 100000 in
theorem d_check (l : List Dp) : Ctr Try.prog 10 [.sl 5 (List.map eDp l)] (.d (.fl (.int .i64 (ck l)))) := by
  refine ctr (n := 74) (rs := #[.tmp 2]) (L := [(0, .d (.sl 5 (List.map eDp l)))]) Try.func10 rfl rfl rfl rfl rfl (fun w0 U0 => ?_)
  refine a_rseq ?_
  refine rg_put (d := 2) (v := .d (.fl (.int .i64 0))) rfl (og rfl (op_assign rfl rfl rfl)) ?_
  refine rg_done rfl ?_
  refine a_seq ?_
  refine a_rseq ?_
  refine rg_put (d := 8) (v := .d (.sl 5 (List.map eDp l))) rfl (og rfl (op_move rfl rfl rfl)) ?_
  refine rg_put (d := 9) (v := .d (.fl (.int .i64 (l.length : Int)))) rfl (og rfl (s_len rfl Try.underlying22 rfl rfl)) ?_
  refine rg_put (d := 10) (v := .d (.fl (.bool ((decide (1024 < (l.length : Int))))))) rfl (og rfl (op_bin rfl rfl rfl (b_gtr _ _ _ _) rfl)) ?_
  refine rg_done rfl ?_
  refine a_cond rfl (fun h1 => ?_) (fun h1 => ?_)
  · skip
    have h2 := t_dec h1
    refine a_rseq ?_
    refine rg_put (d := 2) (v := .d (.fl (.int .i64 3))) rfl (og rfl (op_assign rfl rfl rfl)) ?_
    refine rg_done rfl ?_
    refine a_ret ?_
    show ∃ ds, ResL _ _ _ ds ∧ RV.of ds = _
    refine ⟨[.fl (.int .i64 3)], (.cons (.tmp rfl (.d _)) .nil), ?_⟩
    have hc : ck l = 3 := by unfold ck; rw [h1]; rfl
    rw [hc]; rfl
  · skip
    have h3 := f_dec h1
    refine a_skip ?_
    show A _ _ _ _ _ _ _
    refine a_rseq ?_
    refine rg_nam (d := 11) (v := .ow 101) (m := 101) (nw := [(101, .mp [])]) rfl (og rfl (op_makeMap 101 rfl rfl)) rfl ?_
    refine rg_put (d := 3) (v := .ow 101) rfl (og rfl (op_assign rfl rfl rfl)) ?_
    refine rg_done rfl ?_
    refine a_seq ?_
    refine a_rseq ?_
    refine rg_put (d := 12) (v := .d (.sl 5 (List.map eDp l))) rfl (og rfl (op_move rfl rfl rfl)) ?_
    refine rg_put (d := 13) (v := .d (.fl (.int .i64 (l.length : Int)))) rfl (og rfl (s_len rfl Try.underlying22 rfl rfl)) ?_
    refine rg_put (d := 14) (v := .d (.fl (.int .i64 0))) rfl (og rfl (op_move rfl rfl rfl)) ?_
    refine rg_done rfl ?_
    refine a_block ?_
    refine a_loop (ι := Nat) (fun k => SS [(0, .d (.sl 5 (List.map eDp l))), (3, .ow 101), (10, .d (.fl (.bool ((decide (1024 < (l.length : Int))))))), (12, .d (.sl 5 (List.map eDp l))), (13, .d (.fl (.int .i64 (l.length : Int)))), (14, .d (.fl (.int .i64 (k : Int))))] [(101, .mp ((setE (l.take k))))]) (fun k => k ≤ l.length ∧ ck l = fe (bad l) k (l.length - k)) (fun k => l.length - k) 0 (⟨by omega, ck_go h1⟩) (imp_forget rfl ⟨rfl, rfl, rfl, rfl, rfl, (by first | rfl | exact ci (by omega) | exact ci (by simp) | exact cd (by simp) | simp), trivial⟩ ⟨(by first | rfl | simp), trivial⟩) (fun k hok => ?_)
    obtain ⟨hk, hc⟩ := hok
    refine a_rseq ?_
    refine rg_put (d := 15) (v := .d (.fl (.bool ((decide ((k : Int) < (l.length : Int))))))) rfl (og rfl (op_bin rfl rfl rfl (b_lss _ _ _ _) rfl)) ?_
    refine rg_done rfl ?_
    refine a_seq ?_
    refine a_cond rfl (fun h4 => ?_) (fun h4 => ?_)
    · skip
      have h5 := t_dec h4
      refine a_skip ?_
      show A _ _ _ _ _ _ _
      refine a_seq ?_
      refine a_block ?_
      refine a_rseq ?_
      refine rg_put (d := 16) (v := .el ((eDp (ix l k)))) rfl (og rfl (s_index rfl Try.underlying22 ti40 rfl rfl (by omega) (row_at (by omega)) rfl)) ?_
      refine rg_put (d := 17) (v := .d (.ag (eDp (ix l k)))) rfl (og rfl (of_eff (s_load_els rfl Try.underlying40 rfl ti40 rfl rfl rfl) rfl)) ?_
      refine rg_nam (d := 5) (v := .pt 102 0) (m := 102) (nw := [(102, .bx 40 ([.fl (.string (⟨#[]⟩)), .fl (.int .i64 0), .fl (.int .i64 0), .fl (.int .i64 0), .fl (.slice none 0 0)]))]) rfl (og rfl (of_eff (s_alloc 102 rfl ti40 (by kernel_rfl) rfl) rfl)) rfl ?_
      refine rg_sto (nw := [(102, .bx 40 ((eDp (ix l k))))]) rfl (og rfl (of_eff (s_store rfl rfl ti40 rfl rfl rfl rfl rfl rfl) rfl)) ?_
      refine rg_done rfl ?_
      refine a_seq ?_
      refine a_block ?_
      refine a_rseq ?_
      refine rg_put (d := 19) (v := .pt 102 0) rfl (og rfl (of_eff (s_field_pt rfl Try.underlying40 rfl ti9 rfl rfl rfl) rfl)) ?_
      refine rg_put (d := 20) (v := .d (.fl (.string ((ix l k).key)))) rfl (og rfl (op_load_pt rfl Try.underlying9 rfl rfl rfl rfl rfl)) ?_
      refine rg_put (d := 21) (v := .d (.fl (.bool ((isR ((ix l k).key)))))) rfl (og rfl (op_call rfl Try.func19 nm19 rfl (.cons rfl (.d _) .nil) (isR19 ((ix l k).key)) rfl)) ?_
      refine rg_put (d := 22) (v := .d (.fl (.bool ((!((isR ((ix l k).key)))))))) rfl (og rfl (op_un rfl rfl (u_not _) rfl)) ?_
      refine rg_put (d := 18) (v := .d (.fl (.bool ((!((isR ((ix l k).key)))))))) rfl (og rfl (op_assign rfl rfl rfl)) ?_
      refine rg_done rfl ?_
      refine a_cond rfl (fun h6 => ?_) (fun h6 => ?_)
      · skip
        have h7 := t_not h6
        refine a_rseq ?_
        refine rg_put (d := 2) (v := .d (.fl (.int .i64 5))) rfl (og rfl (op_assign rfl rfl rfl)) ?_
        refine rg_done rfl ?_
        refine a_ret ?_
        show ∃ ds, ResL _ _ _ ds ∧ RV.of ds = _
        refine ⟨[.fl (.int .i64 5)], (.cons (.tmp rfl (.d _)) .nil), ?_⟩
        have hb : bad l k = 5 := by
          unfold bad one; simp only [h1, h4, h6, h7]; rfl
        rw [fe_yes (by omega) hc hb (by decide)]; rfl
      · skip
        have h8 := f_not h6
        refine a_rseq ?_
        refine rg_put (d := 24) (v := .ow 101) rfl (og rfl (op_move rfl rfl rfl)) ?_
        refine rg_put (d := 25) (v := .pt 102 0) rfl (og rfl (of_eff (s_field_pt rfl Try.underlying40 rfl ti9 rfl rfl rfl) rfl)) ?_
        refine rg_put (d := 26) (v := .d (.fl (.string ((ix l k).key)))) rfl (og rfl (op_load_pt rfl Try.underlying9 rfl rfl rfl rfl rfl)) ?_
        rcases fot (((l.take k).any fun x => sEq x.key ((ix l k).key))) with h9 | h9
        · skip
          refine rg_put (d := 27) (v := .d (.fl (.bool false))) rfl (og rfl (op_lookup1 rfl Try.underlying47 Try.underlying9 rfl ti4 rfl rfl (.ow rfl) rfl (r := none) ((mfind_set Dp.key _ _).trans (by rw [h9]; rfl)) rfl rfl)) ?_
          refine rg_put (d := 23) (v := .d (.fl (.bool false))) rfl (og rfl (op_assign rfl rfl rfl)) ?_
          refine rg_done rfl ?_
          refine a_condF rfl rfl ?_
          refine a_rseq ?_
          refine rg_put (d := 29) (v := .pt 102 1) rfl (og rfl (of_eff (s_field_pt rfl Try.underlying40 rfl ti3 rfl rfl rfl) rfl)) ?_
          refine rg_put (d := 30) (v := .d (.fl (.int .i64 ((ix l k).time)))) rfl (og rfl (op_load_pt rfl Try.underlying3 rfl rfl rfl rfl rfl)) ?_
          refine rg_put (d := 31) (v := .d (.fl (.bool ((isT ((ix l k).time)))))) rfl (og rfl (op_call rfl Try.func20 nm20 rfl (.cons rfl (.d _) .nil) (isTime20 ((ix l k).time)) rfl)) ?_
          refine rg_put (d := 32) (v := .d (.fl (.bool ((!((isT ((ix l k).time)))))))) rfl (og rfl (op_un rfl rfl (u_not _) rfl)) ?_
          refine rg_put (d := 28) (v := .d (.fl (.bool ((!((isT ((ix l k).time)))))))) rfl (og rfl (op_assign rfl rfl rfl)) ?_
          refine rg_done rfl ?_
          refine a_cond rfl (fun h10 => ?_) (fun h10 => ?_)
          · skip
            have h11 := t_not h10
            refine a_rseq ?_
            refine rg_put (d := 2) (v := .d (.fl (.int .i64 12))) rfl (og rfl (op_assign rfl rfl rfl)) ?_
            refine rg_done rfl ?_
            refine a_ret ?_
            show ∃ ds, ResL _ _ _ ds ∧ RV.of ds = _
            refine ⟨[.fl (.int .i64 12)], (.cons (.tmp rfl (.d _)) .nil), ?_⟩
            have hdup : dup l k = false := h9
            have hb : bad l k = 12 := by
              unfold bad one; simp only [h1, h4, h6, h8, h9, h10, h11, hdup]; rfl
            rw [fe_yes (by omega) hc hb (by decide)]; rfl
          · skip
            have h12 := f_not h10
            refine a_rseq ?_
            refine rg_put (d := 34) (v := .pt 102 2) rfl (og rfl (of_eff (s_field_pt rfl Try.underlying40 rfl ti3 rfl rfl rfl) rfl)) ?_
            refine rg_put (d := 35) (v := .d (.fl (.int .i64 ((ix l k).cents)))) rfl (og rfl (op_load_pt rfl Try.underlying3 rfl rfl rfl rfl rfl)) ?_
            refine rg_put (d := 36) (v := .d (.fl (.bool ((isC ((ix l k).cents)))))) rfl (og rfl (op_call rfl Try.func21 nm21 rfl (.cons rfl (.d _) .nil) (isC21 ((ix l k).cents)) rfl)) ?_
            refine rg_put (d := 37) (v := .d (.fl (.bool ((!((isC ((ix l k).cents)))))))) rfl (og rfl (op_un rfl rfl (u_not _) rfl)) ?_
            refine rg_put (d := 33) (v := .d (.fl (.bool ((!((isC ((ix l k).cents)))))))) rfl (og rfl (op_assign rfl rfl rfl)) ?_
            refine rg_done rfl ?_
            refine a_cond rfl (fun h13 => ?_) (fun h13 => ?_)
            · skip
              have h14 := t_not h13
              refine a_rseq ?_
              refine rg_put (d := 2) (v := .d (.fl (.int .i64 13))) rfl (og rfl (op_assign rfl rfl rfl)) ?_
              refine rg_done rfl ?_
              refine a_ret ?_
              show ∃ ds, ResL _ _ _ ds ∧ RV.of ds = _
              refine ⟨[.fl (.int .i64 13)], (.cons (.tmp rfl (.d _)) .nil), ?_⟩
              have hdup : dup l k = false := h9
              have hb : bad l k = 13 := by
                unfold bad one; simp only [h1, h4, h6, h8, h9, h10, h12, h13, h14, hdup]; rfl
              rw [fe_yes (by omega) hc hb (by decide)]; rfl
            · skip
              have h15 := f_not h13
              refine a_rseq ?_
              refine rg_put (d := 39) (v := .pt 102 3) rfl (og rfl (of_eff (s_field_pt rfl Try.underlying40 rfl ti3 rfl rfl rfl) rfl)) ?_
              refine rg_put (d := 40) (v := .d (.fl (.int .i64 ((ix l k).state)))) rfl (og rfl (op_load_pt rfl Try.underlying3 rfl rfl rfl rfl rfl)) ?_
              refine rg_put (d := 41) (v := .d (.fl (.bool ((decide ((ix l k).state < 1)))))) rfl (og rfl (op_bin rfl rfl rfl (b_lss _ _ _ _) rfl)) ?_
              refine rg_put (d := 42) (v := .d (.fl (.bool ((decide ((ix l k).state < 1)))))) rfl (og rfl (op_move rfl rfl rfl)) ?_
              rcases fot ((decide ((ix l k).state < 1))) with h16 | h16
              · skip
                have h17 := f_dec h16
                refine rg_put (d := 43) (v := .pt 102 3) rfl (oy rfl rfl rfl h16 (of_eff (s_field_pt rfl Try.underlying40 rfl ti3 rfl rfl rfl) rfl)) ?_
                refine rg_put (d := 44) (v := .d (.fl (.int .i64 ((ix l k).state)))) rfl (oy rfl rfl rfl h16 (op_load_pt rfl Try.underlying3 rfl rfl rfl rfl rfl)) ?_
                refine rg_put (d := 45) (v := .d (.fl (.bool ((decide (4 < (ix l k).state)))))) rfl (oy rfl rfl rfl h16 (op_bin rfl rfl rfl (b_gtr _ _ _ _) rfl)) ?_
                refine rg_put (d := 46) (v := .d (.fl (.bool ((decide (4 < (ix l k).state)))))) rfl (og rfl (op_pick rfl rfl (by rw [h16]; rfl) rfl)) ?_
                refine rg_put (d := 38) (v := .d (.fl (.bool ((decide (4 < (ix l k).state)))))) rfl (og rfl (op_assign rfl rfl rfl)) ?_
                refine rg_done rfl ?_
                refine a_cond rfl (fun h18 => ?_) (fun h18 => ?_)
                · skip
                  have h19 := t_dec h18
                  refine a_rseq ?_
                  refine rg_put (d := 2) (v := .d (.fl (.int .i64 1))) rfl (og rfl (op_assign rfl rfl rfl)) ?_
                  refine rg_done rfl ?_
                  refine a_ret ?_
                  show ∃ ds, ResL _ _ _ ds ∧ RV.of ds = _
                  refine ⟨[.fl (.int .i64 1)], (.cons (.tmp rfl (.d _)) .nil), ?_⟩
                  have hdup : dup l k = false := h9
                  have hb : bad l k = 1 := by
                    unfold bad one; simp only [h1, h4, h6, h8, h9, h10, h12, h13, h15, h16, h18, hdup]; rfl
                  rw [fe_yes (by omega) hc hb (by decide)]; rfl
                · skip
                  have h20 := f_dec h18
                  refine a_rseq ?_
                  refine rg_put (d := 48) (v := .pt 102 4) rfl (og rfl (of_eff (s_field_pt rfl Try.underlying40 rfl ti38 rfl rfl rfl) rfl)) ?_
                  refine rg_put (d := 49) (v := .d (.sl 1 (List.map rS ((ix l k).proofs)))) rfl (og rfl (op_load_pt rfl Try.underlying38 rfl rfl rfl rfl rfl)) ?_
                  refine rg_put (d := 50) (v := .d (.fl (.int .i64 ((((ix l k).proofs).length : Int))))) rfl (og rfl (s_len rfl Try.underlying38 rfl rfl)) ?_
                  refine rg_put (d := 51) (v := .d (.fl (.bool ((decide (16 < (((ix l k).proofs).length : Int))))))) rfl (og rfl (op_bin rfl rfl rfl (b_gtr _ _ _ _) rfl)) ?_
                  refine rg_put (d := 47) (v := .d (.fl (.bool ((decide (16 < (((ix l k).proofs).length : Int))))))) rfl (og rfl (op_assign rfl rfl rfl)) ?_
                  refine rg_done rfl ?_
                  refine a_cond rfl (fun h21 => ?_) (fun h21 => ?_)
                  · skip
                    have h22 := t_dec h21
                    refine a_rseq ?_
                    refine rg_put (d := 2) (v := .d (.fl (.int .i64 3))) rfl (og rfl (op_assign rfl rfl rfl)) ?_
                    refine rg_done rfl ?_
                    refine a_ret ?_
                    show ∃ ds, ResL _ _ _ ds ∧ RV.of ds = _
                    refine ⟨[.fl (.int .i64 3)], (.cons (.tmp rfl (.d _)) .nil), ?_⟩
                    have hdup : dup l k = false := h9
                    have hb : bad l k = 3 := by
                      unfold bad one; simp only [h1, h4, h6, h8, h9, h10, h12, h13, h15, h16, h18, h21, hdup]; rfl
                    rw [fe_yes (by omega) hc hb (by decide)]; rfl
                  · skip
                    have h23 := f_dec h21
                    refine a_skip ?_
                    show A _ _ _ _ _ _ _
                    refine a_rseq ?_
                    refine rg_put (d := 52) (v := .ow 101) rfl (og rfl (op_move rfl rfl rfl)) ?_
                    refine rg_put (d := 53) (v := .pt 102 0) rfl (og rfl (of_eff (s_field_pt rfl Try.underlying40 rfl ti9 rfl rfl rfl) rfl)) ?_
                    refine rg_put (d := 54) (v := .d (.fl (.string ((ix l k).key)))) rfl (og rfl (op_load_pt rfl Try.underlying9 rfl rfl rfl rfl rfl)) ?_
                    refine rg_sto (nw := [(101, .mp ((setE (l.take k)) ++ [((.string ((ix l k).key)), .fl (.bool true))]))]) rfl (og rfl (op_mapPush rfl rfl Try.underlying47 Try.underlying9 rfl rfl rfl rfl ((mfind_set Dp.key _ _).trans (by rw [h9]; rfl)) rfl)) ?_
                    refine rg_done rfl ?_
                    refine a_rseq ?_
                    refine rg_put (d := 55) (v := .pt 102 4) rfl (og rfl (of_eff (s_field_pt rfl Try.underlying40 rfl ti38 rfl rfl rfl) rfl)) ?_
                    refine rg_put (d := 56) (v := .d (.sl 1 (List.map rS ((ix l k).proofs)))) rfl (og rfl (op_load_pt rfl Try.underlying38 rfl rfl rfl rfl rfl)) ?_
                    refine rg_put (d := 57) (v := .d (.fl (.int .i64 ((((ix l k).proofs).length : Int))))) rfl (og rfl (s_len rfl Try.underlying38 rfl rfl)) ?_
                    refine rg_put (d := 58) (v := .d (.fl (.int .i64 0))) rfl (og rfl (op_move rfl rfl rfl)) ?_
                    refine rg_done rfl ?_
                    refine a_block ?_
                    refine a_loop (ι := Nat) (fun j => SS [(0, .d (.sl 5 (List.map eDp l))), (3, .ow 101), (5, .pt 102 0), (10, .d (.fl (.bool ((decide (1024 < (l.length : Int))))))), (12, .d (.sl 5 (List.map eDp l))), (13, .d (.fl (.int .i64 (l.length : Int)))), (14, .d (.fl (.int .i64 (k : Int)))), (15, .d (.fl (.bool ((decide ((k : Int) < (l.length : Int))))))), (18, .d (.fl (.bool ((!((isR ((ix l k).key)))))))), (23, .d (.fl (.bool false))), (28, .d (.fl (.bool ((!((isT ((ix l k).time)))))))), (33, .d (.fl (.bool ((!((isC ((ix l k).cents)))))))), (38, .d (.fl (.bool ((decide (4 < (ix l k).state)))))), (47, .d (.fl (.bool ((decide (16 < (((ix l k).proofs).length : Int))))))), (56, .d (.sl 1 (List.map rS ((ix l k).proofs)))), (57, .d (.fl (.int .i64 ((((ix l k).proofs).length : Int))))), (58, .d (.fl (.int .i64 (j : Int))))] [(101, .mp (((setE (l.take k)) ++ [((.string ((ix l k).key)), .fl (.bool true))]))), (102, .bx 40 ((eDp (ix l k))))]) (fun j => j ≤ (ix l k).proofs.length ∧ fe (pj (ix l k).proofs) 0 (ix l k).proofs.length = fe (pj (ix l k).proofs) j ((ix l k).proofs.length - j)) (fun j => (ix l k).proofs.length - j) 0 (⟨by omega, by rw [Nat.sub_zero]⟩) (imp_forget rfl ⟨rfl, rfl, rfl, rfl, rfl, rfl, rfl, rfl, rfl, rfl, rfl, rfl, rfl, rfl, rfl, rfl, (by first | rfl | exact ci (by omega) | exact ci (by simp) | exact cd (by simp) | simp), trivial⟩ ⟨rfl, rfl, trivial⟩) (fun j hok => ?_)
                    obtain ⟨hj, hcj⟩ := hok
                    refine a_rseq ?_
                    refine rg_put (d := 59) (v := .d (.fl (.bool ((decide ((j : Int) < (((ix l k).proofs).length : Int))))))) rfl (og rfl (op_bin rfl rfl rfl (b_lss _ _ _ _) rfl)) ?_
                    refine rg_done rfl ?_
                    refine a_seq ?_
                    refine a_cond rfl (fun h24 => ?_) (fun h24 => ?_)
                    · skip
                      have h25 := t_dec h24
                      refine a_skip ?_
                      show A _ _ _ _ _ _ _
                      refine a_seq ?_
                      refine a_block ?_
                      refine a_rseq ?_
                      refine rg_put (d := 60) (v := .d (.fl (.int .i64 (j : Int)))) rfl (og rfl (op_move rfl rfl rfl)) ?_
                      refine rg_put (d := 61) (v := .el ((rS ((ix ((ix l k).proofs) j))))) rfl (og rfl (s_index rfl Try.underlying38 ti9 rfl rfl (by omega) (row_at (by omega)) rfl)) ?_
                      refine rg_put (d := 62) (v := .d (.fl (.string ((ix ((ix l k).proofs) j))))) rfl (og rfl (op_load_el rfl Try.underlying9 rfl rfl rfl rfl)) ?_
                      refine rg_put (d := 6) (v := .d (.fl (.int .i64 (j : Int)))) rfl (og rfl (op_assign rfl rfl rfl)) ?_
                      refine rg_put (d := 7) (v := .d (.fl (.string ((ix ((ix l k).proofs) j))))) rfl (og rfl (op_assign rfl rfl rfl)) ?_
                      refine rg_done rfl ?_
                      refine a_seq ?_
                      refine a_rseq ?_
                      refine rg_put (d := 63) (v := .d (.fl (.string ((ix ((ix l k).proofs) j))))) rfl (og rfl (op_move rfl rfl rfl)) ?_
                      refine rg_put (d := 64) (v := .d (.fl (.bool ((isR ((ix ((ix l k).proofs) j))))))) rfl (og rfl (op_call rfl Try.func19 nm19 rfl (.cons rfl (.d _) .nil) (isR19 ((ix ((ix l k).proofs) j))) rfl)) ?_
                      refine rg_put (d := 65) (v := .d (.fl (.bool ((!((isR ((ix ((ix l k).proofs) j))))))))) rfl (og rfl (op_un rfl rfl (u_not _) rfl)) ?_
                      refine rg_done rfl ?_
                      refine a_cond rfl (fun h26 => ?_) (fun h26 => ?_)
                      · skip
                        have h27 := t_not h26
                        refine a_rseq ?_
                        refine rg_put (d := 2) (v := .d (.fl (.int .i64 5))) rfl (og rfl (op_assign rfl rfl rfl)) ?_
                        refine rg_done rfl ?_
                        refine a_ret ?_
                        show ∃ ds, ResL _ _ _ ds ∧ RV.of ds = _
                        refine ⟨[.fl (.int .i64 5)], (.cons (.tmp rfl (.d _)) .nil), ?_⟩
                        have hdup : dup l k = false := h9
                        have hpj : pj (ix l k).proofs j = 5 := by
                          unfold pj; simp only [h1, h4, h6, h8, h9, h10, h12, h13, h15, h16, h18, h21, h24, h26, h27]; rfl
                        have hin := fe_yes (by omega) hcj hpj (by decide)
                        have hb : bad l k = 5 := by
                          unfold bad one; simp only [h1, h4, h6, h8, h9, h10, h12, h13, h15, h16, h18, h21, h24, h26, h27, hdup, hin]; rfl
                        rw [fe_yes (by omega) hc hb (by decide)]; rfl
                      · skip
                        have h28 := f_not h26
                        refine a_skip ?_
                        show A _ _ _ _ _ _ _
                        refine a_rseq ?_
                        refine rg_put (d := 66) (v := .pt 102 4) rfl (og rfl (of_eff (s_field_pt rfl Try.underlying40 rfl ti38 rfl rfl rfl) rfl)) ?_
                        refine rg_put (d := 67) (v := .d (.sl 1 (List.map rS ((ix l k).proofs)))) rfl (og rfl (op_load_pt rfl Try.underlying38 rfl rfl rfl rfl rfl)) ?_
                        refine rg_put (d := 68) (v := .d (.fl (.int .i64 (j : Int)))) rfl (og rfl (op_move rfl rfl rfl)) ?_
                        refine rg_put (d := 69) (v := .d (.sl 1 (List.map rS (((((ix l k).proofs).drop 0).take (j - 0)))))) rfl (og rfl (s_slice rfl Try.underlying38 ti9 rfl (.no _) (.so (n := j) _ rfl (by omega)) (by omega) (by omega) rfl)) ?_
                        refine rg_put (d := 70) (v := .d (.fl (.string ((ix ((ix l k).proofs) j))))) rfl (og rfl (op_move rfl rfl rfl)) ?_
                        refine rg_put (d := 71) (v := .d (.fl (.bool ((am ((ix ((ix l k).proofs) j)) (((((ix l k).proofs).drop 0).take (j - 0)))))))) rfl (og rfl (op_call rfl Try.func22 nm22 rfl (.cons rfl (.d _) (.cons rfl (.d _) .nil)) (str_am (((((ix l k).proofs).drop 0).take (j - 0))) ((ix ((ix l k).proofs) j)) (by simp only [List.length_take, List.length_drop]; omega)) rfl)) ?_
                        refine rg_done rfl ?_
                        refine a_cond rfl (fun h29 => ?_) (fun h29 => ?_)
                        · skip
                          refine a_rseq ?_
                          refine rg_put (d := 2) (v := .d (.fl (.int .i64 9))) rfl (og rfl (op_assign rfl rfl rfl)) ?_
                          refine rg_done rfl ?_
                          refine a_ret ?_
                          show ∃ ds, ResL _ _ _ ds ∧ RV.of ds = _
                          refine ⟨[.fl (.int .i64 9)], (.cons (.tmp rfl (.d _)) .nil), ?_⟩
                          have hdup : dup l k = false := h9
                          have hpj : pj (ix l k).proofs j = 9 := by
                            unfold pj; simp only [h1, h4, h6, h8, h9, h10, h12, h13, h15, h16, h18, h21, h24, h26, h28, h29]; rfl
                          have hin := fe_yes (by omega) hcj hpj (by decide)
                          have hb : bad l k = 9 := by
                            unfold bad one; simp only [h1, h4, h6, h8, h9, h10, h12, h13, h15, h16, h18, h21, h24, h26, h28, h29, hdup, hin]; rfl
                          rw [fe_yes (by omega) hc hb (by decide)]; rfl
                        · skip
                          refine a_skip ?_
                          show A _ _ _ _ _ _ _
                          refine a_region ?_
                          refine rg_put (d := 72) (v := .d (.fl (.int .i64 (((j : Int) + 1))))) rfl (og rfl (op_bin rfl rfl rfl (fun x y w => b_add64 _ _ _ x y w (by omega)) rfl)) ?_
                          refine rg_put (d := 58) (v := .d (.fl (.int .i64 (((j : Int) + 1))))) rfl (og rfl (op_move rfl rfl rfl)) ?_
                          refine rg_done rfl ?_
                          have hpj : pj (ix l k).proofs j = 0 := by
                            unfold pj; simp only [h1, h4, h6, h8, h9, h10, h12, h13, h15, h16, h18, h21, h24, h26, h28, h29]; rfl
                          show ∃ i, _ ∧ _ ∧ Imp _ _ _ _ _
                          refine ⟨j + 1, ⟨by omega, fe_no (by omega) hcj hpj⟩, by omega, imp_forget rfl ⟨rfl, rfl, rfl, rfl, rfl, rfl, rfl, rfl, rfl, rfl, rfl, rfl, rfl, rfl, rfl, rfl, (by first | rfl | exact ci (by omega) | exact ci (by simp) | exact cd (by simp) | simp), trivial⟩ ⟨rfl, rfl, trivial⟩⟩
                    · skip
                      have h30 := f_dec h24
                      refine a_exit ?_
                      show A _ _ _ _ _ _ _
                      refine a_region ?_
                      refine rg_put (d := 73) (v := .d (.fl (.int .i64 (((k : Int) + 1))))) rfl (og rfl (op_bin rfl rfl rfl (fun x y w => b_add64 _ _ _ x y w (by omega)) rfl)) ?_
                      refine rg_put (d := 14) (v := .d (.fl (.int .i64 (((k : Int) + 1))))) rfl (og rfl (op_move rfl rfl rfl)) ?_
                      refine rg_done rfl ?_
                      have hdup : dup l k = false := h9
                      have hin := hcj.trans (fe_end (by omega))
                      have hb : bad l k = 0 := by
                        unfold bad one; simp only [h1, h4, h6, h8, h9, h10, h12, h13, h15, h16, h18, h21, h24, hdup, hin]; rfl
                      show ∃ i, _ ∧ _ ∧ Imp _ _ _ _ _
                      refine ⟨k + 1, ⟨by omega, fe_no (by omega) hc hb⟩, by omega, imp_forget rfl ⟨rfl, rfl, rfl, rfl, rfl, (by first | rfl | exact ci (by omega) | exact ci (by simp) | exact cd (by simp) | simp), trivial⟩ ⟨(congrArg Ob.mp (setE_take (by omega))), trivial⟩⟩
              · skip
                have h31 := t_dec h16
                refine rg_put (d := 43) (v := .d (.fl undef)) rfl (on rfl rfl rfl h16) ?_
                refine rg_put (d := 44) (v := .d (.fl undef)) rfl (on rfl rfl rfl h16) ?_
                refine rg_put (d := 45) (v := .d (.fl undef)) rfl (on rfl rfl rfl h16) ?_
                refine rg_put (d := 46) (v := .d (.fl (.bool true))) rfl (og rfl (op_pick rfl rfl (by rw [h16]; rfl) rfl)) ?_
                refine rg_put (d := 38) (v := .d (.fl (.bool true))) rfl (og rfl (op_assign rfl rfl rfl)) ?_
                refine rg_done rfl ?_
                refine a_condK rfl rfl ?_
                refine a_rseq ?_
                refine rg_put (d := 2) (v := .d (.fl (.int .i64 1))) rfl (og rfl (op_assign rfl rfl rfl)) ?_
                refine rg_done rfl ?_
                refine a_ret ?_
                show ∃ ds, ResL _ _ _ ds ∧ RV.of ds = _
                refine ⟨[.fl (.int .i64 1)], (.cons (.tmp rfl (.d _)) .nil), ?_⟩
                have hdup : dup l k = false := h9
                have hb : bad l k = 1 := by
                  unfold bad one; simp only [h1, h4, h6, h8, h9, h10, h12, h13, h15, h16, hdup]; rfl
                rw [fe_yes (by omega) hc hb (by decide)]; rfl
        · skip
          refine rg_put (d := 27) (v := .d (.fl (.bool true))) rfl (og rfl (op_lookup1 rfl Try.underlying47 Try.underlying9 rfl ti4 rfl rfl (.ow rfl) rfl (r := (some (.fl (.bool true)))) ((mfind_set Dp.key _ _).trans (by rw [h9]; rfl)) rfl rfl)) ?_
          refine rg_put (d := 23) (v := .d (.fl (.bool true))) rfl (og rfl (op_assign rfl rfl rfl)) ?_
          refine rg_done rfl ?_
          refine a_condK rfl rfl ?_
          refine a_rseq ?_
          refine rg_put (d := 2) (v := .d (.fl (.int .i64 9))) rfl (og rfl (op_assign rfl rfl rfl)) ?_
          refine rg_done rfl ?_
          refine a_ret ?_
          show ∃ ds, ResL _ _ _ ds ∧ RV.of ds = _
          refine ⟨[.fl (.int .i64 9)], (.cons (.tmp rfl (.d _)) .nil), ?_⟩
          have hdup : dup l k = true := h9
          have hb : bad l k = 9 := by
            unfold bad one; simp only [h1, h4, h6, h8, h9, hdup]; rfl
          rw [fe_yes (by omega) hc hb (by decide)]; rfl
    · skip
      have h32 := f_dec h4
      refine a_exit ?_
      show A _ _ _ _ _ _ _
      refine a_rseq ?_
      refine rg_put (d := 2) (v := .d (.fl (.int .i64 0))) rfl (og rfl (op_assign rfl rfl rfl)) ?_
      refine rg_done rfl ?_
      refine a_ret ?_
      show ∃ ds, ResL _ _ _ ds ∧ RV.of ds = _
      refine ⟨[.fl (.int .i64 0)], (.cons (.tmp rfl (.d _)) .nil), ?_⟩
      rw [fe_end (by omega)] at hc
      rw [hc]; rfl
end Go.Proofs.Ytocjbombpggmeaa.Wk
