/- The law of the credits. No condition. -/
import Derived.Test.YtocjbombpggmeaaLawB
set_option linter.unusedSimpArgs false
set_option linter.unusedVariables false
namespace Go.Proofs.Ytocjbombpggmeaa.Wk
open Go Go.RowKit Go.Proofs.Ytocjbombpggmeaa.Av
set_option maxHeartbeats 4000000 in
set_option maxRecDepth 100000 in
theorem law6 (ds : List Dd) : Ctr Try.prog 6 [.sl 6 (List.map eDd ds)] (.d (.fl (.bool true))) := by
  refine ctr (n := 95) (rs := #[.tmp 2]) (L := [(0, .d (.sl 6 (List.map eDd ds)))]) Try.func6 rfl rfl rfl rfl rfl (fun w0 U0 => ?_)
  refine a_rseq ?_
  refine rg_put (d := 2) (v := .d (.fl (.bool false))) rfl (og rfl (op_assign rfl rfl rfl)) ?_
  refine rg_done rfl ?_
  refine a_rseq ?_
  refine rg_put (d := 3) (v := .d (.fl (.slice none 0 0))) rfl (og rfl (op_assign rfl rfl rfl)) ?_
  refine rg_done rfl ?_
  refine a_rseq ?_
  refine rg_imp (imp_nilT 3 101 40 5 rfl rfl) ?_
  refine rg_imp (imp_leakE 3 101 (rows' := List.map eDp ([] : List Dp)) rfl rfl (fun r h => by cases h) rfl) ?_
  refine rg_put (d := 4) (v := .d (.fl (.int .i64 0))) rfl (og rfl (op_assign rfl rfl rfl)) ?_
  refine rg_done rfl ?_
  refine a_seq ?_
  refine a_rseq ?_
  refine rg_put (d := 14) (v := .d (.sl 6 (List.map eDd ds))) rfl (og rfl (op_move rfl rfl rfl)) ?_
  refine rg_put (d := 15) (v := .d (.sl 6 (List.map eDd ds))) rfl (og rfl (op_move rfl rfl rfl)) ?_
  refine rg_put (d := 16) (v := .d (.fl (.int .i64 (ds.length : Int)))) rfl (og rfl (s_len rfl Try.underlying36 rfl rfl)) ?_
  refine rg_put (d := 17) (v := .d (.fl (.int .i64 ((min (ds.length : Int) 60))))) rfl (og rfl (op_min rfl rfl rfl rfl)) ?_
  refine rg_put (d := 18) (v := .d (.sl 6 (List.map eDd (((ds.drop 0).take (((min (ds.length : Int) 60)).toNat - 0)))))) rfl (og rfl (s_slice rfl Try.underlying36 ti29 rfl (.no _) (.so (n := ((min (ds.length : Int) 60)).toNat) _ rfl (by omega)) (by omega) (by omega) rfl)) ?_
  refine rg_put (d := 19) (v := .d (.fl (.int .i64 (((((ds.drop 0).take (((min (ds.length : Int) 60)).toNat - 0))).length : Int))))) rfl (og rfl (s_len rfl Try.underlying36 rfl rfl)) ?_
  refine rg_put (d := 20) (v := .d (.fl (.int .i64 0))) rfl (og rfl (op_move rfl rfl rfl)) ?_
  refine rg_done rfl ?_
  refine a_block ?_
  refine a_loop (ι := Nat) (fun k => SS [(0, .d (.sl 6 (List.map eDd ds))), (18, .d (.sl 6 (List.map eDd (((ds.drop 0).take (((min (ds.length : Int) 60)).toNat - 0)))))), (19, .d (.fl (.int .i64 (((((ds.drop 0).take (((min (ds.length : Int) 60)).toNat - 0))).length : Int))))), (3, .d (.sl 5 (List.map eDp ((pl ((ds.drop 0).take ((min (ds.length : Int) 60).toNat - 0)) k))))), (4, .d (.fl (.int .i64 ((cr ((ds.drop 0).take ((min (ds.length : Int) 60).toNat - 0)) k))))), (20, .d (.fl (.int .i64 (k : Int))))] []) (fun k => k ≤ ((ds.drop 0).take ((min (ds.length : Int) 60).toNat - 0)).length) (fun k => ((ds.drop 0).take ((min (ds.length : Int) 60).toNat - 0)).length - k) 0 (by omega) (imp_forget rfl ⟨rfl, rfl, rfl, (by first | rfl | exact ci (by omega) | exact ci (by simp) | exact cd (by simp) | simp), (by first | rfl | exact ci (by omega) | exact ci (by simp) | exact cd (by simp) | simp), (by first | rfl | exact ci (by omega) | exact ci (by simp) | exact cd (by simp) | simp), trivial⟩ trivial) (fun k hok => ?_)
  have hk := hok
  have hE := cut_len (ds := ds)
  obtain ⟨hl61, hb, hc, hw⟩ := (pl_inv ((ds.drop 0).take ((min (ds.length : Int) 60).toNat - 0)) k).hc (by omega)
  have hl : (pl ((ds.drop 0).take ((min (ds.length : Int) 60).toNat - 0)) k).length ≤ 1100 := by omega
  have hcr := cr_le ((ds.drop 0).take ((min (ds.length : Int) 60).toNat - 0)) k
  have hcr1 := cr_le ((ds.drop 0).take ((min (ds.length : Int) 60).toNat - 0)) (k + 1)
  have hcr1 : 0 ≤ cr ((ds.drop 0).take ((min (ds.length : Int) 60).toNat - 0)) k + (doe ((pl ((ds.drop 0).take ((min (ds.length : Int) 60).toNat - 0)) k)) ((ix (((ds.drop 0).take ((min (ds.length : Int) 60).toNat - 0))) k))).1.2 ∧ cr ((ds.drop 0).take ((min (ds.length : Int) 60).toNat - 0)) k + (doe ((pl ((ds.drop 0).take ((min (ds.length : Int) 60).toNat - 0)) k)) ((ix (((ds.drop 0).take ((min (ds.length : Int) 60).toNat - 0))) k))).1.2 ≤ ((k + 1 : Nat) : Int) * 1125899906842624 := hcr1
  have hdc := doe_cases (pl ((ds.drop 0).take ((min (ds.length : Int) 60).toNat - 0)) k) (ix (((ds.drop 0).take ((min (ds.length : Int) 60).toNat - 0))) k)
  have hln := hdc.len
  refine a_rseq ?_
  refine rg_put (d := 21) (v := .d (.fl (.bool ((decide ((k : Int) < ((((ds.drop 0).take (((min (ds.length : Int) 60)).toNat - 0))).length : Int))))))) rfl (og rfl (op_bin rfl rfl rfl (b_lss _ _ _ _) rfl)) ?_
  refine rg_done rfl ?_
  refine a_seq ?_
  refine a_cond rfl (fun h1 => ?_) (fun h1 => ?_)
  · skip
    have h2 := t_dec h1
    refine a_skip ?_
    show A _ _ _ _ _ _ _
    refine a_seq ?_
    refine a_block ?_
    refine a_rseq ?_
    refine rg_put (d := 22) (v := .el ((eDd ((ix (((ds.drop 0).take (((min (ds.length : Int) 60)).toNat - 0))) k))))) rfl (og rfl (s_index rfl Try.underlying36 ti29 rfl rfl (by omega) (row_at (by omega)) rfl)) ?_
    refine rg_put (d := 23) (v := .d (.ag (eDd (((ix (((ds.drop 0).take (((min (ds.length : Int) 60)).toNat - 0))) k)))))) rfl (og rfl (of_eff (s_load_els rfl Try.underlying29 rfl ti29 rfl rfl rfl) rfl)) ?_
    refine rg_nam (d := 6) (v := .pt 102 0) (m := 102) (nw := [(102, .bx 29 ([.fl (.int .i64 0), .fl (.string (⟨#[]⟩)), .fl (.string (⟨#[]⟩)), .fl (.int .i64 0), .fl (.int .i64 0), .fl (.bool false)]))]) rfl (og rfl (of_eff (s_alloc 102 rfl ti29 (by kernel_rfl) rfl) rfl)) rfl ?_
    refine rg_sto (nw := [(102, .bx 29 ((eDd (((ix (((ds.drop 0).take (((min (ds.length : Int) 60)).toNat - 0))) k))))))]) rfl (og rfl (of_eff (s_store rfl rfl ti29 rfl rfl rfl rfl rfl rfl) rfl)) ?_
    refine rg_done rfl ?_
    refine a_rseq ?_
    refine rg_put (d := 25) (v := .d (.sl 5 (List.map eDp ((pl ((ds.drop 0).take ((min (ds.length : Int) 60).toNat - 0)) k))))) rfl (og rfl (op_move rfl rfl rfl)) ?_
    refine rg_put (d := 26) (v := .d (.ag (eDd ((((ix (((ds.drop 0).take (((min (ds.length : Int) 60)).toNat - 0))) k))))))) rfl (og rfl (of_eff (s_load_pts rfl Try.underlying29 rfl ti29 rfl rfl rfl rfl) rfl)) ?_
    refine rg_put (d := 27) (v := .tu [.sl 5 (List.map eDp ((doe ((pl ((ds.drop 0).take ((min (ds.length : Int) 60).toNat - 0)) k)) ((((ix (((ds.drop 0).take (((min (ds.length : Int) 60)).toNat - 0))) k))))).1.1)), .fl (.int .i64 ((doe ((pl ((ds.drop 0).take ((min (ds.length : Int) 60).toNat - 0)) k)) ((((ix (((ds.drop 0).take (((min (ds.length : Int) 60)).toNat - 0))) k))))).1.2)), .fl (.int .i64 ((doe ((pl ((ds.drop 0).take ((min (ds.length : Int) 60).toNat - 0)) k)) ((((ix (((ds.drop 0).take (((min (ds.length : Int) 60)).toNat - 0))) k))))).2))]) rfl (og rfl (op_call rfl Try.func12 nm12 rfl (.cons rfl (.d _) (.cons rfl (.d _) .nil)) (does12 ((pl ((ds.drop 0).take ((min (ds.length : Int) 60).toNat - 0)) k)) ((((ix (((ds.drop 0).take (((min (ds.length : Int) 60)).toNat - 0))) k))))  hl hb hc hw) rfl)) ?_
    refine rg_put (d := 24) (v := .tu [.sl 5 (List.map eDp ((doe ((pl ((ds.drop 0).take ((min (ds.length : Int) 60).toNat - 0)) k)) ((((ix (((ds.drop 0).take (((min (ds.length : Int) 60)).toNat - 0))) k))))).1.1)), .fl (.int .i64 ((doe ((pl ((ds.drop 0).take ((min (ds.length : Int) 60).toNat - 0)) k)) ((((ix (((ds.drop 0).take (((min (ds.length : Int) 60)).toNat - 0))) k))))).1.2)), .fl (.int .i64 ((doe ((pl ((ds.drop 0).take ((min (ds.length : Int) 60).toNat - 0)) k)) ((((ix (((ds.drop 0).take (((min (ds.length : Int) 60)).toNat - 0))) k))))).2))]) rfl (og rfl (op_move rfl rfl rfl)) ?_
    refine rg_put (d := 28) (v := .d (.sl 5 (List.map eDp ((doe ((pl ((ds.drop 0).take ((min (ds.length : Int) 60).toNat - 0)) k)) ((((ix (((ds.drop 0).take (((min (ds.length : Int) 60)).toNat - 0))) k))))).1.1)))) rfl (og rfl (op_extract rfl rfl rfl rfl)) ?_
    refine rg_put (d := 29) (v := .d (.fl (.int .i64 ((doe ((pl ((ds.drop 0).take ((min (ds.length : Int) 60).toNat - 0)) k)) ((((ix (((ds.drop 0).take (((min (ds.length : Int) 60)).toNat - 0))) k))))).1.2)))) rfl (og rfl (op_extract rfl rfl rfl rfl)) ?_
    refine rg_put (d := 30) (v := .d (.fl (.int .i64 ((doe ((pl ((ds.drop 0).take ((min (ds.length : Int) 60).toNat - 0)) k)) ((((ix (((ds.drop 0).take (((min (ds.length : Int) 60)).toNat - 0))) k))))).2)))) rfl (og rfl (op_extract rfl rfl rfl rfl)) ?_
    refine rg_put (d := 7) (v := .d (.sl 5 (List.map eDp ((doe ((pl ((ds.drop 0).take ((min (ds.length : Int) 60).toNat - 0)) k)) ((((ix (((ds.drop 0).take (((min (ds.length : Int) 60)).toNat - 0))) k))))).1.1)))) rfl (og rfl (op_assign rfl rfl rfl)) ?_
    refine rg_put (d := 8) (v := .d (.fl (.int .i64 ((doe ((pl ((ds.drop 0).take ((min (ds.length : Int) 60).toNat - 0)) k)) ((((ix (((ds.drop 0).take (((min (ds.length : Int) 60)).toNat - 0))) k))))).1.2)))) rfl (og rfl (op_assign rfl rfl rfl)) ?_
    refine rg_put (d := 9) (v := .d (.fl (.int .i64 ((doe ((pl ((ds.drop 0).take ((min (ds.length : Int) 60).toNat - 0)) k)) ((((ix (((ds.drop 0).take (((min (ds.length : Int) 60)).toNat - 0))) k))))).2)))) rfl (og rfl (op_assign rfl rfl rfl)) ?_
    refine rg_done rfl ?_
    refine a_seq ?_
    refine a_rseq ?_
    refine rg_put (d := 31) (v := .d (.fl (.int .i64 ((doe ((pl ((ds.drop 0).take ((min (ds.length : Int) 60).toNat - 0)) k)) ((((ix (((ds.drop 0).take (((min (ds.length : Int) 60)).toNat - 0))) k))))).2)))) rfl (og rfl (op_move rfl rfl rfl)) ?_
    refine rg_put (d := 32) (v := .d (.fl (.bool (((doe ((pl ((ds.drop 0).take ((min (ds.length : Int) 60).toNat - 0)) k)) ((((ix (((ds.drop 0).take (((min (ds.length : Int) 60)).toNat - 0))) k))))).2 != 0))))) rfl (og rfl (op_bin rfl rfl rfl (b_neq _ _ _ _) rfl)) ?_
    refine rg_put (d := 33) (v := .d (.fl (.bool (((doe ((pl ((ds.drop 0).take ((min (ds.length : Int) 60).toNat - 0)) k)) ((((ix (((ds.drop 0).take (((min (ds.length : Int) 60)).toNat - 0))) k))))).2 != 0))))) rfl (og rfl (op_move rfl rfl rfl)) ?_
    rcases fot (((doe ((pl ((ds.drop 0).take ((min (ds.length : Int) 60).toNat - 0)) k)) ((((ix (((ds.drop 0).take (((min (ds.length : Int) 60)).toNat - 0))) k))))).2 != 0)) with h3 | h3
    · skip
      have h4 := f_bne h3
      refine rg_put (d := 34) (v := .d (.fl undef)) rfl (on rfl rfl rfl h3) ?_
      refine rg_put (d := 35) (v := .d (.fl undef)) rfl (on rfl rfl rfl h3) ?_
      refine rg_put (d := 36) (v := .d (.fl (.bool false))) rfl (og rfl (op_pick rfl rfl (by rw [h3]; rfl) rfl)) ?_
      refine rg_put (d := 37) (v := .d (.fl (.bool false))) rfl (og rfl (op_move rfl rfl rfl)) ?_
      refine rg_put (d := 38) (v := .d (.sl 5 (List.map eDp ((doe ((pl ((ds.drop 0).take ((min (ds.length : Int) 60).toNat - 0)) k)) ((((ix (((ds.drop 0).take (((min (ds.length : Int) 60)).toNat - 0))) k))))).1.1)))) rfl (oy rfl rfl rfl rfl (op_move rfl rfl rfl)) ?_
      refine rg_put (d := 39) (v := .d (.fl (.int .i64 ((((doe ((pl ((ds.drop 0).take ((min (ds.length : Int) 60).toNat - 0)) k)) ((((ix (((ds.drop 0).take (((min (ds.length : Int) 60)).toNat - 0))) k))))).1.1).length : Int))))) rfl (oy rfl rfl rfl rfl (s_len rfl Try.underlying22 rfl rfl)) ?_
      refine rg_put (d := 40) (v := .d (.sl 5 (List.map eDp ((pl ((ds.drop 0).take ((min (ds.length : Int) 60).toNat - 0)) k))))) rfl (oy rfl rfl rfl rfl (op_move rfl rfl rfl)) ?_
      refine rg_put (d := 41) (v := .d (.fl (.int .i64 ((((pl ((ds.drop 0).take ((min (ds.length : Int) 60).toNat - 0)) k)).length : Int))))) rfl (oy rfl rfl rfl rfl (s_len rfl Try.underlying22 rfl rfl)) ?_
      refine rg_put (d := 42) (v := .d (.fl (.bool ((decide ((((doe ((pl ((ds.drop 0).take ((min (ds.length : Int) 60).toNat - 0)) k)) ((((ix (((ds.drop 0).take (((min (ds.length : Int) 60)).toNat - 0))) k))))).1.1).length : Int) < (((pl ((ds.drop 0).take ((min (ds.length : Int) 60).toNat - 0)) k)).length : Int))))))) rfl (oy rfl rfl rfl rfl (op_bin rfl rfl rfl (b_lss _ _ _ _) rfl)) ?_
      refine rg_put (d := 43) (v := .d (.fl (.bool ((decide ((((doe ((pl ((ds.drop 0).take ((min (ds.length : Int) 60).toNat - 0)) k)) ((((ix (((ds.drop 0).take (((min (ds.length : Int) 60)).toNat - 0))) k))))).1.1).length : Int) < (((pl ((ds.drop 0).take ((min (ds.length : Int) 60).toNat - 0)) k)).length : Int))))))) rfl (og rfl (op_pick rfl rfl rfl rfl)) ?_
      refine rg_done rfl ?_
      refine a_cond rfl (fun h5 => ?_) (fun h5 => ?_)
      · skip
        have h6 := t_dec h5
        refine a_rseq ?_
        refine rg_put (d := 2) (v := .d (.fl (.bool false))) rfl (og rfl (op_assign rfl rfl rfl)) ?_
        refine rg_done rfl ?_
        refine a_ret ?_
        show ∃ ds, ResL _ _ _ ds ∧ RV.of ds = _
        refine ⟨[.fl (.bool false)], (.cons (.tmp rfl (.d _)) .nil), ?_⟩
        exfalso
        omega
      · skip
        have h7 := f_dec h5
        refine a_skip ?_
        show A _ _ _ _ _ _ _
        refine a_rseq ?_
        refine rg_put (d := 44) (v := .d (.fl (.int .i64 ((cr ((ds.drop 0).take ((min (ds.length : Int) 60).toNat - 0)) k))))) rfl (og rfl (op_move rfl rfl rfl)) ?_
        refine rg_put (d := 45) (v := .d (.fl (.int .i64 ((doe ((pl ((ds.drop 0).take ((min (ds.length : Int) 60).toNat - 0)) k)) ((((ix (((ds.drop 0).take (((min (ds.length : Int) 60)).toNat - 0))) k))))).1.2)))) rfl (og rfl (op_move rfl rfl rfl)) ?_
        refine rg_put (d := 46) (v := .d (.fl (.int .i64 (((cr ((ds.drop 0).take ((min (ds.length : Int) 60).toNat - 0)) k) + (doe ((pl ((ds.drop 0).take ((min (ds.length : Int) 60).toNat - 0)) k)) ((((ix (((ds.drop 0).take (((min (ds.length : Int) 60)).toNat - 0))) k))))).1.2))))) rfl (og rfl (op_bin rfl rfl rfl (fun x y w => b_add64 _ _ _ x y w (by omega)) rfl)) ?_
        refine rg_put (d := 4) (v := .d (.fl (.int .i64 (((cr ((ds.drop 0).take ((min (ds.length : Int) 60).toNat - 0)) k) + (doe ((pl ((ds.drop 0).take ((min (ds.length : Int) 60).toNat - 0)) k)) ((((ix (((ds.drop 0).take (((min (ds.length : Int) 60)).toNat - 0))) k))))).1.2))))) rfl (og rfl (op_assign rfl rfl rfl)) ?_
        refine rg_done rfl ?_
        refine a_seq ?_
        refine a_rseq ?_
        refine rg_put (d := 47) (v := .d (.sl 5 (List.map eDp ((pl ((ds.drop 0).take ((min (ds.length : Int) 60).toNat - 0)) k))))) rfl (og rfl (op_move rfl rfl rfl)) ?_
        refine rg_put (d := 48) (v := .d (.fl (.int .i64 ((((pl ((ds.drop 0).take ((min (ds.length : Int) 60).toNat - 0)) k)).length : Int))))) rfl (og rfl (s_len rfl Try.underlying22 rfl rfl)) ?_
        refine rg_put (d := 49) (v := .d (.fl (.int .i64 0))) rfl (og rfl (op_move rfl rfl rfl)) ?_
        refine rg_done rfl ?_
        refine a_block ?_
        refine a_loop (ι := Nat) (fun j => SS [(0, .d (.sl 6 (List.map eDd ds))), (3, .d (.sl 5 (List.map eDp ((pl ((ds.drop 0).take ((min (ds.length : Int) 60).toNat - 0)) k))))), (4, .d (.fl (.int .i64 (((cr ((ds.drop 0).take ((min (ds.length : Int) 60).toNat - 0)) k) + (doe ((pl ((ds.drop 0).take ((min (ds.length : Int) 60).toNat - 0)) k)) ((((ix (((ds.drop 0).take (((min (ds.length : Int) 60)).toNat - 0))) k))))).1.2))))), (6, .pt 102 0), (7, .d (.sl 5 (List.map eDp ((doe ((pl ((ds.drop 0).take ((min (ds.length : Int) 60).toNat - 0)) k)) ((((ix (((ds.drop 0).take (((min (ds.length : Int) 60)).toNat - 0))) k))))).1.1)))), (8, .d (.fl (.int .i64 ((doe ((pl ((ds.drop 0).take ((min (ds.length : Int) 60).toNat - 0)) k)) ((((ix (((ds.drop 0).take (((min (ds.length : Int) 60)).toNat - 0))) k))))).1.2)))), (9, .d (.fl (.int .i64 ((doe ((pl ((ds.drop 0).take ((min (ds.length : Int) 60).toNat - 0)) k)) ((((ix (((ds.drop 0).take (((min (ds.length : Int) 60)).toNat - 0))) k))))).2)))), (18, .d (.sl 6 (List.map eDd (((ds.drop 0).take (((min (ds.length : Int) 60)).toNat - 0)))))), (19, .d (.fl (.int .i64 (((((ds.drop 0).take (((min (ds.length : Int) 60)).toNat - 0))).length : Int))))), (20, .d (.fl (.int .i64 (k : Int)))), (21, .d (.fl (.bool ((decide ((k : Int) < ((((ds.drop 0).take (((min (ds.length : Int) 60)).toNat - 0))).length : Int))))))), (43, .d (.fl (.bool ((decide ((((doe ((pl ((ds.drop 0).take ((min (ds.length : Int) 60).toNat - 0)) k)) ((((ix (((ds.drop 0).take (((min (ds.length : Int) 60)).toNat - 0))) k))))).1.1).length : Int) < (((pl ((ds.drop 0).take ((min (ds.length : Int) 60).toNat - 0)) k)).length : Int))))))), (48, .d (.fl (.int .i64 ((((pl ((ds.drop 0).take ((min (ds.length : Int) 60).toNat - 0)) k)).length : Int))))), (49, .d (.fl (.int .i64 (j : Int))))] [(102, .bx 29 ((eDd (((ix (((ds.drop 0).take (((min (ds.length : Int) 60)).toNat - 0))) k))))))]) (fun j => j ≤ (pl ((ds.drop 0).take ((min (ds.length : Int) 60).toNat - 0)) k).length) (fun j => (pl ((ds.drop 0).take ((min (ds.length : Int) 60).toNat - 0)) k).length - j) 0 (by omega) (imp_forget rfl ⟨rfl, rfl, rfl, rfl, rfl, rfl, rfl, rfl, rfl, rfl, rfl, rfl, rfl, (by first | rfl | exact ci (by omega) | exact ci (by simp) | exact cd (by simp) | simp), trivial⟩ ⟨rfl, trivial⟩) (fun j hok => ?_)
        have hj := hok
        refine a_rseq ?_
        refine rg_put (d := 50) (v := .d (.fl (.bool ((decide ((j : Int) < (((pl ((ds.drop 0).take ((min (ds.length : Int) 60).toNat - 0)) k)).length : Int))))))) rfl (og rfl (op_bin rfl rfl rfl (b_lss _ _ _ _) rfl)) ?_
        refine rg_done rfl ?_
        refine a_seq ?_
        refine a_cond rfl (fun h8 => ?_) (fun h8 => ?_)
        · skip
          have h9 := t_dec h8
          refine a_skip ?_
          show A _ _ _ _ _ _ _
          refine a_seq ?_
          refine a_block ?_
          refine a_rseq ?_
          refine rg_put (d := 51) (v := .d (.fl (.int .i64 (j : Int)))) rfl (og rfl (op_move rfl rfl rfl)) ?_
          refine rg_put (d := 10) (v := .d (.fl (.int .i64 (j : Int)))) rfl (og rfl (op_assign rfl rfl rfl)) ?_
          refine rg_done rfl ?_
          refine a_dseq (by kernel_rfl) ?_
          refine dr_put (d := 52) (v := .d (.sl 5 (List.map eDp ((pl ((ds.drop 0).take ((min (ds.length : Int) 60).toNat - 0)) k))))) rfl (og rfl (op_move rfl rfl rfl)) ?_
          refine dr_put (d := 53) (v := .d (.fl (.int .i64 (j : Int)))) rfl (og rfl (op_move rfl rfl rfl)) ?_
          refine dr_put (d := 54) (v := .el ((eDp ((ix ((pl ((ds.drop 0).take ((min (ds.length : Int) 60).toNat - 0)) k)) j))))) rfl (og rfl (s_index rfl Try.underlying22 ti40 rfl rfl (by omega) (row_at (by omega)) rfl)) ?_
          refine dr_put (d := 55) (v := .el ((List.drop 3 ((eDp ((ix ((pl ((ds.drop 0).take ((min (ds.length : Int) 60).toNat - 0)) k)) j))))))) rfl (og rfl (of_eff (s_field_el rfl Try.underlying40 rfl ti3 rfl rfl rfl) rfl)) ?_
          refine dr_put (d := 56) (v := .d (.fl (.int .i64 (((ix ((pl ((ds.drop 0).take ((min (ds.length : Int) 60).toNat - 0)) k)) j)).state)))) rfl (og rfl (op_load_el rfl Try.underlying3 rfl rfl rfl rfl)) ?_
          refine dr_put (d := 57) (v := .d (.fl (.bool ((((ix ((pl ((ds.drop 0).take ((min (ds.length : Int) 60).toNat - 0)) k)) j)).state != 1))))) rfl (og rfl (op_bin rfl rfl rfl (b_neq _ _ _ _) rfl)) ?_
          refine dr_put (d := 58) (v := .d (.fl (.bool ((((ix ((pl ((ds.drop 0).take ((min (ds.length : Int) 60).toNat - 0)) k)) j)).state != 1))))) rfl (og rfl (op_move rfl rfl rfl)) ?_
          rcases fot ((((ix ((pl ((ds.drop 0).take ((min (ds.length : Int) 60).toNat - 0)) k)) j)).state != 1)) with h10 | h10
          · skip
            have h11 := f_bne h10
            refine dr_put (d := 59) (v := .d (.fl undef)) rfl (on rfl rfl rfl h10) ?_
            refine dr_put (d := 60) (v := .d (.fl undef)) rfl (on rfl rfl rfl h10) ?_
            refine dr_put (d := 61) (v := .d (.fl undef)) rfl (on rfl rfl rfl h10) ?_
            refine dr_put (d := 62) (v := .d (.fl undef)) rfl (on rfl rfl rfl h10) ?_
            refine dr_put (d := 63) (v := .d (.fl undef)) rfl (on rfl rfl rfl h10) ?_
            refine dr_put (d := 64) (v := .d (.fl undef)) rfl (on rfl rfl rfl h10) ?_
            refine dr_put (d := 65) (v := .d (.fl undef)) rfl (on rfl rfl rfl h10) ?_
            refine dr_put (d := 66) (v := .d (.fl undef)) rfl (on rfl rfl rfl h10) ?_
            refine dr_put (d := 67) (v := .d (.fl undef)) rfl (on rfl rfl rfl h10) ?_
            refine dr_put (d := 68) (v := .d (.fl undef)) rfl (on rfl rfl rfl h10) ?_
            refine dr_put (d := 69) (v := .d (.fl undef)) rfl (on rfl rfl rfl h10) ?_
            refine dr_put (d := 70) (v := .d (.fl undef)) rfl (on rfl rfl rfl h10) ?_
            refine dr_put (d := 71) (v := .d (.fl (.bool false))) rfl (og rfl (op_pick rfl rfl (by rw [h10]; rfl) rfl)) ?_
            refine dr_done rfl (by kernel_rfl) (by kernel_rfl) ?_
            refine a_condF rfl rfl ?_
            refine a_skip ?_
            show A _ _ _ _ _ _ _
            refine a_region ?_
            refine rg_put (d := 72) (v := .d (.fl (.int .i64 (((j : Int) + 1))))) rfl (og rfl (op_bin rfl rfl rfl (fun x y w => b_add64 _ _ _ x y w (by omega)) rfl)) ?_
            refine rg_put (d := 49) (v := .d (.fl (.int .i64 (((j : Int) + 1))))) rfl (og rfl (op_move rfl rfl rfl)) ?_
            refine rg_done rfl ?_
            show ∃ i, _ ∧ _ ∧ Imp _ _ _ _ _
            refine ⟨j + 1, (by omega), by omega, imp_forget rfl ⟨rfl, rfl, rfl, rfl, rfl, rfl, rfl, rfl, rfl, rfl, rfl, rfl, rfl, (by first | rfl | exact ci (by omega) | exact ci (by simp) | exact cd (by simp) | simp), trivial⟩ ⟨rfl, trivial⟩⟩
          · skip
            have hsame : ix (doe ((pl ((ds.drop 0).take ((min (ds.length : Int) 60).toNat - 0)) k)) ((ix (((ds.drop 0).take ((min (ds.length : Int) 60).toNat - 0))) k))).1.1 j = ix (pl ((ds.drop 0).take ((min (ds.length : Int) 60).toNat - 0)) k) j := by
              rcases hdc.at (i := j) (by omega) with h | h
              · exact h
              · exact absurd h.1 (t_bne h10)
            have h12 := t_bne h10
            refine dr_put (d := 59) (v := .d (.sl 5 (List.map eDp ((pl ((ds.drop 0).take ((min (ds.length : Int) 60).toNat - 0)) k))))) rfl (oy rfl rfl rfl h10 (op_move rfl rfl rfl)) ?_
            refine dr_put (d := 60) (v := .d (.fl (.int .i64 (j : Int)))) rfl (oy rfl rfl rfl h10 (op_move rfl rfl rfl)) ?_
            refine dr_put (d := 61) (v := .d (.fl (.int .i64 (j : Int)))) rfl (oy rfl rfl rfl h10 (op_move rfl rfl rfl)) ?_
            refine dr_put (d := 62) (v := .d (.fl (.int .i64 (((j : Int) + 1))))) rfl (oy rfl rfl rfl h10 (op_bin rfl rfl rfl (fun x y w => b_add64 _ _ _ x y w (by omega)) rfl)) ?_
            refine dr_put (d := 63) (v := .d (.sl 5 (List.map eDp (((((pl ((ds.drop 0).take ((min (ds.length : Int) 60).toNat - 0)) k)).drop j).take ((((j : Int) + 1)).toNat - j)))))) rfl (oy rfl rfl rfl h10 (s_slice rfl Try.underlying22 ti40 rfl (.so (n := j) _ rfl (by omega)) (.so (n := (((j : Int) + 1)).toNat) _ rfl (by omega)) (by omega) (by omega) rfl)) ?_
            refine dr_put (d := 64) (v := .d (.sl 5 (List.map eDp ((doe ((pl ((ds.drop 0).take ((min (ds.length : Int) 60).toNat - 0)) k)) ((((ix (((ds.drop 0).take (((min (ds.length : Int) 60)).toNat - 0))) k))))).1.1)))) rfl (oy rfl rfl rfl h10 (op_move rfl rfl rfl)) ?_
            refine dr_put (d := 65) (v := .d (.fl (.int .i64 (j : Int)))) rfl (oy rfl rfl rfl h10 (op_move rfl rfl rfl)) ?_
            refine dr_put (d := 66) (v := .d (.fl (.int .i64 (j : Int)))) rfl (oy rfl rfl rfl h10 (op_move rfl rfl rfl)) ?_
            refine dr_put (d := 67) (v := .d (.fl (.int .i64 (((j : Int) + 1))))) rfl (oy rfl rfl rfl h10 (op_bin rfl rfl rfl (fun x y w => b_add64 _ _ _ x y w (by omega)) rfl)) ?_
            refine dr_put (d := 68) (v := .d (.sl 5 (List.map eDp (((((doe ((pl ((ds.drop 0).take ((min (ds.length : Int) 60).toNat - 0)) k)) ((((ix (((ds.drop 0).take (((min (ds.length : Int) 60)).toNat - 0))) k))))).1.1).drop j).take ((((j : Int) + 1)).toNat - j)))))) rfl (oy rfl rfl rfl h10 (s_slice rfl Try.underlying22 ti40 rfl (.so (n := j) _ rfl (by omega)) (.so (n := (((j : Int) + 1)).toNat) _ rfl (by omega)) (by omega) (by omega) rfl)) ?_
            refine dr_put (d := 69) (v := .d (.fl (.bool true))) rfl (oy rfl rfl rfl h10 (op_call rfl Try.func14 nm14 rfl (.cons rfl (.d _) (.cons rfl (.d _) .nil)) (same_eq (a := (((((pl ((ds.drop 0).take ((min (ds.length : Int) 60).toNat - 0)) k)).drop j).take ((((j : Int) + 1)).toNat - j)))) (b := (((((doe ((pl ((ds.drop 0).take ((min (ds.length : Int) 60).toNat - 0)) k)) ((((ix (((ds.drop 0).take (((min (ds.length : Int) 60)).toNat - 0))) k))))).1.1).drop j).take ((((j : Int) + 1)).toNat - j)))) (by rw [take_oneI (by omega), take_oneI (by omega), hsame]) (by rw [take_oneI (by omega)]; exact (one_self (by omega) hb).1) (by rw [take_oneI (by omega)]; exact (one_self (by omega) hb).2)) rfl)) ?_
            refine dr_put (d := 70) (v := .d (.fl (.bool (!true)))) rfl (oy rfl rfl rfl h10 (op_un rfl rfl (u_not _) rfl)) ?_
            refine dr_put (d := 71) (v := .d (.fl (.bool (!true)))) rfl (og rfl (op_pick rfl rfl (by rw [h10]; rfl) rfl)) ?_
            refine dr_done rfl (by kernel_rfl) (by kernel_rfl) ?_
            refine a_condF rfl (not_f rfl) ?_
            refine a_skip ?_
            show A _ _ _ _ _ _ _
            refine a_region ?_
            refine rg_put (d := 72) (v := .d (.fl (.int .i64 (((j : Int) + 1))))) rfl (og rfl (op_bin rfl rfl rfl (fun x y w => b_add64 _ _ _ x y w (by omega)) rfl)) ?_
            refine rg_put (d := 49) (v := .d (.fl (.int .i64 (((j : Int) + 1))))) rfl (og rfl (op_move rfl rfl rfl)) ?_
            refine rg_done rfl ?_
            show ∃ i, _ ∧ _ ∧ Imp _ _ _ _ _
            refine ⟨j + 1, (by omega), by omega, imp_forget rfl ⟨rfl, rfl, rfl, rfl, rfl, rfl, rfl, rfl, rfl, rfl, rfl, rfl, rfl, (by first | rfl | exact ci (by omega) | exact ci (by simp) | exact cd (by simp) | simp), trivial⟩ ⟨rfl, trivial⟩⟩
        · skip
          have h13 := f_dec h8
          refine a_exit ?_
          show A _ _ _ _ _ _ _
          refine a_region ?_
          refine rg_put (d := 73) (v := .d (.sl 5 (List.map eDp ((doe ((pl ((ds.drop 0).take ((min (ds.length : Int) 60).toNat - 0)) k)) ((((ix (((ds.drop 0).take (((min (ds.length : Int) 60)).toNat - 0))) k))))).1.1)))) rfl (og rfl (op_move rfl rfl rfl)) ?_
          refine rg_put (d := 3) (v := .d (.sl 5 (List.map eDp ((doe ((pl ((ds.drop 0).take ((min (ds.length : Int) 60).toNat - 0)) k)) ((((ix (((ds.drop 0).take (((min (ds.length : Int) 60)).toNat - 0))) k))))).1.1)))) rfl (og rfl (op_assign rfl rfl rfl)) ?_
          refine rg_done rfl ?_
          show A _ _ _ _ _ _ _
          refine a_region ?_
          refine rg_put (d := 74) (v := .d (.fl (.int .i64 (((k : Int) + 1))))) rfl (og rfl (op_bin rfl rfl rfl (fun x y w => b_add64 _ _ _ x y w (by omega)) rfl)) ?_
          refine rg_put (d := 20) (v := .d (.fl (.int .i64 (((k : Int) + 1))))) rfl (og rfl (op_move rfl rfl rfl)) ?_
          refine rg_done rfl ?_
          show ∃ i, _ ∧ _ ∧ Imp _ _ _ _ _
          refine ⟨k + 1, (by omega), by omega, imp_forget rfl ⟨rfl, rfl, rfl, (by first | rfl | exact ci (by omega) | exact ci (by simp) | exact cd (by simp) | simp), (by first | rfl | exact ci (by omega) | exact ci (by simp) | exact cd (by simp) | simp), (by first | rfl | exact ci (by omega) | exact ci (by simp) | exact cd (by simp) | simp), trivial⟩ trivial⟩
    · skip
      have hn0 : ((doe ((pl ((ds.drop 0).take ((min (ds.length : Int) 60).toNat - 0)) k)) ((ix (((ds.drop 0).take ((min (ds.length : Int) 60).toNat - 0))) k))).1.2 != 0) = false := by rw [(hdc.err (t_bne h3)).2]; rfl
      have h14 := t_bne h3
      refine rg_put (d := 34) (v := .d (.fl (.int .i64 ((doe ((pl ((ds.drop 0).take ((min (ds.length : Int) 60).toNat - 0)) k)) ((((ix (((ds.drop 0).take (((min (ds.length : Int) 60)).toNat - 0))) k))))).1.2)))) rfl (oy rfl rfl rfl h3 (op_move rfl rfl rfl)) ?_
      refine rg_put (d := 35) (v := .d (.fl (.bool (((doe ((pl ((ds.drop 0).take ((min (ds.length : Int) 60).toNat - 0)) k)) ((((ix (((ds.drop 0).take (((min (ds.length : Int) 60)).toNat - 0))) k))))).1.2 != 0))))) rfl (oy rfl rfl rfl h3 (op_bin rfl rfl rfl (b_neq _ _ _ _) rfl)) ?_
      refine rg_put (d := 36) (v := .d (.fl (.bool (((doe ((pl ((ds.drop 0).take ((min (ds.length : Int) 60).toNat - 0)) k)) ((((ix (((ds.drop 0).take (((min (ds.length : Int) 60)).toNat - 0))) k))))).1.2 != 0))))) rfl (og rfl (op_pick rfl rfl (by rw [h3]; rfl) rfl)) ?_
      refine rg_put (d := 37) (v := .d (.fl (.bool (((doe ((pl ((ds.drop 0).take ((min (ds.length : Int) 60).toNat - 0)) k)) ((((ix (((ds.drop 0).take (((min (ds.length : Int) 60)).toNat - 0))) k))))).1.2 != 0))))) rfl (og rfl (op_move rfl rfl rfl)) ?_
      refine rg_put (d := 38) (v := .d (.sl 5 (List.map eDp ((doe ((pl ((ds.drop 0).take ((min (ds.length : Int) 60).toNat - 0)) k)) ((((ix (((ds.drop 0).take (((min (ds.length : Int) 60)).toNat - 0))) k))))).1.1)))) rfl (oy rfl rfl rfl hn0 (op_move rfl rfl rfl)) ?_
      refine rg_put (d := 39) (v := .d (.fl (.int .i64 ((((doe ((pl ((ds.drop 0).take ((min (ds.length : Int) 60).toNat - 0)) k)) ((((ix (((ds.drop 0).take (((min (ds.length : Int) 60)).toNat - 0))) k))))).1.1).length : Int))))) rfl (oy rfl rfl rfl hn0 (s_len rfl Try.underlying22 rfl rfl)) ?_
      refine rg_put (d := 40) (v := .d (.sl 5 (List.map eDp ((pl ((ds.drop 0).take ((min (ds.length : Int) 60).toNat - 0)) k))))) rfl (oy rfl rfl rfl hn0 (op_move rfl rfl rfl)) ?_
      refine rg_put (d := 41) (v := .d (.fl (.int .i64 ((((pl ((ds.drop 0).take ((min (ds.length : Int) 60).toNat - 0)) k)).length : Int))))) rfl (oy rfl rfl rfl hn0 (s_len rfl Try.underlying22 rfl rfl)) ?_
      refine rg_put (d := 42) (v := .d (.fl (.bool ((decide ((((doe ((pl ((ds.drop 0).take ((min (ds.length : Int) 60).toNat - 0)) k)) ((((ix (((ds.drop 0).take (((min (ds.length : Int) 60)).toNat - 0))) k))))).1.1).length : Int) < (((pl ((ds.drop 0).take ((min (ds.length : Int) 60).toNat - 0)) k)).length : Int))))))) rfl (oy rfl rfl rfl hn0 (op_bin rfl rfl rfl (b_lss _ _ _ _) rfl)) ?_
      refine rg_put (d := 43) (v := .d (.fl (.bool ((decide ((((doe ((pl ((ds.drop 0).take ((min (ds.length : Int) 60).toNat - 0)) k)) ((((ix (((ds.drop 0).take (((min (ds.length : Int) 60)).toNat - 0))) k))))).1.1).length : Int) < (((pl ((ds.drop 0).take ((min (ds.length : Int) 60).toNat - 0)) k)).length : Int))))))) rfl (og rfl (op_pick rfl rfl (by rw [hn0]; rfl) rfl)) ?_
      refine rg_done rfl ?_
      refine a_cond rfl (fun h15 => ?_) (fun h15 => ?_)
      · skip
        have h16 := t_dec h15
        refine a_rseq ?_
        refine rg_put (d := 2) (v := .d (.fl (.bool false))) rfl (og rfl (op_assign rfl rfl rfl)) ?_
        refine rg_done rfl ?_
        refine a_ret ?_
        show ∃ ds, ResL _ _ _ ds ∧ RV.of ds = _
        refine ⟨[.fl (.bool false)], (.cons (.tmp rfl (.d _)) .nil), ?_⟩
        exfalso
        omega
      · skip
        have h17 := f_dec h15
        refine a_skip ?_
        show A _ _ _ _ _ _ _
        refine a_rseq ?_
        refine rg_put (d := 44) (v := .d (.fl (.int .i64 ((cr ((ds.drop 0).take ((min (ds.length : Int) 60).toNat - 0)) k))))) rfl (og rfl (op_move rfl rfl rfl)) ?_
        refine rg_put (d := 45) (v := .d (.fl (.int .i64 ((doe ((pl ((ds.drop 0).take ((min (ds.length : Int) 60).toNat - 0)) k)) ((((ix (((ds.drop 0).take (((min (ds.length : Int) 60)).toNat - 0))) k))))).1.2)))) rfl (og rfl (op_move rfl rfl rfl)) ?_
        refine rg_put (d := 46) (v := .d (.fl (.int .i64 (((cr ((ds.drop 0).take ((min (ds.length : Int) 60).toNat - 0)) k) + (doe ((pl ((ds.drop 0).take ((min (ds.length : Int) 60).toNat - 0)) k)) ((((ix (((ds.drop 0).take (((min (ds.length : Int) 60)).toNat - 0))) k))))).1.2))))) rfl (og rfl (op_bin rfl rfl rfl (fun x y w => b_add64 _ _ _ x y w (by omega)) rfl)) ?_
        refine rg_put (d := 4) (v := .d (.fl (.int .i64 (((cr ((ds.drop 0).take ((min (ds.length : Int) 60).toNat - 0)) k) + (doe ((pl ((ds.drop 0).take ((min (ds.length : Int) 60).toNat - 0)) k)) ((((ix (((ds.drop 0).take (((min (ds.length : Int) 60)).toNat - 0))) k))))).1.2))))) rfl (og rfl (op_assign rfl rfl rfl)) ?_
        refine rg_done rfl ?_
        refine a_seq ?_
        refine a_rseq ?_
        refine rg_put (d := 47) (v := .d (.sl 5 (List.map eDp ((pl ((ds.drop 0).take ((min (ds.length : Int) 60).toNat - 0)) k))))) rfl (og rfl (op_move rfl rfl rfl)) ?_
        refine rg_put (d := 48) (v := .d (.fl (.int .i64 ((((pl ((ds.drop 0).take ((min (ds.length : Int) 60).toNat - 0)) k)).length : Int))))) rfl (og rfl (s_len rfl Try.underlying22 rfl rfl)) ?_
        refine rg_put (d := 49) (v := .d (.fl (.int .i64 0))) rfl (og rfl (op_move rfl rfl rfl)) ?_
        refine rg_done rfl ?_
        refine a_block ?_
        refine a_loop (ι := Nat) (fun j => SS [(0, .d (.sl 6 (List.map eDd ds))), (3, .d (.sl 5 (List.map eDp ((pl ((ds.drop 0).take ((min (ds.length : Int) 60).toNat - 0)) k))))), (4, .d (.fl (.int .i64 (((cr ((ds.drop 0).take ((min (ds.length : Int) 60).toNat - 0)) k) + (doe ((pl ((ds.drop 0).take ((min (ds.length : Int) 60).toNat - 0)) k)) ((((ix (((ds.drop 0).take (((min (ds.length : Int) 60)).toNat - 0))) k))))).1.2))))), (6, .pt 102 0), (7, .d (.sl 5 (List.map eDp ((doe ((pl ((ds.drop 0).take ((min (ds.length : Int) 60).toNat - 0)) k)) ((((ix (((ds.drop 0).take (((min (ds.length : Int) 60)).toNat - 0))) k))))).1.1)))), (8, .d (.fl (.int .i64 ((doe ((pl ((ds.drop 0).take ((min (ds.length : Int) 60).toNat - 0)) k)) ((((ix (((ds.drop 0).take (((min (ds.length : Int) 60)).toNat - 0))) k))))).1.2)))), (9, .d (.fl (.int .i64 ((doe ((pl ((ds.drop 0).take ((min (ds.length : Int) 60).toNat - 0)) k)) ((((ix (((ds.drop 0).take (((min (ds.length : Int) 60)).toNat - 0))) k))))).2)))), (18, .d (.sl 6 (List.map eDd (((ds.drop 0).take (((min (ds.length : Int) 60)).toNat - 0)))))), (19, .d (.fl (.int .i64 (((((ds.drop 0).take (((min (ds.length : Int) 60)).toNat - 0))).length : Int))))), (20, .d (.fl (.int .i64 (k : Int)))), (21, .d (.fl (.bool ((decide ((k : Int) < ((((ds.drop 0).take (((min (ds.length : Int) 60)).toNat - 0))).length : Int))))))), (43, .d (.fl (.bool ((decide ((((doe ((pl ((ds.drop 0).take ((min (ds.length : Int) 60).toNat - 0)) k)) ((((ix (((ds.drop 0).take (((min (ds.length : Int) 60)).toNat - 0))) k))))).1.1).length : Int) < (((pl ((ds.drop 0).take ((min (ds.length : Int) 60).toNat - 0)) k)).length : Int))))))), (48, .d (.fl (.int .i64 ((((pl ((ds.drop 0).take ((min (ds.length : Int) 60).toNat - 0)) k)).length : Int))))), (49, .d (.fl (.int .i64 (j : Int))))] [(102, .bx 29 ((eDd (((ix (((ds.drop 0).take (((min (ds.length : Int) 60)).toNat - 0))) k))))))]) (fun j => j ≤ (pl ((ds.drop 0).take ((min (ds.length : Int) 60).toNat - 0)) k).length) (fun j => (pl ((ds.drop 0).take ((min (ds.length : Int) 60).toNat - 0)) k).length - j) 0 (by omega) (imp_forget rfl ⟨rfl, rfl, rfl, rfl, rfl, rfl, rfl, rfl, rfl, rfl, rfl, rfl, rfl, (by first | rfl | exact ci (by omega) | exact ci (by simp) | exact cd (by simp) | simp), trivial⟩ ⟨rfl, trivial⟩) (fun j hok => ?_)
        have hj := hok
        refine a_rseq ?_
        refine rg_put (d := 50) (v := .d (.fl (.bool ((decide ((j : Int) < (((pl ((ds.drop 0).take ((min (ds.length : Int) 60).toNat - 0)) k)).length : Int))))))) rfl (og rfl (op_bin rfl rfl rfl (b_lss _ _ _ _) rfl)) ?_
        refine rg_done rfl ?_
        refine a_seq ?_
        refine a_cond rfl (fun h18 => ?_) (fun h18 => ?_)
        · skip
          have h19 := t_dec h18
          refine a_skip ?_
          show A _ _ _ _ _ _ _
          refine a_seq ?_
          refine a_block ?_
          refine a_rseq ?_
          refine rg_put (d := 51) (v := .d (.fl (.int .i64 (j : Int)))) rfl (og rfl (op_move rfl rfl rfl)) ?_
          refine rg_put (d := 10) (v := .d (.fl (.int .i64 (j : Int)))) rfl (og rfl (op_assign rfl rfl rfl)) ?_
          refine rg_done rfl ?_
          refine a_dseq (by kernel_rfl) ?_
          refine dr_put (d := 52) (v := .d (.sl 5 (List.map eDp ((pl ((ds.drop 0).take ((min (ds.length : Int) 60).toNat - 0)) k))))) rfl (og rfl (op_move rfl rfl rfl)) ?_
          refine dr_put (d := 53) (v := .d (.fl (.int .i64 (j : Int)))) rfl (og rfl (op_move rfl rfl rfl)) ?_
          refine dr_put (d := 54) (v := .el ((eDp ((ix ((pl ((ds.drop 0).take ((min (ds.length : Int) 60).toNat - 0)) k)) j))))) rfl (og rfl (s_index rfl Try.underlying22 ti40 rfl rfl (by omega) (row_at (by omega)) rfl)) ?_
          refine dr_put (d := 55) (v := .el ((List.drop 3 ((eDp ((ix ((pl ((ds.drop 0).take ((min (ds.length : Int) 60).toNat - 0)) k)) j))))))) rfl (og rfl (of_eff (s_field_el rfl Try.underlying40 rfl ti3 rfl rfl rfl) rfl)) ?_
          refine dr_put (d := 56) (v := .d (.fl (.int .i64 (((ix ((pl ((ds.drop 0).take ((min (ds.length : Int) 60).toNat - 0)) k)) j)).state)))) rfl (og rfl (op_load_el rfl Try.underlying3 rfl rfl rfl rfl)) ?_
          refine dr_put (d := 57) (v := .d (.fl (.bool ((((ix ((pl ((ds.drop 0).take ((min (ds.length : Int) 60).toNat - 0)) k)) j)).state != 1))))) rfl (og rfl (op_bin rfl rfl rfl (b_neq _ _ _ _) rfl)) ?_
          refine dr_put (d := 58) (v := .d (.fl (.bool ((((ix ((pl ((ds.drop 0).take ((min (ds.length : Int) 60).toNat - 0)) k)) j)).state != 1))))) rfl (og rfl (op_move rfl rfl rfl)) ?_
          rcases fot ((((ix ((pl ((ds.drop 0).take ((min (ds.length : Int) 60).toNat - 0)) k)) j)).state != 1)) with h20 | h20
          · skip
            have h21 := f_bne h20
            refine dr_put (d := 59) (v := .d (.fl undef)) rfl (on rfl rfl rfl h20) ?_
            refine dr_put (d := 60) (v := .d (.fl undef)) rfl (on rfl rfl rfl h20) ?_
            refine dr_put (d := 61) (v := .d (.fl undef)) rfl (on rfl rfl rfl h20) ?_
            refine dr_put (d := 62) (v := .d (.fl undef)) rfl (on rfl rfl rfl h20) ?_
            refine dr_put (d := 63) (v := .d (.fl undef)) rfl (on rfl rfl rfl h20) ?_
            refine dr_put (d := 64) (v := .d (.fl undef)) rfl (on rfl rfl rfl h20) ?_
            refine dr_put (d := 65) (v := .d (.fl undef)) rfl (on rfl rfl rfl h20) ?_
            refine dr_put (d := 66) (v := .d (.fl undef)) rfl (on rfl rfl rfl h20) ?_
            refine dr_put (d := 67) (v := .d (.fl undef)) rfl (on rfl rfl rfl h20) ?_
            refine dr_put (d := 68) (v := .d (.fl undef)) rfl (on rfl rfl rfl h20) ?_
            refine dr_put (d := 69) (v := .d (.fl undef)) rfl (on rfl rfl rfl h20) ?_
            refine dr_put (d := 70) (v := .d (.fl undef)) rfl (on rfl rfl rfl h20) ?_
            refine dr_put (d := 71) (v := .d (.fl (.bool false))) rfl (og rfl (op_pick rfl rfl (by rw [h20]; rfl) rfl)) ?_
            refine dr_done rfl (by kernel_rfl) (by kernel_rfl) ?_
            refine a_condF rfl rfl ?_
            refine a_skip ?_
            show A _ _ _ _ _ _ _
            refine a_region ?_
            refine rg_put (d := 72) (v := .d (.fl (.int .i64 (((j : Int) + 1))))) rfl (og rfl (op_bin rfl rfl rfl (fun x y w => b_add64 _ _ _ x y w (by omega)) rfl)) ?_
            refine rg_put (d := 49) (v := .d (.fl (.int .i64 (((j : Int) + 1))))) rfl (og rfl (op_move rfl rfl rfl)) ?_
            refine rg_done rfl ?_
            show ∃ i, _ ∧ _ ∧ Imp _ _ _ _ _
            refine ⟨j + 1, (by omega), by omega, imp_forget rfl ⟨rfl, rfl, rfl, rfl, rfl, rfl, rfl, rfl, rfl, rfl, rfl, rfl, rfl, (by first | rfl | exact ci (by omega) | exact ci (by simp) | exact cd (by simp) | simp), trivial⟩ ⟨rfl, trivial⟩⟩
          · skip
            have hsame : ix (doe ((pl ((ds.drop 0).take ((min (ds.length : Int) 60).toNat - 0)) k)) ((ix (((ds.drop 0).take ((min (ds.length : Int) 60).toNat - 0))) k))).1.1 j = ix (pl ((ds.drop 0).take ((min (ds.length : Int) 60).toNat - 0)) k) j := by
              rcases hdc.at (i := j) (by omega) with h | h
              · exact h
              · exact absurd h.1 (t_bne h20)
            have h22 := t_bne h20
            refine dr_put (d := 59) (v := .d (.sl 5 (List.map eDp ((pl ((ds.drop 0).take ((min (ds.length : Int) 60).toNat - 0)) k))))) rfl (oy rfl rfl rfl h20 (op_move rfl rfl rfl)) ?_
            refine dr_put (d := 60) (v := .d (.fl (.int .i64 (j : Int)))) rfl (oy rfl rfl rfl h20 (op_move rfl rfl rfl)) ?_
            refine dr_put (d := 61) (v := .d (.fl (.int .i64 (j : Int)))) rfl (oy rfl rfl rfl h20 (op_move rfl rfl rfl)) ?_
            refine dr_put (d := 62) (v := .d (.fl (.int .i64 (((j : Int) + 1))))) rfl (oy rfl rfl rfl h20 (op_bin rfl rfl rfl (fun x y w => b_add64 _ _ _ x y w (by omega)) rfl)) ?_
            refine dr_put (d := 63) (v := .d (.sl 5 (List.map eDp (((((pl ((ds.drop 0).take ((min (ds.length : Int) 60).toNat - 0)) k)).drop j).take ((((j : Int) + 1)).toNat - j)))))) rfl (oy rfl rfl rfl h20 (s_slice rfl Try.underlying22 ti40 rfl (.so (n := j) _ rfl (by omega)) (.so (n := (((j : Int) + 1)).toNat) _ rfl (by omega)) (by omega) (by omega) rfl)) ?_
            refine dr_put (d := 64) (v := .d (.sl 5 (List.map eDp ((doe ((pl ((ds.drop 0).take ((min (ds.length : Int) 60).toNat - 0)) k)) ((((ix (((ds.drop 0).take (((min (ds.length : Int) 60)).toNat - 0))) k))))).1.1)))) rfl (oy rfl rfl rfl h20 (op_move rfl rfl rfl)) ?_
            refine dr_put (d := 65) (v := .d (.fl (.int .i64 (j : Int)))) rfl (oy rfl rfl rfl h20 (op_move rfl rfl rfl)) ?_
            refine dr_put (d := 66) (v := .d (.fl (.int .i64 (j : Int)))) rfl (oy rfl rfl rfl h20 (op_move rfl rfl rfl)) ?_
            refine dr_put (d := 67) (v := .d (.fl (.int .i64 (((j : Int) + 1))))) rfl (oy rfl rfl rfl h20 (op_bin rfl rfl rfl (fun x y w => b_add64 _ _ _ x y w (by omega)) rfl)) ?_
            refine dr_put (d := 68) (v := .d (.sl 5 (List.map eDp (((((doe ((pl ((ds.drop 0).take ((min (ds.length : Int) 60).toNat - 0)) k)) ((((ix (((ds.drop 0).take (((min (ds.length : Int) 60)).toNat - 0))) k))))).1.1).drop j).take ((((j : Int) + 1)).toNat - j)))))) rfl (oy rfl rfl rfl h20 (s_slice rfl Try.underlying22 ti40 rfl (.so (n := j) _ rfl (by omega)) (.so (n := (((j : Int) + 1)).toNat) _ rfl (by omega)) (by omega) (by omega) rfl)) ?_
            refine dr_put (d := 69) (v := .d (.fl (.bool true))) rfl (oy rfl rfl rfl h20 (op_call rfl Try.func14 nm14 rfl (.cons rfl (.d _) (.cons rfl (.d _) .nil)) (same_eq (a := (((((pl ((ds.drop 0).take ((min (ds.length : Int) 60).toNat - 0)) k)).drop j).take ((((j : Int) + 1)).toNat - j)))) (b := (((((doe ((pl ((ds.drop 0).take ((min (ds.length : Int) 60).toNat - 0)) k)) ((((ix (((ds.drop 0).take (((min (ds.length : Int) 60)).toNat - 0))) k))))).1.1).drop j).take ((((j : Int) + 1)).toNat - j)))) (by rw [take_oneI (by omega), take_oneI (by omega), hsame]) (by rw [take_oneI (by omega)]; exact (one_self (by omega) hb).1) (by rw [take_oneI (by omega)]; exact (one_self (by omega) hb).2)) rfl)) ?_
            refine dr_put (d := 70) (v := .d (.fl (.bool (!true)))) rfl (oy rfl rfl rfl h20 (op_un rfl rfl (u_not _) rfl)) ?_
            refine dr_put (d := 71) (v := .d (.fl (.bool (!true)))) rfl (og rfl (op_pick rfl rfl (by rw [h20]; rfl) rfl)) ?_
            refine dr_done rfl (by kernel_rfl) (by kernel_rfl) ?_
            refine a_condF rfl (not_f rfl) ?_
            refine a_skip ?_
            show A _ _ _ _ _ _ _
            refine a_region ?_
            refine rg_put (d := 72) (v := .d (.fl (.int .i64 (((j : Int) + 1))))) rfl (og rfl (op_bin rfl rfl rfl (fun x y w => b_add64 _ _ _ x y w (by omega)) rfl)) ?_
            refine rg_put (d := 49) (v := .d (.fl (.int .i64 (((j : Int) + 1))))) rfl (og rfl (op_move rfl rfl rfl)) ?_
            refine rg_done rfl ?_
            show ∃ i, _ ∧ _ ∧ Imp _ _ _ _ _
            refine ⟨j + 1, (by omega), by omega, imp_forget rfl ⟨rfl, rfl, rfl, rfl, rfl, rfl, rfl, rfl, rfl, rfl, rfl, rfl, rfl, (by first | rfl | exact ci (by omega) | exact ci (by simp) | exact cd (by simp) | simp), trivial⟩ ⟨rfl, trivial⟩⟩
        · skip
          have h23 := f_dec h18
          refine a_exit ?_
          show A _ _ _ _ _ _ _
          refine a_region ?_
          refine rg_put (d := 73) (v := .d (.sl 5 (List.map eDp ((doe ((pl ((ds.drop 0).take ((min (ds.length : Int) 60).toNat - 0)) k)) ((((ix (((ds.drop 0).take (((min (ds.length : Int) 60)).toNat - 0))) k))))).1.1)))) rfl (og rfl (op_move rfl rfl rfl)) ?_
          refine rg_put (d := 3) (v := .d (.sl 5 (List.map eDp ((doe ((pl ((ds.drop 0).take ((min (ds.length : Int) 60).toNat - 0)) k)) ((((ix (((ds.drop 0).take (((min (ds.length : Int) 60)).toNat - 0))) k))))).1.1)))) rfl (og rfl (op_assign rfl rfl rfl)) ?_
          refine rg_done rfl ?_
          show A _ _ _ _ _ _ _
          refine a_region ?_
          refine rg_put (d := 74) (v := .d (.fl (.int .i64 (((k : Int) + 1))))) rfl (og rfl (op_bin rfl rfl rfl (fun x y w => b_add64 _ _ _ x y w (by omega)) rfl)) ?_
          refine rg_put (d := 20) (v := .d (.fl (.int .i64 (((k : Int) + 1))))) rfl (og rfl (op_move rfl rfl rfl)) ?_
          refine rg_done rfl ?_
          show ∃ i, _ ∧ _ ∧ Imp _ _ _ _ _
          refine ⟨k + 1, (by omega), by omega, imp_forget rfl ⟨rfl, rfl, rfl, (by first | rfl | exact ci (by omega) | exact ci (by simp) | exact cd (by simp) | simp), (by first | rfl | exact ci (by omega) | exact ci (by simp) | exact cd (by simp) | simp), (by first | rfl | exact ci (by omega) | exact ci (by simp) | exact cd (by simp) | simp), trivial⟩ trivial⟩
  · skip
    have h24 := f_dec h1
    refine a_exit ?_
    show A _ _ _ _ _ _ _
    refine a_rseq ?_
    refine rg_put (d := 11) (v := .d (.fl (.int .i64 0))) rfl (og rfl (op_assign rfl rfl rfl)) ?_
    refine rg_done rfl ?_
    refine a_seq ?_
    refine a_rseq ?_
    refine rg_put (d := 75) (v := .d (.sl 5 (List.map eDp ((pl ((ds.drop 0).take ((min (ds.length : Int) 60).toNat - 0)) k))))) rfl (og rfl (op_move rfl rfl rfl)) ?_
    refine rg_put (d := 76) (v := .d (.fl (.int .i64 ((((pl ((ds.drop 0).take ((min (ds.length : Int) 60).toNat - 0)) k)).length : Int))))) rfl (og rfl (s_len rfl Try.underlying22 rfl rfl)) ?_
    refine rg_put (d := 77) (v := .d (.fl (.int .i64 0))) rfl (og rfl (op_move rfl rfl rfl)) ?_
    refine rg_done rfl ?_
    refine a_block ?_
    refine a_loop (ι := Nat) (fun j => SS [(0, .d (.sl 6 (List.map eDd ds))), (3, .d (.sl 5 (List.map eDp ((pl ((ds.drop 0).take ((min (ds.length : Int) 60).toNat - 0)) k))))), (4, .d (.fl (.int .i64 ((cr ((ds.drop 0).take ((min (ds.length : Int) 60).toNat - 0)) k))))), (18, .d (.sl 6 (List.map eDd (((ds.drop 0).take (((min (ds.length : Int) 60)).toNat - 0)))))), (19, .d (.fl (.int .i64 (((((ds.drop 0).take (((min (ds.length : Int) 60)).toNat - 0))).length : Int))))), (20, .d (.fl (.int .i64 (k : Int)))), (21, .d (.fl (.bool ((decide ((k : Int) < ((((ds.drop 0).take (((min (ds.length : Int) 60)).toNat - 0))).length : Int))))))), (75, .d (.sl 5 (List.map eDp ((pl ((ds.drop 0).take ((min (ds.length : Int) 60).toNat - 0)) k))))), (76, .d (.fl (.int .i64 ((((pl ((ds.drop 0).take ((min (ds.length : Int) 60).toNat - 0)) k)).length : Int))))), (11, .d (.fl (.int .i64 ((acc ((pl ((ds.drop 0).take ((min (ds.length : Int) 60).toNat - 0)) k).take j)))))), (77, .d (.fl (.int .i64 (j : Int))))] []) (fun j => j ≤ (pl ((ds.drop 0).take ((min (ds.length : Int) 60).toNat - 0)) k).length) (fun j => (pl ((ds.drop 0).take ((min (ds.length : Int) 60).toNat - 0)) k).length - j) 0 (by omega) (imp_forget rfl ⟨rfl, rfl, rfl, rfl, rfl, rfl, rfl, rfl, rfl, rfl, (by first | rfl | exact ci (by omega) | exact ci (by simp) | exact cd (by simp) | simp), trivial⟩ trivial) (fun j hok => ?_)
    have hj := hok
    have hac := acc_le (pl_inv ((ds.drop 0).take ((min (ds.length : Int) 60).toNat - 0)) k) j hj
    refine a_rseq ?_
    refine rg_put (d := 78) (v := .d (.fl (.bool ((decide ((j : Int) < (((pl ((ds.drop 0).take ((min (ds.length : Int) 60).toNat - 0)) k)).length : Int))))))) rfl (og rfl (op_bin rfl rfl rfl (b_lss _ _ _ _) rfl)) ?_
    refine rg_done rfl ?_
    refine a_seq ?_
    refine a_cond rfl (fun h25 => ?_) (fun h25 => ?_)
    · skip
      have h26 := t_dec h25
      refine a_skip ?_
      show A _ _ _ _ _ _ _
      refine a_seq ?_
      refine a_block ?_
      refine a_rseq ?_
      have hce := (pl_inv ((ds.drop 0).take ((min (ds.length : Int) 60).toNat - 0)) k).el j (by omega)
      refine rg_put (d := 79) (v := .el ((eDp ((ix ((pl ((ds.drop 0).take ((min (ds.length : Int) 60).toNat - 0)) k)) j))))) rfl (og rfl (s_index rfl Try.underlying22 ti40 rfl rfl (by omega) (row_at (by omega)) rfl)) ?_
      refine rg_put (d := 80) (v := .d (.ag (eDp (((ix ((pl ((ds.drop 0).take ((min (ds.length : Int) 60).toNat - 0)) k)) j)))))) rfl (og rfl (of_eff (s_load_els rfl Try.underlying40 rfl ti40 rfl rfl rfl) rfl)) ?_
      refine rg_nam (d := 13) (v := .pt 103 0) (m := 103) (nw := [(103, .bx 40 ([.fl (.string (⟨#[]⟩)), .fl (.int .i64 0), .fl (.int .i64 0), .fl (.int .i64 0), .fl (.slice none 0 0)]))]) rfl (og rfl (of_eff (s_alloc 103 rfl ti40 (by kernel_rfl) rfl) rfl)) rfl ?_
      refine rg_sto (nw := [(103, .bx 40 ((eDp (((ix ((pl ((ds.drop 0).take ((min (ds.length : Int) 60).toNat - 0)) k)) j))))))]) rfl (og rfl (of_eff (s_store rfl rfl ti40 rfl rfl rfl rfl rfl rfl) rfl)) ?_
      refine rg_done rfl ?_
      refine a_rseq ?_
      refine rg_put (d := 81) (v := .pt 103 3) rfl (og rfl (of_eff (s_field_pt rfl Try.underlying40 rfl ti3 rfl rfl rfl) rfl)) ?_
      refine rg_put (d := 82) (v := .d (.fl (.int .i64 ((((ix ((pl ((ds.drop 0).take ((min (ds.length : Int) 60).toNat - 0)) k)) j))).state)))) rfl (og rfl (op_load_pt rfl Try.underlying3 rfl rfl rfl rfl rfl)) ?_
      refine rg_put (d := 83) (v := .d (.fl (.bool (((((ix ((pl ((ds.drop 0).take ((min (ds.length : Int) 60).toNat - 0)) k)) j))).state == 2))))) rfl (og rfl (op_bin rfl rfl rfl (b_eql _ _ _ _) rfl)) ?_
      refine rg_done rfl ?_
      refine a_cond rfl (fun h27 => ?_) (fun h27 => ?_)
      · skip
        have h28 := t_beq h27
        refine a_region ?_
        refine rg_put (d := 84) (v := .d (.fl (.int .i64 ((acc ((pl ((ds.drop 0).take ((min (ds.length : Int) 60).toNat - 0)) k).take j)))))) rfl (og rfl (op_move rfl rfl rfl)) ?_
        refine rg_put (d := 85) (v := .pt 103 2) rfl (og rfl (of_eff (s_field_pt rfl Try.underlying40 rfl ti3 rfl rfl rfl) rfl)) ?_
        refine rg_put (d := 86) (v := .d (.fl (.int .i64 ((((ix ((pl ((ds.drop 0).take ((min (ds.length : Int) 60).toNat - 0)) k)) j))).cents)))) rfl (og rfl (op_load_pt rfl Try.underlying3 rfl rfl rfl rfl rfl)) ?_
        refine rg_put (d := 87) (v := .d (.fl (.int .i64 (((acc ((pl ((ds.drop 0).take ((min (ds.length : Int) 60).toNat - 0)) k).take j)) + (((ix ((pl ((ds.drop 0).take ((min (ds.length : Int) 60).toNat - 0)) k)) j))).cents))))) rfl (og rfl (op_bin rfl rfl rfl (fun x y w => b_add64 _ _ _ x y w (by omega)) rfl)) ?_
        refine rg_put (d := 11) (v := .d (.fl (.int .i64 (((acc ((pl ((ds.drop 0).take ((min (ds.length : Int) 60).toNat - 0)) k).take j)) + (((ix ((pl ((ds.drop 0).take ((min (ds.length : Int) 60).toNat - 0)) k)) j))).cents))))) rfl (og rfl (op_assign rfl rfl rfl)) ?_
        refine rg_done rfl ?_
        show A _ _ _ _ _ _ _
        refine a_region ?_
        refine rg_put (d := 88) (v := .d (.fl (.int .i64 (((j : Int) + 1))))) rfl (og rfl (op_bin rfl rfl rfl (fun x y w => b_add64 _ _ _ x y w (by omega)) rfl)) ?_
        refine rg_put (d := 77) (v := .d (.fl (.int .i64 (((j : Int) + 1))))) rfl (og rfl (op_move rfl rfl rfl)) ?_
        refine rg_done rfl ?_
        have hat : acc ((pl ((ds.drop 0).take ((min (ds.length : Int) 60).toNat - 0)) k).take (j + 1)) = acc ((pl ((ds.drop 0).take ((min (ds.length : Int) 60).toNat - 0)) k).take j) + (ix (pl ((ds.drop 0).take ((min (ds.length : Int) 60).toNat - 0)) k) j).cents := by rw [acc_take (by omega), if_pos (t_beq h27)]
        show ∃ i, _ ∧ _ ∧ Imp _ _ _ _ _
        refine ⟨j + 1, (by omega), by omega, imp_forget rfl ⟨rfl, rfl, rfl, rfl, rfl, rfl, rfl, rfl, rfl, (ci hat.symm), (by first | rfl | exact ci (by omega) | exact ci (by simp) | exact cd (by simp) | simp), trivial⟩ trivial⟩
      · skip
        have h29 := f_beq h27
        refine a_skip ?_
        show A _ _ _ _ _ _ _
        refine a_region ?_
        refine rg_put (d := 88) (v := .d (.fl (.int .i64 (((j : Int) + 1))))) rfl (og rfl (op_bin rfl rfl rfl (fun x y w => b_add64 _ _ _ x y w (by omega)) rfl)) ?_
        refine rg_put (d := 77) (v := .d (.fl (.int .i64 (((j : Int) + 1))))) rfl (og rfl (op_move rfl rfl rfl)) ?_
        refine rg_done rfl ?_
        have hat : acc ((pl ((ds.drop 0).take ((min (ds.length : Int) 60).toNat - 0)) k).take (j + 1)) = acc ((pl ((ds.drop 0).take ((min (ds.length : Int) 60).toNat - 0)) k).take j) := by rw [acc_take (by omega), if_neg (f_beq h27)]; omega
        show ∃ i, _ ∧ _ ∧ Imp _ _ _ _ _
        refine ⟨j + 1, (by omega), by omega, imp_forget rfl ⟨rfl, rfl, rfl, rfl, rfl, rfl, rfl, rfl, rfl, (ci hat.symm), (by first | rfl | exact ci (by omega) | exact ci (by simp) | exact cd (by simp) | simp), trivial⟩ trivial⟩
    · skip
      have h30 := f_dec h25
      refine a_exit ?_
      show A _ _ _ _ _ _ _
      refine a_rseq ?_
      have hfin : (acc ((pl ((ds.drop 0).take ((min (ds.length : Int) 60).toNat - 0)) k).take j) == cr ((ds.drop 0).take ((min (ds.length : Int) 60).toNat - 0)) k) = true := by rw [List.take_of_length_le (by omega), cr_acc]; simp
      refine rg_put (d := 89) (v := .d (.fl (.int .i64 ((acc ((pl ((ds.drop 0).take ((min (ds.length : Int) 60).toNat - 0)) k).take j)))))) rfl (og rfl (op_move rfl rfl rfl)) ?_
      refine rg_put (d := 90) (v := .d (.fl (.int .i64 ((cr ((ds.drop 0).take ((min (ds.length : Int) 60).toNat - 0)) k))))) rfl (og rfl (op_move rfl rfl rfl)) ?_
      refine rg_put (d := 91) (v := .d (.fl (.bool (((acc ((pl ((ds.drop 0).take ((min (ds.length : Int) 60).toNat - 0)) k).take j)) == (cr ((ds.drop 0).take ((min (ds.length : Int) 60).toNat - 0)) k)))))) rfl (og rfl (op_bin rfl rfl rfl (b_eql _ _ _ _) rfl)) ?_
      refine rg_put (d := 92) (v := .d (.fl (.bool (((acc ((pl ((ds.drop 0).take ((min (ds.length : Int) 60).toNat - 0)) k).take j)) == (cr ((ds.drop 0).take ((min (ds.length : Int) 60).toNat - 0)) k)))))) rfl (og rfl (op_move rfl rfl rfl)) ?_
      refine rg_put (d := 93) (v := .d (.fl (.bool true))) rfl (oy rfl rfl rfl hfin (op_call rfl Try.func9 nm9 rfl .nil awake_true rfl)) ?_
      refine rg_put (d := 94) (v := .d (.fl (.bool true))) rfl (og rfl (op_pick rfl rfl (by rw [hfin]; rfl) rfl)) ?_
      refine rg_put (d := 2) (v := .d (.fl (.bool true))) rfl (og rfl (op_assign rfl rfl rfl)) ?_
      refine rg_done rfl ?_
      refine a_ret ?_
      show ∃ ds, ResL _ _ _ ds ∧ RV.of ds = _
      refine ⟨[.fl (.bool true)], (.cons (.tmp rfl (.d _)) .nil), ?_⟩
      rfl
end Go.Proofs.Ytocjbombpggmeaa.Wk
