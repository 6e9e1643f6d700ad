/- The law of the sources that are used. No condition. -/
import Derived.Test.YtmngepmckghcpaaGreatDoorAl
import Derived.Test.YtmngepmckghcpaaGreatDoorD2
set_option linter.unusedSimpArgs false
set_option linter.unusedVariables false
namespace Go.Proofs.YtmngepmckghcpaaGreatDoor.Wk
open Go Go.RowKit Go.Proofs.YtmngepmckghcpaaGreatDoor.Av
theorem neqS (a : Srx) (x y : Operand) (w : World) : (do eqGuard .neq 32 x y (.agg (([.string a.dev, .int .i64 a.seq] : List Value).toArray)) (.agg (([.string a.dev, .int .i64 a.seq] : List Value).toArray)); binOp .neq 32 (.agg (([.string a.dev, .int .i64 a.seq] : List Value).toArray)) (.agg (([.string a.dev, .int .i64 a.seq] : List Value).toArray)) : Sem Value).run Tryz.prog w = .ok (.bool false) w := by
  have h := neqC a a x y w
  rwa [cp_self] at h
set_option maxHeartbeats 4000000 in
set_option maxRecDepth 100000 in
theorem law1 (x : Fus) : Ctr Tryz.prog 3 [.ag (eFus x)] (.d (.fl (.bool true))) := by
  refine ctr (n := 53) (rs := #[.tmp 2]) (L := [(0, .d (.ag (eFus x)))]) Tryz.func3 rfl rfl rfl rfl rfl (fun w0 U0 => ?_)
  refine a_rseq ?_
  refine rg_nam (d := 1) (v := .pt 101 0) (m := 101) (nw := [(101, .bx 25 (eFus x))]) rfl (og rfl (of_eff (op_box 101 rfl rfl rfl rfl) rfl)) rfl ?_
  refine rg_put (d := 2) (v := .d (.fl (.bool false))) rfl (og rfl (op_assign rfl rfl rfl)) ?_
  refine rg_done rfl ?_
  refine a_seq ?_
  refine a_rseq ?_
  refine rg_put (d := 7) (v := .pt 101 0) rfl (og rfl (of_eff (s_field_pt rfl Tryz.underlying25 rfl ti22 rfl rfl rfl) rfl)) ?_
  refine rg_put (d := 8) (v := .d (.sl 8 (List.map ePsg x.ps))) rfl (og rfl (op_load_pt rfl Tryz.underlying22 rfl rfl rfl rfl rfl)) ?_
  refine rg_put (d := 9) (v := .d (.fl (.int .i64 (x.ps.length : Int)))) rfl (og rfl (s_len rfl Tryz.underlying22 rfl rfl)) ?_
  refine rg_put (d := 10) (v := .d (.fl (.bool ((decide (30 < (x.ps.length : Int))))))) rfl (og rfl (op_bin rfl rfl rfl (b_gtr _ _ _ _) rfl)) ?_
  refine rg_done rfl ?_
  refine a_cond rfl (fun h1 => ?_) (fun h1 => ?_)
  · skip
    have h2 := t_dec h1
    refine a_rseq ?_
    refine rg_put (d := 11) (v := .d (.fl (.bool true))) rfl (og rfl (op_call rfl Tryz.func4 nm4 rfl .nil alive4 rfl)) ?_
    refine rg_put (d := 2) (v := .d (.fl (.bool true))) rfl (og rfl (op_assign rfl rfl rfl)) ?_
    refine rg_done rfl ?_
    refine a_ret ?_
    show ∃ ds, ResL _ _ _ ds ∧ RV.of ds = _
    refine ⟨[.fl (.bool true)], (.cons (.tmp rfl (.d _)) .nil), ?_⟩
    rfl
  · skip
    have h3 := f_dec h1
    refine a_skip ?_
    show A _ _ _ _ _ _ _
    refine a_seq ?_
    refine a_rseq ?_
    refine rg_put (d := 3) (v := .d (.fl (.int .i64 0))) rfl (og rfl (op_assign rfl rfl rfl)) ?_
    refine rg_done rfl ?_
    refine a_block ?_
    refine a_loop (ι := Nat) (fun k => SS [(0, .d (.ag (eFus x))), (1, .pt 101 0), (10, .d (.fl (.bool ((decide (30 < (x.ps.length : Int))))))), (3, .d (.fl (.int .i64 (k : Int))))] [(101, .bx 25 (eFus x))]) (fun k => k ≤ x.ps.length ∧ ∀ q, q < k → (decide (20 < ((ix x.ps q).src.length : Int))) = false) (fun k => x.ps.length - k) 0 (⟨by omega, fun q h => by omega⟩) (imp_forget rfl ⟨rfl, rfl, rfl, (by first | rfl | exact ci (by omega) | exact ci (by simp) | exact cd (by simp) | simp), trivial⟩ ⟨rfl, trivial⟩) (fun k hok => ?_)
    obtain ⟨hkk, hq⟩ := hok
    refine a_seq ?_
    refine a_rseq ?_
    refine rg_put (d := 12) (v := .d (.fl (.int .i64 (k : Int)))) rfl (og rfl (op_move rfl rfl rfl)) ?_
    refine rg_put (d := 13) (v := .pt 101 0) rfl (og rfl (of_eff (s_field_pt rfl Tryz.underlying25 rfl ti22 rfl rfl rfl) rfl)) ?_
    refine rg_put (d := 14) (v := .d (.sl 8 (List.map ePsg x.ps))) rfl (og rfl (op_load_pt rfl Tryz.underlying22 rfl rfl rfl rfl rfl)) ?_
    refine rg_put (d := 15) (v := .d (.fl (.int .i64 (x.ps.length : Int)))) rfl (og rfl (s_len rfl Tryz.underlying22 rfl rfl)) ?_
    refine rg_put (d := 16) (v := .d (.fl (.bool ((decide ((k : Int) < (x.ps.length : Int))))))) rfl (og rfl (op_bin rfl rfl rfl (b_lss _ _ _ _) rfl)) ?_
    refine rg_done rfl ?_
    refine a_cond rfl (fun h4 => ?_) (fun h4 => ?_)
    · skip
      have h5 := t_dec h4
      refine a_skip ?_
      show A _ _ _ _ _ _ _
      refine a_seq ?_
      refine a_block ?_
      refine a_rseq ?_
      refine rg_put (d := 19) (v := .pt 101 0) rfl (og rfl (of_eff (s_field_pt rfl Tryz.underlying25 rfl ti22 rfl rfl rfl) rfl)) ?_
      refine rg_put (d := 20) (v := .d (.sl 8 (List.map ePsg x.ps))) rfl (og rfl (op_load_pt rfl Tryz.underlying22 rfl rfl rfl rfl rfl)) ?_
      refine rg_put (d := 21) (v := .d (.fl (.int .i64 (k : Int)))) rfl (og rfl (op_move rfl rfl rfl)) ?_
      refine rg_put (d := 22) (v := .el ((ePsg (ix x.ps k)))) rfl (og rfl (s_index rfl Tryz.underlying22 ti29 rfl rfl (by omega) (row_at (by omega)) rfl)) ?_
      refine rg_put (d := 23) (v := .el ((List.drop 7 ((ePsg (ix x.ps k)))))) rfl (og rfl (of_eff (s_field_el rfl Tryz.underlying29 rfl ti27 rfl rfl rfl) rfl)) ?_
      refine rg_put (d := 24) (v := .d (.sl 2 (List.map eSrx ((ix x.ps k).src)))) rfl (og rfl (op_load_el rfl Tryz.underlying27 rfl rfl rfl rfl)) ?_
      refine rg_put (d := 25) (v := .d (.fl (.int .i64 ((((ix x.ps k).src).length : Int))))) rfl (og rfl (s_len rfl Tryz.underlying27 rfl rfl)) ?_
      refine rg_put (d := 26) (v := .d (.fl (.bool ((decide (20 < (((ix x.ps k).src).length : Int))))))) rfl (og rfl (op_bin rfl rfl rfl (b_gtr _ _ _ _) rfl)) ?_
      refine rg_done rfl ?_
      refine a_cond rfl (fun h6 => ?_) (fun h6 => ?_)
      · skip
        have h7 := t_dec h6
        refine a_rseq ?_
        refine rg_put (d := 27) (v := .d (.fl (.bool true))) rfl (og rfl (op_call rfl Tryz.func4 nm4 rfl .nil alive4 rfl)) ?_
        refine rg_put (d := 2) (v := .d (.fl (.bool true))) rfl (og rfl (op_assign rfl rfl rfl)) ?_
        refine rg_done rfl ?_
        refine a_ret ?_
        show ∃ ds, ResL _ _ _ ds ∧ RV.of ds = _
        refine ⟨[.fl (.bool true)], (.cons (.tmp rfl (.d _)) .nil), ?_⟩
        rfl
      · skip
        have h8 := f_dec h6
        refine a_skip ?_
        show A _ _ _ _ _ _ _
        refine a_region ?_
        refine rg_put (d := 17) (v := .d (.fl (.int .i64 (k : Int)))) rfl (og rfl (op_move rfl rfl rfl)) ?_
        refine rg_put (d := 18) (v := .d (.fl (.int .i64 (((k : Int) + 1))))) rfl (og rfl (op_bin rfl rfl rfl (fun x y w => b_add64 _ _ _ x y w (by omega)) rfl)) ?_
        refine rg_put (d := 3) (v := .d (.fl (.int .i64 (((k : Int) + 1))))) rfl (og rfl (op_assign rfl rfl rfl)) ?_
        refine rg_done rfl ?_
        have hx : (decide (20 < ((ix x.ps k).src.length : Int))) = false := h6
        show ∃ i, _ ∧ _ ∧ Imp _ _ _ _ _
        refine ⟨k + 1, ⟨by omega, fun q h => (Nat.lt_succ_iff_lt_or_eq.1 h).elim (hq q) (fun e => by rw [e]; exact hx)⟩, by omega, imp_forget rfl ⟨rfl, rfl, rfl, (by first | rfl | exact ci (by omega) | exact ci (by simp) | exact cd (by simp) | simp), trivial⟩ ⟨rfl, trivial⟩⟩
    · skip
      have h9 := f_dec h4
      refine a_exit ?_
      show A _ _ _ _ _ _ _
      refine a_rseq ?_
      have hl : x.ps.length ≤ 30 := by omega
      have hs : ∀ q, q < x.ps.length → (ix x.ps q).src.length ≤ 20 := fun q h => by have := of_decide_eq_false (hq q (by omega)); omega
      refine rg_put (d := 28) (v := .d (.ag (eFus x))) rfl (og rfl (of_eff (s_load_pts rfl Tryz.underlying25 rfl ti25 rfl rfl rfl rfl) rfl)) ?_
      refine rg_put (d := 29) (v := .d (.sl 2 (List.map eSrx ((rsF (cc x.ps x.ps.length)))))) rfl (og rfl (op_call rfl Tryz.func5 nm5 rfl (.cons rfl (.d _) .nil) (by have h := useP x hl hs; rwa [dfl_rs] at h) rfl)) ?_
      refine rg_put (d := 4) (v := .d (.sl 2 (List.map eSrx ((rsF (cc x.ps x.ps.length)))))) rfl (og rfl (op_assign rfl rfl rfl)) ?_
      refine rg_done rfl ?_
      refine a_rseq ?_
      refine rg_put (d := 30) (v := .d (.ag (eFus x))) rfl (og rfl (of_eff (s_load_pts rfl Tryz.underlying25 rfl ti25 rfl rfl rfl rfl) rfl)) ?_
      refine rg_put (d := 31) (v := .d (.sl 2 (List.map eSrx ((rsF (cc x.ps x.ps.length)))))) rfl (og rfl (op_call rfl Tryz.func6 nm6 rfl (.cons rfl (.d _) .nil) (useR x hl hs) rfl)) ?_
      refine rg_put (d := 5) (v := .d (.sl 2 (List.map eSrx ((rsF (cc x.ps x.ps.length)))))) rfl (og rfl (op_assign rfl rfl rfl)) ?_
      refine rg_done rfl ?_
      refine a_seq ?_
      refine a_rseq ?_
      refine rg_put (d := 32) (v := .d (.sl 2 (List.map eSrx ((rsF (cc x.ps x.ps.length)))))) rfl (og rfl (op_move rfl rfl rfl)) ?_
      refine rg_put (d := 33) (v := .d (.fl (.int .i64 ((((rsF (cc x.ps x.ps.length))).length : Int))))) rfl (og rfl (s_len rfl Tryz.underlying27 rfl rfl)) ?_
      refine rg_put (d := 34) (v := .d (.sl 2 (List.map eSrx ((rsF (cc x.ps x.ps.length)))))) rfl (og rfl (op_move rfl rfl rfl)) ?_
      refine rg_put (d := 35) (v := .d (.fl (.int .i64 ((((rsF (cc x.ps x.ps.length))).length : Int))))) rfl (og rfl (s_len rfl Tryz.underlying27 rfl rfl)) ?_
      refine rg_put (d := 36) (v := .d (.fl (.bool (((((rsF (cc x.ps x.ps.length))).length : Int) != (((rsF (cc x.ps x.ps.length))).length : Int)))))) rfl (og rfl (op_bin rfl rfl rfl (b_neq _ _ _ _) rfl)) ?_
      refine rg_done rfl ?_
      refine a_condF rfl (bne_self_eq_false _) ?_
      refine a_skip ?_
      show A _ _ _ _ _ _ _
      refine a_seq ?_
      refine a_rseq ?_
      refine rg_put (d := 6) (v := .d (.fl (.int .i64 0))) rfl (og rfl (op_assign rfl rfl rfl)) ?_
      refine rg_done rfl ?_
      refine a_block ?_
      refine a_loop (ι := Nat) (fun j => SS [(0, .d (.ag (eFus x))), (1, .pt 101 0), (3, .d (.fl (.int .i64 (k : Int)))), (4, .d (.sl 2 (List.map eSrx ((rsF (cc x.ps x.ps.length)))))), (5, .d (.sl 2 (List.map eSrx ((rsF (cc x.ps x.ps.length)))))), (10, .d (.fl (.bool ((decide (30 < (x.ps.length : Int))))))), (16, .d (.fl (.bool ((decide ((k : Int) < (x.ps.length : Int))))))), (36, .d (.fl (.bool (((((rsF (cc x.ps x.ps.length))).length : Int) != (((rsF (cc x.ps x.ps.length))).length : Int)))))), (6, .d (.fl (.int .i64 (j : Int))))] [(101, .bx 25 (eFus x))]) (fun j => j ≤ (rsF (cc x.ps x.ps.length)).length) (fun j => (rsF (cc x.ps x.ps.length)).length - j) 0 (by omega) (imp_forget rfl ⟨rfl, rfl, rfl, rfl, rfl, rfl, rfl, rfl, (by first | rfl | exact ci (by omega) | exact ci (by simp) | exact cd (by simp) | simp), trivial⟩ ⟨rfl, trivial⟩) (fun j hok => ?_)
      have hj := hok
      have hrl := rsF_len (cc x.ps x.ps.length)
      have hcl := cc_len hs x.ps.length (Nat.le_refl _)
      refine a_seq ?_
      refine a_rseq ?_
      refine rg_put (d := 37) (v := .d (.fl (.int .i64 (j : Int)))) rfl (og rfl (op_move rfl rfl rfl)) ?_
      refine rg_put (d := 38) (v := .d (.sl 2 (List.map eSrx ((rsF (cc x.ps x.ps.length)))))) rfl (og rfl (op_move rfl rfl rfl)) ?_
      refine rg_put (d := 39) (v := .d (.fl (.int .i64 ((((rsF (cc x.ps x.ps.length))).length : Int))))) rfl (og rfl (s_len rfl Tryz.underlying27 rfl rfl)) ?_
      refine rg_put (d := 40) (v := .d (.fl (.bool ((decide ((j : Int) < (((rsF (cc x.ps x.ps.length))).length : Int))))))) rfl (og rfl (op_bin rfl rfl rfl (b_lss _ _ _ _) rfl)) ?_
      refine rg_done rfl ?_
      refine a_cond rfl (fun h10 => ?_) (fun h10 => ?_)
      · skip
        have h11 := t_dec h10
        refine a_skip ?_
        show A _ _ _ _ _ _ _
        refine a_seq ?_
        refine a_block ?_
        refine a_dseq (by kernel_rfl) ?_
        refine dr_put (d := 43) (v := .d (.sl 2 (List.map eSrx ((rsF (cc x.ps x.ps.length)))))) rfl (og rfl (op_move rfl rfl rfl)) ?_
        refine dr_put (d := 44) (v := .d (.fl (.int .i64 (j : Int)))) rfl (og rfl (op_move rfl rfl rfl)) ?_
        refine dr_put (d := 45) (v := .el ((eSrx ((ix ((rsF (cc x.ps x.ps.length))) j))))) rfl (og rfl (s_index rfl Tryz.underlying27 ti32 rfl rfl (by omega) (row_at (by omega)) rfl)) ?_
        refine dr_put (d := 46) (v := .d (.ag (eSrx (((ix ((rsF (cc x.ps x.ps.length))) j)))))) rfl (og rfl (of_eff (s_load_els rfl Tryz.underlying32 rfl ti32 rfl rfl rfl) rfl)) ?_
        refine dr_put (d := 47) (v := .d (.sl 2 (List.map eSrx ((rsF (cc x.ps x.ps.length)))))) rfl (og rfl (op_move rfl rfl rfl)) ?_
        refine dr_put (d := 48) (v := .d (.fl (.int .i64 (j : Int)))) rfl (og rfl (op_move rfl rfl rfl)) ?_
        refine dr_put (d := 49) (v := .el ((eSrx ((ix ((rsF (cc x.ps x.ps.length))) j))))) rfl (og rfl (s_index rfl Tryz.underlying27 ti32 rfl rfl (by omega) (row_at (by omega)) rfl)) ?_
        refine dr_put (d := 50) (v := .d (.ag (eSrx (((ix ((rsF (cc x.ps x.ps.length))) j)))))) rfl (og rfl (of_eff (s_load_els rfl Tryz.underlying32 rfl ti32 rfl rfl rfl) rfl)) ?_
        refine dr_put (d := 51) (v := .d (.fl (.bool false))) rfl (og rfl (op_eqS [.string ((((ix ((rsF (cc x.ps x.ps.length))) j))).dev), .int .i64 ((((ix ((rsF (cc x.ps x.ps.length))) j))).seq)] [.string ((((ix ((rsF (cc x.ps x.ps.length))) j))).dev), .int .i64 ((((ix ((rsF (cc x.ps x.ps.length))) j))).seq)] rfl rfl rfl (b := false) (fun ww => neqS (((ix ((rsF (cc x.ps x.ps.length))) j))) _ _ ww) rfl)) ?_
        refine dr_done rfl (by kernel_rfl) (by kernel_rfl) ?_
        refine a_condF rfl rfl ?_
        refine a_skip ?_
        show A _ _ _ _ _ _ _
        refine a_region ?_
        refine rg_put (d := 41) (v := .d (.fl (.int .i64 (j : Int)))) rfl (og rfl (op_move rfl rfl rfl)) ?_
        refine rg_put (d := 42) (v := .d (.fl (.int .i64 (((j : Int) + 1))))) rfl (og rfl (op_bin rfl rfl rfl (fun x y w => b_add64 _ _ _ x y w (by omega)) rfl)) ?_
        refine rg_put (d := 6) (v := .d (.fl (.int .i64 (((j : Int) + 1))))) rfl (og rfl (op_assign rfl rfl rfl)) ?_
        refine rg_done rfl ?_
        show ∃ i, _ ∧ _ ∧ Imp _ _ _ _ _
        refine ⟨j + 1, (by omega), by omega, imp_forget rfl ⟨rfl, rfl, rfl, rfl, rfl, rfl, rfl, rfl, (by first | rfl | exact ci (by omega)), trivial⟩ ⟨rfl, trivial⟩⟩
      · skip
        have h12 := f_dec h10
        refine a_exit ?_
        show A _ _ _ _ _ _ _
        refine a_rseq ?_
        refine rg_put (d := 52) (v := .d (.fl (.bool true))) rfl (og rfl (op_call rfl Tryz.func4 nm4 rfl .nil alive4 rfl)) ?_
        refine rg_put (d := 2) (v := .d (.fl (.bool true))) rfl (og rfl (op_assign rfl rfl rfl)) ?_
        refine rg_done rfl ?_
        refine a_ret ?_
        show ∃ ds, ResL _ _ _ ds ∧ RV.of ds = _
        refine ⟨[.fl (.bool true)], (.cons (.tmp rfl (.d _)) .nil), ?_⟩
        rfl
end Go.Proofs.YtmngepmckghcpaaGreatDoor.Wk
