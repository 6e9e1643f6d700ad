/- The law of the points in a system. No condition. -/
import Derived.Test.YtjbhikldmaljaaaAl
import Derived.Test.YtjbhikldmaljaaaB6
set_option linter.unusedSimpArgs false
set_option linter.unusedVariables false
namespace Go.Proofs.Ytjbhikldmaljaaa.Wk
open Go Go.RowKit Go.Proofs.Ytjbhikldmaljaaa.Av
theorem has_ptsN (t : Tpg) (h : tck t = 0) (i : Nat) (hi : i < t.net.pts.length) (s : ByteArray) (c : Int) : hasT (srtS (pn (kn t) s c (kn t).length)) (ix t.net.pts i).name = pq s c (ix t.net.pts i) := by
  have e := kn_at h
  have := has_pts (t := t) (i := i) (by rw [e]; exact hi) s c
  rwa [show ix (kn t) i = ix t.net.pts i from by rw [e]] at this
set_option maxHeartbeats 4000000 in
set_option maxRecDepth 100000 in
theorem law4 (t : Tpg) : Ctr Try.prog 4 [.ag (eTpg t)] (.d (.fl (.bool true))) := by
  refine ctr (n := 95) (rs := #[.tmp 2]) (L := [(0, .d (.ag (eTpg t)))]) Try.func4 rfl rfl rfl rfl rfl (fun w0 U0 => ?_)
  refine a_rseq ?_
  refine rg_nam (d := 1) (v := .pt 101 0) (m := 101) (nw := [(101, .bx 28 (eTpg t))]) rfl (og rfl (of_eff (op_box 101 rfl rfl rfl rfl) rfl)) rfl ?_
  refine rg_put (d := 2) (v := .d (.fl (.bool false))) rfl (og rfl (op_assign rfl rfl rfl)) ?_
  refine rg_done rfl ?_
  refine a_seq ?_
  refine a_rseq ?_
  refine rg_put (d := 10) (v := .d (.ag (eTpg t))) rfl (og rfl (of_eff (s_load_pts rfl Try.underlying28 rfl ti28 rfl rfl rfl rfl) rfl)) ?_
  refine rg_put (d := 11) (v := .d (.fl (.bool (smlT t)))) rfl (og rfl (op_call rfl Try.func5 nm5 rfl (.cons rfl (.d _) .nil) (smlC t) rfl)) ?_
  refine rg_put (d := 12) (v := .d (.fl (.bool ((!(smlT t)))))) rfl (og rfl (op_un rfl rfl (u_not _) rfl)) ?_
  refine rg_put (d := 13) (v := .d (.fl (.bool ((!(smlT t)))))) rfl (og rfl (op_move rfl rfl rfl)) ?_
  rcases fot ((!(smlT t))) with h1 | h1
  · skip
    have h2 := f_not h1
    refine rg_put (d := 14) (v := .d (.ag (eTpg t))) rfl (oy rfl rfl rfl h1 (of_eff (s_load_pts rfl Try.underlying28 rfl ti28 rfl rfl rfl rfl) rfl)) ?_
    refine rg_put (d := 15) (v := .d (.fl (.int .i64 (tck t)))) rfl (oy rfl rfl rfl h1 (op_call rfl Try.func6 nm6 rfl (.cons rfl (.d _) .nil) (tck_c t) rfl)) ?_
    refine rg_put (d := 16) (v := .d (.fl (.bool (((tck t) != 0))))) rfl (oy rfl rfl rfl h1 (op_bin rfl rfl rfl (b_neq _ _ _ _) rfl)) ?_
    refine rg_put (d := 17) (v := .d (.fl (.bool (((tck t) != 0))))) rfl (og rfl (op_pick rfl rfl (by rw [h1]; rfl) rfl)) ?_
    refine rg_done rfl ?_
    refine a_cond rfl (fun h3 => ?_) (fun h3 => ?_)
    · skip
      have h4 := t_bne h3
      refine a_rseq ?_
      refine rg_put (d := 2) (v := .d (.fl (.bool true))) rfl (og rfl (op_assign rfl rfl rfl)) ?_
      refine rg_done rfl ?_
      refine a_ret ?_
      show ∃ ds, ResL _ _ _ ds ∧ RV.of ds = _
      refine ⟨[.fl (.bool true)], (.cons (.tmp rfl (.d _)) .nil), ?_⟩
      rfl
    · skip
      have h5 := f_bne h3
      refine a_skip ?_
      show A _ _ _ _ _ _ _
      refine a_seq ?_
      refine a_rseq ?_
      have hsm := smlT_t h2
      have hck : tck t = 0 := f_bne h3
      refine rg_put (d := 3) (v := .d (.fl (.int .i64 0))) rfl (og rfl (op_assign rfl rfl rfl)) ?_
      refine rg_done rfl ?_
      refine a_block ?_
      refine a_loop (ι := Nat) (fun i => SS [(0, .d (.ag (eTpg t))), (1, .pt 101 0), (17, .d (.fl (.bool (((tck t) != 0))))), (3, .d (.fl (.int .i64 (i : Int))))] [(101, .bx 28 (eTpg t))]) (fun i => i ≤ t.net.pts.length) (fun i => t.net.pts.length - i) 0 (by omega) (imp_forget rfl ⟨rfl, rfl, rfl, (by first | rfl | exact ci (by omega) | exact ci (by simp) | exact cd (by simp) | simp), trivial⟩ ⟨rfl, trivial⟩) (fun i hok => ?_)
      have hi := hok
      refine a_seq ?_
      refine a_rseq ?_
      refine rg_put (d := 18) (v := .d (.fl (.int .i64 (i : Int)))) rfl (og rfl (op_move rfl rfl rfl)) ?_
      refine rg_put (d := 19) (v := .pt 101 0) rfl (og rfl (of_eff (s_field_pt rfl Try.underlying28 rfl ti25 rfl rfl rfl) rfl)) ?_
      refine rg_put (d := 20) (v := .pt 101 0) rfl (og rfl (of_eff (s_field_pt rfl Try.underlying25 rfl ti22 rfl rfl rfl) rfl)) ?_
      refine rg_put (d := 21) (v := .d (.sl 3 (List.map ePnt t.net.pts))) rfl (og rfl (op_load_pt rfl Try.underlying22 rfl rfl rfl rfl rfl)) ?_
      refine rg_put (d := 22) (v := .d (.fl (.int .i64 (t.net.pts.length : Int)))) rfl (og rfl (s_len rfl Try.underlying22 rfl rfl)) ?_
      refine rg_put (d := 23) (v := .d (.fl (.bool ((decide ((i : Int) < (t.net.pts.length : Int))))))) rfl (og rfl (op_bin rfl rfl rfl (b_lss _ _ _ _) rfl)) ?_
      refine rg_done rfl ?_
      refine a_cond rfl (fun h6 => ?_) (fun h6 => ?_)
      · skip
        have h7 := t_dec h6
        refine a_skip ?_
        show A _ _ _ _ _ _ _
        refine a_seq ?_
        refine a_block ?_
        refine a_rseq ?_
        refine rg_put (d := 26) (v := .pt 101 0) rfl (og rfl (of_eff (s_field_pt rfl Try.underlying28 rfl ti25 rfl rfl rfl) rfl)) ?_
        refine rg_put (d := 27) (v := .pt 101 0) rfl (og rfl (of_eff (s_field_pt rfl Try.underlying25 rfl ti22 rfl rfl rfl) rfl)) ?_
        refine rg_put (d := 28) (v := .d (.sl 3 (List.map ePnt t.net.pts))) rfl (og rfl (op_load_pt rfl Try.underlying22 rfl rfl rfl rfl rfl)) ?_
        refine rg_put (d := 29) (v := .d (.fl (.int .i64 (i : Int)))) rfl (og rfl (op_move rfl rfl rfl)) ?_
        refine rg_put (d := 30) (v := .el ((ePnt (ix t.net.pts i)))) rfl (og rfl (s_index rfl Try.underlying22 ti35 rfl rfl (by omega) (row_at (by omega)) rfl)) ?_
        refine rg_put (d := 31) (v := .d (.ag (ePnt (ix t.net.pts i)))) rfl (og rfl (of_eff (s_load_els rfl Try.underlying35 rfl ti35 rfl rfl rfl) rfl)) ?_
        refine rg_nam (d := 4) (v := .pt 102 0) (m := 102) (nw := [(102, .bx 35 ([.fl (.string (⟨#[]⟩)), .fl (.int .i64 0), .fl (.string (⟨#[]⟩))]))]) rfl (og rfl (of_eff (s_alloc 102 rfl ti35 (by kernel_rfl) rfl) rfl)) rfl ?_
        refine rg_sto (nw := [(102, .bx 35 ((ePnt (ix t.net.pts i))))]) rfl (og rfl (of_eff (s_store rfl rfl ti35 rfl rfl rfl rfl rfl rfl) rfl)) ?_
        refine rg_done rfl ?_
        refine a_rseq ?_
        refine rg_put (d := 5) (v := .d (.fl (.int .i64 0))) rfl (og rfl (op_assign rfl rfl rfl)) ?_
        refine rg_done rfl ?_
        refine a_seq ?_
        refine a_rseq ?_
        refine rg_put (d := 6) (v := .d (.fl (.int .i64 0))) rfl (og rfl (op_assign rfl rfl rfl)) ?_
        refine rg_done rfl ?_
        refine a_block ?_
        refine a_loop (ι := Nat) (fun k => SS [(0, .d (.ag (eTpg t))), (1, .pt 101 0), (3, .d (.fl (.int .i64 (i : Int)))), (4, .pt 102 0), (17, .d (.fl (.bool (((tck t) != 0))))), (23, .d (.fl (.bool ((decide ((i : Int) < (t.net.pts.length : Int))))))), (6, .d (.fl (.int .i64 (k : Int)))), (5, .d (.fl (.int .i64 ((ns t (ix t.net.pts i) k)))))] [(101, .bx 28 (eTpg t)), (102, .bx 35 ((ePnt (ix t.net.pts i))))]) (fun k => k ≤ t.syss.length) (fun k => t.syss.length - k) 0 (by omega) (imp_forget rfl ⟨rfl, rfl, rfl, rfl, rfl, rfl, (by first | rfl | exact ci (by omega) | exact ci (by simp) | exact cd (by simp) | simp), rfl, trivial⟩ ⟨rfl, rfl, trivial⟩) (fun k hok => ?_)
        have hk := hok
        have hns := ns_in t (ix t.net.pts i) k
        refine a_seq ?_
        refine a_rseq ?_
        refine rg_put (d := 32) (v := .d (.fl (.int .i64 (k : Int)))) rfl (og rfl (op_move rfl rfl rfl)) ?_
        refine rg_put (d := 33) (v := .pt 101 2) rfl (og rfl (of_eff (s_field_pt rfl Try.underlying28 rfl ti26 rfl rfl rfl) rfl)) ?_
        refine rg_put (d := 34) (v := .d (.sl 3 (List.map eSys t.syss))) rfl (og rfl (op_load_pt rfl Try.underlying26 rfl rfl rfl rfl rfl)) ?_
        refine rg_put (d := 35) (v := .d (.fl (.int .i64 (t.syss.length : Int)))) rfl (og rfl (s_len rfl Try.underlying26 rfl rfl)) ?_
        refine rg_put (d := 36) (v := .d (.fl (.bool ((decide ((k : Int) < (t.syss.length : Int))))))) rfl (og rfl (op_bin rfl rfl rfl (b_lss _ _ _ _) rfl)) ?_
        refine rg_done rfl ?_
        refine a_cond rfl (fun h8 => ?_) (fun h8 => ?_)
        · skip
          have h9 := t_dec h8
          refine a_skip ?_
          show A _ _ _ _ _ _ _
          refine a_seq ?_
          refine a_block ?_
          refine a_rseq ?_
          refine rg_put (d := 7) (v := .d (.fl (.int .i64 1))) rfl (og rfl (op_assign rfl rfl rfl)) ?_
          refine rg_done rfl ?_
          refine a_block ?_
          refine a_loop (ι := Nat) (fun j => SS [(0, .d (.ag (eTpg t))), (1, .pt 101 0), (3, .d (.fl (.int .i64 (i : Int)))), (4, .pt 102 0), (6, .d (.fl (.int .i64 (k : Int)))), (17, .d (.fl (.bool (((tck t) != 0))))), (23, .d (.fl (.bool ((decide ((i : Int) < (t.net.pts.length : Int))))))), (36, .d (.fl (.bool ((decide ((k : Int) < (t.syss.length : Int))))))), (7, .d (.fl (.int .i64 (((j : Int) + 1))))), (5, .d (.fl (.int .i64 ((ns t (ix t.net.pts i) k + cn (ix t.net.pts i) (ix t.syss k).name j)))))] [(101, .bx 28 (eTpg t)), (102, .bx 35 ((ePnt (ix t.net.pts i))))]) (fun j => j ≤ 3) (fun j => 3 - j) 0 (by omega) (imp_forget rfl ⟨rfl, rfl, rfl, rfl, rfl, rfl, rfl, rfl, (by first | rfl | exact ci (by omega)), (ci (by simp only [cn]; omega)), trivial⟩ ⟨rfl, rfl, trivial⟩) (fun j hok => ?_)
          have hj := hok
          have hcn := cn_in (ix t.net.pts i) (ix t.syss k).name j
          refine a_seq ?_
          refine a_rseq ?_
          refine rg_put (d := 39) (v := .d (.fl (.int .i64 (((j : Int) + 1))))) rfl (og rfl (op_move rfl rfl rfl)) ?_
          refine rg_put (d := 40) (v := .d (.fl (.bool ((decide (((j : Int) + 1) ≤ 3)))))) rfl (og rfl (op_bin rfl rfl rfl (b_leq _ _ _ _) rfl)) ?_
          refine rg_done rfl ?_
          refine a_cond rfl (fun h10 => ?_) (fun h10 => ?_)
          · skip
            have h11 := t_dec h10
            refine a_skip ?_
            show A _ _ _ _ _ _ _
            refine a_seq ?_
            refine a_block ?_
            refine a_dseq (by kernel_rfl) ?_
            refine dr_put (d := 43) (v := .d (.ag (eTpg t))) rfl (og rfl (of_eff (s_load_pts rfl Try.underlying28 rfl ti28 rfl rfl rfl rfl) rfl)) ?_
            refine dr_put (d := 44) (v := .pt 101 2) rfl (og rfl (of_eff (s_field_pt rfl Try.underlying28 rfl ti26 rfl rfl rfl) rfl)) ?_
            refine dr_put (d := 45) (v := .d (.sl 3 (List.map eSys t.syss))) rfl (og rfl (op_load_pt rfl Try.underlying26 rfl rfl rfl rfl rfl)) ?_
            refine dr_put (d := 46) (v := .d (.fl (.int .i64 (k : Int)))) rfl (og rfl (op_move rfl rfl rfl)) ?_
            refine dr_put (d := 47) (v := .el ((eSys (ix t.syss k)))) rfl (og rfl (s_index rfl Try.underlying26 ti40 rfl rfl (by omega) (row_at (by omega)) rfl)) ?_
            refine dr_put (d := 48) (v := .el ((List.drop 0 ((eSys (ix t.syss k)))))) rfl (og rfl (of_eff (s_field_el rfl Try.underlying40 rfl ti9 rfl rfl rfl) rfl)) ?_
            refine dr_put (d := 49) (v := .d (.fl (.string ((ix t.syss k).name)))) rfl (og rfl (op_load_el rfl Try.underlying9 rfl rfl rfl rfl)) ?_
            refine dr_put (d := 50) (v := .d (.fl (.int .i64 (((j : Int) + 1))))) rfl (og rfl (op_move rfl rfl rfl)) ?_
            refine dr_put (d := 51) (v := .d (.sl 1 (List.map rS ((srtS (pn (kn t) ((ix t.syss k).name) (((j : Int) + 1)) (kn t).length)))))) rfl (og rfl (op_call rfl Try.func10 nm10 rfl (.cons rfl (.d _) (.cons rfl (.d _) (.cons rfl (.d _) .nil))) (ptsC t ((ix t.syss k).name) (((j : Int) + 1))) rfl)) ?_
            refine dr_put (d := 52) (v := .pt 102 0) rfl (og rfl (of_eff (s_field_pt rfl Try.underlying35 rfl ti9 rfl rfl rfl) rfl)) ?_
            refine dr_put (d := 53) (v := .d (.fl (.string ((ix t.net.pts i).name)))) rfl (og rfl (op_load_pt rfl Try.underlying9 rfl rfl rfl rfl rfl)) ?_
            refine dr_put (d := 54) (v := .d (.fl (.bool ((pq ((ix t.syss k).name) (((j : Int) + 1)) (ix t.net.pts i)))))) rfl (og rfl (op_call rfl Try.func9 nm9 rfl (.cons rfl (.d _) (.cons rfl (.d _) .nil)) ((has_ptsN t hck i (by omega) ((ix t.syss k).name) (((j : Int) + 1)) ▸ hasC ((srtS (pn (kn t) ((ix t.syss k).name) (((j : Int) + 1)) (kn t).length))) ((ix t.net.pts i).name) (by have := srtS_len (pn (kn t) ((ix t.syss k).name) (((j : Int) + 1)) (kn t).length); have := pn_len (kn t) ((ix t.syss k).name) (((j : Int) + 1)) (kn t).length; have := kn_len t; omega))) rfl)) ?_
            refine dr_done rfl (by kernel_rfl) (by kernel_rfl) ?_
            refine a_cond rfl (fun h12 => ?_) (fun h12 => ?_)
            · skip
              refine a_region ?_
              refine rg_put (d := 55) (v := .d (.fl (.int .i64 ((ns t (ix t.net.pts i) k + cn (ix t.net.pts i) (ix t.syss k).name j))))) rfl (og rfl (op_move rfl rfl rfl)) ?_
              refine rg_put (d := 56) (v := .d (.fl (.int .i64 (((ns t (ix t.net.pts i) k + cn (ix t.net.pts i) (ix t.syss k).name j) + 1))))) rfl (og rfl (op_bin rfl rfl rfl (fun x y w => b_add64 _ _ _ x y w (by omega)) rfl)) ?_
              refine rg_put (d := 5) (v := .d (.fl (.int .i64 (((ns t (ix t.net.pts i) k + cn (ix t.net.pts i) (ix t.syss k).name j) + 1))))) rfl (og rfl (op_assign rfl rfl rfl)) ?_
              refine rg_done rfl ?_
              show A _ _ _ _ _ _ _
              refine a_region ?_
              refine rg_put (d := 41) (v := .d (.fl (.int .i64 (((j : Int) + 1))))) rfl (og rfl (op_move rfl rfl rfl)) ?_
              refine rg_put (d := 42) (v := .d (.fl (.int .i64 ((((j : Int) + 1) + 1))))) rfl (og rfl (op_bin rfl rfl rfl (fun x y w => b_add64 _ _ _ x y w (by omega)) rfl)) ?_
              refine rg_put (d := 7) (v := .d (.fl (.int .i64 ((((j : Int) + 1) + 1))))) rfl (og rfl (op_assign rfl rfl rfl)) ?_
              refine rg_done rfl ?_
              have hst : ((ns t (ix t.net.pts i) k + cn (ix t.net.pts i) (ix t.syss k).name j) + 1) = ns t (ix t.net.pts i) k + cn (ix t.net.pts i) (ix t.syss k).name (j + 1) := by simp only [cn]; rw [h12]; simp only [cond_true, cond_false]; omega
              show ∃ i, _ ∧ _ ∧ Imp _ _ _ _ _
              refine ⟨j + 1, (by omega), by omega, imp_forget rfl ⟨rfl, rfl, rfl, rfl, rfl, rfl, rfl, rfl, (by first | rfl | exact ci (by omega)), (ci hst), trivial⟩ ⟨rfl, rfl, trivial⟩⟩
            · skip
              refine a_skip ?_
              show A _ _ _ _ _ _ _
              refine a_region ?_
              refine rg_put (d := 41) (v := .d (.fl (.int .i64 (((j : Int) + 1))))) rfl (og rfl (op_move rfl rfl rfl)) ?_
              refine rg_put (d := 42) (v := .d (.fl (.int .i64 ((((j : Int) + 1) + 1))))) rfl (og rfl (op_bin rfl rfl rfl (fun x y w => b_add64 _ _ _ x y w (by omega)) rfl)) ?_
              refine rg_put (d := 7) (v := .d (.fl (.int .i64 ((((j : Int) + 1) + 1))))) rfl (og rfl (op_assign rfl rfl rfl)) ?_
              refine rg_done rfl ?_
              have hst : (ns t (ix t.net.pts i) k + cn (ix t.net.pts i) (ix t.syss k).name j) = ns t (ix t.net.pts i) k + cn (ix t.net.pts i) (ix t.syss k).name (j + 1) := by simp only [cn]; rw [h12]; simp only [cond_true, cond_false]; omega
              show ∃ i, _ ∧ _ ∧ Imp _ _ _ _ _
              refine ⟨j + 1, (by omega), by omega, imp_forget rfl ⟨rfl, rfl, rfl, rfl, rfl, rfl, rfl, rfl, (by first | rfl | exact ci (by omega)), (ci hst), trivial⟩ ⟨rfl, rfl, trivial⟩⟩
          · skip
            have h13 := f_dec h10
            refine a_exit ?_
            show A _ _ _ _ _ _ _
            refine a_region ?_
            refine rg_put (d := 37) (v := .d (.fl (.int .i64 (k : Int)))) rfl (og rfl (op_move rfl rfl rfl)) ?_
            refine rg_put (d := 38) (v := .d (.fl (.int .i64 (((k : Int) + 1))))) rfl (og rfl (op_bin rfl rfl rfl (fun x y w => b_add64 _ _ _ x y w (by omega)) rfl)) ?_
            refine rg_put (d := 6) (v := .d (.fl (.int .i64 (((k : Int) + 1))))) rfl (og rfl (op_assign rfl rfl rfl)) ?_
            refine rg_done rfl ?_
            show ∃ i, _ ∧ _ ∧ Imp _ _ _ _ _
            refine ⟨k + 1, (by omega), by omega, imp_forget rfl ⟨rfl, rfl, rfl, rfl, rfl, rfl, (by first | rfl | exact ci (by omega)), (ci (by simp only [ns]; rw [show j = 3 from by omega])), trivial⟩ ⟨rfl, rfl, trivial⟩⟩
        · skip
          have h14 := f_dec h8
          refine a_exit ?_
          show A _ _ _ _ _ _ _
          refine a_seq ?_
          refine a_rseq ?_
          have hke : k = t.syss.length := by omega
          rw [show (ns t (ix t.net.pts i) k) = (ns t (ix t.net.pts i) t.syss.length) from (by rw [hke])]
          have hpt := parts hck (i := i) (by omega)
          have hn4 : (ix t.net.pts i).kind = 4 → ns t (ix t.net.pts i) t.syss.length = 0 := fun h => ns_4 h _
          refine rg_put (d := 57) (v := .pt 102 1) rfl (og rfl (of_eff (s_field_pt rfl Try.underlying35 rfl ti3 rfl rfl rfl) rfl)) ?_
          refine rg_put (d := 58) (v := .d (.fl (.int .i64 ((ix t.net.pts i).kind)))) rfl (og rfl (op_load_pt rfl Try.underlying3 rfl rfl rfl rfl rfl)) ?_
          refine rg_put (d := 59) (v := .d (.fl (.bool (((ix t.net.pts i).kind == 4))))) rfl (og rfl (op_bin rfl rfl rfl (b_eql _ _ _ _) rfl)) ?_
          refine rg_done rfl ?_
          refine a_cond rfl (fun h15 => ?_) (fun h15 => ?_)
          · skip
            have h16 := t_beq h15
            refine a_seq ?_
            refine a_rseq ?_
            refine rg_put (d := 60) (v := .d (.fl (.int .i64 ((ns t (ix t.net.pts i) t.syss.length))))) rfl (og rfl (op_move rfl rfl rfl)) ?_
            refine rg_put (d := 61) (v := .d (.fl (.bool (((ns t (ix t.net.pts i) t.syss.length) != 0))))) rfl (og rfl (op_bin rfl rfl rfl (b_neq _ _ _ _) rfl)) ?_
            refine rg_done rfl ?_
            refine a_cond rfl (fun h17 => ?_) (fun h17 => ?_)
            · skip
              have h18 := t_bne h17
              refine a_rseq ?_
              refine rg_put (d := 2) (v := .d (.fl (.bool false))) rfl (og rfl (op_assign rfl rfl rfl)) ?_
              refine rg_done rfl ?_
              refine a_ret ?_
              show ∃ ds, ResL _ _ _ ds ∧ RV.of ds = _
              refine ⟨[.fl (.bool false)], (.cons (.tmp rfl (.d _)) .nil), ?_⟩
              exfalso
              first
                | omega
            · skip
              have h19 := f_bne h17
              refine a_skip ?_
              show A _ _ _ _ _ _ _
              refine a_exit ?_
              show A _ _ _ _ _ _ _
              refine a_region ?_
              refine rg_put (d := 24) (v := .d (.fl (.int .i64 (i : Int)))) rfl (og rfl (op_move rfl rfl rfl)) ?_
              refine rg_put (d := 25) (v := .d (.fl (.int .i64 (((i : Int) + 1))))) rfl (og rfl (op_bin rfl rfl rfl (fun x y w => b_add64 _ _ _ x y w (by omega)) rfl)) ?_
              refine rg_put (d := 3) (v := .d (.fl (.int .i64 (((i : Int) + 1))))) rfl (og rfl (op_assign rfl rfl rfl)) ?_
              refine rg_done rfl ?_
              show ∃ i, _ ∧ _ ∧ Imp _ _ _ _ _
              refine ⟨i + 1, (by omega), by omega, imp_forget rfl ⟨rfl, rfl, rfl, (by first | rfl | exact ci (by omega)), trivial⟩ ⟨rfl, trivial⟩⟩
          · skip
            have h20 := f_beq h15
            refine a_skip ?_
            show A _ _ _ _ _ _ _
            refine a_rseq ?_
            have hpk := hpt.2.2 (by omega)
            have hp1 := hpk.1
            have hp2 := hpk.2.1
            have hp3 := hpk.2.2
            have hp4 : pq (ix t.net.pts i).sys (ix t.net.pts i).kind (ix t.net.pts i) = true := by unfold pq; simp [sEq]
            refine rg_put (d := 63) (v := .d (.ag (eTpg t))) rfl (og rfl (of_eff (s_load_pts rfl Try.underlying28 rfl ti28 rfl rfl rfl rfl) rfl)) ?_
            refine rg_put (d := 64) (v := .pt 102 0) rfl (og rfl (of_eff (s_field_pt rfl Try.underlying35 rfl ti9 rfl rfl rfl) rfl)) ?_
            refine rg_put (d := 65) (v := .d (.fl (.string ((ix t.net.pts i).name)))) rfl (og rfl (op_load_pt rfl Try.underlying9 rfl rfl rfl rfl rfl)) ?_
            refine rg_put (d := 66) (v := .tu [.ag (eSys ((sR t (ix t.net.pts i).name).1)), .fl (.bool ((sR t (ix t.net.pts i).name).2))]) rfl (og rfl (op_call rfl Try.func11 nm11 rfl (.cons rfl (.d _) (.cons rfl (.d _) .nil)) (sysC t ((ix t.net.pts i).name)) rfl)) ?_
            refine rg_put (d := 62) (v := .tu [.ag (eSys ((sR t (ix t.net.pts i).name).1)), .fl (.bool ((sR t (ix t.net.pts i).name).2))]) rfl (og rfl (op_move rfl rfl rfl)) ?_
            refine rg_put (d := 67) (v := .d (.ag (eSys ((sR t (ix t.net.pts i).name).1)))) rfl (og rfl (op_extract rfl rfl rfl rfl)) ?_
            refine rg_put (d := 68) (v := .d (.fl (.bool ((sR t (ix t.net.pts i).name).2)))) rfl (og rfl (op_extract rfl rfl rfl rfl)) ?_
            refine rg_nam (d := 8) (v := .pt 103 0) (m := 103) (nw := [(103, .bx 40 ([.fl (.string (⟨#[]⟩)), .fl (.bool false), .fl (.int .i64 0)]))]) rfl (og rfl (of_eff (s_alloc 103 rfl ti40 (by kernel_rfl) rfl) rfl)) rfl ?_
            refine rg_sto (nw := [(103, .bx 40 ((eSys ((sR t (ix t.net.pts i).name).1))))]) rfl (og rfl (of_eff (s_store rfl rfl ti40 rfl rfl rfl rfl rfl rfl) rfl)) ?_
            refine rg_put (d := 9) (v := .d (.fl (.bool ((sR t (ix t.net.pts i).name).2)))) rfl (og rfl (op_assign rfl rfl rfl)) ?_
            refine rg_done rfl ?_
            refine a_dseq (by kernel_rfl) ?_
            refine dr_put (d := 69) (v := .d (.fl (.int .i64 ((ns t (ix t.net.pts i) t.syss.length))))) rfl (og rfl (op_move rfl rfl rfl)) ?_
            refine dr_put (d := 70) (v := .d (.fl (.bool (((ns t (ix t.net.pts i) t.syss.length) != 1))))) rfl (og rfl (op_bin rfl rfl rfl (b_neq _ _ _ _) rfl)) ?_
            refine dr_put (d := 71) (v := .d (.fl (.bool (((ns t (ix t.net.pts i) t.syss.length) != 1))))) rfl (og rfl (op_move rfl rfl rfl)) ?_
            rcases fot (((ns t (ix t.net.pts i) t.syss.length) != 1)) with h21 | h21
            · skip
              have h22 := f_bne h21
              refine dr_put (d := 72) (v := .d (.fl (.bool ((sR t (ix t.net.pts i).name).2)))) rfl (oy rfl rfl rfl h21 (op_move rfl rfl rfl)) ?_
              refine dr_put (d := 73) (v := .d (.fl (.bool ((!((sR t (ix t.net.pts i).name).2)))))) rfl (oy rfl rfl rfl h21 (op_un rfl rfl (u_not _) rfl)) ?_
              refine dr_put (d := 74) (v := .d (.fl (.bool ((!((sR t (ix t.net.pts i).name).2)))))) rfl (og rfl (op_pick rfl rfl (by rw [h21]; rfl) rfl)) ?_
              refine dr_put (d := 75) (v := .d (.fl (.bool ((!((sR t (ix t.net.pts i).name).2)))))) rfl (og rfl (op_move rfl rfl rfl)) ?_
              refine dr_put (d := 76) (v := .pt 103 0) rfl (oy rfl rfl rfl (not_f hp2) (of_eff (s_field_pt rfl Try.underlying40 rfl ti9 rfl rfl rfl) rfl)) ?_
              refine dr_put (d := 77) (v := .d (.fl (.string (((sR t (ix t.net.pts i).name).1).name)))) rfl (oy rfl rfl rfl (not_f hp2) (op_load_pt rfl Try.underlying9 rfl rfl rfl rfl rfl)) ?_
              refine dr_put (d := 78) (v := .pt 102 2) rfl (oy rfl rfl rfl (not_f hp2) (of_eff (s_field_pt rfl Try.underlying35 rfl ti9 rfl rfl rfl) rfl)) ?_
              refine dr_put (d := 79) (v := .d (.fl (.string ((ix t.net.pts i).sys)))) rfl (oy rfl rfl rfl (not_f hp2) (op_load_pt rfl Try.underlying9 rfl rfl rfl rfl rfl)) ?_
              refine dr_put (d := 80) (v := .d (.fl (.bool ((!(sEq (((sR t (ix t.net.pts i).name).1).name) ((ix t.net.pts i).sys))))))) rfl (oy rfl rfl rfl (not_f hp2) (op_bin rfl rfl rfl (b_sne _ _ _) rfl)) ?_
              refine dr_put (d := 81) (v := .d (.fl (.bool ((!(sEq (((sR t (ix t.net.pts i).name).1).name) ((ix t.net.pts i).sys))))))) rfl (og rfl (op_pick rfl rfl (by rw [(not_f hp2)]; rfl) rfl)) ?_
              refine dr_put (d := 82) (v := .d (.fl (.bool ((!(sEq (((sR t (ix t.net.pts i).name).1).name) ((ix t.net.pts i).sys))))))) rfl (og rfl (op_move rfl rfl rfl)) ?_
              rcases fot ((!(sEq (((sR t (ix t.net.pts i).name).1).name) ((ix t.net.pts i).sys)))) with h23 | h23
              · skip
                have h24 := f_not h23
                refine dr_put (d := 83) (v := .d (.ag (eTpg t))) rfl (oy rfl rfl rfl h23 (of_eff (s_load_pts rfl Try.underlying28 rfl ti28 rfl rfl rfl rfl) rfl)) ?_
                refine dr_put (d := 84) (v := .pt 102 2) rfl (oy rfl rfl rfl h23 (of_eff (s_field_pt rfl Try.underlying35 rfl ti9 rfl rfl rfl) rfl)) ?_
                refine dr_put (d := 85) (v := .d (.fl (.string ((ix t.net.pts i).sys)))) rfl (oy rfl rfl rfl h23 (op_load_pt rfl Try.underlying9 rfl rfl rfl rfl rfl)) ?_
                refine dr_put (d := 86) (v := .pt 102 1) rfl (oy rfl rfl rfl h23 (of_eff (s_field_pt rfl Try.underlying35 rfl ti3 rfl rfl rfl) rfl)) ?_
                refine dr_put (d := 87) (v := .d (.fl (.int .i64 ((ix t.net.pts i).kind)))) rfl (oy rfl rfl rfl h23 (op_load_pt rfl Try.underlying3 rfl rfl rfl rfl rfl)) ?_
                refine dr_put (d := 88) (v := .d (.sl 1 (List.map rS ((srtS (pn (kn t) ((ix t.net.pts i).sys) ((ix t.net.pts i).kind) (kn t).length)))))) rfl (oy rfl rfl rfl h23 (op_call rfl Try.func10 nm10 rfl (.cons rfl (.d _) (.cons rfl (.d _) (.cons rfl (.d _) .nil))) (ptsC t ((ix t.net.pts i).sys) ((ix t.net.pts i).kind)) rfl)) ?_
                refine dr_put (d := 89) (v := .pt 102 0) rfl (oy rfl rfl rfl h23 (of_eff (s_field_pt rfl Try.underlying35 rfl ti9 rfl rfl rfl) rfl)) ?_
                refine dr_put (d := 90) (v := .d (.fl (.string ((ix t.net.pts i).name)))) rfl (oy rfl rfl rfl h23 (op_load_pt rfl Try.underlying9 rfl rfl rfl rfl rfl)) ?_
                refine dr_put (d := 91) (v := .d (.fl (.bool ((pq ((ix t.net.pts i).sys) ((ix t.net.pts i).kind) (ix t.net.pts i)))))) rfl (oy rfl rfl rfl h23 (op_call rfl Try.func9 nm9 rfl (.cons rfl (.d _) (.cons rfl (.d _) .nil)) ((has_ptsN t hck i (by omega) ((ix t.net.pts i).sys) ((ix t.net.pts i).kind) ▸ hasC ((srtS (pn (kn t) ((ix t.net.pts i).sys) ((ix t.net.pts i).kind) (kn t).length))) ((ix t.net.pts i).name) (by have := srtS_len (pn (kn t) ((ix t.net.pts i).sys) ((ix t.net.pts i).kind) (kn t).length); have := pn_len (kn t) ((ix t.net.pts i).sys) ((ix t.net.pts i).kind) (kn t).length; have := kn_len t; omega))) rfl)) ?_
                refine dr_put (d := 92) (v := .d (.fl (.bool ((!((pq ((ix t.net.pts i).sys) ((ix t.net.pts i).kind) (ix t.net.pts i)))))))) rfl (oy rfl rfl rfl h23 (op_un rfl rfl (u_not _) rfl)) ?_
                refine dr_put (d := 93) (v := .d (.fl (.bool ((!((pq ((ix t.net.pts i).sys) ((ix t.net.pts i).kind) (ix t.net.pts i)))))))) rfl (og rfl (op_pick rfl rfl (by rw [h23]; rfl) rfl)) ?_
                refine dr_done rfl (sepB_of [0, 1, 3, 7, 15, 31, 63, 127, 255, 127, 639, 2047, 4095, 8191, 16383, 16383, 49151, 16383, 147455, 524287, 16383, 1064959, 4194303, 8388607, 16777215] (by kernel_rfl)) (by kernel_rfl) ?_
                refine a_cond rfl (fun h25 => ?_) (fun h25 => ?_)
                · skip
                  have h26 := t_not h25
                  refine a_rseq ?_
                  refine rg_put (d := 2) (v := .d (.fl (.bool false))) rfl (og rfl (op_assign rfl rfl rfl)) ?_
                  refine rg_done rfl ?_
                  refine a_ret ?_
                  show ∃ ds, ResL _ _ _ ds ∧ RV.of ds = _
                  refine ⟨[.fl (.bool false)], (.cons (.tmp rfl (.d _)) .nil), ?_⟩
                  exfalso
                  first
                    | omega
                    | (rw [hp3] at h23; simp at h23; done)
                    | (rw [hp3] at h24; simp at h24; done)
                    | (rw [hp4] at h25; simp at h25; done)
                    | (rw [hp4] at h26; simp at h26; done)
                · skip
                  have h27 := f_not h25
                  refine a_skip ?_
                  show A _ _ _ _ _ _ _
                  refine a_region ?_
                  refine rg_put (d := 24) (v := .d (.fl (.int .i64 (i : Int)))) rfl (og rfl (op_move rfl rfl rfl)) ?_
                  refine rg_put (d := 25) (v := .d (.fl (.int .i64 (((i : Int) + 1))))) rfl (og rfl (op_bin rfl rfl rfl (fun x y w => b_add64 _ _ _ x y w (by omega)) rfl)) ?_
                  refine rg_put (d := 3) (v := .d (.fl (.int .i64 (((i : Int) + 1))))) rfl (og rfl (op_assign rfl rfl rfl)) ?_
                  refine rg_done rfl ?_
                  show ∃ i, _ ∧ _ ∧ Imp _ _ _ _ _
                  refine ⟨i + 1, (by omega), by omega, imp_forget rfl ⟨rfl, rfl, rfl, (by first | rfl | exact ci (by omega)), trivial⟩ ⟨rfl, trivial⟩⟩
              · skip
                have h28 := t_not h23
                refine dr_put (d := 83) (v := .d (.fl undef)) rfl (on rfl rfl rfl h23) ?_
                refine dr_put (d := 84) (v := .d (.fl undef)) rfl (on rfl rfl rfl h23) ?_
                refine dr_put (d := 85) (v := .d (.fl undef)) rfl (on rfl rfl rfl h23) ?_
                refine dr_put (d := 86) (v := .d (.fl undef)) rfl (on rfl rfl rfl h23) ?_
                refine dr_put (d := 87) (v := .d (.fl undef)) rfl (on rfl rfl rfl h23) ?_
                refine dr_put (d := 88) (v := .d (.fl undef)) rfl (on rfl rfl rfl h23) ?_
                refine dr_put (d := 89) (v := .d (.fl undef)) rfl (on rfl rfl rfl h23) ?_
                refine dr_put (d := 90) (v := .d (.fl undef)) rfl (on rfl rfl rfl h23) ?_
                refine dr_put (d := 91) (v := .d (.fl undef)) rfl (on rfl rfl rfl h23) ?_
                refine dr_put (d := 92) (v := .d (.fl undef)) rfl (on rfl rfl rfl h23) ?_
                refine dr_put (d := 93) (v := .d (.fl (.bool true))) rfl (og rfl (op_pick rfl rfl (by rw [h23]; rfl) rfl)) ?_
                refine dr_done rfl (sepB_of [0, 1, 3, 7, 15, 31, 63, 127, 255, 127, 639, 2047, 4095, 8191, 16383, 16383, 49151, 16383, 147455, 524287, 16383, 1064959, 4194303, 8388607, 16777215] (by kernel_rfl)) (by kernel_rfl) ?_
                refine a_condK rfl rfl ?_
                refine a_rseq ?_
                refine rg_put (d := 2) (v := .d (.fl (.bool false))) rfl (og rfl (op_assign rfl rfl rfl)) ?_
                refine rg_done rfl ?_
                refine a_ret ?_
                show ∃ ds, ResL _ _ _ ds ∧ RV.of ds = _
                refine ⟨[.fl (.bool false)], (.cons (.tmp rfl (.d _)) .nil), ?_⟩
                exfalso
                first
                  | omega
                  | (rw [hp3] at h23; simp at h23; done)
                  | (rw [hp3] at h28; simp at h28; done)
            · skip
              have h29 := t_bne h21
              refine dr_put (d := 72) (v := .d (.fl undef)) rfl (on rfl rfl rfl h21) ?_
              refine dr_put (d := 73) (v := .d (.fl undef)) rfl (on rfl rfl rfl h21) ?_
              refine dr_put (d := 74) (v := .d (.fl (.bool true))) rfl (og rfl (op_pick rfl rfl (by rw [h21]; rfl) rfl)) ?_
              refine dr_put (d := 75) (v := .d (.fl (.bool true))) rfl (og rfl (op_move rfl rfl rfl)) ?_
              refine dr_put (d := 76) (v := .d (.fl undef)) rfl (on rfl rfl rfl rfl) ?_
              refine dr_put (d := 77) (v := .d (.fl undef)) rfl (on rfl rfl rfl rfl) ?_
              refine dr_put (d := 78) (v := .d (.fl undef)) rfl (on rfl rfl rfl rfl) ?_
              refine dr_put (d := 79) (v := .d (.fl undef)) rfl (on rfl rfl rfl rfl) ?_
              refine dr_put (d := 80) (v := .d (.fl undef)) rfl (on rfl rfl rfl rfl) ?_
              refine dr_put (d := 81) (v := .d (.fl (.bool true))) rfl (og rfl (op_pick rfl rfl rfl rfl)) ?_
              refine dr_put (d := 82) (v := .d (.fl (.bool true))) rfl (og rfl (op_move rfl rfl rfl)) ?_
              refine dr_put (d := 83) (v := .d (.fl undef)) rfl (on rfl rfl rfl rfl) ?_
              refine dr_put (d := 84) (v := .d (.fl undef)) rfl (on rfl rfl rfl rfl) ?_
              refine dr_put (d := 85) (v := .d (.fl undef)) rfl (on rfl rfl rfl rfl) ?_
              refine dr_put (d := 86) (v := .d (.fl undef)) rfl (on rfl rfl rfl rfl) ?_
              refine dr_put (d := 87) (v := .d (.fl undef)) rfl (on rfl rfl rfl rfl) ?_
              refine dr_put (d := 88) (v := .d (.fl undef)) rfl (on rfl rfl rfl rfl) ?_
              refine dr_put (d := 89) (v := .d (.fl undef)) rfl (on rfl rfl rfl rfl) ?_
              refine dr_put (d := 90) (v := .d (.fl undef)) rfl (on rfl rfl rfl rfl) ?_
              refine dr_put (d := 91) (v := .d (.fl undef)) rfl (on rfl rfl rfl rfl) ?_
              refine dr_put (d := 92) (v := .d (.fl undef)) rfl (on rfl rfl rfl rfl) ?_
              refine dr_put (d := 93) (v := .d (.fl (.bool true))) rfl (og rfl (op_pick rfl rfl rfl rfl)) ?_
              refine dr_done rfl (sepB_of [0, 1, 3, 7, 15, 31, 63, 127, 255, 127, 639, 2047, 4095, 8191, 16383, 16383, 49151, 16383, 147455, 524287, 16383, 1064959, 4194303, 8388607, 16777215] (by kernel_rfl)) (by kernel_rfl) ?_
              refine a_condK rfl rfl ?_
              refine a_rseq ?_
              refine rg_put (d := 2) (v := .d (.fl (.bool false))) rfl (og rfl (op_assign rfl rfl rfl)) ?_
              refine rg_done rfl ?_
              refine a_ret ?_
              show ∃ ds, ResL _ _ _ ds ∧ RV.of ds = _
              refine ⟨[.fl (.bool false)], (.cons (.tmp rfl (.d _)) .nil), ?_⟩
              exfalso
              first
                | omega
      · skip
        have h30 := f_dec h6
        refine a_exit ?_
        show A _ _ _ _ _ _ _
        refine a_rseq ?_
        refine rg_put (d := 94) (v := .d (.fl (.bool true))) rfl (og rfl (op_call rfl Try.func8 nm8 rfl .nil alive8 rfl)) ?_
        refine rg_put (d := 2) (v := .d (.fl (.bool true))) rfl (og rfl (op_assign rfl rfl rfl)) ?_
        refine rg_done rfl ?_
        refine a_ret ?_
        show ∃ ds, ResL _ _ _ ds ∧ RV.of ds = _
        refine ⟨[.fl (.bool true)], (.cons (.tmp rfl (.d _)) .nil), ?_⟩
        rfl
  · skip
    have h31 := t_not h1
    refine rg_put (d := 14) (v := .d (.fl undef)) rfl (on rfl rfl rfl h1) ?_
    refine rg_put (d := 15) (v := .d (.fl undef)) rfl (on rfl rfl rfl h1) ?_
    refine rg_put (d := 16) (v := .d (.fl undef)) rfl (on rfl rfl rfl h1) ?_
    refine rg_put (d := 17) (v := .d (.fl (.bool true))) rfl (og rfl (op_pick rfl rfl (by rw [h1]; rfl) rfl)) ?_
    refine rg_done rfl ?_
    refine a_condK rfl rfl ?_
    refine a_rseq ?_
    refine rg_put (d := 2) (v := .d (.fl (.bool true))) rfl (og rfl (op_assign rfl rfl rfl)) ?_
    refine rg_done rfl ?_
    refine a_ret ?_
    show ∃ ds, ResL _ _ _ ds ∧ RV.of ds = _
    refine ⟨[.fl (.bool true)], (.cons (.tmp rfl (.d _)) .nil), ?_⟩
    rfl
end Go.Proofs.Ytjbhikldmaljaaa.Wk
