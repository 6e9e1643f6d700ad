/- The sources that are used, both sides. Condition: they are few. -/
import Derived.Test.YtmngepmckghcpaaGreatDoorD1
set_option linter.unusedSimpArgs false
set_option linter.unusedVariables false
namespace Go.Proofs.YtmngepmckghcpaaGreatDoor.Wk
open Go Go.RowKit Go.Sort Go.Shelf Go.Lib Go.Proofs.YtmngepmckghcpaaGreatDoor.Av
set_option maxHeartbeats 4000000 in
set_option maxRecDepth 100000 in
theorem useP (x : Fus) (hl : x.ps.length ≤ 30) (hs : ∀ q, q < x.ps.length → (ix x.ps q).src.length ≤ 20) : Ctr Tryz.prog 5 [.ag (eFus x)] (.d (.sl 2 (List.map eSrx (dfl (cc x.ps x.ps.length))))) := by
  refine ctr (n := 22) (rs := #[.tmp 2]) (L := [(0, .d (.ag (eFus x)))]) Tryz.func5 rfl rfl rfl rfl rfl (fun w0 U0 => ?_)
  refine a_rseq ?_
  refine rg_nam (d := 1) (v := .pt 101 0) (m := 101) (nw := [(101, .bx 25 (eFus x))]) rfl (og rfl (of_eff (op_box 101 rfl rfl rfl rfl) rfl)) rfl ?_
  refine rg_put (d := 2) (v := .d (.fl (.slice none 0 0))) rfl (og rfl (op_assign rfl rfl rfl)) ?_
  refine rg_done rfl ?_
  refine a_rseq ?_
  refine rg_put (d := 3) (v := .d (.fl (.slice none 0 0))) rfl (og rfl (op_assign rfl rfl rfl)) ?_
  refine rg_done rfl ?_
  refine a_seq ?_
  refine a_rseq ?_
  refine rg_imp (imp_nilT 3 102 32 2 rfl rfl) ?_
  refine rg_put (d := 6) (v := .pt 101 0) rfl (og rfl (of_eff (s_field_pt rfl Tryz.underlying25 rfl ti22 rfl rfl rfl) rfl)) ?_
  refine rg_put (d := 7) (v := .d (.sl 8 (List.map ePsg x.ps))) rfl (og rfl (op_load_pt rfl Tryz.underlying22 rfl rfl rfl rfl rfl)) ?_
  refine rg_put (d := 8) (v := .d (.fl (.int .i64 (x.ps.length : Int)))) rfl (og rfl (s_len rfl Tryz.underlying22 rfl rfl)) ?_
  refine rg_put (d := 9) (v := .d (.fl (.int .i64 0))) rfl (og rfl (op_move rfl rfl rfl)) ?_
  refine rg_done rfl ?_
  refine a_block ?_
  refine a_loop (ι := Nat) (fun k => SS [(0, .d (.ag (eFus x))), (1, .pt 101 0), (2, .d (.fl (.slice none 0 0))), (7, .d (.sl 8 (List.map ePsg x.ps))), (8, .d (.fl (.int .i64 (x.ps.length : Int)))), (9, .d (.fl (.int .i64 (k : Int)))), (3, .ow 102)] [(101, .bx 25 (eFus x)), (102, .tr 32 2 (tD eSrx (cc x.ps k)))]) (fun k => k ≤ x.ps.length) (fun k => x.ps.length - k) 0 (by omega) (imp_forget rfl ⟨rfl, rfl, rfl, rfl, rfl, (by first | rfl | exact ci (by omega) | exact ci (by simp) | exact cd (by simp) | simp), (by first | rfl | exact ci (by omega) | exact ci (by simp) | exact cd (by simp) | simp), trivial⟩ ⟨rfl, rfl, trivial⟩) (fun k hok => ?_)
  have hk := hok
  have hcl := cc_len hs k hk
  refine a_rseq ?_
  refine rg_put (d := 10) (v := .d (.fl (.bool ((decide ((k : Int) < (x.ps.length : Int))))))) rfl (og rfl (op_bin rfl rfl rfl (b_lss _ _ _ _) rfl)) ?_
  refine rg_done rfl ?_
  refine a_seq ?_
  refine a_cond rfl (fun h1 => ?_) (fun h1 => ?_)
  · skip
    have h2 := t_dec h1
    refine a_skip ?_
    show A _ _ _ _ _ _ _
    refine a_seq ?_
    refine a_block ?_
    refine a_rseq ?_
    have hsk := hs k (by omega)
    refine rg_put (d := 11) (v := .el ((ePsg (ix x.ps k)))) rfl (og rfl (s_index rfl Tryz.underlying22 ti29 rfl rfl (by omega) (row_at (by omega)) rfl)) ?_
    refine rg_put (d := 12) (v := .d (.ag (ePsg (ix x.ps k)))) rfl (og rfl (of_eff (s_load_els rfl Tryz.underlying29 rfl ti29 rfl rfl rfl) rfl)) ?_
    refine rg_nam (d := 5) (v := .pt 103 0) (m := 103) (nw := [(103, .bx 29 ([.fl (.string (⟨#[]⟩)), .fl (.string (⟨#[]⟩)), .fl (.int .i64 0), .fl (.string (⟨#[]⟩)), .fl (.string (⟨#[]⟩)), .fl (.int .i64 0), .fl (.int .i64 0), .fl (.slice none 0 0)]))]) rfl (og rfl (of_eff (s_alloc 103 rfl ti29 (by kernel_rfl) rfl) rfl)) rfl ?_
    refine rg_sto (nw := [(103, .bx 29 ((ePsg (ix x.ps k))))]) rfl (og rfl (of_eff (s_store rfl rfl ti29 rfl rfl rfl rfl rfl rfl) rfl)) ?_
    refine rg_done rfl ?_
    refine a_region ?_
    refine rg_put (d := 13) (v := .ow 102) rfl (og rfl (op_move rfl rfl rfl)) ?_
    refine rg_put (d := 14) (v := .pt 103 7) rfl (og rfl (of_eff (s_field_pt rfl Tryz.underlying29 rfl ti27 rfl rfl rfl) rfl)) ?_
    refine rg_put (d := 15) (v := .d (.sl 2 (List.map eSrx ((ix x.ps k).src)))) rfl (og rfl (op_load_pt rfl Tryz.underlying27 rfl rfl rfl rfl rfl)) ?_
    refine rg_nam (d := 16) (v := .ow 104) (m := 104) (nw := [(104, .tr 32 2 (tD eSrx (((cc x.ps k) ++ (ix x.ps k).src)))), (102, .no)]) rfl (og rfl (of_eff (s_append_td 104 rfl Tryz.underlying27 ti32 rfl rfl rfl rfl rfl (.d _) (by first | omega | (simp only [List.length_append]; omega)) rfl) rfl)) rfl ?_
    refine rg_put (d := 3) (v := .ow 104) rfl (og rfl (op_assign rfl rfl rfl)) ?_
    refine rg_done rfl ?_
    show A _ _ _ _ _ _ _
    refine a_region ?_
    refine rg_put (d := 17) (v := .d (.fl (.int .i64 (((k : Int) + 1))))) rfl (og rfl (op_bin rfl rfl rfl (fun x y w => b_add64 _ _ _ x y w (by omega)) rfl)) ?_
    refine rg_put (d := 9) (v := .d (.fl (.int .i64 (((k : Int) + 1))))) rfl (og rfl (op_move rfl rfl rfl)) ?_
    refine rg_done rfl ?_
    show ∃ i, _ ∧ _ ∧ Imp _ _ _ _ _
    refine ⟨k + 1, (by omega), by omega, imp_ren (fun m => bif Nat.beq m 102 then 104 else m) rfl ⟨rfl, rfl, rfl, rfl, rfl, (by first | rfl | exact ci (by omega) | exact ci (by simp) | exact cd (by simp) | simp), rfl, trivial⟩ ⟨rfl, rfl, trivial⟩⟩
  · skip
    have h3 := f_dec h1
    refine a_exit ?_
    show A _ _ _ _ _ _ _
    refine a_rseq ?_
    have hke : k = x.ps.length := by omega
    rw [show (cc x.ps k) = (cc x.ps x.ps.length) from (by rw [hke])]
    have hcl := cc_len hs x.ps.length (Nat.le_refl _)
    refine rg_put (d := 18) (v := .ow 102) rfl (og rfl (op_move rfl rfl rfl)) ?_
    refine rg_sortE rfl rfl rfl rfl (by rfl) Tryz.func13 nm13 rfl rfl rfl rfl (fun _ => rfl) (p := fun _ => True) (fun _ _ => trivial) sortD (by omega) (fun l' hp hs2 => ?_)
    have hl' : l' = srt (cc x.ps x.ps.length) := srt_eq hp (hs2.imp (fun h => le_of_sorted cp_neg h))
    rw [show l' = (srt (cc x.ps x.ps.length)) from hl']
    refine rg_done rfl ?_
    refine a_rseq ?_
    refine rg_put (d := 20) (v := .ow 102) rfl (og rfl (op_move rfl rfl rfl)) ?_
    refine rg_nam (d := 21) (v := .ow 105) (m := 105) (nw := [(105, .tr 32 2 (tD eSrx ((dd ((srt (cc x.ps x.ps.length))) ((srt (cc x.ps x.ps.length))).length)))), (102, .no)]) rfl (og rfl (of_eff (op_callT 105 rfl Tryz.func15 nm15 rfl rfl rfl rfl .nil (cptT ((srt (cc x.ps x.ps.length))) (by rw [srt_len]; omega)) rfl) rfl)) rfl ?_
    refine rg_put (d := 2) (v := .ow 105) rfl (og rfl (op_assign rfl rfl rfl)) ?_
    refine rg_done rfl ?_
    refine a_imp (imp_leakT 2 105 rfl rfl) ?_
    refine a_ret ?_
    show ∃ ds, ResL _ _ _ ds ∧ RV.of ds = _
    refine ⟨[.sl 2 (List.map eSrx ((dd ((srt (cc x.ps x.ps.length))) ((srt (cc x.ps x.ps.length))).length)))], (.cons (.tmp rfl (.d _)) .nil), ?_⟩
    rfl
set_option maxHeartbeats 4000000 in
set_option maxRecDepth 100000 in
theorem useR (x : Fus) (hl : x.ps.length ≤ 30) (hs : ∀ q, q < x.ps.length → (ix x.ps q).src.length ≤ 20) : Ctr Tryz.prog 6 [.ag (eFus x)] (.d (.sl 2 (List.map eSrx (rsF (cc x.ps x.ps.length))))) := by
  refine ctr (n := 56) (rs := #[.tmp 2]) (L := [(0, .d (.ag (eFus x)))]) Tryz.func6 rfl rfl rfl rfl rfl (fun w0 U0 => ?_)
  refine a_rseq ?_
  refine rg_nam (d := 1) (v := .pt 101 0) (m := 101) (nw := [(101, .bx 25 (eFus x))]) rfl (og rfl (of_eff (op_box 101 rfl rfl rfl rfl) rfl)) rfl ?_
  refine rg_put (d := 2) (v := .d (.fl (.slice none 0 0))) rfl (og rfl (op_assign rfl rfl rfl)) ?_
  refine rg_done rfl ?_
  refine a_rseq ?_
  refine rg_nam (d := 7) (v := .ow 102) (m := 102) (nw := [(102, .tr 32 2 (tD eSrx []))]) rfl (og rfl (of_eff (op_slice0 102 rfl Tryz.underlying27 ti32 rfl) rfl)) rfl ?_
  refine rg_put (d := 3) (v := .ow 102) rfl (og rfl (op_assign rfl rfl rfl)) ?_
  refine rg_done rfl ?_
  refine a_seq ?_
  refine a_rseq ?_
  refine rg_imp (imp_leakT 3 102 (f := eSrx) (l := []) rfl rfl) ?_
  refine rg_put (d := 4) (v := .d (.fl (.int .i64 0))) rfl (og rfl (op_assign rfl rfl rfl)) ?_
  refine rg_done rfl ?_
  refine a_block ?_
  refine a_loop (ι := Nat) (fun i => SS [(0, .d (.ag (eFus x))), (1, .pt 101 0), (2, .d (.fl (.slice none 0 0))), (4, .d (.fl (.int .i64 (i : Int)))), (3, .d (.sl 2 (List.map eSrx ((rsF (cc x.ps i))))))] [(101, .bx 25 (eFus x))]) (fun i => i ≤ x.ps.length) (fun i => x.ps.length - i) 0 (by omega) (imp_forget rfl ⟨rfl, rfl, rfl, (by first | rfl | exact ci (by omega) | exact ci (by simp) | exact cd (by simp) | simp), rfl, trivial⟩ ⟨rfl, trivial⟩) (fun i hok => ?_)
  have hi := hok
  have hcl := cc_len hs i hi
  refine a_seq ?_
  refine a_rseq ?_
  refine rg_put (d := 8) (v := .d (.fl (.int .i64 (i : Int)))) rfl (og rfl (op_move rfl rfl rfl)) ?_
  refine rg_put (d := 9) (v := .pt 101 0) rfl (og rfl (of_eff (s_field_pt rfl Tryz.underlying25 rfl ti22 rfl rfl rfl) rfl)) ?_
  refine rg_put (d := 10) (v := .d (.sl 8 (List.map ePsg x.ps))) rfl (og rfl (op_load_pt rfl Tryz.underlying22 rfl rfl rfl rfl rfl)) ?_
  refine rg_put (d := 11) (v := .d (.fl (.int .i64 (x.ps.length : Int)))) rfl (og rfl (s_len rfl Tryz.underlying22 rfl rfl)) ?_
  refine rg_put (d := 12) (v := .d (.fl (.bool ((decide ((i : Int) < (x.ps.length : Int))))))) rfl (og rfl (op_bin rfl rfl rfl (b_lss _ _ _ _) rfl)) ?_
  refine rg_done rfl ?_
  refine a_cond rfl (fun h1 => ?_) (fun h1 => ?_)
  · skip
    have h2 := t_dec h1
    refine a_skip ?_
    show A _ _ _ _ _ _ _
    refine a_seq ?_
    refine a_block ?_
    refine a_rseq ?_
    refine rg_put (d := 5) (v := .d (.fl (.int .i64 0))) rfl (og rfl (op_assign rfl rfl rfl)) ?_
    refine rg_done rfl ?_
    refine a_block ?_
    refine a_loop (ι := Nat) (fun k => SS [(0, .d (.ag (eFus x))), (1, .pt 101 0), (2, .d (.fl (.slice none 0 0))), (4, .d (.fl (.int .i64 (i : Int)))), (12, .d (.fl (.bool ((decide ((i : Int) < (x.ps.length : Int))))))), (5, .d (.fl (.int .i64 (k : Int)))), (3, .d (.sl 2 (List.map eSrx ((rsF (cc x.ps i ++ (ix x.ps i).src.take k))))))] [(101, .bx 25 (eFus x))]) (fun k => k ≤ (ix x.ps i).src.length) (fun k => (ix x.ps i).src.length - k) 0 (by omega) (imp_forget rfl ⟨rfl, rfl, rfl, rfl, rfl, (by first | rfl | exact ci (by omega) | exact ci (by simp) | exact cd (by simp) | simp), (cd (congrArg (fun z => DV.sl 2 (List.map eSrx z)) (by rw [List.take_zero, List.append_nil]))), trivial⟩ ⟨rfl, trivial⟩) (fun k hok => ?_)
    have hk := hok
    have hsi := hs i (by omega)
    have hrl := rsF_len (cc x.ps i ++ (ix x.ps i).src.take k)
    rw [List.length_append, List.length_take] at hrl
    refine a_seq ?_
    refine a_rseq ?_
    refine rg_put (d := 15) (v := .d (.fl (.int .i64 (k : Int)))) rfl (og rfl (op_move rfl rfl rfl)) ?_
    refine rg_put (d := 16) (v := .pt 101 0) rfl (og rfl (of_eff (s_field_pt rfl Tryz.underlying25 rfl ti22 rfl rfl rfl) rfl)) ?_
    refine rg_put (d := 17) (v := .d (.sl 8 (List.map ePsg x.ps))) rfl (og rfl (op_load_pt rfl Tryz.underlying22 rfl rfl rfl rfl rfl)) ?_
    refine rg_put (d := 18) (v := .d (.fl (.int .i64 (i : Int)))) rfl (og rfl (op_move rfl rfl rfl)) ?_
    refine rg_put (d := 19) (v := .el ((ePsg (ix x.ps i)))) rfl (og rfl (s_index rfl Tryz.underlying22 ti29 rfl rfl (by omega) (row_at (by omega)) rfl)) ?_
    refine rg_put (d := 20) (v := .el ((List.drop 7 ((ePsg (ix x.ps i)))))) rfl (og rfl (of_eff (s_field_el rfl Tryz.underlying29 rfl ti27 rfl rfl rfl) rfl)) ?_
    refine rg_put (d := 21) (v := .d (.sl 2 (List.map eSrx ((ix x.ps i).src)))) rfl (og rfl (op_load_el rfl Tryz.underlying27 rfl rfl rfl rfl)) ?_
    refine rg_put (d := 22) (v := .d (.fl (.int .i64 ((((ix x.ps i).src).length : Int))))) rfl (og rfl (s_len rfl Tryz.underlying27 rfl rfl)) ?_
    refine rg_put (d := 23) (v := .d (.fl (.bool ((decide ((k : Int) < (((ix x.ps i).src).length : Int))))))) rfl (og rfl (op_bin rfl rfl rfl (b_lss _ _ _ _) rfl)) ?_
    refine rg_done rfl ?_
    refine a_cond rfl (fun h3 => ?_) (fun h3 => ?_)
    · skip
      have h4 := t_dec h3
      refine a_skip ?_
      show A _ _ _ _ _ _ _
      refine a_seq ?_
      refine a_block ?_
      refine a_dseq (by kernel_rfl) ?_
      refine dr_put (d := 26) (v := .pt 101 0) rfl (og rfl (of_eff (s_field_pt rfl Tryz.underlying25 rfl ti22 rfl rfl rfl) rfl)) ?_
      refine dr_put (d := 27) (v := .d (.sl 8 (List.map ePsg x.ps))) rfl (og rfl (op_load_pt rfl Tryz.underlying22 rfl rfl rfl rfl rfl)) ?_
      refine dr_put (d := 28) (v := .d (.fl (.int .i64 (i : Int)))) rfl (og rfl (op_move rfl rfl rfl)) ?_
      refine dr_put (d := 29) (v := .el ((ePsg (ix x.ps i)))) rfl (og rfl (s_index rfl Tryz.underlying22 ti29 rfl rfl (by omega) (row_at (by omega)) rfl)) ?_
      refine dr_put (d := 30) (v := .el ((List.drop 7 ((ePsg (ix x.ps i)))))) rfl (og rfl (of_eff (s_field_el rfl Tryz.underlying29 rfl ti27 rfl rfl rfl) rfl)) ?_
      refine dr_put (d := 31) (v := .d (.sl 2 (List.map eSrx ((ix x.ps i).src)))) rfl (og rfl (op_load_el rfl Tryz.underlying27 rfl rfl rfl rfl)) ?_
      refine dr_put (d := 32) (v := .d (.fl (.int .i64 (k : Int)))) rfl (og rfl (op_move rfl rfl rfl)) ?_
      refine dr_put (d := 33) (v := .el ((eSrx ((ix ((ix x.ps i).src) k))))) rfl (og rfl (s_index rfl Tryz.underlying27 ti32 rfl rfl (by omega) (row_at (by omega)) rfl)) ?_
      refine dr_put (d := 34) (v := .el ((List.drop 0 ((eSrx ((ix ((ix x.ps i).src) k))))))) rfl (og rfl (of_eff (s_field_el rfl Tryz.underlying32 rfl ti9 rfl rfl rfl) rfl)) ?_
      refine dr_put (d := 35) (v := .d (.fl (.string (((ix ((ix x.ps i).src) k)).dev)))) rfl (og rfl (op_load_el rfl Tryz.underlying9 rfl rfl rfl rfl)) ?_
      refine dr_put (d := 36) (v := .pt 101 0) rfl (og rfl (of_eff (s_field_pt rfl Tryz.underlying25 rfl ti22 rfl rfl rfl) rfl)) ?_
      refine dr_put (d := 37) (v := .d (.sl 8 (List.map ePsg x.ps))) rfl (og rfl (op_load_pt rfl Tryz.underlying22 rfl rfl rfl rfl rfl)) ?_
      refine dr_put (d := 38) (v := .d (.fl (.int .i64 (i : Int)))) rfl (og rfl (op_move rfl rfl rfl)) ?_
      refine dr_put (d := 39) (v := .el ((ePsg (ix x.ps i)))) rfl (og rfl (s_index rfl Tryz.underlying22 ti29 rfl rfl (by omega) (row_at (by omega)) rfl)) ?_
      refine dr_put (d := 40) (v := .el ((List.drop 7 ((ePsg (ix x.ps i)))))) rfl (og rfl (of_eff (s_field_el rfl Tryz.underlying29 rfl ti27 rfl rfl rfl) rfl)) ?_
      refine dr_put (d := 41) (v := .d (.sl 2 (List.map eSrx ((ix x.ps i).src)))) rfl (og rfl (op_load_el rfl Tryz.underlying27 rfl rfl rfl rfl)) ?_
      refine dr_put (d := 42) (v := .d (.fl (.int .i64 (k : Int)))) rfl (og rfl (op_move rfl rfl rfl)) ?_
      refine dr_put (d := 43) (v := .el ((eSrx ((ix ((ix x.ps i).src) k))))) rfl (og rfl (s_index rfl Tryz.underlying27 ti32 rfl rfl (by omega) (row_at (by omega)) rfl)) ?_
      refine dr_put (d := 44) (v := .el ((List.drop 1 ((eSrx ((ix ((ix x.ps i).src) k))))))) rfl (og rfl (of_eff (s_field_el rfl Tryz.underlying32 rfl ti3 rfl rfl rfl) rfl)) ?_
      refine dr_put (d := 45) (v := .d (.fl (.int .i64 (((ix ((ix x.ps i).src) k)).seq)))) rfl (og rfl (op_load_el rfl Tryz.underlying3 rfl rfl rfl rfl)) ?_
      refine dr_put (d := 46) (v := .d (.ag (eDet ((Det.mk (((ix ((ix x.ps i).src) k)).dev) (((ix ((ix x.ps i).src) k)).seq) 0 (⟨#[]⟩) (⟨#[]⟩) 0 0))))) rfl (og rfl (of_eff (op_build rfl Tryz.underlying61 ti61 rfl (by kernel_rfl) (by kernel_rfl) (pl := #[(0, 1), (1, 1), (2, 1), (3, 1), (4, 1), (5, 1), (6, 1)]) (by kernel_rfl) (.cons rfl rfl (.d _) rfl rfl rfl (.cons rfl rfl (.d _) rfl rfl rfl .nil)) rfl) rfl)) ?_
      refine dr_put (d := 47) (v := .d (.ag (eSen ((Sen.mk ((Det.mk (((Det.mk (((ix ((ix x.ps i).src) k)).dev) (((ix ((ix x.ps i).src) k)).seq) 0 (⟨#[]⟩) (⟨#[]⟩) 0 0)).ddev) (((Det.mk (((ix ((ix x.ps i).src) k)).dev) (((ix ((ix x.ps i).src) k)).seq) 0 (⟨#[]⟩) (⟨#[]⟩) 0 0)).dseq) (((Det.mk (((ix ((ix x.ps i).src) k)).dev) (((ix ((ix x.ps i).src) k)).seq) 0 (⟨#[]⟩) (⟨#[]⟩) 0 0)).time) (((Det.mk (((ix ((ix x.ps i).src) k)).dev) (((ix ((ix x.ps i).src) k)).seq) 0 (⟨#[]⟩) (⟨#[]⟩) 0 0)).tag) (((Det.mk (((ix ((ix x.ps i).src) k)).dev) (((ix ((ix x.ps i).src) k)).seq) 0 (⟨#[]⟩) (⟨#[]⟩) 0 0)).plate) (((Det.mk (((ix ((ix x.ps i).src) k)).dev) (((ix ((ix x.ps i).src) k)).seq) 0 (⟨#[]⟩) (⟨#[]⟩) 0 0)).axles) (((Det.mk (((ix ((ix x.ps i).src) k)).dev) (((ix ((ix x.ps i).src) k)).seq) 0 (⟨#[]⟩) (⟨#[]⟩) 0 0)).score))) 0 (⟨#[]⟩) 0 0))))) rfl (og rfl (of_eff (op_build rfl Tryz.underlying63 ti63 rfl (by kernel_rfl) (by kernel_rfl) (pl := #[(0, 7), (7, 1), (8, 1), (9, 1), (10, 1)]) (by kernel_rfl) (.cons rfl rfl (.d _) rfl rfl rfl .nil) rfl) rfl)) ?_
      refine dr_nam (d := 6) (v := .pt 103 0) (m := 103) (nw := [(103, .bx 63 ([.fl (.string (⟨#[]⟩)), .fl (.int .i64 0), .fl (.int .i64 0), .fl (.string (⟨#[]⟩)), .fl (.string (⟨#[]⟩)), .fl (.int .i64 0), .fl (.int .i64 0), .fl (.int .i64 0), .fl (.string (⟨#[]⟩)), .fl (.int .i64 0), .fl (.int .i64 0)]))]) rfl (og rfl (of_eff (s_alloc 103 rfl ti63 (by kernel_rfl) rfl) rfl)) ?_
      refine dr_sto (nw := [(103, .bx 63 ((eSen ((Sen.mk ((Det.mk (((Det.mk (((ix ((ix x.ps i).src) k)).dev) (((ix ((ix x.ps i).src) k)).seq) 0 (⟨#[]⟩) (⟨#[]⟩) 0 0)).ddev) (((Det.mk (((ix ((ix x.ps i).src) k)).dev) (((ix ((ix x.ps i).src) k)).seq) 0 (⟨#[]⟩) (⟨#[]⟩) 0 0)).dseq) (((Det.mk (((ix ((ix x.ps i).src) k)).dev) (((ix ((ix x.ps i).src) k)).seq) 0 (⟨#[]⟩) (⟨#[]⟩) 0 0)).time) (((Det.mk (((ix ((ix x.ps i).src) k)).dev) (((ix ((ix x.ps i).src) k)).seq) 0 (⟨#[]⟩) (⟨#[]⟩) 0 0)).tag) (((Det.mk (((ix ((ix x.ps i).src) k)).dev) (((ix ((ix x.ps i).src) k)).seq) 0 (⟨#[]⟩) (⟨#[]⟩) 0 0)).plate) (((Det.mk (((ix ((ix x.ps i).src) k)).dev) (((ix ((ix x.ps i).src) k)).seq) 0 (⟨#[]⟩) (⟨#[]⟩) 0 0)).axles) (((Det.mk (((ix ((ix x.ps i).src) k)).dev) (((ix ((ix x.ps i).src) k)).seq) 0 (⟨#[]⟩) (⟨#[]⟩) 0 0)).score))) 0 (⟨#[]⟩) 0 0)))))]) rfl (og rfl (of_eff (s_store rfl rfl ti63 rfl rfl rfl rfl rfl rfl) rfl)) ?_
      refine dr_done rfl (sepB_of [0, 1, 0, 7, 15, 31, 0, 127, 255, 511, 0, 1024, 0, 7168, 15360, 31744, 0, 130048, 261120, 523264, 1048575, 2097151, 0, 8388607] (by kernel_rfl)) (by kernel_rfl) ?_
      refine a_rseq ?_
      refine rg_put (d := 48) (v := .d (.sl 2 (List.map eSrx ((rsF (cc x.ps i ++ (ix x.ps i).src.take k)))))) rfl (og rfl (op_move rfl rfl rfl)) ?_
      refine rg_put (d := 49) (v := .d (.ag (eSen (((Sen.mk ((Det.mk (((Det.mk (((ix ((ix x.ps i).src) k)).dev) (((ix ((ix x.ps i).src) k)).seq) 0 (⟨#[]⟩) (⟨#[]⟩) 0 0)).ddev) (((Det.mk (((ix ((ix x.ps i).src) k)).dev) (((ix ((ix x.ps i).src) k)).seq) 0 (⟨#[]⟩) (⟨#[]⟩) 0 0)).dseq) (((Det.mk (((ix ((ix x.ps i).src) k)).dev) (((ix ((ix x.ps i).src) k)).seq) 0 (⟨#[]⟩) (⟨#[]⟩) 0 0)).time) (((Det.mk (((ix ((ix x.ps i).src) k)).dev) (((ix ((ix x.ps i).src) k)).seq) 0 (⟨#[]⟩) (⟨#[]⟩) 0 0)).tag) (((Det.mk (((ix ((ix x.ps i).src) k)).dev) (((ix ((ix x.ps i).src) k)).seq) 0 (⟨#[]⟩) (⟨#[]⟩) 0 0)).plate) (((Det.mk (((ix ((ix x.ps i).src) k)).dev) (((ix ((ix x.ps i).src) k)).seq) 0 (⟨#[]⟩) (⟨#[]⟩) 0 0)).axles) (((Det.mk (((ix ((ix x.ps i).src) k)).dev) (((ix ((ix x.ps i).src) k)).seq) 0 (⟨#[]⟩) (⟨#[]⟩) 0 0)).score))) 0 (⟨#[]⟩) 0 0)))))) rfl (og rfl (of_eff (s_load_pts rfl Tryz.underlying63 rfl ti63 rfl rfl rfl rfl) rfl)) ?_
      refine rg_put (d := 50) (v := .d (.fl (.bool ((hasS ((rsF (cc x.ps i ++ (ix x.ps i).src.take k))) (ix (ix x.ps i).src k)))))) rfl (og rfl (op_call rfl Tryz.func16 nm16 rfl (.cons rfl (.d _) (.cons rfl (.d _) .nil)) (hasC ((rsF (cc x.ps i ++ (ix x.ps i).src.take k))) (((Sen.mk ((Det.mk (((Det.mk (((ix ((ix x.ps i).src) k)).dev) (((ix ((ix x.ps i).src) k)).seq) 0 (⟨#[]⟩) (⟨#[]⟩) 0 0)).ddev) (((Det.mk (((ix ((ix x.ps i).src) k)).dev) (((ix ((ix x.ps i).src) k)).seq) 0 (⟨#[]⟩) (⟨#[]⟩) 0 0)).dseq) (((Det.mk (((ix ((ix x.ps i).src) k)).dev) (((ix ((ix x.ps i).src) k)).seq) 0 (⟨#[]⟩) (⟨#[]⟩) 0 0)).time) (((Det.mk (((ix ((ix x.ps i).src) k)).dev) (((ix ((ix x.ps i).src) k)).seq) 0 (⟨#[]⟩) (⟨#[]⟩) 0 0)).tag) (((Det.mk (((ix ((ix x.ps i).src) k)).dev) (((ix ((ix x.ps i).src) k)).seq) 0 (⟨#[]⟩) (⟨#[]⟩) 0 0)).plate) (((Det.mk (((ix ((ix x.ps i).src) k)).dev) (((ix ((ix x.ps i).src) k)).seq) 0 (⟨#[]⟩) (⟨#[]⟩) 0 0)).axles) (((Det.mk (((ix ((ix x.ps i).src) k)).dev) (((ix ((ix x.ps i).src) k)).seq) 0 (⟨#[]⟩) (⟨#[]⟩) 0 0)).score))) 0 (⟨#[]⟩) 0 0))) (by omega)) rfl)) ?_
      refine rg_put (d := 51) (v := .d (.fl (.bool ((!((hasS ((rsF (cc x.ps i ++ (ix x.ps i).src.take k))) (ix (ix x.ps i).src k)))))))) rfl (og rfl (op_un rfl rfl (u_not _) rfl)) ?_
      refine rg_done rfl ?_
      refine a_cond rfl (fun h5 => ?_) (fun h5 => ?_)
      · skip
        have h6 := t_not h5
        refine a_region ?_
        refine rg_put (d := 52) (v := .d (.sl 2 (List.map eSrx ((rsF (cc x.ps i ++ (ix x.ps i).src.take k)))))) rfl (og rfl (op_move rfl rfl rfl)) ?_
        refine rg_put (d := 53) (v := .d (.ag (eSen (((Sen.mk ((Det.mk (((Det.mk (((ix ((ix x.ps i).src) k)).dev) (((ix ((ix x.ps i).src) k)).seq) 0 (⟨#[]⟩) (⟨#[]⟩) 0 0)).ddev) (((Det.mk (((ix ((ix x.ps i).src) k)).dev) (((ix ((ix x.ps i).src) k)).seq) 0 (⟨#[]⟩) (⟨#[]⟩) 0 0)).dseq) (((Det.mk (((ix ((ix x.ps i).src) k)).dev) (((ix ((ix x.ps i).src) k)).seq) 0 (⟨#[]⟩) (⟨#[]⟩) 0 0)).time) (((Det.mk (((ix ((ix x.ps i).src) k)).dev) (((ix ((ix x.ps i).src) k)).seq) 0 (⟨#[]⟩) (⟨#[]⟩) 0 0)).tag) (((Det.mk (((ix ((ix x.ps i).src) k)).dev) (((ix ((ix x.ps i).src) k)).seq) 0 (⟨#[]⟩) (⟨#[]⟩) 0 0)).plate) (((Det.mk (((ix ((ix x.ps i).src) k)).dev) (((ix ((ix x.ps i).src) k)).seq) 0 (⟨#[]⟩) (⟨#[]⟩) 0 0)).axles) (((Det.mk (((ix ((ix x.ps i).src) k)).dev) (((ix ((ix x.ps i).src) k)).seq) 0 (⟨#[]⟩) (⟨#[]⟩) 0 0)).score))) 0 (⟨#[]⟩) 0 0)))))) rfl (og rfl (of_eff (s_load_pts rfl Tryz.underlying63 rfl ti63 rfl rfl rfl rfl) rfl)) ?_
        refine rg_put (d := 54) (v := .d (.sl 2 (List.map eSrx ((insD ((rsF (cc x.ps i ++ (ix x.ps i).src.take k))) (ix (ix x.ps i).src k)))))) rfl (og rfl (op_call rfl Tryz.func17 nm17 rfl (.cons rfl (.d _) (.cons rfl (.d _) .nil)) (souC ((rsF (cc x.ps i ++ (ix x.ps i).src.take k))) (((Sen.mk ((Det.mk (((Det.mk (((ix ((ix x.ps i).src) k)).dev) (((ix ((ix x.ps i).src) k)).seq) 0 (⟨#[]⟩) (⟨#[]⟩) 0 0)).ddev) (((Det.mk (((ix ((ix x.ps i).src) k)).dev) (((ix ((ix x.ps i).src) k)).seq) 0 (⟨#[]⟩) (⟨#[]⟩) 0 0)).dseq) (((Det.mk (((ix ((ix x.ps i).src) k)).dev) (((ix ((ix x.ps i).src) k)).seq) 0 (⟨#[]⟩) (⟨#[]⟩) 0 0)).time) (((Det.mk (((ix ((ix x.ps i).src) k)).dev) (((ix ((ix x.ps i).src) k)).seq) 0 (⟨#[]⟩) (⟨#[]⟩) 0 0)).tag) (((Det.mk (((ix ((ix x.ps i).src) k)).dev) (((ix ((ix x.ps i).src) k)).seq) 0 (⟨#[]⟩) (⟨#[]⟩) 0 0)).plate) (((Det.mk (((ix ((ix x.ps i).src) k)).dev) (((ix ((ix x.ps i).src) k)).seq) 0 (⟨#[]⟩) (⟨#[]⟩) 0 0)).axles) (((Det.mk (((ix ((ix x.ps i).src) k)).dev) (((ix ((ix x.ps i).src) k)).seq) 0 (⟨#[]⟩) (⟨#[]⟩) 0 0)).score))) 0 (⟨#[]⟩) 0 0))) (by omega) h6) rfl)) ?_
        refine rg_put (d := 3) (v := .d (.sl 2 (List.map eSrx ((insD ((rsF (cc x.ps i ++ (ix x.ps i).src.take k))) (ix (ix x.ps i).src k)))))) rfl (og rfl (op_assign rfl rfl rfl)) ?_
        refine rg_done rfl ?_
        show A _ _ _ _ _ _ _
        refine a_region ?_
        refine rg_put (d := 24) (v := .d (.fl (.int .i64 (k : Int)))) rfl (og rfl (op_move rfl rfl rfl)) ?_
        refine rg_put (d := 25) (v := .d (.fl (.int .i64 (((k : Int) + 1))))) rfl (og rfl (op_bin rfl rfl rfl (fun x y w => b_add64 _ _ _ x y w (by omega)) rfl)) ?_
        refine rg_put (d := 5) (v := .d (.fl (.int .i64 (((k : Int) + 1))))) rfl (og rfl (op_assign rfl rfl rfl)) ?_
        refine rg_done rfl ?_
        have hap : rsF (cc x.ps i ++ (ix x.ps i).src.take (k + 1)) = insD (rsF (cc x.ps i ++ (ix x.ps i).src.take k)) (ix (ix x.ps i).src k) := by rw [tk_s (by omega), ← List.append_assoc, rsF_app]
        have hst : (insD ((rsF (cc x.ps i ++ (ix x.ps i).src.take k))) (ix (ix x.ps i).src k)) = rsF (cc x.ps i ++ (ix x.ps i).src.take (k + 1)) := by rw [hap]
        show ∃ i, _ ∧ _ ∧ Imp _ _ _ _ _
        refine ⟨k + 1, (by omega), by omega, imp_forget rfl ⟨rfl, rfl, rfl, rfl, rfl, (by first | rfl | exact ci (by omega)), (cd (congrArg (fun z => DV.sl 2 (List.map eSrx z)) hst)), trivial⟩ ⟨rfl, trivial⟩⟩
      · skip
        have h7 := f_not h5
        refine a_skip ?_
        show A _ _ _ _ _ _ _
        refine a_region ?_
        refine rg_put (d := 24) (v := .d (.fl (.int .i64 (k : Int)))) rfl (og rfl (op_move rfl rfl rfl)) ?_
        refine rg_put (d := 25) (v := .d (.fl (.int .i64 (((k : Int) + 1))))) rfl (og rfl (op_bin rfl rfl rfl (fun x y w => b_add64 _ _ _ x y w (by omega)) rfl)) ?_
        refine rg_put (d := 5) (v := .d (.fl (.int .i64 (((k : Int) + 1))))) rfl (og rfl (op_assign rfl rfl rfl)) ?_
        refine rg_done rfl ?_
        have hap : rsF (cc x.ps i ++ (ix x.ps i).src.take (k + 1)) = insD (rsF (cc x.ps i ++ (ix x.ps i).src.take k)) (ix (ix x.ps i).src k) := by rw [tk_s (by omega), ← List.append_assoc, rsF_app]
        have hst : (rsF (cc x.ps i ++ (ix x.ps i).src.take k)) = rsF (cc x.ps i ++ (ix x.ps i).src.take (k + 1)) := by rw [hap, insD_in (rsF_pw _) (hasS_t h7)]
        show ∃ i, _ ∧ _ ∧ Imp _ _ _ _ _
        refine ⟨k + 1, (by omega), by omega, imp_forget rfl ⟨rfl, rfl, rfl, rfl, rfl, (by first | rfl | exact ci (by omega)), (cd (congrArg (fun z => DV.sl 2 (List.map eSrx z)) hst)), trivial⟩ ⟨rfl, trivial⟩⟩
    · skip
      have h8 := f_dec h3
      refine a_exit ?_
      show A _ _ _ _ _ _ _
      refine a_region ?_
      refine rg_put (d := 13) (v := .d (.fl (.int .i64 (i : Int)))) rfl (og rfl (op_move rfl rfl rfl)) ?_
      refine rg_put (d := 14) (v := .d (.fl (.int .i64 (((i : Int) + 1))))) rfl (og rfl (op_bin rfl rfl rfl (fun x y w => b_add64 _ _ _ x y w (by omega)) rfl)) ?_
      refine rg_put (d := 4) (v := .d (.fl (.int .i64 (((i : Int) + 1))))) rfl (og rfl (op_assign rfl rfl rfl)) ?_
      refine rg_done rfl ?_
      show ∃ i, _ ∧ _ ∧ Imp _ _ _ _ _
      refine ⟨i + 1, (by omega), by omega, imp_forget rfl ⟨rfl, rfl, rfl, (by first | rfl | exact ci (by omega)), (cd (congrArg (fun z => DV.sl 2 (List.map eSrx z)) (by rw [show k = (ix x.ps i).src.length from by omega, List.take_length]; rfl))), trivial⟩ ⟨rfl, trivial⟩⟩
  · skip
    have h9 := f_dec h1
    refine a_exit ?_
    show A _ _ _ _ _ _ _
    refine a_rseq ?_
    refine rg_put (d := 55) (v := .d (.sl 2 (List.map eSrx ((rsF (cc x.ps i)))))) rfl (og rfl (op_move rfl rfl rfl)) ?_
    refine rg_put (d := 2) (v := .d (.sl 2 (List.map eSrx ((rsF (cc x.ps i)))))) rfl (og rfl (op_assign rfl rfl rfl)) ?_
    refine rg_done rfl ?_
    refine a_ret ?_
    show ∃ ds, ResL _ _ _ ds ∧ RV.of ds = _
    refine ⟨[.sl 2 (List.map eSrx ((rsF (cc x.ps i))))], (.cons (.tmp rfl (.d _)) .nil), ?_⟩
    rw [show x.ps.length = i from by omega]; rfl
end Go.Proofs.YtmngepmckghcpaaGreatDoor.Wk
