/- Lists against themselves; a day count. Conditions: as each theorem names them. -/
import Derived.Test.YtocjbombpggmeaaB8
set_option linter.unusedSimpArgs false
set_option linter.unusedVariables false
namespace Go.Proofs.Ytocjbombpggmeaa.Wk
open Go Go.RowKit Go.Proofs.Ytocjbombpggmeaa.Av
theorem ne_self_b (a : Int) : (a != a) = false := by simp
set_option maxHeartbeats 4000000 in
set_option maxRecDepth 100000 in
theorem same_self (a : List Dp) (hl : a.length ≤ 2000) (hb : ∀ q, q < a.length → (ix a q).proofs.length ≤ 2000) : Ctr Try.prog 14 [.sl 5 (List.map eDp a), .sl 5 (List.map eDp a)] (.d (.fl (.bool true))) := by
  refine ctr (n := 81) (rs := #[.tmp 4]) (L := [(0, .d (.sl 5 (List.map eDp a))), (1, .d (.sl 5 (List.map eDp a)))]) Try.func14 rfl rfl rfl rfl rfl (fun w0 U0 => ?_)
  refine a_rseq ?_
  refine rg_put (d := 4) (v := .d (.fl (.bool false))) rfl (og rfl (op_assign rfl rfl rfl)) ?_
  refine rg_done rfl ?_
  refine a_seq ?_
  refine a_rseq ?_
  refine rg_put (d := 9) (v := .d (.sl 5 (List.map eDp a))) rfl (og rfl (op_move rfl rfl rfl)) ?_
  refine rg_put (d := 10) (v := .d (.fl (.int .i64 (a.length : Int)))) rfl (og rfl (s_len rfl Try.underlying22 rfl rfl)) ?_
  refine rg_put (d := 11) (v := .d (.sl 5 (List.map eDp a))) rfl (og rfl (op_move rfl rfl rfl)) ?_
  refine rg_put (d := 12) (v := .d (.fl (.int .i64 (a.length : Int)))) rfl (og rfl (s_len rfl Try.underlying22 rfl rfl)) ?_
  refine rg_put (d := 13) (v := .d (.fl (.bool (((a.length : Int) != (a.length : Int)))))) rfl (og rfl (op_bin rfl rfl rfl (b_neq _ _ _ _) rfl)) ?_
  refine rg_done rfl ?_
  refine a_condF rfl (ne_self_b _) ?_
  refine a_skip ?_
  show A _ _ _ _ _ _ _
  refine a_seq ?_
  refine a_rseq ?_
  refine rg_put (d := 5) (v := .d (.fl (.int .i64 0))) rfl (og rfl (op_assign rfl rfl rfl)) ?_
  refine rg_done rfl ?_
  refine a_block ?_
  refine a_loop (ι := Nat) (fun k => SS [(0, .d (.sl 5 (List.map eDp a))), (1, .d (.sl 5 (List.map eDp a))), (13, .d (.fl (.bool (((a.length : Int) != (a.length : Int)))))), (5, .d (.fl (.int .i64 (k : Int))))] []) (fun k => k ≤ a.length) (fun k => a.length - k) 0 (by omega) (imp_forget rfl ⟨rfl, rfl, rfl, (by first | rfl | exact ci (by omega) | exact ci (by simp) | exact cd (by simp) | simp), trivial⟩ trivial) (fun k hok => ?_)
  have hk := hok
  refine a_seq ?_
  refine a_rseq ?_
  refine rg_put (d := 14) (v := .d (.fl (.int .i64 (k : Int)))) rfl (og rfl (op_move rfl rfl rfl)) ?_
  refine rg_put (d := 15) (v := .d (.sl 5 (List.map eDp a))) rfl (og rfl (op_move rfl rfl rfl)) ?_
  refine rg_put (d := 16) (v := .d (.fl (.int .i64 (a.length : Int)))) rfl (og rfl (s_len rfl Try.underlying22 rfl rfl)) ?_
  refine rg_put (d := 17) (v := .d (.fl (.bool ((decide ((k : Int) < (a.length : Int))))))) rfl (og rfl (op_bin rfl rfl rfl (b_lss _ _ _ _) rfl)) ?_
  refine rg_done rfl ?_
  refine a_cond rfl (fun h1 => ?_) (fun h1 => ?_)
  · skip
    have h2 := t_dec h1
    refine a_skip ?_
    show A _ _ _ _ _ _ _
    refine a_seq ?_
    refine a_block ?_
    refine a_dseq (by kernel_rfl) ?_
    refine dr_put (d := 20) (v := .d (.sl 5 (List.map eDp a))) rfl (og rfl (op_move rfl rfl rfl)) ?_
    refine dr_put (d := 21) (v := .d (.fl (.int .i64 (k : Int)))) rfl (og rfl (op_move rfl rfl rfl)) ?_
    refine dr_put (d := 22) (v := .el ((eDp (ix a k)))) rfl (og rfl (s_index rfl Try.underlying22 ti40 rfl rfl (by omega) (row_at (by omega)) rfl)) ?_
    refine dr_put (d := 23) (v := .d (.ag (eDp (ix a k)))) rfl (og rfl (of_eff (s_load_els rfl Try.underlying40 rfl ti40 rfl rfl rfl) rfl)) ?_
    refine dr_put (d := 24) (v := .d (.sl 5 (List.map eDp a))) rfl (og rfl (op_move rfl rfl rfl)) ?_
    refine dr_put (d := 25) (v := .d (.fl (.int .i64 (k : Int)))) rfl (og rfl (op_move rfl rfl rfl)) ?_
    refine dr_put (d := 26) (v := .el ((eDp (ix a k)))) rfl (og rfl (s_index rfl Try.underlying22 ti40 rfl rfl (by omega) (row_at (by omega)) rfl)) ?_
    refine dr_put (d := 27) (v := .d (.ag (eDp (ix a k)))) rfl (og rfl (of_eff (s_load_els rfl Try.underlying40 rfl ti40 rfl rfl rfl) rfl)) ?_
    refine dr_nam (d := 6) (v := .pt 101 0) (m := 101) (nw := [(101, .bx 40 ([.fl (.string (⟨#[]⟩)), .fl (.int .i64 0), .fl (.int .i64 0), .fl (.int .i64 0), .fl (.slice none 0 0)]))]) rfl (og rfl (of_eff (s_alloc 101 rfl ti40 (by kernel_rfl) rfl) rfl)) ?_
    refine dr_nam (d := 7) (v := .pt 102 0) (m := 102) (nw := [(102, .bx 40 ([.fl (.string (⟨#[]⟩)), .fl (.int .i64 0), .fl (.int .i64 0), .fl (.int .i64 0), .fl (.slice none 0 0)]))]) rfl (og rfl (of_eff (s_alloc 102 rfl ti40 (by kernel_rfl) rfl) rfl)) ?_
    refine dr_sto (nw := [(101, .bx 40 ((eDp (ix a k))))]) rfl (og rfl (of_eff (s_store rfl rfl ti40 rfl rfl rfl rfl rfl rfl) rfl)) ?_
    refine dr_sto (nw := [(102, .bx 40 ((eDp (ix a k))))]) rfl (og rfl (of_eff (s_store rfl rfl ti40 rfl rfl rfl rfl rfl rfl) rfl)) ?_
    refine dr_done rfl (by kernel_rfl) (by kernel_rfl) ?_
    refine a_seq ?_
    refine a_rseq ?_
    refine rg_put (d := 28) (v := .pt 101 0) rfl (og rfl (of_eff (s_field_pt rfl Try.underlying40 rfl ti9 rfl rfl rfl) rfl)) ?_
    refine rg_put (d := 29) (v := .d (.fl (.string ((ix a k).key)))) rfl (og rfl (op_load_pt rfl Try.underlying9 rfl rfl rfl rfl rfl)) ?_
    refine rg_put (d := 30) (v := .pt 102 0) rfl (og rfl (of_eff (s_field_pt rfl Try.underlying40 rfl ti9 rfl rfl rfl) rfl)) ?_
    refine rg_put (d := 31) (v := .d (.fl (.string ((ix a k).key)))) rfl (og rfl (op_load_pt rfl Try.underlying9 rfl rfl rfl rfl rfl)) ?_
    refine rg_put (d := 32) (v := .d (.fl (.bool ((!(sEq ((ix a k).key) ((ix a k).key))))))) rfl (og rfl (op_bin rfl rfl rfl (b_sne _ _ _) rfl)) ?_
    refine rg_put (d := 33) (v := .d (.fl (.bool ((!(sEq ((ix a k).key) ((ix a k).key))))))) rfl (og rfl (op_move rfl rfl rfl)) ?_
    refine rg_put (d := 34) (v := .pt 101 1) rfl (oy rfl rfl rfl (not_f (eq_self_s _)) (of_eff (s_field_pt rfl Try.underlying40 rfl ti3 rfl rfl rfl) rfl)) ?_
    refine rg_put (d := 35) (v := .d (.fl (.int .i64 ((ix a k).time)))) rfl (oy rfl rfl rfl (not_f (eq_self_s _)) (op_load_pt rfl Try.underlying3 rfl rfl rfl rfl rfl)) ?_
    refine rg_put (d := 36) (v := .pt 102 1) rfl (oy rfl rfl rfl (not_f (eq_self_s _)) (of_eff (s_field_pt rfl Try.underlying40 rfl ti3 rfl rfl rfl) rfl)) ?_
    refine rg_put (d := 37) (v := .d (.fl (.int .i64 ((ix a k).time)))) rfl (oy rfl rfl rfl (not_f (eq_self_s _)) (op_load_pt rfl Try.underlying3 rfl rfl rfl rfl rfl)) ?_
    refine rg_put (d := 38) (v := .d (.fl (.bool (((ix a k).time != (ix a k).time))))) rfl (oy rfl rfl rfl (not_f (eq_self_s _)) (op_bin rfl rfl rfl (b_neq _ _ _ _) rfl)) ?_
    refine rg_put (d := 39) (v := .d (.fl (.bool (((ix a k).time != (ix a k).time))))) rfl (og rfl (op_pick rfl rfl (by rw [(not_f (eq_self_s _))]; rfl) rfl)) ?_
    refine rg_put (d := 40) (v := .d (.fl (.bool (((ix a k).time != (ix a k).time))))) rfl (og rfl (op_move rfl rfl rfl)) ?_
    refine rg_put (d := 41) (v := .pt 101 2) rfl (oy rfl rfl rfl (ne_self_b _) (of_eff (s_field_pt rfl Try.underlying40 rfl ti3 rfl rfl rfl) rfl)) ?_
    refine rg_put (d := 42) (v := .d (.fl (.int .i64 ((ix a k).cents)))) rfl (oy rfl rfl rfl (ne_self_b _) (op_load_pt rfl Try.underlying3 rfl rfl rfl rfl rfl)) ?_
    refine rg_put (d := 43) (v := .pt 102 2) rfl (oy rfl rfl rfl (ne_self_b _) (of_eff (s_field_pt rfl Try.underlying40 rfl ti3 rfl rfl rfl) rfl)) ?_
    refine rg_put (d := 44) (v := .d (.fl (.int .i64 ((ix a k).cents)))) rfl (oy rfl rfl rfl (ne_self_b _) (op_load_pt rfl Try.underlying3 rfl rfl rfl rfl rfl)) ?_
    refine rg_put (d := 45) (v := .d (.fl (.bool (((ix a k).cents != (ix a k).cents))))) rfl (oy rfl rfl rfl (ne_self_b _) (op_bin rfl rfl rfl (b_neq _ _ _ _) rfl)) ?_
    refine rg_put (d := 46) (v := .d (.fl (.bool (((ix a k).cents != (ix a k).cents))))) rfl (og rfl (op_pick rfl rfl (by rw [(ne_self_b _)]; rfl) rfl)) ?_
    refine rg_put (d := 47) (v := .d (.fl (.bool (((ix a k).cents != (ix a k).cents))))) rfl (og rfl (op_move rfl rfl rfl)) ?_
    refine rg_put (d := 48) (v := .pt 101 3) rfl (oy rfl rfl rfl (ne_self_b _) (of_eff (s_field_pt rfl Try.underlying40 rfl ti3 rfl rfl rfl) rfl)) ?_
    refine rg_put (d := 49) (v := .d (.fl (.int .i64 ((ix a k).state)))) rfl (oy rfl rfl rfl (ne_self_b _) (op_load_pt rfl Try.underlying3 rfl rfl rfl rfl rfl)) ?_
    refine rg_put (d := 50) (v := .pt 102 3) rfl (oy rfl rfl rfl (ne_self_b _) (of_eff (s_field_pt rfl Try.underlying40 rfl ti3 rfl rfl rfl) rfl)) ?_
    refine rg_put (d := 51) (v := .d (.fl (.int .i64 ((ix a k).state)))) rfl (oy rfl rfl rfl (ne_self_b _) (op_load_pt rfl Try.underlying3 rfl rfl rfl rfl rfl)) ?_
    refine rg_put (d := 52) (v := .d (.fl (.bool (((ix a k).state != (ix a k).state))))) rfl (oy rfl rfl rfl (ne_self_b _) (op_bin rfl rfl rfl (b_neq _ _ _ _) rfl)) ?_
    refine rg_put (d := 53) (v := .d (.fl (.bool (((ix a k).state != (ix a k).state))))) rfl (og rfl (op_pick rfl rfl (by rw [(ne_self_b _)]; rfl) rfl)) ?_
    refine rg_put (d := 54) (v := .d (.fl (.bool (((ix a k).state != (ix a k).state))))) rfl (og rfl (op_move rfl rfl rfl)) ?_
    refine rg_put (d := 55) (v := .pt 101 4) rfl (oy rfl rfl rfl (ne_self_b _) (of_eff (s_field_pt rfl Try.underlying40 rfl ti38 rfl rfl rfl) rfl)) ?_
    refine rg_put (d := 56) (v := .d (.sl 1 (List.map rS ((ix a k).proofs)))) rfl (oy rfl rfl rfl (ne_self_b _) (op_load_pt rfl Try.underlying38 rfl rfl rfl rfl rfl)) ?_
    refine rg_put (d := 57) (v := .d (.fl (.int .i64 ((((ix a k).proofs).length : Int))))) rfl (oy rfl rfl rfl (ne_self_b _) (s_len rfl Try.underlying38 rfl rfl)) ?_
    refine rg_put (d := 58) (v := .pt 102 4) rfl (oy rfl rfl rfl (ne_self_b _) (of_eff (s_field_pt rfl Try.underlying40 rfl ti38 rfl rfl rfl) rfl)) ?_
    refine rg_put (d := 59) (v := .d (.sl 1 (List.map rS ((ix a k).proofs)))) rfl (oy rfl rfl rfl (ne_self_b _) (op_load_pt rfl Try.underlying38 rfl rfl rfl rfl rfl)) ?_
    refine rg_put (d := 60) (v := .d (.fl (.int .i64 ((((ix a k).proofs).length : Int))))) rfl (oy rfl rfl rfl (ne_self_b _) (s_len rfl Try.underlying38 rfl rfl)) ?_
    refine rg_put (d := 61) (v := .d (.fl (.bool (((((ix a k).proofs).length : Int) != (((ix a k).proofs).length : Int)))))) rfl (oy rfl rfl rfl (ne_self_b _) (op_bin rfl rfl rfl (b_neq _ _ _ _) rfl)) ?_
    refine rg_put (d := 62) (v := .d (.fl (.bool (((((ix a k).proofs).length : Int) != (((ix a k).proofs).length : Int)))))) rfl (og rfl (op_pick rfl rfl (by rw [(ne_self_b _)]; rfl) rfl)) ?_
    refine rg_done rfl ?_
    refine a_condF rfl (ne_self_b _) ?_
    refine a_skip ?_
    show A _ _ _ _ _ _ _
    refine a_rseq ?_
    have hbk := hb k (by omega)
    refine rg_put (d := 8) (v := .d (.fl (.int .i64 0))) rfl (og rfl (op_assign rfl rfl rfl)) ?_
    refine rg_done rfl ?_
    refine a_block ?_
    refine a_loop (ι := Nat) (fun j => SS [(0, .d (.sl 5 (List.map eDp a))), (1, .d (.sl 5 (List.map eDp a))), (5, .d (.fl (.int .i64 (k : Int)))), (6, .pt 101 0), (7, .pt 102 0), (13, .d (.fl (.bool (((a.length : Int) != (a.length : Int)))))), (17, .d (.fl (.bool ((decide ((k : Int) < (a.length : Int))))))), (62, .d (.fl (.bool (((((ix a k).proofs).length : Int) != (((ix a k).proofs).length : Int)))))), (8, .d (.fl (.int .i64 (j : Int))))] [(101, .bx 40 ((eDp (ix a k)))), (102, .bx 40 ((eDp (ix a k))))]) (fun j => j ≤ (ix a k).proofs.length) (fun j => (ix a k).proofs.length - j) 0 (by omega) (imp_forget rfl ⟨rfl, rfl, rfl, rfl, rfl, rfl, rfl, rfl, (by first | rfl | exact ci (by omega) | exact ci (by simp) | exact cd (by simp) | simp), trivial⟩ ⟨rfl, rfl, trivial⟩) (fun j hok => ?_)
    have hj := hok
    refine a_seq ?_
    refine a_rseq ?_
    refine rg_put (d := 63) (v := .d (.fl (.int .i64 (j : Int)))) rfl (og rfl (op_move rfl rfl rfl)) ?_
    refine rg_put (d := 64) (v := .pt 101 4) rfl (og rfl (of_eff (s_field_pt rfl Try.underlying40 rfl ti38 rfl rfl rfl) rfl)) ?_
    refine rg_put (d := 65) (v := .d (.sl 1 (List.map rS ((ix a k).proofs)))) rfl (og rfl (op_load_pt rfl Try.underlying38 rfl rfl rfl rfl rfl)) ?_
    refine rg_put (d := 66) (v := .d (.fl (.int .i64 ((((ix a k).proofs).length : Int))))) rfl (og rfl (s_len rfl Try.underlying38 rfl rfl)) ?_
    refine rg_put (d := 67) (v := .d (.fl (.bool ((decide ((j : Int) < (((ix a k).proofs).length : Int))))))) rfl (og rfl (op_bin rfl rfl rfl (b_lss _ _ _ _) rfl)) ?_
    refine rg_done rfl ?_
    refine a_cond rfl (fun h3 => ?_) (fun h3 => ?_)
    · skip
      have h4 := t_dec h3
      refine a_skip ?_
      show A _ _ _ _ _ _ _
      refine a_seq ?_
      refine a_block ?_
      refine a_dseq (by kernel_rfl) ?_
      refine dr_put (d := 70) (v := .pt 101 4) rfl (og rfl (of_eff (s_field_pt rfl Try.underlying40 rfl ti38 rfl rfl rfl) rfl)) ?_
      refine dr_put (d := 71) (v := .d (.sl 1 (List.map rS ((ix a k).proofs)))) rfl (og rfl (op_load_pt rfl Try.underlying38 rfl rfl rfl rfl rfl)) ?_
      refine dr_put (d := 72) (v := .d (.fl (.int .i64 (j : Int)))) rfl (og rfl (op_move rfl rfl rfl)) ?_
      refine dr_put (d := 73) (v := .el ((rS ((ix ((ix a k).proofs) j))))) rfl (og rfl (s_index rfl Try.underlying38 ti9 rfl rfl (by omega) (row_at (by omega)) rfl)) ?_
      refine dr_put (d := 74) (v := .d (.fl (.string ((ix ((ix a k).proofs) j))))) rfl (og rfl (op_load_el rfl Try.underlying9 rfl rfl rfl rfl)) ?_
      refine dr_put (d := 75) (v := .pt 102 4) rfl (og rfl (of_eff (s_field_pt rfl Try.underlying40 rfl ti38 rfl rfl rfl) rfl)) ?_
      refine dr_put (d := 76) (v := .d (.sl 1 (List.map rS ((ix a k).proofs)))) rfl (og rfl (op_load_pt rfl Try.underlying38 rfl rfl rfl rfl rfl)) ?_
      refine dr_put (d := 77) (v := .d (.fl (.int .i64 (j : Int)))) rfl (og rfl (op_move rfl rfl rfl)) ?_
      refine dr_put (d := 78) (v := .el ((rS ((ix ((ix a k).proofs) j))))) rfl (og rfl (s_index rfl Try.underlying38 ti9 rfl rfl (by omega) (row_at (by omega)) rfl)) ?_
      refine dr_put (d := 79) (v := .d (.fl (.string ((ix ((ix a k).proofs) j))))) rfl (og rfl (op_load_el rfl Try.underlying9 rfl rfl rfl rfl)) ?_
      refine dr_put (d := 80) (v := .d (.fl (.bool ((!(sEq ((ix ((ix a k).proofs) j)) ((ix ((ix a k).proofs) j)))))))) rfl (og rfl (op_bin rfl rfl rfl (b_sne _ _ _) rfl)) ?_
      refine dr_done rfl (by kernel_rfl) (by kernel_rfl) ?_
      refine a_condF rfl (not_f (eq_self_s _)) ?_
      refine a_skip ?_
      show A _ _ _ _ _ _ _
      refine a_region ?_
      refine rg_put (d := 68) (v := .d (.fl (.int .i64 (j : Int)))) rfl (og rfl (op_move rfl rfl rfl)) ?_
      refine rg_put (d := 69) (v := .d (.fl (.int .i64 (((j : Int) + 1))))) rfl (og rfl (op_bin rfl rfl rfl (fun x y w => b_add64 _ _ _ x y w (by omega)) rfl)) ?_
      refine rg_put (d := 8) (v := .d (.fl (.int .i64 (((j : Int) + 1))))) rfl (og rfl (op_assign rfl rfl rfl)) ?_
      refine rg_done rfl ?_
      show ∃ i, _ ∧ _ ∧ Imp _ _ _ _ _
      refine ⟨j + 1, (by omega), by omega, imp_forget rfl ⟨rfl, rfl, rfl, rfl, rfl, rfl, rfl, rfl, (by first | rfl | exact ci (by omega) | exact ci (by simp) | exact cd (by simp) | simp), trivial⟩ ⟨rfl, rfl, trivial⟩⟩
    · skip
      have h5 := f_dec h3
      refine a_exit ?_
      show A _ _ _ _ _ _ _
      refine a_region ?_
      refine rg_put (d := 18) (v := .d (.fl (.int .i64 (k : Int)))) rfl (og rfl (op_move rfl rfl rfl)) ?_
      refine rg_put (d := 19) (v := .d (.fl (.int .i64 (((k : Int) + 1))))) rfl (og rfl (op_bin rfl rfl rfl (fun x y w => b_add64 _ _ _ x y w (by omega)) rfl)) ?_
      refine rg_put (d := 5) (v := .d (.fl (.int .i64 (((k : Int) + 1))))) rfl (og rfl (op_assign rfl rfl rfl)) ?_
      refine rg_done rfl ?_
      show ∃ i, _ ∧ _ ∧ Imp _ _ _ _ _
      refine ⟨k + 1, (by omega), by omega, imp_forget rfl ⟨rfl, rfl, rfl, (by first | rfl | exact ci (by omega) | exact ci (by simp) | exact cd (by simp) | simp), trivial⟩ trivial⟩
  · skip
    have h6 := f_dec h1
    refine a_exit ?_
    show A _ _ _ _ _ _ _
    refine a_rseq ?_
    refine rg_put (d := 4) (v := .d (.fl (.bool true))) rfl (og rfl (op_assign rfl rfl rfl)) ?_
    refine rg_done rfl ?_
    refine a_ret ?_
    show ∃ ds, ResL _ _ _ ds ∧ RV.of ds = _
    refine ⟨[.fl (.bool true)], (.cons (.tmp rfl (.d _)) .nil), ?_⟩
    rfl
theorem same_eq {a b : List Dp} (h : a = b) (hl : a.length ≤ 2000) (hb : ∀ q, q < a.length → (ix a q).proofs.length ≤ 2000) : Ctr Try.prog 14 [.sl 5 (List.map eDp a), .sl 5 (List.map eDp b)] (.d (.fl (.bool true))) := by subst h; exact same_self a hl hb
set_option maxHeartbeats 4000000 in
set_option maxRecDepth 100000 in
theorem after44 (t b d : Int) (h1 : 0 ≤ t) (h2 : t < 68719476736) (h3 : 0 ≤ d) (h4 : d ≤ 1000) : Ctr Try.prog 44 [.fl (.int .i64 t), .fl (.int .i64 b), .fl (.int .i64 d)] (.d (.fl (.bool (decide (b < t - d * 86400))))) := by
  refine ctr (n := 13) (rs := #[.tmp 6]) (L := [(0, .d (.fl (.int .i64 t))), (1, .d (.fl (.int .i64 b))), (2, .d (.fl (.int .i64 d)))]) Try.func44 rfl rfl rfl rfl rfl (fun w0 U0 => ?_)
  refine a_rseq ?_
  refine rg_put (d := 6) (v := .d (.fl (.bool false))) rfl (og rfl (op_assign rfl rfl rfl)) ?_
  refine rg_done rfl ?_
  refine a_rseq ?_
  refine rg_put (d := 7) (v := .d (.fl (.int .i64 t))) rfl (og rfl (op_move rfl rfl rfl)) ?_
  refine rg_put (d := 8) (v := .d (.fl (.int .i64 d))) rfl (og rfl (op_move rfl rfl rfl)) ?_
  refine rg_put (d := 9) (v := .d (.fl (.int .i64 (d * 86400)))) rfl (og rfl (op_bin rfl rfl rfl (fun x y w => b_mul64 _ _ _ x y w (by omega)) rfl)) ?_
  refine rg_put (d := 10) (v := .d (.fl (.int .i64 ((t - (d * 86400)))))) rfl (og rfl (op_bin rfl rfl rfl (fun x y w => b_sub64 _ _ _ x y w (by omega)) rfl)) ?_
  refine rg_put (d := 11) (v := .d (.fl (.int .i64 b))) rfl (og rfl (op_move rfl rfl rfl)) ?_
  refine rg_put (d := 12) (v := .d (.fl (.bool ((decide (b < (t - (d * 86400)))))))) rfl (og rfl (op_bin rfl rfl rfl (b_gtr _ _ _ _) rfl)) ?_
  refine rg_put (d := 6) (v := .d (.fl (.bool ((decide (b < (t - (d * 86400)))))))) rfl (og rfl (op_assign rfl rfl rfl)) ?_
  refine rg_done rfl ?_
  refine a_ret ?_
  show ∃ ds, ResL _ _ _ ds ∧ RV.of ds = _
  refine ⟨[.fl (.bool ((decide (b < (t - (d * 86400))))))], (.cons (.tmp rfl (.d _)) .nil), ?_⟩
  rfl
end Go.Proofs.Ytocjbombpggmeaa.Wk
