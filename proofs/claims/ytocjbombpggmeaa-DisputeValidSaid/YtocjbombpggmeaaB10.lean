/- Copies, the plain way. Condition: lists of at most two thousand. -/
import Derived.Test.YtocjbombpggmeaaAv22
import Derived.Test.YtocjbombpggmeaaB9
set_option linter.unusedSimpArgs false
set_option linter.unusedVariables false
namespace Go.Proofs.Ytocjbombpggmeaa.Wk
open Go Go.RowKit Go.Proofs.Ytocjbombpggmeaa.Av
theorem take_map {l : List Dp} {k : Nat} (h : k < l.length) : (l.take k).map oDp ++ [oDp (ix l k)] = (l.take (k + 1)).map oDp := by
  rw [take_ix h, List.map_append]; rfl
theorem map_all {l : List Dp} {k : Nat} (h : ¬ k < l.length) : (l.take k).map oDp = l.map oDp := by
  rw [List.take_of_length_le (by omega)]

set_option maxHeartbeats 4000000 in
set_option maxRecDepth 100000 in
theorem copied42 (l : List Dp) (hl : l.length ≤ 2000) (hb : ∀ q, q < l.length → (ix l q).proofs.length ≤ 2000) : CtrO Try.prog 42 [.sl 5 (List.map eDp l)] (.tr 40 5 (l.map oDp)) := by
  refine ctrO (n := 31) (rs := #[.tmp 2]) (L := [(0, .d (.sl 5 (List.map eDp l)))]) Try.func42 rfl rfl rfl rfl rfl (fun w0 U0 => ?_)
  refine a_rseq ?_
  refine rg_put (d := 2) (v := .d (.fl (.slice none 0 0))) rfl (og rfl (op_assign rfl rfl rfl)) ?_
  refine rg_done rfl ?_
  refine a_rseq ?_
  refine rg_put (d := 3) (v := .d (.fl (.slice none 0 0))) rfl (og rfl (op_assign rfl rfl rfl)) ?_
  refine rg_done rfl ?_
  refine a_seq ?_
  refine a_rseq ?_
  refine rg_put (d := 4) (v := .d (.fl (.int .i64 0))) rfl (og rfl (op_assign rfl rfl rfl)) ?_
  refine rg_done rfl ?_
  refine a_block ?_
  refine a_loop (ι := Nat) (fun k => SS [(0, .d (.sl 5 (List.map eDp l))), (2, .d (.fl (.slice none 0 0))), (4, .d (.fl (.int .i64 (k : Int)))), (3, .ow 201)] [(201, .tr 40 5 (((l.take k).map oDp)))]) (fun k => k ≤ l.length) (fun k => l.length - k) 0 (by omega) (Imp.trans (imp_nilT 3 201 40 5 rfl rfl) (imp_forget rfl ⟨rfl, rfl, (by first | rfl | exact ci (by omega) | exact ci (by simp) | exact cd (by simp) | simp), (by first | rfl | exact ci (by omega) | exact ci (by simp) | exact cd (by simp) | simp), trivial⟩ ⟨(by first | rfl | simp), trivial⟩)) (fun k hok => ?_)
  have hk := hok
  refine a_seq ?_
  refine a_rseq ?_
  refine rg_put (d := 6) (v := .d (.fl (.int .i64 (k : Int)))) rfl (og rfl (op_move rfl rfl rfl)) ?_
  refine rg_put (d := 7) (v := .d (.sl 5 (List.map eDp l))) rfl (og rfl (op_move rfl rfl rfl)) ?_
  refine rg_put (d := 8) (v := .d (.fl (.int .i64 (l.length : Int)))) rfl (og rfl (s_len rfl Try.underlying22 rfl rfl)) ?_
  refine rg_put (d := 9) (v := .d (.fl (.bool ((decide ((k : Int) < (l.length : Int))))))) rfl (og rfl (op_bin rfl rfl rfl (b_lss _ _ _ _) rfl)) ?_
  refine rg_done rfl ?_
  refine a_cond rfl (fun h1 => ?_) (fun h1 => ?_)
  · skip
    have h2 := t_dec h1
    refine a_skip ?_
    show A _ _ _ _ _ _ _
    refine a_seq ?_
    refine a_block ?_
    refine a_rseq ?_
    refine rg_put (d := 12) (v := .d (.sl 5 (List.map eDp l))) rfl (og rfl (op_move rfl rfl rfl)) ?_
    refine rg_put (d := 13) (v := .d (.fl (.int .i64 (k : Int)))) rfl (og rfl (op_move rfl rfl rfl)) ?_
    refine rg_put (d := 14) (v := .el ((eDp (ix l k)))) rfl (og rfl (s_index rfl Try.underlying22 ti40 rfl rfl (by omega) (row_at (by omega)) rfl)) ?_
    refine rg_put (d := 15) (v := .d (.ag (eDp (ix l k)))) rfl (og rfl (of_eff (s_load_els rfl Try.underlying40 rfl ti40 rfl rfl rfl) rfl)) ?_
    refine rg_nam (d := 5) (v := .pt 101 0) (m := 101) (nw := [(101, .bx 40 ([.fl (.string (⟨#[]⟩)), .fl (.int .i64 0), .fl (.int .i64 0), .fl (.int .i64 0), .fl (.slice none 0 0)]))]) rfl (og rfl (of_eff (s_alloc 101 rfl ti40 (by kernel_rfl) rfl) rfl)) rfl ?_
    refine rg_sto (nw := [(101, .bx 40 ((eDp (ix l k))))]) rfl (og rfl (of_eff (s_store rfl rfl ti40 rfl rfl rfl rfl rfl rfl) rfl)) ?_
    refine rg_done rfl ?_
    refine a_rseq ?_
    refine rg_imp (imp_bt 101 rfl) ?_
    refine rg_put (d := 16) (v := .pt 101 4) rfl (og rfl (of_eff (s_field_pt rfl Try.underlying40 rfl ti38 rfl rfl rfl) rfl)) ?_
    refine rg_sto (nw := [(101, .bt 40 [.dv (.fl (.string ((ix l k).key))), .dv (.fl (.int .i64 ((ix l k).time))), .dv (.fl (.int .i64 ((ix l k).cents))), .dv (.fl (.int .i64 ((ix l k).state))), .dv (.fl (.slice none 0 0))])]) rfl (og rfl (of_eff (op_store_bt rfl rfl ti38 rfl rfl rfl (.d rfl) rfl rfl rfl) rfl)) ?_
    refine rg_done rfl ?_
    have hbk := hb k (by omega)
    refine a_dseq (by kernel_rfl) ?_
    refine dr_put (d := 17) (v := .pt 101 4) rfl (og rfl (of_eff (s_field_pt rfl Try.underlying40 rfl ti38 rfl rfl rfl) rfl)) ?_
    refine dr_put (d := 18) (v := .d (.fl (.slice none 0 0))) rfl (og rfl (op_load_bt rfl Try.underlying38 rfl rfl rfl rfl rfl)) ?_
    refine dr_put (d := 19) (v := .d (.sl 5 (List.map eDp l))) rfl (og rfl (op_move rfl rfl rfl)) ?_
    refine dr_put (d := 20) (v := .d (.fl (.int .i64 (k : Int)))) rfl (og rfl (op_move rfl rfl rfl)) ?_
    refine dr_put (d := 21) (v := .el ((eDp (ix l k)))) rfl (og rfl (s_index rfl Try.underlying22 ti40 rfl rfl (by omega) (row_at (by omega)) rfl)) ?_
    refine dr_put (d := 22) (v := .el ((List.drop 4 ((eDp (ix l k)))))) rfl (og rfl (of_eff (s_field_el rfl Try.underlying40 rfl ti38 rfl rfl rfl) rfl)) ?_
    refine dr_put (d := 23) (v := .d (.sl 1 (List.map rS ((ix l k).proofs)))) rfl (og rfl (op_load_el rfl Try.underlying38 rfl rfl rfl rfl)) ?_
    refine dr_nam (d := 24) (v := .ow 102) (m := 102) (nw := [(102, .tr 9 1 (tD rS ((ix l k).proofs)))]) rfl (og rfl (of_eff (s_append_nilT 102 rfl Try.underlying38 ti9 rfl rfl rfl rfl (.d _) (by omega) rfl) rfl)) ?_
    refine dr_put (d := 25) (v := .pt 101 4) rfl (og rfl (of_eff (s_field_pt rfl Try.underlying40 rfl ti38 rfl rfl rfl) rfl)) ?_
    refine dr_sto (nw := [(101, .bt 40 [.dv (.fl (.string ((ix l k).key))), .dv (.fl (.int .i64 ((ix l k).time))), .dv (.fl (.int .i64 ((ix l k).cents))), .dv (.fl (.int .i64 ((ix l k).state))), .ow 9 1 (List.map rS ((ix l k).proofs))]), (102, .no)]) rfl (og rfl (of_eff (op_store_bt rfl rfl ti38 rfl rfl rfl (.tr rfl) rfl rfl rfl) rfl)) ?_
    refine dr_done rfl (by kernel_rfl) (by kernel_rfl) ?_
    refine a_region ?_
    refine rg_put (d := 26) (v := .ow 201) rfl (og rfl (op_move rfl rfl rfl)) ?_
    refine rg_nam (d := 27) (v := .ow 103) (m := 103) (nw := [(103, .sv [.dv (.fl (.string ((ix l k).key))), .dv (.fl (.int .i64 ((ix l k).time))), .dv (.fl (.int .i64 ((ix l k).cents))), .dv (.fl (.int .i64 ((ix l k).state))), .ow 9 1 (List.map rS ((ix l k).proofs))]), (101, .no)]) rfl (og rfl (of_eff (op_move_bt 103 rfl Try.underlying40 rfl ti40 rfl rfl rfl rfl) rfl)) rfl ?_
    refine rg_nam (d := 28) (v := .ow 104) (m := 104) (nw := [(104, .tr 40 5 ([[.dv (.fl (.string ((ix l k).key))), .dv (.fl (.int .i64 ((ix l k).time))), .dv (.fl (.int .i64 ((ix l k).cents))), .dv (.fl (.int .i64 ((ix l k).state))), .ow 9 1 (List.map rS ((ix l k).proofs))]])), (103, .no)]) rfl (og rfl (of_eff (op_slice1 104 rfl Try.underlying22 ti40 rfl rfl rfl rfl rfl rfl rfl) rfl)) rfl ?_
    refine rg_nam (d := 29) (v := .ow 105) (m := 105) (nw := [(105, .tr 40 5 ((((l.take k).map oDp) ++ [[.dv (.fl (.string ((ix l k).key))), .dv (.fl (.int .i64 ((ix l k).time))), .dv (.fl (.int .i64 ((ix l k).cents))), .dv (.fl (.int .i64 ((ix l k).state))), .ow 9 1 (List.map rS ((ix l k).proofs))]]))), (201, .no), (104, .no)]) rfl (og rfl (of_eff (op_append_tr 105 rfl Try.underlying22 ti40 rfl rfl rfl rfl rfl (RowsS.tr rfl) rfl (n := k) (n' := 1) (by simp; omega) rfl (by omega) rfl) rfl)) rfl ?_
    refine rg_put (d := 3) (v := .ow 105) rfl (og rfl (op_assign rfl rfl rfl)) ?_
    refine rg_done rfl ?_
    show A _ _ _ _ _ _ _
    refine a_region ?_
    refine rg_put (d := 10) (v := .d (.fl (.int .i64 (k : Int)))) rfl (og rfl (op_move rfl rfl rfl)) ?_
    refine rg_put (d := 11) (v := .d (.fl (.int .i64 (((k : Int) + 1))))) rfl (og rfl (op_bin rfl rfl rfl (fun x y w => b_add64 _ _ _ x y w (by omega)) rfl)) ?_
    refine rg_put (d := 4) (v := .d (.fl (.int .i64 (((k : Int) + 1))))) rfl (og rfl (op_assign rfl rfl rfl)) ?_
    refine rg_done rfl ?_
    show ∃ i, _ ∧ _ ∧ Imp _ _ _ _ _
    refine ⟨k + 1, (by omega), by omega, imp_ren (fun m => bif Nat.beq m 201 then 105 else m) rfl ⟨rfl, rfl, (by first | rfl | exact ci (by omega) | exact ci (by simp) | exact cd (by simp) | simp), rfl, trivial⟩ ⟨(congrArg (Ob.tr 40 5) (take_map (by omega))), trivial⟩⟩
  · skip
    have h3 := f_dec h1
    refine a_exit ?_
    show A _ _ _ _ _ _ _
    refine a_rseq ?_
    refine rg_put (d := 30) (v := .ow 201) rfl (og rfl (op_move rfl rfl rfl)) ?_
    refine rg_put (d := 2) (v := .ow 201) rfl (og rfl (op_assign rfl rfl rfl)) ?_
    refine rg_done rfl ?_
    refine a_ret ?_
    show ∃ rv, _ = #[rv] ∧ ResO _ _ rv _
    rw [← map_all (l := l) (k := k) (by omega)]
    exact ⟨_, rfl, .tmp rfl rfl⟩
end Go.Proofs.Ytocjbombpggmeaa.Wk
