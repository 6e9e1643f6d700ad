/- A hold taken off an image. Condition: lists of at most a thousand. -/
import Derived.Test.YtaecdkhpidligaaR12
import Derived.Test.YtaecdkhpidligaaLaid
set_option linter.unusedSimpArgs false
set_option linter.unusedVariables false
namespace Go.Proofs.Ytaecdkhpidligaa.Wr
open Go Go.RowKit Go.Proofs.Ytaecdkhpidligaa.Av Go.Proofs.Ytaecdkhpidligaa.Wk
def delR (x : Im) (k : Nat) : Im := { x with hold := x.hold.take k ++ x.hold.drop (k + 1) }
def rel (l : List Im) (id reason : ByteArray) : List Im × Int :=
  if (decide (ifind l id < 0)) = true then (l, 10) else if (decide ((idx (fun x => sEq reason x) (ix l (ifind l id).toNat).hold) < 0)) = true then (l, 10) else (l.set (ifind l id).toNat (delR (ix l (ifind l id).toNat) (idx (fun x => sEq reason x) (ix l (ifind l id).toNat).hold).toNat), 0)

set_option maxHeartbeats 4000000 in
set_option maxRecDepth 100000 in
theorem ret_rel (l : List Im) (id reason : ByteArray) (hl : l.length ≤ 1000) (hb : ∀ q, q < l.length → (ix l q).hold.length ≤ 1000) : Ctr Try.prog 10 [.sl 5 (List.map eIm l), .fl (.string id), .fl (.string reason)] (.tu [.sl 5 (List.map eIm (rel l id reason).1), .fl (.int .i64 (rel l id reason).2)]) := by
  refine ctr (n := 43) (rs := #[.tmp 6, .tmp 7]) (L := [(0, .d (.sl 5 (List.map eIm l))), (1, .d (.fl (.string id))), (2, .d (.fl (.string reason)))]) Try.func10 rfl rfl rfl rfl rfl (fun w0 U0 => ?_)
  refine a_rseq ?_
  refine rg_put (d := 6) (v := .d (.fl (.slice none 0 0))) rfl (og rfl (op_assign rfl rfl rfl)) ?_
  refine rg_put (d := 7) (v := .d (.fl (.int .i64 0))) rfl (og rfl (op_assign rfl rfl rfl)) ?_
  refine rg_done rfl ?_
  refine a_rseq ?_
  refine rg_put (d := 11) (v := .d (.sl 5 (List.map eIm l))) rfl (og rfl (op_move rfl rfl rfl)) ?_
  refine rg_put (d := 12) (v := .d (.fl (.string id))) rfl (og rfl (op_move rfl rfl rfl)) ?_
  refine rg_put (d := 13) (v := .d (.fl (.int .i64 (ifind l id)))) rfl (og rfl (op_call rfl Try.func20 nm20 rfl (.cons rfl (.d _) (.cons rfl (.d _) .nil)) (ret_index l id (by omega)) rfl)) ?_
  refine rg_put (d := 8) (v := .d (.fl (.int .i64 (ifind l id)))) rfl (og rfl (op_assign rfl rfl rfl)) ?_
  refine rg_done rfl ?_
  refine a_seq ?_
  refine a_rseq ?_
  refine rg_put (d := 14) (v := .d (.fl (.int .i64 (ifind l id)))) rfl (og rfl (op_move rfl rfl rfl)) ?_
  refine rg_put (d := 15) (v := .d (.fl (.bool ((decide ((ifind l id) < 0)))))) rfl (og rfl (op_bin rfl rfl rfl (b_lss _ _ _ _) rfl)) ?_
  refine rg_done rfl ?_
  refine a_cond rfl (fun h1 => ?_) (fun h1 => ?_)
  · skip
    have h2 := t_dec h1
    refine a_rseq ?_
    refine rg_put (d := 16) (v := .d (.sl 5 (List.map eIm l))) rfl (og rfl (op_move rfl rfl rfl)) ?_
    refine rg_put (d := 6) (v := .d (.sl 5 (List.map eIm l))) rfl (og rfl (op_assign rfl rfl rfl)) ?_
    refine rg_put (d := 7) (v := .d (.fl (.int .i64 10))) rfl (og rfl (op_assign rfl rfl rfl)) ?_
    refine rg_done rfl ?_
    refine a_ret ?_
    show ∃ ds, ResL _ _ _ ds ∧ RV.of ds = _
    refine ⟨[.sl 5 (List.map eIm l), .fl (.int .i64 10)], (.cons (.tmp rfl (.d _)) (.cons (.tmp rfl (.d _)) .nil)), ?_⟩
    have hu : rel l id reason = (l, 10) := by
      unfold rel; simp only [h1]; rfl
    rw [hu]; rfl
  · skip
    have h3 := f_dec h1
    refine a_skip ?_
    show A _ _ _ _ _ _ _
    refine a_rseq ?_
    have hi := ifind_lt l id
    have hbi := hb (ifind l id).toNat (by omega)
    refine rg_put (d := 17) (v := .d (.sl 5 (List.map eIm l))) rfl (og rfl (op_move rfl rfl rfl)) ?_
    refine rg_put (d := 18) (v := .d (.fl (.int .i64 (ifind l id)))) rfl (og rfl (op_move rfl rfl rfl)) ?_
    refine rg_put (d := 19) (v := .el ((eIm ((ix l ((ifind l id)).toNat))))) rfl (og rfl (s_index rfl Try.underlying23 ti40 rfl rfl (by omega) (row_atI (by omega) (by omega)) rfl)) ?_
    refine rg_put (d := 20) (v := .el ((List.drop 3 ((eIm ((ix l ((ifind l id)).toNat))))))) rfl (og rfl (of_eff (s_field_el rfl Try.underlying40 rfl ti33 rfl rfl rfl) rfl)) ?_
    refine rg_put (d := 21) (v := .d (.sl 1 (List.map rS (((ix l ((ifind l id)).toNat)).hold)))) rfl (og rfl (op_load_el rfl Try.underlying33 rfl rfl rfl rfl)) ?_
    refine rg_put (d := 22) (v := .d (.fl (.string reason))) rfl (og rfl (op_move rfl rfl rfl)) ?_
    refine rg_put (d := 23) (v := .d (.fl (.int .i64 ((idx (fun x => sEq reason x) (((ix l ((ifind l id)).toNat)).hold)))))) rfl (og rfl (op_call rfl Try.func23 nm23 rfl (.cons rfl (.d _) (.cons rfl (.d _) .nil)) (str_index (((ix l ((ifind l id)).toNat)).hold) reason (by omega)) rfl)) ?_
    refine rg_put (d := 9) (v := .d (.fl (.int .i64 ((idx (fun x => sEq reason x) (((ix l ((ifind l id)).toNat)).hold)))))) rfl (og rfl (op_assign rfl rfl rfl)) ?_
    refine rg_done rfl ?_
    refine a_seq ?_
    refine a_rseq ?_
    refine rg_put (d := 24) (v := .d (.fl (.int .i64 ((idx (fun x => sEq reason x) (((ix l ((ifind l id)).toNat)).hold)))))) rfl (og rfl (op_move rfl rfl rfl)) ?_
    refine rg_put (d := 25) (v := .d (.fl (.bool ((decide ((idx (fun x => sEq reason x) (((ix l ((ifind l id)).toNat)).hold)) < 0)))))) rfl (og rfl (op_bin rfl rfl rfl (b_lss _ _ _ _) rfl)) ?_
    refine rg_done rfl ?_
    refine a_cond rfl (fun h4 => ?_) (fun h4 => ?_)
    · skip
      have h5 := t_dec h4
      refine a_rseq ?_
      refine rg_put (d := 26) (v := .d (.sl 5 (List.map eIm l))) rfl (og rfl (op_move rfl rfl rfl)) ?_
      refine rg_put (d := 6) (v := .d (.sl 5 (List.map eIm l))) rfl (og rfl (op_assign rfl rfl rfl)) ?_
      refine rg_put (d := 7) (v := .d (.fl (.int .i64 10))) rfl (og rfl (op_assign rfl rfl rfl)) ?_
      refine rg_done rfl ?_
      refine a_ret ?_
      show ∃ ds, ResL _ _ _ ds ∧ RV.of ds = _
      refine ⟨[.sl 5 (List.map eIm l), .fl (.int .i64 10)], (.cons (.tmp rfl (.d _)) (.cons (.tmp rfl (.d _)) .nil)), ?_⟩
      have hu : rel l id reason = (l, 10) := by
        unfold rel; simp only [h1, h4]; rfl
      rw [hu]; rfl
    · skip
      have h6 := f_dec h4
      refine a_skip ?_
      show A _ _ _ _ _ _ _
      refine a_rseq ?_
      have hk := idx_lt (p := fun x => sEq reason x) (l := (ix l (ifind l id).toNat).hold)
      refine rg_put (d := 27) (v := .d (.sl 5 (List.map eIm l))) rfl (og rfl (op_move rfl rfl rfl)) ?_
      refine rg_nam (d := 28) (v := .ow 101) (m := 101) (nw := [(101, .tr 40 5 (l.map oIm))]) rfl (og rfl (of_eff (op_callO 101 rfl Try.func13 nm13 rfl (.cons rfl (.d _) .nil) (images_copy l (by omega) (fun q h => by have := hb q h; omega)) rfl) rfl)) rfl ?_
      refine rg_put (d := 10) (v := .ow 101) rfl (og rfl (op_assign rfl rfl rfl)) ?_
      refine rg_done rfl ?_
      refine a_rseq ?_
      refine rg_put (d := 29) (v := .ow 101) rfl (og rfl (op_move rfl rfl rfl)) ?_
      refine rg_put (d := 30) (v := .d (.fl (.int .i64 (ifind l id)))) rfl (og rfl (op_move rfl rfl rfl)) ?_
      refine rg_put (d := 31) (v := .ow 101) rfl (og rfl (op_move rfl rfl rfl)) ?_
      refine rg_put (d := 32) (v := .d (.fl (.int .i64 (ifind l id)))) rfl (og rfl (op_move rfl rfl rfl)) ?_
      refine rg_put (d := 33) (v := .pe 101 5 (((ifind l id)).toNat) 0) rfl (og rfl (op_index_trI rfl Try.underlying23 ti40 rfl rfl rfl (by omega) (get_lt (map_at (by omega))) rfl)) ?_
      refine rg_put (d := 34) (v := .pe 101 5 (((ifind l id)).toNat) 3) rfl (og rfl (of_eff (op_field_pe rfl Try.underlying40 rfl ti33 rfl rfl rfl) rfl)) ?_
      refine rg_nam (d := 35) (v := .ow 102) (m := 102) (nw := [(102, .tr 9 1 (tD rS ((ix l (((ifind l id)).toNat)).hold))), (101, .tr 40 5 (((l.map oIm).set (((ifind l id)).toNat) [.dv (.fl (.string ((ix l (((ifind l id)).toNat)).id))), .dv (.fl (.int .i64 ((ix l (((ifind l id)).toNat)).time))), .dv (.fl (.int .i64 ((ix l (((ifind l id)).toNat)).purpose))), .un, .dv (.fl (.int .u64 ((ix l (((ifind l id)).toNat)).dig)))])))]) rfl (og rfl (of_eff (op_take 102 rfl Try.underlying33 rfl rfl rfl (map_at (by omega)) rfl rfl rfl) rfl)) rfl ?_
      refine rg_put (d := 36) (v := .d (.fl (.int .i64 ((idx (fun x => sEq reason x) (((ix l ((ifind l id)).toNat)).hold)))))) rfl (og rfl (op_move rfl rfl rfl)) ?_
      refine rg_put (d := 37) (v := .d (.fl (.int .i64 ((idx (fun x => sEq reason x) (((ix l ((ifind l id)).toNat)).hold)))))) rfl (og rfl (op_move rfl rfl rfl)) ?_
      refine rg_put (d := 38) (v := .d (.fl (.int .i64 (((idx (fun x => sEq reason x) (((ix l ((ifind l id)).toNat)).hold)) + 1))))) rfl (og rfl (op_bin rfl rfl rfl (fun x y w => b_add64 _ _ _ x y w (by omega)) rfl)) ?_
      refine rg_nam (d := 39) (v := .ow 103) (m := 103) (nw := [(103, .tr 9 1 (tD rS ((((ix l (((ifind l id)).toNat)).hold).take ((idx (fun x => sEq reason x) (((ix l ((ifind l id)).toNat)).hold)).toNat) ++ ((ix l (((ifind l id)).toNat)).hold).drop ((idx (fun x => sEq reason x) (((ix l ((ifind l id)).toNat)).hold)).toNat + 1))))), (102, .no)]) rfl (og rfl (of_eff (op_callDel 103 rfl Try.func24 nm24 rfl del40 rfl rfl rfl rfl (i := (idx (fun x => sEq reason x) (((ix l ((ifind l id)).toNat)).hold)).toNat) (j := (idx (fun x => sEq reason x) (((ix l ((ifind l id)).toNat)).hold)).toNat + 1) (by omega) (by omega) (by omega) (by omega) (by omega) rfl) rfl)) rfl ?_
      refine rg_put (d := 40) (v := .pe 101 5 (((ifind l id)).toNat) 0) rfl (og rfl (op_index_trI rfl Try.underlying23 ti40 rfl rfl rfl (by omega) (get_lt (set_get (map_at (by omega)))) rfl)) ?_
      refine rg_put (d := 41) (v := .pe 101 5 (((ifind l id)).toNat) 3) rfl (og rfl (of_eff (op_field_pe rfl Try.underlying40 rfl ti33 rfl rfl rfl) rfl)) ?_
      refine rg_sto (nw := [(101, .tr 40 5 ((((((l.map oIm).set (((ifind l id)).toNat) [.dv (.fl (.string ((ix l (((ifind l id)).toNat)).id))), .dv (.fl (.int .i64 ((ix l (((ifind l id)).toNat)).time))), .dv (.fl (.int .i64 ((ix l (((ifind l id)).toNat)).purpose))), .un, .dv (.fl (.int .u64 ((ix l (((ifind l id)).toNat)).dig)))]))).set (((ifind l id)).toNat) [.dv (.fl (.string ((ix l (((ifind l id)).toNat)).id))), .dv (.fl (.int .i64 ((ix l (((ifind l id)).toNat)).time))), .dv (.fl (.int .i64 ((ix l (((ifind l id)).toNat)).purpose))), .ow 9 1 (List.map rS ((((ix l (((ifind l id)).toNat)).hold).take ((idx (fun x => sEq reason x) (((ix l ((ifind l id)).toNat)).hold)).toNat) ++ ((ix l (((ifind l id)).toNat)).hold).drop ((idx (fun x => sEq reason x) (((ix l ((ifind l id)).toNat)).hold)).toNat + 1)))), .dv (.fl (.int .u64 ((ix l (((ifind l id)).toNat)).dig)))]))), (103, .no)]) rfl (og rfl (of_eff (op_store_pe rfl rfl ti33 rfl rfl (set_get (map_at (by omega))) rfl (.tr rfl) rfl rfl rfl) rfl)) ?_
      refine rg_done rfl ?_
      refine a_rseq ?_
      refine rg_imp (imp_leakE 10 101 (rows' := List.map eIm (l.set (ifind l id).toNat (delR (ix l (ifind l id).toNat) (idx (fun x => sEq reason x) (ix l (ifind l id).toNat).hold).toNat))) rfl rfl (set_ok (y := (delR (ix l (ifind l id).toNat) (idx (fun x => sEq reason x) (ix l (ifind l id).toNat).hold).toNat))) (set_rd (y := (delR (ix l (ifind l id).toNat) (idx (fun x => sEq reason x) (ix l (ifind l id).toNat).hold).toNat)))) ?_
      refine rg_put (d := 42) (v := .d (.sl 5 (List.map eIm ((l.set (ifind l id).toNat (delR (ix l (ifind l id).toNat) (idx (fun x => sEq reason x) (ix l (ifind l id).toNat).hold).toNat)))))) rfl (og rfl (op_move rfl rfl rfl)) ?_
      refine rg_put (d := 6) (v := .d (.sl 5 (List.map eIm ((l.set (ifind l id).toNat (delR (ix l (ifind l id).toNat) (idx (fun x => sEq reason x) (ix l (ifind l id).toNat).hold).toNat)))))) rfl (og rfl (op_assign rfl rfl rfl)) ?_
      refine rg_put (d := 7) (v := .d (.fl (.int .i64 0))) rfl (og rfl (op_assign rfl rfl rfl)) ?_
      refine rg_done rfl ?_
      refine a_ret ?_
      show ∃ ds, ResL _ _ _ ds ∧ RV.of ds = _
      refine ⟨[.sl 5 (List.map eIm ((l.set (ifind l id).toNat (delR (ix l (ifind l id).toNat) (idx (fun x => sEq reason x) (ix l (ifind l id).toNat).hold).toNat)))), .fl (.int .i64 0)], (.cons (.tmp rfl (.d _)) (.cons (.tmp rfl (.d _)) .nil)), ?_⟩
      have hu : rel l id reason = ((l.set (ifind l id).toNat (delR (ix l (ifind l id).toNat) (idx (fun x => sEq reason x) (ix l (ifind l id).toNat).hold).toNat)), 0) := by
        unfold rel; simp only [h1, h4]; rfl
      rw [hu]; rfl
end Go.Proofs.Ytaecdkhpidligaa.Wr
