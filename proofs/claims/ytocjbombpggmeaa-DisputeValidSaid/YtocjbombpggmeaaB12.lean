/- Decisions and withdrawals, the plain way. Condition: lists of at most two thousand. -/
import Derived.Test.YtocjbombpggmeaaB11
set_option linter.unusedSimpArgs false
set_option linter.unusedVariables false
namespace Go.Proofs.Ytocjbombpggmeaa.Wk
open Go Go.RowKit Go.Proofs.Ytocjbombpggmeaa.Av
set_option maxHeartbeats 4000000 in
set_option maxRecDepth 100000 in
theorem ref_withdraw (l : List Dp) (key : ByteArray) (hl : l.length ≤ 2000) (hb : ∀ q, q < l.length → (ix l q).proofs.length ≤ 2000) (hw : ∀ q, q < l.length → -9223372036854775808 ≤ (ix l q).time) : Ctr Try.prog 30 [.sl 5 (List.map eDp l), .fl (.string key)] (.tu [.sl 5 (List.map eDp (withdraw l key).1), .fl (.int .i64 (withdraw l key).2)]) := by
  refine ctr (n := 26) (rs := #[.tmp 4, .tmp 5]) (L := [(0, .d (.sl 5 (List.map eDp l))), (1, .d (.fl (.string key)))]) Try.func30 rfl rfl rfl rfl rfl (fun w0 U0 => ?_)
  refine a_rseq ?_
  refine rg_put (d := 4) (v := .d (.fl (.slice none 0 0))) rfl (og rfl (op_assign rfl rfl rfl)) ?_
  refine rg_put (d := 5) (v := .d (.fl (.int .i64 0))) rfl (og rfl (op_assign rfl rfl rfl)) ?_
  refine rg_done rfl ?_
  refine a_rseq ?_
  refine rg_put (d := 10) (v := .d (.sl 5 (List.map eDp l))) rfl (og rfl (op_move rfl rfl rfl)) ?_
  refine rg_put (d := 11) (v := .d (.fl (.string key))) rfl (og rfl (op_move rfl rfl rfl)) ?_
  rcases fot (((fcode l key) != 0)) with h1 | h1
  · skip
    have h2 := f_bne h1
    refine rg_put (d := 12) (v := .tu [.fl (.int .i64 (dfind l key)), .fl (.int .i64 (fcode l key))]) rfl (og rfl (op_call rfl Try.func43 nm43 rfl (.cons rfl (.d _) (.cons rfl (.d _) .nil)) (opened_ok (by omega) h1) rfl)) ?_
    refine rg_put (d := 9) (v := .tu [.fl (.int .i64 (dfind l key)), .fl (.int .i64 (fcode l key))]) rfl (og rfl (op_move rfl rfl rfl)) ?_
    refine rg_put (d := 13) (v := .d (.fl (.int .i64 (dfind l key)))) rfl (og rfl (op_extract rfl rfl rfl rfl)) ?_
    refine rg_put (d := 14) (v := .d (.fl (.int .i64 (fcode l key)))) rfl (og rfl (op_extract rfl rfl rfl rfl)) ?_
    refine rg_put (d := 6) (v := .d (.fl (.int .i64 (dfind l key)))) rfl (og rfl (op_assign rfl rfl rfl)) ?_
    refine rg_put (d := 7) (v := .d (.fl (.int .i64 (fcode l key)))) rfl (og rfl (op_assign rfl rfl rfl)) ?_
    refine rg_done rfl ?_
    refine a_seq ?_
    refine a_rseq ?_
    refine rg_put (d := 15) (v := .d (.fl (.int .i64 (fcode l key)))) rfl (og rfl (op_move rfl rfl rfl)) ?_
    refine rg_put (d := 16) (v := .d (.fl (.bool (((fcode l key) != 0))))) rfl (og rfl (op_bin rfl rfl rfl (b_neq _ _ _ _) rfl)) ?_
    refine rg_done rfl ?_
    refine a_condF rfl h1 ?_
    refine a_skip ?_
    show A _ _ _ _ _ _ _
    refine a_rseq ?_
    obtain ⟨hi0, hst⟩ := fcode_ok (f_bne h1)
    have hi := dfind_lt l key
    have hbi := hb (dfind l key).toNat (by omega)
    have hwi := hw (dfind l key).toNat (by omega)
    refine rg_put (d := 19) (v := .d (.sl 5 (List.map eDp l))) rfl (og rfl (op_move rfl rfl rfl)) ?_
    refine rg_nam (d := 20) (v := .ow 101) (m := 101) (nw := [(101, .tr 40 5 (l.map oDp))]) rfl (og rfl (of_eff (op_callO 101 rfl Try.func42 nm42 rfl (.cons rfl (.d _) .nil) (copied42 l (by omega) (fun q h => hb q h)) rfl) rfl)) rfl ?_
    refine rg_put (d := 8) (v := .ow 101) rfl (og rfl (op_assign rfl rfl rfl)) ?_
    refine rg_done rfl ?_
    refine a_rseq ?_
    refine rg_put (d := 21) (v := .ow 101) rfl (og rfl (op_move rfl rfl rfl)) ?_
    refine rg_put (d := 22) (v := .d (.fl (.int .i64 (dfind l key)))) rfl (og rfl (op_move rfl rfl rfl)) ?_
    refine rg_put (d := 23) (v := .pe 101 5 (((dfind l key)).toNat) 0) rfl (og rfl (op_index_trI rfl Try.underlying22 ti40 rfl rfl rfl (by omega) (get_lt (map_at (by omega))) rfl)) ?_
    refine rg_put (d := 24) (v := .pe 101 5 (((dfind l key)).toNat) 3) rfl (og rfl (of_eff (op_field_pe rfl Try.underlying40 rfl ti3 rfl rfl rfl) rfl)) ?_
    refine rg_sto (nw := [(101, .tr 40 5 (((l.map oDp).set (((dfind l key)).toNat) [.dv (.fl (.string ((ix l (((dfind l key)).toNat)).key))), .dv (.fl (.int .i64 ((ix l (((dfind l key)).toNat)).time))), .dv (.fl (.int .i64 ((ix l (((dfind l key)).toNat)).cents))), .dv (.fl (.int .i64 4)), .ow 9 1 (List.map rS ((ix l (((dfind l key)).toNat)).proofs))])))]) rfl (og rfl (of_eff (op_store_pe rfl rfl ti3 rfl rfl (map_at (by omega)) rfl (.d rfl) rfl rfl rfl) rfl)) ?_
    refine rg_done rfl ?_
    refine a_rseq ?_
    refine rg_imp (imp_leakE 8 101 (rows' := List.map eDp (l.set (dfind l key).toNat (setS (ix l (dfind l key).toNat) 4))) rfl rfl (set1_ok (y := (setS (ix l (dfind l key).toNat) 4))) (set1_rd (y := (setS (ix l (dfind l key).toNat) 4)))) ?_
    refine rg_put (d := 25) (v := .d (.sl 5 (List.map eDp ((l.set (dfind l key).toNat (setS (ix l (dfind l key).toNat) 4)))))) rfl (og rfl (op_move rfl rfl rfl)) ?_
    refine rg_put (d := 4) (v := .d (.sl 5 (List.map eDp ((l.set (dfind l key).toNat (setS (ix l (dfind l key).toNat) 4)))))) rfl (og rfl (op_assign rfl rfl rfl)) ?_
    refine rg_put (d := 5) (v := .d (.fl (.int .i64 0))) rfl (og rfl (op_assign rfl rfl rfl)) ?_
    refine rg_done rfl ?_
    refine a_ret ?_
    show ∃ ds, ResL _ _ _ ds ∧ RV.of ds = _
    refine ⟨[.sl 5 (List.map eDp ((l.set (dfind l key).toNat (setS (ix l (dfind l key).toNat) 4)))), .fl (.int .i64 0)], (.cons (.tmp rfl (.d _)) (.cons (.tmp rfl (.d _)) .nil)), ?_⟩
    have hu : withdraw l key = ((l.set (dfind l key).toNat (setS (ix l (dfind l key).toNat) 4)), 0) := by
      unfold withdraw; simp only [h1]; rfl
    rw [hu]; rfl
  · skip
    have h3 := t_bne h1
    refine rg_put (d := 12) (v := .tu [.fl (.int .i64 (opened l key)), .fl (.int .i64 (fcode l key))]) rfl (og rfl (op_call rfl Try.func43 nm43 rfl (.cons rfl (.d _) (.cons rfl (.d _) .nil)) (opened43 l key (by omega)) rfl)) ?_
    refine rg_put (d := 9) (v := .tu [.fl (.int .i64 (opened l key)), .fl (.int .i64 (fcode l key))]) rfl (og rfl (op_move rfl rfl rfl)) ?_
    refine rg_put (d := 13) (v := .d (.fl (.int .i64 (opened l key)))) rfl (og rfl (op_extract rfl rfl rfl rfl)) ?_
    refine rg_put (d := 14) (v := .d (.fl (.int .i64 (fcode l key)))) rfl (og rfl (op_extract rfl rfl rfl rfl)) ?_
    refine rg_put (d := 6) (v := .d (.fl (.int .i64 (opened l key)))) rfl (og rfl (op_assign rfl rfl rfl)) ?_
    refine rg_put (d := 7) (v := .d (.fl (.int .i64 (fcode l key)))) rfl (og rfl (op_assign rfl rfl rfl)) ?_
    refine rg_done rfl ?_
    refine a_seq ?_
    refine a_rseq ?_
    refine rg_put (d := 15) (v := .d (.fl (.int .i64 (fcode l key)))) rfl (og rfl (op_move rfl rfl rfl)) ?_
    refine rg_put (d := 16) (v := .d (.fl (.bool (((fcode l key) != 0))))) rfl (og rfl (op_bin rfl rfl rfl (b_neq _ _ _ _) rfl)) ?_
    refine rg_done rfl ?_
    refine a_condK rfl h1 ?_
    refine a_rseq ?_
    refine rg_put (d := 17) (v := .d (.sl 5 (List.map eDp l))) rfl (og rfl (op_move rfl rfl rfl)) ?_
    refine rg_put (d := 18) (v := .d (.fl (.int .i64 (fcode l key)))) rfl (og rfl (op_move rfl rfl rfl)) ?_
    refine rg_put (d := 4) (v := .d (.sl 5 (List.map eDp l))) rfl (og rfl (op_assign rfl rfl rfl)) ?_
    refine rg_put (d := 5) (v := .d (.fl (.int .i64 (fcode l key)))) rfl (og rfl (op_assign rfl rfl rfl)) ?_
    refine rg_done rfl ?_
    refine a_ret ?_
    show ∃ ds, ResL _ _ _ ds ∧ RV.of ds = _
    refine ⟨[.sl 5 (List.map eDp l), .fl (.int .i64 (fcode l key))], (.cons (.tmp rfl (.d _)) (.cons (.tmp rfl (.d _)) .nil)), ?_⟩
    have hu : withdraw l key = (l, (fcode l key)) := by
      unfold withdraw; simp only [h1]; rfl
    rw [hu]; rfl
set_option maxHeartbeats 4000000 in
set_option maxRecDepth 100000 in
theorem ref_decide (l : List Dp) (key : ByteArray) (acc : Bool) (t : Int) (hl : l.length ≤ 2000) (hb : ∀ q, q < l.length → (ix l q).proofs.length ≤ 2000) (hw : ∀ q, q < l.length → -9223372036854775808 ≤ (ix l q).time) : Ctr Try.prog 29 [.sl 5 (List.map eDp l), .fl (.string key), .fl (.bool acc), .fl (.int .i64 t)] (.tu [.sl 5 (List.map eDp (decid l key acc t).1.1), .fl (.int .i64 (decid l key acc t).1.2), .fl (.int .i64 (decid l key acc t).2)]) := by
  refine ctr (n := 63) (rs := #[.tmp 8, .tmp 9, .tmp 10]) (L := [(0, .d (.sl 5 (List.map eDp l))), (1, .d (.fl (.string key))), (2, .d (.fl (.bool acc))), (3, .d (.fl (.int .i64 t)))]) Try.func29 rfl rfl rfl rfl rfl (fun w0 U0 => ?_)
  refine a_rseq ?_
  refine rg_put (d := 8) (v := .d (.fl (.slice none 0 0))) rfl (og rfl (op_assign rfl rfl rfl)) ?_
  refine rg_put (d := 9) (v := .d (.fl (.int .i64 0))) rfl (og rfl (op_assign rfl rfl rfl)) ?_
  refine rg_put (d := 10) (v := .d (.fl (.int .i64 0))) rfl (og rfl (op_assign rfl rfl rfl)) ?_
  refine rg_done rfl ?_
  refine a_rseq ?_
  refine rg_put (d := 15) (v := .d (.sl 5 (List.map eDp l))) rfl (og rfl (op_move rfl rfl rfl)) ?_
  refine rg_put (d := 16) (v := .d (.fl (.string key))) rfl (og rfl (op_move rfl rfl rfl)) ?_
  rcases fot (((fcode l key) != 0)) with h1 | h1
  · skip
    have h2 := f_bne h1
    refine rg_put (d := 17) (v := .tu [.fl (.int .i64 (dfind l key)), .fl (.int .i64 (fcode l key))]) rfl (og rfl (op_call rfl Try.func43 nm43 rfl (.cons rfl (.d _) (.cons rfl (.d _) .nil)) (opened_ok (by omega) h1) rfl)) ?_
    refine rg_put (d := 14) (v := .tu [.fl (.int .i64 (dfind l key)), .fl (.int .i64 (fcode l key))]) rfl (og rfl (op_move rfl rfl rfl)) ?_
    refine rg_put (d := 18) (v := .d (.fl (.int .i64 (dfind l key)))) rfl (og rfl (op_extract rfl rfl rfl rfl)) ?_
    refine rg_put (d := 19) (v := .d (.fl (.int .i64 (fcode l key)))) rfl (og rfl (op_extract rfl rfl rfl rfl)) ?_
    refine rg_put (d := 11) (v := .d (.fl (.int .i64 (dfind l key)))) rfl (og rfl (op_assign rfl rfl rfl)) ?_
    refine rg_put (d := 12) (v := .d (.fl (.int .i64 (fcode l key)))) rfl (og rfl (op_assign rfl rfl rfl)) ?_
    refine rg_done rfl ?_
    refine a_seq ?_
    refine a_rseq ?_
    refine rg_put (d := 20) (v := .d (.fl (.int .i64 (fcode l key)))) rfl (og rfl (op_move rfl rfl rfl)) ?_
    refine rg_put (d := 21) (v := .d (.fl (.bool (((fcode l key) != 0))))) rfl (og rfl (op_bin rfl rfl rfl (b_neq _ _ _ _) rfl)) ?_
    refine rg_done rfl ?_
    refine a_condF rfl h1 ?_
    refine a_skip ?_
    show A _ _ _ _ _ _ _
    refine a_seq ?_
    refine a_rseq ?_
    obtain ⟨hi0, hst⟩ := fcode_ok (f_bne h1)
    have hi := dfind_lt l key
    have hbi := hb (dfind l key).toNat (by omega)
    have hwi := hw (dfind l key).toNat (by omega)
    refine rg_put (d := 24) (v := .d (.fl (.int .i64 t))) rfl (og rfl (op_move rfl rfl rfl)) ?_
    refine rg_put (d := 25) (v := .d (.fl (.bool (isT t)))) rfl (og rfl (op_call rfl Try.func39 nm39 rfl (.cons rfl (.d _) .nil) (isTime39 t) rfl)) ?_
    refine rg_put (d := 26) (v := .d (.fl (.bool ((!(isT t)))))) rfl (og rfl (op_un rfl rfl (u_not _) rfl)) ?_
    refine rg_put (d := 27) (v := .d (.fl (.bool ((!(isT t)))))) rfl (og rfl (op_move rfl rfl rfl)) ?_
    rcases fot ((!(isT t))) with h3 | h3
    · skip
      have h4 := f_not h3
      have := isT_t h4
      refine rg_put (d := 28) (v := .d (.fl (.int .i64 t))) rfl (oy rfl rfl rfl h3 (op_move rfl rfl rfl)) ?_
      refine rg_put (d := 29) (v := .d (.sl 5 (List.map eDp l))) rfl (oy rfl rfl rfl h3 (op_move rfl rfl rfl)) ?_
      refine rg_put (d := 30) (v := .d (.fl (.int .i64 (dfind l key)))) rfl (oy rfl rfl rfl h3 (op_move rfl rfl rfl)) ?_
      refine rg_put (d := 31) (v := .el ((eDp ((ix l ((dfind l key)).toNat))))) rfl (oy rfl rfl rfl h3 (s_index rfl Try.underlying22 ti40 rfl rfl (by omega) (row_atI (by omega) (by omega)) rfl)) ?_
      refine rg_put (d := 32) (v := .el ((List.drop 1 ((eDp ((ix l ((dfind l key)).toNat))))))) rfl (oy rfl rfl rfl h3 (of_eff (s_field_el rfl Try.underlying40 rfl ti3 rfl rfl rfl) rfl)) ?_
      refine rg_put (d := 33) (v := .d (.fl (.int .i64 (((ix l ((dfind l key)).toNat)).time)))) rfl (oy rfl rfl rfl h3 (op_load_el rfl Try.underlying3 rfl rfl rfl rfl)) ?_
      refine rg_put (d := 34) (v := .d (.fl (.bool ((decide (t < ((ix l ((dfind l key)).toNat)).time)))))) rfl (oy rfl rfl rfl h3 (op_bin rfl rfl rfl (b_lss _ _ _ _) rfl)) ?_
      refine rg_put (d := 35) (v := .d (.fl (.bool ((decide (t < ((ix l ((dfind l key)).toNat)).time)))))) rfl (og rfl (op_pick rfl rfl (by rw [h3]; rfl) rfl)) ?_
      refine rg_done rfl ?_
      refine a_cond rfl (fun h5 => ?_) (fun h5 => ?_)
      · skip
        have h6 := t_dec h5
        refine a_rseq ?_
        refine rg_put (d := 36) (v := .d (.sl 5 (List.map eDp l))) rfl (og rfl (op_move rfl rfl rfl)) ?_
        refine rg_put (d := 8) (v := .d (.sl 5 (List.map eDp l))) rfl (og rfl (op_assign rfl rfl rfl)) ?_
        refine rg_put (d := 9) (v := .d (.fl (.int .i64 0))) rfl (og rfl (op_assign rfl rfl rfl)) ?_
        refine rg_put (d := 10) (v := .d (.fl (.int .i64 12))) rfl (og rfl (op_assign rfl rfl rfl)) ?_
        refine rg_done rfl ?_
        refine a_ret ?_
        show ∃ ds, ResL _ _ _ ds ∧ RV.of ds = _
        refine ⟨[.sl 5 (List.map eDp l), .fl (.int .i64 0), .fl (.int .i64 12)], (.cons (.tmp rfl (.d _)) (.cons (.tmp rfl (.d _)) (.cons (.tmp rfl (.d _)) .nil))), ?_⟩
        have hitm : itm (ix l (dfind l key).toNat) t 5184000 = 12 := by
          unfold itm; simp only [h1, h3, h4, h5]; rfl
        have hu : decid l key acc t = ((l, 0), 12) := by
          unfold decid; rw [hitm]; simp only [h1, h3, h4, h5]; rfl
        rw [hu]; rfl
      · skip
        have h7 := f_dec h5
        refine a_skip ?_
        show A _ _ _ _ _ _ _
        refine a_seq ?_
        refine a_rseq ?_
        refine rg_put (d := 37) (v := .d (.fl (.int .i64 t))) rfl (og rfl (op_move rfl rfl rfl)) ?_
        refine rg_put (d := 38) (v := .d (.sl 5 (List.map eDp l))) rfl (og rfl (op_move rfl rfl rfl)) ?_
        refine rg_put (d := 39) (v := .d (.fl (.int .i64 (dfind l key)))) rfl (og rfl (op_move rfl rfl rfl)) ?_
        refine rg_put (d := 40) (v := .el ((eDp ((ix l ((dfind l key)).toNat))))) rfl (og rfl (s_index rfl Try.underlying22 ti40 rfl rfl (by omega) (row_atI (by omega) (by omega)) rfl)) ?_
        refine rg_put (d := 41) (v := .el ((List.drop 1 ((eDp ((ix l ((dfind l key)).toNat))))))) rfl (og rfl (of_eff (s_field_el rfl Try.underlying40 rfl ti3 rfl rfl rfl) rfl)) ?_
        refine rg_put (d := 42) (v := .d (.fl (.int .i64 (((ix l ((dfind l key)).toNat)).time)))) rfl (og rfl (op_load_el rfl Try.underlying3 rfl rfl rfl rfl)) ?_
        refine rg_put (d := 43) (v := .d (.fl (.bool ((decide (((ix l ((dfind l key)).toNat)).time < t - 60 * 86400)))))) rfl (og rfl (op_call rfl Try.func44 nm44 rfl (.cons rfl (.d _) (.cons rfl (.d _) (.cons rfl (.d _) .nil))) (after44 t (((ix l ((dfind l key)).toNat)).time) 60 (by omega) (by omega) (by omega) (by omega)) rfl)) ?_
        refine rg_done rfl ?_
        refine a_cond rfl (fun h8 => ?_) (fun h8 => ?_)
        · skip
          have h9 := t_dec h8
          refine a_rseq ?_
          refine rg_put (d := 44) (v := .d (.sl 5 (List.map eDp l))) rfl (og rfl (op_move rfl rfl rfl)) ?_
          refine rg_put (d := 8) (v := .d (.sl 5 (List.map eDp l))) rfl (og rfl (op_assign rfl rfl rfl)) ?_
          refine rg_put (d := 9) (v := .d (.fl (.int .i64 0))) rfl (og rfl (op_assign rfl rfl rfl)) ?_
          refine rg_put (d := 10) (v := .d (.fl (.int .i64 29))) rfl (og rfl (op_assign rfl rfl rfl)) ?_
          refine rg_done rfl ?_
          refine a_ret ?_
          show ∃ ds, ResL _ _ _ ds ∧ RV.of ds = _
          refine ⟨[.sl 5 (List.map eDp l), .fl (.int .i64 0), .fl (.int .i64 29)], (.cons (.tmp rfl (.d _)) (.cons (.tmp rfl (.d _)) (.cons (.tmp rfl (.d _)) .nil))), ?_⟩
          have hcv : decide ((ix l (dfind l key).toNat).time + 5184000 < t) = true := decide_eq_true (by omega)
          have hitm : itm (ix l (dfind l key).toNat) t 5184000 = 29 := by
            unfold itm; simp only [h1, h3, h4, h5, h8, hcv]; rfl
          have hu : decid l key acc t = ((l, 0), 29) := by
            unfold decid; rw [hitm]; simp only [h1, h3, h4, h5, h8]; rfl
          rw [hu]; rfl
        · skip
          have h10 := f_dec h8
          refine a_skip ?_
          show A _ _ _ _ _ _ _
          refine a_rseq ?_
          refine rg_put (d := 45) (v := .d (.sl 5 (List.map eDp l))) rfl (og rfl (op_move rfl rfl rfl)) ?_
          refine rg_nam (d := 46) (v := .ow 101) (m := 101) (nw := [(101, .tr 40 5 (l.map oDp))]) rfl (og rfl (of_eff (op_callO 101 rfl Try.func42 nm42 rfl (.cons rfl (.d _) .nil) (copied42 l (by omega) (fun q h => hb q h)) rfl) rfl)) rfl ?_
          refine rg_put (d := 13) (v := .ow 101) rfl (og rfl (op_assign rfl rfl rfl)) ?_
          refine rg_done rfl ?_
          refine a_seq ?_
          refine a_rseq ?_
          refine rg_put (d := 47) (v := .d (.fl (.bool acc))) rfl (og rfl (op_move rfl rfl rfl)) ?_
          refine rg_done rfl ?_
          refine a_cond rfl (fun h11 => ?_) (fun h11 => ?_)
          · skip
            refine a_rseq ?_
            refine rg_put (d := 48) (v := .ow 101) rfl (og rfl (op_move rfl rfl rfl)) ?_
            refine rg_put (d := 49) (v := .d (.fl (.int .i64 (dfind l key)))) rfl (og rfl (op_move rfl rfl rfl)) ?_
            refine rg_put (d := 50) (v := .pe 101 5 (((dfind l key)).toNat) 0) rfl (og rfl (op_index_trI rfl Try.underlying22 ti40 rfl rfl rfl (by omega) (get_lt (map_at (by omega))) rfl)) ?_
            refine rg_put (d := 51) (v := .pe 101 5 (((dfind l key)).toNat) 3) rfl (og rfl (of_eff (op_field_pe rfl Try.underlying40 rfl ti3 rfl rfl rfl) rfl)) ?_
            refine rg_sto (nw := [(101, .tr 40 5 (((l.map oDp).set (((dfind l key)).toNat) [.dv (.fl (.string ((ix l (((dfind l key)).toNat)).key))), .dv (.fl (.int .i64 ((ix l (((dfind l key)).toNat)).time))), .dv (.fl (.int .i64 ((ix l (((dfind l key)).toNat)).cents))), .dv (.fl (.int .i64 2)), .ow 9 1 (List.map rS ((ix l (((dfind l key)).toNat)).proofs))])))]) rfl (og rfl (of_eff (op_store_pe rfl rfl ti3 rfl rfl (map_at (by omega)) rfl (.d rfl) rfl rfl rfl) rfl)) ?_
            refine rg_done rfl ?_
            refine a_imp (imp_leakE 13 101 (rows' := List.map eDp (l.set (dfind l key).toNat (setS (ix l (dfind l key).toNat) 2))) rfl rfl (set1_ok (y := (setS (ix l (dfind l key).toNat) 2))) (set1_rd (y := (setS (ix l (dfind l key).toNat) 2)))) ?_
            have hsl : (l.set (dfind l key).toNat (setS (ix l (dfind l key).toNat) 2)).length = l.length := List.length_set
            refine a_dseq (by kernel_rfl) ?_
            refine dr_put (d := 52) (v := .d (.sl 5 (List.map eDp ((l.set (dfind l key).toNat (setS (ix l (dfind l key).toNat) 2)))))) rfl (og rfl (op_move rfl rfl rfl)) ?_
            refine dr_put (d := 53) (v := .d (.sl 5 (List.map eDp ((l.set (dfind l key).toNat (setS (ix l (dfind l key).toNat) 2)))))) rfl (og rfl (op_move rfl rfl rfl)) ?_
            refine dr_put (d := 54) (v := .d (.fl (.int .i64 (dfind l key)))) rfl (og rfl (op_move rfl rfl rfl)) ?_
            refine dr_put (d := 55) (v := .el ((eDp ((ix ((l.set (dfind l key).toNat (setS (ix l (dfind l key).toNat) 2))) ((dfind l key)).toNat))))) rfl (og rfl (s_index rfl Try.underlying22 ti40 rfl rfl (by omega) (row_atI (by omega) (by omega)) rfl)) ?_
            refine dr_put (d := 56) (v := .el ((List.drop 2 ((eDp ((ix ((l.set (dfind l key).toNat (setS (ix l (dfind l key).toNat) 2))) ((dfind l key)).toNat))))))) rfl (og rfl (of_eff (s_field_el rfl Try.underlying40 rfl ti3 rfl rfl rfl) rfl)) ?_
            refine dr_put (d := 57) (v := .d (.fl (.int .i64 (((ix ((l.set (dfind l key).toNat (setS (ix l (dfind l key).toNat) 2))) ((dfind l key)).toNat)).cents)))) rfl (og rfl (op_load_el rfl Try.underlying3 rfl rfl rfl rfl)) ?_
            refine dr_put (d := 8) (v := .d (.sl 5 (List.map eDp ((l.set (dfind l key).toNat (setS (ix l (dfind l key).toNat) 2)))))) rfl (og rfl (op_assign rfl rfl rfl)) ?_
            refine dr_put (d := 9) (v := .d (.fl (.int .i64 (((ix ((l.set (dfind l key).toNat (setS (ix l (dfind l key).toNat) 2))) ((dfind l key)).toNat)).cents)))) rfl (og rfl (op_assign rfl rfl rfl)) ?_
            refine dr_put (d := 10) (v := .d (.fl (.int .i64 0))) rfl (og rfl (op_assign rfl rfl rfl)) ?_
            refine dr_done rfl (by kernel_rfl) (by kernel_rfl) ?_
            refine a_ret ?_
            show ∃ ds, ResL _ _ _ ds ∧ RV.of ds = _
            refine ⟨[.sl 5 (List.map eDp ((l.set (dfind l key).toNat (setS (ix l (dfind l key).toNat) 2)))), .fl (.int .i64 (((ix ((l.set (dfind l key).toNat (setS (ix l (dfind l key).toNat) 2))) ((dfind l key)).toNat)).cents)), .fl (.int .i64 0)], (.cons (.tmp rfl (.d _)) (.cons (.tmp rfl (.d _)) (.cons (.tmp rfl (.d _)) .nil))), ?_⟩
            have hx : ((ix ((l.set (dfind l key).toNat (setS (ix l (dfind l key).toNat) 2))) ((dfind l key)).toNat)).cents = (ix l (dfind l key).toNat).cents := by rw [ix_set (by omega)]; rfl
            have hcv : decide ((ix l (dfind l key).toNat).time + 5184000 < t) = false := decide_eq_false (by omega)
            have hitm : itm (ix l (dfind l key).toNat) t 5184000 = 0 := by
              unfold itm; simp only [h1, h3, h4, h5, h8, h11, hcv]; rfl
            have hu : decid l key acc t = (((l.set (dfind l key).toNat (setS (ix l (dfind l key).toNat) 2)), (ix l (dfind l key).toNat).cents), 0) := by
              unfold decid; rw [hitm]; simp only [h1, h3, h4, h5, h8, h11]; rfl
            rw [hu, hx]; rfl
          · skip
            refine a_skip ?_
            show A _ _ _ _ _ _ _
            refine a_rseq ?_
            refine rg_put (d := 58) (v := .ow 101) rfl (og rfl (op_move rfl rfl rfl)) ?_
            refine rg_put (d := 59) (v := .d (.fl (.int .i64 (dfind l key)))) rfl (og rfl (op_move rfl rfl rfl)) ?_
            refine rg_put (d := 60) (v := .pe 101 5 (((dfind l key)).toNat) 0) rfl (og rfl (op_index_trI rfl Try.underlying22 ti40 rfl rfl rfl (by omega) (get_lt (map_at (by omega))) rfl)) ?_
            refine rg_put (d := 61) (v := .pe 101 5 (((dfind l key)).toNat) 3) rfl (og rfl (of_eff (op_field_pe rfl Try.underlying40 rfl ti3 rfl rfl rfl) rfl)) ?_
            refine rg_sto (nw := [(101, .tr 40 5 (((l.map oDp).set (((dfind l key)).toNat) [.dv (.fl (.string ((ix l (((dfind l key)).toNat)).key))), .dv (.fl (.int .i64 ((ix l (((dfind l key)).toNat)).time))), .dv (.fl (.int .i64 ((ix l (((dfind l key)).toNat)).cents))), .dv (.fl (.int .i64 3)), .ow 9 1 (List.map rS ((ix l (((dfind l key)).toNat)).proofs))])))]) rfl (og rfl (of_eff (op_store_pe rfl rfl ti3 rfl rfl (map_at (by omega)) rfl (.d rfl) rfl rfl rfl) rfl)) ?_
            refine rg_done rfl ?_
            refine a_rseq ?_
            refine rg_imp (imp_leakE 13 101 (rows' := List.map eDp (l.set (dfind l key).toNat (setS (ix l (dfind l key).toNat) 3))) rfl rfl (set1_ok (y := (setS (ix l (dfind l key).toNat) 3))) (set1_rd (y := (setS (ix l (dfind l key).toNat) 3)))) ?_
            refine rg_put (d := 62) (v := .d (.sl 5 (List.map eDp ((l.set (dfind l key).toNat (setS (ix l (dfind l key).toNat) 3)))))) rfl (og rfl (op_move rfl rfl rfl)) ?_
            refine rg_put (d := 8) (v := .d (.sl 5 (List.map eDp ((l.set (dfind l key).toNat (setS (ix l (dfind l key).toNat) 3)))))) rfl (og rfl (op_assign rfl rfl rfl)) ?_
            refine rg_put (d := 9) (v := .d (.fl (.int .i64 0))) rfl (og rfl (op_assign rfl rfl rfl)) ?_
            refine rg_put (d := 10) (v := .d (.fl (.int .i64 0))) rfl (og rfl (op_assign rfl rfl rfl)) ?_
            refine rg_done rfl ?_
            refine a_ret ?_
            show ∃ ds, ResL _ _ _ ds ∧ RV.of ds = _
            refine ⟨[.sl 5 (List.map eDp ((l.set (dfind l key).toNat (setS (ix l (dfind l key).toNat) 3)))), .fl (.int .i64 0), .fl (.int .i64 0)], (.cons (.tmp rfl (.d _)) (.cons (.tmp rfl (.d _)) (.cons (.tmp rfl (.d _)) .nil))), ?_⟩
            have hcv : decide ((ix l (dfind l key).toNat).time + 5184000 < t) = false := decide_eq_false (by omega)
            have hitm : itm (ix l (dfind l key).toNat) t 5184000 = 0 := by
              unfold itm; simp only [h1, h3, h4, h5, h8, h11, hcv]; rfl
            have hu : decid l key acc t = (((l.set (dfind l key).toNat (setS (ix l (dfind l key).toNat) 3)), 0), 0) := by
              unfold decid; rw [hitm]; simp only [h1, h3, h4, h5, h8, h11]; rfl
            rw [hu]; rfl
    · skip
      have h12 := t_not h3
      refine rg_put (d := 28) (v := .d (.fl undef)) rfl (on rfl rfl rfl h3) ?_
      refine rg_put (d := 29) (v := .d (.fl undef)) rfl (on rfl rfl rfl h3) ?_
      refine rg_put (d := 30) (v := .d (.fl undef)) rfl (on rfl rfl rfl h3) ?_
      refine rg_put (d := 31) (v := .d (.fl undef)) rfl (on rfl rfl rfl h3) ?_
      refine rg_put (d := 32) (v := .d (.fl undef)) rfl (on rfl rfl rfl h3) ?_
      refine rg_put (d := 33) (v := .d (.fl undef)) rfl (on rfl rfl rfl h3) ?_
      refine rg_put (d := 34) (v := .d (.fl undef)) rfl (on rfl rfl rfl h3) ?_
      refine rg_put (d := 35) (v := .d (.fl (.bool true))) rfl (og rfl (op_pick rfl rfl (by rw [h3]; rfl) rfl)) ?_
      refine rg_done rfl ?_
      refine a_condK rfl rfl ?_
      refine a_rseq ?_
      refine rg_put (d := 36) (v := .d (.sl 5 (List.map eDp l))) rfl (og rfl (op_move rfl rfl rfl)) ?_
      refine rg_put (d := 8) (v := .d (.sl 5 (List.map eDp l))) rfl (og rfl (op_assign rfl rfl rfl)) ?_
      refine rg_put (d := 9) (v := .d (.fl (.int .i64 0))) rfl (og rfl (op_assign rfl rfl rfl)) ?_
      refine rg_put (d := 10) (v := .d (.fl (.int .i64 12))) rfl (og rfl (op_assign rfl rfl rfl)) ?_
      refine rg_done rfl ?_
      refine a_ret ?_
      show ∃ ds, ResL _ _ _ ds ∧ RV.of ds = _
      refine ⟨[.sl 5 (List.map eDp l), .fl (.int .i64 0), .fl (.int .i64 12)], (.cons (.tmp rfl (.d _)) (.cons (.tmp rfl (.d _)) (.cons (.tmp rfl (.d _)) .nil))), ?_⟩
      have hitm : itm (ix l (dfind l key).toNat) t 5184000 = 12 := by
        unfold itm; simp only [h1, h3, h12]; rfl
      have hu : decid l key acc t = ((l, 0), 12) := by
        unfold decid; rw [hitm]; simp only [h1, h3, h12]; rfl
      rw [hu]; rfl
  · skip
    have h13 := t_bne h1
    refine rg_put (d := 17) (v := .tu [.fl (.int .i64 (opened l key)), .fl (.int .i64 (fcode l key))]) rfl (og rfl (op_call rfl Try.func43 nm43 rfl (.cons rfl (.d _) (.cons rfl (.d _) .nil)) (opened43 l key (by omega)) rfl)) ?_
    refine rg_put (d := 14) (v := .tu [.fl (.int .i64 (opened l key)), .fl (.int .i64 (fcode l key))]) rfl (og rfl (op_move rfl rfl rfl)) ?_
    refine rg_put (d := 18) (v := .d (.fl (.int .i64 (opened l key)))) rfl (og rfl (op_extract rfl rfl rfl rfl)) ?_
    refine rg_put (d := 19) (v := .d (.fl (.int .i64 (fcode l key)))) rfl (og rfl (op_extract rfl rfl rfl rfl)) ?_
    refine rg_put (d := 11) (v := .d (.fl (.int .i64 (opened l key)))) rfl (og rfl (op_assign rfl rfl rfl)) ?_
    refine rg_put (d := 12) (v := .d (.fl (.int .i64 (fcode l key)))) rfl (og rfl (op_assign rfl rfl rfl)) ?_
    refine rg_done rfl ?_
    refine a_seq ?_
    refine a_rseq ?_
    refine rg_put (d := 20) (v := .d (.fl (.int .i64 (fcode l key)))) rfl (og rfl (op_move rfl rfl rfl)) ?_
    refine rg_put (d := 21) (v := .d (.fl (.bool (((fcode l key) != 0))))) rfl (og rfl (op_bin rfl rfl rfl (b_neq _ _ _ _) rfl)) ?_
    refine rg_done rfl ?_
    refine a_condK rfl h1 ?_
    refine a_rseq ?_
    refine rg_put (d := 22) (v := .d (.sl 5 (List.map eDp l))) rfl (og rfl (op_move rfl rfl rfl)) ?_
    refine rg_put (d := 23) (v := .d (.fl (.int .i64 (fcode l key)))) rfl (og rfl (op_move rfl rfl rfl)) ?_
    refine rg_put (d := 8) (v := .d (.sl 5 (List.map eDp l))) rfl (og rfl (op_assign rfl rfl rfl)) ?_
    refine rg_put (d := 9) (v := .d (.fl (.int .i64 0))) rfl (og rfl (op_assign rfl rfl rfl)) ?_
    refine rg_put (d := 10) (v := .d (.fl (.int .i64 (fcode l key)))) rfl (og rfl (op_assign rfl rfl rfl)) ?_
    refine rg_done rfl ?_
    refine a_ret ?_
    show ∃ ds, ResL _ _ _ ds ∧ RV.of ds = _
    refine ⟨[.sl 5 (List.map eDp l), .fl (.int .i64 0), .fl (.int .i64 (fcode l key))], (.cons (.tmp rfl (.d _)) (.cons (.tmp rfl (.d _)) (.cons (.tmp rfl (.d _)) .nil))), ?_⟩
    have hu : decid l key acc t = ((l, 0), (fcode l key)) := by
      unfold decid; simp only [h1]; rfl
    rw [hu]; rfl
end Go.Proofs.Ytocjbombpggmeaa.Wk
