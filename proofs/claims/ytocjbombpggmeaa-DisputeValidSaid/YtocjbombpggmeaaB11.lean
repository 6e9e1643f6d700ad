/- Openings and proofs, the plain way. Condition: lists of at most two thousand. -/
import Derived.Test.YtocjbombpggmeaaB10
set_option linter.unusedSimpArgs false
set_option linter.unusedVariables false
namespace Go.Proofs.Ytocjbombpggmeaa.Wk
open Go Go.RowKit Go.Proofs.Ytocjbombpggmeaa.Av
theorem opened_ok {l : List Dp} {key : ByteArray} (hl : l.length < 9223372036854775807) (h : ((fcode l key) != 0) = false) : Ctr Try.prog 43 [.sl 5 (List.map eDp l), .fl (.string key)] (.tu [.fl (.int .i64 (dfind l key)), .fl (.int .i64 (fcode l key))]) := by
  have := opened43 l key hl
  unfold opened at this
  rwa [if_neg (by rw [h]; simp)] at this
set_option maxHeartbeats 4000000 in
set_option maxRecDepth 100000 in
theorem ref_open (l : List Dp) (key : ByteArray) (cents t : Int) (hk : key.size ≤ 9223372036854775807) (hl : l.length ≤ 2000) (hb : ∀ q, q < l.length → (ix l q).proofs.length ≤ 2000) (hw : ∀ q, q < l.length → -9223372036854775808 ≤ (ix l q).time) : Ctr Try.prog 27 [.sl 5 (List.map eDp l), .fl (.string key), .fl (.int .i64 cents), .fl (.int .i64 t)] (.tu [.sl 5 (List.map eDp (opn l key cents t).1), .fl (.int .i64 (opn l key cents t).2)]) := by
  refine ctr (n := 39) (rs := #[.tmp 8, .tmp 9]) (L := [(0, .d (.sl 5 (List.map eDp l))), (1, .d (.fl (.string key))), (2, .d (.fl (.int .i64 cents))), (3, .d (.fl (.int .i64 t)))]) Try.func27 rfl rfl rfl rfl rfl (fun w0 U0 => ?_)
  refine a_rseq ?_
  refine rg_put (d := 8) (v := .d (.fl (.slice none 0 0))) rfl (og rfl (op_assign rfl rfl rfl)) ?_
  refine rg_put (d := 9) (v := .d (.fl (.int .i64 0))) rfl (og rfl (op_assign rfl rfl rfl)) ?_
  refine rg_done rfl ?_
  refine a_seq ?_
  refine a_rseq ?_
  refine rg_put (d := 10) (v := .d (.fl (.string key))) rfl (og rfl (op_move rfl rfl rfl)) ?_
  refine rg_put (d := 11) (v := .d (.fl (.bool (isR key)))) rfl (og rfl (op_call rfl Try.func23 nm23 rfl (.cons rfl (.d _) .nil) (ref_isR key (by omega)) rfl)) ?_
  refine rg_put (d := 12) (v := .d (.fl (.bool ((!(isR key)))))) rfl (og rfl (op_un rfl rfl (u_not _) rfl)) ?_
  refine rg_done rfl ?_
  refine a_cond rfl (fun h1 => ?_) (fun h1 => ?_)
  · skip
    have h2 := t_not h1
    refine a_rseq ?_
    refine rg_put (d := 13) (v := .d (.sl 5 (List.map eDp l))) rfl (og rfl (op_move rfl rfl rfl)) ?_
    refine rg_put (d := 8) (v := .d (.sl 5 (List.map eDp l))) rfl (og rfl (op_assign rfl rfl rfl)) ?_
    refine rg_put (d := 9) (v := .d (.fl (.int .i64 5))) rfl (og rfl (op_assign rfl rfl rfl)) ?_
    refine rg_done rfl ?_
    refine a_ret ?_
    show ∃ ds, ResL _ _ _ ds ∧ RV.of ds = _
    refine ⟨[.sl 5 (List.map eDp l), .fl (.int .i64 5)], (.cons (.tmp rfl (.d _)) (.cons (.tmp rfl (.d _)) .nil)), ?_⟩
    have hu : opn l key cents t = (l, 5) := by
      unfold opn; simp only [h1, h2]; rfl
    rw [hu]; rfl
  · skip
    have h3 := f_not h1
    refine a_skip ?_
    show A _ _ _ _ _ _ _
    refine a_seq ?_
    refine a_rseq ?_
    refine rg_put (d := 14) (v := .d (.fl (.int .i64 cents))) rfl (og rfl (op_move rfl rfl rfl)) ?_
    refine rg_put (d := 15) (v := .d (.fl (.bool (isC cents)))) rfl (og rfl (op_call rfl Try.func40 nm40 rfl (.cons rfl (.d _) .nil) (isC40 cents) rfl)) ?_
    refine rg_put (d := 16) (v := .d (.fl (.bool ((!(isC cents)))))) rfl (og rfl (op_un rfl rfl (u_not _) rfl)) ?_
    refine rg_done rfl ?_
    refine a_cond rfl (fun h4 => ?_) (fun h4 => ?_)
    · skip
      have h5 := t_not h4
      refine a_rseq ?_
      refine rg_put (d := 17) (v := .d (.sl 5 (List.map eDp l))) rfl (og rfl (op_move rfl rfl rfl)) ?_
      refine rg_put (d := 8) (v := .d (.sl 5 (List.map eDp l))) rfl (og rfl (op_assign rfl rfl rfl)) ?_
      refine rg_put (d := 9) (v := .d (.fl (.int .i64 13))) rfl (og rfl (op_assign rfl rfl rfl)) ?_
      refine rg_done rfl ?_
      refine a_ret ?_
      show ∃ ds, ResL _ _ _ ds ∧ RV.of ds = _
      refine ⟨[.sl 5 (List.map eDp l), .fl (.int .i64 13)], (.cons (.tmp rfl (.d _)) (.cons (.tmp rfl (.d _)) .nil)), ?_⟩
      have hu : opn l key cents t = (l, 13) := by
        unfold opn; simp only [h1, h3, h4, h5]; rfl
      rw [hu]; rfl
    · skip
      have h6 := f_not h4
      refine a_skip ?_
      show A _ _ _ _ _ _ _
      refine a_seq ?_
      refine a_rseq ?_
      refine rg_put (d := 18) (v := .d (.fl (.int .i64 t))) rfl (og rfl (op_move rfl rfl rfl)) ?_
      refine rg_put (d := 19) (v := .d (.fl (.bool (isT t)))) rfl (og rfl (op_call rfl Try.func39 nm39 rfl (.cons rfl (.d _) .nil) (isTime39 t) rfl)) ?_
      refine rg_put (d := 20) (v := .d (.fl (.bool ((!(isT t)))))) rfl (og rfl (op_un rfl rfl (u_not _) rfl)) ?_
      refine rg_done rfl ?_
      refine a_cond rfl (fun h7 => ?_) (fun h7 => ?_)
      · skip
        have h8 := t_not h7
        refine a_rseq ?_
        refine rg_put (d := 21) (v := .d (.sl 5 (List.map eDp l))) rfl (og rfl (op_move rfl rfl rfl)) ?_
        refine rg_put (d := 8) (v := .d (.sl 5 (List.map eDp l))) rfl (og rfl (op_assign rfl rfl rfl)) ?_
        refine rg_put (d := 9) (v := .d (.fl (.int .i64 12))) rfl (og rfl (op_assign rfl rfl rfl)) ?_
        refine rg_done rfl ?_
        refine a_ret ?_
        show ∃ ds, ResL _ _ _ ds ∧ RV.of ds = _
        refine ⟨[.sl 5 (List.map eDp l), .fl (.int .i64 12)], (.cons (.tmp rfl (.d _)) (.cons (.tmp rfl (.d _)) .nil)), ?_⟩
        have hu : opn l key cents t = (l, 12) := by
          unfold opn; simp only [h1, h3, h4, h6, h7, h8]; rfl
        rw [hu]; rfl
      · skip
        have h9 := f_not h7
        refine a_skip ?_
        show A _ _ _ _ _ _ _
        refine a_seq ?_
        refine a_rseq ?_
        refine rg_put (d := 22) (v := .d (.sl 5 (List.map eDp l))) rfl (og rfl (op_move rfl rfl rfl)) ?_
        refine rg_put (d := 23) (v := .d (.fl (.string key))) rfl (og rfl (op_move rfl rfl rfl)) ?_
        refine rg_put (d := 24) (v := .d (.fl (.int .i64 (dfind l key)))) rfl (og rfl (op_call rfl Try.func24 nm24 rfl (.cons rfl (.d _) (.cons rfl (.d _) .nil)) (ref_find l key (by omega)) rfl)) ?_
        refine rg_put (d := 25) (v := .d (.fl (.bool ((decide (0 ≤ (dfind l key))))))) rfl (og rfl (op_bin rfl rfl rfl (b_geq _ _ _ _) rfl)) ?_
        refine rg_done rfl ?_
        refine a_cond rfl (fun h10 => ?_) (fun h10 => ?_)
        · skip
          have h11 := t_dec h10
          refine a_rseq ?_
          refine rg_put (d := 26) (v := .d (.sl 5 (List.map eDp l))) rfl (og rfl (op_move rfl rfl rfl)) ?_
          refine rg_put (d := 8) (v := .d (.sl 5 (List.map eDp l))) rfl (og rfl (op_assign rfl rfl rfl)) ?_
          refine rg_put (d := 9) (v := .d (.fl (.int .i64 9))) rfl (og rfl (op_assign rfl rfl rfl)) ?_
          refine rg_done rfl ?_
          refine a_ret ?_
          show ∃ ds, ResL _ _ _ ds ∧ RV.of ds = _
          refine ⟨[.sl 5 (List.map eDp l), .fl (.int .i64 9)], (.cons (.tmp rfl (.d _)) (.cons (.tmp rfl (.d _)) .nil)), ?_⟩
          have hu : opn l key cents t = (l, 9) := by
            unfold opn; simp only [h1, h3, h4, h6, h7, h9, h10]; rfl
          rw [hu]; rfl
        · skip
          have h12 := f_dec h10
          refine a_skip ?_
          show A _ _ _ _ _ _ _
          refine a_seq ?_
          refine a_rseq ?_
          refine rg_put (d := 27) (v := .d (.sl 5 (List.map eDp l))) rfl (og rfl (op_move rfl rfl rfl)) ?_
          refine rg_put (d := 28) (v := .d (.fl (.int .i64 (l.length : Int)))) rfl (og rfl (s_len rfl Try.underlying22 rfl rfl)) ?_
          refine rg_put (d := 29) (v := .d (.fl (.bool ((decide (1024 ≤ (l.length : Int))))))) rfl (og rfl (op_bin rfl rfl rfl (b_geq _ _ _ _) rfl)) ?_
          refine rg_done rfl ?_
          refine a_cond rfl (fun h13 => ?_) (fun h13 => ?_)
          · skip
            have h14 := t_dec h13
            refine a_rseq ?_
            refine rg_put (d := 30) (v := .d (.sl 5 (List.map eDp l))) rfl (og rfl (op_move rfl rfl rfl)) ?_
            refine rg_put (d := 8) (v := .d (.sl 5 (List.map eDp l))) rfl (og rfl (op_assign rfl rfl rfl)) ?_
            refine rg_put (d := 9) (v := .d (.fl (.int .i64 3))) rfl (og rfl (op_assign rfl rfl rfl)) ?_
            refine rg_done rfl ?_
            refine a_ret ?_
            show ∃ ds, ResL _ _ _ ds ∧ RV.of ds = _
            refine ⟨[.sl 5 (List.map eDp l), .fl (.int .i64 3)], (.cons (.tmp rfl (.d _)) (.cons (.tmp rfl (.d _)) .nil)), ?_⟩
            have hu : opn l key cents t = (l, 3) := by
              unfold opn; simp only [h1, h3, h4, h6, h7, h9, h10, h13]; rfl
            rw [hu]; rfl
          · skip
            have h15 := f_dec h13
            refine a_skip ?_
            show A _ _ _ _ _ _ _
            refine a_rseq ?_
            refine rg_put (d := 31) (v := .d (.sl 5 (List.map eDp l))) rfl (og rfl (op_move rfl rfl rfl)) ?_
            refine rg_nam (d := 32) (v := .ow 101) (m := 101) (nw := [(101, .tr 40 5 (l.map oDp))]) rfl (og rfl (of_eff (op_callO 101 rfl Try.func42 nm42 rfl (.cons rfl (.d _) .nil) (copied42 l (by omega) (fun q h => hb q h)) rfl) rfl)) rfl ?_
            refine rg_put (d := 33) (v := .d (.fl (.string key))) rfl (og rfl (op_move rfl rfl rfl)) ?_
            refine rg_put (d := 34) (v := .d (.fl (.int .i64 t))) rfl (og rfl (op_move rfl rfl rfl)) ?_
            refine rg_put (d := 35) (v := .d (.fl (.int .i64 cents))) rfl (og rfl (op_move rfl rfl rfl)) ?_
            refine rg_put (d := 36) (v := .d (.ag [.fl (.string key), .fl (.int .i64 t), .fl (.int .i64 cents), .fl (.int .i64 1), .fl (.slice none 0 0)])) rfl (og rfl (of_eff (op_build rfl Try.underlying40 ti40 rfl (by kernel_rfl) (by kernel_rfl) (pl := #[(0, 1), (1, 1), (2, 1), (3, 1), (4, 1)]) (by kernel_rfl) (.cons rfl rfl (.d _) rfl rfl rfl (.cons rfl rfl (.d _) rfl rfl rfl (.cons rfl rfl (.d _) rfl rfl rfl (.cons rfl rfl (.d _) rfl rfl rfl .nil)))) rfl) rfl)) ?_
            refine rg_put (d := 37) (v := .d (.sl 5 (List.map eDp ([(Dp.mk key t cents 1 [])])))) rfl (og rfl (of_eff (op_slices rfl Try.underlying22 ti40 rfl rfl rfl (by kernel_rfl) (xs := [.ag [.fl (.string key), .fl (.int .i64 t), .fl (.int .i64 cents), .fl (.int .i64 1), .sl 1 (List.map rS [])]]) rfl rfl (.cons rfl rfl (.cv (Cv.ag (xs := [.fl (.string key), .fl (.int .i64 t), .fl (.int .i64 cents), .fl (.int .i64 1), .fl (.slice none 0 0)]) (ys := [.fl (.string key), .fl (.int .i64 t), .fl (.int .i64 cents), .fl (.int .i64 1), .sl 1 (List.map rS [])]) ⟨Cv.refl _, Cv.refl _, Cv.refl _, Cv.refl _, Cv.nil _, trivial⟩)) rfl rfl rfl .nil) rfl) rfl)) ?_
            refine rg_nam (d := 38) (v := .ow 102) (m := 102) (nw := [(102, .tr 40 5 (((l.map oDp) ++ tD eDp ([(Dp.mk key t cents 1 [])])))), (101, .no)]) rfl (og rfl (of_eff (op_append_tr 102 rfl Try.underlying22 ti40 rfl rfl rfl rfl rfl (RowsS.d (.d _)) rfl (n := l.length) (n' := ([(Dp.mk key t cents 1 [])]).length) (by simp) (by simp) (by simp only [List.length_cons, List.length_nil]; omega) rfl) rfl)) rfl ?_
            refine rg_put (d := 8) (v := .ow 102) rfl (og rfl (op_assign rfl rfl rfl)) ?_
            refine rg_put (d := 9) (v := .d (.fl (.int .i64 0))) rfl (og rfl (op_assign rfl rfl rfl)) ?_
            refine rg_done rfl ?_
            refine a_imp (imp_leakE 8 102 (rows' := List.map eDp (l ++ [(Dp.mk key t cents 1 [])])) rfl rfl (app_ok (y := (Dp.mk key t cents 1 []))) (app_rd (y := (Dp.mk key t cents 1 [])))) ?_
            refine a_ret ?_
            show ∃ ds, ResL _ _ _ ds ∧ RV.of ds = _
            refine ⟨[.sl 5 (List.map eDp ((l ++ [(Dp.mk key t cents 1 [])]))), .fl (.int .i64 0)], (.cons (.tmp rfl (.d _)) (.cons (.tmp rfl (.d _)) .nil)), ?_⟩
            have hu : opn l key cents t = ((l ++ [(Dp.mk key t cents 1 [])]), 0) := by
              unfold opn; simp only [h1, h3, h4, h6, h7, h9, h10, h13]; rfl
            rw [hu]; rfl
set_option maxHeartbeats 4000000 in
set_option maxRecDepth 100000 in
theorem ref_prove (l : List Dp) (key id : ByteArray) (t : Int) (hid : id.size ≤ 9223372036854775807) (hl : l.length ≤ 2000) (hb : ∀ q, q < l.length → (ix l q).proofs.length ≤ 2000) (hw : ∀ q, q < l.length → -9223372036854775808 ≤ (ix l q).time) : Ctr Try.prog 28 [.sl 5 (List.map eDp l), .fl (.string key), .fl (.string id), .fl (.int .i64 t)] (.tu [.sl 5 (List.map eDp (prove l key id t).1), .fl (.int .i64 (prove l key id t).2)]) := by
  refine ctr (n := 79) (rs := #[.tmp 8, .tmp 9]) (L := [(0, .d (.sl 5 (List.map eDp l))), (1, .d (.fl (.string key))), (2, .d (.fl (.string id))), (3, .d (.fl (.int .i64 t)))]) Try.func28 rfl rfl rfl rfl rfl (fun w0 U0 => ?_)
  refine a_rseq ?_
  refine rg_put (d := 8) (v := .d (.fl (.slice none 0 0))) rfl (og rfl (op_assign rfl rfl rfl)) ?_
  refine rg_put (d := 9) (v := .d (.fl (.int .i64 0))) rfl (og rfl (op_assign rfl rfl rfl)) ?_
  refine rg_done rfl ?_
  refine a_rseq ?_
  refine rg_put (d := 14) (v := .d (.sl 5 (List.map eDp l))) rfl (og rfl (op_move rfl rfl rfl)) ?_
  refine rg_put (d := 15) (v := .d (.fl (.string key))) rfl (og rfl (op_move rfl rfl rfl)) ?_
  rcases fot (((fcode l key) != 0)) with h1 | h1
  · skip
    have h2 := f_bne h1
    refine rg_put (d := 16) (v := .tu [.fl (.int .i64 (dfind l key)), .fl (.int .i64 (fcode l key))]) rfl (og rfl (op_call rfl Try.func43 nm43 rfl (.cons rfl (.d _) (.cons rfl (.d _) .nil)) (opened_ok (by omega) h1) rfl)) ?_
    refine rg_put (d := 13) (v := .tu [.fl (.int .i64 (dfind l key)), .fl (.int .i64 (fcode l key))]) rfl (og rfl (op_move rfl rfl rfl)) ?_
    refine rg_put (d := 17) (v := .d (.fl (.int .i64 (dfind l key)))) rfl (og rfl (op_extract rfl rfl rfl rfl)) ?_
    refine rg_put (d := 18) (v := .d (.fl (.int .i64 (fcode l key)))) rfl (og rfl (op_extract rfl rfl rfl rfl)) ?_
    refine rg_put (d := 10) (v := .d (.fl (.int .i64 (dfind l key)))) rfl (og rfl (op_assign rfl rfl rfl)) ?_
    refine rg_put (d := 11) (v := .d (.fl (.int .i64 (fcode l key)))) rfl (og rfl (op_assign rfl rfl rfl)) ?_
    refine rg_done rfl ?_
    refine a_seq ?_
    refine a_rseq ?_
    refine rg_put (d := 19) (v := .d (.fl (.int .i64 (fcode l key)))) rfl (og rfl (op_move rfl rfl rfl)) ?_
    refine rg_put (d := 20) (v := .d (.fl (.bool (((fcode l key) != 0))))) rfl (og rfl (op_bin rfl rfl rfl (b_neq _ _ _ _) rfl)) ?_
    refine rg_done rfl ?_
    refine a_condF rfl h1 ?_
    refine a_skip ?_
    show A _ _ _ _ _ _ _
    refine a_seq ?_
    refine a_rseq ?_
    obtain ⟨hi0, hst⟩ := fcode_ok (f_bne h1)
    have hi := dfind_lt l key
    have hbi := hb (dfind l key).toNat (by omega)
    have hwi := hw (dfind l key).toNat (by omega)
    refine rg_put (d := 23) (v := .d (.fl (.int .i64 t))) rfl (og rfl (op_move rfl rfl rfl)) ?_
    refine rg_put (d := 24) (v := .d (.fl (.bool (isT t)))) rfl (og rfl (op_call rfl Try.func39 nm39 rfl (.cons rfl (.d _) .nil) (isTime39 t) rfl)) ?_
    refine rg_put (d := 25) (v := .d (.fl (.bool ((!(isT t)))))) rfl (og rfl (op_un rfl rfl (u_not _) rfl)) ?_
    refine rg_put (d := 26) (v := .d (.fl (.bool ((!(isT t)))))) rfl (og rfl (op_move rfl rfl rfl)) ?_
    rcases fot ((!(isT t))) with h3 | h3
    · skip
      have h4 := f_not h3
      have := isT_t h4
      refine rg_put (d := 27) (v := .d (.fl (.int .i64 t))) rfl (oy rfl rfl rfl h3 (op_move rfl rfl rfl)) ?_
      refine rg_put (d := 28) (v := .d (.sl 5 (List.map eDp l))) rfl (oy rfl rfl rfl h3 (op_move rfl rfl rfl)) ?_
      refine rg_put (d := 29) (v := .d (.fl (.int .i64 (dfind l key)))) rfl (oy rfl rfl rfl h3 (op_move rfl rfl rfl)) ?_
      refine rg_put (d := 30) (v := .el ((eDp ((ix l ((dfind l key)).toNat))))) rfl (oy rfl rfl rfl h3 (s_index rfl Try.underlying22 ti40 rfl rfl (by omega) (row_atI (by omega) (by omega)) rfl)) ?_
      refine rg_put (d := 31) (v := .el ((List.drop 1 ((eDp ((ix l ((dfind l key)).toNat))))))) rfl (oy rfl rfl rfl h3 (of_eff (s_field_el rfl Try.underlying40 rfl ti3 rfl rfl rfl) rfl)) ?_
      refine rg_put (d := 32) (v := .d (.fl (.int .i64 (((ix l ((dfind l key)).toNat)).time)))) rfl (oy rfl rfl rfl h3 (op_load_el rfl Try.underlying3 rfl rfl rfl rfl)) ?_
      refine rg_put (d := 33) (v := .d (.fl (.bool ((decide (t < ((ix l ((dfind l key)).toNat)).time)))))) rfl (oy rfl rfl rfl h3 (op_bin rfl rfl rfl (b_lss _ _ _ _) rfl)) ?_
      refine rg_put (d := 34) (v := .d (.fl (.bool ((decide (t < ((ix l ((dfind l key)).toNat)).time)))))) rfl (og rfl (op_pick rfl rfl (by rw [h3]; rfl) rfl)) ?_
      refine rg_done rfl ?_
      refine a_cond rfl (fun h5 => ?_) (fun h5 => ?_)
      · skip
        have h6 := t_dec h5
        refine a_rseq ?_
        refine rg_put (d := 35) (v := .d (.sl 5 (List.map eDp l))) rfl (og rfl (op_move rfl rfl rfl)) ?_
        refine rg_put (d := 8) (v := .d (.sl 5 (List.map eDp l))) rfl (og rfl (op_assign rfl rfl rfl)) ?_
        refine rg_put (d := 9) (v := .d (.fl (.int .i64 12))) rfl (og rfl (op_assign rfl rfl rfl)) ?_
        refine rg_done rfl ?_
        refine a_ret ?_
        show ∃ ds, ResL _ _ _ ds ∧ RV.of ds = _
        refine ⟨[.sl 5 (List.map eDp l), .fl (.int .i64 12)], (.cons (.tmp rfl (.d _)) (.cons (.tmp rfl (.d _)) .nil)), ?_⟩
        have hitm : itm (ix l (dfind l key).toNat) t 2592000 = 12 := by
          unfold itm; simp only [h1, h3, h4, h5]; rfl
        have hu : prove l key id t = (l, 12) := by
          unfold prove; rw [hitm]; simp only [h1, h3, h4, h5]; rfl
        rw [hu]; rfl
      · skip
        have h7 := f_dec h5
        refine a_skip ?_
        show A _ _ _ _ _ _ _
        refine a_seq ?_
        refine a_rseq ?_
        refine rg_put (d := 36) (v := .d (.fl (.int .i64 t))) rfl (og rfl (op_move rfl rfl rfl)) ?_
        refine rg_put (d := 37) (v := .d (.sl 5 (List.map eDp l))) rfl (og rfl (op_move rfl rfl rfl)) ?_
        refine rg_put (d := 38) (v := .d (.fl (.int .i64 (dfind l key)))) rfl (og rfl (op_move rfl rfl rfl)) ?_
        refine rg_put (d := 39) (v := .el ((eDp ((ix l ((dfind l key)).toNat))))) rfl (og rfl (s_index rfl Try.underlying22 ti40 rfl rfl (by omega) (row_atI (by omega) (by omega)) rfl)) ?_
        refine rg_put (d := 40) (v := .el ((List.drop 1 ((eDp ((ix l ((dfind l key)).toNat))))))) rfl (og rfl (of_eff (s_field_el rfl Try.underlying40 rfl ti3 rfl rfl rfl) rfl)) ?_
        refine rg_put (d := 41) (v := .d (.fl (.int .i64 (((ix l ((dfind l key)).toNat)).time)))) rfl (og rfl (op_load_el rfl Try.underlying3 rfl rfl rfl rfl)) ?_
        refine rg_put (d := 42) (v := .d (.fl (.bool ((decide (((ix l ((dfind l key)).toNat)).time < t - 30 * 86400)))))) rfl (og rfl (op_call rfl Try.func44 nm44 rfl (.cons rfl (.d _) (.cons rfl (.d _) (.cons rfl (.d _) .nil))) (after44 t (((ix l ((dfind l key)).toNat)).time) 30 (by omega) (by omega) (by omega) (by omega)) rfl)) ?_
        refine rg_done rfl ?_
        refine a_cond rfl (fun h8 => ?_) (fun h8 => ?_)
        · skip
          have h9 := t_dec h8
          refine a_rseq ?_
          refine rg_put (d := 43) (v := .d (.sl 5 (List.map eDp l))) rfl (og rfl (op_move rfl rfl rfl)) ?_
          refine rg_put (d := 8) (v := .d (.sl 5 (List.map eDp l))) rfl (og rfl (op_assign rfl rfl rfl)) ?_
          refine rg_put (d := 9) (v := .d (.fl (.int .i64 29))) rfl (og rfl (op_assign rfl rfl rfl)) ?_
          refine rg_done rfl ?_
          refine a_ret ?_
          show ∃ ds, ResL _ _ _ ds ∧ RV.of ds = _
          refine ⟨[.sl 5 (List.map eDp l), .fl (.int .i64 29)], (.cons (.tmp rfl (.d _)) (.cons (.tmp rfl (.d _)) .nil)), ?_⟩
          have hcv : decide ((ix l (dfind l key).toNat).time + 2592000 < t) = true := decide_eq_true (by omega)
          have hitm : itm (ix l (dfind l key).toNat) t 2592000 = 29 := by
            unfold itm; simp only [h1, h3, h4, h5, h8, hcv]; rfl
          have hu : prove l key id t = (l, 29) := by
            unfold prove; rw [hitm]; simp only [h1, h3, h4, h5, h8]; rfl
          rw [hu]; rfl
        · skip
          have h10 := f_dec h8
          refine a_skip ?_
          show A _ _ _ _ _ _ _
          refine a_seq ?_
          refine a_rseq ?_
          refine rg_put (d := 44) (v := .d (.fl (.string id))) rfl (og rfl (op_move rfl rfl rfl)) ?_
          refine rg_put (d := 45) (v := .d (.fl (.bool (isR id)))) rfl (og rfl (op_call rfl Try.func23 nm23 rfl (.cons rfl (.d _) .nil) (ref_isR id (by omega)) rfl)) ?_
          refine rg_put (d := 46) (v := .d (.fl (.bool ((!(isR id)))))) rfl (og rfl (op_un rfl rfl (u_not _) rfl)) ?_
          refine rg_done rfl ?_
          refine a_cond rfl (fun h11 => ?_) (fun h11 => ?_)
          · skip
            have h12 := t_not h11
            refine a_rseq ?_
            refine rg_put (d := 47) (v := .d (.sl 5 (List.map eDp l))) rfl (og rfl (op_move rfl rfl rfl)) ?_
            refine rg_put (d := 8) (v := .d (.sl 5 (List.map eDp l))) rfl (og rfl (op_assign rfl rfl rfl)) ?_
            refine rg_put (d := 9) (v := .d (.fl (.int .i64 5))) rfl (og rfl (op_assign rfl rfl rfl)) ?_
            refine rg_done rfl ?_
            refine a_ret ?_
            show ∃ ds, ResL _ _ _ ds ∧ RV.of ds = _
            refine ⟨[.sl 5 (List.map eDp l), .fl (.int .i64 5)], (.cons (.tmp rfl (.d _)) (.cons (.tmp rfl (.d _)) .nil)), ?_⟩
            have hcv : decide ((ix l (dfind l key).toNat).time + 2592000 < t) = false := decide_eq_false (by omega)
            have hitm : itm (ix l (dfind l key).toNat) t 2592000 = 0 := by
              unfold itm; simp only [h1, h3, h4, h5, h8, h11, h12, hcv]; rfl
            have hu : prove l key id t = (l, 5) := by
              unfold prove; rw [hitm]; simp only [h1, h3, h4, h5, h8, h11, h12]; rfl
            rw [hu]; rfl
          · skip
            have h13 := f_not h11
            refine a_skip ?_
            show A _ _ _ _ _ _ _
            refine a_seq ?_
            refine a_rseq ?_
            refine rg_put (d := 48) (v := .d (.sl 5 (List.map eDp l))) rfl (og rfl (op_move rfl rfl rfl)) ?_
            refine rg_put (d := 49) (v := .d (.fl (.int .i64 (dfind l key)))) rfl (og rfl (op_move rfl rfl rfl)) ?_
            refine rg_put (d := 50) (v := .el ((eDp ((ix l ((dfind l key)).toNat))))) rfl (og rfl (s_index rfl Try.underlying22 ti40 rfl rfl (by omega) (row_atI (by omega) (by omega)) rfl)) ?_
            refine rg_put (d := 51) (v := .el ((List.drop 4 ((eDp ((ix l ((dfind l key)).toNat))))))) rfl (og rfl (of_eff (s_field_el rfl Try.underlying40 rfl ti38 rfl rfl rfl) rfl)) ?_
            refine rg_put (d := 52) (v := .d (.sl 1 (List.map rS (((ix l ((dfind l key)).toNat)).proofs)))) rfl (og rfl (op_load_el rfl Try.underlying38 rfl rfl rfl rfl)) ?_
            refine rg_put (d := 53) (v := .d (.fl (.string id))) rfl (og rfl (op_move rfl rfl rfl)) ?_
            refine rg_put (d := 54) (v := .d (.fl (.bool ((am id (((ix l ((dfind l key)).toNat)).proofs)))))) rfl (og rfl (op_call rfl Try.func41 nm41 rfl (.cons rfl (.d _) (.cons rfl (.d _) .nil)) (among41 (((ix l ((dfind l key)).toNat)).proofs) id (by omega)) rfl)) ?_
            refine rg_done rfl ?_
            refine a_cond rfl (fun h14 => ?_) (fun h14 => ?_)
            · skip
              refine a_rseq ?_
              refine rg_put (d := 55) (v := .d (.sl 5 (List.map eDp l))) rfl (og rfl (op_move rfl rfl rfl)) ?_
              refine rg_put (d := 8) (v := .d (.sl 5 (List.map eDp l))) rfl (og rfl (op_assign rfl rfl rfl)) ?_
              refine rg_put (d := 9) (v := .d (.fl (.int .i64 9))) rfl (og rfl (op_assign rfl rfl rfl)) ?_
              refine rg_done rfl ?_
              refine a_ret ?_
              show ∃ ds, ResL _ _ _ ds ∧ RV.of ds = _
              refine ⟨[.sl 5 (List.map eDp l), .fl (.int .i64 9)], (.cons (.tmp rfl (.d _)) (.cons (.tmp rfl (.d _)) .nil)), ?_⟩
              have hcv : decide ((ix l (dfind l key).toNat).time + 2592000 < t) = false := decide_eq_false (by omega)
              have hitm : itm (ix l (dfind l key).toNat) t 2592000 = 0 := by
                unfold itm; simp only [h1, h3, h4, h5, h8, h11, h13, h14, hcv]; rfl
              have hu : prove l key id t = (l, 9) := by
                unfold prove; rw [hitm]; simp only [h1, h3, h4, h5, h8, h11, h13, h14]; rfl
              rw [hu]; rfl
            · skip
              refine a_skip ?_
              show A _ _ _ _ _ _ _
              refine a_seq ?_
              refine a_rseq ?_
              refine rg_put (d := 56) (v := .d (.sl 5 (List.map eDp l))) rfl (og rfl (op_move rfl rfl rfl)) ?_
              refine rg_put (d := 57) (v := .d (.fl (.int .i64 (dfind l key)))) rfl (og rfl (op_move rfl rfl rfl)) ?_
              refine rg_put (d := 58) (v := .el ((eDp ((ix l ((dfind l key)).toNat))))) rfl (og rfl (s_index rfl Try.underlying22 ti40 rfl rfl (by omega) (row_atI (by omega) (by omega)) rfl)) ?_
              refine rg_put (d := 59) (v := .el ((List.drop 4 ((eDp ((ix l ((dfind l key)).toNat))))))) rfl (og rfl (of_eff (s_field_el rfl Try.underlying40 rfl ti38 rfl rfl rfl) rfl)) ?_
              refine rg_put (d := 60) (v := .d (.sl 1 (List.map rS (((ix l ((dfind l key)).toNat)).proofs)))) rfl (og rfl (op_load_el rfl Try.underlying38 rfl rfl rfl rfl)) ?_
              refine rg_put (d := 61) (v := .d (.fl (.int .i64 (((((ix l ((dfind l key)).toNat)).proofs).length : Int))))) rfl (og rfl (s_len rfl Try.underlying38 rfl rfl)) ?_
              refine rg_put (d := 62) (v := .d (.fl (.bool ((decide (16 ≤ ((((ix l ((dfind l key)).toNat)).proofs).length : Int))))))) rfl (og rfl (op_bin rfl rfl rfl (b_geq _ _ _ _) rfl)) ?_
              refine rg_done rfl ?_
              refine a_cond rfl (fun h15 => ?_) (fun h15 => ?_)
              · skip
                have h16 := t_dec h15
                refine a_rseq ?_
                refine rg_put (d := 63) (v := .d (.sl 5 (List.map eDp l))) rfl (og rfl (op_move rfl rfl rfl)) ?_
                refine rg_put (d := 8) (v := .d (.sl 5 (List.map eDp l))) rfl (og rfl (op_assign rfl rfl rfl)) ?_
                refine rg_put (d := 9) (v := .d (.fl (.int .i64 3))) rfl (og rfl (op_assign rfl rfl rfl)) ?_
                refine rg_done rfl ?_
                refine a_ret ?_
                show ∃ ds, ResL _ _ _ ds ∧ RV.of ds = _
                refine ⟨[.sl 5 (List.map eDp l), .fl (.int .i64 3)], (.cons (.tmp rfl (.d _)) (.cons (.tmp rfl (.d _)) .nil)), ?_⟩
                have hcv : decide ((ix l (dfind l key).toNat).time + 2592000 < t) = false := decide_eq_false (by omega)
                have hitm : itm (ix l (dfind l key).toNat) t 2592000 = 0 := by
                  unfold itm; simp only [h1, h3, h4, h5, h8, h11, h13, h14, h15, hcv]; rfl
                have hu : prove l key id t = (l, 3) := by
                  unfold prove; rw [hitm]; simp only [h1, h3, h4, h5, h8, h11, h13, h14, h15]; rfl
                rw [hu]; rfl
              · skip
                have h17 := f_dec h15
                refine a_skip ?_
                show A _ _ _ _ _ _ _
                refine a_rseq ?_
                refine rg_put (d := 64) (v := .d (.sl 5 (List.map eDp l))) rfl (og rfl (op_move rfl rfl rfl)) ?_
                refine rg_nam (d := 65) (v := .ow 101) (m := 101) (nw := [(101, .tr 40 5 (l.map oDp))]) rfl (og rfl (of_eff (op_callO 101 rfl Try.func42 nm42 rfl (.cons rfl (.d _) .nil) (copied42 l (by omega) (fun q h => hb q h)) rfl) rfl)) rfl ?_
                refine rg_put (d := 12) (v := .ow 101) rfl (og rfl (op_assign rfl rfl rfl)) ?_
                refine rg_done rfl ?_
                refine a_rseq ?_
                refine rg_put (d := 66) (v := .ow 101) rfl (og rfl (op_move rfl rfl rfl)) ?_
                refine rg_put (d := 67) (v := .d (.fl (.int .i64 (dfind l key)))) rfl (og rfl (op_move rfl rfl rfl)) ?_
                refine rg_put (d := 68) (v := .ow 101) rfl (og rfl (op_move rfl rfl rfl)) ?_
                refine rg_put (d := 69) (v := .d (.fl (.int .i64 (dfind l key)))) rfl (og rfl (op_move rfl rfl rfl)) ?_
                refine rg_put (d := 70) (v := .pe 101 5 (((dfind l key)).toNat) 0) rfl (og rfl (op_index_trI rfl Try.underlying22 ti40 rfl rfl rfl (by omega) (get_lt (map_at (by omega))) rfl)) ?_
                refine rg_put (d := 71) (v := .pe 101 5 (((dfind l key)).toNat) 4) rfl (og rfl (of_eff (op_field_pe rfl Try.underlying40 rfl ti38 rfl rfl rfl) rfl)) ?_
                refine rg_nam (d := 72) (v := .ow 102) (m := 102) (nw := [(102, .tr 9 1 (tD rS ((ix l (((dfind l key)).toNat)).proofs))), (101, .tr 40 5 (((l.map oDp).set (((dfind l key)).toNat) [.dv (.fl (.string ((ix l (((dfind l key)).toNat)).key))), .dv (.fl (.int .i64 ((ix l (((dfind l key)).toNat)).time))), .dv (.fl (.int .i64 ((ix l (((dfind l key)).toNat)).cents))), .dv (.fl (.int .i64 ((ix l (((dfind l key)).toNat)).state))), .un])))]) rfl (og rfl (of_eff (op_take 102 rfl Try.underlying38 rfl rfl rfl (map_at (by omega)) rfl rfl rfl) rfl)) rfl ?_
                refine rg_put (d := 73) (v := .d (.fl (.string id))) rfl (og rfl (op_move rfl rfl rfl)) ?_
                refine rg_put (d := 74) (v := .d (.sl 1 (List.map rS [id]))) rfl (og rfl (of_eff (op_slices rfl Try.underlying38 ti9 rfl rfl rfl (by kernel_rfl) (xs := [.fl (.string id)]) rfl rfl (.cons rfl rfl (.d _) rfl rfl rfl .nil) rfl) rfl)) ?_
                refine rg_nam (d := 75) (v := .ow 103) (m := 103) (nw := [(103, .tr 9 1 (tD rS (((ix l (((dfind l key)).toNat)).proofs ++ [id])))), (102, .no)]) rfl (og rfl (of_eff (s_append_td 103 rfl Try.underlying38 ti9 rfl rfl rfl rfl rfl (.d _) (by simp only [List.length_cons, List.length_nil]; omega) rfl) rfl)) rfl ?_
                refine rg_put (d := 76) (v := .pe 101 5 (((dfind l key)).toNat) 0) rfl (og rfl (op_index_trI rfl Try.underlying22 ti40 rfl rfl rfl (by omega) (get_lt (set_get (map_at (by omega)))) rfl)) ?_
                refine rg_put (d := 77) (v := .pe 101 5 (((dfind l key)).toNat) 4) rfl (og rfl (of_eff (op_field_pe rfl Try.underlying40 rfl ti38 rfl rfl rfl) rfl)) ?_
                refine rg_sto (nw := [(101, .tr 40 5 ((((((l.map oDp).set (((dfind l key)).toNat) [.dv (.fl (.string ((ix l (((dfind l key)).toNat)).key))), .dv (.fl (.int .i64 ((ix l (((dfind l key)).toNat)).time))), .dv (.fl (.int .i64 ((ix l (((dfind l key)).toNat)).cents))), .dv (.fl (.int .i64 ((ix l (((dfind l key)).toNat)).state))), .un]))).set (((dfind l key)).toNat) [.dv (.fl (.string ((ix l (((dfind l key)).toNat)).key))), .dv (.fl (.int .i64 ((ix l (((dfind l key)).toNat)).time))), .dv (.fl (.int .i64 ((ix l (((dfind l key)).toNat)).cents))), .dv (.fl (.int .i64 ((ix l (((dfind l key)).toNat)).state))), .ow 9 1 (List.map rS (((ix l (((dfind l key)).toNat)).proofs ++ [id])))]))), (103, .no)]) rfl (og rfl (of_eff (op_store_pe rfl rfl ti38 rfl rfl (set_get (map_at (by omega))) rfl (.tr rfl) rfl rfl rfl) rfl)) ?_
                refine rg_done rfl ?_
                refine a_rseq ?_
                refine rg_imp (imp_leakE 12 101 (rows' := List.map eDp (l.set (dfind l key).toNat (addP (ix l (dfind l key).toNat) id))) rfl rfl (set2_ok (y := (addP (ix l (dfind l key).toNat) id))) (set2_rd (y := (addP (ix l (dfind l key).toNat) id)))) ?_
                refine rg_put (d := 78) (v := .d (.sl 5 (List.map eDp ((l.set (dfind l key).toNat (addP (ix l (dfind l key).toNat) id)))))) rfl (og rfl (op_move rfl rfl rfl)) ?_
                refine rg_put (d := 8) (v := .d (.sl 5 (List.map eDp ((l.set (dfind l key).toNat (addP (ix l (dfind l key).toNat) id)))))) rfl (og rfl (op_assign rfl rfl rfl)) ?_
                refine rg_put (d := 9) (v := .d (.fl (.int .i64 0))) rfl (og rfl (op_assign rfl rfl rfl)) ?_
                refine rg_done rfl ?_
                refine a_ret ?_
                show ∃ ds, ResL _ _ _ ds ∧ RV.of ds = _
                refine ⟨[.sl 5 (List.map eDp ((l.set (dfind l key).toNat (addP (ix l (dfind l key).toNat) id)))), .fl (.int .i64 0)], (.cons (.tmp rfl (.d _)) (.cons (.tmp rfl (.d _)) .nil)), ?_⟩
                have hcv : decide ((ix l (dfind l key).toNat).time + 2592000 < t) = false := decide_eq_false (by omega)
                have hitm : itm (ix l (dfind l key).toNat) t 2592000 = 0 := by
                  unfold itm; simp only [h1, h3, h4, h5, h8, h11, h13, h14, h15, hcv]; rfl
                have hu : prove l key id t = ((l.set (dfind l key).toNat (addP (ix l (dfind l key).toNat) id)), 0) := by
                  unfold prove; rw [hitm]; simp only [h1, h3, h4, h5, h8, h11, h13, h14, h15]; rfl
                rw [hu]; rfl
    · skip
      have h18 := t_not h3
      refine rg_put (d := 27) (v := .d (.fl undef)) rfl (on rfl rfl rfl h3) ?_
      refine rg_put (d := 28) (v := .d (.fl undef)) rfl (on rfl rfl rfl h3) ?_
      refine rg_put (d := 29) (v := .d (.fl undef)) rfl (on rfl rfl rfl h3) ?_
      refine rg_put (d := 30) (v := .d (.fl undef)) rfl (on rfl rfl rfl h3) ?_
      refine rg_put (d := 31) (v := .d (.fl undef)) rfl (on rfl rfl rfl h3) ?_
      refine rg_put (d := 32) (v := .d (.fl undef)) rfl (on rfl rfl rfl h3) ?_
      refine rg_put (d := 33) (v := .d (.fl undef)) rfl (on rfl rfl rfl h3) ?_
      refine rg_put (d := 34) (v := .d (.fl (.bool true))) rfl (og rfl (op_pick rfl rfl (by rw [h3]; rfl) rfl)) ?_
      refine rg_done rfl ?_
      refine a_condK rfl rfl ?_
      refine a_rseq ?_
      refine rg_put (d := 35) (v := .d (.sl 5 (List.map eDp l))) rfl (og rfl (op_move rfl rfl rfl)) ?_
      refine rg_put (d := 8) (v := .d (.sl 5 (List.map eDp l))) rfl (og rfl (op_assign rfl rfl rfl)) ?_
      refine rg_put (d := 9) (v := .d (.fl (.int .i64 12))) rfl (og rfl (op_assign rfl rfl rfl)) ?_
      refine rg_done rfl ?_
      refine a_ret ?_
      show ∃ ds, ResL _ _ _ ds ∧ RV.of ds = _
      refine ⟨[.sl 5 (List.map eDp l), .fl (.int .i64 12)], (.cons (.tmp rfl (.d _)) (.cons (.tmp rfl (.d _)) .nil)), ?_⟩
      have hitm : itm (ix l (dfind l key).toNat) t 2592000 = 12 := by
        unfold itm; simp only [h1, h3, h18]; rfl
      have hu : prove l key id t = (l, 12) := by
        unfold prove; rw [hitm]; simp only [h1, h3, h18]; rfl
      rw [hu]; rfl
  · skip
    have h19 := t_bne h1
    refine rg_put (d := 16) (v := .tu [.fl (.int .i64 (opened l key)), .fl (.int .i64 (fcode l key))]) rfl (og rfl (op_call rfl Try.func43 nm43 rfl (.cons rfl (.d _) (.cons rfl (.d _) .nil)) (opened43 l key (by omega)) rfl)) ?_
    refine rg_put (d := 13) (v := .tu [.fl (.int .i64 (opened l key)), .fl (.int .i64 (fcode l key))]) rfl (og rfl (op_move rfl rfl rfl)) ?_
    refine rg_put (d := 17) (v := .d (.fl (.int .i64 (opened l key)))) rfl (og rfl (op_extract rfl rfl rfl rfl)) ?_
    refine rg_put (d := 18) (v := .d (.fl (.int .i64 (fcode l key)))) rfl (og rfl (op_extract rfl rfl rfl rfl)) ?_
    refine rg_put (d := 10) (v := .d (.fl (.int .i64 (opened l key)))) rfl (og rfl (op_assign rfl rfl rfl)) ?_
    refine rg_put (d := 11) (v := .d (.fl (.int .i64 (fcode l key)))) rfl (og rfl (op_assign rfl rfl rfl)) ?_
    refine rg_done rfl ?_
    refine a_seq ?_
    refine a_rseq ?_
    refine rg_put (d := 19) (v := .d (.fl (.int .i64 (fcode l key)))) rfl (og rfl (op_move rfl rfl rfl)) ?_
    refine rg_put (d := 20) (v := .d (.fl (.bool (((fcode l key) != 0))))) rfl (og rfl (op_bin rfl rfl rfl (b_neq _ _ _ _) rfl)) ?_
    refine rg_done rfl ?_
    refine a_condK rfl h1 ?_
    refine a_rseq ?_
    refine rg_put (d := 21) (v := .d (.sl 5 (List.map eDp l))) rfl (og rfl (op_move rfl rfl rfl)) ?_
    refine rg_put (d := 22) (v := .d (.fl (.int .i64 (fcode l key)))) rfl (og rfl (op_move rfl rfl rfl)) ?_
    refine rg_put (d := 8) (v := .d (.sl 5 (List.map eDp l))) rfl (og rfl (op_assign rfl rfl rfl)) ?_
    refine rg_put (d := 9) (v := .d (.fl (.int .i64 (fcode l key)))) rfl (og rfl (op_assign rfl rfl rfl)) ?_
    refine rg_done rfl ?_
    refine a_ret ?_
    show ∃ ds, ResL _ _ _ ds ∧ RV.of ds = _
    refine ⟨[.sl 5 (List.map eDp l), .fl (.int .i64 (fcode l key))], (.cons (.tmp rfl (.d _)) (.cons (.tmp rfl (.d _)) .nil)), ?_⟩
    have hu : prove l key id t = (l, (fcode l key)) := by
      unfold prove; simp only [h1]; rfl
    rw [hu]; rfl
end Go.Proofs.Ytocjbombpggmeaa.Wk
