/- Openings and decisions. Condition: lists of at most two thousand. -/
import Derived.Test.YtocjbombpggmeaaB7
set_option linter.unusedSimpArgs false
set_option linter.unusedVariables false
namespace Go.Proofs.Ytocjbombpggmeaa.Wk
open Go Go.RowKit Go.Proofs.Ytocjbombpggmeaa.Av
def opn (l : List Dp) (key : ByteArray) (cents t : Int) : List Dp × Int :=
  if (!isR key) = true then (l, 5) else if (!isC cents) = true then (l, 13) else if (!isT t) = true then (l, 12) else if decide (0 ≤ dfind l key) = true then (l, 9) else if decide ((1024 : Int) ≤ (l.length : Int)) = true then (l, 3) else
  (l ++ [Dp.mk key t cents 1 []], 0)
theorem app_ok {l : List Dp} {y : Dp} : ∀ r ∈ l.map oDp ++ tD eDp [y], ∀ c ∈ r, c.ok = true := by
  intro r hr
  rcases List.mem_append.1 hr with h | h
  · obtain ⟨x, _, rfl⟩ := List.mem_map.1 h
    exact oDp_ok x
  · simp [tD] at h
    rw [h]; intro c hc
    obtain ⟨x, _, rfl⟩ := List.mem_map.1 hc
    rfl
theorem app_rd {l : List Dp} {y : Dp} : (l.map oDp ++ tD eDp [y]).map (·.map OC.rd) = List.map eDp (l ++ [y]) := by
  rw [List.map_append, List.map_append, List.map_map]
  congr 1
theorem ix_set {l : List Dp} {i : Nat} {y : Dp} (h : i < l.length) : ix (l.set i y) i = y := by
  unfold ix; simp [List.getD, h]
def decid (l : List Dp) (key : ByteArray) (acc : Bool) (t : Int) : (List Dp × Int) × Int :=
  if (fcode l key != 0) = true then ((l, 0), fcode l key) else if (itm (ix l (dfind l key).toNat) t 5184000 != 0) = true then ((l, 0), itm (ix l (dfind l key).toNat) t 5184000) else
  if (!acc) = true then ((l.set (dfind l key).toNat (setS (ix l (dfind l key).toNat) 3), 0), 0) else ((l.set (dfind l key).toNat (setS (ix l (dfind l key).toNat) 2), (ix l (dfind l key).toNat).cents), 0)
def opened (l : List Dp) (key : ByteArray) : Int := if (fcode l key != 0) = true then 0 else dfind l key

set_option maxHeartbeats 4000000 in
set_option maxRecDepth 100000 in
theorem open15 (l : List Dp) (key : ByteArray) (cents t : Int) (hl : l.length ≤ 2000) (hb : ∀ q, q < l.length → (ix l q).proofs.length ≤ 2000) (hw : ∀ q, q < l.length → -9223372036854775808 ≤ (ix l q).time) : Ctr Try.prog 15 [.sl 5 (List.map eDp l), .fl (.string key), .fl (.int .i64 cents), .fl (.int .i64 t)] (.tu [.sl 5 (List.map eDp (opn l key cents t).1), .fl (.int .i64 (opn l key cents t).2)]) := by
  refine ctr (n := 44) (rs := #[.tmp 8, .tmp 9]) (L := [(0, .d (.sl 5 (List.map eDp l))), (1, .d (.fl (.string key))), (2, .d (.fl (.int .i64 cents))), (3, .d (.fl (.int .i64 t)))]) Try.func15 rfl rfl rfl rfl rfl (fun w0 U0 => ?_)
  refine a_rseq ?_
  refine rg_nam (d := 5) (v := .pt 101 0) (m := 101) (nw := [(101, .bx 9 [.fl (.string key)])]) rfl (og rfl (of_eff (op_box 101 rfl rfl rfl rfl) rfl)) rfl ?_
  refine rg_put (d := 8) (v := .d (.fl (.slice none 0 0))) rfl (og rfl (op_assign rfl rfl rfl)) ?_
  refine rg_put (d := 9) (v := .d (.fl (.int .i64 0))) rfl (og rfl (op_assign rfl rfl rfl)) ?_
  refine rg_done rfl ?_
  refine a_seq ?_
  refine a_block ?_
  refine a_rseq ?_
  refine rg_put (d := 11) (v := .d (.fl (.string key))) rfl (og rfl (op_load_pt rfl Try.underlying9 rfl rfl rfl rfl rfl)) ?_
  refine rg_put (d := 12) (v := .d (.fl (.bool (isR key)))) rfl (og rfl (op_call rfl Try.func19 nm19 rfl (.cons rfl (.d _) .nil) (isR19 key) rfl)) ?_
  refine rg_put (d := 13) (v := .d (.fl (.bool ((!(isR key)))))) rfl (og rfl (op_un rfl rfl (u_not _) rfl)) ?_
  refine rg_put (d := 10) (v := .d (.fl (.bool ((!(isR key)))))) rfl (og rfl (op_assign rfl rfl rfl)) ?_
  refine rg_done rfl ?_
  refine a_cond rfl (fun h1 => ?_) (fun h1 => ?_)
  · skip
    have h2 := t_not h1
    refine a_rseq ?_
    refine rg_put (d := 14) (v := .d (.sl 5 (List.map eDp l))) rfl (og rfl (op_move rfl rfl rfl)) ?_
    refine rg_put (d := 8) (v := .d (.sl 5 (List.map eDp l))) rfl (og rfl (op_assign rfl rfl rfl)) ?_
    refine rg_put (d := 9) (v := .d (.fl (.int .i64 5))) rfl (og rfl (op_assign rfl rfl rfl)) ?_
    refine rg_done rfl ?_
    refine a_ret ?_
    show ∃ ds, ResL _ _ _ ds ∧ RV.of ds = _
    refine ⟨[.sl 5 (List.map eDp l), .fl (.int .i64 5)], (.cons (.tmp rfl (.d _)) (.cons (.tmp rfl (.d _)) .nil)), ?_⟩
    have hu : opn l key cents t = (l, 5) := by
      unfold opn; simp only [h1, h2]; rfl
    rw [hu]; rfl
  · skip
    have h3 := f_not h1
    refine a_rseq ?_
    refine rg_put (d := 16) (v := .d (.fl (.int .i64 cents))) rfl (og rfl (op_move rfl rfl rfl)) ?_
    refine rg_put (d := 17) (v := .d (.fl (.bool (isC cents)))) rfl (og rfl (op_call rfl Try.func21 nm21 rfl (.cons rfl (.d _) .nil) (isC21 cents) rfl)) ?_
    refine rg_put (d := 18) (v := .d (.fl (.bool ((!(isC cents)))))) rfl (og rfl (op_un rfl rfl (u_not _) rfl)) ?_
    refine rg_put (d := 15) (v := .d (.fl (.bool ((!(isC cents)))))) rfl (og rfl (op_assign rfl rfl rfl)) ?_
    refine rg_done rfl ?_
    refine a_cond rfl (fun h4 => ?_) (fun h4 => ?_)
    · skip
      have h5 := t_not h4
      refine a_rseq ?_
      refine rg_put (d := 19) (v := .d (.sl 5 (List.map eDp l))) rfl (og rfl (op_move rfl rfl rfl)) ?_
      refine rg_put (d := 8) (v := .d (.sl 5 (List.map eDp l))) rfl (og rfl (op_assign rfl rfl rfl)) ?_
      refine rg_put (d := 9) (v := .d (.fl (.int .i64 13))) rfl (og rfl (op_assign rfl rfl rfl)) ?_
      refine rg_done rfl ?_
      refine a_ret ?_
      show ∃ ds, ResL _ _ _ ds ∧ RV.of ds = _
      refine ⟨[.sl 5 (List.map eDp l), .fl (.int .i64 13)], (.cons (.tmp rfl (.d _)) (.cons (.tmp rfl (.d _)) .nil)), ?_⟩
      have hu : opn l key cents t = (l, 13) := by
        unfold opn; simp only [h1, h3, h4, h5]; rfl
      rw [hu]; rfl
    · skip
      have h6 := f_not h4
      refine a_rseq ?_
      refine rg_put (d := 21) (v := .d (.fl (.int .i64 t))) rfl (og rfl (op_move rfl rfl rfl)) ?_
      refine rg_put (d := 22) (v := .d (.fl (.bool (isT t)))) rfl (og rfl (op_call rfl Try.func20 nm20 rfl (.cons rfl (.d _) .nil) (isTime20 t) rfl)) ?_
      refine rg_put (d := 23) (v := .d (.fl (.bool ((!(isT t)))))) rfl (og rfl (op_un rfl rfl (u_not _) rfl)) ?_
      refine rg_put (d := 20) (v := .d (.fl (.bool ((!(isT t)))))) rfl (og rfl (op_assign rfl rfl rfl)) ?_
      refine rg_done rfl ?_
      refine a_cond rfl (fun h7 => ?_) (fun h7 => ?_)
      · skip
        have h8 := t_not h7
        refine a_rseq ?_
        refine rg_put (d := 24) (v := .d (.sl 5 (List.map eDp l))) rfl (og rfl (op_move rfl rfl rfl)) ?_
        refine rg_put (d := 8) (v := .d (.sl 5 (List.map eDp l))) rfl (og rfl (op_assign rfl rfl rfl)) ?_
        refine rg_put (d := 9) (v := .d (.fl (.int .i64 12))) rfl (og rfl (op_assign rfl rfl rfl)) ?_
        refine rg_done rfl ?_
        refine a_ret ?_
        show ∃ ds, ResL _ _ _ ds ∧ RV.of ds = _
        refine ⟨[.sl 5 (List.map eDp l), .fl (.int .i64 12)], (.cons (.tmp rfl (.d _)) (.cons (.tmp rfl (.d _)) .nil)), ?_⟩
        have hu : opn l key cents t = (l, 12) := by
          unfold opn; simp only [h1, h3, h4, h6, h7, h8]; rfl
        rw [hu]; rfl
      · skip
        have h9 := f_not h7
        refine a_rseq ?_
        refine rg_imp (imp_freeze 5 101 rfl rfl) ?_
        refine rg_put (d := 26) (v := .d (.sl 5 (List.map eDp l))) rfl (og rfl (op_move rfl rfl rfl)) ?_
        refine rg_put (d := 27) (v := .d (.fn 33 [.el [.fl (.string key)]])) rfl (og rfl (op_mkfn rfl (.cons rfl .nil) rfl)) ?_
        refine rg_put (d := 28) (v := .d (.fl (.int .i64 (dfind l key)))) rfl (og rfl (op_call rfl Try.func32 nm32 rfl (.cons rfl (.d _) (.cons rfl (.d _) .nil)) (d_index33 l key (by omega)) rfl)) ?_
        refine rg_put (d := 29) (v := .d (.fl (.bool ((decide (0 ≤ (dfind l key))))))) rfl (og rfl (op_bin rfl rfl rfl (b_geq _ _ _ _) rfl)) ?_
        refine rg_put (d := 25) (v := .d (.fl (.bool ((decide (0 ≤ (dfind l key))))))) rfl (og rfl (op_assign rfl rfl rfl)) ?_
        refine rg_done rfl ?_
        refine a_cond rfl (fun h10 => ?_) (fun h10 => ?_)
        · skip
          have h11 := t_dec h10
          refine a_rseq ?_
          refine rg_put (d := 30) (v := .d (.sl 5 (List.map eDp l))) rfl (og rfl (op_move rfl rfl rfl)) ?_
          refine rg_put (d := 8) (v := .d (.sl 5 (List.map eDp l))) rfl (og rfl (op_assign rfl rfl rfl)) ?_
          refine rg_put (d := 9) (v := .d (.fl (.int .i64 9))) rfl (og rfl (op_assign rfl rfl rfl)) ?_
          refine rg_done rfl ?_
          refine a_ret ?_
          show ∃ ds, ResL _ _ _ ds ∧ RV.of ds = _
          refine ⟨[.sl 5 (List.map eDp l), .fl (.int .i64 9)], (.cons (.tmp rfl (.d _)) (.cons (.tmp rfl (.d _)) .nil)), ?_⟩
          have hu : opn l key cents t = (l, 9) := by
            unfold opn; simp only [h1, h3, h4, h6, h7, h9, h10]; rfl
          rw [hu]; rfl
        · skip
          have h12 := f_dec h10
          refine a_rseq ?_
          refine rg_put (d := 32) (v := .d (.sl 5 (List.map eDp l))) rfl (og rfl (op_move rfl rfl rfl)) ?_
          refine rg_put (d := 33) (v := .d (.fl (.int .i64 (l.length : Int)))) rfl (og rfl (s_len rfl Try.underlying22 rfl rfl)) ?_
          refine rg_put (d := 34) (v := .d (.fl (.bool ((decide (1024 ≤ (l.length : Int))))))) rfl (og rfl (op_bin rfl rfl rfl (b_geq _ _ _ _) rfl)) ?_
          refine rg_put (d := 31) (v := .d (.fl (.bool ((decide (1024 ≤ (l.length : Int))))))) rfl (og rfl (op_assign rfl rfl rfl)) ?_
          refine rg_done rfl ?_
          refine a_cond rfl (fun h13 => ?_) (fun h13 => ?_)
          · skip
            have h14 := t_dec h13
            refine a_rseq ?_
            refine rg_put (d := 35) (v := .d (.sl 5 (List.map eDp l))) rfl (og rfl (op_move rfl rfl rfl)) ?_
            refine rg_put (d := 8) (v := .d (.sl 5 (List.map eDp l))) rfl (og rfl (op_assign rfl rfl rfl)) ?_
            refine rg_put (d := 9) (v := .d (.fl (.int .i64 3))) rfl (og rfl (op_assign rfl rfl rfl)) ?_
            refine rg_done rfl ?_
            refine a_ret ?_
            show ∃ ds, ResL _ _ _ ds ∧ RV.of ds = _
            refine ⟨[.sl 5 (List.map eDp l), .fl (.int .i64 3)], (.cons (.tmp rfl (.d _)) (.cons (.tmp rfl (.d _)) .nil)), ?_⟩
            have hu : opn l key cents t = (l, 3) := by
              unfold opn; simp only [h1, h3, h4, h6, h7, h9, h10, h13]; rfl
            rw [hu]; rfl
          · skip
            have h15 := f_dec h13
            refine a_skip ?_
            show A _ _ _ _ _ _ _
            refine a_dseq (by kernel_rfl) ?_
            refine dr_put (d := 36) (v := .d (.sl 5 (List.map eDp l))) rfl (og rfl (op_move rfl rfl rfl)) ?_
            refine dr_nam (d := 37) (v := .ow 102) (m := 102) (nw := [(102, .tr 40 5 (l.map oDp))]) rfl (og rfl (of_eff (op_callO 102 rfl Try.func34 nm34 rfl (.cons rfl (.d _) .nil) (fresh_dp l (by omega) (fun q h => hb q h)) rfl) rfl)) ?_
            refine dr_put (d := 38) (v := .d (.fl (.string key))) rfl (og rfl (op_load_el rfl Try.underlying9 rfl rfl rfl rfl)) ?_
            refine dr_put (d := 39) (v := .d (.fl (.int .i64 t))) rfl (og rfl (op_move rfl rfl rfl)) ?_
            refine dr_put (d := 40) (v := .d (.fl (.int .i64 cents))) rfl (og rfl (op_move rfl rfl rfl)) ?_
            refine dr_put (d := 41) (v := .d (.ag [.fl (.string key), .fl (.int .i64 t), .fl (.int .i64 cents), .fl (.int .i64 1), .fl (.slice none 0 0)])) rfl (og rfl (of_eff (op_build rfl Try.underlying40 ti40 rfl (by kernel_rfl) (by kernel_rfl) (pl := #[(0, 1), (1, 1), (2, 1), (3, 1), (4, 1)]) (by kernel_rfl) (.cons rfl rfl (.d _) rfl rfl rfl (.cons rfl rfl (.d _) rfl rfl rfl (.cons rfl rfl (.d _) rfl rfl rfl (.cons rfl rfl (.d _) rfl rfl rfl .nil)))) rfl) rfl)) ?_
            refine dr_put (d := 42) (v := .d (.sl 5 (List.map eDp ([(Dp.mk key t cents 1 [])])))) rfl (og rfl (of_eff (op_slices rfl Try.underlying22 ti40 rfl rfl rfl (by kernel_rfl) (xs := [.ag [.fl (.string key), .fl (.int .i64 t), .fl (.int .i64 cents), .fl (.int .i64 1), .sl 1 (List.map rS [])]]) rfl rfl (.cons rfl rfl (.cv (Cv.ag (xs := [.fl (.string key), .fl (.int .i64 t), .fl (.int .i64 cents), .fl (.int .i64 1), .fl (.slice none 0 0)]) (ys := [.fl (.string key), .fl (.int .i64 t), .fl (.int .i64 cents), .fl (.int .i64 1), .sl 1 (List.map rS [])]) ⟨Cv.refl _, Cv.refl _, Cv.refl _, Cv.refl _, Cv.nil _, trivial⟩)) rfl rfl rfl .nil) rfl) rfl)) ?_
            refine dr_nam (d := 43) (v := .ow 103) (m := 103) (nw := [(103, .tr 40 5 (((l.map oDp) ++ tD eDp ([(Dp.mk key t cents 1 [])])))), (102, .no)]) rfl (og rfl (of_eff (op_append_tr 103 rfl Try.underlying22 ti40 rfl rfl rfl rfl rfl (RowsS.d (.d _)) rfl (n := l.length) (n' := ([(Dp.mk key t cents 1 [])]).length) (by simp) (by simp) (by simp only [List.length_cons, List.length_nil]; omega) rfl) rfl)) ?_
            refine dr_put (d := 8) (v := .ow 103) rfl (og rfl (op_assign rfl rfl rfl)) ?_
            refine dr_put (d := 9) (v := .d (.fl (.int .i64 0))) rfl (og rfl (op_assign rfl rfl rfl)) ?_
            refine dr_done rfl (by kernel_rfl) (by kernel_rfl) ?_
            refine a_imp (imp_leakE 8 103 (rows' := List.map eDp (l ++ [(Dp.mk key t cents 1 [])])) rfl rfl (app_ok (y := (Dp.mk key t cents 1 []))) (app_rd (y := (Dp.mk key t cents 1 [])))) ?_
            refine a_ret ?_
            show ∃ ds, ResL _ _ _ ds ∧ RV.of ds = _
            refine ⟨[.sl 5 (List.map eDp ((l ++ [(Dp.mk key t cents 1 [])]))), .fl (.int .i64 0)], (.cons (.tmp rfl (.d _)) (.cons (.tmp rfl (.d _)) .nil)), ?_⟩
            have hu : opn l key cents t = ((l ++ [(Dp.mk key t cents 1 [])]), 0) := by
              unfold opn; simp only [h1, h3, h4, h6, h7, h9, h10, h13]; rfl
            rw [hu]; rfl
set_option maxHeartbeats 4000000 in
set_option maxRecDepth 100000 in
theorem decide17 (l : List Dp) (key : ByteArray) (acc : Bool) (t : Int) (hl : l.length ≤ 2000) (hb : ∀ q, q < l.length → (ix l q).proofs.length ≤ 2000) (hw : ∀ q, q < l.length → -9223372036854775808 ≤ (ix l q).time) : Ctr Try.prog 17 [.sl 5 (List.map eDp l), .fl (.string key), .fl (.bool acc), .fl (.int .i64 t)] (.tu [.sl 5 (List.map eDp (decid l key acc t).1.1), .fl (.int .i64 (decid l key acc t).1.2), .fl (.int .i64 (decid l key acc t).2)]) := by
  refine ctr (n := 54) (rs := #[.tmp 8, .tmp 9, .tmp 10]) (L := [(0, .d (.sl 5 (List.map eDp l))), (1, .d (.fl (.string key))), (2, .d (.fl (.bool acc))), (3, .d (.fl (.int .i64 t)))]) Try.func17 rfl rfl rfl rfl rfl (fun w0 U0 => ?_)
  refine a_rseq ?_
  refine rg_put (d := 8) (v := .d (.fl (.slice none 0 0))) rfl (og rfl (op_assign rfl rfl rfl)) ?_
  refine rg_put (d := 9) (v := .d (.fl (.int .i64 0))) rfl (og rfl (op_assign rfl rfl rfl)) ?_
  refine rg_put (d := 10) (v := .d (.fl (.int .i64 0))) rfl (og rfl (op_assign rfl rfl rfl)) ?_
  refine rg_done rfl ?_
  refine a_rseq ?_
  refine rg_put (d := 16) (v := .d (.sl 5 (List.map eDp l))) rfl (og rfl (op_move rfl rfl rfl)) ?_
  refine rg_put (d := 17) (v := .d (.fl (.string key))) rfl (og rfl (op_move rfl rfl rfl)) ?_
  refine rg_put (d := 18) (v := .tu [.fl (.int .i64 (dfind l key)), .fl (.int .i64 (fcode l key))]) rfl (og rfl (op_call rfl Try.func35 nm35 rfl (.cons rfl (.d _) (.cons rfl (.d _) .nil)) (find35 l key (by omega)) rfl)) ?_
  refine rg_put (d := 15) (v := .tu [.fl (.int .i64 (dfind l key)), .fl (.int .i64 (fcode l key))]) rfl (og rfl (op_move rfl rfl rfl)) ?_
  refine rg_put (d := 19) (v := .d (.fl (.int .i64 (dfind l key)))) rfl (og rfl (op_extract rfl rfl rfl rfl)) ?_
  refine rg_put (d := 20) (v := .d (.fl (.int .i64 (fcode l key)))) rfl (og rfl (op_extract rfl rfl rfl rfl)) ?_
  refine rg_put (d := 11) (v := .d (.fl (.int .i64 (dfind l key)))) rfl (og rfl (op_assign rfl rfl rfl)) ?_
  refine rg_put (d := 12) (v := .d (.fl (.int .i64 (fcode l key)))) rfl (og rfl (op_assign rfl rfl rfl)) ?_
  refine rg_done rfl ?_
  refine a_seq ?_
  refine a_rseq ?_
  refine rg_put (d := 21) (v := .d (.fl (.int .i64 (fcode l key)))) rfl (og rfl (op_move rfl rfl rfl)) ?_
  refine rg_put (d := 22) (v := .d (.fl (.bool (((fcode l key) != 0))))) rfl (og rfl (op_bin rfl rfl rfl (b_neq _ _ _ _) rfl)) ?_
  refine rg_done rfl ?_
  refine a_cond rfl (fun h1 => ?_) (fun h1 => ?_)
  · skip
    have h2 := t_bne h1
    refine a_rseq ?_
    refine rg_put (d := 23) (v := .d (.sl 5 (List.map eDp l))) rfl (og rfl (op_move rfl rfl rfl)) ?_
    refine rg_put (d := 24) (v := .d (.fl (.int .i64 (fcode l key)))) rfl (og rfl (op_move rfl rfl rfl)) ?_
    refine rg_put (d := 8) (v := .d (.sl 5 (List.map eDp l))) rfl (og rfl (op_assign rfl rfl rfl)) ?_
    refine rg_put (d := 9) (v := .d (.fl (.int .i64 0))) rfl (og rfl (op_assign rfl rfl rfl)) ?_
    refine rg_put (d := 10) (v := .d (.fl (.int .i64 (fcode l key)))) rfl (og rfl (op_assign rfl rfl rfl)) ?_
    refine rg_done rfl ?_
    refine a_ret ?_
    show ∃ ds, ResL _ _ _ ds ∧ RV.of ds = _
    refine ⟨[.sl 5 (List.map eDp l), .fl (.int .i64 0), .fl (.int .i64 (fcode l key))], (.cons (.tmp rfl (.d _)) (.cons (.tmp rfl (.d _)) (.cons (.tmp rfl (.d _)) .nil))), ?_⟩
    have hu : decid l key acc t = ((l, 0), (fcode l key)) := by
      unfold decid; simp only [h1]; rfl
    rw [hu]; rfl
  · skip
    have h3 := f_bne h1
    refine a_skip ?_
    show A _ _ _ _ _ _ _
    refine a_seq ?_
    refine a_rseq ?_
    obtain ⟨hi0, hst⟩ := fcode_ok (f_bne h1)
    have hi := dfind_lt l key
    have hbi := hb (dfind l key).toNat (by omega)
    have hwi := hw (dfind l key).toNat (by omega)
    refine rg_put (d := 25) (v := .d (.sl 5 (List.map eDp l))) rfl (og rfl (op_move rfl rfl rfl)) ?_
    refine rg_put (d := 26) (v := .d (.fl (.int .i64 (dfind l key)))) rfl (og rfl (op_move rfl rfl rfl)) ?_
    refine rg_put (d := 27) (v := .el ((eDp ((ix l ((dfind l key)).toNat))))) rfl (og rfl (s_index rfl Try.underlying22 ti40 rfl rfl (by omega) (row_atI (by omega) (by omega)) rfl)) ?_
    refine rg_put (d := 28) (v := .d (.ag (eDp (((ix l ((dfind l key)).toNat)))))) rfl (og rfl (of_eff (s_load_els rfl Try.underlying40 rfl ti40 rfl rfl rfl) rfl)) ?_
    refine rg_put (d := 29) (v := .d (.fl (.int .i64 t))) rfl (og rfl (op_move rfl rfl rfl)) ?_
    refine rg_put (d := 30) (v := .d (.fl (.int .i64 ((itm (((ix l ((dfind l key)).toNat))) t 5184000))))) rfl (og rfl (op_call rfl Try.func36 nm36 rfl (.cons rfl (.d _) (.cons rfl (.d _) (.cons rfl (.d _) .nil))) (inTime36 (((ix l ((dfind l key)).toNat))) t 5184000 (by omega) (by omega) hwi) rfl)) ?_
    refine rg_put (d := 13) (v := .d (.fl (.int .i64 ((itm (((ix l ((dfind l key)).toNat))) t 5184000))))) rfl (og rfl (op_assign rfl rfl rfl)) ?_
    refine rg_done rfl ?_
    refine a_rseq ?_
    refine rg_put (d := 31) (v := .d (.fl (.int .i64 ((itm (((ix l ((dfind l key)).toNat))) t 5184000))))) rfl (og rfl (op_move rfl rfl rfl)) ?_
    refine rg_put (d := 32) (v := .d (.fl (.bool (((itm (((ix l ((dfind l key)).toNat))) t 5184000) != 0))))) rfl (og rfl (op_bin rfl rfl rfl (b_neq _ _ _ _) rfl)) ?_
    refine rg_done rfl ?_
    refine a_cond rfl (fun h4 => ?_) (fun h4 => ?_)
    · skip
      have h5 := t_bne h4
      refine a_rseq ?_
      refine rg_put (d := 33) (v := .d (.sl 5 (List.map eDp l))) rfl (og rfl (op_move rfl rfl rfl)) ?_
      refine rg_put (d := 34) (v := .d (.fl (.int .i64 ((itm (((ix l ((dfind l key)).toNat))) t 5184000))))) rfl (og rfl (op_move rfl rfl rfl)) ?_
      refine rg_put (d := 8) (v := .d (.sl 5 (List.map eDp l))) rfl (og rfl (op_assign rfl rfl rfl)) ?_
      refine rg_put (d := 9) (v := .d (.fl (.int .i64 0))) rfl (og rfl (op_assign rfl rfl rfl)) ?_
      refine rg_put (d := 10) (v := .d (.fl (.int .i64 ((itm (((ix l ((dfind l key)).toNat))) t 5184000))))) rfl (og rfl (op_assign rfl rfl rfl)) ?_
      refine rg_done rfl ?_
      refine a_ret ?_
      show ∃ ds, ResL _ _ _ ds ∧ RV.of ds = _
      refine ⟨[.sl 5 (List.map eDp l), .fl (.int .i64 0), .fl (.int .i64 ((itm (((ix l ((dfind l key)).toNat))) t 5184000)))], (.cons (.tmp rfl (.d _)) (.cons (.tmp rfl (.d _)) (.cons (.tmp rfl (.d _)) .nil))), ?_⟩
      have hu : decid l key acc t = ((l, 0), (itm (((ix l ((dfind l key)).toNat))) t 5184000)) := by
        unfold decid; simp only [h1, h4]; rfl
      rw [hu]; rfl
    · skip
      have h6 := f_bne h4
      refine a_skip ?_
      show A _ _ _ _ _ _ _
      refine a_rseq ?_
      refine rg_put (d := 35) (v := .d (.sl 5 (List.map eDp l))) rfl (og rfl (op_move rfl rfl rfl)) ?_
      refine rg_nam (d := 36) (v := .ow 101) (m := 101) (nw := [(101, .tr 40 5 (l.map oDp))]) rfl (og rfl (of_eff (op_callO 101 rfl Try.func34 nm34 rfl (.cons rfl (.d _) .nil) (fresh_dp l (by omega) (fun q h => hb q h)) rfl) rfl)) rfl ?_
      refine rg_put (d := 14) (v := .ow 101) rfl (og rfl (op_assign rfl rfl rfl)) ?_
      refine rg_done rfl ?_
      refine a_seq ?_
      refine a_rseq ?_
      refine rg_put (d := 37) (v := .d (.fl (.bool acc))) rfl (og rfl (op_move rfl rfl rfl)) ?_
      refine rg_put (d := 38) (v := .d (.fl (.bool (!acc)))) rfl (og rfl (op_un rfl rfl (u_not _) rfl)) ?_
      refine rg_done rfl ?_
      refine a_cond rfl (fun h7 => ?_) (fun h7 => ?_)
      · skip
        have h8 := t_not h7
        refine a_rseq ?_
        refine rg_put (d := 39) (v := .ow 101) rfl (og rfl (op_move rfl rfl rfl)) ?_
        refine rg_put (d := 40) (v := .d (.fl (.int .i64 (dfind l key)))) rfl (og rfl (op_move rfl rfl rfl)) ?_
        refine rg_put (d := 41) (v := .pe 101 5 (((dfind l key)).toNat) 0) rfl (og rfl (op_index_trI rfl Try.underlying22 ti40 rfl rfl rfl (by omega) (get_lt (map_at (by omega))) rfl)) ?_
        refine rg_put (d := 42) (v := .pe 101 5 (((dfind l key)).toNat) 3) rfl (og rfl (of_eff (op_field_pe rfl Try.underlying40 rfl ti3 rfl rfl rfl) rfl)) ?_
        refine rg_sto (nw := [(101, .tr 40 5 (((l.map oDp).set (((dfind l key)).toNat) [.dv (.fl (.string ((ix l (((dfind l key)).toNat)).key))), .dv (.fl (.int .i64 ((ix l (((dfind l key)).toNat)).time))), .dv (.fl (.int .i64 ((ix l (((dfind l key)).toNat)).cents))), .dv (.fl (.int .i64 3)), .ow 9 1 (List.map rS ((ix l (((dfind l key)).toNat)).proofs))])))]) rfl (og rfl (of_eff (op_store_pe rfl rfl ti3 rfl rfl (map_at (by omega)) rfl (.d rfl) rfl rfl rfl) rfl)) ?_
        refine rg_done rfl ?_
        refine a_rseq ?_
        refine rg_imp (imp_leakE 14 101 (rows' := List.map eDp (l.set (dfind l key).toNat (setS (ix l (dfind l key).toNat) 3))) rfl rfl (set1_ok (y := (setS (ix l (dfind l key).toNat) 3))) (set1_rd (y := (setS (ix l (dfind l key).toNat) 3)))) ?_
        refine rg_put (d := 43) (v := .d (.sl 5 (List.map eDp ((l.set (dfind l key).toNat (setS (ix l (dfind l key).toNat) 3)))))) rfl (og rfl (op_move rfl rfl rfl)) ?_
        refine rg_put (d := 8) (v := .d (.sl 5 (List.map eDp ((l.set (dfind l key).toNat (setS (ix l (dfind l key).toNat) 3)))))) rfl (og rfl (op_assign rfl rfl rfl)) ?_
        refine rg_put (d := 9) (v := .d (.fl (.int .i64 0))) rfl (og rfl (op_assign rfl rfl rfl)) ?_
        refine rg_put (d := 10) (v := .d (.fl (.int .i64 0))) rfl (og rfl (op_assign rfl rfl rfl)) ?_
        refine rg_done rfl ?_
        refine a_ret ?_
        show ∃ ds, ResL _ _ _ ds ∧ RV.of ds = _
        refine ⟨[.sl 5 (List.map eDp ((l.set (dfind l key).toNat (setS (ix l (dfind l key).toNat) 3)))), .fl (.int .i64 0), .fl (.int .i64 0)], (.cons (.tmp rfl (.d _)) (.cons (.tmp rfl (.d _)) (.cons (.tmp rfl (.d _)) .nil))), ?_⟩
        have hu : decid l key acc t = (((l.set (dfind l key).toNat (setS (ix l (dfind l key).toNat) 3)), 0), 0) := by
          unfold decid; simp only [h1, h4, h7, h8]; rfl
        rw [hu]; rfl
      · skip
        have h9 := f_not h7
        refine a_skip ?_
        show A _ _ _ _ _ _ _
        refine a_rseq ?_
        refine rg_put (d := 44) (v := .ow 101) rfl (og rfl (op_move rfl rfl rfl)) ?_
        refine rg_put (d := 45) (v := .d (.fl (.int .i64 (dfind l key)))) rfl (og rfl (op_move rfl rfl rfl)) ?_
        refine rg_put (d := 46) (v := .pe 101 5 (((dfind l key)).toNat) 0) rfl (og rfl (op_index_trI rfl Try.underlying22 ti40 rfl rfl rfl (by omega) (get_lt (map_at (by omega))) rfl)) ?_
        refine rg_put (d := 47) (v := .pe 101 5 (((dfind l key)).toNat) 3) rfl (og rfl (of_eff (op_field_pe rfl Try.underlying40 rfl ti3 rfl rfl rfl) rfl)) ?_
        refine rg_sto (nw := [(101, .tr 40 5 (((l.map oDp).set (((dfind l key)).toNat) [.dv (.fl (.string ((ix l (((dfind l key)).toNat)).key))), .dv (.fl (.int .i64 ((ix l (((dfind l key)).toNat)).time))), .dv (.fl (.int .i64 ((ix l (((dfind l key)).toNat)).cents))), .dv (.fl (.int .i64 2)), .ow 9 1 (List.map rS ((ix l (((dfind l key)).toNat)).proofs))])))]) rfl (og rfl (of_eff (op_store_pe rfl rfl ti3 rfl rfl (map_at (by omega)) rfl (.d rfl) rfl rfl rfl) rfl)) ?_
        refine rg_done rfl ?_
        refine a_imp (imp_leakE 14 101 (rows' := List.map eDp (l.set (dfind l key).toNat (setS (ix l (dfind l key).toNat) 2))) rfl rfl (set1_ok (y := (setS (ix l (dfind l key).toNat) 2))) (set1_rd (y := (setS (ix l (dfind l key).toNat) 2)))) ?_
        have hsl : (l.set (dfind l key).toNat (setS (ix l (dfind l key).toNat) 2)).length = l.length := List.length_set
        refine a_dseq (by kernel_rfl) ?_
        refine dr_put (d := 48) (v := .d (.sl 5 (List.map eDp ((l.set (dfind l key).toNat (setS (ix l (dfind l key).toNat) 2)))))) rfl (og rfl (op_move rfl rfl rfl)) ?_
        refine dr_put (d := 49) (v := .d (.sl 5 (List.map eDp ((l.set (dfind l key).toNat (setS (ix l (dfind l key).toNat) 2)))))) rfl (og rfl (op_move rfl rfl rfl)) ?_
        refine dr_put (d := 50) (v := .d (.fl (.int .i64 (dfind l key)))) rfl (og rfl (op_move rfl rfl rfl)) ?_
        refine dr_put (d := 51) (v := .el ((eDp ((ix ((l.set (dfind l key).toNat (setS (ix l (dfind l key).toNat) 2))) ((dfind l key)).toNat))))) rfl (og rfl (s_index rfl Try.underlying22 ti40 rfl rfl (by omega) (row_atI (by omega) (by omega)) rfl)) ?_
        refine dr_put (d := 52) (v := .el ((List.drop 2 ((eDp ((ix ((l.set (dfind l key).toNat (setS (ix l (dfind l key).toNat) 2))) ((dfind l key)).toNat))))))) rfl (og rfl (of_eff (s_field_el rfl Try.underlying40 rfl ti3 rfl rfl rfl) rfl)) ?_
        refine dr_put (d := 53) (v := .d (.fl (.int .i64 (((ix ((l.set (dfind l key).toNat (setS (ix l (dfind l key).toNat) 2))) ((dfind l key)).toNat)).cents)))) rfl (og rfl (op_load_el rfl Try.underlying3 rfl rfl rfl rfl)) ?_
        refine dr_put (d := 8) (v := .d (.sl 5 (List.map eDp ((l.set (dfind l key).toNat (setS (ix l (dfind l key).toNat) 2)))))) rfl (og rfl (op_assign rfl rfl rfl)) ?_
        refine dr_put (d := 9) (v := .d (.fl (.int .i64 (((ix ((l.set (dfind l key).toNat (setS (ix l (dfind l key).toNat) 2))) ((dfind l key)).toNat)).cents)))) rfl (og rfl (op_assign rfl rfl rfl)) ?_
        refine dr_put (d := 10) (v := .d (.fl (.int .i64 0))) rfl (og rfl (op_assign rfl rfl rfl)) ?_
        refine dr_done rfl (by kernel_rfl) (by kernel_rfl) ?_
        refine a_ret ?_
        show ∃ ds, ResL _ _ _ ds ∧ RV.of ds = _
        refine ⟨[.sl 5 (List.map eDp ((l.set (dfind l key).toNat (setS (ix l (dfind l key).toNat) 2)))), .fl (.int .i64 (((ix ((l.set (dfind l key).toNat (setS (ix l (dfind l key).toNat) 2))) ((dfind l key)).toNat)).cents)), .fl (.int .i64 0)], (.cons (.tmp rfl (.d _)) (.cons (.tmp rfl (.d _)) (.cons (.tmp rfl (.d _)) .nil))), ?_⟩
        have hx : ((ix ((l.set (dfind l key).toNat (setS (ix l (dfind l key).toNat) 2))) ((dfind l key)).toNat)).cents = (ix l (dfind l key).toNat).cents := by rw [ix_set (by omega)]; rfl
        have hu : decid l key acc t = (((l.set (dfind l key).toNat (setS (ix l (dfind l key).toNat) 2)), (ix l (dfind l key).toNat).cents), 0) := by
          unfold decid; simp only [h1, h4, h7, h9]; rfl
        rw [hu, hx]; rfl
set_option maxHeartbeats 4000000 in
set_option maxRecDepth 100000 in
theorem opened43 (l : List Dp) (key : ByteArray) (hl : l.length < 9223372036854775807) : Ctr Try.prog 43 [.sl 5 (List.map eDp l), .fl (.string key)] (.tu [.fl (.int .i64 (opened l key)), .fl (.int .i64 (fcode l key))]) := by
  refine ctr (n := 19) (rs := #[.tmp 4, .tmp 5]) (L := [(0, .d (.sl 5 (List.map eDp l))), (1, .d (.fl (.string key)))]) Try.func43 rfl rfl rfl rfl rfl (fun w0 U0 => ?_)
  refine a_rseq ?_
  refine rg_put (d := 4) (v := .d (.fl (.int .i64 0))) rfl (og rfl (op_assign rfl rfl rfl)) ?_
  refine rg_put (d := 5) (v := .d (.fl (.int .i64 0))) rfl (og rfl (op_assign rfl rfl rfl)) ?_
  refine rg_done rfl ?_
  refine a_rseq ?_
  refine rg_put (d := 7) (v := .d (.sl 5 (List.map eDp l))) rfl (og rfl (op_move rfl rfl rfl)) ?_
  refine rg_put (d := 8) (v := .d (.fl (.string key))) rfl (og rfl (op_move rfl rfl rfl)) ?_
  refine rg_put (d := 9) (v := .d (.fl (.int .i64 (dfind l key)))) rfl (og rfl (op_call rfl Try.func24 nm24 rfl (.cons rfl (.d _) (.cons rfl (.d _) .nil)) (ref_find l key (by omega)) rfl)) ?_
  refine rg_put (d := 6) (v := .d (.fl (.int .i64 (dfind l key)))) rfl (og rfl (op_assign rfl rfl rfl)) ?_
  refine rg_done rfl ?_
  refine a_seq ?_
  refine a_rseq ?_
  refine rg_put (d := 10) (v := .d (.fl (.int .i64 (dfind l key)))) rfl (og rfl (op_move rfl rfl rfl)) ?_
  refine rg_put (d := 11) (v := .d (.fl (.bool ((decide ((dfind l key) < 0)))))) rfl (og rfl (op_bin rfl rfl rfl (b_lss _ _ _ _) rfl)) ?_
  refine rg_done rfl ?_
  refine a_cond rfl (fun h1 => ?_) (fun h1 => ?_)
  · skip
    have h2 := t_dec h1
    refine a_rseq ?_
    refine rg_put (d := 4) (v := .d (.fl (.int .i64 0))) rfl (og rfl (op_assign rfl rfl rfl)) ?_
    refine rg_put (d := 5) (v := .d (.fl (.int .i64 10))) rfl (og rfl (op_assign rfl rfl rfl)) ?_
    refine rg_done rfl ?_
    refine a_ret ?_
    show ∃ ds, ResL _ _ _ ds ∧ RV.of ds = _
    refine ⟨[.fl (.int .i64 0), .fl (.int .i64 10)], (.cons (.tmp rfl (.d _)) (.cons (.tmp rfl (.d _)) .nil)), ?_⟩
    have hu : fcode l key = 10 := by
      unfold fcode; simp only [h1]; rfl
    have hv : opened l key = 0 := by unfold opened; rw [hu]; rfl
    rw [hu, hv]; rfl
  · skip
    have h3 := f_dec h1
    refine a_skip ?_
    show A _ _ _ _ _ _ _
    refine a_seq ?_
    refine a_rseq ?_
    have hi := dfind_lt l key
    refine rg_put (d := 12) (v := .d (.sl 5 (List.map eDp l))) rfl (og rfl (op_move rfl rfl rfl)) ?_
    refine rg_put (d := 13) (v := .d (.fl (.int .i64 (dfind l key)))) rfl (og rfl (op_move rfl rfl rfl)) ?_
    refine rg_put (d := 14) (v := .el ((eDp ((ix l ((dfind l key)).toNat))))) rfl (og rfl (s_index rfl Try.underlying22 ti40 rfl rfl (by omega) (row_atI (by omega) (by omega)) rfl)) ?_
    refine rg_put (d := 15) (v := .el ((List.drop 3 ((eDp ((ix l ((dfind l key)).toNat))))))) rfl (og rfl (of_eff (s_field_el rfl Try.underlying40 rfl ti3 rfl rfl rfl) rfl)) ?_
    refine rg_put (d := 16) (v := .d (.fl (.int .i64 (((ix l ((dfind l key)).toNat)).state)))) rfl (og rfl (op_load_el rfl Try.underlying3 rfl rfl rfl rfl)) ?_
    refine rg_put (d := 17) (v := .d (.fl (.bool ((((ix l ((dfind l key)).toNat)).state != 1))))) rfl (og rfl (op_bin rfl rfl rfl (b_neq _ _ _ _) rfl)) ?_
    refine rg_done rfl ?_
    refine a_cond rfl (fun h4 => ?_) (fun h4 => ?_)
    · skip
      have h5 := t_bne h4
      refine a_rseq ?_
      refine rg_put (d := 4) (v := .d (.fl (.int .i64 0))) rfl (og rfl (op_assign rfl rfl rfl)) ?_
      refine rg_put (d := 5) (v := .d (.fl (.int .i64 11))) rfl (og rfl (op_assign rfl rfl rfl)) ?_
      refine rg_done rfl ?_
      refine a_ret ?_
      show ∃ ds, ResL _ _ _ ds ∧ RV.of ds = _
      refine ⟨[.fl (.int .i64 0), .fl (.int .i64 11)], (.cons (.tmp rfl (.d _)) (.cons (.tmp rfl (.d _)) .nil)), ?_⟩
      have hu : fcode l key = 11 := by
        unfold fcode; simp only [h1, h4]; rfl
      have hv : opened l key = 0 := by unfold opened; rw [hu]; rfl
      rw [hu, hv]; rfl
    · skip
      have h6 := f_bne h4
      refine a_skip ?_
      show A _ _ _ _ _ _ _
      refine a_rseq ?_
      refine rg_put (d := 18) (v := .d (.fl (.int .i64 (dfind l key)))) rfl (og rfl (op_move rfl rfl rfl)) ?_
      refine rg_put (d := 4) (v := .d (.fl (.int .i64 (dfind l key)))) rfl (og rfl (op_assign rfl rfl rfl)) ?_
      refine rg_put (d := 5) (v := .d (.fl (.int .i64 0))) rfl (og rfl (op_assign rfl rfl rfl)) ?_
      refine rg_done rfl ?_
      refine a_ret ?_
      show ∃ ds, ResL _ _ _ ds ∧ RV.of ds = _
      refine ⟨[.fl (.int .i64 (dfind l key)), .fl (.int .i64 0)], (.cons (.tmp rfl (.d _)) (.cons (.tmp rfl (.d _)) .nil)), ?_⟩
      have hu : fcode l key = 0 := by
        unfold fcode; simp only [h1, h4]; rfl
      have hv : opened l key = (dfind l key) := by unfold opened; rw [hu]; rfl
      rw [hu, hv]; rfl
end Go.Proofs.Ytocjbombpggmeaa.Wk
