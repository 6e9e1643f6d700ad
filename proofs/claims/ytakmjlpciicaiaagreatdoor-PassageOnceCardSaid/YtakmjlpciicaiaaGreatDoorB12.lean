/- Of and Insert of the reference. No condition. -/
import Derived.Test.YtakmjlpciicaiaaGreatDoorB11
set_option linter.unusedSimpArgs false
set_option linter.unusedVariables false
namespace Go.Proofs.YtakmjlpciicaiaaGreatDoor.Wk
open Go Go.RowKit Go.Proofs.YtakmjlpciicaiaaGreatDoor.Av
set_option maxHeartbeats 4000000 in
set_option maxRecDepth 100000 in
theorem ofR (l : List Psg) (s : ByteArray) (hl : l.length ≤ 1000) (hz : ∀ x ∈ l, szP x) : Ctr Tryz.prog 26 [.sl 8 (List.map ePsg l), .fl (.string s)] (.d (.sl 8 (List.map ePsg (srt (l.filter (bq l s)))))) := by
  refine ctr (n := 36) (rs := #[.tmp 4]) (L := [(0, .d (.sl 8 (List.map ePsg l))), (1, .d (.fl (.string s)))]) Tryz.func26 rfl rfl rfl rfl rfl (fun w0 U0 => ?_)
  refine a_rseq ?_
  refine rg_put (d := 4) (v := .d (.fl (.slice none 0 0))) rfl (og rfl (op_assign rfl rfl rfl)) ?_
  refine rg_done rfl ?_
  refine a_rseq ?_
  refine rg_put (d := 5) (v := .d (.fl (.slice none 0 0))) rfl (og rfl (op_assign rfl rfl rfl)) ?_
  refine rg_done rfl ?_
  refine a_seq ?_
  refine a_rseq ?_
  refine rg_imp (imp_nilT 5 101 24 8 rfl rfl) ?_
  refine rg_put (d := 6) (v := .d (.fl (.int .i64 0))) rfl (og rfl (op_assign rfl rfl rfl)) ?_
  refine rg_done rfl ?_
  refine a_block ?_
  refine a_loop (ι := Nat) (fun k => SS [(0, .d (.sl 8 (List.map ePsg l))), (1, .d (.fl (.string s))), (4, .d (.fl (.slice none 0 0))), (6, .d (.fl (.int .i64 (k : Int)))), (5, .ow 101)] [(101, .tr 24 8 (tD ePsg (((l.take k).filter (bq l s)))))]) (fun k => k ≤ l.length) (fun k => l.length - k) 0 (by omega) (imp_forget rfl ⟨rfl, rfl, rfl, (by first | rfl | exact ci (by omega) | exact ci (by simp) | exact cd (by simp) | simp), (by first | rfl | exact ci (by omega) | exact ci (by simp) | exact cd (by simp) | simp), trivial⟩ ⟨rfl, trivial⟩) (fun k hok => ?_)
  have hk := hok
  have hfl := fl_len l (bq l s) k
  refine a_seq ?_
  refine a_rseq ?_
  refine rg_put (d := 8) (v := .d (.fl (.int .i64 (k : Int)))) rfl (og rfl (op_move rfl rfl rfl)) ?_
  refine rg_put (d := 9) (v := .d (.sl 8 (List.map ePsg l))) rfl (og rfl (op_move rfl rfl rfl)) ?_
  refine rg_put (d := 10) (v := .d (.fl (.int .i64 (l.length : Int)))) rfl (og rfl (s_len rfl Tryz.underlying38 rfl rfl)) ?_
  refine rg_put (d := 11) (v := .d (.fl (.bool ((decide ((k : Int) < (l.length : Int))))))) rfl (og rfl (op_bin rfl rfl rfl (b_lss _ _ _ _) rfl)) ?_
  refine rg_done rfl ?_
  refine a_cond rfl (fun h1 => ?_) (fun h1 => ?_)
  · skip
    have h2 := t_dec h1
    refine a_skip ?_
    show A _ _ _ _ _ _ _
    refine a_seq ?_
    refine a_block ?_
    refine a_rseq ?_
    refine rg_put (d := 14) (v := .d (.sl 8 (List.map ePsg l))) rfl (og rfl (op_move rfl rfl rfl)) ?_
    refine rg_put (d := 15) (v := .d (.sl 8 (List.map ePsg l))) rfl (og rfl (op_move rfl rfl rfl)) ?_
    refine rg_put (d := 16) (v := .d (.fl (.int .i64 (k : Int)))) rfl (og rfl (op_move rfl rfl rfl)) ?_
    refine rg_put (d := 17) (v := .el ((ePsg (ix l k)))) rfl (og rfl (s_index rfl Tryz.underlying38 ti24 rfl rfl (by omega) (row_at (by omega)) rfl)) ?_
    refine rg_put (d := 18) (v := .d (.ag (ePsg (ix l k)))) rfl (og rfl (of_eff (s_load_els rfl Tryz.underlying24 rfl ti24 rfl rfl rfl) rfl)) ?_
    refine rg_put (d := 19) (v := .d (.fl (.string ((bel (ow l l.length) (ix l k)))))) rfl (og rfl (op_call rfl Tryz.func54 nm54 rfl (.cons rfl (.d _) (.cons rfl (.d _) .nil)) (blgR l (ix l k) hl) rfl)) ?_
    refine rg_put (d := 7) (v := .d (.fl (.string ((bel (ow l l.length) (ix l k)))))) rfl (og rfl (op_assign rfl rfl rfl)) ?_
    refine rg_done rfl ?_
    refine a_rseq ?_
    refine rg_put (d := 20) (v := .d (.fl (.string ((bel (ow l l.length) (ix l k)))))) rfl (og rfl (op_move rfl rfl rfl)) ?_
    refine rg_put (d := 21) (v := .d (.fl (.bool ((!(sEq ((bel (ow l l.length) (ix l k))) (⟨#[]⟩))))))) rfl (og rfl (op_bin rfl rfl rfl (b_sne _ _ _) rfl)) ?_
    refine rg_put (d := 22) (v := .d (.fl (.bool ((!(sEq ((bel (ow l l.length) (ix l k))) (⟨#[]⟩))))))) rfl (og rfl (op_move rfl rfl rfl)) ?_
    rcases fot ((!(sEq ((bel (ow l l.length) (ix l k))) (⟨#[]⟩)))) with h3 | h3
    · skip
      have h4 := f_not h3
      refine rg_put (d := 23) (v := .d (.fl undef)) rfl (on rfl rfl rfl h3) ?_
      refine rg_put (d := 24) (v := .d (.fl undef)) rfl (on rfl rfl rfl h3) ?_
      refine rg_put (d := 25) (v := .d (.fl undef)) rfl (on rfl rfl rfl h3) ?_
      refine rg_put (d := 26) (v := .d (.fl (.bool false))) rfl (og rfl (op_pick rfl rfl (by rw [h3]; rfl) rfl)) ?_
      refine rg_done rfl ?_
      refine a_condF rfl rfl ?_
      refine a_skip ?_
      show A _ _ _ _ _ _ _
      refine a_region ?_
      refine rg_put (d := 12) (v := .d (.fl (.int .i64 (k : Int)))) rfl (og rfl (op_move rfl rfl rfl)) ?_
      refine rg_put (d := 13) (v := .d (.fl (.int .i64 (((k : Int) + 1))))) rfl (og rfl (op_bin rfl rfl rfl (fun x y w => b_add64 _ _ _ x y w (by omega)) rfl)) ?_
      refine rg_put (d := 6) (v := .d (.fl (.int .i64 (((k : Int) + 1))))) rfl (og rfl (op_assign rfl rfl rfl)) ?_
      refine rg_done rfl ?_
      have hst : ((l.take k).filter (bq l s)) = (l.take (k + 1)).filter (bq l s) := fl_no (by omega) (by rw [bq_eq, show sEq (bel (ow l l.length) (ix l k)) em = true from h4]; rfl)
      show ∃ i, _ ∧ _ ∧ Imp _ _ _ _ _
      refine ⟨k + 1, (by omega), by omega, imp_forget rfl ⟨rfl, rfl, rfl, (by first | rfl | exact ci (by omega) | exact ci (by simp) | exact cd (by simp) | simp), rfl, trivial⟩ ⟨(congrArg (fun z => Ob.tr 24 8 (tD ePsg z)) hst), trivial⟩⟩
    · skip
      have h5 := t_not h3
      refine rg_put (d := 23) (v := .d (.fl (.string ((bel (ow l l.length) (ix l k)))))) rfl (oy rfl rfl rfl h3 (op_move rfl rfl rfl)) ?_
      refine rg_put (d := 24) (v := .d (.fl (.string s))) rfl (oy rfl rfl rfl h3 (op_move rfl rfl rfl)) ?_
      refine rg_put (d := 25) (v := .d (.fl (.bool ((sEq ((bel (ow l l.length) (ix l k))) s))))) rfl (oy rfl rfl rfl h3 (op_bin rfl rfl rfl (b_seq _ _ _) rfl)) ?_
      refine rg_put (d := 26) (v := .d (.fl (.bool ((sEq ((bel (ow l l.length) (ix l k))) s))))) rfl (og rfl (op_pick rfl rfl (by rw [h3]; rfl) rfl)) ?_
      refine rg_done rfl ?_
      refine a_cond rfl (fun h6 => ?_) (fun h6 => ?_)
      · skip
        refine a_region ?_
        refine rg_put (d := 27) (v := .ow 101) rfl (og rfl (op_move rfl rfl rfl)) ?_
        refine rg_put (d := 28) (v := .d (.sl 8 (List.map ePsg l))) rfl (og rfl (op_move rfl rfl rfl)) ?_
        refine rg_put (d := 29) (v := .d (.fl (.int .i64 (k : Int)))) rfl (og rfl (op_move rfl rfl rfl)) ?_
        refine rg_put (d := 30) (v := .el ((ePsg (ix l k)))) rfl (og rfl (s_index rfl Tryz.underlying38 ti24 rfl rfl (by omega) (row_at (by omega)) rfl)) ?_
        refine rg_put (d := 31) (v := .d (.ag (ePsg (ix l k)))) rfl (og rfl (of_eff (s_load_els rfl Tryz.underlying24 rfl ti24 rfl rfl rfl) rfl)) ?_
        refine rg_put (d := 32) (v := .d (.sl 8 (List.map ePsg [(ix l k)]))) rfl (og rfl (of_eff (op_slices rfl Tryz.underlying38 ti24 rfl rfl rfl (by kernel_rfl) (xs := [.ag (ePsg (ix l k))]) rfl rfl (.cons rfl rfl (.d _) rfl rfl rfl .nil) rfl) rfl)) ?_
        refine rg_nam (d := 33) (v := .ow 102) (m := 102) (nw := [(102, .tr 24 8 (tD ePsg ((((l.take k).filter (bq l s)) ++ [(ix l k)])))), (101, .no)]) rfl (og rfl (of_eff (s_append_td 102 rfl Tryz.underlying38 ti24 rfl rfl rfl rfl rfl (.d _) (by simp only [List.length_append, List.length_cons, List.length_nil]; omega) rfl) rfl)) rfl ?_
        refine rg_put (d := 5) (v := .ow 102) rfl (og rfl (op_assign rfl rfl rfl)) ?_
        refine rg_done rfl ?_
        show A _ _ _ _ _ _ _
        refine a_region ?_
        refine rg_put (d := 12) (v := .d (.fl (.int .i64 (k : Int)))) rfl (og rfl (op_move rfl rfl rfl)) ?_
        refine rg_put (d := 13) (v := .d (.fl (.int .i64 (((k : Int) + 1))))) rfl (og rfl (op_bin rfl rfl rfl (fun x y w => b_add64 _ _ _ x y w (by omega)) rfl)) ?_
        refine rg_put (d := 6) (v := .d (.fl (.int .i64 (((k : Int) + 1))))) rfl (og rfl (op_assign rfl rfl rfl)) ?_
        refine rg_done rfl ?_
        have hst : (((l.take k).filter (bq l s)) ++ [(ix l k)]) = (l.take (k + 1)).filter (bq l s) := fl_yes (by omega) (by rw [bq_eq, show sEq (bel (ow l l.length) (ix l k)) em = false from h5, show sEq (bel (ow l l.length) (ix l k)) s = true from h6]; rfl)
        show ∃ i, _ ∧ _ ∧ Imp _ _ _ _ _
        refine ⟨k + 1, (by omega), by omega, imp_ren (fun m => bif Nat.beq m 101 then 102 else m) rfl ⟨rfl, rfl, rfl, (by first | rfl | exact ci (by omega) | exact ci (by simp) | exact cd (by simp) | simp), rfl, trivial⟩ ⟨(congrArg (fun z => Ob.tr 24 8 (tD ePsg z)) hst), trivial⟩⟩
      · skip
        refine a_skip ?_
        show A _ _ _ _ _ _ _
        refine a_region ?_
        refine rg_put (d := 12) (v := .d (.fl (.int .i64 (k : Int)))) rfl (og rfl (op_move rfl rfl rfl)) ?_
        refine rg_put (d := 13) (v := .d (.fl (.int .i64 (((k : Int) + 1))))) rfl (og rfl (op_bin rfl rfl rfl (fun x y w => b_add64 _ _ _ x y w (by omega)) rfl)) ?_
        refine rg_put (d := 6) (v := .d (.fl (.int .i64 (((k : Int) + 1))))) rfl (og rfl (op_assign rfl rfl rfl)) ?_
        refine rg_done rfl ?_
        have hst : ((l.take k).filter (bq l s)) = (l.take (k + 1)).filter (bq l s) := fl_no (by omega) (by rw [bq_eq, show sEq (bel (ow l l.length) (ix l k)) em = false from h5, show sEq (bel (ow l l.length) (ix l k)) s = false from h6]; rfl)
        show ∃ i, _ ∧ _ ∧ Imp _ _ _ _ _
        refine ⟨k + 1, (by omega), by omega, imp_forget rfl ⟨rfl, rfl, rfl, (by first | rfl | exact ci (by omega) | exact ci (by simp) | exact cd (by simp) | simp), rfl, trivial⟩ ⟨(congrArg (fun z => Ob.tr 24 8 (tD ePsg z)) hst), trivial⟩⟩
  · skip
    have h7 := f_dec h1
    refine a_exit ?_
    show A _ _ _ _ _ _ _
    refine a_rseq ?_
    rw [show ((l.take k).filter (bq l s)) = (l.filter (bq l s)) from (by rw [List.take_of_length_le (by omega)])]
    have hfz := List.length_filter_le (bq l s) l
    refine rg_put (d := 34) (v := .ow 101) rfl (og rfl (op_move rfl rfl rfl)) ?_
    refine rg_imp (imp_leakT 34 101 rfl rfl) ?_
    refine rg_put (d := 35) (v := .d (.sl 8 (List.map ePsg ((srt ((l.filter (bq l s)))))))) rfl (og rfl (op_call rfl Tryz.func22 nm22 rfl (.cons rfl (.d _) .nil) (sortR ((l.filter (bq l s))) (by omega) (fun y hy => hz y (List.mem_filter.1 hy).1)) rfl)) ?_
    refine rg_put (d := 4) (v := .d (.sl 8 (List.map ePsg ((srt ((l.filter (bq l s)))))))) rfl (og rfl (op_assign rfl rfl rfl)) ?_
    refine rg_done rfl ?_
    refine a_ret ?_
    show ∃ ds, ResL _ _ _ ds ∧ RV.of ds = _
    refine ⟨[.sl 8 (List.map ePsg ((srt ((l.filter (bq l s))))))], (.cons (.tmp rfl (.d _)) .nil), ?_⟩
    rfl
set_option maxHeartbeats 4000000 in
set_option maxRecDepth 100000 in
theorem insC (u : List ByteArray) (s : ByteArray) (hu : u.length ≤ 1000) (hz : ∀ y ∈ u, y.size ≤ 80) (hs : s.size ≤ 80) : Ctr Tryz.prog 57 [.sl 1 (List.map rS u), .fl (.string s)] (.d (.sl 1 (List.map rS (insT u s)))) := by
  refine ctr (n := 49) (rs := #[.tmp 4]) (L := [(0, .d (.sl 1 (List.map rS u))), (1, .d (.fl (.string s)))]) Tryz.func57 rfl rfl rfl rfl rfl (fun w0 U0 => ?_)
  refine a_rseq ?_
  refine rg_put (d := 4) (v := .d (.fl (.slice none 0 0))) rfl (og rfl (op_assign rfl rfl rfl)) ?_
  refine rg_done rfl ?_
  refine a_rseq ?_
  refine rg_put (d := 5) (v := .d (.fl (.slice none 0 0))) rfl (og rfl (op_assign rfl rfl rfl)) ?_
  refine rg_done rfl ?_
  refine a_rseq ?_
  refine rg_imp (imp_nilT 5 101 9 1 rfl rfl) ?_
  refine rg_put (d := 6) (v := .d (.fl (.bool false))) rfl (og rfl (op_assign rfl rfl rfl)) ?_
  refine rg_done rfl ?_
  refine a_seq ?_
  refine a_rseq ?_
  refine rg_put (d := 7) (v := .d (.fl (.int .i64 0))) rfl (og rfl (op_assign rfl rfl rfl)) ?_
  refine rg_done rfl ?_
  refine a_block ?_
  refine a_loop (ι := Nat) (fun k => SS [(0, .d (.sl 1 (List.map rS u))), (1, .d (.fl (.string s))), (7, .d (.fl (.int .i64 (k : Int)))), (6, .d (.fl (.bool (inD u s k)))), (5, .ow 101)] [(101, .tr 9 1 (tD rS (inO u s k)))]) (fun k => k ≤ u.length ∧ ∀ q, q < k → sEq (ix u q) s = false) (fun k => u.length - k) 0 (⟨by omega, fun q h => by omega⟩) (imp_forget rfl ⟨rfl, rfl, (by first | rfl | exact ci (by omega) | exact ci (by simp) | exact cd (by simp) | simp), rfl, (by first | rfl | exact ci (by omega) | exact ci (by simp) | exact cd (by simp) | simp), trivial⟩ ⟨rfl, trivial⟩) (fun k hok => ?_)
  obtain ⟨hk, hq⟩ := hok
  have hil := inO_len u s k
  refine a_seq ?_
  refine a_rseq ?_
  refine rg_put (d := 8) (v := .d (.fl (.int .i64 (k : Int)))) rfl (og rfl (op_move rfl rfl rfl)) ?_
  refine rg_put (d := 9) (v := .d (.sl 1 (List.map rS u))) rfl (og rfl (op_move rfl rfl rfl)) ?_
  refine rg_put (d := 10) (v := .d (.fl (.int .i64 (u.length : Int)))) rfl (og rfl (s_len rfl Tryz.underlying46 rfl rfl)) ?_
  refine rg_put (d := 11) (v := .d (.fl (.bool ((decide ((k : Int) < (u.length : Int))))))) rfl (og rfl (op_bin rfl rfl rfl (b_lss _ _ _ _) rfl)) ?_
  refine rg_done rfl ?_
  refine a_cond rfl (fun h1 => ?_) (fun h1 => ?_)
  · skip
    have h2 := t_dec h1
    refine a_skip ?_
    show A _ _ _ _ _ _ _
    refine a_seq ?_
    refine a_block ?_
    refine a_seq ?_
    refine a_rseq ?_
    refine rg_put (d := 14) (v := .d (.sl 1 (List.map rS u))) rfl (og rfl (op_move rfl rfl rfl)) ?_
    refine rg_put (d := 15) (v := .d (.fl (.int .i64 (k : Int)))) rfl (og rfl (op_move rfl rfl rfl)) ?_
    refine rg_put (d := 16) (v := .el ((rS (ix u k)))) rfl (og rfl (s_index rfl Tryz.underlying46 ti9 rfl rfl (by omega) (row_at (by omega)) rfl)) ?_
    refine rg_put (d := 17) (v := .d (.fl (.string (ix u k)))) rfl (og rfl (op_load_el rfl Tryz.underlying9 rfl rfl rfl rfl)) ?_
    refine rg_put (d := 18) (v := .d (.fl (.string s))) rfl (og rfl (op_move rfl rfl rfl)) ?_
    refine rg_put (d := 19) (v := .d (.fl (.bool ((sEq (ix u k) s))))) rfl (og rfl (op_bin rfl rfl rfl (b_seq _ _ _) rfl)) ?_
    refine rg_done rfl ?_
    refine a_cond rfl (fun h3 => ?_) (fun h3 => ?_)
    · skip
      refine a_rseq ?_
      refine rg_put (d := 20) (v := .d (.sl 1 (List.map rS u))) rfl (og rfl (op_move rfl rfl rfl)) ?_
      refine rg_put (d := 4) (v := .d (.sl 1 (List.map rS u))) rfl (og rfl (op_assign rfl rfl rfl)) ?_
      refine rg_done rfl ?_
      refine a_ret ?_
      show ∃ ds, ResL _ _ _ ds ∧ RV.of ds = _
      refine ⟨[.sl 1 (List.map rS u)], (.cons (.tmp rfl (.d _)) .nil), ?_⟩
      rw [show insT u s = u from by unfold insT; rw [any_at (p := fun y => sEq y s) (by omega) h3]; rfl]; rfl
    · skip
      refine a_skip ?_
      show A _ _ _ _ _ _ _
      refine a_seq ?_
      refine a_rseq ?_
      refine rg_put (d := 21) (v := .d (.fl (.bool (inD u s k)))) rfl (og rfl (op_move rfl rfl rfl)) ?_
      refine rg_put (d := 22) (v := .d (.fl (.bool ((!(inD u s k)))))) rfl (og rfl (op_un rfl rfl (u_not _) rfl)) ?_
      refine rg_put (d := 23) (v := .d (.fl (.bool ((!(inD u s k)))))) rfl (og rfl (op_move rfl rfl rfl)) ?_
      rcases fot ((!(inD u s k))) with h4 | h4
      · skip
        have h5 := f_not h4
        refine rg_put (d := 24) (v := .d (.fl undef)) rfl (on rfl rfl rfl h4) ?_
        refine rg_put (d := 25) (v := .d (.fl undef)) rfl (on rfl rfl rfl h4) ?_
        refine rg_put (d := 26) (v := .d (.fl undef)) rfl (on rfl rfl rfl h4) ?_
        refine rg_put (d := 27) (v := .d (.fl undef)) rfl (on rfl rfl rfl h4) ?_
        refine rg_put (d := 28) (v := .d (.fl undef)) rfl (on rfl rfl rfl h4) ?_
        refine rg_put (d := 29) (v := .d (.fl undef)) rfl (on rfl rfl rfl h4) ?_
        refine rg_put (d := 30) (v := .d (.fl (.bool false))) rfl (og rfl (op_pick rfl rfl (by rw [h4]; rfl) rfl)) ?_
        refine rg_done rfl ?_
        refine a_condF rfl rfl ?_
        refine a_skip ?_
        show A _ _ _ _ _ _ _
        refine a_region ?_
        refine rg_put (d := 35) (v := .ow 101) rfl (og rfl (op_move rfl rfl rfl)) ?_
        refine rg_put (d := 36) (v := .d (.sl 1 (List.map rS u))) rfl (og rfl (op_move rfl rfl rfl)) ?_
        refine rg_put (d := 37) (v := .d (.fl (.int .i64 (k : Int)))) rfl (og rfl (op_move rfl rfl rfl)) ?_
        refine rg_put (d := 38) (v := .el ((rS (ix u k)))) rfl (og rfl (s_index rfl Tryz.underlying46 ti9 rfl rfl (by omega) (row_at (by omega)) rfl)) ?_
        refine rg_put (d := 39) (v := .d (.fl (.string (ix u k)))) rfl (og rfl (op_load_el rfl Tryz.underlying9 rfl rfl rfl rfl)) ?_
        refine rg_put (d := 40) (v := .d (.sl 1 (List.map rS [(ix u k)]))) rfl (og rfl (of_eff (op_slices rfl Tryz.underlying46 ti9 rfl rfl rfl (by kernel_rfl) (xs := [.fl (.string (ix u k))]) rfl rfl (.cons rfl rfl (.d _) rfl rfl rfl .nil) rfl) rfl)) ?_
        refine rg_nam (d := 41) (v := .ow 102) (m := 102) (nw := [(102, .tr 9 1 (tD rS (((inO u s k) ++ [(ix u k)])))), (101, .no)]) rfl (og rfl (of_eff (s_append_td 102 rfl Tryz.underlying46 ti9 rfl rfl rfl rfl rfl (.d _) (by simp only [List.length_append, List.length_cons, List.length_nil]; omega) rfl) rfl)) rfl ?_
        refine rg_put (d := 5) (v := .ow 102) rfl (og rfl (op_assign rfl rfl rfl)) ?_
        refine rg_done rfl ?_
        show A _ _ _ _ _ _ _
        refine a_region ?_
        refine rg_put (d := 12) (v := .d (.fl (.int .i64 (k : Int)))) rfl (og rfl (op_move rfl rfl rfl)) ?_
        refine rg_put (d := 13) (v := .d (.fl (.int .i64 (((k : Int) + 1))))) rfl (og rfl (op_bin rfl rfl rfl (fun x y w => b_add64 _ _ _ x y w (by omega)) rfl)) ?_
        refine rg_put (d := 7) (v := .d (.fl (.int .i64 (((k : Int) + 1))))) rfl (og rfl (op_assign rfl rfl rfl)) ?_
        refine rg_done rfl ?_
        have hx : (sEq (ix u k) s) = false := h3
        have hst : ((inO u s k) ++ [(ix u k)]) = inO u s (k + 1) := by simp only [inO, h5, Bool.not_true, Bool.not_false, Bool.false_and, Bool.and_false, Bool.and_self, cond_true, cond_false]
        have hsd : (inD u s k) = inD u s (k + 1) := by simp only [inD, h5, Bool.true_or, Bool.or_true, Bool.or_false, Bool.false_or, Bool.or_self]
        show ∃ i, _ ∧ _ ∧ Imp _ _ _ _ _
        refine ⟨k + 1, ⟨by omega, fun q h => (Nat.lt_succ_iff_lt_or_eq.1 h).elim (hq q) (fun e => by rw [e]; exact hx)⟩, by omega, imp_ren (fun m => bif Nat.beq m 101 then 102 else m) rfl ⟨rfl, rfl, (by first | rfl | exact ci (by omega) | exact ci (by simp) | exact cd (by simp) | simp), (cd (congrArg (fun z => DV.fl (.bool z)) hsd)), rfl, trivial⟩ ⟨(congrArg (fun z => Ob.tr 9 1 (tD rS z)) hst), trivial⟩⟩
      · skip
        have h6 := t_not h4
        refine rg_put (d := 24) (v := .d (.fl (.string s))) rfl (oy rfl rfl rfl h4 (op_move rfl rfl rfl)) ?_
        refine rg_put (d := 25) (v := .d (.sl 1 (List.map rS u))) rfl (oy rfl rfl rfl h4 (op_move rfl rfl rfl)) ?_
        refine rg_put (d := 26) (v := .d (.fl (.int .i64 (k : Int)))) rfl (oy rfl rfl rfl h4 (op_move rfl rfl rfl)) ?_
        refine rg_put (d := 27) (v := .el ((rS (ix u k)))) rfl (oy rfl rfl rfl h4 (s_index rfl Tryz.underlying46 ti9 rfl rfl (by omega) (row_at (by omega)) rfl)) ?_
        refine rg_put (d := 28) (v := .d (.fl (.string (ix u k)))) rfl (oy rfl rfl rfl h4 (op_load_el rfl Tryz.underlying9 rfl rfl rfl rfl)) ?_
        refine rg_put (d := 29) (v := .d (.fl (.bool ((sLt s (ix u k)))))) rfl (oy rfl rfl rfl h4 (op_call rfl Tryz.func32 nm32 rfl (.cons rfl (.d _) (.cons rfl (.d _) .nil)) (befR s (ix u k) hs (hz _ (ix_mem (by omega)))) rfl)) ?_
        refine rg_put (d := 30) (v := .d (.fl (.bool ((sLt s (ix u k)))))) rfl (og rfl (op_pick rfl rfl (by rw [h4]; rfl) rfl)) ?_
        refine rg_done rfl ?_
        refine a_cond rfl (fun h7 => ?_) (fun h7 => ?_)
        · skip
          refine a_rseq ?_
          refine rg_put (d := 31) (v := .ow 101) rfl (og rfl (op_move rfl rfl rfl)) ?_
          refine rg_put (d := 32) (v := .d (.fl (.string s))) rfl (og rfl (op_move rfl rfl rfl)) ?_
          refine rg_put (d := 33) (v := .d (.sl 1 (List.map rS [s]))) rfl (og rfl (of_eff (op_slices rfl Tryz.underlying46 ti9 rfl rfl rfl (by kernel_rfl) (xs := [.fl (.string s)]) rfl rfl (.cons rfl rfl (.d _) rfl rfl rfl .nil) rfl) rfl)) ?_
          refine rg_nam (d := 34) (v := .ow 103) (m := 103) (nw := [(103, .tr 9 1 (tD rS (((inO u s k) ++ [s])))), (101, .no)]) rfl (og rfl (of_eff (s_append_td 103 rfl Tryz.underlying46 ti9 rfl rfl rfl rfl rfl (.d _) (by simp only [List.length_append, List.length_cons, List.length_nil]; omega) rfl) rfl)) rfl ?_
          refine rg_put (d := 5) (v := .ow 103) rfl (og rfl (op_assign rfl rfl rfl)) ?_
          refine rg_done rfl ?_
          refine a_region ?_
          refine rg_put (d := 6) (v := .d (.fl (.bool true))) rfl (og rfl (op_assign rfl rfl rfl)) ?_
          refine rg_done rfl ?_
          show A _ _ _ _ _ _ _
          refine a_region ?_
          refine rg_put (d := 35) (v := .ow 103) rfl (og rfl (op_move rfl rfl rfl)) ?_
          refine rg_put (d := 36) (v := .d (.sl 1 (List.map rS u))) rfl (og rfl (op_move rfl rfl rfl)) ?_
          refine rg_put (d := 37) (v := .d (.fl (.int .i64 (k : Int)))) rfl (og rfl (op_move rfl rfl rfl)) ?_
          refine rg_put (d := 38) (v := .el ((rS (ix u k)))) rfl (og rfl (s_index rfl Tryz.underlying46 ti9 rfl rfl (by omega) (row_at (by omega)) rfl)) ?_
          refine rg_put (d := 39) (v := .d (.fl (.string (ix u k)))) rfl (og rfl (op_load_el rfl Tryz.underlying9 rfl rfl rfl rfl)) ?_
          refine rg_put (d := 40) (v := .d (.sl 1 (List.map rS [(ix u k)]))) rfl (og rfl (of_eff (op_slices rfl Tryz.underlying46 ti9 rfl rfl rfl (by kernel_rfl) (xs := [.fl (.string (ix u k))]) rfl rfl (.cons rfl rfl (.d _) rfl rfl rfl .nil) rfl) rfl)) ?_
          refine rg_nam (d := 41) (v := .ow 104) (m := 104) (nw := [(104, .tr 9 1 (tD rS ((((inO u s k) ++ [s]) ++ [(ix u k)])))), (103, .no)]) rfl (og rfl (of_eff (s_append_td 104 rfl Tryz.underlying46 ti9 rfl rfl rfl rfl rfl (.d _) (by simp only [List.length_append, List.length_cons, List.length_nil]; omega) rfl) rfl)) rfl ?_
          refine rg_put (d := 5) (v := .ow 104) rfl (og rfl (op_assign rfl rfl rfl)) ?_
          refine rg_done rfl ?_
          show A _ _ _ _ _ _ _
          refine a_region ?_
          refine rg_put (d := 12) (v := .d (.fl (.int .i64 (k : Int)))) rfl (og rfl (op_move rfl rfl rfl)) ?_
          refine rg_put (d := 13) (v := .d (.fl (.int .i64 (((k : Int) + 1))))) rfl (og rfl (op_bin rfl rfl rfl (fun x y w => b_add64 _ _ _ x y w (by omega)) rfl)) ?_
          refine rg_put (d := 7) (v := .d (.fl (.int .i64 (((k : Int) + 1))))) rfl (og rfl (op_assign rfl rfl rfl)) ?_
          refine rg_done rfl ?_
          have hx : (sEq (ix u k) s) = false := h3
          have hst : (((inO u s k) ++ [s]) ++ [(ix u k)]) = inO u s (k + 1) := by simp only [inO, h6, h7, Bool.not_true, Bool.not_false, Bool.false_and, Bool.and_false, Bool.and_self, cond_true, cond_false]
          have hsd : true = inD u s (k + 1) := by simp only [inD, h6, h7, Bool.true_or, Bool.or_true, Bool.or_false, Bool.false_or, Bool.or_self]
          show ∃ i, _ ∧ _ ∧ Imp _ _ _ _ _
          refine ⟨k + 1, ⟨by omega, fun q h => (Nat.lt_succ_iff_lt_or_eq.1 h).elim (hq q) (fun e => by rw [e]; exact hx)⟩, by omega, imp_ren (fun m => bif Nat.beq m 101 then 104 else m) rfl ⟨rfl, rfl, (by first | rfl | exact ci (by omega) | exact ci (by simp) | exact cd (by simp) | simp), (cd (congrArg (fun z => DV.fl (.bool z)) hsd)), rfl, trivial⟩ ⟨(congrArg (fun z => Ob.tr 9 1 (tD rS z)) hst), trivial⟩⟩
        · skip
          refine a_skip ?_
          show A _ _ _ _ _ _ _
          refine a_region ?_
          refine rg_put (d := 35) (v := .ow 101) rfl (og rfl (op_move rfl rfl rfl)) ?_
          refine rg_put (d := 36) (v := .d (.sl 1 (List.map rS u))) rfl (og rfl (op_move rfl rfl rfl)) ?_
          refine rg_put (d := 37) (v := .d (.fl (.int .i64 (k : Int)))) rfl (og rfl (op_move rfl rfl rfl)) ?_
          refine rg_put (d := 38) (v := .el ((rS (ix u k)))) rfl (og rfl (s_index rfl Tryz.underlying46 ti9 rfl rfl (by omega) (row_at (by omega)) rfl)) ?_
          refine rg_put (d := 39) (v := .d (.fl (.string (ix u k)))) rfl (og rfl (op_load_el rfl Tryz.underlying9 rfl rfl rfl rfl)) ?_
          refine rg_put (d := 40) (v := .d (.sl 1 (List.map rS [(ix u k)]))) rfl (og rfl (of_eff (op_slices rfl Tryz.underlying46 ti9 rfl rfl rfl (by kernel_rfl) (xs := [.fl (.string (ix u k))]) rfl rfl (.cons rfl rfl (.d _) rfl rfl rfl .nil) rfl) rfl)) ?_
          refine rg_nam (d := 41) (v := .ow 105) (m := 105) (nw := [(105, .tr 9 1 (tD rS (((inO u s k) ++ [(ix u k)])))), (101, .no)]) rfl (og rfl (of_eff (s_append_td 105 rfl Tryz.underlying46 ti9 rfl rfl rfl rfl rfl (.d _) (by simp only [List.length_append, List.length_cons, List.length_nil]; omega) rfl) rfl)) rfl ?_
          refine rg_put (d := 5) (v := .ow 105) rfl (og rfl (op_assign rfl rfl rfl)) ?_
          refine rg_done rfl ?_
          show A _ _ _ _ _ _ _
          refine a_region ?_
          refine rg_put (d := 12) (v := .d (.fl (.int .i64 (k : Int)))) rfl (og rfl (op_move rfl rfl rfl)) ?_
          refine rg_put (d := 13) (v := .d (.fl (.int .i64 (((k : Int) + 1))))) rfl (og rfl (op_bin rfl rfl rfl (fun x y w => b_add64 _ _ _ x y w (by omega)) rfl)) ?_
          refine rg_put (d := 7) (v := .d (.fl (.int .i64 (((k : Int) + 1))))) rfl (og rfl (op_assign rfl rfl rfl)) ?_
          refine rg_done rfl ?_
          have hx : (sEq (ix u k) s) = false := h3
          have hst : ((inO u s k) ++ [(ix u k)]) = inO u s (k + 1) := by simp only [inO, h6, h7, Bool.not_true, Bool.not_false, Bool.false_and, Bool.and_false, Bool.and_self, cond_true, cond_false]
          have hsd : (inD u s k) = inD u s (k + 1) := by simp only [inD, h6, h7, Bool.true_or, Bool.or_true, Bool.or_false, Bool.false_or, Bool.or_self]
          show ∃ i, _ ∧ _ ∧ Imp _ _ _ _ _
          refine ⟨k + 1, ⟨by omega, fun q h => (Nat.lt_succ_iff_lt_or_eq.1 h).elim (hq q) (fun e => by rw [e]; exact hx)⟩, by omega, imp_ren (fun m => bif Nat.beq m 101 then 105 else m) rfl ⟨rfl, rfl, (by first | rfl | exact ci (by omega) | exact ci (by simp) | exact cd (by simp) | simp), (cd (congrArg (fun z => DV.fl (.bool z)) hsd)), rfl, trivial⟩ ⟨(congrArg (fun z => Ob.tr 9 1 (tD rS z)) hst), trivial⟩⟩
  · skip
    have h8 := f_dec h1
    refine a_exit ?_
    show A _ _ _ _ _ _ _
    refine a_seq ?_
    refine a_rseq ?_
    refine rg_put (d := 42) (v := .d (.fl (.bool (inD u s k)))) rfl (og rfl (op_move rfl rfl rfl)) ?_
    refine rg_put (d := 43) (v := .d (.fl (.bool ((!(inD u s k)))))) rfl (og rfl (op_un rfl rfl (u_not _) rfl)) ?_
    refine rg_done rfl ?_
    refine a_cond rfl (fun h9 => ?_) (fun h9 => ?_)
    · skip
      have h10 := t_not h9
      refine a_region ?_
      refine rg_put (d := 44) (v := .ow 101) rfl (og rfl (op_move rfl rfl rfl)) ?_
      refine rg_put (d := 45) (v := .d (.fl (.string s))) rfl (og rfl (op_move rfl rfl rfl)) ?_
      refine rg_put (d := 46) (v := .d (.sl 1 (List.map rS [s]))) rfl (og rfl (of_eff (op_slices rfl Tryz.underlying46 ti9 rfl rfl rfl (by kernel_rfl) (xs := [.fl (.string s)]) rfl rfl (.cons rfl rfl (.d _) rfl rfl rfl .nil) rfl) rfl)) ?_
      refine rg_nam (d := 47) (v := .ow 106) (m := 106) (nw := [(106, .tr 9 1 (tD rS (((inO u s k) ++ [s])))), (101, .no)]) rfl (og rfl (of_eff (s_append_td 106 rfl Tryz.underlying46 ti9 rfl rfl rfl rfl rfl (.d _) (by simp only [List.length_append, List.length_cons, List.length_nil]; omega) rfl) rfl)) rfl ?_
      refine rg_put (d := 5) (v := .ow 106) rfl (og rfl (op_assign rfl rfl rfl)) ?_
      refine rg_done rfl ?_
      show A _ _ _ _ _ _ _
      refine a_rseq ?_
      refine rg_put (d := 48) (v := .ow 106) rfl (og rfl (op_move rfl rfl rfl)) ?_
      refine rg_put (d := 4) (v := .ow 106) rfl (og rfl (op_assign rfl rfl rfl)) ?_
      refine rg_done rfl ?_
      refine a_imp (imp_leakT 4 106 rfl rfl) ?_
      refine a_ret ?_
      show ∃ ds, ResL _ _ _ ds ∧ RV.of ds = _
      refine ⟨[.sl 1 (List.map rS (((inO u s k) ++ [s])))], (.cons (.tmp rfl (.d _)) .nil), ?_⟩
      have hkl : k = u.length := by omega
      rw [show insT u s = (inO u s k ++ [s]) from by unfold insT; rw [any_no (p := fun y => sEq y s) (fun q h => hq q (by omega)), ← hkl, h10]; rfl]; rfl
    · skip
      have h11 := f_not h9
      refine a_skip ?_
      show A _ _ _ _ _ _ _
      refine a_rseq ?_
      refine rg_put (d := 48) (v := .ow 101) rfl (og rfl (op_move rfl rfl rfl)) ?_
      refine rg_put (d := 4) (v := .ow 101) rfl (og rfl (op_assign rfl rfl rfl)) ?_
      refine rg_done rfl ?_
      refine a_imp (imp_leakT 4 101 rfl rfl) ?_
      refine a_ret ?_
      show ∃ ds, ResL _ _ _ ds ∧ RV.of ds = _
      refine ⟨[.sl 1 (List.map rS (inO u s k))], (.cons (.tmp rfl (.d _)) .nil), ?_⟩
      have hkl : k = u.length := by omega
      rw [show insT u s = inO u s k from by unfold insT; rw [any_no (p := fun y => sEq y s) (fun q h => hq q (by omega)), ← hkl, h11]; rfl]; rfl
end Go.Proofs.YtakmjlpciicaiaaGreatDoor.Wk
