/- Sources, identifiers, vehicles, both sides. Conditions: as each theorem names them. -/
import Derived.Lib.ItoaLen
import Derived.Test.YtgelodnkfajgjaaGreatDoorB6
set_option linter.unusedSimpArgs false
set_option linter.unusedVariables false
namespace Go.Proofs.YtgelodnkfajgjaaGreatDoor.Wk
open Go Go.RowKit Go.Shelf Go.Lib Go.Proofs.YtgelodnkfajgjaaGreatDoor Go.Proofs.YtgelodnkfajgjaaGreatDoor.Pm Go.Proofs.YtgelodnkfajgjaaGreatDoor.Av
set_option maxHeartbeats 4000000 in
set_option maxRecDepth 100000 in
theorem nrmC (s : ByteArray) (hs : s.size ≤ 100000) : CtrK Tryz.prog K2 28 [.fl (.string s)] (.d (.fl (.bool (nrmB s)))) := by
  refine ctrK (n := 17) (rs := #[.tmp 2]) (L := [(0, .d (.fl (.string s)))]) Tryz.func28 rfl rfl rfl rfl rfl (fun w0 U0 hG => ?_)
  refine a_rseq ?_
  refine rg_put (d := 2) (v := .d (.fl (.bool false))) rfl (og rfl (op_assign rfl rfl rfl)) ?_
  refine rg_done rfl ?_
  refine a_rseq ?_
  refine rg_put (d := 6) (v := .d (.fl (.string s))) rfl (og rfl (op_move rfl rfl rfl)) ?_
  refine rg_put (d := 7) (v := .tu [.fl (.string (nmS s)), .fl (.int .i64 (nmI s))]) rfl (og rfl (op_callK k2st hG rfl Tryz.func64 nm64 rfl (.cons rfl (.d _) .nil) ((k2_of (norC s (by omega)))) rfl)) ?_
  refine rg_put (d := 5) (v := .tu [.fl (.string (nmS s)), .fl (.int .i64 (nmI s))]) rfl (og rfl (op_move rfl rfl rfl)) ?_
  refine rg_put (d := 8) (v := .d (.fl (.string (nmS s)))) rfl (og rfl (op_extract rfl rfl rfl rfl)) ?_
  refine rg_put (d := 9) (v := .d (.fl (.int .i64 (nmI s)))) rfl (og rfl (op_extract rfl rfl rfl rfl)) ?_
  refine rg_put (d := 3) (v := .d (.fl (.string (nmS s)))) rfl (og rfl (op_assign rfl rfl rfl)) ?_
  refine rg_put (d := 4) (v := .d (.fl (.int .i64 (nmI s)))) rfl (og rfl (op_assign rfl rfl rfl)) ?_
  refine rg_done rfl ?_
  refine a_rseq ?_
  refine rg_put (d := 10) (v := .d (.fl (.int .i64 (nmI s)))) rfl (og rfl (op_move rfl rfl rfl)) ?_
  refine rg_put (d := 11) (v := .d (.fl (.bool (((nmI s) == 0))))) rfl (og rfl (op_bin rfl rfl rfl (b_eql _ _ _ _) rfl)) ?_
  refine rg_put (d := 12) (v := .d (.fl (.bool (((nmI s) == 0))))) rfl (og rfl (op_move rfl rfl rfl)) ?_
  rcases fot (((nmI s) == 0)) with h1 | h1
  · skip
    have h2 := f_beq h1
    refine rg_put (d := 13) (v := .d (.fl undef)) rfl (on rfl rfl rfl h1) ?_
    refine rg_put (d := 14) (v := .d (.fl undef)) rfl (on rfl rfl rfl h1) ?_
    refine rg_put (d := 15) (v := .d (.fl undef)) rfl (on rfl rfl rfl h1) ?_
    refine rg_put (d := 16) (v := .d (.fl (.bool false))) rfl (og rfl (op_pick rfl rfl (by rw [h1]; rfl) rfl)) ?_
    refine rg_put (d := 2) (v := .d (.fl (.bool false))) rfl (og rfl (op_assign rfl rfl rfl)) ?_
    refine rg_done rfl ?_
    refine a_ret ?_
    show ∃ ds, ResL _ _ _ ds ∧ RV.of ds = _
    refine ⟨[.fl (.bool false)], (.cons (.tmp rfl (.d _)) .nil), ?_⟩
    first
      | (have hu : nrmB s = false := by
          unfold nrmB; simp only [h1, Bool.true_or, Bool.false_or, Bool.or_true, Bool.or_false, Bool.not_true, Bool.not_false, cond_true, cond_false, Bool.true_and, Bool.false_and, Bool.and_true, Bool.and_false] <;> rfl
         rw [hu]; rfl)
      | (exfalso; omega)
  · skip
    have h3 := t_beq h1
    refine rg_put (d := 13) (v := .d (.fl (.string (nmS s)))) rfl (oy rfl rfl rfl h1 (op_move rfl rfl rfl)) ?_
    refine rg_put (d := 14) (v := .d (.fl (.string s))) rfl (oy rfl rfl rfl h1 (op_move rfl rfl rfl)) ?_
    refine rg_put (d := 15) (v := .d (.fl (.bool ((sEq (nmS s) s))))) rfl (oy rfl rfl rfl h1 (op_bin rfl rfl rfl (b_seq _ _ _) rfl)) ?_
    refine rg_put (d := 16) (v := .d (.fl (.bool ((sEq (nmS s) s))))) rfl (og rfl (op_pick rfl rfl (by rw [h1]; rfl) rfl)) ?_
    refine rg_put (d := 2) (v := .d (.fl (.bool ((sEq (nmS s) s))))) rfl (og rfl (op_assign rfl rfl rfl)) ?_
    refine rg_done rfl ?_
    refine a_ret ?_
    show ∃ ds, ResL _ _ _ ds ∧ RV.of ds = _
    refine ⟨[.fl (.bool ((sEq (nmS s) s)))], (.cons (.tmp rfl (.d _)) .nil), ?_⟩
    first
      | (have hu : nrmB s = (sEq (nmS s) s) := by
          unfold nrmB; simp only [h1, Bool.true_or, Bool.false_or, Bool.or_true, Bool.or_false, Bool.not_true, Bool.not_false, cond_true, cond_false, Bool.true_and, Bool.false_and, Bool.and_true, Bool.and_false] <;> rfl
         rw [hu]; rfl)
      | (exfalso; omega)
set_option maxHeartbeats 4000000 in
set_option maxRecDepth 100000 in
theorem csC (l : List Src) : Ctr Tryz.prog 29 [.sl 2 (List.map eSrc l)] (.d (.fl (.int .i64 (csE l)))) := by
  refine ctr (n := 48) (rs := #[.tmp 2]) (L := [(0, .d (.sl 2 (List.map eSrc l)))]) Tryz.func29 rfl rfl rfl rfl rfl (fun w0 U0 => ?_)
  refine a_rseq ?_
  refine rg_put (d := 2) (v := .d (.fl (.int .i64 0))) rfl (og rfl (op_assign rfl rfl rfl)) ?_
  refine rg_done rfl ?_
  refine a_seq ?_
  refine a_rseq ?_
  refine rg_put (d := 5) (v := .d (.sl 2 (List.map eSrc l))) rfl (og rfl (op_move rfl rfl rfl)) ?_
  refine rg_put (d := 6) (v := .d (.fl (.int .i64 (l.length : Int)))) rfl (og rfl (s_len rfl Tryz.underlying22 rfl rfl)) ?_
  refine rg_put (d := 7) (v := .d (.fl (.bool (((l.length : Int) == 0))))) rfl (og rfl (op_bin rfl rfl rfl (b_eql _ _ _ _) rfl)) ?_
  refine rg_put (d := 8) (v := .d (.fl (.bool (((l.length : Int) == 0))))) rfl (og rfl (op_move rfl rfl rfl)) ?_
  rcases fot (((l.length : Int) == 0)) with h1 | h1
  · skip
    have h2 := f_beq h1
    refine rg_put (d := 9) (v := .d (.sl 2 (List.map eSrc l))) rfl (oy rfl rfl rfl h1 (op_move rfl rfl rfl)) ?_
    refine rg_put (d := 10) (v := .d (.fl (.int .i64 (l.length : Int)))) rfl (oy rfl rfl rfl h1 (s_len rfl Tryz.underlying22 rfl rfl)) ?_
    refine rg_put (d := 11) (v := .d (.fl (.bool ((decide (24 < (l.length : Int))))))) rfl (oy rfl rfl rfl h1 (op_bin rfl rfl rfl (b_gtr _ _ _ _) rfl)) ?_
    refine rg_put (d := 12) (v := .d (.fl (.bool ((decide (24 < (l.length : Int))))))) rfl (og rfl (op_pick rfl rfl (by rw [h1]; rfl) rfl)) ?_
    refine rg_done rfl ?_
    refine a_cond rfl (fun h3 => ?_) (fun h3 => ?_)
    · skip
      have h4 := t_dec h3
      refine a_rseq ?_
      refine rg_put (d := 2) (v := .d (.fl (.int .i64 3))) rfl (og rfl (op_assign rfl rfl rfl)) ?_
      refine rg_done rfl ?_
      refine a_ret ?_
      show ∃ ds, ResL _ _ _ ds ∧ RV.of ds = _
      refine ⟨[.fl (.int .i64 3)], (.cons (.tmp rfl (.d _)) .nil), ?_⟩
      have hlim : (decide ((l.length : Int) < 1) || decide (24 < (l.length : Int))) = true := by rw [Bool.or_eq_true, decide_eq_true_eq, decide_eq_true_eq]; omega
      rw [cs_l hlim]; rfl
    · skip
      have h5 := f_dec h3
      refine a_skip ?_
      show A _ _ _ _ _ _ _
      refine a_seq ?_
      refine a_rseq ?_
      refine rg_put (d := 13) (v := .d (.sl 2 (List.map eSrc l))) rfl (og rfl (op_move rfl rfl rfl)) ?_
      refine rg_put (d := 14) (v := .d (.fl (.int .i64 (l.length : Int)))) rfl (og rfl (s_len rfl Tryz.underlying22 rfl rfl)) ?_
      refine rg_put (d := 15) (v := .d (.fl (.int .i64 0))) rfl (og rfl (op_move rfl rfl rfl)) ?_
      refine rg_done rfl ?_
      refine a_block ?_
      refine a_loop (ι := Nat) (fun k => SS [(0, .d (.sl 2 (List.map eSrc l))), (12, .d (.fl (.bool ((decide (24 < (l.length : Int))))))), (13, .d (.sl 2 (List.map eSrc l))), (14, .d (.fl (.int .i64 (l.length : Int)))), (15, .d (.fl (.int .i64 (k : Int))))] []) (fun k => k ≤ l.length ∧ srE l = fe (sr1 l) k (l.length - k)) (fun k => l.length - k) 0 (⟨by omega, rfl⟩) (imp_forget rfl ⟨rfl, rfl, rfl, rfl, (by first | rfl | exact ci (by omega) | exact ci (by simp) | exact cd (by simp) | simp), trivial⟩ trivial) (fun k hok => ?_)
      obtain ⟨hk, hc⟩ := hok
      refine a_rseq ?_
      refine rg_put (d := 16) (v := .d (.fl (.bool ((decide ((k : Int) < (l.length : Int))))))) rfl (og rfl (op_bin rfl rfl rfl (b_lss _ _ _ _) rfl)) ?_
      refine rg_done rfl ?_
      refine a_seq ?_
      refine a_cond rfl (fun h6 => ?_) (fun h6 => ?_)
      · skip
        have h7 := t_dec h6
        refine a_skip ?_
        show A _ _ _ _ _ _ _
        refine a_seq ?_
        refine a_block ?_
        refine a_rseq ?_
        refine rg_put (d := 17) (v := .d (.fl (.int .i64 (k : Int)))) rfl (og rfl (op_move rfl rfl rfl)) ?_
        refine rg_put (d := 18) (v := .el ((eSrc (ix l k)))) rfl (og rfl (s_index rfl Tryz.underlying22 ti51 rfl rfl (by omega) (row_at (by omega)) rfl)) ?_
        refine rg_put (d := 19) (v := .d (.ag (eSrc (ix l k)))) rfl (og rfl (of_eff (s_load_els rfl Tryz.underlying51 rfl ti51 rfl rfl rfl) rfl)) ?_
        refine rg_nam (d := 4) (v := .pt 101 0) (m := 101) (nw := [(101, .bx 51 ([.fl (.string (⟨#[]⟩)), .fl (.int .i64 0)]))]) rfl (og rfl (of_eff (s_alloc 101 rfl ti51 (by kernel_rfl) rfl) rfl)) rfl ?_
        refine rg_put (d := 3) (v := .d (.fl (.int .i64 (k : Int)))) rfl (og rfl (op_assign rfl rfl rfl)) ?_
        refine rg_sto (nw := [(101, .bx 51 ((eSrc (ix l k))))]) rfl (og rfl (of_eff (s_store rfl rfl ti51 rfl rfl rfl rfl rfl rfl) rfl)) ?_
        refine rg_done rfl ?_
        refine a_block ?_
        refine a_rseq ?_
        refine rg_put (d := 21) (v := .pt 101 0) rfl (og rfl (of_eff (s_field_pt rfl Tryz.underlying51 rfl ti9 rfl rfl rfl) rfl)) ?_
        refine rg_put (d := 22) (v := .d (.fl (.string ((ix l k).dev)))) rfl (og rfl (op_load_pt rfl Tryz.underlying9 rfl rfl rfl rfl rfl)) ?_
        refine rg_put (d := 23) (v := .d (.fl (.bool ((Nm.nmB ((ix l k).dev)))))) rfl (og rfl (op_call rfl Tryz.func65 nm65 rfl (.cons rfl (.d _) .nil) (nmC ((ix l k).dev)) rfl)) ?_
        refine rg_put (d := 24) (v := .d (.fl (.bool ((!((Nm.nmB ((ix l k).dev)))))))) rfl (og rfl (op_un rfl rfl (u_not _) rfl)) ?_
        refine rg_put (d := 20) (v := .d (.fl (.bool ((!((Nm.nmB ((ix l k).dev)))))))) rfl (og rfl (op_assign rfl rfl rfl)) ?_
        refine rg_done rfl ?_
        refine a_cond rfl (fun h8 => ?_) (fun h8 => ?_)
        · skip
          have h9 := t_not h8
          refine a_rseq ?_
          refine rg_put (d := 2) (v := .d (.fl (.int .i64 6))) rfl (og rfl (op_assign rfl rfl rfl)) ?_
          refine rg_done rfl ?_
          refine a_ret ?_
          show ∃ ds, ResL _ _ _ ds ∧ RV.of ds = _
          refine ⟨[.fl (.int .i64 6)], (.cons (.tmp rfl (.d _)) .nil), ?_⟩
          have hlim : (decide ((l.length : Int) < 1) || decide (24 < (l.length : Int))) = false := by rw [Bool.or_eq_false_iff, decide_eq_false_iff_not, decide_eq_false_iff_not]; omega
          have hb : sr1 l k = 6 := by unfold sr1; simp only [h1, h3, h6, h8, h9, Bool.true_or, Bool.false_or, Bool.or_true, Bool.or_false, Bool.not_true, Bool.not_false, cond_true, cond_false, Bool.true_and, Bool.false_and, Bool.and_true, Bool.and_false] <;> rfl
          rw [cs_s hlim, show srE l = 6 from fe_yes (by omega) hc hb (by decide)]; rfl
        · skip
          have h10 := f_not h8
          refine a_rseq ?_
          refine rg_put (d := 26) (v := .pt 101 1) rfl (og rfl (of_eff (s_field_pt rfl Tryz.underlying51 rfl ti3 rfl rfl rfl) rfl)) ?_
          refine rg_put (d := 27) (v := .d (.fl (.int .i64 ((ix l k).seq)))) rfl (og rfl (op_load_pt rfl Tryz.underlying3 rfl rfl rfl rfl rfl)) ?_
          refine rg_put (d := 28) (v := .d (.fl (.bool ((decide ((ix l k).seq < 0)))))) rfl (og rfl (op_bin rfl rfl rfl (b_lss _ _ _ _) rfl)) ?_
          refine rg_put (d := 29) (v := .d (.fl (.bool ((decide ((ix l k).seq < 0)))))) rfl (og rfl (op_move rfl rfl rfl)) ?_
          rcases fot ((decide ((ix l k).seq < 0))) with h11 | h11
          · skip
            have h12 := f_dec h11
            refine rg_put (d := 30) (v := .pt 101 1) rfl (oy rfl rfl rfl h11 (of_eff (s_field_pt rfl Tryz.underlying51 rfl ti3 rfl rfl rfl) rfl)) ?_
            refine rg_put (d := 31) (v := .d (.fl (.int .i64 ((ix l k).seq)))) rfl (oy rfl rfl rfl h11 (op_load_pt rfl Tryz.underlying3 rfl rfl rfl rfl rfl)) ?_
            refine rg_put (d := 32) (v := .d (.fl (.bool ((decide (2147483648 < (ix l k).seq)))))) rfl (oy rfl rfl rfl h11 (op_bin rfl rfl rfl (b_gtr _ _ _ _) rfl)) ?_
            refine rg_put (d := 33) (v := .d (.fl (.bool ((decide (2147483648 < (ix l k).seq)))))) rfl (og rfl (op_pick rfl rfl (by rw [h11]; rfl) rfl)) ?_
            refine rg_put (d := 25) (v := .d (.fl (.bool ((decide (2147483648 < (ix l k).seq)))))) rfl (og rfl (op_assign rfl rfl rfl)) ?_
            refine rg_done rfl ?_
            refine a_cond rfl (fun h13 => ?_) (fun h13 => ?_)
            · skip
              have h14 := t_dec h13
              refine a_rseq ?_
              refine rg_put (d := 2) (v := .d (.fl (.int .i64 2))) rfl (og rfl (op_assign rfl rfl rfl)) ?_
              refine rg_done rfl ?_
              refine a_ret ?_
              show ∃ ds, ResL _ _ _ ds ∧ RV.of ds = _
              refine ⟨[.fl (.int .i64 2)], (.cons (.tmp rfl (.d _)) .nil), ?_⟩
              have hlim : (decide ((l.length : Int) < 1) || decide (24 < (l.length : Int))) = false := by rw [Bool.or_eq_false_iff, decide_eq_false_iff_not, decide_eq_false_iff_not]; omega
              have hb : sr1 l k = 2 := by unfold sr1; simp only [h1, h3, h6, h8, h10, h11, h13, Bool.true_or, Bool.false_or, Bool.or_true, Bool.or_false, Bool.not_true, Bool.not_false, cond_true, cond_false, Bool.true_and, Bool.false_and, Bool.and_true, Bool.and_false] <;> rfl
              rw [cs_s hlim, show srE l = 2 from fe_yes (by omega) hc hb (by decide)]; rfl
            · skip
              have h15 := f_dec h13
              refine a_dseq (by kernel_rfl) ?_
              refine dr_put (d := 35) (v := .d (.fl (.int .i64 (k : Int)))) rfl (og rfl (op_move rfl rfl rfl)) ?_
              refine dr_put (d := 36) (v := .d (.fl (.bool ((decide (0 < (k : Int))))))) rfl (og rfl (op_bin rfl rfl rfl (b_gtr _ _ _ _) rfl)) ?_
              refine dr_put (d := 37) (v := .d (.fl (.bool ((decide (0 < (k : Int))))))) rfl (og rfl (op_move rfl rfl rfl)) ?_
              rcases fot ((decide (0 < (k : Int)))) with h16 | h16
              · skip
                have h17 := f_dec h16
                refine dr_put (d := 38) (v := .d (.fl undef)) rfl (on rfl rfl rfl h16) ?_
                refine dr_put (d := 39) (v := .d (.fl undef)) rfl (on rfl rfl rfl h16) ?_
                refine dr_put (d := 40) (v := .d (.fl undef)) rfl (on rfl rfl rfl h16) ?_
                refine dr_put (d := 41) (v := .d (.fl undef)) rfl (on rfl rfl rfl h16) ?_
                refine dr_put (d := 42) (v := .d (.fl undef)) rfl (on rfl rfl rfl h16) ?_
                refine dr_put (d := 43) (v := .d (.fl undef)) rfl (on rfl rfl rfl h16) ?_
                refine dr_put (d := 44) (v := .d (.fl undef)) rfl (on rfl rfl rfl h16) ?_
                refine dr_put (d := 45) (v := .d (.fl undef)) rfl (on rfl rfl rfl h16) ?_
                refine dr_put (d := 46) (v := .d (.fl (.bool false))) rfl (og rfl (op_pick rfl rfl (by rw [h16]; rfl) rfl)) ?_
                refine dr_put (d := 34) (v := .d (.fl (.bool false))) rfl (og rfl (op_assign rfl rfl rfl)) ?_
                refine dr_done rfl (by kernel_rfl) (by kernel_rfl) ?_
                refine a_condF rfl rfl ?_
                refine a_skip ?_
                show A _ _ _ _ _ _ _
                refine a_region ?_
                refine rg_put (d := 47) (v := .d (.fl (.int .i64 (((k : Int) + 1))))) rfl (og rfl (op_bin rfl rfl rfl (fun x y w => b_add64 _ _ _ x y w (by omega)) rfl)) ?_
                refine rg_put (d := 15) (v := .d (.fl (.int .i64 (((k : Int) + 1))))) rfl (og rfl (op_move rfl rfl rfl)) ?_
                refine rg_done rfl ?_
                have hb : sr1 l k = 0 := by unfold sr1; simp only [h1, h3, h6, h8, h10, h11, h13, h16, Bool.true_or, Bool.false_or, Bool.or_true, Bool.or_false, Bool.not_true, Bool.not_false, cond_true, cond_false, Bool.true_and, Bool.false_and, Bool.and_true, Bool.and_false] <;> rfl
                show ∃ i, _ ∧ _ ∧ Imp _ _ _ _ _
                refine ⟨k + 1, ⟨by omega, fe_no (by omega) hc hb⟩, by omega, imp_forget rfl ⟨rfl, rfl, rfl, rfl, (by first | rfl | exact ci (by omega) | exact ci (by simp) | exact cd (by simp) | simp), trivial⟩ trivial⟩
              · skip
                have h18 := t_dec h16
                refine dr_put (d := 38) (v := .d (.sl 2 (List.map eSrc l))) rfl (oy rfl rfl rfl h16 (op_move rfl rfl rfl)) ?_
                refine dr_put (d := 39) (v := .d (.fl (.int .i64 (k : Int)))) rfl (oy rfl rfl rfl h16 (op_move rfl rfl rfl)) ?_
                refine dr_put (d := 40) (v := .d (.fl (.int .i64 (((k : Int) - 1))))) rfl (oy rfl rfl rfl h16 (op_bin rfl rfl rfl (fun x y w => b_sub64 _ _ _ x y w (by omega)) rfl)) ?_
                refine dr_put (d := 41) (v := .el ((eSrc ((ix l (((k : Int) - 1)).toNat))))) rfl (oy rfl rfl rfl h16 (s_index rfl Tryz.underlying22 ti51 rfl rfl (by omega) (row_atI (by omega) (by omega)) rfl)) ?_
                refine dr_put (d := 42) (v := .d (.ag (eSrc (((ix l (((k : Int) - 1)).toNat)))))) rfl (oy rfl rfl rfl h16 (of_eff (s_load_els rfl Tryz.underlying51 rfl ti51 rfl rfl rfl) rfl)) ?_
                refine dr_put (d := 43) (v := .d (.ag (eSrc (ix l k)))) rfl (oy rfl rfl rfl h16 (of_eff (s_load_pts rfl Tryz.underlying51 rfl ti51 rfl rfl rfl rfl) rfl)) ?_
                refine dr_put (d := 44) (v := .d (.fl (.int .i64 ((so (((ix l (((k : Int) - 1)).toNat))) (ix l k)))))) rfl (oy rfl rfl rfl h16 (op_call rfl Tryz.func66 nm66 rfl (.cons rfl (.d _) (.cons rfl (.d _) .nil)) (soC (((ix l (((k : Int) - 1)).toNat))) (ix l k)) rfl)) ?_
                refine dr_put (d := 45) (v := .d (.fl (.bool ((decide (0 ≤ (so (((ix l (((k : Int) - 1)).toNat))) (ix l k)))))))) rfl (oy rfl rfl rfl h16 (op_bin rfl rfl rfl (b_geq _ _ _ _) rfl)) ?_
                refine dr_put (d := 46) (v := .d (.fl (.bool ((decide (0 ≤ (so (((ix l (((k : Int) - 1)).toNat))) (ix l k)))))))) rfl (og rfl (op_pick rfl rfl (by rw [h16]; rfl) rfl)) ?_
                refine dr_put (d := 34) (v := .d (.fl (.bool ((decide (0 ≤ (so (((ix l (((k : Int) - 1)).toNat))) (ix l k)))))))) rfl (og rfl (op_assign rfl rfl rfl)) ?_
                refine dr_done rfl (by kernel_rfl) (by kernel_rfl) ?_
                refine a_cond rfl (fun h19 => ?_) (fun h19 => ?_)
                · skip
                  have h20 := t_dec h19
                  refine a_rseq ?_
                  refine rg_put (d := 2) (v := .d (.fl (.int .i64 15))) rfl (og rfl (op_assign rfl rfl rfl)) ?_
                  refine rg_done rfl ?_
                  refine a_ret ?_
                  show ∃ ds, ResL _ _ _ ds ∧ RV.of ds = _
                  refine ⟨[.fl (.int .i64 15)], (.cons (.tmp rfl (.d _)) .nil), ?_⟩
                  have hlim : (decide ((l.length : Int) < 1) || decide (24 < (l.length : Int))) = false := by rw [Bool.or_eq_false_iff, decide_eq_false_iff_not, decide_eq_false_iff_not]; omega
                  have hb : sr1 l k = 15 := by unfold sr1; simp only [h1, h3, h6, h8, h10, h11, h13, h16, h19, Bool.true_or, Bool.false_or, Bool.or_true, Bool.or_false, Bool.not_true, Bool.not_false, cond_true, cond_false, Bool.true_and, Bool.false_and, Bool.and_true, Bool.and_false] <;> rfl
                  rw [cs_s hlim, show srE l = 15 from fe_yes (by omega) hc hb (by decide)]; rfl
                · skip
                  have h21 := f_dec h19
                  refine a_skip ?_
                  show A _ _ _ _ _ _ _
                  refine a_region ?_
                  refine rg_put (d := 47) (v := .d (.fl (.int .i64 (((k : Int) + 1))))) rfl (og rfl (op_bin rfl rfl rfl (fun x y w => b_add64 _ _ _ x y w (by omega)) rfl)) ?_
                  refine rg_put (d := 15) (v := .d (.fl (.int .i64 (((k : Int) + 1))))) rfl (og rfl (op_move rfl rfl rfl)) ?_
                  refine rg_done rfl ?_
                  have hb : sr1 l k = 0 := by unfold sr1; simp only [h1, h3, h6, h8, h10, h11, h13, h16, h19, Bool.true_or, Bool.false_or, Bool.or_true, Bool.or_false, Bool.not_true, Bool.not_false, cond_true, cond_false, Bool.true_and, Bool.false_and, Bool.and_true, Bool.and_false] <;> rfl
                  show ∃ i, _ ∧ _ ∧ Imp _ _ _ _ _
                  refine ⟨k + 1, ⟨by omega, fe_no (by omega) hc hb⟩, by omega, imp_forget rfl ⟨rfl, rfl, rfl, rfl, (by first | rfl | exact ci (by omega) | exact ci (by simp) | exact cd (by simp) | simp), trivial⟩ trivial⟩
          · skip
            have h22 := t_dec h11
            refine rg_put (d := 30) (v := .d (.fl undef)) rfl (on rfl rfl rfl h11) ?_
            refine rg_put (d := 31) (v := .d (.fl undef)) rfl (on rfl rfl rfl h11) ?_
            refine rg_put (d := 32) (v := .d (.fl undef)) rfl (on rfl rfl rfl h11) ?_
            refine rg_put (d := 33) (v := .d (.fl (.bool true))) rfl (og rfl (op_pick rfl rfl (by rw [h11]; rfl) rfl)) ?_
            refine rg_put (d := 25) (v := .d (.fl (.bool true))) rfl (og rfl (op_assign rfl rfl rfl)) ?_
            refine rg_done rfl ?_
            refine a_condK rfl rfl ?_
            refine a_rseq ?_
            refine rg_put (d := 2) (v := .d (.fl (.int .i64 2))) rfl (og rfl (op_assign rfl rfl rfl)) ?_
            refine rg_done rfl ?_
            refine a_ret ?_
            show ∃ ds, ResL _ _ _ ds ∧ RV.of ds = _
            refine ⟨[.fl (.int .i64 2)], (.cons (.tmp rfl (.d _)) .nil), ?_⟩
            have hlim : (decide ((l.length : Int) < 1) || decide (24 < (l.length : Int))) = false := by rw [Bool.or_eq_false_iff, decide_eq_false_iff_not, decide_eq_false_iff_not]; omega
            have hb : sr1 l k = 2 := by unfold sr1; simp only [h1, h3, h6, h8, h10, h11, Bool.true_or, Bool.false_or, Bool.or_true, Bool.or_false, Bool.not_true, Bool.not_false, cond_true, cond_false, Bool.true_and, Bool.false_and, Bool.and_true, Bool.and_false] <;> rfl
            rw [cs_s hlim, show srE l = 2 from fe_yes (by omega) hc hb (by decide)]; rfl
      · skip
        have h23 := f_dec h6
        refine a_exit ?_
        show A _ _ _ _ _ _ _
        refine a_rseq ?_
        refine rg_put (d := 2) (v := .d (.fl (.int .i64 0))) rfl (og rfl (op_assign rfl rfl rfl)) ?_
        refine rg_done rfl ?_
        refine a_ret ?_
        show ∃ ds, ResL _ _ _ ds ∧ RV.of ds = _
        refine ⟨[.fl (.int .i64 0)], (.cons (.tmp rfl (.d _)) .nil), ?_⟩
        have hlim : (decide ((l.length : Int) < 1) || decide (24 < (l.length : Int))) = false := by rw [Bool.or_eq_false_iff, decide_eq_false_iff_not, decide_eq_false_iff_not]; omega
        rw [cs_s hlim, show srE l = 0 from by rw [fe_end (by omega)] at hc; exact hc]; rfl
  · skip
    have h24 := t_beq h1
    refine rg_put (d := 9) (v := .d (.fl undef)) rfl (on rfl rfl rfl h1) ?_
    refine rg_put (d := 10) (v := .d (.fl undef)) rfl (on rfl rfl rfl h1) ?_
    refine rg_put (d := 11) (v := .d (.fl undef)) rfl (on rfl rfl rfl h1) ?_
    refine rg_put (d := 12) (v := .d (.fl (.bool true))) rfl (og rfl (op_pick rfl rfl (by rw [h1]; rfl) rfl)) ?_
    refine rg_done rfl ?_
    refine a_condK rfl rfl ?_
    refine a_rseq ?_
    refine rg_put (d := 2) (v := .d (.fl (.int .i64 3))) rfl (og rfl (op_assign rfl rfl rfl)) ?_
    refine rg_done rfl ?_
    refine a_ret ?_
    show ∃ ds, ResL _ _ _ ds ∧ RV.of ds = _
    refine ⟨[.fl (.int .i64 3)], (.cons (.tmp rfl (.d _)) .nil), ?_⟩
    have hlim : (decide ((l.length : Int) < 1) || decide (24 < (l.length : Int))) = true := by rw [Bool.or_eq_true, decide_eq_true_eq, decide_eq_true_eq]; omega
    rw [cs_l hlim]; rfl
set_option maxHeartbeats 4000000 in
set_option maxRecDepth 100000 in
theorem srR (l : List Src) (k : Nat) (hk : k < l.length) (hl : l.length ≤ 1000) (hd : ∀ q, q < l.length → (ix l q).dev.size ≤ 40) : Ctr Tryz.prog 34 [.sl 2 (List.map eSrc l), .fl (.int .i64 (k : Int))] (.d (.fl (.int .i64 (sr1 l k)))) := by
  refine ctr (n := 41) (rs := #[.tmp 4]) (L := [(0, .d (.sl 2 (List.map eSrc l))), (1, .d (.fl (.int .i64 (k : Int))))]) Tryz.func34 rfl rfl rfl rfl rfl (fun w0 U0 => ?_)
  refine a_rseq ?_
  refine rg_put (d := 4) (v := .d (.fl (.int .i64 0))) rfl (og rfl (op_assign rfl rfl rfl)) ?_
  refine rg_done rfl ?_
  refine a_seq ?_
  refine a_rseq ?_
  refine rg_put (d := 5) (v := .d (.sl 2 (List.map eSrc l))) rfl (og rfl (op_move rfl rfl rfl)) ?_
  refine rg_put (d := 6) (v := .d (.fl (.int .i64 (k : Int)))) rfl (og rfl (op_move rfl rfl rfl)) ?_
  refine rg_put (d := 7) (v := .el ((eSrc (ix l k)))) rfl (og rfl (s_index rfl Tryz.underlying22 ti51 rfl rfl (by omega) (row_at (by omega)) rfl)) ?_
  refine rg_put (d := 8) (v := .el ((List.drop 0 ((eSrc (ix l k)))))) rfl (og rfl (of_eff (s_field_el rfl Tryz.underlying51 rfl ti9 rfl rfl rfl) rfl)) ?_
  refine rg_put (d := 9) (v := .d (.fl (.string ((ix l k).dev)))) rfl (og rfl (op_load_el rfl Tryz.underlying9 rfl rfl rfl rfl)) ?_
  refine rg_put (d := 10) (v := .d (.fl (.bool ((Nm.nmB ((ix l k).dev)))))) rfl (og rfl (op_call rfl Tryz.func70 nm70 rfl (.cons rfl (.d _) .nil) (nmR ((ix l k).dev)) rfl)) ?_
  refine rg_put (d := 11) (v := .d (.fl (.bool ((!((Nm.nmB ((ix l k).dev)))))))) rfl (og rfl (op_un rfl rfl (u_not _) rfl)) ?_
  refine rg_done rfl ?_
  refine a_cond rfl (fun h1 => ?_) (fun h1 => ?_)
  · skip
    have h2 := t_not h1
    refine a_rseq ?_
    refine rg_put (d := 4) (v := .d (.fl (.int .i64 6))) rfl (og rfl (op_assign rfl rfl rfl)) ?_
    refine rg_done rfl ?_
    refine a_ret ?_
    show ∃ ds, ResL _ _ _ ds ∧ RV.of ds = _
    refine ⟨[.fl (.int .i64 6)], (.cons (.tmp rfl (.d _)) .nil), ?_⟩
    rw [show sr1 l k = 6 from by unfold sr1; simp only [h1, h2, Bool.true_or, Bool.false_or, Bool.or_true, Bool.or_false, Bool.not_true, Bool.not_false, cond_true, cond_false, Bool.true_and, Bool.false_and, Bool.and_true, Bool.and_false] <;> rfl]; rfl
  · skip
    have h3 := f_not h1
    refine a_skip ?_
    show A _ _ _ _ _ _ _
    refine a_seq ?_
    refine a_rseq ?_
    refine rg_put (d := 12) (v := .d (.sl 2 (List.map eSrc l))) rfl (og rfl (op_move rfl rfl rfl)) ?_
    refine rg_put (d := 13) (v := .d (.fl (.int .i64 (k : Int)))) rfl (og rfl (op_move rfl rfl rfl)) ?_
    refine rg_put (d := 14) (v := .el ((eSrc (ix l k)))) rfl (og rfl (s_index rfl Tryz.underlying22 ti51 rfl rfl (by omega) (row_at (by omega)) rfl)) ?_
    refine rg_put (d := 15) (v := .el ((List.drop 1 ((eSrc (ix l k)))))) rfl (og rfl (of_eff (s_field_el rfl Tryz.underlying51 rfl ti3 rfl rfl rfl) rfl)) ?_
    refine rg_put (d := 16) (v := .d (.fl (.int .i64 ((ix l k).seq)))) rfl (og rfl (op_load_el rfl Tryz.underlying3 rfl rfl rfl rfl)) ?_
    refine rg_put (d := 17) (v := .d (.fl (.bool ((decide ((ix l k).seq < 0)))))) rfl (og rfl (op_bin rfl rfl rfl (b_lss _ _ _ _) rfl)) ?_
    refine rg_put (d := 18) (v := .d (.fl (.bool ((decide ((ix l k).seq < 0)))))) rfl (og rfl (op_move rfl rfl rfl)) ?_
    rcases fot ((decide ((ix l k).seq < 0))) with h4 | h4
    · skip
      have h5 := f_dec h4
      refine rg_put (d := 19) (v := .d (.sl 2 (List.map eSrc l))) rfl (oy rfl rfl rfl h4 (op_move rfl rfl rfl)) ?_
      refine rg_put (d := 20) (v := .d (.fl (.int .i64 (k : Int)))) rfl (oy rfl rfl rfl h4 (op_move rfl rfl rfl)) ?_
      refine rg_put (d := 21) (v := .el ((eSrc (ix l k)))) rfl (oy rfl rfl rfl h4 (s_index rfl Tryz.underlying22 ti51 rfl rfl (by omega) (row_at (by omega)) rfl)) ?_
      refine rg_put (d := 22) (v := .el ((List.drop 1 ((eSrc (ix l k)))))) rfl (oy rfl rfl rfl h4 (of_eff (s_field_el rfl Tryz.underlying51 rfl ti3 rfl rfl rfl) rfl)) ?_
      refine rg_put (d := 23) (v := .d (.fl (.int .i64 ((ix l k).seq)))) rfl (oy rfl rfl rfl h4 (op_load_el rfl Tryz.underlying3 rfl rfl rfl rfl)) ?_
      refine rg_put (d := 24) (v := .d (.fl (.bool ((decide (2147483648 < (ix l k).seq)))))) rfl (oy rfl rfl rfl h4 (op_bin rfl rfl rfl (b_gtr _ _ _ _) rfl)) ?_
      refine rg_put (d := 25) (v := .d (.fl (.bool ((decide (2147483648 < (ix l k).seq)))))) rfl (og rfl (op_pick rfl rfl (by rw [h4]; rfl) rfl)) ?_
      refine rg_done rfl ?_
      refine a_cond rfl (fun h6 => ?_) (fun h6 => ?_)
      · skip
        have h7 := t_dec h6
        refine a_rseq ?_
        refine rg_put (d := 4) (v := .d (.fl (.int .i64 2))) rfl (og rfl (op_assign rfl rfl rfl)) ?_
        refine rg_done rfl ?_
        refine a_ret ?_
        show ∃ ds, ResL _ _ _ ds ∧ RV.of ds = _
        refine ⟨[.fl (.int .i64 2)], (.cons (.tmp rfl (.d _)) .nil), ?_⟩
        rw [show sr1 l k = 2 from by unfold sr1; simp only [h1, h3, h4, h6, Bool.true_or, Bool.false_or, Bool.or_true, Bool.or_false, Bool.not_true, Bool.not_false, cond_true, cond_false, Bool.true_and, Bool.false_and, Bool.and_true, Bool.and_false] <;> rfl]; rfl
      · skip
        have h8 := f_dec h6
        refine a_skip ?_
        show A _ _ _ _ _ _ _
        refine a_seq ?_
        refine a_dseq (by kernel_rfl) ?_
        refine dr_put (d := 26) (v := .d (.fl (.int .i64 (k : Int)))) rfl (og rfl (op_move rfl rfl rfl)) ?_
        refine dr_put (d := 27) (v := .d (.fl (.bool ((decide (0 < (k : Int))))))) rfl (og rfl (op_bin rfl rfl rfl (b_gtr _ _ _ _) rfl)) ?_
        refine dr_put (d := 28) (v := .d (.fl (.bool ((decide (0 < (k : Int))))))) rfl (og rfl (op_move rfl rfl rfl)) ?_
        rcases fot ((decide (0 < (k : Int)))) with h9 | h9
        · skip
          have h10 := f_dec h9
          refine dr_put (d := 29) (v := .d (.fl undef)) rfl (on rfl rfl rfl h9) ?_
          refine dr_put (d := 30) (v := .d (.fl undef)) rfl (on rfl rfl rfl h9) ?_
          refine dr_put (d := 31) (v := .d (.fl undef)) rfl (on rfl rfl rfl h9) ?_
          refine dr_put (d := 32) (v := .d (.fl undef)) rfl (on rfl rfl rfl h9) ?_
          refine dr_put (d := 33) (v := .d (.fl undef)) rfl (on rfl rfl rfl h9) ?_
          refine dr_put (d := 34) (v := .d (.fl undef)) rfl (on rfl rfl rfl h9) ?_
          refine dr_put (d := 35) (v := .d (.fl undef)) rfl (on rfl rfl rfl h9) ?_
          refine dr_put (d := 36) (v := .d (.fl undef)) rfl (on rfl rfl rfl h9) ?_
          refine dr_put (d := 37) (v := .d (.fl undef)) rfl (on rfl rfl rfl h9) ?_
          refine dr_put (d := 38) (v := .d (.fl undef)) rfl (on rfl rfl rfl h9) ?_
          refine dr_put (d := 39) (v := .d (.fl undef)) rfl (on rfl rfl rfl h9) ?_
          refine dr_put (d := 40) (v := .d (.fl (.bool false))) rfl (og rfl (op_pick rfl rfl (by rw [h9]; rfl) rfl)) ?_
          refine dr_done rfl (sepB_of [0, 1, 3, 7, 7, 23, 63, 127, 7, 7, 775, 1799, 4095, 8191, 16383] (by kernel_rfl)) (by kernel_rfl) ?_
          refine a_condF rfl rfl ?_
          refine a_skip ?_
          show A _ _ _ _ _ _ _
          refine a_rseq ?_
          refine rg_put (d := 4) (v := .d (.fl (.int .i64 0))) rfl (og rfl (op_assign rfl rfl rfl)) ?_
          refine rg_done rfl ?_
          refine a_ret ?_
          show ∃ ds, ResL _ _ _ ds ∧ RV.of ds = _
          refine ⟨[.fl (.int .i64 0)], (.cons (.tmp rfl (.d _)) .nil), ?_⟩
          rw [show sr1 l k = 0 from by unfold sr1; simp only [h1, h3, h4, h6, h9, Bool.true_or, Bool.false_or, Bool.or_true, Bool.or_false, Bool.not_true, Bool.not_false, cond_true, cond_false, Bool.true_and, Bool.false_and, Bool.and_true, Bool.and_false] <;> rfl]; rfl
        · skip
          have h11 := t_dec h9
          refine dr_put (d := 29) (v := .d (.sl 2 (List.map eSrc l))) rfl (oy rfl rfl rfl h9 (op_move rfl rfl rfl)) ?_
          refine dr_put (d := 30) (v := .d (.fl (.int .i64 (k : Int)))) rfl (oy rfl rfl rfl h9 (op_move rfl rfl rfl)) ?_
          refine dr_put (d := 31) (v := .d (.fl (.int .i64 (((k : Int) - 1))))) rfl (oy rfl rfl rfl h9 (op_bin rfl rfl rfl (fun x y w => b_sub64 _ _ _ x y w (by omega)) rfl)) ?_
          refine dr_put (d := 32) (v := .el ((eSrc ((ix l (((k : Int) - 1)).toNat))))) rfl (oy rfl rfl rfl h9 (s_index rfl Tryz.underlying22 ti51 rfl rfl (by omega) (row_atI (by omega) (by omega)) rfl)) ?_
          refine dr_put (d := 33) (v := .d (.ag (eSrc (((ix l (((k : Int) - 1)).toNat)))))) rfl (oy rfl rfl rfl h9 (of_eff (s_load_els rfl Tryz.underlying51 rfl ti51 rfl rfl rfl) rfl)) ?_
          refine dr_put (d := 34) (v := .d (.sl 2 (List.map eSrc l))) rfl (oy rfl rfl rfl h9 (op_move rfl rfl rfl)) ?_
          refine dr_put (d := 35) (v := .d (.fl (.int .i64 (k : Int)))) rfl (oy rfl rfl rfl h9 (op_move rfl rfl rfl)) ?_
          refine dr_put (d := 36) (v := .el ((eSrc (ix l k)))) rfl (oy rfl rfl rfl h9 (s_index rfl Tryz.underlying22 ti51 rfl rfl (by omega) (row_at (by omega)) rfl)) ?_
          refine dr_put (d := 37) (v := .d (.ag (eSrc (ix l k)))) rfl (oy rfl rfl rfl h9 (of_eff (s_load_els rfl Tryz.underlying51 rfl ti51 rfl rfl rfl) rfl)) ?_
          refine dr_put (d := 38) (v := .d (.fl (.int .i64 ((so (((ix l (((k : Int) - 1)).toNat))) (ix l k)))))) rfl (oy rfl rfl rfl h9 (op_call rfl Tryz.func71 nm71 rfl (.cons rfl (.d _) (.cons rfl (.d _) .nil)) (soR (((ix l (((k : Int) - 1)).toNat))) (ix l k) (hd _ (by omega)) (hd _ (by omega))) rfl)) ?_
          refine dr_put (d := 39) (v := .d (.fl (.bool ((decide (0 ≤ (so (((ix l (((k : Int) - 1)).toNat))) (ix l k)))))))) rfl (oy rfl rfl rfl h9 (op_bin rfl rfl rfl (b_geq _ _ _ _) rfl)) ?_
          refine dr_put (d := 40) (v := .d (.fl (.bool ((decide (0 ≤ (so (((ix l (((k : Int) - 1)).toNat))) (ix l k)))))))) rfl (og rfl (op_pick rfl rfl (by rw [h9]; rfl) rfl)) ?_
          refine dr_done rfl (sepB_of [0, 1, 3, 7, 7, 23, 63, 127, 7, 7, 775, 1799, 4095, 8191, 16383] (by kernel_rfl)) (by kernel_rfl) ?_
          refine a_cond rfl (fun h12 => ?_) (fun h12 => ?_)
          · skip
            have h13 := t_dec h12
            refine a_rseq ?_
            refine rg_put (d := 4) (v := .d (.fl (.int .i64 15))) rfl (og rfl (op_assign rfl rfl rfl)) ?_
            refine rg_done rfl ?_
            refine a_ret ?_
            show ∃ ds, ResL _ _ _ ds ∧ RV.of ds = _
            refine ⟨[.fl (.int .i64 15)], (.cons (.tmp rfl (.d _)) .nil), ?_⟩
            rw [show sr1 l k = 15 from by unfold sr1; simp only [h1, h3, h4, h6, h9, h12, Bool.true_or, Bool.false_or, Bool.or_true, Bool.or_false, Bool.not_true, Bool.not_false, cond_true, cond_false, Bool.true_and, Bool.false_and, Bool.and_true, Bool.and_false] <;> rfl]; rfl
          · skip
            have h14 := f_dec h12
            refine a_skip ?_
            show A _ _ _ _ _ _ _
            refine a_rseq ?_
            refine rg_put (d := 4) (v := .d (.fl (.int .i64 0))) rfl (og rfl (op_assign rfl rfl rfl)) ?_
            refine rg_done rfl ?_
            refine a_ret ?_
            show ∃ ds, ResL _ _ _ ds ∧ RV.of ds = _
            refine ⟨[.fl (.int .i64 0)], (.cons (.tmp rfl (.d _)) .nil), ?_⟩
            rw [show sr1 l k = 0 from by unfold sr1; simp only [h1, h3, h4, h6, h9, h12, Bool.true_or, Bool.false_or, Bool.or_true, Bool.or_false, Bool.not_true, Bool.not_false, cond_true, cond_false, Bool.true_and, Bool.false_and, Bool.and_true, Bool.and_false] <;> rfl]; rfl
    · skip
      have h15 := t_dec h4
      refine rg_put (d := 19) (v := .d (.fl undef)) rfl (on rfl rfl rfl h4) ?_
      refine rg_put (d := 20) (v := .d (.fl undef)) rfl (on rfl rfl rfl h4) ?_
      refine rg_put (d := 21) (v := .d (.fl undef)) rfl (on rfl rfl rfl h4) ?_
      refine rg_put (d := 22) (v := .d (.fl undef)) rfl (on rfl rfl rfl h4) ?_
      refine rg_put (d := 23) (v := .d (.fl undef)) rfl (on rfl rfl rfl h4) ?_
      refine rg_put (d := 24) (v := .d (.fl undef)) rfl (on rfl rfl rfl h4) ?_
      refine rg_put (d := 25) (v := .d (.fl (.bool true))) rfl (og rfl (op_pick rfl rfl (by rw [h4]; rfl) rfl)) ?_
      refine rg_done rfl ?_
      refine a_condK rfl rfl ?_
      refine a_rseq ?_
      refine rg_put (d := 4) (v := .d (.fl (.int .i64 2))) rfl (og rfl (op_assign rfl rfl rfl)) ?_
      refine rg_done rfl ?_
      refine a_ret ?_
      show ∃ ds, ResL _ _ _ ds ∧ RV.of ds = _
      refine ⟨[.fl (.int .i64 2)], (.cons (.tmp rfl (.d _)) .nil), ?_⟩
      rw [show sr1 l k = 2 from by unfold sr1; simp only [h1, h3, h4, Bool.true_or, Bool.false_or, Bool.or_true, Bool.or_false, Bool.not_true, Bool.not_false, cond_true, cond_false, Bool.true_and, Bool.false_and, Bool.and_true, Bool.and_false] <;> rfl]; rfl
set_option maxHeartbeats 4000000 in
set_option maxRecDepth 100000 in
theorem nameC (a : Src) (hn : -9223372036854775808 ≤ a.seq ∧ a.seq ≤ 9223372036854775807) (hd : a.dev.size ≤ 40) : CtrK Tryz.prog K2 35 [.ag (eSrc a)] (.d (.fl (.string ((a.dev ++ (⟨#[46]⟩ : ByteArray)) ++ Om.fmt a.seq)))) := by
  refine ctrK (n := 10) (rs := #[.tmp 2]) (L := [(0, .d (.ag (eSrc a)))]) Tryz.func35 rfl rfl rfl rfl rfl (fun w0 U0 hG => ?_)
  refine a_rseq ?_
  refine rg_nam (d := 1) (v := .pt 101 0) (m := 101) (nw := [(101, .bx 51 (eSrc a))]) rfl (og rfl (of_eff (op_box 101 rfl rfl rfl rfl) rfl)) rfl ?_
  refine rg_put (d := 2) (v := .d (.fl (.string (⟨#[]⟩)))) rfl (og rfl (op_assign rfl rfl rfl)) ?_
  refine rg_done rfl ?_
  refine a_dseq (by kernel_rfl) ?_
  refine dr_put (d := 3) (v := .pt 101 0) rfl (og rfl (of_eff (s_field_pt rfl Tryz.underlying51 rfl ti9 rfl rfl rfl) rfl)) ?_
  refine dr_put (d := 4) (v := .d (.fl (.string a.dev))) rfl (og rfl (op_load_pt rfl Tryz.underlying9 rfl rfl rfl rfl rfl)) ?_
  refine dr_put (d := 5) (v := .d (.fl (.string ((a.dev ++ (⟨#[46]⟩ : ByteArray)))))) rfl (og rfl (op_bin rfl rfl rfl (fun ox oy ow => b_sadd _ _ _ ox oy ow (by show a.dev.size + 1 ≤ 9223372036854775807; omega)) rfl)) ?_
  refine dr_put (d := 6) (v := .pt 101 1) rfl (og rfl (of_eff (s_field_pt rfl Tryz.underlying51 rfl ti3 rfl rfl rfl) rfl)) ?_
  refine dr_put (d := 7) (v := .d (.fl (.int .i64 a.seq))) rfl (og rfl (op_load_pt rfl Tryz.underlying3 rfl rfl rfl rfl rfl)) ?_
  refine dr_put (d := 8) (v := .d (.fl (.string (Om.fmt a.seq)))) rfl (og rfl (op_callK k2st hG rfl Tryz.func72 nm72 rfl (.cons rfl (.d _) .nil) (fmtC a.seq hn) rfl)) ?_
  refine dr_put (d := 9) (v := .d (.fl (.string ((((a.dev ++ (⟨#[46]⟩ : ByteArray))) ++ (Om.fmt a.seq)))))) rfl (og rfl (op_bin rfl rfl rfl (fun ox oy ow => b_sadd _ _ _ ox oy ow (by have hsz := fmt_sz hn; have h46 : (⟨#[46]⟩ : ByteArray).size = 1 := rfl; rw [ByteArray.size_append]; omega)) rfl)) ?_
  refine dr_put (d := 2) (v := .d (.fl (.string ((((a.dev ++ (⟨#[46]⟩ : ByteArray))) ++ (Om.fmt a.seq)))))) rfl (og rfl (op_assign rfl rfl rfl)) ?_
  refine dr_done rfl (by kernel_rfl) (by kernel_rfl) ?_
  refine a_ret ?_
  show ∃ ds, ResL _ _ _ ds ∧ RV.of ds = _
  refine ⟨[.fl (.string ((((a.dev ++ (⟨#[46]⟩ : ByteArray))) ++ (Om.fmt a.seq))))], (.cons (.tmp rfl (.d _)) .nil), ?_⟩
  rfl
set_option maxHeartbeats 4000000 in
set_option maxRecDepth 100000 in
theorem idC (p : Psg) (hz : szP p) (hn : 0 < p.src.length → -9223372036854775808 ≤ (ix p.src 0).seq ∧ (ix p.src 0).seq ≤ 9223372036854775807) : CtrK Tryz.prog K2 9 [.ag (ePsg p)] (.d (.fl (.string (idS p)))) := by
  refine ctrK (n := 12) (rs := #[.tmp 2]) (L := [(0, .d (.ag (ePsg p)))]) Tryz.func9 rfl rfl rfl rfl rfl (fun w0 U0 hG => ?_)
  refine a_rseq ?_
  refine rg_nam (d := 1) (v := .pt 101 0) (m := 101) (nw := [(101, .bx 24 (ePsg p))]) rfl (og rfl (of_eff (op_box 101 rfl rfl rfl rfl) rfl)) rfl ?_
  refine rg_put (d := 2) (v := .d (.fl (.string (⟨#[]⟩)))) rfl (og rfl (op_assign rfl rfl rfl)) ?_
  refine rg_done rfl ?_
  refine a_seq ?_
  refine a_rseq ?_
  refine rg_put (d := 3) (v := .pt 101 7) rfl (og rfl (of_eff (s_field_pt rfl Tryz.underlying24 rfl ti22 rfl rfl rfl) rfl)) ?_
  refine rg_put (d := 4) (v := .d (.sl 2 (List.map eSrc p.src))) rfl (og rfl (op_load_pt rfl Tryz.underlying22 rfl rfl rfl rfl rfl)) ?_
  refine rg_put (d := 5) (v := .d (.fl (.int .i64 (p.src.length : Int)))) rfl (og rfl (s_len rfl Tryz.underlying22 rfl rfl)) ?_
  refine rg_put (d := 6) (v := .d (.fl (.bool (((p.src.length : Int) == 0))))) rfl (og rfl (op_bin rfl rfl rfl (b_eql _ _ _ _) rfl)) ?_
  refine rg_done rfl ?_
  refine a_cond rfl (fun h1 => ?_) (fun h1 => ?_)
  · skip
    have h2 := t_beq h1
    refine a_rseq ?_
    refine rg_put (d := 2) (v := .d (.fl (.string (⟨#[]⟩)))) rfl (og rfl (op_assign rfl rfl rfl)) ?_
    refine rg_done rfl ?_
    refine a_ret ?_
    show ∃ ds, ResL _ _ _ ds ∧ RV.of ds = _
    refine ⟨[.fl (.string (⟨#[]⟩))], (.cons (.tmp rfl (.d _)) .nil), ?_⟩
    rw [show idS p = _ from by unfold idS; rw [h1] <;> rfl]; rfl
  · skip
    have h3 := f_beq h1
    refine a_skip ?_
    show A _ _ _ _ _ _ _
    refine a_rseq ?_
    refine rg_put (d := 7) (v := .pt 101 7) rfl (og rfl (of_eff (s_field_pt rfl Tryz.underlying24 rfl ti22 rfl rfl rfl) rfl)) ?_
    refine rg_put (d := 8) (v := .d (.sl 2 (List.map eSrc p.src))) rfl (og rfl (op_load_pt rfl Tryz.underlying22 rfl rfl rfl rfl rfl)) ?_
    refine rg_put (d := 9) (v := .el ((eSrc (ix p.src 0)))) rfl (og rfl (s_index rfl Tryz.underlying22 ti51 rfl rfl (by omega) (row_at (by omega)) rfl)) ?_
    refine rg_put (d := 10) (v := .d (.ag (eSrc (ix p.src 0)))) rfl (og rfl (of_eff (s_load_els rfl Tryz.underlying51 rfl ti51 rfl rfl rfl) rfl)) ?_
    refine rg_put (d := 11) (v := .d (.fl (.string ((((ix p.src 0).dev ++ (⟨#[46]⟩ : ByteArray)) ++ Om.fmt (ix p.src 0).seq))))) rfl (og rfl (op_callK k2st hG rfl Tryz.func35 nm35 rfl (.cons rfl (.d _) .nil) ((nameC (ix p.src 0) (hn (by omega)) (hz.d 0 (by omega)))) rfl)) ?_
    refine rg_put (d := 2) (v := .d (.fl (.string ((((ix p.src 0).dev ++ (⟨#[46]⟩ : ByteArray)) ++ Om.fmt (ix p.src 0).seq))))) rfl (og rfl (op_assign rfl rfl rfl)) ?_
    refine rg_done rfl ?_
    refine a_ret ?_
    show ∃ ds, ResL _ _ _ ds ∧ RV.of ds = _
    refine ⟨[.fl (.string ((((ix p.src 0).dev ++ (⟨#[46]⟩ : ByteArray)) ++ Om.fmt (ix p.src 0).seq)))], (.cons (.tmp rfl (.d _)) .nil), ?_⟩
    rw [show idS p = _ from by unfold idS; rw [h1] <;> rfl]; rfl
set_option maxHeartbeats 4000000 in
set_option maxRecDepth 100000 in
theorem idR (p : Psg) (hz : szP p) (hn : 0 < p.src.length → -9223372036854775808 ≤ (ix p.src 0).seq ∧ (ix p.src 0).seq ≤ 9223372036854775807) : Ctr Tryz.prog 10 [.ag (ePsg p)] (.d (.fl (.string (idS p)))) := by
  refine ctr (n := 20) (rs := #[.tmp 2]) (L := [(0, .d (.ag (ePsg p)))]) Tryz.func10 rfl rfl rfl rfl rfl (fun w0 U0 => ?_)
  refine a_rseq ?_
  refine rg_nam (d := 1) (v := .pt 101 0) (m := 101) (nw := [(101, .bx 24 (ePsg p))]) rfl (og rfl (of_eff (op_box 101 rfl rfl rfl rfl) rfl)) rfl ?_
  refine rg_put (d := 2) (v := .d (.fl (.string (⟨#[]⟩)))) rfl (og rfl (op_assign rfl rfl rfl)) ?_
  refine rg_done rfl ?_
  refine a_seq ?_
  refine a_rseq ?_
  refine rg_put (d := 3) (v := .pt 101 7) rfl (og rfl (of_eff (s_field_pt rfl Tryz.underlying24 rfl ti22 rfl rfl rfl) rfl)) ?_
  refine rg_put (d := 4) (v := .d (.sl 2 (List.map eSrc p.src))) rfl (og rfl (op_load_pt rfl Tryz.underlying22 rfl rfl rfl rfl rfl)) ?_
  refine rg_put (d := 5) (v := .d (.fl (.int .i64 (p.src.length : Int)))) rfl (og rfl (s_len rfl Tryz.underlying22 rfl rfl)) ?_
  refine rg_put (d := 6) (v := .d (.fl (.bool (((p.src.length : Int) == 0))))) rfl (og rfl (op_bin rfl rfl rfl (b_eql _ _ _ _) rfl)) ?_
  refine rg_done rfl ?_
  refine a_cond rfl (fun h1 => ?_) (fun h1 => ?_)
  · skip
    have h2 := t_beq h1
    refine a_rseq ?_
    refine rg_put (d := 2) (v := .d (.fl (.string (⟨#[]⟩)))) rfl (og rfl (op_assign rfl rfl rfl)) ?_
    refine rg_done rfl ?_
    refine a_ret ?_
    show ∃ ds, ResL _ _ _ ds ∧ RV.of ds = _
    refine ⟨[.fl (.string (⟨#[]⟩))], (.cons (.tmp rfl (.d _)) .nil), ?_⟩
    rw [show idS p = _ from by unfold idS; rw [h1] <;> rfl]; rfl
  · skip
    have h3 := f_beq h1
    refine a_skip ?_
    show A _ _ _ _ _ _ _
    refine a_dseq (by kernel_rfl) ?_
    refine dr_put (d := 7) (v := .pt 101 7) rfl (og rfl (of_eff (s_field_pt rfl Tryz.underlying24 rfl ti22 rfl rfl rfl) rfl)) ?_
    refine dr_put (d := 8) (v := .d (.sl 2 (List.map eSrc p.src))) rfl (og rfl (op_load_pt rfl Tryz.underlying22 rfl rfl rfl rfl rfl)) ?_
    refine dr_put (d := 9) (v := .el ((eSrc (ix p.src 0)))) rfl (og rfl (s_index rfl Tryz.underlying22 ti51 rfl rfl (by omega) (row_at (by omega)) rfl)) ?_
    refine dr_put (d := 10) (v := .el ((List.drop 0 ((eSrc (ix p.src 0)))))) rfl (og rfl (of_eff (s_field_el rfl Tryz.underlying51 rfl ti9 rfl rfl rfl) rfl)) ?_
    refine dr_put (d := 11) (v := .d (.fl (.string ((ix p.src 0).dev)))) rfl (og rfl (op_load_el rfl Tryz.underlying9 rfl rfl rfl rfl)) ?_
    refine dr_put (d := 12) (v := .d (.fl (.string ((((ix p.src 0).dev) ++ (⟨#[46]⟩ : ByteArray)))))) rfl (og rfl (op_bin rfl rfl rfl (fun ox oy ow => b_sadd _ _ _ ox oy ow (by have hdd := hz.d 0 (by omega); show (ix p.src 0).dev.size + 1 ≤ 9223372036854775807; omega)) rfl)) ?_
    refine dr_put (d := 13) (v := .pt 101 7) rfl (og rfl (of_eff (s_field_pt rfl Tryz.underlying24 rfl ti22 rfl rfl rfl) rfl)) ?_
    refine dr_put (d := 14) (v := .d (.sl 2 (List.map eSrc p.src))) rfl (og rfl (op_load_pt rfl Tryz.underlying22 rfl rfl rfl rfl rfl)) ?_
    refine dr_put (d := 15) (v := .el ((eSrc (ix p.src 0)))) rfl (og rfl (s_index rfl Tryz.underlying22 ti51 rfl rfl (by omega) (row_at (by omega)) rfl)) ?_
    refine dr_put (d := 16) (v := .el ((List.drop 1 ((eSrc (ix p.src 0)))))) rfl (og rfl (of_eff (s_field_el rfl Tryz.underlying51 rfl ti3 rfl rfl rfl) rfl)) ?_
    refine dr_put (d := 17) (v := .d (.fl (.int .i64 ((ix p.src 0).seq)))) rfl (og rfl (op_load_el rfl Tryz.underlying3 rfl rfl rfl rfl)) ?_
    refine dr_put (d := 18) (v := .d (.fl (.string ((Om.fmt ((ix p.src 0).seq)))))) rfl (og rfl (op_call rfl Tryz.func36 nm36 rfl (.cons rfl (.d _) .nil) (fmtR ((ix p.src 0).seq) (hn (by omega))) rfl)) ?_
    refine dr_put (d := 19) (v := .d (.fl (.string ((((((ix p.src 0).dev) ++ (⟨#[46]⟩ : ByteArray))) ++ ((Om.fmt ((ix p.src 0).seq)))))))) rfl (og rfl (op_bin rfl rfl rfl (fun ox oy ow => b_sadd _ _ _ ox oy ow (by have hsz := fmt_sz (hn (by omega)); have hdd := hz.d 0 (by omega); have h46 : (⟨#[46]⟩ : ByteArray).size = 1 := rfl; rw [ByteArray.size_append]; omega)) rfl)) ?_
    refine dr_put (d := 2) (v := .d (.fl (.string ((((((ix p.src 0).dev) ++ (⟨#[46]⟩ : ByteArray))) ++ ((Om.fmt ((ix p.src 0).seq)))))))) rfl (og rfl (op_assign rfl rfl rfl)) ?_
    refine dr_done rfl (by kernel_rfl) (by kernel_rfl) ?_
    refine a_ret ?_
    show ∃ ds, ResL _ _ _ ds ∧ RV.of ds = _
    refine ⟨[.fl (.string ((((((ix p.src 0).dev) ++ (⟨#[46]⟩ : ByteArray))) ++ ((Om.fmt ((ix p.src 0).seq))))))], (.cons (.tmp rfl (.d _)) .nil), ?_⟩
    rw [show idS p = _ from by unfold idS; rw [h1] <;> rfl]; rfl
set_option maxHeartbeats 4000000 in
set_option maxRecDepth 100000 in
theorem orTC (l : List ByteArray) (hl : l.length ≤ 1000) : Ctr Tryz.prog 37 [.sl 1 (List.map rS l)] (.d (.fl (.string (orT l)))) := by
  refine ctr (n := 18) (rs := #[.tmp 2]) (L := [(0, .d (.sl 1 (List.map rS l)))]) Tryz.func37 rfl rfl rfl rfl rfl (fun w0 U0 => ?_)
  refine a_rseq ?_
  refine rg_put (d := 2) (v := .d (.fl (.string (⟨#[]⟩)))) rfl (og rfl (op_assign rfl rfl rfl)) ?_
  refine rg_done rfl ?_
  refine a_rseq ?_
  refine rg_put (d := 3) (v := .d (.fl (.string (⟨#[]⟩)))) rfl (og rfl (op_assign rfl rfl rfl)) ?_
  refine rg_done rfl ?_
  refine a_seq ?_
  refine a_rseq ?_
  refine rg_put (d := 6) (v := .d (.sl 1 (List.map rS l))) rfl (og rfl (op_move rfl rfl rfl)) ?_
  refine rg_put (d := 7) (v := .d (.fl (.int .i64 (l.length : Int)))) rfl (og rfl (s_len rfl Tryz.underlying59 rfl rfl)) ?_
  refine rg_put (d := 8) (v := .d (.fl (.int .i64 0))) rfl (og rfl (op_move rfl rfl rfl)) ?_
  refine rg_done rfl ?_
  refine a_block ?_
  refine a_loop (ι := Nat) (fun k => SS [(0, .d (.sl 1 (List.map rS l))), (3, .d (.fl (.string (⟨#[]⟩)))), (6, .d (.sl 1 (List.map rS l))), (7, .d (.fl (.int .i64 (l.length : Int)))), (8, .d (.fl (.int .i64 (k : Int))))] []) (fun k => k ≤ l.length ∧ ∀ q, q < k → (sEq (ix l q) ⟨#[]⟩) = true) (fun k => l.length - k) 0 (⟨by omega, fun q h => by omega⟩) (imp_forget rfl ⟨rfl, rfl, rfl, rfl, (by first | rfl | exact ci (by omega) | exact ci (by simp) | exact cd (by simp) | simp), trivial⟩ trivial) (fun k hok => ?_)
  obtain ⟨hkk, hq⟩ := hok
  refine a_rseq ?_
  refine rg_put (d := 9) (v := .d (.fl (.bool ((decide ((k : Int) < (l.length : Int))))))) rfl (og rfl (op_bin rfl rfl rfl (b_lss _ _ _ _) rfl)) ?_
  refine rg_done rfl ?_
  refine a_seq ?_
  refine a_cond rfl (fun h1 => ?_) (fun h1 => ?_)
  · skip
    have h2 := t_dec h1
    refine a_skip ?_
    show A _ _ _ _ _ _ _
    refine a_seq ?_
    refine a_block ?_
    refine a_rseq ?_
    refine rg_put (d := 10) (v := .el ((rS (ix l k)))) rfl (og rfl (s_index rfl Tryz.underlying59 ti9 rfl rfl (by omega) (row_at (by omega)) rfl)) ?_
    refine rg_put (d := 11) (v := .d (.fl (.string (ix l k)))) rfl (og rfl (op_load_el rfl Tryz.underlying9 rfl rfl rfl rfl)) ?_
    refine rg_put (d := 5) (v := .d (.fl (.string (ix l k)))) rfl (og rfl (op_assign rfl rfl rfl)) ?_
    refine rg_done rfl ?_
    refine a_rseq ?_
    refine rg_put (d := 12) (v := .d (.fl (.string (ix l k)))) rfl (og rfl (op_move rfl rfl rfl)) ?_
    refine rg_put (d := 13) (v := .d (.fl (.string (⟨#[]⟩)))) rfl (og rfl (op_move rfl rfl rfl)) ?_
    refine rg_put (d := 14) (v := .d (.fl (.bool ((!(sEq (ix l k) (⟨#[]⟩))))))) rfl (og rfl (op_bin rfl rfl rfl (b_sne _ _ _) rfl)) ?_
    refine rg_done rfl ?_
    refine a_cond rfl (fun h3 => ?_) (fun h3 => ?_)
    · skip
      have h4 := t_not h3
      refine a_rseq ?_
      refine rg_put (d := 15) (v := .d (.fl (.string (ix l k)))) rfl (og rfl (op_move rfl rfl rfl)) ?_
      refine rg_put (d := 2) (v := .d (.fl (.string (ix l k)))) rfl (og rfl (op_assign rfl rfl rfl)) ?_
      refine rg_done rfl ?_
      refine a_ret ?_
      show ∃ ds, ResL _ _ _ ds ∧ RV.of ds = _
      refine ⟨[.fl (.string (ix l k))], (.cons (.tmp rfl (.d _)) .nil), ?_⟩
      rw [orT_at (by omega) hq h4]; rfl
    · skip
      have h5 := f_not h3
      refine a_skip ?_
      show A _ _ _ _ _ _ _
      refine a_region ?_
      refine rg_put (d := 16) (v := .d (.fl (.int .i64 (((k : Int) + 1))))) rfl (og rfl (op_bin rfl rfl rfl (fun x y w => b_add64 _ _ _ x y w (by omega)) rfl)) ?_
      refine rg_put (d := 8) (v := .d (.fl (.int .i64 (((k : Int) + 1))))) rfl (og rfl (op_move rfl rfl rfl)) ?_
      refine rg_done rfl ?_
      have hx : (sEq (ix l k) ⟨#[]⟩) = true := h5
      show ∃ i, _ ∧ _ ∧ Imp _ _ _ _ _
      refine ⟨k + 1, ⟨by omega, fun q h => (Nat.lt_succ_iff_lt_or_eq.1 h).elim (hq q) (fun e => by rw [e]; exact hx)⟩, by omega, imp_forget rfl ⟨rfl, rfl, rfl, rfl, (by first | rfl | exact ci (by omega) | exact ci (by simp) | exact cd (by simp) | simp), trivial⟩ trivial⟩
  · skip
    have h6 := f_dec h1
    refine a_exit ?_
    show A _ _ _ _ _ _ _
    refine a_rseq ?_
    refine rg_put (d := 17) (v := .d (.fl (.string (⟨#[]⟩)))) rfl (og rfl (op_move rfl rfl rfl)) ?_
    refine rg_put (d := 2) (v := .d (.fl (.string (⟨#[]⟩)))) rfl (og rfl (op_assign rfl rfl rfl)) ?_
    refine rg_done rfl ?_
    refine a_ret ?_
    show ∃ ds, ResL _ _ _ ds ∧ RV.of ds = _
    refine ⟨[.fl (.string (⟨#[]⟩))], (.cons (.tmp rfl (.d _)) .nil), ?_⟩
    rw [orT_no (fun q h => hq q (by omega))]; rfl
set_option maxHeartbeats 4000000 in
set_option maxRecDepth 100000 in
theorem vhC (p : Psg) : Ctr Tryz.prog 11 [.ag (ePsg p)] (.d (.fl (.string (vhS p)))) := by
  refine ctr (n := 9) (rs := #[.tmp 2]) (L := [(0, .d (.ag (ePsg p)))]) Tryz.func11 rfl rfl rfl rfl rfl (fun w0 U0 => ?_)
  refine a_rseq ?_
  refine rg_nam (d := 1) (v := .pt 101 0) (m := 101) (nw := [(101, .bx 24 (ePsg p))]) rfl (og rfl (of_eff (op_box 101 rfl rfl rfl rfl) rfl)) rfl ?_
  refine rg_put (d := 2) (v := .d (.fl (.string (⟨#[]⟩)))) rfl (og rfl (op_assign rfl rfl rfl)) ?_
  refine rg_done rfl ?_
  refine a_rseq ?_
  refine rg_put (d := 3) (v := .pt 101 3) rfl (og rfl (of_eff (s_field_pt rfl Tryz.underlying24 rfl ti9 rfl rfl rfl) rfl)) ?_
  refine rg_put (d := 4) (v := .d (.fl (.string p.tag))) rfl (og rfl (op_load_pt rfl Tryz.underlying9 rfl rfl rfl rfl rfl)) ?_
  refine rg_put (d := 5) (v := .pt 101 4) rfl (og rfl (of_eff (s_field_pt rfl Tryz.underlying24 rfl ti9 rfl rfl rfl) rfl)) ?_
  refine rg_put (d := 6) (v := .d (.fl (.string p.plate))) rfl (og rfl (op_load_pt rfl Tryz.underlying9 rfl rfl rfl rfl rfl)) ?_
  refine rg_put (d := 7) (v := .d (.sl 1 (List.map rS [p.tag, p.plate]))) rfl (og rfl (of_eff (op_slices rfl Tryz.underlying59 ti9 rfl rfl rfl (by kernel_rfl) (xs := [.fl (.string p.tag), .fl (.string p.plate)]) rfl rfl (.cons rfl rfl (.d _) rfl rfl rfl (.cons rfl rfl (.d _) rfl rfl rfl .nil)) rfl) rfl)) ?_
  refine rg_put (d := 8) (v := .d (.fl (.string (orT [p.tag, p.plate])))) rfl (og rfl (op_call rfl Tryz.func37 nm37 rfl (.cons rfl (.d _) .nil) (orTC [p.tag, p.plate] (by simp)) rfl)) ?_
  refine rg_put (d := 2) (v := .d (.fl (.string (orT [p.tag, p.plate])))) rfl (og rfl (op_assign rfl rfl rfl)) ?_
  refine rg_done rfl ?_
  refine a_ret ?_
  show ∃ ds, ResL _ _ _ ds ∧ RV.of ds = _
  refine ⟨[.fl (.string (orT [p.tag, p.plate]))], (.cons (.tmp rfl (.d _)) .nil), ?_⟩
  rw [vh_or]; rfl
set_option maxHeartbeats 4000000 in
set_option maxRecDepth 100000 in
theorem vhR (p : Psg) : Ctr Tryz.prog 12 [.ag (ePsg p)] (.d (.fl (.string (vhS p)))) := by
  refine ctr (n := 10) (rs := #[.tmp 2]) (L := [(0, .d (.ag (ePsg p)))]) Tryz.func12 rfl rfl rfl rfl rfl (fun w0 U0 => ?_)
  refine a_rseq ?_
  refine rg_nam (d := 1) (v := .pt 101 0) (m := 101) (nw := [(101, .bx 24 (ePsg p))]) rfl (og rfl (of_eff (op_box 101 rfl rfl rfl rfl) rfl)) rfl ?_
  refine rg_put (d := 2) (v := .d (.fl (.string (⟨#[]⟩)))) rfl (og rfl (op_assign rfl rfl rfl)) ?_
  refine rg_done rfl ?_
  refine a_seq ?_
  refine a_rseq ?_
  refine rg_put (d := 3) (v := .pt 101 3) rfl (og rfl (of_eff (s_field_pt rfl Tryz.underlying24 rfl ti9 rfl rfl rfl) rfl)) ?_
  refine rg_put (d := 4) (v := .d (.fl (.string p.tag))) rfl (og rfl (op_load_pt rfl Tryz.underlying9 rfl rfl rfl rfl rfl)) ?_
  refine rg_put (d := 5) (v := .d (.fl (.bool ((!(sEq p.tag (⟨#[]⟩))))))) rfl (og rfl (op_bin rfl rfl rfl (b_sne _ _ _) rfl)) ?_
  refine rg_done rfl ?_
  refine a_cond rfl (fun h1 => ?_) (fun h1 => ?_)
  · skip
    have h2 := t_not h1
    refine a_rseq ?_
    refine rg_put (d := 6) (v := .pt 101 3) rfl (og rfl (of_eff (s_field_pt rfl Tryz.underlying24 rfl ti9 rfl rfl rfl) rfl)) ?_
    refine rg_put (d := 7) (v := .d (.fl (.string p.tag))) rfl (og rfl (op_load_pt rfl Tryz.underlying9 rfl rfl rfl rfl rfl)) ?_
    refine rg_put (d := 2) (v := .d (.fl (.string p.tag))) rfl (og rfl (op_assign rfl rfl rfl)) ?_
    refine rg_done rfl ?_
    refine a_ret ?_
    show ∃ ds, ResL _ _ _ ds ∧ RV.of ds = _
    refine ⟨[.fl (.string p.tag)], (.cons (.tmp rfl (.d _)) .nil), ?_⟩
    rw [show vhS p = p.tag from by unfold vhS; rw [h2] <;> rfl]; rfl
  · skip
    have h3 := f_not h1
    refine a_skip ?_
    show A _ _ _ _ _ _ _
    refine a_rseq ?_
    refine rg_put (d := 8) (v := .pt 101 4) rfl (og rfl (of_eff (s_field_pt rfl Tryz.underlying24 rfl ti9 rfl rfl rfl) rfl)) ?_
    refine rg_put (d := 9) (v := .d (.fl (.string p.plate))) rfl (og rfl (op_load_pt rfl Tryz.underlying9 rfl rfl rfl rfl rfl)) ?_
    refine rg_put (d := 2) (v := .d (.fl (.string p.plate))) rfl (og rfl (op_assign rfl rfl rfl)) ?_
    refine rg_done rfl ?_
    refine a_ret ?_
    show ∃ ds, ResL _ _ _ ds ∧ RV.of ds = _
    refine ⟨[.fl (.string p.plate)], (.cons (.tmp rfl (.d _)) .nil), ?_⟩
    rw [show vhS p = p.plate from by unfold vhS; rw [h3] <;> rfl]; rfl
end Go.Proofs.YtgelodnkfajgjaaGreatDoor.Wk
