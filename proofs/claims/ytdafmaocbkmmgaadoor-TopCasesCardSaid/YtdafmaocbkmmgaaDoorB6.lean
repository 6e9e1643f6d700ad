/- Payments, waivers, equal cases. Condition: a payment that is a number of the machine. -/
import Derived.Test.YtdafmaocbkmmgaaDoorB5
set_option linter.unusedSimpArgs false
set_option linter.unusedVariables false
namespace Go.Proofs.YtdafmaocbkmmgaaDoor.Wk
open Go Go.RowKit Go.Proofs.YtdafmaocbkmmgaaDoor.Av
set_option maxHeartbeats 4000000 in
set_option maxRecDepth 100000 in
theorem pay23 (x : Cs) (c : Int) (hc1 : -9223372036854775808 ≤ c) (hc2 : c ≤ 9223372036854775807) : Ctr Tryd.prog 8 [.ag (eCs x), .fl (.int .i64 c)] (.tu [.ag (eCs (pay x c).1.1), .fl (.int .i64 (pay x c).1.2), .fl (.int .i64 (pay x c).2)]) := by
  refine ctr (n := 61) (rs := #[.cell 4 32, .tmp 5, .tmp 6]) (L := [(0, .d (.ag (eCs x))), (1, .d (.fl (.int .i64 c)))]) Tryd.func8 rfl rfl rfl rfl rfl (fun w0 U0 => ?_)
  refine a_rseq ?_
  refine rg_nam (d := 2) (v := .pt 101 0) (m := 101) (nw := [(101, .bx 32 (eCs x))]) rfl (og rfl (of_eff (op_box 101 rfl rfl rfl rfl) rfl)) rfl ?_
  refine rg_nam (d := 4) (v := .pt 102 0) (m := 102) (nw := [(102, .bx 32 ([.fl (.string (⟨#[]⟩)), .fl (.string (⟨#[]⟩)), .fl (.string (⟨#[]⟩)), .fl (.int .i64 0), .fl (.int .i64 0), .fl (.int .i64 0), .fl (.int .i64 0), .fl (.int .i64 0), .fl (.int .i64 0), .fl (.int .i64 0), .fl (.int .i64 0), .fl (.int .i64 0)]))]) rfl (og rfl (of_eff (s_alloc 102 rfl ti32 (by kernel_rfl) rfl) rfl)) rfl ?_
  refine rg_put (d := 5) (v := .d (.fl (.int .i64 0))) rfl (og rfl (op_assign rfl rfl rfl)) ?_
  refine rg_put (d := 6) (v := .d (.fl (.int .i64 0))) rfl (og rfl (op_assign rfl rfl rfl)) ?_
  refine rg_done rfl ?_
  refine a_seq ?_
  refine a_rseq ?_
  refine rg_put (d := 10) (v := .d (.ag (eCs x))) rfl (og rfl (of_eff (s_load_pts rfl Tryd.underlying32 rfl ti32 rfl rfl rfl rfl) rfl)) ?_
  refine rg_put (d := 11) (v := .d (.fl (.bool (opn x)))) rfl (og rfl (op_call rfl Tryd.func13 nm13 rfl (.cons rfl (.d _) .nil) (opn21 x) rfl)) ?_
  refine rg_put (d := 12) (v := .d (.fl (.bool ((!(opn x)))))) rfl (og rfl (op_un rfl rfl (u_not _) rfl)) ?_
  refine rg_done rfl ?_
  refine a_cond rfl (fun h1 => ?_) (fun h1 => ?_)
  · skip
    have h2 := t_not h1
    refine a_rseq ?_
    refine rg_put (d := 13) (v := .d (.ag (eCs x))) rfl (og rfl (of_eff (s_load_pts rfl Tryd.underlying32 rfl ti32 rfl rfl rfl rfl) rfl)) ?_
    refine rg_sto (nw := [(102, .bx 32 (eCs x))]) rfl (og rfl (of_eff (s_store rfl rfl ti32 rfl rfl rfl rfl rfl rfl) rfl)) ?_
    refine rg_put (d := 5) (v := .d (.fl (.int .i64 0))) rfl (og rfl (op_assign rfl rfl rfl)) ?_
    refine rg_put (d := 6) (v := .d (.fl (.int .i64 28))) rfl (og rfl (op_assign rfl rfl rfl)) ?_
    refine rg_done rfl ?_
    refine a_ret ?_
    show ∃ ds, ResL _ _ _ ds ∧ RV.of ds = _
    refine ⟨[.ag [.fl (.string x.id), .fl (.string x.plate), .fl (.string x.key), .fl (.int .i64 x.begun), .fl (.int .i64 x.since), .fl (.int .i64 x.stage), .fl (.int .i64 x.owed), .fl (.int .i64 x.paid), .fl (.int .i64 x.paused), .fl (.int .i64 x.ap.state), .fl (.int .i64 x.ap.ground), .fl (.int .i64 x.ap.day)], .fl (.int .i64 0), .fl (.int .i64 28)], (.cons (.cellT rfl rfl Tryd.underlying32 rfl ti32 rfl (Cv.ag (xs := [.fl (.string x.id), .fl (.string x.plate), .fl (.string x.key), .fl (.int .i64 x.begun), .fl (.int .i64 x.since), .fl (.int .i64 x.stage), .fl (.int .i64 x.owed), .fl (.int .i64 x.paid), .fl (.int .i64 x.paused), .fl (.int .i64 x.ap.state), .fl (.int .i64 x.ap.ground), .fl (.int .i64 x.ap.day)]) (ys := [.fl (.string x.id), .fl (.string x.plate), .fl (.string x.key), .fl (.int .i64 x.begun), .fl (.int .i64 x.since), .fl (.int .i64 x.stage), .fl (.int .i64 x.owed), .fl (.int .i64 x.paid), .fl (.int .i64 x.paused), .fl (.int .i64 x.ap.state), .fl (.int .i64 x.ap.ground), .fl (.int .i64 x.ap.day)]) ⟨Cv.refl _, Cv.refl _, Cv.refl _, Cv.refl _, Cv.refl _, Cv.refl _, Cv.refl _, Cv.refl _, Cv.refl _, Cv.refl _, Cv.refl _, Cv.refl _, trivial⟩)) (.cons (.tmp rfl (.d _)) (.cons (.tmp rfl (.d _)) .nil))), ?_⟩
    have hu : pay x c = ((x, 0), 28) := by
      unfold pay; simp only [h1, h2]; rfl
    rw [hu]; rfl
  · skip
    have h3 := f_not h1
    refine a_skip ?_
    show A _ _ _ _ _ _ _
    refine a_seq ?_
    refine a_rseq ?_
    refine rg_put (d := 14) (v := .d (.fl (.int .i64 c))) rfl (og rfl (op_move rfl rfl rfl)) ?_
    refine rg_put (d := 15) (v := .d (.fl (.int .i64 ((IntKind.i64.wrap (c - 1)))))) rfl (og rfl (op_bin rfl rfl rfl (b_sub _ _ _ _) rfl)) ?_
    refine rg_put (d := 16) (v := .d (.fl (.int .i64 c))) rfl (og rfl (op_move rfl rfl rfl)) ?_
    refine rg_put (d := 17) (v := .pt 101 6) rfl (og rfl (of_eff (s_field_pt rfl Tryd.underlying32 rfl ti3 rfl rfl rfl) rfl)) ?_
    refine rg_put (d := 18) (v := .d (.fl (.int .i64 x.owed))) rfl (og rfl (op_load_pt rfl Tryd.underlying3 rfl rfl rfl rfl rfl)) ?_
    refine rg_put (d := 19) (v := .pt 101 7) rfl (og rfl (of_eff (s_field_pt rfl Tryd.underlying32 rfl ti3 rfl rfl rfl) rfl)) ?_
    refine rg_put (d := 20) (v := .d (.fl (.int .i64 x.paid))) rfl (og rfl (op_load_pt rfl Tryd.underlying3 rfl rfl rfl rfl rfl)) ?_
    refine rg_put (d := 21) (v := .d (.sl 1 (List.map (rI .i64) [(IntKind.i64.wrap (c - 1)), c, x.owed, x.paid]))) rfl (og rfl (of_eff (op_slices rfl Tryd.underlying22 ti3 rfl rfl rfl (by kernel_rfl) (xs := [.fl (.int .i64 ((IntKind.i64.wrap (c - 1)))), .fl (.int .i64 c), .fl (.int .i64 x.owed), .fl (.int .i64 x.paid)]) rfl rfl (.cons rfl rfl (.d _) rfl rfl rfl (.cons rfl rfl (.d _) rfl rfl rfl (.cons rfl rfl (.d _) rfl rfl rfl (.cons rfl rfl (.d _) rfl rfl rfl .nil)))) rfl) rfl)) ?_
    refine rg_put (d := 22) (v := .d (.fl (.int .i64 (([(IntKind.i64.wrap (c - 1)), c, x.owed, x.paid].length : Int))))) rfl (og rfl (s_len rfl Tryd.underlying22 rfl rfl)) ?_
    refine rg_put (d := 23) (v := .d (.fl (.int .i64 0))) rfl (og rfl (op_move rfl rfl rfl)) ?_
    refine rg_done rfl ?_
    refine a_block ?_
    refine a_loop (ι := Nat) (fun k => SS [(0, .d (.ag (eCs x))), (1, .d (.fl (.int .i64 c))), (2, .pt 101 0), (4, .pt 102 0), (12, .d (.fl (.bool ((!(opn x)))))), (21, .d (.sl 1 (List.map (rI .i64) [(IntKind.i64.wrap (c - 1)), c, x.owed, x.paid]))), (22, .d (.fl (.int .i64 (([(IntKind.i64.wrap (c - 1)), c, x.owed, x.paid].length : Int))))), (23, .d (.fl (.int .i64 (k : Int))))] [(101, .bx 32 (eCs x)), (102, .bx 32 ([.fl (.string (⟨#[]⟩)), .fl (.string (⟨#[]⟩)), .fl (.string (⟨#[]⟩)), .fl (.int .i64 0), .fl (.int .i64 0), .fl (.int .i64 0), .fl (.int .i64 0), .fl (.int .i64 0), .fl (.int .i64 0), .fl (.int .i64 0), .fl (.int .i64 0), .fl (.int .i64 0)]))]) (fun k => k ≤ 4 ∧ ∀ q, q < k → 0 ≤ ix (pl4 x c) q ∧ ix (pl4 x c) q ≤ 1125899906842624) (fun k => 4 - k) 0 (⟨by omega, fun q h => by omega⟩) (imp_forget rfl ⟨rfl, rfl, rfl, rfl, rfl, rfl, rfl, (by first | rfl | exact ci (by omega) | exact ci (by simp) | exact cd (by simp) | simp), trivial⟩ ⟨rfl, rfl, trivial⟩) (fun k hok => ?_)
    obtain ⟨hk, hq⟩ := hok
    have hl4 : ([IntKind.i64.wrap (c - 1), c, x.owed, x.paid] : List Int).length = 4 := rfl
    refine a_rseq ?_
    refine rg_put (d := 24) (v := .d (.fl (.bool ((decide ((k : Int) < ([(IntKind.i64.wrap (c - 1)), c, x.owed, x.paid].length : Int))))))) rfl (og rfl (op_bin rfl rfl rfl (b_lss _ _ _ _) rfl)) ?_
    refine rg_done rfl ?_
    refine a_seq ?_
    refine a_cond rfl (fun h4 => ?_) (fun h4 => ?_)
    · skip
      have h5 := t_dec h4
      refine a_skip ?_
      show A _ _ _ _ _ _ _
      refine a_seq ?_
      refine a_block ?_
      refine a_rseq ?_
      refine rg_put (d := 25) (v := .el ((rI .i64 ((ix [(IntKind.i64.wrap (c - 1)), c, x.owed, x.paid] k))))) rfl (og rfl (s_index rfl Tryd.underlying22 ti3 rfl rfl (by omega) (row_at (by omega)) rfl)) ?_
      refine rg_put (d := 26) (v := .d (.fl (.int .i64 ((ix [(IntKind.i64.wrap (c - 1)), c, x.owed, x.paid] k))))) rfl (og rfl (op_load_el rfl Tryd.underlying3 rfl rfl rfl rfl)) ?_
      refine rg_put (d := 8) (v := .d (.fl (.int .i64 ((ix [(IntKind.i64.wrap (c - 1)), c, x.owed, x.paid] k))))) rfl (og rfl (op_assign rfl rfl rfl)) ?_
      refine rg_done rfl ?_
      refine a_rseq ?_
      refine rg_put (d := 27) (v := .d (.fl (.int .i64 ((ix [(IntKind.i64.wrap (c - 1)), c, x.owed, x.paid] k))))) rfl (og rfl (op_move rfl rfl rfl)) ?_
      refine rg_put (d := 28) (v := .d (.fl (.bool ((decide ((ix [(IntKind.i64.wrap (c - 1)), c, x.owed, x.paid] k) < 0)))))) rfl (og rfl (op_bin rfl rfl rfl (b_lss _ _ _ _) rfl)) ?_
      refine rg_put (d := 29) (v := .d (.fl (.bool ((decide ((ix [(IntKind.i64.wrap (c - 1)), c, x.owed, x.paid] k) < 0)))))) rfl (og rfl (op_move rfl rfl rfl)) ?_
      rcases fot ((decide ((ix [(IntKind.i64.wrap (c - 1)), c, x.owed, x.paid] k) < 0))) with h6 | h6
      · skip
        have h7 := f_dec h6
        refine rg_put (d := 30) (v := .d (.fl (.int .i64 ((ix [(IntKind.i64.wrap (c - 1)), c, x.owed, x.paid] k))))) rfl (oy rfl rfl rfl h6 (op_move rfl rfl rfl)) ?_
        refine rg_put (d := 31) (v := .d (.fl (.bool ((decide (1125899906842624 < (ix [(IntKind.i64.wrap (c - 1)), c, x.owed, x.paid] k))))))) rfl (oy rfl rfl rfl h6 (op_bin rfl rfl rfl (b_gtr _ _ _ _) rfl)) ?_
        refine rg_put (d := 32) (v := .d (.fl (.bool ((decide (1125899906842624 < (ix [(IntKind.i64.wrap (c - 1)), c, x.owed, x.paid] k))))))) rfl (og rfl (op_pick rfl rfl (by rw [h6]; rfl) rfl)) ?_
        refine rg_done rfl ?_
        refine a_cond rfl (fun h8 => ?_) (fun h8 => ?_)
        · skip
          have h9 := t_dec h8
          refine a_rseq ?_
          refine rg_put (d := 33) (v := .d (.ag (eCs x))) rfl (og rfl (of_eff (s_load_pts rfl Tryd.underlying32 rfl ti32 rfl rfl rfl rfl) rfl)) ?_
          refine rg_sto (nw := [(102, .bx 32 (eCs x))]) rfl (og rfl (of_eff (s_store rfl rfl ti32 rfl rfl rfl rfl rfl rfl) rfl)) ?_
          refine rg_put (d := 5) (v := .d (.fl (.int .i64 0))) rfl (og rfl (op_assign rfl rfl rfl)) ?_
          refine rg_put (d := 6) (v := .d (.fl (.int .i64 13))) rfl (og rfl (op_assign rfl rfl rfl)) ?_
          refine rg_done rfl ?_
          refine a_ret ?_
          show ∃ ds, ResL _ _ _ ds ∧ RV.of ds = _
          refine ⟨[.ag [.fl (.string x.id), .fl (.string x.plate), .fl (.string x.key), .fl (.int .i64 x.begun), .fl (.int .i64 x.since), .fl (.int .i64 x.stage), .fl (.int .i64 x.owed), .fl (.int .i64 x.paid), .fl (.int .i64 x.paused), .fl (.int .i64 x.ap.state), .fl (.int .i64 x.ap.ground), .fl (.int .i64 x.ap.day)], .fl (.int .i64 0), .fl (.int .i64 13)], (.cons (.cellT rfl rfl Tryd.underlying32 rfl ti32 rfl (Cv.ag (xs := [.fl (.string x.id), .fl (.string x.plate), .fl (.string x.key), .fl (.int .i64 x.begun), .fl (.int .i64 x.since), .fl (.int .i64 x.stage), .fl (.int .i64 x.owed), .fl (.int .i64 x.paid), .fl (.int .i64 x.paused), .fl (.int .i64 x.ap.state), .fl (.int .i64 x.ap.ground), .fl (.int .i64 x.ap.day)]) (ys := [.fl (.string x.id), .fl (.string x.plate), .fl (.string x.key), .fl (.int .i64 x.begun), .fl (.int .i64 x.since), .fl (.int .i64 x.stage), .fl (.int .i64 x.owed), .fl (.int .i64 x.paid), .fl (.int .i64 x.paused), .fl (.int .i64 x.ap.state), .fl (.int .i64 x.ap.ground), .fl (.int .i64 x.ap.day)]) ⟨Cv.refl _, Cv.refl _, Cv.refl _, Cv.refl _, Cv.refl _, Cv.refl _, Cv.refl _, Cv.refl _, Cv.refl _, Cv.refl _, Cv.refl _, Cv.refl _, trivial⟩)) (.cons (.tmp rfl (.d _)) (.cons (.tmp rfl (.d _)) .nil))), ?_⟩
          have hpb := pay_bad (x := x) (k := k) hc1 hc2 (by omega) (.inr (of_decide_eq_true h8))
          have hu : pay x c = ((x, 0), 13) := by
            unfold pay; simp only [h1, h3, h4, h6, h8, hpb]; rfl
          rw [hu]; rfl
        · skip
          have h10 := f_dec h8
          refine a_skip ?_
          show A _ _ _ _ _ _ _
          refine a_region ?_
          refine rg_put (d := 34) (v := .d (.fl (.int .i64 (((k : Int) + 1))))) rfl (og rfl (op_bin rfl rfl rfl (fun x y w => b_add64 _ _ _ x y w (by omega)) rfl)) ?_
          refine rg_put (d := 23) (v := .d (.fl (.int .i64 (((k : Int) + 1))))) rfl (og rfl (op_move rfl rfl rfl)) ?_
          refine rg_done rfl ?_
          show ∃ i, _ ∧ _ ∧ Imp _ _ _ _ _
          refine ⟨k + 1, ⟨by omega, fun q h => by
            rcases Nat.lt_succ_iff_lt_or_eq.1 h with h | h
            · exact hq q h
            · subst h; exact ⟨Int.not_lt.1 (of_decide_eq_false h6), Int.not_lt.1 (of_decide_eq_false h8)⟩⟩, by omega, imp_forget rfl ⟨rfl, rfl, rfl, rfl, rfl, rfl, rfl, (by first | rfl | exact ci (by omega) | exact ci (by simp) | exact cd (by simp) | simp), trivial⟩ ⟨rfl, rfl, trivial⟩⟩
      · skip
        have h11 := t_dec h6
        refine rg_put (d := 30) (v := .d (.fl undef)) rfl (on rfl rfl rfl h6) ?_
        refine rg_put (d := 31) (v := .d (.fl undef)) rfl (on rfl rfl rfl h6) ?_
        refine rg_put (d := 32) (v := .d (.fl (.bool true))) rfl (og rfl (op_pick rfl rfl (by rw [h6]; rfl) rfl)) ?_
        refine rg_done rfl ?_
        refine a_condK rfl rfl ?_
        refine a_rseq ?_
        refine rg_put (d := 33) (v := .d (.ag (eCs x))) rfl (og rfl (of_eff (s_load_pts rfl Tryd.underlying32 rfl ti32 rfl rfl rfl rfl) rfl)) ?_
        refine rg_sto (nw := [(102, .bx 32 (eCs x))]) rfl (og rfl (of_eff (s_store rfl rfl ti32 rfl rfl rfl rfl rfl rfl) rfl)) ?_
        refine rg_put (d := 5) (v := .d (.fl (.int .i64 0))) rfl (og rfl (op_assign rfl rfl rfl)) ?_
        refine rg_put (d := 6) (v := .d (.fl (.int .i64 13))) rfl (og rfl (op_assign rfl rfl rfl)) ?_
        refine rg_done rfl ?_
        refine a_ret ?_
        show ∃ ds, ResL _ _ _ ds ∧ RV.of ds = _
        refine ⟨[.ag [.fl (.string x.id), .fl (.string x.plate), .fl (.string x.key), .fl (.int .i64 x.begun), .fl (.int .i64 x.since), .fl (.int .i64 x.stage), .fl (.int .i64 x.owed), .fl (.int .i64 x.paid), .fl (.int .i64 x.paused), .fl (.int .i64 x.ap.state), .fl (.int .i64 x.ap.ground), .fl (.int .i64 x.ap.day)], .fl (.int .i64 0), .fl (.int .i64 13)], (.cons (.cellT rfl rfl Tryd.underlying32 rfl ti32 rfl (Cv.ag (xs := [.fl (.string x.id), .fl (.string x.plate), .fl (.string x.key), .fl (.int .i64 x.begun), .fl (.int .i64 x.since), .fl (.int .i64 x.stage), .fl (.int .i64 x.owed), .fl (.int .i64 x.paid), .fl (.int .i64 x.paused), .fl (.int .i64 x.ap.state), .fl (.int .i64 x.ap.ground), .fl (.int .i64 x.ap.day)]) (ys := [.fl (.string x.id), .fl (.string x.plate), .fl (.string x.key), .fl (.int .i64 x.begun), .fl (.int .i64 x.since), .fl (.int .i64 x.stage), .fl (.int .i64 x.owed), .fl (.int .i64 x.paid), .fl (.int .i64 x.paused), .fl (.int .i64 x.ap.state), .fl (.int .i64 x.ap.ground), .fl (.int .i64 x.ap.day)]) ⟨Cv.refl _, Cv.refl _, Cv.refl _, Cv.refl _, Cv.refl _, Cv.refl _, Cv.refl _, Cv.refl _, Cv.refl _, Cv.refl _, Cv.refl _, Cv.refl _, trivial⟩)) (.cons (.tmp rfl (.d _)) (.cons (.tmp rfl (.d _)) .nil))), ?_⟩
        have hpb := pay_bad (x := x) (k := k) hc1 hc2 (by omega) (.inl (of_decide_eq_true h6))
        have hu : pay x c = ((x, 0), 13) := by
          unfold pay; simp only [h1, h3, h4, h6, hpb]; rfl
        rw [hu]; rfl
    · skip
      have h12 := f_dec h4
      refine a_exit ?_
      show A _ _ _ _ _ _ _
      refine a_rseq ?_
      have hpb := pay_good (x := x) hc1 hc2 (fun q h => hq q (by omega))
      have hpf := payB_f hpb
      refine rg_put (d := 35) (v := .pt 101 6) rfl (og rfl (of_eff (s_field_pt rfl Tryd.underlying32 rfl ti3 rfl rfl rfl) rfl)) ?_
      refine rg_put (d := 36) (v := .d (.fl (.int .i64 x.owed))) rfl (og rfl (op_load_pt rfl Tryd.underlying3 rfl rfl rfl rfl rfl)) ?_
      refine rg_put (d := 37) (v := .pt 101 7) rfl (og rfl (of_eff (s_field_pt rfl Tryd.underlying32 rfl ti3 rfl rfl rfl) rfl)) ?_
      refine rg_put (d := 38) (v := .d (.fl (.int .i64 x.paid))) rfl (og rfl (op_load_pt rfl Tryd.underlying3 rfl rfl rfl rfl rfl)) ?_
      refine rg_put (d := 39) (v := .d (.fl (.int .i64 (x.owed - x.paid)))) rfl (og rfl (op_bin rfl rfl rfl (fun x y w => b_sub64 _ _ _ x y w (by omega)) rfl)) ?_
      refine rg_put (d := 9) (v := .d (.fl (.int .i64 (x.owed - x.paid)))) rfl (og rfl (op_assign rfl rfl rfl)) ?_
      refine rg_done rfl ?_
      refine a_seq ?_
      refine a_rseq ?_
      refine rg_put (d := 40) (v := .d (.fl (.int .i64 c))) rfl (og rfl (op_move rfl rfl rfl)) ?_
      refine rg_put (d := 41) (v := .d (.fl (.int .i64 (x.owed - x.paid)))) rfl (og rfl (op_move rfl rfl rfl)) ?_
      refine rg_put (d := 42) (v := .d (.fl (.bool ((decide (c < (x.owed - x.paid))))))) rfl (og rfl (op_bin rfl rfl rfl (b_lss _ _ _ _) rfl)) ?_
      refine rg_done rfl ?_
      refine a_cond rfl (fun h13 => ?_) (fun h13 => ?_)
      · skip
        have h14 := t_dec h13
        refine a_rseq ?_
        refine rg_put (d := 43) (v := .pt 101 7) rfl (og rfl (of_eff (s_field_pt rfl Tryd.underlying32 rfl ti3 rfl rfl rfl) rfl)) ?_
        refine rg_put (d := 44) (v := .d (.fl (.int .i64 x.paid))) rfl (og rfl (op_load_pt rfl Tryd.underlying3 rfl rfl rfl rfl rfl)) ?_
        refine rg_put (d := 45) (v := .d (.fl (.int .i64 c))) rfl (og rfl (op_move rfl rfl rfl)) ?_
        refine rg_put (d := 46) (v := .d (.fl (.int .i64 (x.paid + c)))) rfl (og rfl (op_bin rfl rfl rfl (fun x y w => b_add64 _ _ _ x y w (by omega)) rfl)) ?_
        refine rg_put (d := 47) (v := .pt 101 7) rfl (og rfl (of_eff (s_field_pt rfl Tryd.underlying32 rfl ti3 rfl rfl rfl) rfl)) ?_
        refine rg_sto (nw := [(101, .bx 32 [.fl (.string x.id), .fl (.string x.plate), .fl (.string x.key), .fl (.int .i64 x.begun), .fl (.int .i64 x.since), .fl (.int .i64 x.stage), .fl (.int .i64 x.owed), .fl (.int .i64 (x.paid + c)), .fl (.int .i64 x.paused), .fl (.int .i64 x.ap.state), .fl (.int .i64 x.ap.ground), .fl (.int .i64 x.ap.day)])]) rfl (og rfl (of_eff (s_store rfl rfl ti3 rfl rfl rfl rfl rfl rfl) rfl)) ?_
        refine rg_done rfl ?_
        refine a_rseq ?_
        refine rg_put (d := 48) (v := .d (.ag (eCs ((Cs.mk x.id x.plate x.key x.begun x.since x.stage x.owed (x.paid + c) x.paused x.ap))))) rfl (og rfl (of_eff (s_load_pts rfl Tryd.underlying32 rfl ti32 rfl rfl rfl rfl) rfl)) ?_
        refine rg_sto (nw := [(102, .bx 32 ((eCs ((Cs.mk x.id x.plate x.key x.begun x.since x.stage x.owed (x.paid + c) x.paused x.ap)))))]) rfl (og rfl (of_eff (s_store rfl rfl ti32 rfl rfl rfl rfl rfl rfl) rfl)) ?_
        refine rg_put (d := 5) (v := .d (.fl (.int .i64 0))) rfl (og rfl (op_assign rfl rfl rfl)) ?_
        refine rg_put (d := 6) (v := .d (.fl (.int .i64 0))) rfl (og rfl (op_assign rfl rfl rfl)) ?_
        refine rg_done rfl ?_
        refine a_ret ?_
        show ∃ ds, ResL _ _ _ ds ∧ RV.of ds = _
        refine ⟨[.ag [.fl (.string (x.id)), .fl (.string (x.plate)), .fl (.string (x.key)), .fl (.int .i64 (x.begun)), .fl (.int .i64 (x.since)), .fl (.int .i64 (x.stage)), .fl (.int .i64 (x.owed)), .fl (.int .i64 (x.paid + c)), .fl (.int .i64 (x.paused)), .fl (.int .i64 ((x.ap).state)), .fl (.int .i64 ((x.ap).ground)), .fl (.int .i64 ((x.ap).day))], .fl (.int .i64 0), .fl (.int .i64 0)], (.cons (.cellT rfl rfl Tryd.underlying32 rfl ti32 rfl (Cv.ag (xs := [.fl (.string (x.id)), .fl (.string (x.plate)), .fl (.string (x.key)), .fl (.int .i64 (x.begun)), .fl (.int .i64 (x.since)), .fl (.int .i64 (x.stage)), .fl (.int .i64 (x.owed)), .fl (.int .i64 (x.paid + c)), .fl (.int .i64 (x.paused)), .fl (.int .i64 ((x.ap).state)), .fl (.int .i64 ((x.ap).ground)), .fl (.int .i64 ((x.ap).day))]) (ys := [.fl (.string (x.id)), .fl (.string (x.plate)), .fl (.string (x.key)), .fl (.int .i64 (x.begun)), .fl (.int .i64 (x.since)), .fl (.int .i64 (x.stage)), .fl (.int .i64 (x.owed)), .fl (.int .i64 (x.paid + c)), .fl (.int .i64 (x.paused)), .fl (.int .i64 ((x.ap).state)), .fl (.int .i64 ((x.ap).ground)), .fl (.int .i64 ((x.ap).day))]) ⟨Cv.refl _, Cv.refl _, Cv.refl _, Cv.refl _, Cv.refl _, Cv.refl _, Cv.refl _, Cv.refl _, Cv.refl _, Cv.refl _, Cv.refl _, Cv.refl _, trivial⟩)) (.cons (.tmp rfl (.d _)) (.cons (.tmp rfl (.d _)) .nil))), ?_⟩
        have hu : pay x c = (({ x with paid := x.paid + c }, 0), 0) := by
          unfold pay; simp only [h1, h3, h4, h13, hpb]; rfl
        rw [hu]; rfl
      · skip
        have h15 := f_dec h13
        refine a_skip ?_
        show A _ _ _ _ _ _ _
        refine a_rseq ?_
        refine rg_put (d := 49) (v := .pt 101 7) rfl (og rfl (of_eff (s_field_pt rfl Tryd.underlying32 rfl ti3 rfl rfl rfl) rfl)) ?_
        refine rg_put (d := 50) (v := .d (.fl (.int .i64 x.paid))) rfl (og rfl (op_load_pt rfl Tryd.underlying3 rfl rfl rfl rfl rfl)) ?_
        refine rg_put (d := 51) (v := .pt 101 6) rfl (og rfl (of_eff (s_field_pt rfl Tryd.underlying32 rfl ti3 rfl rfl rfl) rfl)) ?_
        refine rg_put (d := 52) (v := .d (.fl (.int .i64 x.owed))) rfl (og rfl (op_load_pt rfl Tryd.underlying3 rfl rfl rfl rfl rfl)) ?_
        refine rg_put (d := 53) (v := .d (.fl (.int .i64 (max x.paid x.owed)))) rfl (og rfl (op_max rfl rfl rfl rfl)) ?_
        refine rg_put (d := 54) (v := .pt 101 7) rfl (og rfl (of_eff (s_field_pt rfl Tryd.underlying32 rfl ti3 rfl rfl rfl) rfl)) ?_
        refine rg_sto (nw := [(101, .bx 32 [.fl (.string x.id), .fl (.string x.plate), .fl (.string x.key), .fl (.int .i64 x.begun), .fl (.int .i64 x.since), .fl (.int .i64 x.stage), .fl (.int .i64 x.owed), .fl (.int .i64 (max x.paid x.owed)), .fl (.int .i64 x.paused), .fl (.int .i64 x.ap.state), .fl (.int .i64 x.ap.ground), .fl (.int .i64 x.ap.day)])]) rfl (og rfl (of_eff (s_store rfl rfl ti3 rfl rfl rfl rfl rfl rfl) rfl)) ?_
        refine rg_done rfl ?_
        refine a_rseq ?_
        refine rg_put (d := 55) (v := .pt 101 5) rfl (og rfl (of_eff (s_field_pt rfl Tryd.underlying32 rfl ti3 rfl rfl rfl) rfl)) ?_
        refine rg_sto (nw := [(101, .bx 32 [.fl (.string x.id), .fl (.string x.plate), .fl (.string x.key), .fl (.int .i64 x.begun), .fl (.int .i64 x.since), .fl (.int .i64 6), .fl (.int .i64 x.owed), .fl (.int .i64 (max x.paid x.owed)), .fl (.int .i64 x.paused), .fl (.int .i64 x.ap.state), .fl (.int .i64 x.ap.ground), .fl (.int .i64 x.ap.day)])]) rfl (og rfl (of_eff (s_store rfl rfl ti3 rfl rfl rfl rfl rfl rfl) rfl)) ?_
        refine rg_done rfl ?_
        refine a_rseq ?_
        refine rg_put (d := 56) (v := .d (.ag (eCs ((Cs.mk x.id x.plate x.key x.begun x.since 6 x.owed (max x.paid x.owed) x.paused x.ap))))) rfl (og rfl (of_eff (s_load_pts rfl Tryd.underlying32 rfl ti32 rfl rfl rfl rfl) rfl)) ?_
        refine rg_put (d := 57) (v := .d (.fl (.int .i64 c))) rfl (og rfl (op_move rfl rfl rfl)) ?_
        refine rg_put (d := 58) (v := .d (.fl (.int .i64 (x.owed - x.paid)))) rfl (og rfl (op_move rfl rfl rfl)) ?_
        refine rg_put (d := 59) (v := .d (.fl (.int .i64 ((max (x.owed - x.paid) 0))))) rfl (og rfl (op_max rfl rfl rfl rfl)) ?_
        refine rg_put (d := 60) (v := .d (.fl (.int .i64 ((c - (max (x.owed - x.paid) 0)))))) rfl (og rfl (op_bin rfl rfl rfl (fun x y w => b_sub64 _ _ _ x y w (by omega)) rfl)) ?_
        refine rg_sto (nw := [(102, .bx 32 ((eCs ((Cs.mk x.id x.plate x.key x.begun x.since 6 x.owed (max x.paid x.owed) x.paused x.ap)))))]) rfl (og rfl (of_eff (s_store rfl rfl ti32 rfl rfl rfl rfl rfl rfl) rfl)) ?_
        refine rg_put (d := 5) (v := .d (.fl (.int .i64 ((c - (max (x.owed - x.paid) 0)))))) rfl (og rfl (op_assign rfl rfl rfl)) ?_
        refine rg_put (d := 6) (v := .d (.fl (.int .i64 0))) rfl (og rfl (op_assign rfl rfl rfl)) ?_
        refine rg_done rfl ?_
        refine a_ret ?_
        show ∃ ds, ResL _ _ _ ds ∧ RV.of ds = _
        refine ⟨[.ag [.fl (.string (x.id)), .fl (.string (x.plate)), .fl (.string (x.key)), .fl (.int .i64 (x.begun)), .fl (.int .i64 (x.since)), .fl (.int .i64 (6)), .fl (.int .i64 (x.owed)), .fl (.int .i64 (max x.paid x.owed)), .fl (.int .i64 (x.paused)), .fl (.int .i64 ((x.ap).state)), .fl (.int .i64 ((x.ap).ground)), .fl (.int .i64 ((x.ap).day))], .fl (.int .i64 (c - (max (x.owed - x.paid) 0))), .fl (.int .i64 0)], (.cons (.cellT rfl rfl Tryd.underlying32 rfl ti32 rfl (Cv.ag (xs := [.fl (.string (x.id)), .fl (.string (x.plate)), .fl (.string (x.key)), .fl (.int .i64 (x.begun)), .fl (.int .i64 (x.since)), .fl (.int .i64 (6)), .fl (.int .i64 (x.owed)), .fl (.int .i64 (max x.paid x.owed)), .fl (.int .i64 (x.paused)), .fl (.int .i64 ((x.ap).state)), .fl (.int .i64 ((x.ap).ground)), .fl (.int .i64 ((x.ap).day))]) (ys := [.fl (.string (x.id)), .fl (.string (x.plate)), .fl (.string (x.key)), .fl (.int .i64 (x.begun)), .fl (.int .i64 (x.since)), .fl (.int .i64 (6)), .fl (.int .i64 (x.owed)), .fl (.int .i64 (max x.paid x.owed)), .fl (.int .i64 (x.paused)), .fl (.int .i64 ((x.ap).state)), .fl (.int .i64 ((x.ap).ground)), .fl (.int .i64 ((x.ap).day))]) ⟨Cv.refl _, Cv.refl _, Cv.refl _, Cv.refl _, Cv.refl _, Cv.refl _, Cv.refl _, Cv.refl _, Cv.refl _, Cv.refl _, Cv.refl _, Cv.refl _, trivial⟩)) (.cons (.tmp rfl (.d _)) (.cons (.tmp rfl (.d _)) .nil))), ?_⟩
        have hu : pay x c = (({ x with paid := max x.paid x.owed, stage := 6 }, (c - (max (x.owed - x.paid) 0))), 0) := by
          unfold pay; simp only [h1, h3, h4, h13, hpb]; rfl
        rw [hu]; rfl

set_option maxHeartbeats 4000000 in
set_option maxRecDepth 100000 in
theorem wv11 (x : Cs) : Ctr Tryd.prog 11 [.ag (eCs x)] (.tu [.ag (eCs (wv x).1), .fl (.int .i64 (wv x).2)]) := by
  refine ctr (n := 10) (rs := #[.cell 2 32, .tmp 3]) (L := [(0, .d (.ag (eCs x)))]) Tryd.func11 rfl rfl rfl rfl rfl (fun w0 U0 => ?_)
  refine a_rseq ?_
  refine rg_nam (d := 1) (v := .pt 101 0) (m := 101) (nw := [(101, .bx 32 (eCs x))]) rfl (og rfl (of_eff (op_box 101 rfl rfl rfl rfl) rfl)) rfl ?_
  refine rg_nam (d := 2) (v := .pt 102 0) (m := 102) (nw := [(102, .bx 32 ([.fl (.string (⟨#[]⟩)), .fl (.string (⟨#[]⟩)), .fl (.string (⟨#[]⟩)), .fl (.int .i64 0), .fl (.int .i64 0), .fl (.int .i64 0), .fl (.int .i64 0), .fl (.int .i64 0), .fl (.int .i64 0), .fl (.int .i64 0), .fl (.int .i64 0), .fl (.int .i64 0)]))]) rfl (og rfl (of_eff (s_alloc 102 rfl ti32 (by kernel_rfl) rfl) rfl)) rfl ?_
  refine rg_put (d := 3) (v := .d (.fl (.int .i64 0))) rfl (og rfl (op_assign rfl rfl rfl)) ?_
  refine rg_done rfl ?_
  refine a_seq ?_
  refine a_rseq ?_
  refine rg_put (d := 4) (v := .d (.ag (eCs x))) rfl (og rfl (of_eff (s_load_pts rfl Tryd.underlying32 rfl ti32 rfl rfl rfl rfl) rfl)) ?_
  refine rg_put (d := 5) (v := .d (.fl (.bool (opn x)))) rfl (og rfl (op_call rfl Tryd.func13 nm13 rfl (.cons rfl (.d _) .nil) (opn21 x) rfl)) ?_
  refine rg_put (d := 6) (v := .d (.fl (.bool ((!(opn x)))))) rfl (og rfl (op_un rfl rfl (u_not _) rfl)) ?_
  refine rg_done rfl ?_
  refine a_cond rfl (fun h1 => ?_) (fun h1 => ?_)
  · skip
    have h2 := t_not h1
    refine a_rseq ?_
    refine rg_put (d := 7) (v := .d (.ag (eCs x))) rfl (og rfl (of_eff (s_load_pts rfl Tryd.underlying32 rfl ti32 rfl rfl rfl rfl) rfl)) ?_
    refine rg_sto (nw := [(102, .bx 32 (eCs x))]) rfl (og rfl (of_eff (s_store rfl rfl ti32 rfl rfl rfl rfl rfl rfl) rfl)) ?_
    refine rg_put (d := 3) (v := .d (.fl (.int .i64 28))) rfl (og rfl (op_assign rfl rfl rfl)) ?_
    refine rg_done rfl ?_
    refine a_ret ?_
    show ∃ ds, ResL _ _ _ ds ∧ RV.of ds = _
    refine ⟨[.ag [.fl (.string x.id), .fl (.string x.plate), .fl (.string x.key), .fl (.int .i64 x.begun), .fl (.int .i64 x.since), .fl (.int .i64 x.stage), .fl (.int .i64 x.owed), .fl (.int .i64 x.paid), .fl (.int .i64 x.paused), .fl (.int .i64 x.ap.state), .fl (.int .i64 x.ap.ground), .fl (.int .i64 x.ap.day)], .fl (.int .i64 28)], (.cons (.cellT rfl rfl Tryd.underlying32 rfl ti32 rfl (Cv.ag (xs := [.fl (.string x.id), .fl (.string x.plate), .fl (.string x.key), .fl (.int .i64 x.begun), .fl (.int .i64 x.since), .fl (.int .i64 x.stage), .fl (.int .i64 x.owed), .fl (.int .i64 x.paid), .fl (.int .i64 x.paused), .fl (.int .i64 x.ap.state), .fl (.int .i64 x.ap.ground), .fl (.int .i64 x.ap.day)]) (ys := [.fl (.string x.id), .fl (.string x.plate), .fl (.string x.key), .fl (.int .i64 x.begun), .fl (.int .i64 x.since), .fl (.int .i64 x.stage), .fl (.int .i64 x.owed), .fl (.int .i64 x.paid), .fl (.int .i64 x.paused), .fl (.int .i64 x.ap.state), .fl (.int .i64 x.ap.ground), .fl (.int .i64 x.ap.day)]) ⟨Cv.refl _, Cv.refl _, Cv.refl _, Cv.refl _, Cv.refl _, Cv.refl _, Cv.refl _, Cv.refl _, Cv.refl _, Cv.refl _, Cv.refl _, Cv.refl _, trivial⟩)) (.cons (.tmp rfl (.d _)) .nil)), ?_⟩
    have hu : wv x = (x, 28) := by
      unfold wv; simp only [h1, h2]; rfl
    rw [hu]; rfl
  · skip
    have h3 := f_not h1
    refine a_skip ?_
    show A _ _ _ _ _ _ _
    refine a_rseq ?_
    refine rg_put (d := 8) (v := .pt 101 5) rfl (og rfl (of_eff (s_field_pt rfl Tryd.underlying32 rfl ti3 rfl rfl rfl) rfl)) ?_
    refine rg_sto (nw := [(101, .bx 32 [.fl (.string x.id), .fl (.string x.plate), .fl (.string x.key), .fl (.int .i64 x.begun), .fl (.int .i64 x.since), .fl (.int .i64 7), .fl (.int .i64 x.owed), .fl (.int .i64 x.paid), .fl (.int .i64 x.paused), .fl (.int .i64 x.ap.state), .fl (.int .i64 x.ap.ground), .fl (.int .i64 x.ap.day)])]) rfl (og rfl (of_eff (s_store rfl rfl ti3 rfl rfl rfl rfl rfl rfl) rfl)) ?_
    refine rg_done rfl ?_
    refine a_rseq ?_
    refine rg_put (d := 9) (v := .d (.ag (eCs (Cs.mk x.id x.plate x.key x.begun x.since 7 x.owed x.paid x.paused x.ap)))) rfl (og rfl (of_eff (s_load_pts rfl Tryd.underlying32 rfl ti32 rfl rfl rfl rfl) rfl)) ?_
    refine rg_sto (nw := [(102, .bx 32 ((eCs (Cs.mk x.id x.plate x.key x.begun x.since 7 x.owed x.paid x.paused x.ap))))]) rfl (og rfl (of_eff (s_store rfl rfl ti32 rfl rfl rfl rfl rfl rfl) rfl)) ?_
    refine rg_put (d := 3) (v := .d (.fl (.int .i64 0))) rfl (og rfl (op_assign rfl rfl rfl)) ?_
    refine rg_done rfl ?_
    refine a_ret ?_
    show ∃ ds, ResL _ _ _ ds ∧ RV.of ds = _
    refine ⟨[.ag [.fl (.string (x.id)), .fl (.string (x.plate)), .fl (.string (x.key)), .fl (.int .i64 (x.begun)), .fl (.int .i64 (x.since)), .fl (.int .i64 (7)), .fl (.int .i64 (x.owed)), .fl (.int .i64 (x.paid)), .fl (.int .i64 (x.paused)), .fl (.int .i64 ((x.ap).state)), .fl (.int .i64 ((x.ap).ground)), .fl (.int .i64 ((x.ap).day))], .fl (.int .i64 0)], (.cons (.cellT rfl rfl Tryd.underlying32 rfl ti32 rfl (Cv.ag (xs := [.fl (.string (x.id)), .fl (.string (x.plate)), .fl (.string (x.key)), .fl (.int .i64 (x.begun)), .fl (.int .i64 (x.since)), .fl (.int .i64 (7)), .fl (.int .i64 (x.owed)), .fl (.int .i64 (x.paid)), .fl (.int .i64 (x.paused)), .fl (.int .i64 ((x.ap).state)), .fl (.int .i64 ((x.ap).ground)), .fl (.int .i64 ((x.ap).day))]) (ys := [.fl (.string (x.id)), .fl (.string (x.plate)), .fl (.string (x.key)), .fl (.int .i64 (x.begun)), .fl (.int .i64 (x.since)), .fl (.int .i64 (7)), .fl (.int .i64 (x.owed)), .fl (.int .i64 (x.paid)), .fl (.int .i64 (x.paused)), .fl (.int .i64 ((x.ap).state)), .fl (.int .i64 ((x.ap).ground)), .fl (.int .i64 ((x.ap).day))]) ⟨Cv.refl _, Cv.refl _, Cv.refl _, Cv.refl _, Cv.refl _, Cv.refl _, Cv.refl _, Cv.refl _, Cv.refl _, Cv.refl _, Cv.refl _, Cv.refl _, trivial⟩)) (.cons (.tmp rfl (.d _)) .nil)), ?_⟩
    have hu : wv x = ({ x with stage := 7 }, 0) := by
      unfold wv; simp only [h1, h3]; rfl
    rw [hu]; rfl

end Go.Proofs.YtdafmaocbkmmgaaDoor.Wk
