/- Payments, waivers, equal cases. Condition: a payment that is a number of the machine. -/
import Derived.Test.YtadaenpkmkjkjaaDoorB5
set_option linter.unusedSimpArgs false
set_option linter.unusedVariables false
namespace Go.Proofs.YtadaenpkmkjkjaaDoor.Wk
open Go Go.RowKit Go.Proofs.YtadaenpkmkjkjaaDoor.Av
set_option maxHeartbeats 4000000 in
set_option maxRecDepth 100000 in
theorem pay23 (x : Cs) (c : Int) (hc1 : -9223372036854775808 ≤ c) (hc2 : c ≤ 9223372036854775807) : Ctr Tryd.prog 23 [.ag (eCs x), .fl (.int .i64 c)] (.tu [.ag (eCs (pay x c).1.1), .fl (.int .i64 (pay x c).1.2), .fl (.int .i64 (pay x c).2)]) := by
  refine ctr (n := 61) (rs := #[.cell 4 29, .tmp 5, .tmp 6]) (L := [(0, .d (.ag (eCs x))), (1, .d (.fl (.int .i64 c)))]) Tryd.func23 rfl rfl rfl rfl rfl (fun w0 U0 => ?_)
  refine a_rseq ?_
  refine rg_nam (d := 2) (v := .pt 101 0) (m := 101) (nw := [(101, .bx 29 (eCs x))]) rfl (og rfl (of_eff (op_box 101 rfl rfl rfl rfl) rfl)) rfl ?_
  refine rg_nam (d := 4) (v := .pt 102 0) (m := 102) (nw := [(102, .bx 29 ([.fl (.string (⟨#[]⟩)), .fl (.string (⟨#[]⟩)), .fl (.string (⟨#[]⟩)), .fl (.int .i64 0), .fl (.int .i64 0), .fl (.int .i64 0), .fl (.int .i64 0), .fl (.int .i64 0), .fl (.int .i64 0), .fl (.int .i64 0), .fl (.int .i64 0), .fl (.int .i64 0)]))]) rfl (og rfl (of_eff (s_alloc 102 rfl ti29 (by kernel_rfl) rfl) rfl)) rfl ?_
  refine rg_put (d := 5) (v := .d (.fl (.int .i64 0))) rfl (og rfl (op_assign rfl rfl rfl)) ?_
  refine rg_put (d := 6) (v := .d (.fl (.int .i64 0))) rfl (og rfl (op_assign rfl rfl rfl)) ?_
  refine rg_done rfl ?_
  refine a_seq ?_
  refine a_rseq ?_
  refine rg_put (d := 10) (v := .d (.ag (eCs x))) rfl (og rfl (of_eff (s_load_pts rfl Tryd.underlying29 rfl ti29 rfl rfl rfl rfl) rfl)) ?_
  refine rg_put (d := 11) (v := .d (.fl (.bool (opn x)))) rfl (og rfl (op_call rfl Tryd.func21 nm21 rfl (.cons rfl (.d _) .nil) (opn21 x) rfl)) ?_
  refine rg_put (d := 12) (v := .d (.fl (.bool ((!(opn x)))))) rfl (og rfl (op_un rfl rfl (u_not _) rfl)) ?_
  refine rg_done rfl ?_
  refine a_cond rfl (fun h1 => ?_) (fun h1 => ?_)
  · skip
    have h2 := t_not h1
    refine a_rseq ?_
    refine rg_put (d := 13) (v := .d (.ag (eCs x))) rfl (og rfl (of_eff (s_load_pts rfl Tryd.underlying29 rfl ti29 rfl rfl rfl rfl) rfl)) ?_
    refine rg_sto (nw := [(102, .bx 29 (eCs x))]) rfl (og rfl (of_eff (s_store rfl rfl ti29 rfl rfl rfl rfl rfl rfl) rfl)) ?_
    refine rg_put (d := 5) (v := .d (.fl (.int .i64 0))) rfl (og rfl (op_assign rfl rfl rfl)) ?_
    refine rg_put (d := 6) (v := .d (.fl (.int .i64 28))) rfl (og rfl (op_assign rfl rfl rfl)) ?_
    refine rg_done rfl ?_
    refine a_ret ?_
    show ∃ ds, ResL _ _ _ ds ∧ RV.of ds = _
    refine ⟨[.ag [.fl (.string x.id), .fl (.string x.plate), .fl (.string x.key), .fl (.int .i64 x.begun), .fl (.int .i64 x.since), .fl (.int .i64 x.stage), .fl (.int .i64 x.owed), .fl (.int .i64 x.paid), .fl (.int .i64 x.paused), .fl (.int .i64 x.ap.state), .fl (.int .i64 x.ap.ground), .fl (.int .i64 x.ap.day)], .fl (.int .i64 0), .fl (.int .i64 28)], (.cons (.cellT rfl rfl Tryd.underlying29 rfl ti29 rfl (Cv.ag (xs := [.fl (.string x.id), .fl (.string x.plate), .fl (.string x.key), .fl (.int .i64 x.begun), .fl (.int .i64 x.since), .fl (.int .i64 x.stage), .fl (.int .i64 x.owed), .fl (.int .i64 x.paid), .fl (.int .i64 x.paused), .fl (.int .i64 x.ap.state), .fl (.int .i64 x.ap.ground), .fl (.int .i64 x.ap.day)]) (ys := [.fl (.string x.id), .fl (.string x.plate), .fl (.string x.key), .fl (.int .i64 x.begun), .fl (.int .i64 x.since), .fl (.int .i64 x.stage), .fl (.int .i64 x.owed), .fl (.int .i64 x.paid), .fl (.int .i64 x.paused), .fl (.int .i64 x.ap.state), .fl (.int .i64 x.ap.ground), .fl (.int .i64 x.ap.day)]) ⟨Cv.refl _, Cv.refl _, Cv.refl _, Cv.refl _, Cv.refl _, Cv.refl _, Cv.refl _, Cv.refl _, Cv.refl _, Cv.refl _, Cv.refl _, Cv.refl _, trivial⟩)) (.cons (.tmp rfl (.d _)) (.cons (.tmp rfl (.d _)) .nil))), ?_⟩
    have hu : pay x c = ((x, 0), 28) := by
      unfold pay; simp only [h1, h2]; rfl
    rw [hu]; rfl
  · skip
    have h3 := f_not h1
    refine a_skip ?_
    show A _ _ _ _ _ _ _
    refine a_seq ?_
    refine a_rseq ?_
    refine rg_put (d := 14) (v := .d (.fl (.int .i64 c))) rfl (og rfl (op_move rfl rfl rfl)) ?_
    refine rg_put (d := 15) (v := .d (.fl (.int .i64 ((IntKind.i64.wrap (c - 1)))))) rfl (og rfl (op_bin rfl rfl rfl (b_sub _ _ _ _) rfl)) ?_
    refine rg_put (d := 16) (v := .d (.fl (.int .i64 c))) rfl (og rfl (op_move rfl rfl rfl)) ?_
    refine rg_put (d := 17) (v := .pt 101 6) rfl (og rfl (of_eff (s_field_pt rfl Tryd.underlying29 rfl ti3 rfl rfl rfl) rfl)) ?_
    refine rg_put (d := 18) (v := .d (.fl (.int .i64 x.owed))) rfl (og rfl (op_load_pt rfl Tryd.underlying3 rfl rfl rfl rfl rfl)) ?_
    refine rg_put (d := 19) (v := .pt 101 7) rfl (og rfl (of_eff (s_field_pt rfl Tryd.underlying29 rfl ti3 rfl rfl rfl) rfl)) ?_
    refine rg_put (d := 20) (v := .d (.fl (.int .i64 x.paid))) rfl (og rfl (op_load_pt rfl Tryd.underlying3 rfl rfl rfl rfl rfl)) ?_
    refine rg_put (d := 21) (v := .d (.sl 1 (List.map (rI .i64) [(IntKind.i64.wrap (c - 1)), c, x.owed, x.paid]))) rfl (og rfl (of_eff (op_slices rfl Tryd.underlying22 ti3 rfl rfl rfl (by kernel_rfl) (xs := [.fl (.int .i64 ((IntKind.i64.wrap (c - 1)))), .fl (.int .i64 c), .fl (.int .i64 x.owed), .fl (.int .i64 x.paid)]) rfl rfl (.cons rfl rfl (.d _) rfl rfl rfl (.cons rfl rfl (.d _) rfl rfl rfl (.cons rfl rfl (.d _) rfl rfl rfl (.cons rfl rfl (.d _) rfl rfl rfl .nil)))) rfl) rfl)) ?_
    refine rg_put (d := 22) (v := .d (.fl (.int .i64 (([(IntKind.i64.wrap (c - 1)), c, x.owed, x.paid].length : Int))))) rfl (og rfl (s_len rfl Tryd.underlying22 rfl rfl)) ?_
    refine rg_put (d := 23) (v := .d (.fl (.int .i64 0))) rfl (og rfl (op_move rfl rfl rfl)) ?_
    refine rg_done rfl ?_
    refine a_block ?_
    refine a_loop (ι := Nat) (fun k => SS [(0, .d (.ag (eCs x))), (1, .d (.fl (.int .i64 c))), (2, .pt 101 0), (4, .pt 102 0), (12, .d (.fl (.bool ((!(opn x)))))), (21, .d (.sl 1 (List.map (rI .i64) [(IntKind.i64.wrap (c - 1)), c, x.owed, x.paid]))), (22, .d (.fl (.int .i64 (([(IntKind.i64.wrap (c - 1)), c, x.owed, x.paid].length : Int))))), (23, .d (.fl (.int .i64 (k : Int))))] [(101, .bx 29 (eCs x)), (102, .bx 29 ([.fl (.string (⟨#[]⟩)), .fl (.string (⟨#[]⟩)), .fl (.string (⟨#[]⟩)), .fl (.int .i64 0), .fl (.int .i64 0), .fl (.int .i64 0), .fl (.int .i64 0), .fl (.int .i64 0), .fl (.int .i64 0), .fl (.int .i64 0), .fl (.int .i64 0), .fl (.int .i64 0)]))]) (fun k => k ≤ 4 ∧ ∀ q, q < k → 0 ≤ ix (pl4 x c) q ∧ ix (pl4 x c) q ≤ 1125899906842624) (fun k => 4 - k) 0 (⟨by omega, fun q h => by omega⟩) (imp_forget rfl ⟨rfl, rfl, rfl, rfl, rfl, rfl, rfl, (by first | rfl | exact ci (by omega) | exact ci (by simp) | exact cd (by simp) | simp), trivial⟩ ⟨rfl, rfl, trivial⟩) (fun k hok => ?_)
    obtain ⟨hk, hq⟩ := hok
    have hl4 : ([IntKind.i64.wrap (c - 1), c, x.owed, x.paid] : List Int).length = 4 := rfl
    refine a_rseq ?_
    refine rg_put (d := 24) (v := .d (.fl (.bool ((decide ((k : Int) < ([(IntKind.i64.wrap (c - 1)), c, x.owed, x.paid].length : Int))))))) rfl (og rfl (op_bin rfl rfl rfl (b_lss _ _ _ _) rfl)) ?_
    refine rg_done rfl ?_
    refine a_seq ?_
    refine a_cond rfl (fun h4 => ?_) (fun h4 => ?_)
    · skip
      have h5 := t_dec h4
      refine a_skip ?_
      show A _ _ _ _ _ _ _
      refine a_seq ?_
      refine a_block ?_
      refine a_rseq ?_
      refine rg_put (d := 25) (v := .el ((rI .i64 ((ix [(IntKind.i64.wrap (c - 1)), c, x.owed, x.paid] k))))) rfl (og rfl (s_index rfl Tryd.underlying22 ti3 rfl rfl (by omega) (row_at (by omega)) rfl)) ?_
      refine rg_put (d := 26) (v := .d (.fl (.int .i64 ((ix [(IntKind.i64.wrap (c - 1)), c, x.owed, x.paid] k))))) rfl (og rfl (op_load_el rfl Tryd.underlying3 rfl rfl rfl rfl)) ?_
      refine rg_put (d := 8) (v := .d (.fl (.int .i64 ((ix [(IntKind.i64.wrap (c - 1)), c, x.owed, x.paid] k))))) rfl (og rfl (op_assign rfl rfl rfl)) ?_
      refine rg_done rfl ?_
      refine a_rseq ?_
      refine rg_put (d := 27) (v := .d (.fl (.int .i64 ((ix [(IntKind.i64.wrap (c - 1)), c, x.owed, x.paid] k))))) rfl (og rfl (op_move rfl rfl rfl)) ?_
      refine rg_put (d := 28) (v := .d (.fl (.bool ((decide ((ix [(IntKind.i64.wrap (c - 1)), c, x.owed, x.paid] k) < 0)))))) rfl (og rfl (op_bin rfl rfl rfl (b_lss _ _ _ _) rfl)) ?_
      refine rg_put (d := 29) (v := .d (.fl (.bool ((decide ((ix [(IntKind.i64.wrap (c - 1)), c, x.owed, x.paid] k) < 0)))))) rfl (og rfl (op_move rfl rfl rfl)) ?_
      rcases fot ((decide ((ix [(IntKind.i64.wrap (c - 1)), c, x.owed, x.paid] k) < 0))) with h6 | h6
      · skip
        have h7 := f_dec h6
        refine rg_put (d := 30) (v := .d (.fl (.int .i64 ((ix [(IntKind.i64.wrap (c - 1)), c, x.owed, x.paid] k))))) rfl (oy rfl rfl rfl h6 (op_move rfl rfl rfl)) ?_
        refine rg_put (d := 31) (v := .d (.fl (.bool ((decide (1125899906842624 < (ix [(IntKind.i64.wrap (c - 1)), c, x.owed, x.paid] k))))))) rfl (oy rfl rfl rfl h6 (op_bin rfl rfl rfl (b_gtr _ _ _ _) rfl)) ?_
        refine rg_put (d := 32) (v := .d (.fl (.bool ((decide (1125899906842624 < (ix [(IntKind.i64.wrap (c - 1)), c, x.owed, x.paid] k))))))) rfl (og rfl (op_pick rfl rfl (by rw [h6]; rfl) rfl)) ?_
        refine rg_done rfl ?_
        refine a_cond rfl (fun h8 => ?_) (fun h8 => ?_)
        · skip
          have h9 := t_dec h8
          refine a_rseq ?_
          refine rg_put (d := 33) (v := .d (.ag (eCs x))) rfl (og rfl (of_eff (s_load_pts rfl Tryd.underlying29 rfl ti29 rfl rfl rfl rfl) rfl)) ?_
          refine rg_sto (nw := [(102, .bx 29 (eCs x))]) rfl (og rfl (of_eff (s_store rfl rfl ti29 rfl rfl rfl rfl rfl rfl) rfl)) ?_
          refine rg_put (d := 5) (v := .d (.fl (.int .i64 0))) rfl (og rfl (op_assign rfl rfl rfl)) ?_
          refine rg_put (d := 6) (v := .d (.fl (.int .i64 13))) rfl (og rfl (op_assign rfl rfl rfl)) ?_
          refine rg_done rfl ?_
          refine a_ret ?_
          show ∃ ds, ResL _ _ _ ds ∧ RV.of ds = _
          refine ⟨[.ag [.fl (.string x.id), .fl (.string x.plate), .fl (.string x.key), .fl (.int .i64 x.begun), .fl (.int .i64 x.since), .fl (.int .i64 x.stage), .fl (.int .i64 x.owed), .fl (.int .i64 x.paid), .fl (.int .i64 x.paused), .fl (.int .i64 x.ap.state), .fl (.int .i64 x.ap.ground), .fl (.int .i64 x.ap.day)], .fl (.int .i64 0), .fl (.int .i64 13)], (.cons (.cellT rfl rfl Tryd.underlying29 rfl ti29 rfl (Cv.ag (xs := [.fl (.string x.id), .fl (.string x.plate), .fl (.string x.key), .fl (.int .i64 x.begun), .fl (.int .i64 x.since), .fl (.int .i64 x.stage), .fl (.int .i64 x.owed), .fl (.int .i64 x.paid), .fl (.int .i64 x.paused), .fl (.int .i64 x.ap.state), .fl (.int .i64 x.ap.ground), .fl (.int .i64 x.ap.day)]) (ys := [.fl (.string x.id), .fl (.string x.plate), .fl (.string x.key), .fl (.int .i64 x.begun), .fl (.int .i64 x.since), .fl (.int .i64 x.stage), .fl (.int .i64 x.owed), .fl (.int .i64 x.paid), .fl (.int .i64 x.paused), .fl (.int .i64 x.ap.state), .fl (.int .i64 x.ap.ground), .fl (.int .i64 x.ap.day)]) ⟨Cv.refl _, Cv.refl _, Cv.refl _, Cv.refl _, Cv.refl _, Cv.refl _, Cv.refl _, Cv.refl _, Cv.refl _, Cv.refl _, Cv.refl _, Cv.refl _, trivial⟩)) (.cons (.tmp rfl (.d _)) (.cons (.tmp rfl (.d _)) .nil))), ?_⟩
          have hpb := pay_bad (x := x) (k := k) hc1 hc2 (by omega) (.inr (of_decide_eq_true h8))
          have hu : pay x c = ((x, 0), 13) := by
            unfold pay; simp only [h1, h3, h4, h6, h8, hpb]; rfl
          rw [hu]; rfl
        · skip
          have h10 := f_dec h8
          refine a_skip ?_
          show A _ _ _ _ _ _ _
          refine a_region ?_
          refine rg_put (d := 34) (v := .d (.fl (.int .i64 (((k : Int) + 1))))) rfl (og rfl (op_bin rfl rfl rfl (fun x y w => b_add64 _ _ _ x y w (by omega)) rfl)) ?_
          refine rg_put (d := 23) (v := .d (.fl (.int .i64 (((k : Int) + 1))))) rfl (og rfl (op_move rfl rfl rfl)) ?_
          refine rg_done rfl ?_
          show ∃ i, _ ∧ _ ∧ Imp _ _ _ _ _
          refine ⟨k + 1, ⟨by omega, fun q h => by
            rcases Nat.lt_succ_iff_lt_or_eq.1 h with h | h
            · exact hq q h
            · subst h; exact ⟨Int.not_lt.1 (of_decide_eq_false h6), Int.not_lt.1 (of_decide_eq_false h8)⟩⟩, by omega, imp_forget rfl ⟨rfl, rfl, rfl, rfl, rfl, rfl, rfl, (by first | rfl | exact ci (by omega) | exact ci (by simp) | exact cd (by simp) | simp), trivial⟩ ⟨rfl, rfl, trivial⟩⟩
      · skip
        have h11 := t_dec h6
        refine rg_put (d := 30) (v := .d (.fl undef)) rfl (on rfl rfl rfl h6) ?_
        refine rg_put (d := 31) (v := .d (.fl undef)) rfl (on rfl rfl rfl h6) ?_
        refine rg_put (d := 32) (v := .d (.fl (.bool true))) rfl (og rfl (op_pick rfl rfl (by rw [h6]; rfl) rfl)) ?_
        refine rg_done rfl ?_
        refine a_condK rfl rfl ?_
        refine a_rseq ?_
        refine rg_put (d := 33) (v := .d (.ag (eCs x))) rfl (og rfl (of_eff (s_load_pts rfl Tryd.underlying29 rfl ti29 rfl rfl rfl rfl) rfl)) ?_
        refine rg_sto (nw := [(102, .bx 29 (eCs x))]) rfl (og rfl (of_eff (s_store rfl rfl ti29 rfl rfl rfl rfl rfl rfl) rfl)) ?_
        refine rg_put (d := 5) (v := .d (.fl (.int .i64 0))) rfl (og rfl (op_assign rfl rfl rfl)) ?_
        refine rg_put (d := 6) (v := .d (.fl (.int .i64 13))) rfl (og rfl (op_assign rfl rfl rfl)) ?_
        refine rg_done rfl ?_
        refine a_ret ?_
        show ∃ ds, ResL _ _ _ ds ∧ RV.of ds = _
        refine ⟨[.ag [.fl (.string x.id), .fl (.string x.plate), .fl (.string x.key), .fl (.int .i64 x.begun), .fl (.int .i64 x.since), .fl (.int .i64 x.stage), .fl (.int .i64 x.owed), .fl (.int .i64 x.paid), .fl (.int .i64 x.paused), .fl (.int .i64 x.ap.state), .fl (.int .i64 x.ap.ground), .fl (.int .i64 x.ap.day)], .fl (.int .i64 0), .fl (.int .i64 13)], (.cons (.cellT rfl rfl Tryd.underlying29 rfl ti29 rfl (Cv.ag (xs := [.fl (.string x.id), .fl (.string x.plate), .fl (.string x.key), .fl (.int .i64 x.begun), .fl (.int .i64 x.since), .fl (.int .i64 x.stage), .fl (.int .i64 x.owed), .fl (.int .i64 x.paid), .fl (.int .i64 x.paused), .fl (.int .i64 x.ap.state), .fl (.int .i64 x.ap.ground), .fl (.int .i64 x.ap.day)]) (ys := [.fl (.string x.id), .fl (.string x.plate), .fl (.string x.key), .fl (.int .i64 x.begun), .fl (.int .i64 x.since), .fl (.int .i64 x.stage), .fl (.int .i64 x.owed), .fl (.int .i64 x.paid), .fl (.int .i64 x.paused), .fl (.int .i64 x.ap.state), .fl (.int .i64 x.ap.ground), .fl (.int .i64 x.ap.day)]) ⟨Cv.refl _, Cv.refl _, Cv.refl _, Cv.refl _, Cv.refl _, Cv.refl _, Cv.refl _, Cv.refl _, Cv.refl _, Cv.refl _, Cv.refl _, Cv.refl _, trivial⟩)) (.cons (.tmp rfl (.d _)) (.cons (.tmp rfl (.d _)) .nil))), ?_⟩
        have hpb := pay_bad (x := x) (k := k) hc1 hc2 (by omega) (.inl (of_decide_eq_true h6))
        have hu : pay x c = ((x, 0), 13) := by
          unfold pay; simp only [h1, h3, h4, h6, hpb]; rfl
        rw [hu]; rfl
    · skip
      have h12 := f_dec h4
      refine a_exit ?_
      show A _ _ _ _ _ _ _
      refine a_rseq ?_
      have hpb := pay_good (x := x) hc1 hc2 (fun q h => hq q (by omega))
      have hpf := payB_f hpb
      refine rg_put (d := 35) (v := .pt 101 6) rfl (og rfl (of_eff (s_field_pt rfl Tryd.underlying29 rfl ti3 rfl rfl rfl) rfl)) ?_
      refine rg_put (d := 36) (v := .d (.fl (.int .i64 x.owed))) rfl (og rfl (op_load_pt rfl Tryd.underlying3 rfl rfl rfl rfl rfl)) ?_
      refine rg_put (d := 37) (v := .pt 101 7) rfl (og rfl (of_eff (s_field_pt rfl Tryd.underlying29 rfl ti3 rfl rfl rfl) rfl)) ?_
      refine rg_put (d := 38) (v := .d (.fl (.int .i64 x.paid))) rfl (og rfl (op_load_pt rfl Tryd.underlying3 rfl rfl rfl rfl rfl)) ?_
      refine rg_put (d := 39) (v := .d (.fl (.int .i64 (x.owed - x.paid)))) rfl (og rfl (op_bin rfl rfl rfl (fun x y w => b_sub64 _ _ _ x y w (by omega)) rfl)) ?_
      refine rg_put (d := 9) (v := .d (.fl (.int .i64 (x.owed - x.paid)))) rfl (og rfl (op_assign rfl rfl rfl)) ?_
      refine rg_done rfl ?_
      refine a_seq ?_
      refine a_rseq ?_
      refine rg_put (d := 40) (v := .d (.fl (.int .i64 c))) rfl (og rfl (op_move rfl rfl rfl)) ?_
      refine rg_put (d := 41) (v := .d (.fl (.int .i64 (x.owed - x.paid)))) rfl (og rfl (op_move rfl rfl rfl)) ?_
      refine rg_put (d := 42) (v := .d (.fl (.bool ((decide (c < (x.owed - x.paid))))))) rfl (og rfl (op_bin rfl rfl rfl (b_lss _ _ _ _) rfl)) ?_
      refine rg_done rfl ?_
      refine a_cond rfl (fun h13 => ?_) (fun h13 => ?_)
      · skip
        have h14 := t_dec h13
        refine a_rseq ?_
        refine rg_put (d := 43) (v := .pt 101 7) rfl (og rfl (of_eff (s_field_pt rfl Tryd.underlying29 rfl ti3 rfl rfl rfl) rfl)) ?_
        refine rg_put (d := 44) (v := .d (.fl (.int .i64 x.paid))) rfl (og rfl (op_load_pt rfl Tryd.underlying3 rfl rfl rfl rfl rfl)) ?_
        refine rg_put (d := 45) (v := .d (.fl (.int .i64 c))) rfl (og rfl (op_move rfl rfl rfl)) ?_
        refine rg_put (d := 46) (v := .d (.fl (.int .i64 (x.paid + c)))) rfl (og rfl (op_bin rfl rfl rfl (fun x y w => b_add64 _ _ _ x y w (by omega)) rfl)) ?_
        refine rg_put (d := 47) (v := .pt 101 7) rfl (og rfl (of_eff (s_field_pt rfl Tryd.underlying29 rfl ti3 rfl rfl rfl) rfl)) ?_
        refine rg_sto (nw := [(101, .bx 29 [.fl (.string x.id), .fl (.string x.plate), .fl (.string x.key), .fl (.int .i64 x.begun), .fl (.int .i64 x.since), .fl (.int .i64 x.stage), .fl (.int .i64 x.owed), .fl (.int .i64 (x.paid + c)), .fl (.int .i64 x.paused), .fl (.int .i64 x.ap.state), .fl (.int .i64 x.ap.ground), .fl (.int .i64 x.ap.day)])]) rfl (og rfl (of_eff (s_store rfl rfl ti3 rfl rfl rfl rfl rfl rfl) rfl)) ?_
        refine rg_done rfl ?_
        refine a_rseq ?_
        refine rg_put (d := 48) (v := .d (.ag (eCs ((Cs.mk x.id x.plate x.key x.begun x.since x.stage x.owed (x.paid + c) x.paused x.ap))))) rfl (og rfl (of_eff (s_load_pts rfl Tryd.underlying29 rfl ti29 rfl rfl rfl rfl) rfl)) ?_
        refine rg_sto (nw := [(102, .bx 29 ((eCs ((Cs.mk x.id x.plate x.key x.begun x.since x.stage x.owed (x.paid + c) x.paused x.ap)))))]) rfl (og rfl (of_eff (s_store rfl rfl ti29 rfl rfl rfl rfl rfl rfl) rfl)) ?_
        refine rg_put (d := 5) (v := .d (.fl (.int .i64 0))) rfl (og rfl (op_assign rfl rfl rfl)) ?_
        refine rg_put (d := 6) (v := .d (.fl (.int .i64 0))) rfl (og rfl (op_assign rfl rfl rfl)) ?_
        refine rg_done rfl ?_
        refine a_ret ?_
        show ∃ ds, ResL _ _ _ ds ∧ RV.of ds = _
        refine ⟨[.ag [.fl (.string (((Cs.mk x.id x.plate x.key x.begun x.since x.stage x.owed (x.paid + c) x.paused x.ap)).id)), .fl (.string (((Cs.mk x.id x.plate x.key x.begun x.since x.stage x.owed (x.paid + c) x.paused x.ap)).plate)), .fl (.string (((Cs.mk x.id x.plate x.key x.begun x.since x.stage x.owed (x.paid + c) x.paused x.ap)).key)), .fl (.int .i64 (((Cs.mk x.id x.plate x.key x.begun x.since x.stage x.owed (x.paid + c) x.paused x.ap)).begun)), .fl (.int .i64 (((Cs.mk x.id x.plate x.key x.begun x.since x.stage x.owed (x.paid + c) x.paused x.ap)).since)), .fl (.int .i64 (((Cs.mk x.id x.plate x.key x.begun x.since x.stage x.owed (x.paid + c) x.paused x.ap)).stage)), .fl (.int .i64 (((Cs.mk x.id x.plate x.key x.begun x.since x.stage x.owed (x.paid + c) x.paused x.ap)).owed)), .fl (.int .i64 (((Cs.mk x.id x.plate x.key x.begun x.since x.stage x.owed (x.paid + c) x.paused x.ap)).paid)), .fl (.int .i64 (((Cs.mk x.id x.plate x.key x.begun x.since x.stage x.owed (x.paid + c) x.paused x.ap)).paused)), .fl (.int .i64 ((((Cs.mk x.id x.plate x.key x.begun x.since x.stage x.owed (x.paid + c) x.paused x.ap)).ap).state)), .fl (.int .i64 ((((Cs.mk x.id x.plate x.key x.begun x.since x.stage x.owed (x.paid + c) x.paused x.ap)).ap).ground)), .fl (.int .i64 ((((Cs.mk x.id x.plate x.key x.begun x.since x.stage x.owed (x.paid + c) x.paused x.ap)).ap).day))], .fl (.int .i64 0), .fl (.int .i64 0)], (.cons (.cellT rfl rfl Tryd.underlying29 rfl ti29 rfl (Cv.ag (xs := [.fl (.string (((Cs.mk x.id x.plate x.key x.begun x.since x.stage x.owed (x.paid + c) x.paused x.ap)).id)), .fl (.string (((Cs.mk x.id x.plate x.key x.begun x.since x.stage x.owed (x.paid + c) x.paused x.ap)).plate)), .fl (.string (((Cs.mk x.id x.plate x.key x.begun x.since x.stage x.owed (x.paid + c) x.paused x.ap)).key)), .fl (.int .i64 (((Cs.mk x.id x.plate x.key x.begun x.since x.stage x.owed (x.paid + c) x.paused x.ap)).begun)), .fl (.int .i64 (((Cs.mk x.id x.plate x.key x.begun x.since x.stage x.owed (x.paid + c) x.paused x.ap)).since)), .fl (.int .i64 (((Cs.mk x.id x.plate x.key x.begun x.since x.stage x.owed (x.paid + c) x.paused x.ap)).stage)), .fl (.int .i64 (((Cs.mk x.id x.plate x.key x.begun x.since x.stage x.owed (x.paid + c) x.paused x.ap)).owed)), .fl (.int .i64 (((Cs.mk x.id x.plate x.key x.begun x.since x.stage x.owed (x.paid + c) x.paused x.ap)).paid)), .fl (.int .i64 (((Cs.mk x.id x.plate x.key x.begun x.since x.stage x.owed (x.paid + c) x.paused x.ap)).paused)), .fl (.int .i64 ((((Cs.mk x.id x.plate x.key x.begun x.since x.stage x.owed (x.paid + c) x.paused x.ap)).ap).state)), .fl (.int .i64 ((((Cs.mk x.id x.plate x.key x.begun x.since x.stage x.owed (x.paid + c) x.paused x.ap)).ap).ground)), .fl (.int .i64 ((((Cs.mk x.id x.plate x.key x.begun x.since x.stage x.owed (x.paid + c) x.paused x.ap)).ap).day))]) (ys := [.fl (.string (((Cs.mk x.id x.plate x.key x.begun x.since x.stage x.owed (x.paid + c) x.paused x.ap)).id)), .fl (.string (((Cs.mk x.id x.plate x.key x.begun x.since x.stage x.owed (x.paid + c) x.paused x.ap)).plate)), .fl (.string (((Cs.mk x.id x.plate x.key x.begun x.since x.stage x.owed (x.paid + c) x.paused x.ap)).key)), .fl (.int .i64 (((Cs.mk x.id x.plate x.key x.begun x.since x.stage x.owed (x.paid + c) x.paused x.ap)).begun)), .fl (.int .i64 (((Cs.mk x.id x.plate x.key x.begun x.since x.stage x.owed (x.paid + c) x.paused x.ap)).since)), .fl (.int .i64 (((Cs.mk x.id x.plate x.key x.begun x.since x.stage x.owed (x.paid + c) x.paused x.ap)).stage)), .fl (.int .i64 (((Cs.mk x.id x.plate x.key x.begun x.since x.stage x.owed (x.paid + c) x.paused x.ap)).owed)), .fl (.int .i64 (((Cs.mk x.id x.plate x.key x.begun x.since x.stage x.owed (x.paid + c) x.paused x.ap)).paid)), .fl (.int .i64 (((Cs.mk x.id x.plate x.key x.begun x.since x.stage x.owed (x.paid + c) x.paused x.ap)).paused)), .fl (.int .i64 ((((Cs.mk x.id x.plate x.key x.begun x.since x.stage x.owed (x.paid + c) x.paused x.ap)).ap).state)), .fl (.int .i64 ((((Cs.mk x.id x.plate x.key x.begun x.since x.stage x.owed (x.paid + c) x.paused x.ap)).ap).ground)), .fl (.int .i64 ((((Cs.mk x.id x.plate x.key x.begun x.since x.stage x.owed (x.paid + c) x.paused x.ap)).ap).day))]) ⟨Cv.refl _, Cv.refl _, Cv.refl _, Cv.refl _, Cv.refl _, Cv.refl _, Cv.refl _, Cv.refl _, Cv.refl _, Cv.refl _, Cv.refl _, Cv.refl _, trivial⟩)) (.cons (.tmp rfl (.d _)) (.cons (.tmp rfl (.d _)) .nil))), ?_⟩
        have hu : pay x c = (({ x with paid := x.paid + c }, 0), 0) := by
          unfold pay; simp only [h1, h3, h4, h13, hpb]; rfl
        rw [hu]; rfl
      · skip
        have h15 := f_dec h13
        refine a_skip ?_
        show A _ _ _ _ _ _ _
        refine a_rseq ?_
        refine rg_put (d := 49) (v := .pt 101 7) rfl (og rfl (of_eff (s_field_pt rfl Tryd.underlying29 rfl ti3 rfl rfl rfl) rfl)) ?_
        refine rg_put (d := 50) (v := .d (.fl (.int .i64 x.paid))) rfl (og rfl (op_load_pt rfl Tryd.underlying3 rfl rfl rfl rfl rfl)) ?_
        refine rg_put (d := 51) (v := .pt 101 6) rfl (og rfl (of_eff (s_field_pt rfl Tryd.underlying29 rfl ti3 rfl rfl rfl) rfl)) ?_
        refine rg_put (d := 52) (v := .d (.fl (.int .i64 x.owed))) rfl (og rfl (op_load_pt rfl Tryd.underlying3 rfl rfl rfl rfl rfl)) ?_
        refine rg_put (d := 53) (v := .d (.fl (.int .i64 (max x.paid x.owed)))) rfl (og rfl (op_max rfl rfl rfl rfl)) ?_
        refine rg_put (d := 54) (v := .pt 101 7) rfl (og rfl (of_eff (s_field_pt rfl Tryd.underlying29 rfl ti3 rfl rfl rfl) rfl)) ?_
        refine rg_sto (nw := [(101, .bx 29 [.fl (.string x.id), .fl (.string x.plate), .fl (.string x.key), .fl (.int .i64 x.begun), .fl (.int .i64 x.since), .fl (.int .i64 x.stage), .fl (.int .i64 x.owed), .fl (.int .i64 (max x.paid x.owed)), .fl (.int .i64 x.paused), .fl (.int .i64 x.ap.state), .fl (.int .i64 x.ap.ground), .fl (.int .i64 x.ap.day)])]) rfl (og rfl (of_eff (s_store rfl rfl ti3 rfl rfl rfl rfl rfl rfl) rfl)) ?_
        refine rg_done rfl ?_
        refine a_rseq ?_
        refine rg_put (d := 55) (v := .pt 101 5) rfl (og rfl (of_eff (s_field_pt rfl Tryd.underlying29 rfl ti3 rfl rfl rfl) rfl)) ?_
        refine rg_sto (nw := [(101, .bx 29 [.fl (.string x.id), .fl (.string x.plate), .fl (.string x.key), .fl (.int .i64 x.begun), .fl (.int .i64 x.since), .fl (.int .i64 6), .fl (.int .i64 x.owed), .fl (.int .i64 (max x.paid x.owed)), .fl (.int .i64 x.paused), .fl (.int .i64 x.ap.state), .fl (.int .i64 x.ap.ground), .fl (.int .i64 x.ap.day)])]) rfl (og rfl (of_eff (s_store rfl rfl ti3 rfl rfl rfl rfl rfl rfl) rfl)) ?_
        refine rg_done rfl ?_
        refine a_rseq ?_
        refine rg_put (d := 56) (v := .d (.ag (eCs ((Cs.mk x.id x.plate x.key x.begun x.since 6 x.owed (max x.paid x.owed) x.paused x.ap))))) rfl (og rfl (of_eff (s_load_pts rfl Tryd.underlying29 rfl ti29 rfl rfl rfl rfl) rfl)) ?_
        refine rg_put (d := 57) (v := .d (.fl (.int .i64 c))) rfl (og rfl (op_move rfl rfl rfl)) ?_
        refine rg_put (d := 58) (v := .d (.fl (.int .i64 (x.owed - x.paid)))) rfl (og rfl (op_move rfl rfl rfl)) ?_
        refine rg_put (d := 59) (v := .d (.fl (.int .i64 ((max (x.owed - x.paid) 0))))) rfl (og rfl (op_max rfl rfl rfl rfl)) ?_
        refine rg_put (d := 60) (v := .d (.fl (.int .i64 ((c - (max (x.owed - x.paid) 0)))))) rfl (og rfl (op_bin rfl rfl rfl (fun x y w => b_sub64 _ _ _ x y w (by omega)) rfl)) ?_
        refine rg_sto (nw := [(102, .bx 29 ((eCs ((Cs.mk x.id x.plate x.key x.begun x.since 6 x.owed (max x.paid x.owed) x.paused x.ap)))))]) rfl (og rfl (of_eff (s_store rfl rfl ti29 rfl rfl rfl rfl rfl rfl) rfl)) ?_
        refine rg_put (d := 5) (v := .d (.fl (.int .i64 ((c - (max (x.owed - x.paid) 0)))))) rfl (og rfl (op_assign rfl rfl rfl)) ?_
        refine rg_put (d := 6) (v := .d (.fl (.int .i64 0))) rfl (og rfl (op_assign rfl rfl rfl)) ?_
        refine rg_done rfl ?_
        refine a_ret ?_
        show ∃ ds, ResL _ _ _ ds ∧ RV.of ds = _
        refine ⟨[.ag [.fl (.string (((Cs.mk x.id x.plate x.key x.begun x.since 6 x.owed (max x.paid x.owed) x.paused x.ap)).id)), .fl (.string (((Cs.mk x.id x.plate x.key x.begun x.since 6 x.owed (max x.paid x.owed) x.paused x.ap)).plate)), .fl (.string (((Cs.mk x.id x.plate x.key x.begun x.since 6 x.owed (max x.paid x.owed) x.paused x.ap)).key)), .fl (.int .i64 (((Cs.mk x.id x.plate x.key x.begun x.since 6 x.owed (max x.paid x.owed) x.paused x.ap)).begun)), .fl (.int .i64 (((Cs.mk x.id x.plate x.key x.begun x.since 6 x.owed (max x.paid x.owed) x.paused x.ap)).since)), .fl (.int .i64 (((Cs.mk x.id x.plate x.key x.begun x.since 6 x.owed (max x.paid x.owed) x.paused x.ap)).stage)), .fl (.int .i64 (((Cs.mk x.id x.plate x.key x.begun x.since 6 x.owed (max x.paid x.owed) x.paused x.ap)).owed)), .fl (.int .i64 (((Cs.mk x.id x.plate x.key x.begun x.since 6 x.owed (max x.paid x.owed) x.paused x.ap)).paid)), .fl (.int .i64 (((Cs.mk x.id x.plate x.key x.begun x.since 6 x.owed (max x.paid x.owed) x.paused x.ap)).paused)), .fl (.int .i64 ((((Cs.mk x.id x.plate x.key x.begun x.since 6 x.owed (max x.paid x.owed) x.paused x.ap)).ap).state)), .fl (.int .i64 ((((Cs.mk x.id x.plate x.key x.begun x.since 6 x.owed (max x.paid x.owed) x.paused x.ap)).ap).ground)), .fl (.int .i64 ((((Cs.mk x.id x.plate x.key x.begun x.since 6 x.owed (max x.paid x.owed) x.paused x.ap)).ap).day))], .fl (.int .i64 ((c - (max (x.owed - x.paid) 0)))), .fl (.int .i64 0)], (.cons (.cellT rfl rfl Tryd.underlying29 rfl ti29 rfl (Cv.ag (xs := [.fl (.string (((Cs.mk x.id x.plate x.key x.begun x.since 6 x.owed (max x.paid x.owed) x.paused x.ap)).id)), .fl (.string (((Cs.mk x.id x.plate x.key x.begun x.since 6 x.owed (max x.paid x.owed) x.paused x.ap)).plate)), .fl (.string (((Cs.mk x.id x.plate x.key x.begun x.since 6 x.owed (max x.paid x.owed) x.paused x.ap)).key)), .fl (.int .i64 (((Cs.mk x.id x.plate x.key x.begun x.since 6 x.owed (max x.paid x.owed) x.paused x.ap)).begun)), .fl (.int .i64 (((Cs.mk x.id x.plate x.key x.begun x.since 6 x.owed (max x.paid x.owed) x.paused x.ap)).since)), .fl (.int .i64 (((Cs.mk x.id x.plate x.key x.begun x.since 6 x.owed (max x.paid x.owed) x.paused x.ap)).stage)), .fl (.int .i64 (((Cs.mk x.id x.plate x.key x.begun x.since 6 x.owed (max x.paid x.owed) x.paused x.ap)).owed)), .fl (.int .i64 (((Cs.mk x.id x.plate x.key x.begun x.since 6 x.owed (max x.paid x.owed) x.paused x.ap)).paid)), .fl (.int .i64 (((Cs.mk x.id x.plate x.key x.begun x.since 6 x.owed (max x.paid x.owed) x.paused x.ap)).paused)), .fl (.int .i64 ((((Cs.mk x.id x.plate x.key x.begun x.since 6 x.owed (max x.paid x.owed) x.paused x.ap)).ap).state)), .fl (.int .i64 ((((Cs.mk x.id x.plate x.key x.begun x.since 6 x.owed (max x.paid x.owed) x.paused x.ap)).ap).ground)), .fl (.int .i64 ((((Cs.mk x.id x.plate x.key x.begun x.since 6 x.owed (max x.paid x.owed) x.paused x.ap)).ap).day))]) (ys := [.fl (.string (((Cs.mk x.id x.plate x.key x.begun x.since 6 x.owed (max x.paid x.owed) x.paused x.ap)).id)), .fl (.string (((Cs.mk x.id x.plate x.key x.begun x.since 6 x.owed (max x.paid x.owed) x.paused x.ap)).plate)), .fl (.string (((Cs.mk x.id x.plate x.key x.begun x.since 6 x.owed (max x.paid x.owed) x.paused x.ap)).key)), .fl (.int .i64 (((Cs.mk x.id x.plate x.key x.begun x.since 6 x.owed (max x.paid x.owed) x.paused x.ap)).begun)), .fl (.int .i64 (((Cs.mk x.id x.plate x.key x.begun x.since 6 x.owed (max x.paid x.owed) x.paused x.ap)).since)), .fl (.int .i64 (((Cs.mk x.id x.plate x.key x.begun x.since 6 x.owed (max x.paid x.owed) x.paused x.ap)).stage)), .fl (.int .i64 (((Cs.mk x.id x.plate x.key x.begun x.since 6 x.owed (max x.paid x.owed) x.paused x.ap)).owed)), .fl (.int .i64 (((Cs.mk x.id x.plate x.key x.begun x.since 6 x.owed (max x.paid x.owed) x.paused x.ap)).paid)), .fl (.int .i64 (((Cs.mk x.id x.plate x.key x.begun x.since 6 x.owed (max x.paid x.owed) x.paused x.ap)).paused)), .fl (.int .i64 ((((Cs.mk x.id x.plate x.key x.begun x.since 6 x.owed (max x.paid x.owed) x.paused x.ap)).ap).state)), .fl (.int .i64 ((((Cs.mk x.id x.plate x.key x.begun x.since 6 x.owed (max x.paid x.owed) x.paused x.ap)).ap).ground)), .fl (.int .i64 ((((Cs.mk x.id x.plate x.key x.begun x.since 6 x.owed (max x.paid x.owed) x.paused x.ap)).ap).day))]) ⟨Cv.refl _, Cv.refl _, Cv.refl _, Cv.refl _, Cv.refl _, Cv.refl _, Cv.refl _, Cv.refl _, Cv.refl _, Cv.refl _, Cv.refl _, Cv.refl _, trivial⟩)) (.cons (.tmp rfl (.d _)) (.cons (.tmp rfl (.d _)) .nil))), ?_⟩
        have hu : pay x c = (({ x with paid := max x.paid x.owed, stage := 6 }, (c - (max (x.owed - x.paid) 0))), 0) := by
          unfold pay; simp only [h1, h3, h4, h13, hpb]; rfl
        rw [hu]; rfl
set_option maxHeartbeats 4000000 in
set_option maxRecDepth 100000 in
theorem pay24 (x : Cs) (c : Int) : Ctr Tryd.prog 24 [.ag (eCs x), .fl (.int .i64 c)] (.tu [.ag (eCs (pay x c).1.1), .fl (.int .i64 (pay x c).1.2), .fl (.int .i64 (pay x c).2)]) := by
  refine ctr (n := 65) (rs := #[.cell 4 29, .tmp 5, .tmp 6]) (L := [(0, .d (.ag (eCs x))), (1, .d (.fl (.int .i64 c)))]) Tryd.func24 rfl rfl rfl rfl rfl (fun w0 U0 => ?_)
  refine a_rseq ?_
  refine rg_nam (d := 2) (v := .pt 101 0) (m := 101) (nw := [(101, .bx 29 (eCs x))]) rfl (og rfl (of_eff (op_box 101 rfl rfl rfl rfl) rfl)) rfl ?_
  refine rg_nam (d := 4) (v := .pt 102 0) (m := 102) (nw := [(102, .bx 29 ([.fl (.string (⟨#[]⟩)), .fl (.string (⟨#[]⟩)), .fl (.string (⟨#[]⟩)), .fl (.int .i64 0), .fl (.int .i64 0), .fl (.int .i64 0), .fl (.int .i64 0), .fl (.int .i64 0), .fl (.int .i64 0), .fl (.int .i64 0), .fl (.int .i64 0), .fl (.int .i64 0)]))]) rfl (og rfl (of_eff (s_alloc 102 rfl ti29 (by kernel_rfl) rfl) rfl)) rfl ?_
  refine rg_put (d := 5) (v := .d (.fl (.int .i64 0))) rfl (og rfl (op_assign rfl rfl rfl)) ?_
  refine rg_put (d := 6) (v := .d (.fl (.int .i64 0))) rfl (og rfl (op_assign rfl rfl rfl)) ?_
  refine rg_done rfl ?_
  refine a_seq ?_
  refine a_rseq ?_
  refine rg_put (d := 8) (v := .d (.ag (eCs x))) rfl (og rfl (of_eff (s_load_pts rfl Tryd.underlying29 rfl ti29 rfl rfl rfl rfl) rfl)) ?_
  refine rg_put (d := 9) (v := .d (.fl (.bool (opn x)))) rfl (og rfl (op_call rfl Tryd.func22 nm22 rfl (.cons rfl (.d _) .nil) (opn22 x) rfl)) ?_
  refine rg_put (d := 10) (v := .d (.fl (.bool ((!(opn x)))))) rfl (og rfl (op_un rfl rfl (u_not _) rfl)) ?_
  refine rg_done rfl ?_
  refine a_cond rfl (fun h1 => ?_) (fun h1 => ?_)
  · skip
    have h2 := t_not h1
    refine a_rseq ?_
    refine rg_put (d := 11) (v := .d (.ag (eCs x))) rfl (og rfl (of_eff (s_load_pts rfl Tryd.underlying29 rfl ti29 rfl rfl rfl rfl) rfl)) ?_
    refine rg_sto (nw := [(102, .bx 29 (eCs x))]) rfl (og rfl (of_eff (s_store rfl rfl ti29 rfl rfl rfl rfl rfl rfl) rfl)) ?_
    refine rg_put (d := 5) (v := .d (.fl (.int .i64 0))) rfl (og rfl (op_assign rfl rfl rfl)) ?_
    refine rg_put (d := 6) (v := .d (.fl (.int .i64 28))) rfl (og rfl (op_assign rfl rfl rfl)) ?_
    refine rg_done rfl ?_
    refine a_ret ?_
    show ∃ ds, ResL _ _ _ ds ∧ RV.of ds = _
    refine ⟨[.ag [.fl (.string x.id), .fl (.string x.plate), .fl (.string x.key), .fl (.int .i64 x.begun), .fl (.int .i64 x.since), .fl (.int .i64 x.stage), .fl (.int .i64 x.owed), .fl (.int .i64 x.paid), .fl (.int .i64 x.paused), .fl (.int .i64 x.ap.state), .fl (.int .i64 x.ap.ground), .fl (.int .i64 x.ap.day)], .fl (.int .i64 0), .fl (.int .i64 28)], (.cons (.cellT rfl rfl Tryd.underlying29 rfl ti29 rfl (Cv.ag (xs := [.fl (.string x.id), .fl (.string x.plate), .fl (.string x.key), .fl (.int .i64 x.begun), .fl (.int .i64 x.since), .fl (.int .i64 x.stage), .fl (.int .i64 x.owed), .fl (.int .i64 x.paid), .fl (.int .i64 x.paused), .fl (.int .i64 x.ap.state), .fl (.int .i64 x.ap.ground), .fl (.int .i64 x.ap.day)]) (ys := [.fl (.string x.id), .fl (.string x.plate), .fl (.string x.key), .fl (.int .i64 x.begun), .fl (.int .i64 x.since), .fl (.int .i64 x.stage), .fl (.int .i64 x.owed), .fl (.int .i64 x.paid), .fl (.int .i64 x.paused), .fl (.int .i64 x.ap.state), .fl (.int .i64 x.ap.ground), .fl (.int .i64 x.ap.day)]) ⟨Cv.refl _, Cv.refl _, Cv.refl _, Cv.refl _, Cv.refl _, Cv.refl _, Cv.refl _, Cv.refl _, Cv.refl _, Cv.refl _, Cv.refl _, Cv.refl _, trivial⟩)) (.cons (.tmp rfl (.d _)) (.cons (.tmp rfl (.d _)) .nil))), ?_⟩
    have hu : pay x c = ((x, 0), 28) := by
      unfold pay; simp only [h1, h2]; rfl
    rw [hu]; rfl
  · skip
    have h3 := f_not h1
    refine a_skip ?_
    show A _ _ _ _ _ _ _
    refine a_seq ?_
    refine a_rseq ?_
    refine rg_put (d := 12) (v := .d (.fl (.int .i64 c))) rfl (og rfl (op_move rfl rfl rfl)) ?_
    refine rg_put (d := 13) (v := .d (.fl (.bool ((decide (c < 1)))))) rfl (og rfl (op_bin rfl rfl rfl (b_lss _ _ _ _) rfl)) ?_
    refine rg_put (d := 14) (v := .d (.fl (.bool ((decide (c < 1)))))) rfl (og rfl (op_move rfl rfl rfl)) ?_
    rcases fot ((decide (c < 1))) with h4 | h4
    · skip
      have h5 := f_dec h4
      refine rg_put (d := 15) (v := .d (.fl (.int .i64 c))) rfl (oy rfl rfl rfl h4 (op_move rfl rfl rfl)) ?_
      refine rg_put (d := 16) (v := .d (.fl (.bool ((decide (1125899906842624 < c)))))) rfl (oy rfl rfl rfl h4 (op_bin rfl rfl rfl (b_gtr _ _ _ _) rfl)) ?_
      refine rg_put (d := 17) (v := .d (.fl (.bool ((decide (1125899906842624 < c)))))) rfl (og rfl (op_pick rfl rfl (by rw [h4]; rfl) rfl)) ?_
      refine rg_put (d := 18) (v := .d (.fl (.bool ((decide (1125899906842624 < c)))))) rfl (og rfl (op_move rfl rfl rfl)) ?_
      rcases fot ((decide (1125899906842624 < c))) with h6 | h6
      · skip
        have h7 := f_dec h6
        refine rg_put (d := 19) (v := .pt 101 6) rfl (oy rfl rfl rfl h6 (of_eff (s_field_pt rfl Tryd.underlying29 rfl ti3 rfl rfl rfl) rfl)) ?_
        refine rg_put (d := 20) (v := .d (.fl (.int .i64 x.owed))) rfl (oy rfl rfl rfl h6 (op_load_pt rfl Tryd.underlying3 rfl rfl rfl rfl rfl)) ?_
        refine rg_put (d := 21) (v := .d (.fl (.bool ((decide (x.owed < 0)))))) rfl (oy rfl rfl rfl h6 (op_bin rfl rfl rfl (b_lss _ _ _ _) rfl)) ?_
        refine rg_put (d := 22) (v := .d (.fl (.bool ((decide (x.owed < 0)))))) rfl (og rfl (op_pick rfl rfl (by rw [h6]; rfl) rfl)) ?_
        refine rg_put (d := 23) (v := .d (.fl (.bool ((decide (x.owed < 0)))))) rfl (og rfl (op_move rfl rfl rfl)) ?_
        rcases fot ((decide (x.owed < 0))) with h8 | h8
        · skip
          have h9 := f_dec h8
          refine rg_put (d := 24) (v := .pt 101 6) rfl (oy rfl rfl rfl h8 (of_eff (s_field_pt rfl Tryd.underlying29 rfl ti3 rfl rfl rfl) rfl)) ?_
          refine rg_put (d := 25) (v := .d (.fl (.int .i64 x.owed))) rfl (oy rfl rfl rfl h8 (op_load_pt rfl Tryd.underlying3 rfl rfl rfl rfl rfl)) ?_
          refine rg_put (d := 26) (v := .d (.fl (.bool ((decide (1125899906842624 < x.owed)))))) rfl (oy rfl rfl rfl h8 (op_bin rfl rfl rfl (b_gtr _ _ _ _) rfl)) ?_
          refine rg_put (d := 27) (v := .d (.fl (.bool ((decide (1125899906842624 < x.owed)))))) rfl (og rfl (op_pick rfl rfl (by rw [h8]; rfl) rfl)) ?_
          refine rg_put (d := 28) (v := .d (.fl (.bool ((decide (1125899906842624 < x.owed)))))) rfl (og rfl (op_move rfl rfl rfl)) ?_
          rcases fot ((decide (1125899906842624 < x.owed))) with h10 | h10
          · skip
            have h11 := f_dec h10
            refine rg_put (d := 29) (v := .pt 101 7) rfl (oy rfl rfl rfl h10 (of_eff (s_field_pt rfl Tryd.underlying29 rfl ti3 rfl rfl rfl) rfl)) ?_
            refine rg_put (d := 30) (v := .d (.fl (.int .i64 x.paid))) rfl (oy rfl rfl rfl h10 (op_load_pt rfl Tryd.underlying3 rfl rfl rfl rfl rfl)) ?_
            refine rg_put (d := 31) (v := .d (.fl (.bool ((decide (x.paid < 0)))))) rfl (oy rfl rfl rfl h10 (op_bin rfl rfl rfl (b_lss _ _ _ _) rfl)) ?_
            refine rg_put (d := 32) (v := .d (.fl (.bool ((decide (x.paid < 0)))))) rfl (og rfl (op_pick rfl rfl (by rw [h10]; rfl) rfl)) ?_
            refine rg_put (d := 33) (v := .d (.fl (.bool ((decide (x.paid < 0)))))) rfl (og rfl (op_move rfl rfl rfl)) ?_
            rcases fot ((decide (x.paid < 0))) with h12 | h12
            · skip
              have h13 := f_dec h12
              refine rg_put (d := 34) (v := .pt 101 7) rfl (oy rfl rfl rfl h12 (of_eff (s_field_pt rfl Tryd.underlying29 rfl ti3 rfl rfl rfl) rfl)) ?_
              refine rg_put (d := 35) (v := .d (.fl (.int .i64 x.paid))) rfl (oy rfl rfl rfl h12 (op_load_pt rfl Tryd.underlying3 rfl rfl rfl rfl rfl)) ?_
              refine rg_put (d := 36) (v := .d (.fl (.bool ((decide (1125899906842624 < x.paid)))))) rfl (oy rfl rfl rfl h12 (op_bin rfl rfl rfl (b_gtr _ _ _ _) rfl)) ?_
              refine rg_put (d := 37) (v := .d (.fl (.bool ((decide (1125899906842624 < x.paid)))))) rfl (og rfl (op_pick rfl rfl (by rw [h12]; rfl) rfl)) ?_
              refine rg_done rfl ?_
              refine a_cond rfl (fun h14 => ?_) (fun h14 => ?_)
              · skip
                have h15 := t_dec h14
                refine a_rseq ?_
                refine rg_put (d := 38) (v := .d (.ag (eCs x))) rfl (og rfl (of_eff (s_load_pts rfl Tryd.underlying29 rfl ti29 rfl rfl rfl rfl) rfl)) ?_
                refine rg_sto (nw := [(102, .bx 29 (eCs x))]) rfl (og rfl (of_eff (s_store rfl rfl ti29 rfl rfl rfl rfl rfl rfl) rfl)) ?_
                refine rg_put (d := 5) (v := .d (.fl (.int .i64 0))) rfl (og rfl (op_assign rfl rfl rfl)) ?_
                refine rg_put (d := 6) (v := .d (.fl (.int .i64 13))) rfl (og rfl (op_assign rfl rfl rfl)) ?_
                refine rg_done rfl ?_
                refine a_ret ?_
                show ∃ ds, ResL _ _ _ ds ∧ RV.of ds = _
                refine ⟨[.ag [.fl (.string x.id), .fl (.string x.plate), .fl (.string x.key), .fl (.int .i64 x.begun), .fl (.int .i64 x.since), .fl (.int .i64 x.stage), .fl (.int .i64 x.owed), .fl (.int .i64 x.paid), .fl (.int .i64 x.paused), .fl (.int .i64 x.ap.state), .fl (.int .i64 x.ap.ground), .fl (.int .i64 x.ap.day)], .fl (.int .i64 0), .fl (.int .i64 13)], (.cons (.cellT rfl rfl Tryd.underlying29 rfl ti29 rfl (Cv.ag (xs := [.fl (.string x.id), .fl (.string x.plate), .fl (.string x.key), .fl (.int .i64 x.begun), .fl (.int .i64 x.since), .fl (.int .i64 x.stage), .fl (.int .i64 x.owed), .fl (.int .i64 x.paid), .fl (.int .i64 x.paused), .fl (.int .i64 x.ap.state), .fl (.int .i64 x.ap.ground), .fl (.int .i64 x.ap.day)]) (ys := [.fl (.string x.id), .fl (.string x.plate), .fl (.string x.key), .fl (.int .i64 x.begun), .fl (.int .i64 x.since), .fl (.int .i64 x.stage), .fl (.int .i64 x.owed), .fl (.int .i64 x.paid), .fl (.int .i64 x.paused), .fl (.int .i64 x.ap.state), .fl (.int .i64 x.ap.ground), .fl (.int .i64 x.ap.day)]) ⟨Cv.refl _, Cv.refl _, Cv.refl _, Cv.refl _, Cv.refl _, Cv.refl _, Cv.refl _, Cv.refl _, Cv.refl _, Cv.refl _, Cv.refl _, Cv.refl _, trivial⟩)) (.cons (.tmp rfl (.d _)) (.cons (.tmp rfl (.d _)) .nil))), ?_⟩
                have hpb : payB x c = true := by unfold payB; simp only [h1, h3, h4, h6, h8, h10, h12, h14]; rfl
                have hu : pay x c = ((x, 0), 13) := by
                  unfold pay; simp only [h1, h3, h4, h6, h8, h10, h12, h14, hpb]; rfl
                rw [hu]; rfl
              · skip
                have h16 := f_dec h14
                refine a_skip ?_
                show A _ _ _ _ _ _ _
                refine a_rseq ?_
                refine rg_put (d := 39) (v := .pt 101 6) rfl (og rfl (of_eff (s_field_pt rfl Tryd.underlying29 rfl ti3 rfl rfl rfl) rfl)) ?_
                refine rg_put (d := 40) (v := .d (.fl (.int .i64 x.owed))) rfl (og rfl (op_load_pt rfl Tryd.underlying3 rfl rfl rfl rfl rfl)) ?_
                refine rg_put (d := 41) (v := .pt 101 7) rfl (og rfl (of_eff (s_field_pt rfl Tryd.underlying29 rfl ti3 rfl rfl rfl) rfl)) ?_
                refine rg_put (d := 42) (v := .d (.fl (.int .i64 x.paid))) rfl (og rfl (op_load_pt rfl Tryd.underlying3 rfl rfl rfl rfl rfl)) ?_
                refine rg_put (d := 43) (v := .d (.fl (.int .i64 (x.owed - x.paid)))) rfl (og rfl (op_bin rfl rfl rfl (fun x y w => b_sub64 _ _ _ x y w (by omega)) rfl)) ?_
                refine rg_put (d := 7) (v := .d (.fl (.int .i64 (x.owed - x.paid)))) rfl (og rfl (op_assign rfl rfl rfl)) ?_
                refine rg_done rfl ?_
                refine a_seq ?_
                refine a_rseq ?_
                refine rg_put (d := 44) (v := .d (.fl (.int .i64 c))) rfl (og rfl (op_move rfl rfl rfl)) ?_
                refine rg_put (d := 45) (v := .d (.fl (.int .i64 (x.owed - x.paid)))) rfl (og rfl (op_move rfl rfl rfl)) ?_
                refine rg_put (d := 46) (v := .d (.fl (.bool ((decide (c < (x.owed - x.paid))))))) rfl (og rfl (op_bin rfl rfl rfl (b_lss _ _ _ _) rfl)) ?_
                refine rg_done rfl ?_
                refine a_cond rfl (fun h17 => ?_) (fun h17 => ?_)
                · skip
                  have h18 := t_dec h17
                  refine a_rseq ?_
                  refine rg_put (d := 47) (v := .pt 101 7) rfl (og rfl (of_eff (s_field_pt rfl Tryd.underlying29 rfl ti3 rfl rfl rfl) rfl)) ?_
                  refine rg_put (d := 48) (v := .d (.fl (.int .i64 x.paid))) rfl (og rfl (op_load_pt rfl Tryd.underlying3 rfl rfl rfl rfl rfl)) ?_
                  refine rg_put (d := 49) (v := .d (.fl (.int .i64 c))) rfl (og rfl (op_move rfl rfl rfl)) ?_
                  refine rg_put (d := 50) (v := .d (.fl (.int .i64 (x.paid + c)))) rfl (og rfl (op_bin rfl rfl rfl (fun x y w => b_add64 _ _ _ x y w (by omega)) rfl)) ?_
                  refine rg_put (d := 51) (v := .pt 101 7) rfl (og rfl (of_eff (s_field_pt rfl Tryd.underlying29 rfl ti3 rfl rfl rfl) rfl)) ?_
                  refine rg_sto (nw := [(101, .bx 29 [.fl (.string x.id), .fl (.string x.plate), .fl (.string x.key), .fl (.int .i64 x.begun), .fl (.int .i64 x.since), .fl (.int .i64 x.stage), .fl (.int .i64 x.owed), .fl (.int .i64 (x.paid + c)), .fl (.int .i64 x.paused), .fl (.int .i64 x.ap.state), .fl (.int .i64 x.ap.ground), .fl (.int .i64 x.ap.day)])]) rfl (og rfl (of_eff (s_store rfl rfl ti3 rfl rfl rfl rfl rfl rfl) rfl)) ?_
                  refine rg_done rfl ?_
                  refine a_rseq ?_
                  refine rg_put (d := 52) (v := .d (.ag (eCs ((Cs.mk x.id x.plate x.key x.begun x.since x.stage x.owed (x.paid + c) x.paused x.ap))))) rfl (og rfl (of_eff (s_load_pts rfl Tryd.underlying29 rfl ti29 rfl rfl rfl rfl) rfl)) ?_
                  refine rg_sto (nw := [(102, .bx 29 ((eCs ((Cs.mk x.id x.plate x.key x.begun x.since x.stage x.owed (x.paid + c) x.paused x.ap)))))]) rfl (og rfl (of_eff (s_store rfl rfl ti29 rfl rfl rfl rfl rfl rfl) rfl)) ?_
                  refine rg_put (d := 5) (v := .d (.fl (.int .i64 0))) rfl (og rfl (op_assign rfl rfl rfl)) ?_
                  refine rg_put (d := 6) (v := .d (.fl (.int .i64 0))) rfl (og rfl (op_assign rfl rfl rfl)) ?_
                  refine rg_done rfl ?_
                  refine a_ret ?_
                  show ∃ ds, ResL _ _ _ ds ∧ RV.of ds = _
                  refine ⟨[.ag [.fl (.string (((Cs.mk x.id x.plate x.key x.begun x.since x.stage x.owed (x.paid + c) x.paused x.ap)).id)), .fl (.string (((Cs.mk x.id x.plate x.key x.begun x.since x.stage x.owed (x.paid + c) x.paused x.ap)).plate)), .fl (.string (((Cs.mk x.id x.plate x.key x.begun x.since x.stage x.owed (x.paid + c) x.paused x.ap)).key)), .fl (.int .i64 (((Cs.mk x.id x.plate x.key x.begun x.since x.stage x.owed (x.paid + c) x.paused x.ap)).begun)), .fl (.int .i64 (((Cs.mk x.id x.plate x.key x.begun x.since x.stage x.owed (x.paid + c) x.paused x.ap)).since)), .fl (.int .i64 (((Cs.mk x.id x.plate x.key x.begun x.since x.stage x.owed (x.paid + c) x.paused x.ap)).stage)), .fl (.int .i64 (((Cs.mk x.id x.plate x.key x.begun x.since x.stage x.owed (x.paid + c) x.paused x.ap)).owed)), .fl (.int .i64 (((Cs.mk x.id x.plate x.key x.begun x.since x.stage x.owed (x.paid + c) x.paused x.ap)).paid)), .fl (.int .i64 (((Cs.mk x.id x.plate x.key x.begun x.since x.stage x.owed (x.paid + c) x.paused x.ap)).paused)), .fl (.int .i64 ((((Cs.mk x.id x.plate x.key x.begun x.since x.stage x.owed (x.paid + c) x.paused x.ap)).ap).state)), .fl (.int .i64 ((((Cs.mk x.id x.plate x.key x.begun x.since x.stage x.owed (x.paid + c) x.paused x.ap)).ap).ground)), .fl (.int .i64 ((((Cs.mk x.id x.plate x.key x.begun x.since x.stage x.owed (x.paid + c) x.paused x.ap)).ap).day))], .fl (.int .i64 0), .fl (.int .i64 0)], (.cons (.cellT rfl rfl Tryd.underlying29 rfl ti29 rfl (Cv.ag (xs := [.fl (.string (((Cs.mk x.id x.plate x.key x.begun x.since x.stage x.owed (x.paid + c) x.paused x.ap)).id)), .fl (.string (((Cs.mk x.id x.plate x.key x.begun x.since x.stage x.owed (x.paid + c) x.paused x.ap)).plate)), .fl (.string (((Cs.mk x.id x.plate x.key x.begun x.since x.stage x.owed (x.paid + c) x.paused x.ap)).key)), .fl (.int .i64 (((Cs.mk x.id x.plate x.key x.begun x.since x.stage x.owed (x.paid + c) x.paused x.ap)).begun)), .fl (.int .i64 (((Cs.mk x.id x.plate x.key x.begun x.since x.stage x.owed (x.paid + c) x.paused x.ap)).since)), .fl (.int .i64 (((Cs.mk x.id x.plate x.key x.begun x.since x.stage x.owed (x.paid + c) x.paused x.ap)).stage)), .fl (.int .i64 (((Cs.mk x.id x.plate x.key x.begun x.since x.stage x.owed (x.paid + c) x.paused x.ap)).owed)), .fl (.int .i64 (((Cs.mk x.id x.plate x.key x.begun x.since x.stage x.owed (x.paid + c) x.paused x.ap)).paid)), .fl (.int .i64 (((Cs.mk x.id x.plate x.key x.begun x.since x.stage x.owed (x.paid + c) x.paused x.ap)).paused)), .fl (.int .i64 ((((Cs.mk x.id x.plate x.key x.begun x.since x.stage x.owed (x.paid + c) x.paused x.ap)).ap).state)), .fl (.int .i64 ((((Cs.mk x.id x.plate x.key x.begun x.since x.stage x.owed (x.paid + c) x.paused x.ap)).ap).ground)), .fl (.int .i64 ((((Cs.mk x.id x.plate x.key x.begun x.since x.stage x.owed (x.paid + c) x.paused x.ap)).ap).day))]) (ys := [.fl (.string (((Cs.mk x.id x.plate x.key x.begun x.since x.stage x.owed (x.paid + c) x.paused x.ap)).id)), .fl (.string (((Cs.mk x.id x.plate x.key x.begun x.since x.stage x.owed (x.paid + c) x.paused x.ap)).plate)), .fl (.string (((Cs.mk x.id x.plate x.key x.begun x.since x.stage x.owed (x.paid + c) x.paused x.ap)).key)), .fl (.int .i64 (((Cs.mk x.id x.plate x.key x.begun x.since x.stage x.owed (x.paid + c) x.paused x.ap)).begun)), .fl (.int .i64 (((Cs.mk x.id x.plate x.key x.begun x.since x.stage x.owed (x.paid + c) x.paused x.ap)).since)), .fl (.int .i64 (((Cs.mk x.id x.plate x.key x.begun x.since x.stage x.owed (x.paid + c) x.paused x.ap)).stage)), .fl (.int .i64 (((Cs.mk x.id x.plate x.key x.begun x.since x.stage x.owed (x.paid + c) x.paused x.ap)).owed)), .fl (.int .i64 (((Cs.mk x.id x.plate x.key x.begun x.since x.stage x.owed (x.paid + c) x.paused x.ap)).paid)), .fl (.int .i64 (((Cs.mk x.id x.plate x.key x.begun x.since x.stage x.owed (x.paid + c) x.paused x.ap)).paused)), .fl (.int .i64 ((((Cs.mk x.id x.plate x.key x.begun x.since x.stage x.owed (x.paid + c) x.paused x.ap)).ap).state)), .fl (.int .i64 ((((Cs.mk x.id x.plate x.key x.begun x.since x.stage x.owed (x.paid + c) x.paused x.ap)).ap).ground)), .fl (.int .i64 ((((Cs.mk x.id x.plate x.key x.begun x.since x.stage x.owed (x.paid + c) x.paused x.ap)).ap).day))]) ⟨Cv.refl _, Cv.refl _, Cv.refl _, Cv.refl _, Cv.refl _, Cv.refl _, Cv.refl _, Cv.refl _, Cv.refl _, Cv.refl _, Cv.refl _, Cv.refl _, trivial⟩)) (.cons (.tmp rfl (.d _)) (.cons (.tmp rfl (.d _)) .nil))), ?_⟩
                  have hpb : payB x c = false := by unfold payB; simp only [h1, h3, h4, h6, h8, h10, h12, h14, h17]; rfl
                  have hu : pay x c = (({ x with paid := x.paid + c }, 0), 0) := by
                    unfold pay; simp only [h1, h3, h4, h6, h8, h10, h12, h14, h17, hpb]; rfl
                  rw [hu]; rfl
                · skip
                  have h19 := f_dec h17
                  refine a_skip ?_
                  show A _ _ _ _ _ _ _
                  refine a_rseq ?_
                  refine rg_put (d := 53) (v := .pt 101 5) rfl (og rfl (of_eff (s_field_pt rfl Tryd.underlying29 rfl ti3 rfl rfl rfl) rfl)) ?_
                  refine rg_sto (nw := [(101, .bx 29 [.fl (.string x.id), .fl (.string x.plate), .fl (.string x.key), .fl (.int .i64 x.begun), .fl (.int .i64 x.since), .fl (.int .i64 6), .fl (.int .i64 x.owed), .fl (.int .i64 x.paid), .fl (.int .i64 x.paused), .fl (.int .i64 x.ap.state), .fl (.int .i64 x.ap.ground), .fl (.int .i64 x.ap.day)])]) rfl (og rfl (of_eff (s_store rfl rfl ti3 rfl rfl rfl rfl rfl rfl) rfl)) ?_
                  refine rg_done rfl ?_
                  refine a_seq ?_
                  refine a_rseq ?_
                  refine rg_put (d := 54) (v := .d (.fl (.int .i64 (x.owed - x.paid)))) rfl (og rfl (op_move rfl rfl rfl)) ?_
                  refine rg_put (d := 55) (v := .d (.fl (.bool ((decide ((x.owed - x.paid) ≤ 0)))))) rfl (og rfl (op_bin rfl rfl rfl (b_leq _ _ _ _) rfl)) ?_
                  refine rg_done rfl ?_
                  refine a_cond rfl (fun h20 => ?_) (fun h20 => ?_)
                  · skip
                    have h21 := t_dec h20
                    refine a_rseq ?_
                    refine rg_put (d := 56) (v := .d (.ag (eCs (Cs.mk x.id x.plate x.key x.begun x.since 6 x.owed x.paid x.paused x.ap)))) rfl (og rfl (of_eff (s_load_pts rfl Tryd.underlying29 rfl ti29 rfl rfl rfl rfl) rfl)) ?_
                    refine rg_put (d := 57) (v := .d (.fl (.int .i64 c))) rfl (og rfl (op_move rfl rfl rfl)) ?_
                    refine rg_sto (nw := [(102, .bx 29 ((eCs (Cs.mk x.id x.plate x.key x.begun x.since 6 x.owed x.paid x.paused x.ap))))]) rfl (og rfl (of_eff (s_store rfl rfl ti29 rfl rfl rfl rfl rfl rfl) rfl)) ?_
                    refine rg_put (d := 5) (v := .d (.fl (.int .i64 c))) rfl (og rfl (op_assign rfl rfl rfl)) ?_
                    refine rg_put (d := 6) (v := .d (.fl (.int .i64 0))) rfl (og rfl (op_assign rfl rfl rfl)) ?_
                    refine rg_done rfl ?_
                    refine a_ret ?_
                    show ∃ ds, ResL _ _ _ ds ∧ RV.of ds = _
                    refine ⟨[.ag [.fl (.string ((Cs.mk x.id x.plate x.key x.begun x.since 6 x.owed x.paid x.paused x.ap).id)), .fl (.string ((Cs.mk x.id x.plate x.key x.begun x.since 6 x.owed x.paid x.paused x.ap).plate)), .fl (.string ((Cs.mk x.id x.plate x.key x.begun x.since 6 x.owed x.paid x.paused x.ap).key)), .fl (.int .i64 ((Cs.mk x.id x.plate x.key x.begun x.since 6 x.owed x.paid x.paused x.ap).begun)), .fl (.int .i64 ((Cs.mk x.id x.plate x.key x.begun x.since 6 x.owed x.paid x.paused x.ap).since)), .fl (.int .i64 ((Cs.mk x.id x.plate x.key x.begun x.since 6 x.owed x.paid x.paused x.ap).stage)), .fl (.int .i64 ((Cs.mk x.id x.plate x.key x.begun x.since 6 x.owed x.paid x.paused x.ap).owed)), .fl (.int .i64 ((Cs.mk x.id x.plate x.key x.begun x.since 6 x.owed x.paid x.paused x.ap).paid)), .fl (.int .i64 ((Cs.mk x.id x.plate x.key x.begun x.since 6 x.owed x.paid x.paused x.ap).paused)), .fl (.int .i64 (((Cs.mk x.id x.plate x.key x.begun x.since 6 x.owed x.paid x.paused x.ap).ap).state)), .fl (.int .i64 (((Cs.mk x.id x.plate x.key x.begun x.since 6 x.owed x.paid x.paused x.ap).ap).ground)), .fl (.int .i64 (((Cs.mk x.id x.plate x.key x.begun x.since 6 x.owed x.paid x.paused x.ap).ap).day))], .fl (.int .i64 c), .fl (.int .i64 0)], (.cons (.cellT rfl rfl Tryd.underlying29 rfl ti29 rfl (Cv.ag (xs := [.fl (.string ((Cs.mk x.id x.plate x.key x.begun x.since 6 x.owed x.paid x.paused x.ap).id)), .fl (.string ((Cs.mk x.id x.plate x.key x.begun x.since 6 x.owed x.paid x.paused x.ap).plate)), .fl (.string ((Cs.mk x.id x.plate x.key x.begun x.since 6 x.owed x.paid x.paused x.ap).key)), .fl (.int .i64 ((Cs.mk x.id x.plate x.key x.begun x.since 6 x.owed x.paid x.paused x.ap).begun)), .fl (.int .i64 ((Cs.mk x.id x.plate x.key x.begun x.since 6 x.owed x.paid x.paused x.ap).since)), .fl (.int .i64 ((Cs.mk x.id x.plate x.key x.begun x.since 6 x.owed x.paid x.paused x.ap).stage)), .fl (.int .i64 ((Cs.mk x.id x.plate x.key x.begun x.since 6 x.owed x.paid x.paused x.ap).owed)), .fl (.int .i64 ((Cs.mk x.id x.plate x.key x.begun x.since 6 x.owed x.paid x.paused x.ap).paid)), .fl (.int .i64 ((Cs.mk x.id x.plate x.key x.begun x.since 6 x.owed x.paid x.paused x.ap).paused)), .fl (.int .i64 (((Cs.mk x.id x.plate x.key x.begun x.since 6 x.owed x.paid x.paused x.ap).ap).state)), .fl (.int .i64 (((Cs.mk x.id x.plate x.key x.begun x.since 6 x.owed x.paid x.paused x.ap).ap).ground)), .fl (.int .i64 (((Cs.mk x.id x.plate x.key x.begun x.since 6 x.owed x.paid x.paused x.ap).ap).day))]) (ys := [.fl (.string ((Cs.mk x.id x.plate x.key x.begun x.since 6 x.owed x.paid x.paused x.ap).id)), .fl (.string ((Cs.mk x.id x.plate x.key x.begun x.since 6 x.owed x.paid x.paused x.ap).plate)), .fl (.string ((Cs.mk x.id x.plate x.key x.begun x.since 6 x.owed x.paid x.paused x.ap).key)), .fl (.int .i64 ((Cs.mk x.id x.plate x.key x.begun x.since 6 x.owed x.paid x.paused x.ap).begun)), .fl (.int .i64 ((Cs.mk x.id x.plate x.key x.begun x.since 6 x.owed x.paid x.paused x.ap).since)), .fl (.int .i64 ((Cs.mk x.id x.plate x.key x.begun x.since 6 x.owed x.paid x.paused x.ap).stage)), .fl (.int .i64 ((Cs.mk x.id x.plate x.key x.begun x.since 6 x.owed x.paid x.paused x.ap).owed)), .fl (.int .i64 ((Cs.mk x.id x.plate x.key x.begun x.since 6 x.owed x.paid x.paused x.ap).paid)), .fl (.int .i64 ((Cs.mk x.id x.plate x.key x.begun x.since 6 x.owed x.paid x.paused x.ap).paused)), .fl (.int .i64 (((Cs.mk x.id x.plate x.key x.begun x.since 6 x.owed x.paid x.paused x.ap).ap).state)), .fl (.int .i64 (((Cs.mk x.id x.plate x.key x.begun x.since 6 x.owed x.paid x.paused x.ap).ap).ground)), .fl (.int .i64 (((Cs.mk x.id x.plate x.key x.begun x.since 6 x.owed x.paid x.paused x.ap).ap).day))]) ⟨Cv.refl _, Cv.refl _, Cv.refl _, Cv.refl _, Cv.refl _, Cv.refl _, Cv.refl _, Cv.refl _, Cv.refl _, Cv.refl _, Cv.refl _, Cv.refl _, trivial⟩)) (.cons (.tmp rfl (.d _)) (.cons (.tmp rfl (.d _)) .nil))), ?_⟩
                    have hpb : payB x c = false := by unfold payB; simp only [h1, h3, h4, h6, h8, h10, h12, h14, h17, h20]; rfl
                    have hm1 : max x.paid x.owed = x.paid := by omega
                    have hm2 : c - max (x.owed - x.paid) 0 = c := by omega
                    have hu : pay x c = (({ x with paid := x.paid, stage := 6 }, c), 0) := by
                      unfold pay; simp only [h1, h3, h4, h6, h8, h10, h12, h14, h17, h20, hpb, hm1, hm2]; rfl
                    rw [hu]; rfl
                  · skip
                    have h22 := f_dec h20
                    refine a_skip ?_
                    show A _ _ _ _ _ _ _
                    refine a_rseq ?_
                    refine rg_put (d := 58) (v := .pt 101 6) rfl (og rfl (of_eff (s_field_pt rfl Tryd.underlying29 rfl ti3 rfl rfl rfl) rfl)) ?_
                    refine rg_put (d := 59) (v := .d (.fl (.int .i64 x.owed))) rfl (og rfl (op_load_pt rfl Tryd.underlying3 rfl rfl rfl rfl rfl)) ?_
                    refine rg_put (d := 60) (v := .pt 101 7) rfl (og rfl (of_eff (s_field_pt rfl Tryd.underlying29 rfl ti3 rfl rfl rfl) rfl)) ?_
                    refine rg_sto (nw := [(101, .bx 29 [.fl (.string x.id), .fl (.string x.plate), .fl (.string x.key), .fl (.int .i64 x.begun), .fl (.int .i64 x.since), .fl (.int .i64 6), .fl (.int .i64 x.owed), .fl (.int .i64 x.owed), .fl (.int .i64 x.paused), .fl (.int .i64 x.ap.state), .fl (.int .i64 x.ap.ground), .fl (.int .i64 x.ap.day)])]) rfl (og rfl (of_eff (s_store rfl rfl ti3 rfl rfl rfl rfl rfl rfl) rfl)) ?_
                    refine rg_done rfl ?_
                    refine a_rseq ?_
                    refine rg_put (d := 61) (v := .d (.ag (eCs (Cs.mk x.id x.plate x.key x.begun x.since 6 x.owed x.owed x.paused x.ap)))) rfl (og rfl (of_eff (s_load_pts rfl Tryd.underlying29 rfl ti29 rfl rfl rfl rfl) rfl)) ?_
                    refine rg_put (d := 62) (v := .d (.fl (.int .i64 c))) rfl (og rfl (op_move rfl rfl rfl)) ?_
                    refine rg_put (d := 63) (v := .d (.fl (.int .i64 (x.owed - x.paid)))) rfl (og rfl (op_move rfl rfl rfl)) ?_
                    refine rg_put (d := 64) (v := .d (.fl (.int .i64 ((c - (x.owed - x.paid)))))) rfl (og rfl (op_bin rfl rfl rfl (fun x y w => b_sub64 _ _ _ x y w (by omega)) rfl)) ?_
                    refine rg_sto (nw := [(102, .bx 29 ((eCs (Cs.mk x.id x.plate x.key x.begun x.since 6 x.owed x.owed x.paused x.ap))))]) rfl (og rfl (of_eff (s_store rfl rfl ti29 rfl rfl rfl rfl rfl rfl) rfl)) ?_
                    refine rg_put (d := 5) (v := .d (.fl (.int .i64 ((c - (x.owed - x.paid)))))) rfl (og rfl (op_assign rfl rfl rfl)) ?_
                    refine rg_put (d := 6) (v := .d (.fl (.int .i64 0))) rfl (og rfl (op_assign rfl rfl rfl)) ?_
                    refine rg_done rfl ?_
                    refine a_ret ?_
                    show ∃ ds, ResL _ _ _ ds ∧ RV.of ds = _
                    refine ⟨[.ag [.fl (.string ((Cs.mk x.id x.plate x.key x.begun x.since 6 x.owed x.owed x.paused x.ap).id)), .fl (.string ((Cs.mk x.id x.plate x.key x.begun x.since 6 x.owed x.owed x.paused x.ap).plate)), .fl (.string ((Cs.mk x.id x.plate x.key x.begun x.since 6 x.owed x.owed x.paused x.ap).key)), .fl (.int .i64 ((Cs.mk x.id x.plate x.key x.begun x.since 6 x.owed x.owed x.paused x.ap).begun)), .fl (.int .i64 ((Cs.mk x.id x.plate x.key x.begun x.since 6 x.owed x.owed x.paused x.ap).since)), .fl (.int .i64 ((Cs.mk x.id x.plate x.key x.begun x.since 6 x.owed x.owed x.paused x.ap).stage)), .fl (.int .i64 ((Cs.mk x.id x.plate x.key x.begun x.since 6 x.owed x.owed x.paused x.ap).owed)), .fl (.int .i64 ((Cs.mk x.id x.plate x.key x.begun x.since 6 x.owed x.owed x.paused x.ap).paid)), .fl (.int .i64 ((Cs.mk x.id x.plate x.key x.begun x.since 6 x.owed x.owed x.paused x.ap).paused)), .fl (.int .i64 (((Cs.mk x.id x.plate x.key x.begun x.since 6 x.owed x.owed x.paused x.ap).ap).state)), .fl (.int .i64 (((Cs.mk x.id x.plate x.key x.begun x.since 6 x.owed x.owed x.paused x.ap).ap).ground)), .fl (.int .i64 (((Cs.mk x.id x.plate x.key x.begun x.since 6 x.owed x.owed x.paused x.ap).ap).day))], .fl (.int .i64 ((c - (x.owed - x.paid)))), .fl (.int .i64 0)], (.cons (.cellT rfl rfl Tryd.underlying29 rfl ti29 rfl (Cv.ag (xs := [.fl (.string ((Cs.mk x.id x.plate x.key x.begun x.since 6 x.owed x.owed x.paused x.ap).id)), .fl (.string ((Cs.mk x.id x.plate x.key x.begun x.since 6 x.owed x.owed x.paused x.ap).plate)), .fl (.string ((Cs.mk x.id x.plate x.key x.begun x.since 6 x.owed x.owed x.paused x.ap).key)), .fl (.int .i64 ((Cs.mk x.id x.plate x.key x.begun x.since 6 x.owed x.owed x.paused x.ap).begun)), .fl (.int .i64 ((Cs.mk x.id x.plate x.key x.begun x.since 6 x.owed x.owed x.paused x.ap).since)), .fl (.int .i64 ((Cs.mk x.id x.plate x.key x.begun x.since 6 x.owed x.owed x.paused x.ap).stage)), .fl (.int .i64 ((Cs.mk x.id x.plate x.key x.begun x.since 6 x.owed x.owed x.paused x.ap).owed)), .fl (.int .i64 ((Cs.mk x.id x.plate x.key x.begun x.since 6 x.owed x.owed x.paused x.ap).paid)), .fl (.int .i64 ((Cs.mk x.id x.plate x.key x.begun x.since 6 x.owed x.owed x.paused x.ap).paused)), .fl (.int .i64 (((Cs.mk x.id x.plate x.key x.begun x.since 6 x.owed x.owed x.paused x.ap).ap).state)), .fl (.int .i64 (((Cs.mk x.id x.plate x.key x.begun x.since 6 x.owed x.owed x.paused x.ap).ap).ground)), .fl (.int .i64 (((Cs.mk x.id x.plate x.key x.begun x.since 6 x.owed x.owed x.paused x.ap).ap).day))]) (ys := [.fl (.string ((Cs.mk x.id x.plate x.key x.begun x.since 6 x.owed x.owed x.paused x.ap).id)), .fl (.string ((Cs.mk x.id x.plate x.key x.begun x.since 6 x.owed x.owed x.paused x.ap).plate)), .fl (.string ((Cs.mk x.id x.plate x.key x.begun x.since 6 x.owed x.owed x.paused x.ap).key)), .fl (.int .i64 ((Cs.mk x.id x.plate x.key x.begun x.since 6 x.owed x.owed x.paused x.ap).begun)), .fl (.int .i64 ((Cs.mk x.id x.plate x.key x.begun x.since 6 x.owed x.owed x.paused x.ap).since)), .fl (.int .i64 ((Cs.mk x.id x.plate x.key x.begun x.since 6 x.owed x.owed x.paused x.ap).stage)), .fl (.int .i64 ((Cs.mk x.id x.plate x.key x.begun x.since 6 x.owed x.owed x.paused x.ap).owed)), .fl (.int .i64 ((Cs.mk x.id x.plate x.key x.begun x.since 6 x.owed x.owed x.paused x.ap).paid)), .fl (.int .i64 ((Cs.mk x.id x.plate x.key x.begun x.since 6 x.owed x.owed x.paused x.ap).paused)), .fl (.int .i64 (((Cs.mk x.id x.plate x.key x.begun x.since 6 x.owed x.owed x.paused x.ap).ap).state)), .fl (.int .i64 (((Cs.mk x.id x.plate x.key x.begun x.since 6 x.owed x.owed x.paused x.ap).ap).ground)), .fl (.int .i64 (((Cs.mk x.id x.plate x.key x.begun x.since 6 x.owed x.owed x.paused x.ap).ap).day))]) ⟨Cv.refl _, Cv.refl _, Cv.refl _, Cv.refl _, Cv.refl _, Cv.refl _, Cv.refl _, Cv.refl _, Cv.refl _, Cv.refl _, Cv.refl _, Cv.refl _, trivial⟩)) (.cons (.tmp rfl (.d _)) (.cons (.tmp rfl (.d _)) .nil))), ?_⟩
                    have hpb : payB x c = false := by unfold payB; simp only [h1, h3, h4, h6, h8, h10, h12, h14, h17, h20]; rfl
                    have hm1 : max x.paid x.owed = x.owed := by omega
                    have hm2 : c - max (x.owed - x.paid) 0 = (c - (x.owed - x.paid)) := by omega
                    have hu : pay x c = (({ x with paid := x.owed, stage := 6 }, (c - (x.owed - x.paid))), 0) := by
                      unfold pay; simp only [h1, h3, h4, h6, h8, h10, h12, h14, h17, h20, hpb, hm1, hm2]; rfl
                    rw [hu]; rfl
            · skip
              have h23 := t_dec h12
              refine rg_put (d := 34) (v := .d (.fl undef)) rfl (on rfl rfl rfl h12) ?_
              refine rg_put (d := 35) (v := .d (.fl undef)) rfl (on rfl rfl rfl h12) ?_
              refine rg_put (d := 36) (v := .d (.fl undef)) rfl (on rfl rfl rfl h12) ?_
              refine rg_put (d := 37) (v := .d (.fl (.bool true))) rfl (og rfl (op_pick rfl rfl (by rw [h12]; rfl) rfl)) ?_
              refine rg_done rfl ?_
              refine a_condK rfl rfl ?_
              refine a_rseq ?_
              refine rg_put (d := 38) (v := .d (.ag (eCs x))) rfl (og rfl (of_eff (s_load_pts rfl Tryd.underlying29 rfl ti29 rfl rfl rfl rfl) rfl)) ?_
              refine rg_sto (nw := [(102, .bx 29 (eCs x))]) rfl (og rfl (of_eff (s_store rfl rfl ti29 rfl rfl rfl rfl rfl rfl) rfl)) ?_
              refine rg_put (d := 5) (v := .d (.fl (.int .i64 0))) rfl (og rfl (op_assign rfl rfl rfl)) ?_
              refine rg_put (d := 6) (v := .d (.fl (.int .i64 13))) rfl (og rfl (op_assign rfl rfl rfl)) ?_
              refine rg_done rfl ?_
              refine a_ret ?_
              show ∃ ds, ResL _ _ _ ds ∧ RV.of ds = _
              refine ⟨[.ag [.fl (.string x.id), .fl (.string x.plate), .fl (.string x.key), .fl (.int .i64 x.begun), .fl (.int .i64 x.since), .fl (.int .i64 x.stage), .fl (.int .i64 x.owed), .fl (.int .i64 x.paid), .fl (.int .i64 x.paused), .fl (.int .i64 x.ap.state), .fl (.int .i64 x.ap.ground), .fl (.int .i64 x.ap.day)], .fl (.int .i64 0), .fl (.int .i64 13)], (.cons (.cellT rfl rfl Tryd.underlying29 rfl ti29 rfl (Cv.ag (xs := [.fl (.string x.id), .fl (.string x.plate), .fl (.string x.key), .fl (.int .i64 x.begun), .fl (.int .i64 x.since), .fl (.int .i64 x.stage), .fl (.int .i64 x.owed), .fl (.int .i64 x.paid), .fl (.int .i64 x.paused), .fl (.int .i64 x.ap.state), .fl (.int .i64 x.ap.ground), .fl (.int .i64 x.ap.day)]) (ys := [.fl (.string x.id), .fl (.string x.plate), .fl (.string x.key), .fl (.int .i64 x.begun), .fl (.int .i64 x.since), .fl (.int .i64 x.stage), .fl (.int .i64 x.owed), .fl (.int .i64 x.paid), .fl (.int .i64 x.paused), .fl (.int .i64 x.ap.state), .fl (.int .i64 x.ap.ground), .fl (.int .i64 x.ap.day)]) ⟨Cv.refl _, Cv.refl _, Cv.refl _, Cv.refl _, Cv.refl _, Cv.refl _, Cv.refl _, Cv.refl _, Cv.refl _, Cv.refl _, Cv.refl _, Cv.refl _, trivial⟩)) (.cons (.tmp rfl (.d _)) (.cons (.tmp rfl (.d _)) .nil))), ?_⟩
              have hpb : payB x c = true := by unfold payB; simp only [h1, h3, h4, h6, h8, h10, h12]; rfl
              have hu : pay x c = ((x, 0), 13) := by
                unfold pay; simp only [h1, h3, h4, h6, h8, h10, h12, hpb]; rfl
              rw [hu]; rfl
          · skip
            have h24 := t_dec h10
            refine rg_put (d := 29) (v := .d (.fl undef)) rfl (on rfl rfl rfl h10) ?_
            refine rg_put (d := 30) (v := .d (.fl undef)) rfl (on rfl rfl rfl h10) ?_
            refine rg_put (d := 31) (v := .d (.fl undef)) rfl (on rfl rfl rfl h10) ?_
            refine rg_put (d := 32) (v := .d (.fl (.bool true))) rfl (og rfl (op_pick rfl rfl (by rw [h10]; rfl) rfl)) ?_
            refine rg_put (d := 33) (v := .d (.fl (.bool true))) rfl (og rfl (op_move rfl rfl rfl)) ?_
            refine rg_put (d := 34) (v := .d (.fl undef)) rfl (on rfl rfl rfl rfl) ?_
            refine rg_put (d := 35) (v := .d (.fl undef)) rfl (on rfl rfl rfl rfl) ?_
            refine rg_put (d := 36) (v := .d (.fl undef)) rfl (on rfl rfl rfl rfl) ?_
            refine rg_put (d := 37) (v := .d (.fl (.bool true))) rfl (og rfl (op_pick rfl rfl rfl rfl)) ?_
            refine rg_done rfl ?_
            refine a_condK rfl rfl ?_
            refine a_rseq ?_
            refine rg_put (d := 38) (v := .d (.ag (eCs x))) rfl (og rfl (of_eff (s_load_pts rfl Tryd.underlying29 rfl ti29 rfl rfl rfl rfl) rfl)) ?_
            refine rg_sto (nw := [(102, .bx 29 (eCs x))]) rfl (og rfl (of_eff (s_store rfl rfl ti29 rfl rfl rfl rfl rfl rfl) rfl)) ?_
            refine rg_put (d := 5) (v := .d (.fl (.int .i64 0))) rfl (og rfl (op_assign rfl rfl rfl)) ?_
            refine rg_put (d := 6) (v := .d (.fl (.int .i64 13))) rfl (og rfl (op_assign rfl rfl rfl)) ?_
            refine rg_done rfl ?_
            refine a_ret ?_
            show ∃ ds, ResL _ _ _ ds ∧ RV.of ds = _
            refine ⟨[.ag [.fl (.string x.id), .fl (.string x.plate), .fl (.string x.key), .fl (.int .i64 x.begun), .fl (.int .i64 x.since), .fl (.int .i64 x.stage), .fl (.int .i64 x.owed), .fl (.int .i64 x.paid), .fl (.int .i64 x.paused), .fl (.int .i64 x.ap.state), .fl (.int .i64 x.ap.ground), .fl (.int .i64 x.ap.day)], .fl (.int .i64 0), .fl (.int .i64 13)], (.cons (.cellT rfl rfl Tryd.underlying29 rfl ti29 rfl (Cv.ag (xs := [.fl (.string x.id), .fl (.string x.plate), .fl (.string x.key), .fl (.int .i64 x.begun), .fl (.int .i64 x.since), .fl (.int .i64 x.stage), .fl (.int .i64 x.owed), .fl (.int .i64 x.paid), .fl (.int .i64 x.paused), .fl (.int .i64 x.ap.state), .fl (.int .i64 x.ap.ground), .fl (.int .i64 x.ap.day)]) (ys := [.fl (.string x.id), .fl (.string x.plate), .fl (.string x.key), .fl (.int .i64 x.begun), .fl (.int .i64 x.since), .fl (.int .i64 x.stage), .fl (.int .i64 x.owed), .fl (.int .i64 x.paid), .fl (.int .i64 x.paused), .fl (.int .i64 x.ap.state), .fl (.int .i64 x.ap.ground), .fl (.int .i64 x.ap.day)]) ⟨Cv.refl _, Cv.refl _, Cv.refl _, Cv.refl _, Cv.refl _, Cv.refl _, Cv.refl _, Cv.refl _, Cv.refl _, Cv.refl _, Cv.refl _, Cv.refl _, trivial⟩)) (.cons (.tmp rfl (.d _)) (.cons (.tmp rfl (.d _)) .nil))), ?_⟩
            have hpb : payB x c = true := by unfold payB; simp only [h1, h3, h4, h6, h8, h10]; rfl
            have hu : pay x c = ((x, 0), 13) := by
              unfold pay; simp only [h1, h3, h4, h6, h8, h10, hpb]; rfl
            rw [hu]; rfl
        · skip
          have h25 := t_dec h8
          refine rg_put (d := 24) (v := .d (.fl undef)) rfl (on rfl rfl rfl h8) ?_
          refine rg_put (d := 25) (v := .d (.fl undef)) rfl (on rfl rfl rfl h8) ?_
          refine rg_put (d := 26) (v := .d (.fl undef)) rfl (on rfl rfl rfl h8) ?_
          refine rg_put (d := 27) (v := .d (.fl (.bool true))) rfl (og rfl (op_pick rfl rfl (by rw [h8]; rfl) rfl)) ?_
          refine rg_put (d := 28) (v := .d (.fl (.bool true))) rfl (og rfl (op_move rfl rfl rfl)) ?_
          refine rg_put (d := 29) (v := .d (.fl undef)) rfl (on rfl rfl rfl rfl) ?_
          refine rg_put (d := 30) (v := .d (.fl undef)) rfl (on rfl rfl rfl rfl) ?_
          refine rg_put (d := 31) (v := .d (.fl undef)) rfl (on rfl rfl rfl rfl) ?_
          refine rg_put (d := 32) (v := .d (.fl (.bool true))) rfl (og rfl (op_pick rfl rfl rfl rfl)) ?_
          refine rg_put (d := 33) (v := .d (.fl (.bool true))) rfl (og rfl (op_move rfl rfl rfl)) ?_
          refine rg_put (d := 34) (v := .d (.fl undef)) rfl (on rfl rfl rfl rfl) ?_
          refine rg_put (d := 35) (v := .d (.fl undef)) rfl (on rfl rfl rfl rfl) ?_
          refine rg_put (d := 36) (v := .d (.fl undef)) rfl (on rfl rfl rfl rfl) ?_
          refine rg_put (d := 37) (v := .d (.fl (.bool true))) rfl (og rfl (op_pick rfl rfl rfl rfl)) ?_
          refine rg_done rfl ?_
          refine a_condK rfl rfl ?_
          refine a_rseq ?_
          refine rg_put (d := 38) (v := .d (.ag (eCs x))) rfl (og rfl (of_eff (s_load_pts rfl Tryd.underlying29 rfl ti29 rfl rfl rfl rfl) rfl)) ?_
          refine rg_sto (nw := [(102, .bx 29 (eCs x))]) rfl (og rfl (of_eff (s_store rfl rfl ti29 rfl rfl rfl rfl rfl rfl) rfl)) ?_
          refine rg_put (d := 5) (v := .d (.fl (.int .i64 0))) rfl (og rfl (op_assign rfl rfl rfl)) ?_
          refine rg_put (d := 6) (v := .d (.fl (.int .i64 13))) rfl (og rfl (op_assign rfl rfl rfl)) ?_
          refine rg_done rfl ?_
          refine a_ret ?_
          show ∃ ds, ResL _ _ _ ds ∧ RV.of ds = _
          refine ⟨[.ag [.fl (.string x.id), .fl (.string x.plate), .fl (.string x.key), .fl (.int .i64 x.begun), .fl (.int .i64 x.since), .fl (.int .i64 x.stage), .fl (.int .i64 x.owed), .fl (.int .i64 x.paid), .fl (.int .i64 x.paused), .fl (.int .i64 x.ap.state), .fl (.int .i64 x.ap.ground), .fl (.int .i64 x.ap.day)], .fl (.int .i64 0), .fl (.int .i64 13)], (.cons (.cellT rfl rfl Tryd.underlying29 rfl ti29 rfl (Cv.ag (xs := [.fl (.string x.id), .fl (.string x.plate), .fl (.string x.key), .fl (.int .i64 x.begun), .fl (.int .i64 x.since), .fl (.int .i64 x.stage), .fl (.int .i64 x.owed), .fl (.int .i64 x.paid), .fl (.int .i64 x.paused), .fl (.int .i64 x.ap.state), .fl (.int .i64 x.ap.ground), .fl (.int .i64 x.ap.day)]) (ys := [.fl (.string x.id), .fl (.string x.plate), .fl (.string x.key), .fl (.int .i64 x.begun), .fl (.int .i64 x.since), .fl (.int .i64 x.stage), .fl (.int .i64 x.owed), .fl (.int .i64 x.paid), .fl (.int .i64 x.paused), .fl (.int .i64 x.ap.state), .fl (.int .i64 x.ap.ground), .fl (.int .i64 x.ap.day)]) ⟨Cv.refl _, Cv.refl _, Cv.refl _, Cv.refl _, Cv.refl _, Cv.refl _, Cv.refl _, Cv.refl _, Cv.refl _, Cv.refl _, Cv.refl _, Cv.refl _, trivial⟩)) (.cons (.tmp rfl (.d _)) (.cons (.tmp rfl (.d _)) .nil))), ?_⟩
          have hpb : payB x c = true := by unfold payB; simp only [h1, h3, h4, h6, h8]; rfl
          have hu : pay x c = ((x, 0), 13) := by
            unfold pay; simp only [h1, h3, h4, h6, h8, hpb]; rfl
          rw [hu]; rfl
      · skip
        have h26 := t_dec h6
        refine rg_put (d := 19) (v := .d (.fl undef)) rfl (on rfl rfl rfl h6) ?_
        refine rg_put (d := 20) (v := .d (.fl undef)) rfl (on rfl rfl rfl h6) ?_
        refine rg_put (d := 21) (v := .d (.fl undef)) rfl (on rfl rfl rfl h6) ?_
        refine rg_put (d := 22) (v := .d (.fl (.bool true))) rfl (og rfl (op_pick rfl rfl (by rw [h6]; rfl) rfl)) ?_
        refine rg_put (d := 23) (v := .d (.fl (.bool true))) rfl (og rfl (op_move rfl rfl rfl)) ?_
        refine rg_put (d := 24) (v := .d (.fl undef)) rfl (on rfl rfl rfl rfl) ?_
        refine rg_put (d := 25) (v := .d (.fl undef)) rfl (on rfl rfl rfl rfl) ?_
        refine rg_put (d := 26) (v := .d (.fl undef)) rfl (on rfl rfl rfl rfl) ?_
        refine rg_put (d := 27) (v := .d (.fl (.bool true))) rfl (og rfl (op_pick rfl rfl rfl rfl)) ?_
        refine rg_put (d := 28) (v := .d (.fl (.bool true))) rfl (og rfl (op_move rfl rfl rfl)) ?_
        refine rg_put (d := 29) (v := .d (.fl undef)) rfl (on rfl rfl rfl rfl) ?_
        refine rg_put (d := 30) (v := .d (.fl undef)) rfl (on rfl rfl rfl rfl) ?_
        refine rg_put (d := 31) (v := .d (.fl undef)) rfl (on rfl rfl rfl rfl) ?_
        refine rg_put (d := 32) (v := .d (.fl (.bool true))) rfl (og rfl (op_pick rfl rfl rfl rfl)) ?_
        refine rg_put (d := 33) (v := .d (.fl (.bool true))) rfl (og rfl (op_move rfl rfl rfl)) ?_
        refine rg_put (d := 34) (v := .d (.fl undef)) rfl (on rfl rfl rfl rfl) ?_
        refine rg_put (d := 35) (v := .d (.fl undef)) rfl (on rfl rfl rfl rfl) ?_
        refine rg_put (d := 36) (v := .d (.fl undef)) rfl (on rfl rfl rfl rfl) ?_
        refine rg_put (d := 37) (v := .d (.fl (.bool true))) rfl (og rfl (op_pick rfl rfl rfl rfl)) ?_
        refine rg_done rfl ?_
        refine a_condK rfl rfl ?_
        refine a_rseq ?_
        refine rg_put (d := 38) (v := .d (.ag (eCs x))) rfl (og rfl (of_eff (s_load_pts rfl Tryd.underlying29 rfl ti29 rfl rfl rfl rfl) rfl)) ?_
        refine rg_sto (nw := [(102, .bx 29 (eCs x))]) rfl (og rfl (of_eff (s_store rfl rfl ti29 rfl rfl rfl rfl rfl rfl) rfl)) ?_
        refine rg_put (d := 5) (v := .d (.fl (.int .i64 0))) rfl (og rfl (op_assign rfl rfl rfl)) ?_
        refine rg_put (d := 6) (v := .d (.fl (.int .i64 13))) rfl (og rfl (op_assign rfl rfl rfl)) ?_
        refine rg_done rfl ?_
        refine a_ret ?_
        show ∃ ds, ResL _ _ _ ds ∧ RV.of ds = _
        refine ⟨[.ag [.fl (.string x.id), .fl (.string x.plate), .fl (.string x.key), .fl (.int .i64 x.begun), .fl (.int .i64 x.since), .fl (.int .i64 x.stage), .fl (.int .i64 x.owed), .fl (.int .i64 x.paid), .fl (.int .i64 x.paused), .fl (.int .i64 x.ap.state), .fl (.int .i64 x.ap.ground), .fl (.int .i64 x.ap.day)], .fl (.int .i64 0), .fl (.int .i64 13)], (.cons (.cellT rfl rfl Tryd.underlying29 rfl ti29 rfl (Cv.ag (xs := [.fl (.string x.id), .fl (.string x.plate), .fl (.string x.key), .fl (.int .i64 x.begun), .fl (.int .i64 x.since), .fl (.int .i64 x.stage), .fl (.int .i64 x.owed), .fl (.int .i64 x.paid), .fl (.int .i64 x.paused), .fl (.int .i64 x.ap.state), .fl (.int .i64 x.ap.ground), .fl (.int .i64 x.ap.day)]) (ys := [.fl (.string x.id), .fl (.string x.plate), .fl (.string x.key), .fl (.int .i64 x.begun), .fl (.int .i64 x.since), .fl (.int .i64 x.stage), .fl (.int .i64 x.owed), .fl (.int .i64 x.paid), .fl (.int .i64 x.paused), .fl (.int .i64 x.ap.state), .fl (.int .i64 x.ap.ground), .fl (.int .i64 x.ap.day)]) ⟨Cv.refl _, Cv.refl _, Cv.refl _, Cv.refl _, Cv.refl _, Cv.refl _, Cv.refl _, Cv.refl _, Cv.refl _, Cv.refl _, Cv.refl _, Cv.refl _, trivial⟩)) (.cons (.tmp rfl (.d _)) (.cons (.tmp rfl (.d _)) .nil))), ?_⟩
        have hpb : payB x c = true := by unfold payB; simp only [h1, h3, h4, h6]; rfl
        have hu : pay x c = ((x, 0), 13) := by
          unfold pay; simp only [h1, h3, h4, h6, hpb]; rfl
        rw [hu]; rfl
    · skip
      have h27 := t_dec h4
      refine rg_put (d := 15) (v := .d (.fl undef)) rfl (on rfl rfl rfl h4) ?_
      refine rg_put (d := 16) (v := .d (.fl undef)) rfl (on rfl rfl rfl h4) ?_
      refine rg_put (d := 17) (v := .d (.fl (.bool true))) rfl (og rfl (op_pick rfl rfl (by rw [h4]; rfl) rfl)) ?_
      refine rg_put (d := 18) (v := .d (.fl (.bool true))) rfl (og rfl (op_move rfl rfl rfl)) ?_
      refine rg_put (d := 19) (v := .d (.fl undef)) rfl (on rfl rfl rfl rfl) ?_
      refine rg_put (d := 20) (v := .d (.fl undef)) rfl (on rfl rfl rfl rfl) ?_
      refine rg_put (d := 21) (v := .d (.fl undef)) rfl (on rfl rfl rfl rfl) ?_
      refine rg_put (d := 22) (v := .d (.fl (.bool true))) rfl (og rfl (op_pick rfl rfl rfl rfl)) ?_
      refine rg_put (d := 23) (v := .d (.fl (.bool true))) rfl (og rfl (op_move rfl rfl rfl)) ?_
      refine rg_put (d := 24) (v := .d (.fl undef)) rfl (on rfl rfl rfl rfl) ?_
      refine rg_put (d := 25) (v := .d (.fl undef)) rfl (on rfl rfl rfl rfl) ?_
      refine rg_put (d := 26) (v := .d (.fl undef)) rfl (on rfl rfl rfl rfl) ?_
      refine rg_put (d := 27) (v := .d (.fl (.bool true))) rfl (og rfl (op_pick rfl rfl rfl rfl)) ?_
      refine rg_put (d := 28) (v := .d (.fl (.bool true))) rfl (og rfl (op_move rfl rfl rfl)) ?_
      refine rg_put (d := 29) (v := .d (.fl undef)) rfl (on rfl rfl rfl rfl) ?_
      refine rg_put (d := 30) (v := .d (.fl undef)) rfl (on rfl rfl rfl rfl) ?_
      refine rg_put (d := 31) (v := .d (.fl undef)) rfl (on rfl rfl rfl rfl) ?_
      refine rg_put (d := 32) (v := .d (.fl (.bool true))) rfl (og rfl (op_pick rfl rfl rfl rfl)) ?_
      refine rg_put (d := 33) (v := .d (.fl (.bool true))) rfl (og rfl (op_move rfl rfl rfl)) ?_
      refine rg_put (d := 34) (v := .d (.fl undef)) rfl (on rfl rfl rfl rfl) ?_
      refine rg_put (d := 35) (v := .d (.fl undef)) rfl (on rfl rfl rfl rfl) ?_
      refine rg_put (d := 36) (v := .d (.fl undef)) rfl (on rfl rfl rfl rfl) ?_
      refine rg_put (d := 37) (v := .d (.fl (.bool true))) rfl (og rfl (op_pick rfl rfl rfl rfl)) ?_
      refine rg_done rfl ?_
      refine a_condK rfl rfl ?_
      refine a_rseq ?_
      refine rg_put (d := 38) (v := .d (.ag (eCs x))) rfl (og rfl (of_eff (s_load_pts rfl Tryd.underlying29 rfl ti29 rfl rfl rfl rfl) rfl)) ?_
      refine rg_sto (nw := [(102, .bx 29 (eCs x))]) rfl (og rfl (of_eff (s_store rfl rfl ti29 rfl rfl rfl rfl rfl rfl) rfl)) ?_
      refine rg_put (d := 5) (v := .d (.fl (.int .i64 0))) rfl (og rfl (op_assign rfl rfl rfl)) ?_
      refine rg_put (d := 6) (v := .d (.fl (.int .i64 13))) rfl (og rfl (op_assign rfl rfl rfl)) ?_
      refine rg_done rfl ?_
      refine a_ret ?_
      show ∃ ds, ResL _ _ _ ds ∧ RV.of ds = _
      refine ⟨[.ag [.fl (.string x.id), .fl (.string x.plate), .fl (.string x.key), .fl (.int .i64 x.begun), .fl (.int .i64 x.since), .fl (.int .i64 x.stage), .fl (.int .i64 x.owed), .fl (.int .i64 x.paid), .fl (.int .i64 x.paused), .fl (.int .i64 x.ap.state), .fl (.int .i64 x.ap.ground), .fl (.int .i64 x.ap.day)], .fl (.int .i64 0), .fl (.int .i64 13)], (.cons (.cellT rfl rfl Tryd.underlying29 rfl ti29 rfl (Cv.ag (xs := [.fl (.string x.id), .fl (.string x.plate), .fl (.string x.key), .fl (.int .i64 x.begun), .fl (.int .i64 x.since), .fl (.int .i64 x.stage), .fl (.int .i64 x.owed), .fl (.int .i64 x.paid), .fl (.int .i64 x.paused), .fl (.int .i64 x.ap.state), .fl (.int .i64 x.ap.ground), .fl (.int .i64 x.ap.day)]) (ys := [.fl (.string x.id), .fl (.string x.plate), .fl (.string x.key), .fl (.int .i64 x.begun), .fl (.int .i64 x.since), .fl (.int .i64 x.stage), .fl (.int .i64 x.owed), .fl (.int .i64 x.paid), .fl (.int .i64 x.paused), .fl (.int .i64 x.ap.state), .fl (.int .i64 x.ap.ground), .fl (.int .i64 x.ap.day)]) ⟨Cv.refl _, Cv.refl _, Cv.refl _, Cv.refl _, Cv.refl _, Cv.refl _, Cv.refl _, Cv.refl _, Cv.refl _, Cv.refl _, Cv.refl _, Cv.refl _, trivial⟩)) (.cons (.tmp rfl (.d _)) (.cons (.tmp rfl (.d _)) .nil))), ?_⟩
      have hpb : payB x c = true := by unfold payB; simp only [h1, h3, h4]; rfl
      have hu : pay x c = ((x, 0), 13) := by
        unfold pay; simp only [h1, h3, h4, hpb]; rfl
      rw [hu]; rfl
set_option maxHeartbeats 4000000 in
set_option maxRecDepth 100000 in
theorem wv25 (x : Cs) : Ctr Tryd.prog 25 [.ag (eCs x)] (.tu [.ag (eCs (wv x).1), .fl (.int .i64 (wv x).2)]) := by
  refine ctr (n := 10) (rs := #[.cell 2 29, .tmp 3]) (L := [(0, .d (.ag (eCs x)))]) Tryd.func25 rfl rfl rfl rfl rfl (fun w0 U0 => ?_)
  refine a_rseq ?_
  refine rg_nam (d := 1) (v := .pt 101 0) (m := 101) (nw := [(101, .bx 29 (eCs x))]) rfl (og rfl (of_eff (op_box 101 rfl rfl rfl rfl) rfl)) rfl ?_
  refine rg_nam (d := 2) (v := .pt 102 0) (m := 102) (nw := [(102, .bx 29 ([.fl (.string (⟨#[]⟩)), .fl (.string (⟨#[]⟩)), .fl (.string (⟨#[]⟩)), .fl (.int .i64 0), .fl (.int .i64 0), .fl (.int .i64 0), .fl (.int .i64 0), .fl (.int .i64 0), .fl (.int .i64 0), .fl (.int .i64 0), .fl (.int .i64 0), .fl (.int .i64 0)]))]) rfl (og rfl (of_eff (s_alloc 102 rfl ti29 (by kernel_rfl) rfl) rfl)) rfl ?_
  refine rg_put (d := 3) (v := .d (.fl (.int .i64 0))) rfl (og rfl (op_assign rfl rfl rfl)) ?_
  refine rg_done rfl ?_
  refine a_seq ?_
  refine a_rseq ?_
  refine rg_put (d := 4) (v := .d (.ag (eCs x))) rfl (og rfl (of_eff (s_load_pts rfl Tryd.underlying29 rfl ti29 rfl rfl rfl rfl) rfl)) ?_
  refine rg_put (d := 5) (v := .d (.fl (.bool (opn x)))) rfl (og rfl (op_call rfl Tryd.func21 nm21 rfl (.cons rfl (.d _) .nil) (opn21 x) rfl)) ?_
  refine rg_put (d := 6) (v := .d (.fl (.bool ((!(opn x)))))) rfl (og rfl (op_un rfl rfl (u_not _) rfl)) ?_
  refine rg_done rfl ?_
  refine a_cond rfl (fun h1 => ?_) (fun h1 => ?_)
  · skip
    have h2 := t_not h1
    refine a_rseq ?_
    refine rg_put (d := 7) (v := .d (.ag (eCs x))) rfl (og rfl (of_eff (s_load_pts rfl Tryd.underlying29 rfl ti29 rfl rfl rfl rfl) rfl)) ?_
    refine rg_sto (nw := [(102, .bx 29 (eCs x))]) rfl (og rfl (of_eff (s_store rfl rfl ti29 rfl rfl rfl rfl rfl rfl) rfl)) ?_
    refine rg_put (d := 3) (v := .d (.fl (.int .i64 28))) rfl (og rfl (op_assign rfl rfl rfl)) ?_
    refine rg_done rfl ?_
    refine a_ret ?_
    show ∃ ds, ResL _ _ _ ds ∧ RV.of ds = _
    refine ⟨[.ag [.fl (.string x.id), .fl (.string x.plate), .fl (.string x.key), .fl (.int .i64 x.begun), .fl (.int .i64 x.since), .fl (.int .i64 x.stage), .fl (.int .i64 x.owed), .fl (.int .i64 x.paid), .fl (.int .i64 x.paused), .fl (.int .i64 x.ap.state), .fl (.int .i64 x.ap.ground), .fl (.int .i64 x.ap.day)], .fl (.int .i64 28)], (.cons (.cellT rfl rfl Tryd.underlying29 rfl ti29 rfl (Cv.ag (xs := [.fl (.string x.id), .fl (.string x.plate), .fl (.string x.key), .fl (.int .i64 x.begun), .fl (.int .i64 x.since), .fl (.int .i64 x.stage), .fl (.int .i64 x.owed), .fl (.int .i64 x.paid), .fl (.int .i64 x.paused), .fl (.int .i64 x.ap.state), .fl (.int .i64 x.ap.ground), .fl (.int .i64 x.ap.day)]) (ys := [.fl (.string x.id), .fl (.string x.plate), .fl (.string x.key), .fl (.int .i64 x.begun), .fl (.int .i64 x.since), .fl (.int .i64 x.stage), .fl (.int .i64 x.owed), .fl (.int .i64 x.paid), .fl (.int .i64 x.paused), .fl (.int .i64 x.ap.state), .fl (.int .i64 x.ap.ground), .fl (.int .i64 x.ap.day)]) ⟨Cv.refl _, Cv.refl _, Cv.refl _, Cv.refl _, Cv.refl _, Cv.refl _, Cv.refl _, Cv.refl _, Cv.refl _, Cv.refl _, Cv.refl _, Cv.refl _, trivial⟩)) (.cons (.tmp rfl (.d _)) .nil)), ?_⟩
    have hu : wv x = (x, 28) := by
      unfold wv; simp only [h1, h2]; rfl
    rw [hu]; rfl
  · skip
    have h3 := f_not h1
    refine a_skip ?_
    show A _ _ _ _ _ _ _
    refine a_rseq ?_
    refine rg_put (d := 8) (v := .pt 101 5) rfl (og rfl (of_eff (s_field_pt rfl Tryd.underlying29 rfl ti3 rfl rfl rfl) rfl)) ?_
    refine rg_sto (nw := [(101, .bx 29 [.fl (.string x.id), .fl (.string x.plate), .fl (.string x.key), .fl (.int .i64 x.begun), .fl (.int .i64 x.since), .fl (.int .i64 7), .fl (.int .i64 x.owed), .fl (.int .i64 x.paid), .fl (.int .i64 x.paused), .fl (.int .i64 x.ap.state), .fl (.int .i64 x.ap.ground), .fl (.int .i64 x.ap.day)])]) rfl (og rfl (of_eff (s_store rfl rfl ti3 rfl rfl rfl rfl rfl rfl) rfl)) ?_
    refine rg_done rfl ?_
    refine a_rseq ?_
    refine rg_put (d := 9) (v := .d (.ag (eCs (Cs.mk x.id x.plate x.key x.begun x.since 7 x.owed x.paid x.paused x.ap)))) rfl (og rfl (of_eff (s_load_pts rfl Tryd.underlying29 rfl ti29 rfl rfl rfl rfl) rfl)) ?_
    refine rg_sto (nw := [(102, .bx 29 ((eCs (Cs.mk x.id x.plate x.key x.begun x.since 7 x.owed x.paid x.paused x.ap))))]) rfl (og rfl (of_eff (s_store rfl rfl ti29 rfl rfl rfl rfl rfl rfl) rfl)) ?_
    refine rg_put (d := 3) (v := .d (.fl (.int .i64 0))) rfl (og rfl (op_assign rfl rfl rfl)) ?_
    refine rg_done rfl ?_
    refine a_ret ?_
    show ∃ ds, ResL _ _ _ ds ∧ RV.of ds = _
    refine ⟨[.ag [.fl (.string ((Cs.mk x.id x.plate x.key x.begun x.since 7 x.owed x.paid x.paused x.ap).id)), .fl (.string ((Cs.mk x.id x.plate x.key x.begun x.since 7 x.owed x.paid x.paused x.ap).plate)), .fl (.string ((Cs.mk x.id x.plate x.key x.begun x.since 7 x.owed x.paid x.paused x.ap).key)), .fl (.int .i64 ((Cs.mk x.id x.plate x.key x.begun x.since 7 x.owed x.paid x.paused x.ap).begun)), .fl (.int .i64 ((Cs.mk x.id x.plate x.key x.begun x.since 7 x.owed x.paid x.paused x.ap).since)), .fl (.int .i64 ((Cs.mk x.id x.plate x.key x.begun x.since 7 x.owed x.paid x.paused x.ap).stage)), .fl (.int .i64 ((Cs.mk x.id x.plate x.key x.begun x.since 7 x.owed x.paid x.paused x.ap).owed)), .fl (.int .i64 ((Cs.mk x.id x.plate x.key x.begun x.since 7 x.owed x.paid x.paused x.ap).paid)), .fl (.int .i64 ((Cs.mk x.id x.plate x.key x.begun x.since 7 x.owed x.paid x.paused x.ap).paused)), .fl (.int .i64 (((Cs.mk x.id x.plate x.key x.begun x.since 7 x.owed x.paid x.paused x.ap).ap).state)), .fl (.int .i64 (((Cs.mk x.id x.plate x.key x.begun x.since 7 x.owed x.paid x.paused x.ap).ap).ground)), .fl (.int .i64 (((Cs.mk x.id x.plate x.key x.begun x.since 7 x.owed x.paid x.paused x.ap).ap).day))], .fl (.int .i64 0)], (.cons (.cellT rfl rfl Tryd.underlying29 rfl ti29 rfl (Cv.ag (xs := [.fl (.string ((Cs.mk x.id x.plate x.key x.begun x.since 7 x.owed x.paid x.paused x.ap).id)), .fl (.string ((Cs.mk x.id x.plate x.key x.begun x.since 7 x.owed x.paid x.paused x.ap).plate)), .fl (.string ((Cs.mk x.id x.plate x.key x.begun x.since 7 x.owed x.paid x.paused x.ap).key)), .fl (.int .i64 ((Cs.mk x.id x.plate x.key x.begun x.since 7 x.owed x.paid x.paused x.ap).begun)), .fl (.int .i64 ((Cs.mk x.id x.plate x.key x.begun x.since 7 x.owed x.paid x.paused x.ap).since)), .fl (.int .i64 ((Cs.mk x.id x.plate x.key x.begun x.since 7 x.owed x.paid x.paused x.ap).stage)), .fl (.int .i64 ((Cs.mk x.id x.plate x.key x.begun x.since 7 x.owed x.paid x.paused x.ap).owed)), .fl (.int .i64 ((Cs.mk x.id x.plate x.key x.begun x.since 7 x.owed x.paid x.paused x.ap).paid)), .fl (.int .i64 ((Cs.mk x.id x.plate x.key x.begun x.since 7 x.owed x.paid x.paused x.ap).paused)), .fl (.int .i64 (((Cs.mk x.id x.plate x.key x.begun x.since 7 x.owed x.paid x.paused x.ap).ap).state)), .fl (.int .i64 (((Cs.mk x.id x.plate x.key x.begun x.since 7 x.owed x.paid x.paused x.ap).ap).ground)), .fl (.int .i64 (((Cs.mk x.id x.plate x.key x.begun x.since 7 x.owed x.paid x.paused x.ap).ap).day))]) (ys := [.fl (.string ((Cs.mk x.id x.plate x.key x.begun x.since 7 x.owed x.paid x.paused x.ap).id)), .fl (.string ((Cs.mk x.id x.plate x.key x.begun x.since 7 x.owed x.paid x.paused x.ap).plate)), .fl (.string ((Cs.mk x.id x.plate x.key x.begun x.since 7 x.owed x.paid x.paused x.ap).key)), .fl (.int .i64 ((Cs.mk x.id x.plate x.key x.begun x.since 7 x.owed x.paid x.paused x.ap).begun)), .fl (.int .i64 ((Cs.mk x.id x.plate x.key x.begun x.since 7 x.owed x.paid x.paused x.ap).since)), .fl (.int .i64 ((Cs.mk x.id x.plate x.key x.begun x.since 7 x.owed x.paid x.paused x.ap).stage)), .fl (.int .i64 ((Cs.mk x.id x.plate x.key x.begun x.since 7 x.owed x.paid x.paused x.ap).owed)), .fl (.int .i64 ((Cs.mk x.id x.plate x.key x.begun x.since 7 x.owed x.paid x.paused x.ap).paid)), .fl (.int .i64 ((Cs.mk x.id x.plate x.key x.begun x.since 7 x.owed x.paid x.paused x.ap).paused)), .fl (.int .i64 (((Cs.mk x.id x.plate x.key x.begun x.since 7 x.owed x.paid x.paused x.ap).ap).state)), .fl (.int .i64 (((Cs.mk x.id x.plate x.key x.begun x.since 7 x.owed x.paid x.paused x.ap).ap).ground)), .fl (.int .i64 (((Cs.mk x.id x.plate x.key x.begun x.since 7 x.owed x.paid x.paused x.ap).ap).day))]) ⟨Cv.refl _, Cv.refl _, Cv.refl _, Cv.refl _, Cv.refl _, Cv.refl _, Cv.refl _, Cv.refl _, Cv.refl _, Cv.refl _, Cv.refl _, Cv.refl _, trivial⟩)) (.cons (.tmp rfl (.d _)) .nil)), ?_⟩
    have hu : wv x = ({ x with stage := 7 }, 0) := by
      unfold wv; simp only [h1, h3]; rfl
    rw [hu]; rfl
set_option maxHeartbeats 4000000 in
set_option maxRecDepth 100000 in
theorem wv26 (x : Cs) : Ctr Tryd.prog 26 [.ag (eCs x)] (.tu [.ag (eCs (wv x).1), .fl (.int .i64 (wv x).2)]) := by
  refine ctr (n := 10) (rs := #[.cell 2 29, .tmp 3]) (L := [(0, .d (.ag (eCs x)))]) Tryd.func26 rfl rfl rfl rfl rfl (fun w0 U0 => ?_)
  refine a_rseq ?_
  refine rg_nam (d := 1) (v := .pt 101 0) (m := 101) (nw := [(101, .bx 29 (eCs x))]) rfl (og rfl (of_eff (op_box 101 rfl rfl rfl rfl) rfl)) rfl ?_
  refine rg_nam (d := 2) (v := .pt 102 0) (m := 102) (nw := [(102, .bx 29 ([.fl (.string (⟨#[]⟩)), .fl (.string (⟨#[]⟩)), .fl (.string (⟨#[]⟩)), .fl (.int .i64 0), .fl (.int .i64 0), .fl (.int .i64 0), .fl (.int .i64 0), .fl (.int .i64 0), .fl (.int .i64 0), .fl (.int .i64 0), .fl (.int .i64 0), .fl (.int .i64 0)]))]) rfl (og rfl (of_eff (s_alloc 102 rfl ti29 (by kernel_rfl) rfl) rfl)) rfl ?_
  refine rg_put (d := 3) (v := .d (.fl (.int .i64 0))) rfl (og rfl (op_assign rfl rfl rfl)) ?_
  refine rg_done rfl ?_
  refine a_seq ?_
  refine a_rseq ?_
  refine rg_put (d := 4) (v := .d (.ag (eCs x))) rfl (og rfl (of_eff (s_load_pts rfl Tryd.underlying29 rfl ti29 rfl rfl rfl rfl) rfl)) ?_
  refine rg_put (d := 5) (v := .d (.fl (.bool (opn x)))) rfl (og rfl (op_call rfl Tryd.func22 nm22 rfl (.cons rfl (.d _) .nil) (opn22 x) rfl)) ?_
  refine rg_put (d := 6) (v := .d (.fl (.bool ((!(opn x)))))) rfl (og rfl (op_un rfl rfl (u_not _) rfl)) ?_
  refine rg_done rfl ?_
  refine a_cond rfl (fun h1 => ?_) (fun h1 => ?_)
  · skip
    have h2 := t_not h1
    refine a_rseq ?_
    refine rg_put (d := 7) (v := .d (.ag (eCs x))) rfl (og rfl (of_eff (s_load_pts rfl Tryd.underlying29 rfl ti29 rfl rfl rfl rfl) rfl)) ?_
    refine rg_sto (nw := [(102, .bx 29 (eCs x))]) rfl (og rfl (of_eff (s_store rfl rfl ti29 rfl rfl rfl rfl rfl rfl) rfl)) ?_
    refine rg_put (d := 3) (v := .d (.fl (.int .i64 28))) rfl (og rfl (op_assign rfl rfl rfl)) ?_
    refine rg_done rfl ?_
    refine a_ret ?_
    show ∃ ds, ResL _ _ _ ds ∧ RV.of ds = _
    refine ⟨[.ag [.fl (.string x.id), .fl (.string x.plate), .fl (.string x.key), .fl (.int .i64 x.begun), .fl (.int .i64 x.since), .fl (.int .i64 x.stage), .fl (.int .i64 x.owed), .fl (.int .i64 x.paid), .fl (.int .i64 x.paused), .fl (.int .i64 x.ap.state), .fl (.int .i64 x.ap.ground), .fl (.int .i64 x.ap.day)], .fl (.int .i64 28)], (.cons (.cellT rfl rfl Tryd.underlying29 rfl ti29 rfl (Cv.ag (xs := [.fl (.string x.id), .fl (.string x.plate), .fl (.string x.key), .fl (.int .i64 x.begun), .fl (.int .i64 x.since), .fl (.int .i64 x.stage), .fl (.int .i64 x.owed), .fl (.int .i64 x.paid), .fl (.int .i64 x.paused), .fl (.int .i64 x.ap.state), .fl (.int .i64 x.ap.ground), .fl (.int .i64 x.ap.day)]) (ys := [.fl (.string x.id), .fl (.string x.plate), .fl (.string x.key), .fl (.int .i64 x.begun), .fl (.int .i64 x.since), .fl (.int .i64 x.stage), .fl (.int .i64 x.owed), .fl (.int .i64 x.paid), .fl (.int .i64 x.paused), .fl (.int .i64 x.ap.state), .fl (.int .i64 x.ap.ground), .fl (.int .i64 x.ap.day)]) ⟨Cv.refl _, Cv.refl _, Cv.refl _, Cv.refl _, Cv.refl _, Cv.refl _, Cv.refl _, Cv.refl _, Cv.refl _, Cv.refl _, Cv.refl _, Cv.refl _, trivial⟩)) (.cons (.tmp rfl (.d _)) .nil)), ?_⟩
    have hu : wv x = (x, 28) := by
      unfold wv; simp only [h1, h2]; rfl
    rw [hu]; rfl
  · skip
    have h3 := f_not h1
    refine a_skip ?_
    show A _ _ _ _ _ _ _
    refine a_rseq ?_
    refine rg_put (d := 8) (v := .pt 101 5) rfl (og rfl (of_eff (s_field_pt rfl Tryd.underlying29 rfl ti3 rfl rfl rfl) rfl)) ?_
    refine rg_sto (nw := [(101, .bx 29 [.fl (.string x.id), .fl (.string x.plate), .fl (.string x.key), .fl (.int .i64 x.begun), .fl (.int .i64 x.since), .fl (.int .i64 7), .fl (.int .i64 x.owed), .fl (.int .i64 x.paid), .fl (.int .i64 x.paused), .fl (.int .i64 x.ap.state), .fl (.int .i64 x.ap.ground), .fl (.int .i64 x.ap.day)])]) rfl (og rfl (of_eff (s_store rfl rfl ti3 rfl rfl rfl rfl rfl rfl) rfl)) ?_
    refine rg_done rfl ?_
    refine a_rseq ?_
    refine rg_put (d := 9) (v := .d (.ag (eCs (Cs.mk x.id x.plate x.key x.begun x.since 7 x.owed x.paid x.paused x.ap)))) rfl (og rfl (of_eff (s_load_pts rfl Tryd.underlying29 rfl ti29 rfl rfl rfl rfl) rfl)) ?_
    refine rg_sto (nw := [(102, .bx 29 ((eCs (Cs.mk x.id x.plate x.key x.begun x.since 7 x.owed x.paid x.paused x.ap))))]) rfl (og rfl (of_eff (s_store rfl rfl ti29 rfl rfl rfl rfl rfl rfl) rfl)) ?_
    refine rg_put (d := 3) (v := .d (.fl (.int .i64 0))) rfl (og rfl (op_assign rfl rfl rfl)) ?_
    refine rg_done rfl ?_
    refine a_ret ?_
    show ∃ ds, ResL _ _ _ ds ∧ RV.of ds = _
    refine ⟨[.ag [.fl (.string ((Cs.mk x.id x.plate x.key x.begun x.since 7 x.owed x.paid x.paused x.ap).id)), .fl (.string ((Cs.mk x.id x.plate x.key x.begun x.since 7 x.owed x.paid x.paused x.ap).plate)), .fl (.string ((Cs.mk x.id x.plate x.key x.begun x.since 7 x.owed x.paid x.paused x.ap).key)), .fl (.int .i64 ((Cs.mk x.id x.plate x.key x.begun x.since 7 x.owed x.paid x.paused x.ap).begun)), .fl (.int .i64 ((Cs.mk x.id x.plate x.key x.begun x.since 7 x.owed x.paid x.paused x.ap).since)), .fl (.int .i64 ((Cs.mk x.id x.plate x.key x.begun x.since 7 x.owed x.paid x.paused x.ap).stage)), .fl (.int .i64 ((Cs.mk x.id x.plate x.key x.begun x.since 7 x.owed x.paid x.paused x.ap).owed)), .fl (.int .i64 ((Cs.mk x.id x.plate x.key x.begun x.since 7 x.owed x.paid x.paused x.ap).paid)), .fl (.int .i64 ((Cs.mk x.id x.plate x.key x.begun x.since 7 x.owed x.paid x.paused x.ap).paused)), .fl (.int .i64 (((Cs.mk x.id x.plate x.key x.begun x.since 7 x.owed x.paid x.paused x.ap).ap).state)), .fl (.int .i64 (((Cs.mk x.id x.plate x.key x.begun x.since 7 x.owed x.paid x.paused x.ap).ap).ground)), .fl (.int .i64 (((Cs.mk x.id x.plate x.key x.begun x.since 7 x.owed x.paid x.paused x.ap).ap).day))], .fl (.int .i64 0)], (.cons (.cellT rfl rfl Tryd.underlying29 rfl ti29 rfl (Cv.ag (xs := [.fl (.string ((Cs.mk x.id x.plate x.key x.begun x.since 7 x.owed x.paid x.paused x.ap).id)), .fl (.string ((Cs.mk x.id x.plate x.key x.begun x.since 7 x.owed x.paid x.paused x.ap).plate)), .fl (.string ((Cs.mk x.id x.plate x.key x.begun x.since 7 x.owed x.paid x.paused x.ap).key)), .fl (.int .i64 ((Cs.mk x.id x.plate x.key x.begun x.since 7 x.owed x.paid x.paused x.ap).begun)), .fl (.int .i64 ((Cs.mk x.id x.plate x.key x.begun x.since 7 x.owed x.paid x.paused x.ap).since)), .fl (.int .i64 ((Cs.mk x.id x.plate x.key x.begun x.since 7 x.owed x.paid x.paused x.ap).stage)), .fl (.int .i64 ((Cs.mk x.id x.plate x.key x.begun x.since 7 x.owed x.paid x.paused x.ap).owed)), .fl (.int .i64 ((Cs.mk x.id x.plate x.key x.begun x.since 7 x.owed x.paid x.paused x.ap).paid)), .fl (.int .i64 ((Cs.mk x.id x.plate x.key x.begun x.since 7 x.owed x.paid x.paused x.ap).paused)), .fl (.int .i64 (((Cs.mk x.id x.plate x.key x.begun x.since 7 x.owed x.paid x.paused x.ap).ap).state)), .fl (.int .i64 (((Cs.mk x.id x.plate x.key x.begun x.since 7 x.owed x.paid x.paused x.ap).ap).ground)), .fl (.int .i64 (((Cs.mk x.id x.plate x.key x.begun x.since 7 x.owed x.paid x.paused x.ap).ap).day))]) (ys := [.fl (.string ((Cs.mk x.id x.plate x.key x.begun x.since 7 x.owed x.paid x.paused x.ap).id)), .fl (.string ((Cs.mk x.id x.plate x.key x.begun x.since 7 x.owed x.paid x.paused x.ap).plate)), .fl (.string ((Cs.mk x.id x.plate x.key x.begun x.since 7 x.owed x.paid x.paused x.ap).key)), .fl (.int .i64 ((Cs.mk x.id x.plate x.key x.begun x.since 7 x.owed x.paid x.paused x.ap).begun)), .fl (.int .i64 ((Cs.mk x.id x.plate x.key x.begun x.since 7 x.owed x.paid x.paused x.ap).since)), .fl (.int .i64 ((Cs.mk x.id x.plate x.key x.begun x.since 7 x.owed x.paid x.paused x.ap).stage)), .fl (.int .i64 ((Cs.mk x.id x.plate x.key x.begun x.since 7 x.owed x.paid x.paused x.ap).owed)), .fl (.int .i64 ((Cs.mk x.id x.plate x.key x.begun x.since 7 x.owed x.paid x.paused x.ap).paid)), .fl (.int .i64 ((Cs.mk x.id x.plate x.key x.begun x.since 7 x.owed x.paid x.paused x.ap).paused)), .fl (.int .i64 (((Cs.mk x.id x.plate x.key x.begun x.since 7 x.owed x.paid x.paused x.ap).ap).state)), .fl (.int .i64 (((Cs.mk x.id x.plate x.key x.begun x.since 7 x.owed x.paid x.paused x.ap).ap).ground)), .fl (.int .i64 (((Cs.mk x.id x.plate x.key x.begun x.since 7 x.owed x.paid x.paused x.ap).ap).day))]) ⟨Cv.refl _, Cv.refl _, Cv.refl _, Cv.refl _, Cv.refl _, Cv.refl _, Cv.refl _, Cv.refl _, Cv.refl _, Cv.refl _, Cv.refl _, Cv.refl _, trivial⟩)) (.cons (.tmp rfl (.d _)) .nil)), ?_⟩
    have hu : wv x = ({ x with stage := 7 }, 0) := by
      unfold wv; simp only [h1, h3]; rfl
    rw [hu]; rfl
set_option maxHeartbeats 4000000 in
set_option maxRecDepth 100000 in
theorem same_self (x : Cs) : Ctr Tryd.prog 16 [.ag (eCs x), .ag (eCs x)] (.d (.fl (.bool true))) := by
  refine ctr (n := 93) (rs := #[.tmp 4]) (L := [(0, .d (.ag (eCs x))), (1, .d (.ag (eCs x)))]) Tryd.func16 rfl rfl rfl rfl rfl (fun w0 U0 => ?_)
  refine a_rseq ?_
  refine rg_nam (d := 2) (v := .pt 101 0) (m := 101) (nw := [(101, .bx 29 (eCs x))]) rfl (og rfl (of_eff (op_box 101 rfl rfl rfl rfl) rfl)) rfl ?_
  refine rg_nam (d := 3) (v := .pt 102 0) (m := 102) (nw := [(102, .bx 29 (eCs x))]) rfl (og rfl (of_eff (op_box 102 rfl rfl rfl rfl) rfl)) rfl ?_
  refine rg_put (d := 4) (v := .d (.fl (.bool false))) rfl (og rfl (op_assign rfl rfl rfl)) ?_
  refine rg_done rfl ?_
  refine a_rseq ?_
  refine rg_put (d := 5) (v := .pt 101 0) rfl (og rfl (of_eff (s_field_pt rfl Tryd.underlying29 rfl ti9 rfl rfl rfl) rfl)) ?_
  refine rg_put (d := 6) (v := .d (.fl (.string x.id))) rfl (og rfl (op_load_pt rfl Tryd.underlying9 rfl rfl rfl rfl rfl)) ?_
  refine rg_put (d := 7) (v := .pt 102 0) rfl (og rfl (of_eff (s_field_pt rfl Tryd.underlying29 rfl ti9 rfl rfl rfl) rfl)) ?_
  refine rg_put (d := 8) (v := .d (.fl (.string x.id))) rfl (og rfl (op_load_pt rfl Tryd.underlying9 rfl rfl rfl rfl rfl)) ?_
  refine rg_put (d := 9) (v := .d (.fl (.bool (sEq x.id x.id)))) rfl (og rfl (op_bin rfl rfl rfl (b_seq _ _ _) rfl)) ?_
  refine rg_put (d := 10) (v := .d (.fl (.bool (sEq x.id x.id)))) rfl (og rfl (op_move rfl rfl rfl)) ?_
  refine rg_put (d := 11) (v := .pt 101 1) rfl (oy rfl rfl rfl (eq_self_s _) (of_eff (s_field_pt rfl Tryd.underlying29 rfl ti9 rfl rfl rfl) rfl)) ?_
  refine rg_put (d := 12) (v := .d (.fl (.string x.plate))) rfl (oy rfl rfl rfl (eq_self_s _) (op_load_pt rfl Tryd.underlying9 rfl rfl rfl rfl rfl)) ?_
  refine rg_put (d := 13) (v := .pt 102 1) rfl (oy rfl rfl rfl (eq_self_s _) (of_eff (s_field_pt rfl Tryd.underlying29 rfl ti9 rfl rfl rfl) rfl)) ?_
  refine rg_put (d := 14) (v := .d (.fl (.string x.plate))) rfl (oy rfl rfl rfl (eq_self_s _) (op_load_pt rfl Tryd.underlying9 rfl rfl rfl rfl rfl)) ?_
  refine rg_put (d := 15) (v := .d (.fl (.bool (sEq x.plate x.plate)))) rfl (oy rfl rfl rfl (eq_self_s _) (op_bin rfl rfl rfl (b_seq _ _ _) rfl)) ?_
  refine rg_put (d := 16) (v := .d (.fl (.bool (sEq x.plate x.plate)))) rfl (og rfl (op_pick rfl rfl (by rw [(eq_self_s _)]; rfl) rfl)) ?_
  refine rg_put (d := 17) (v := .d (.fl (.bool (sEq x.plate x.plate)))) rfl (og rfl (op_move rfl rfl rfl)) ?_
  refine rg_put (d := 18) (v := .pt 101 2) rfl (oy rfl rfl rfl (eq_self_s _) (of_eff (s_field_pt rfl Tryd.underlying29 rfl ti9 rfl rfl rfl) rfl)) ?_
  refine rg_put (d := 19) (v := .d (.fl (.string x.key))) rfl (oy rfl rfl rfl (eq_self_s _) (op_load_pt rfl Tryd.underlying9 rfl rfl rfl rfl rfl)) ?_
  refine rg_put (d := 20) (v := .pt 102 2) rfl (oy rfl rfl rfl (eq_self_s _) (of_eff (s_field_pt rfl Tryd.underlying29 rfl ti9 rfl rfl rfl) rfl)) ?_
  refine rg_put (d := 21) (v := .d (.fl (.string x.key))) rfl (oy rfl rfl rfl (eq_self_s _) (op_load_pt rfl Tryd.underlying9 rfl rfl rfl rfl rfl)) ?_
  refine rg_put (d := 22) (v := .d (.fl (.bool (sEq x.key x.key)))) rfl (oy rfl rfl rfl (eq_self_s _) (op_bin rfl rfl rfl (b_seq _ _ _) rfl)) ?_
  refine rg_put (d := 23) (v := .d (.fl (.bool (sEq x.key x.key)))) rfl (og rfl (op_pick rfl rfl (by rw [(eq_self_s _)]; rfl) rfl)) ?_
  refine rg_put (d := 24) (v := .d (.fl (.bool (sEq x.key x.key)))) rfl (og rfl (op_move rfl rfl rfl)) ?_
  refine rg_put (d := 25) (v := .pt 101 3) rfl (oy rfl rfl rfl (eq_self_s _) (of_eff (s_field_pt rfl Tryd.underlying29 rfl ti3 rfl rfl rfl) rfl)) ?_
  refine rg_put (d := 26) (v := .d (.fl (.int .i64 x.begun))) rfl (oy rfl rfl rfl (eq_self_s _) (op_load_pt rfl Tryd.underlying3 rfl rfl rfl rfl rfl)) ?_
  refine rg_put (d := 27) (v := .pt 102 3) rfl (oy rfl rfl rfl (eq_self_s _) (of_eff (s_field_pt rfl Tryd.underlying29 rfl ti3 rfl rfl rfl) rfl)) ?_
  refine rg_put (d := 28) (v := .d (.fl (.int .i64 x.begun))) rfl (oy rfl rfl rfl (eq_self_s _) (op_load_pt rfl Tryd.underlying3 rfl rfl rfl rfl rfl)) ?_
  refine rg_put (d := 29) (v := .d (.fl (.bool (x.begun == x.begun)))) rfl (oy rfl rfl rfl (eq_self_s _) (op_bin rfl rfl rfl (b_eql _ _ _ _) rfl)) ?_
  refine rg_put (d := 30) (v := .d (.fl (.bool (x.begun == x.begun)))) rfl (og rfl (op_pick rfl rfl (by rw [(eq_self_s _)]; rfl) rfl)) ?_
  refine rg_put (d := 31) (v := .d (.fl (.bool (x.begun == x.begun)))) rfl (og rfl (op_move rfl rfl rfl)) ?_
  refine rg_put (d := 32) (v := .pt 101 4) rfl (oy rfl rfl rfl (eq_self_b _) (of_eff (s_field_pt rfl Tryd.underlying29 rfl ti3 rfl rfl rfl) rfl)) ?_
  refine rg_put (d := 33) (v := .d (.fl (.int .i64 x.since))) rfl (oy rfl rfl rfl (eq_self_b _) (op_load_pt rfl Tryd.underlying3 rfl rfl rfl rfl rfl)) ?_
  refine rg_put (d := 34) (v := .pt 102 4) rfl (oy rfl rfl rfl (eq_self_b _) (of_eff (s_field_pt rfl Tryd.underlying29 rfl ti3 rfl rfl rfl) rfl)) ?_
  refine rg_put (d := 35) (v := .d (.fl (.int .i64 x.since))) rfl (oy rfl rfl rfl (eq_self_b _) (op_load_pt rfl Tryd.underlying3 rfl rfl rfl rfl rfl)) ?_
  refine rg_put (d := 36) (v := .d (.fl (.bool (x.since == x.since)))) rfl (oy rfl rfl rfl (eq_self_b _) (op_bin rfl rfl rfl (b_eql _ _ _ _) rfl)) ?_
  refine rg_put (d := 37) (v := .d (.fl (.bool (x.since == x.since)))) rfl (og rfl (op_pick rfl rfl (by rw [(eq_self_b _)]; rfl) rfl)) ?_
  refine rg_put (d := 38) (v := .d (.fl (.bool (x.since == x.since)))) rfl (og rfl (op_move rfl rfl rfl)) ?_
  refine rg_put (d := 39) (v := .pt 101 5) rfl (oy rfl rfl rfl (eq_self_b _) (of_eff (s_field_pt rfl Tryd.underlying29 rfl ti3 rfl rfl rfl) rfl)) ?_
  refine rg_put (d := 40) (v := .d (.fl (.int .i64 x.stage))) rfl (oy rfl rfl rfl (eq_self_b _) (op_load_pt rfl Tryd.underlying3 rfl rfl rfl rfl rfl)) ?_
  refine rg_put (d := 41) (v := .pt 102 5) rfl (oy rfl rfl rfl (eq_self_b _) (of_eff (s_field_pt rfl Tryd.underlying29 rfl ti3 rfl rfl rfl) rfl)) ?_
  refine rg_put (d := 42) (v := .d (.fl (.int .i64 x.stage))) rfl (oy rfl rfl rfl (eq_self_b _) (op_load_pt rfl Tryd.underlying3 rfl rfl rfl rfl rfl)) ?_
  refine rg_put (d := 43) (v := .d (.fl (.bool (x.stage == x.stage)))) rfl (oy rfl rfl rfl (eq_self_b _) (op_bin rfl rfl rfl (b_eql _ _ _ _) rfl)) ?_
  refine rg_put (d := 44) (v := .d (.fl (.bool (x.stage == x.stage)))) rfl (og rfl (op_pick rfl rfl (by rw [(eq_self_b _)]; rfl) rfl)) ?_
  refine rg_put (d := 45) (v := .d (.fl (.bool (x.stage == x.stage)))) rfl (og rfl (op_move rfl rfl rfl)) ?_
  refine rg_put (d := 46) (v := .pt 101 6) rfl (oy rfl rfl rfl (eq_self_b _) (of_eff (s_field_pt rfl Tryd.underlying29 rfl ti3 rfl rfl rfl) rfl)) ?_
  refine rg_put (d := 47) (v := .d (.fl (.int .i64 x.owed))) rfl (oy rfl rfl rfl (eq_self_b _) (op_load_pt rfl Tryd.underlying3 rfl rfl rfl rfl rfl)) ?_
  refine rg_put (d := 48) (v := .pt 102 6) rfl (oy rfl rfl rfl (eq_self_b _) (of_eff (s_field_pt rfl Tryd.underlying29 rfl ti3 rfl rfl rfl) rfl)) ?_
  refine rg_put (d := 49) (v := .d (.fl (.int .i64 x.owed))) rfl (oy rfl rfl rfl (eq_self_b _) (op_load_pt rfl Tryd.underlying3 rfl rfl rfl rfl rfl)) ?_
  refine rg_put (d := 50) (v := .d (.fl (.bool (x.owed == x.owed)))) rfl (oy rfl rfl rfl (eq_self_b _) (op_bin rfl rfl rfl (b_eql _ _ _ _) rfl)) ?_
  refine rg_put (d := 51) (v := .d (.fl (.bool (x.owed == x.owed)))) rfl (og rfl (op_pick rfl rfl (by rw [(eq_self_b _)]; rfl) rfl)) ?_
  refine rg_put (d := 52) (v := .d (.fl (.bool (x.owed == x.owed)))) rfl (og rfl (op_move rfl rfl rfl)) ?_
  refine rg_put (d := 53) (v := .pt 101 7) rfl (oy rfl rfl rfl (eq_self_b _) (of_eff (s_field_pt rfl Tryd.underlying29 rfl ti3 rfl rfl rfl) rfl)) ?_
  refine rg_put (d := 54) (v := .d (.fl (.int .i64 x.paid))) rfl (oy rfl rfl rfl (eq_self_b _) (op_load_pt rfl Tryd.underlying3 rfl rfl rfl rfl rfl)) ?_
  refine rg_put (d := 55) (v := .pt 102 7) rfl (oy rfl rfl rfl (eq_self_b _) (of_eff (s_field_pt rfl Tryd.underlying29 rfl ti3 rfl rfl rfl) rfl)) ?_
  refine rg_put (d := 56) (v := .d (.fl (.int .i64 x.paid))) rfl (oy rfl rfl rfl (eq_self_b _) (op_load_pt rfl Tryd.underlying3 rfl rfl rfl rfl rfl)) ?_
  refine rg_put (d := 57) (v := .d (.fl (.bool (x.paid == x.paid)))) rfl (oy rfl rfl rfl (eq_self_b _) (op_bin rfl rfl rfl (b_eql _ _ _ _) rfl)) ?_
  refine rg_put (d := 58) (v := .d (.fl (.bool (x.paid == x.paid)))) rfl (og rfl (op_pick rfl rfl (by rw [(eq_self_b _)]; rfl) rfl)) ?_
  refine rg_put (d := 59) (v := .d (.fl (.bool (x.paid == x.paid)))) rfl (og rfl (op_move rfl rfl rfl)) ?_
  refine rg_put (d := 60) (v := .pt 101 8) rfl (oy rfl rfl rfl (eq_self_b _) (of_eff (s_field_pt rfl Tryd.underlying29 rfl ti3 rfl rfl rfl) rfl)) ?_
  refine rg_put (d := 61) (v := .d (.fl (.int .i64 x.paused))) rfl (oy rfl rfl rfl (eq_self_b _) (op_load_pt rfl Tryd.underlying3 rfl rfl rfl rfl rfl)) ?_
  refine rg_put (d := 62) (v := .pt 102 8) rfl (oy rfl rfl rfl (eq_self_b _) (of_eff (s_field_pt rfl Tryd.underlying29 rfl ti3 rfl rfl rfl) rfl)) ?_
  refine rg_put (d := 63) (v := .d (.fl (.int .i64 x.paused))) rfl (oy rfl rfl rfl (eq_self_b _) (op_load_pt rfl Tryd.underlying3 rfl rfl rfl rfl rfl)) ?_
  refine rg_put (d := 64) (v := .d (.fl (.bool (x.paused == x.paused)))) rfl (oy rfl rfl rfl (eq_self_b _) (op_bin rfl rfl rfl (b_eql _ _ _ _) rfl)) ?_
  refine rg_put (d := 65) (v := .d (.fl (.bool (x.paused == x.paused)))) rfl (og rfl (op_pick rfl rfl (by rw [(eq_self_b _)]; rfl) rfl)) ?_
  refine rg_put (d := 66) (v := .d (.fl (.bool (x.paused == x.paused)))) rfl (og rfl (op_move rfl rfl rfl)) ?_
  refine rg_put (d := 67) (v := .pt 101 9) rfl (oy rfl rfl rfl (eq_self_b _) (of_eff (s_field_pt rfl Tryd.underlying29 rfl ti27 rfl rfl rfl) rfl)) ?_
  refine rg_put (d := 68) (v := .pt 101 9) rfl (oy rfl rfl rfl (eq_self_b _) (of_eff (s_field_pt rfl Tryd.underlying27 rfl ti3 rfl rfl rfl) rfl)) ?_
  refine rg_put (d := 69) (v := .d (.fl (.int .i64 x.ap.state))) rfl (oy rfl rfl rfl (eq_self_b _) (op_load_pt rfl Tryd.underlying3 rfl rfl rfl rfl rfl)) ?_
  refine rg_put (d := 70) (v := .pt 102 9) rfl (oy rfl rfl rfl (eq_self_b _) (of_eff (s_field_pt rfl Tryd.underlying29 rfl ti27 rfl rfl rfl) rfl)) ?_
  refine rg_put (d := 71) (v := .pt 102 9) rfl (oy rfl rfl rfl (eq_self_b _) (of_eff (s_field_pt rfl Tryd.underlying27 rfl ti3 rfl rfl rfl) rfl)) ?_
  refine rg_put (d := 72) (v := .d (.fl (.int .i64 x.ap.state))) rfl (oy rfl rfl rfl (eq_self_b _) (op_load_pt rfl Tryd.underlying3 rfl rfl rfl rfl rfl)) ?_
  refine rg_put (d := 73) (v := .d (.fl (.bool (x.ap.state == x.ap.state)))) rfl (oy rfl rfl rfl (eq_self_b _) (op_bin rfl rfl rfl (b_eql _ _ _ _) rfl)) ?_
  refine rg_put (d := 74) (v := .d (.fl (.bool (x.ap.state == x.ap.state)))) rfl (og rfl (op_pick rfl rfl (by rw [(eq_self_b _)]; rfl) rfl)) ?_
  refine rg_put (d := 75) (v := .d (.fl (.bool (x.ap.state == x.ap.state)))) rfl (og rfl (op_move rfl rfl rfl)) ?_
  refine rg_put (d := 76) (v := .pt 101 9) rfl (oy rfl rfl rfl (eq_self_b _) (of_eff (s_field_pt rfl Tryd.underlying29 rfl ti27 rfl rfl rfl) rfl)) ?_
  refine rg_put (d := 77) (v := .pt 101 10) rfl (oy rfl rfl rfl (eq_self_b _) (of_eff (s_field_pt rfl Tryd.underlying27 rfl ti3 rfl rfl rfl) rfl)) ?_
  refine rg_put (d := 78) (v := .d (.fl (.int .i64 x.ap.ground))) rfl (oy rfl rfl rfl (eq_self_b _) (op_load_pt rfl Tryd.underlying3 rfl rfl rfl rfl rfl)) ?_
  refine rg_put (d := 79) (v := .pt 102 9) rfl (oy rfl rfl rfl (eq_self_b _) (of_eff (s_field_pt rfl Tryd.underlying29 rfl ti27 rfl rfl rfl) rfl)) ?_
  refine rg_put (d := 80) (v := .pt 102 10) rfl (oy rfl rfl rfl (eq_self_b _) (of_eff (s_field_pt rfl Tryd.underlying27 rfl ti3 rfl rfl rfl) rfl)) ?_
  refine rg_put (d := 81) (v := .d (.fl (.int .i64 x.ap.ground))) rfl (oy rfl rfl rfl (eq_self_b _) (op_load_pt rfl Tryd.underlying3 rfl rfl rfl rfl rfl)) ?_
  refine rg_put (d := 82) (v := .d (.fl (.bool (x.ap.ground == x.ap.ground)))) rfl (oy rfl rfl rfl (eq_self_b _) (op_bin rfl rfl rfl (b_eql _ _ _ _) rfl)) ?_
  refine rg_put (d := 83) (v := .d (.fl (.bool (x.ap.ground == x.ap.ground)))) rfl (og rfl (op_pick rfl rfl (by rw [(eq_self_b _)]; rfl) rfl)) ?_
  refine rg_put (d := 84) (v := .d (.fl (.bool (x.ap.ground == x.ap.ground)))) rfl (og rfl (op_move rfl rfl rfl)) ?_
  refine rg_put (d := 85) (v := .pt 101 9) rfl (oy rfl rfl rfl (eq_self_b _) (of_eff (s_field_pt rfl Tryd.underlying29 rfl ti27 rfl rfl rfl) rfl)) ?_
  refine rg_put (d := 86) (v := .pt 101 11) rfl (oy rfl rfl rfl (eq_self_b _) (of_eff (s_field_pt rfl Tryd.underlying27 rfl ti3 rfl rfl rfl) rfl)) ?_
  refine rg_put (d := 87) (v := .d (.fl (.int .i64 x.ap.day))) rfl (oy rfl rfl rfl (eq_self_b _) (op_load_pt rfl Tryd.underlying3 rfl rfl rfl rfl rfl)) ?_
  refine rg_put (d := 88) (v := .pt 102 9) rfl (oy rfl rfl rfl (eq_self_b _) (of_eff (s_field_pt rfl Tryd.underlying29 rfl ti27 rfl rfl rfl) rfl)) ?_
  refine rg_put (d := 89) (v := .pt 102 11) rfl (oy rfl rfl rfl (eq_self_b _) (of_eff (s_field_pt rfl Tryd.underlying27 rfl ti3 rfl rfl rfl) rfl)) ?_
  refine rg_put (d := 90) (v := .d (.fl (.int .i64 x.ap.day))) rfl (oy rfl rfl rfl (eq_self_b _) (op_load_pt rfl Tryd.underlying3 rfl rfl rfl rfl rfl)) ?_
  refine rg_put (d := 91) (v := .d (.fl (.bool (x.ap.day == x.ap.day)))) rfl (oy rfl rfl rfl (eq_self_b _) (op_bin rfl rfl rfl (b_eql _ _ _ _) rfl)) ?_
  refine rg_put (d := 92) (v := .d (.fl (.bool (x.ap.day == x.ap.day)))) rfl (og rfl (op_pick rfl rfl (by rw [(eq_self_b _)]; rfl) rfl)) ?_
  refine rg_put (d := 4) (v := .d (.fl (.bool (x.ap.day == x.ap.day)))) rfl (og rfl (op_assign rfl rfl rfl)) ?_
  refine rg_done rfl ?_
  refine a_ret ?_
  show ∃ ds, ResL _ _ _ ds ∧ RV.of ds = _
  refine ⟨[.fl (.bool (x.ap.day == x.ap.day))], (.cons (.tmp rfl (.d _)) .nil), ?_⟩
  exact congrArg (fun b => RV.d (.fl (.bool b))) (eq_self_b _)
theorem same_eq {a b : Cs} (h : a = b) : Ctr Tryd.prog 16 [.ag (eCs a), .ag (eCs b)] (.d (.fl (.bool true))) := by subst h; exact same_self a
end Go.Proofs.YtadaenpkmkjkjaaDoor.Wk
