/- Spans, touches, kinds, both sides. Condition: lists of at most a hundred. -/
import Derived.Test.YtipkielpicfobaaB1
set_option linter.unusedSimpArgs false
set_option linter.unusedVariables false
namespace Go.Proofs.Ytipkielpicfobaa.Wk
open Go Go.RowKit Go.Proofs.Ytipkielpicfobaa.Av
set_option maxHeartbeats 4000000 in
set_option maxRecDepth 100000 in
theorem spC (l : List Sen) (hl : l.length ≤ 100) : Ctr Try.prog 16 [.sl 11 (List.map eSen l)] (.d (.ag (eItv (sp l)))) := by
  refine ctr (n := 49) (rs := #[.cell 2 35]) (L := [(0, .d (.sl 11 (List.map eSen l)))]) Try.func16 rfl rfl rfl rfl rfl (fun w0 U0 => ?_)
  refine a_rseq ?_
  refine rg_nam (d := 2) (v := .pt 101 0) (m := 101) (nw := [(101, .bx 35 [.fl (.int .i64 0), .fl (.int .i64 0)])]) rfl (og rfl (of_eff (s_alloc 101 rfl ti35 (by kernel_rfl) rfl) rfl)) rfl ?_
  refine rg_done rfl ?_
  refine a_seq ?_
  refine a_rseq ?_
  refine rg_put (d := 6) (v := .d (.sl 11 (List.map eSen l))) rfl (og rfl (op_move rfl rfl rfl)) ?_
  refine rg_put (d := 7) (v := .d (.fl (.int .i64 (l.length : Int)))) rfl (og rfl (s_len rfl Try.underlying22 rfl rfl)) ?_
  refine rg_put (d := 8) (v := .d (.fl (.bool (((l.length : Int) == 0))))) rfl (og rfl (op_bin rfl rfl rfl (b_eql _ _ _ _) rfl)) ?_
  refine rg_done rfl ?_
  refine a_cond rfl (fun h1 => ?_) (fun h1 => ?_)
  · skip
    have h2 := t_beq h1
    refine a_rseq ?_
    refine rg_put (d := 9) (v := .d (.ag (eItv (Itv.mk 0 0)))) rfl (og rfl (of_eff (op_build rfl Try.underlying35 ti35 rfl (by kernel_rfl) (by kernel_rfl) (pl := #[(0, 1), (1, 1)]) (by kernel_rfl) .nil rfl) rfl)) ?_
    refine rg_sto (nw := [(101, .bx 35 ((eItv (Itv.mk 0 0))))]) rfl (og rfl (of_eff (s_store rfl rfl ti35 rfl rfl rfl rfl rfl rfl) rfl)) ?_
    refine rg_done rfl ?_
    refine a_ret ?_
    show ∃ ds, ResL _ _ _ ds ∧ RV.of ds = _
    refine ⟨[.ag [.fl (.int .i64 ((Itv.mk 0 0).fr)), .fl (.int .i64 ((Itv.mk 0 0).to))]], (.cons (.cellT rfl rfl Try.underlying35 rfl ti35 rfl (Cv.ag (xs := [.fl (.int .i64 ((Itv.mk 0 0).fr)), .fl (.int .i64 ((Itv.mk 0 0).to))]) (ys := [.fl (.int .i64 ((Itv.mk 0 0).fr)), .fl (.int .i64 ((Itv.mk 0 0).to))]) ⟨Cv.refl _, Cv.refl _, trivial⟩)) .nil), ?_⟩
    rw [sp_0 (by omega)]; rfl
  · skip
    have h3 := f_beq h1
    refine a_skip ?_
    show A _ _ _ _ _ _ _
    refine a_dseq (by kernel_rfl) ?_
    refine dr_put (d := 10) (v := .d (.sl 11 (List.map eSen l))) rfl (og rfl (op_move rfl rfl rfl)) ?_
    refine dr_put (d := 11) (v := .el ((eSen (ix l 0)))) rfl (og rfl (s_index rfl Try.underlying22 ti31 rfl rfl (by omega) (row_at (by omega)) rfl)) ?_
    refine dr_put (d := 12) (v := .el ((List.drop 7 ((eSen (ix l 0)))))) rfl (og rfl (of_eff (s_field_el rfl Try.underlying31 rfl ti3 rfl rfl rfl) rfl)) ?_
    refine dr_put (d := 13) (v := .d (.fl (.int .i64 ((ix l 0).time)))) rfl (og rfl (op_load_el rfl Try.underlying3 rfl rfl rfl rfl)) ?_
    refine dr_put (d := 14) (v := .d (.sl 11 (List.map eSen l))) rfl (og rfl (op_move rfl rfl rfl)) ?_
    refine dr_put (d := 15) (v := .el ((eSen (ix l 0)))) rfl (og rfl (s_index rfl Try.underlying22 ti31 rfl rfl (by omega) (row_at (by omega)) rfl)) ?_
    refine dr_put (d := 16) (v := .el ((List.drop 7 ((eSen (ix l 0)))))) rfl (og rfl (of_eff (s_field_el rfl Try.underlying31 rfl ti3 rfl rfl rfl) rfl)) ?_
    refine dr_put (d := 17) (v := .d (.fl (.int .i64 ((ix l 0).time)))) rfl (og rfl (op_load_el rfl Try.underlying3 rfl rfl rfl rfl)) ?_
    refine dr_put (d := 18) (v := .d (.ag (eItv ((Itv.mk ((ix l 0).time) ((ix l 0).time)))))) rfl (og rfl (of_eff (op_build rfl Try.underlying35 ti35 rfl (by kernel_rfl) (by kernel_rfl) (pl := #[(0, 1), (1, 1)]) (by kernel_rfl) (.cons rfl rfl (.d _) rfl rfl rfl (.cons rfl rfl (.d _) rfl rfl rfl .nil)) rfl) rfl)) ?_
    refine dr_nam (d := 3) (v := .pt 102 0) (m := 102) (nw := [(102, .bx 35 [.fl (.int .i64 0), .fl (.int .i64 0)])]) rfl (og rfl (of_eff (s_alloc 102 rfl ti35 (by kernel_rfl) rfl) rfl)) ?_
    refine dr_sto (nw := [(102, .bx 35 ((eItv ((Itv.mk ((ix l 0).time) ((ix l 0).time))))))]) rfl (og rfl (of_eff (s_store rfl rfl ti35 rfl rfl rfl rfl rfl rfl) rfl)) ?_
    refine dr_done rfl (by kernel_rfl) (by kernel_rfl) ?_
    refine a_seq ?_
    refine a_rseq ?_
    refine rg_put (d := 19) (v := .d (.sl 11 (List.map eSen l))) rfl (og rfl (op_move rfl rfl rfl)) ?_
    refine rg_put (d := 20) (v := .d (.fl (.int .i64 (l.length : Int)))) rfl (og rfl (s_len rfl Try.underlying22 rfl rfl)) ?_
    refine rg_put (d := 21) (v := .d (.fl (.int .i64 0))) rfl (og rfl (op_move rfl rfl rfl)) ?_
    refine rg_done rfl ?_
    refine a_block ?_
    refine a_loop (ι := Nat) (fun k => SS [(0, .d (.sl 11 (List.map eSen l))), (2, .pt 101 0), (3, .pt 102 0), (8, .d (.fl (.bool (((l.length : Int) == 0))))), (19, .d (.sl 11 (List.map eSen l))), (20, .d (.fl (.int .i64 (l.length : Int)))), (21, .d (.fl (.int .i64 (k : Int))))] [(101, .bx 35 [.fl (.int .i64 0), .fl (.int .i64 0)]), (102, .bx 35 [.fl (.int .i64 (mn l k)), .fl (.int .i64 (hx l k))])]) (fun k => k ≤ l.length ∧ ∀ q, q < k → tB (ix l q) = false) (fun k => l.length - k) 0 (⟨by omega, fun q h => by omega⟩) (imp_forget rfl ⟨rfl, rfl, rfl, rfl, rfl, rfl, (by first | rfl | exact ci (by omega) | exact ci (by simp) | exact cd (by simp) | simp), trivial⟩ ⟨rfl, rfl, trivial⟩) (fun k hok => ?_)
    obtain ⟨hk, hq⟩ := hok
    refine a_rseq ?_
    refine rg_put (d := 22) (v := .d (.fl (.bool ((decide ((k : Int) < (l.length : Int))))))) rfl (og rfl (op_bin rfl rfl rfl (b_lss _ _ _ _) rfl)) ?_
    refine rg_done rfl ?_
    refine a_seq ?_
    refine a_cond rfl (fun h4 => ?_) (fun h4 => ?_)
    · skip
      have h5 := t_dec h4
      refine a_skip ?_
      show A _ _ _ _ _ _ _
      refine a_seq ?_
      refine a_block ?_
      refine a_rseq ?_
      refine rg_put (d := 23) (v := .el ((eSen (ix l k)))) rfl (og rfl (s_index rfl Try.underlying22 ti31 rfl rfl (by omega) (row_at (by omega)) rfl)) ?_
      refine rg_put (d := 24) (v := .d (.ag (eSen (ix l k)))) rfl (og rfl (of_eff (s_load_els rfl Try.underlying31 rfl ti31 rfl rfl rfl) rfl)) ?_
      refine rg_nam (d := 5) (v := .pt 103 0) (m := 103) (nw := [(103, .bx 31 ([.fl (.string (⟨#[]⟩)), .fl (.int .i64 0), .fl (.int .i64 0), .fl (.string (⟨#[]⟩)), .fl (.string (⟨#[]⟩)), .fl (.int .i64 0), .fl (.int .i64 0), .fl (.int .i64 0), .fl (.string (⟨#[]⟩)), .fl (.int .i64 0), .fl (.int .i64 0)]))]) rfl (og rfl (of_eff (s_alloc 103 rfl ti31 (by kernel_rfl) rfl) rfl)) rfl ?_
      refine rg_sto (nw := [(103, .bx 31 ((eSen (ix l k))))]) rfl (og rfl (of_eff (s_store rfl rfl ti31 rfl rfl rfl rfl rfl rfl) rfl)) ?_
      refine rg_done rfl ?_
      refine a_seq ?_
      refine a_rseq ?_
      refine rg_put (d := 25) (v := .pt 103 7) rfl (og rfl (of_eff (s_field_pt rfl Try.underlying31 rfl ti3 rfl rfl rfl) rfl)) ?_
      refine rg_put (d := 26) (v := .d (.fl (.int .i64 ((ix l k).time)))) rfl (og rfl (op_load_pt rfl Try.underlying3 rfl rfl rfl rfl rfl)) ?_
      refine rg_put (d := 27) (v := .d (.fl (.bool ((decide ((ix l k).time < 0)))))) rfl (og rfl (op_bin rfl rfl rfl (b_lss _ _ _ _) rfl)) ?_
      refine rg_put (d := 28) (v := .d (.fl (.bool ((decide ((ix l k).time < 0)))))) rfl (og rfl (op_move rfl rfl rfl)) ?_
      rcases fot ((decide ((ix l k).time < 0))) with h6 | h6
      · skip
        have h7 := f_dec h6
        refine rg_put (d := 29) (v := .pt 103 7) rfl (oy rfl rfl rfl h6 (of_eff (s_field_pt rfl Try.underlying31 rfl ti3 rfl rfl rfl) rfl)) ?_
        refine rg_put (d := 30) (v := .d (.fl (.int .i64 ((ix l k).time)))) rfl (oy rfl rfl rfl h6 (op_load_pt rfl Try.underlying3 rfl rfl rfl rfl rfl)) ?_
        refine rg_put (d := 31) (v := .d (.fl (.bool ((decide (68719476736 ≤ (ix l k).time)))))) rfl (oy rfl rfl rfl h6 (op_bin rfl rfl rfl (b_geq _ _ _ _) rfl)) ?_
        refine rg_put (d := 32) (v := .d (.fl (.bool ((decide (68719476736 ≤ (ix l k).time)))))) rfl (og rfl (op_pick rfl rfl (by rw [h6]; rfl) rfl)) ?_
        refine rg_done rfl ?_
        refine a_cond rfl (fun h8 => ?_) (fun h8 => ?_)
        · skip
          have h9 := t_dec h8
          refine a_rseq ?_
          refine rg_put (d := 33) (v := .d (.ag (eItv (Itv.mk 0 0)))) rfl (og rfl (of_eff (op_build rfl Try.underlying35 ti35 rfl (by kernel_rfl) (by kernel_rfl) (pl := #[(0, 1), (1, 1)]) (by kernel_rfl) .nil rfl) rfl)) ?_
          refine rg_sto (nw := [(101, .bx 35 ((eItv (Itv.mk 0 0))))]) rfl (og rfl (of_eff (s_store rfl rfl ti35 rfl rfl rfl rfl rfl rfl) rfl)) ?_
          refine rg_done rfl ?_
          refine a_ret ?_
          show ∃ ds, ResL _ _ _ ds ∧ RV.of ds = _
          refine ⟨[.ag [.fl (.int .i64 ((Itv.mk 0 0).fr)), .fl (.int .i64 ((Itv.mk 0 0).to))]], (.cons (.cellT rfl rfl Try.underlying35 rfl ti35 rfl (Cv.ag (xs := [.fl (.int .i64 ((Itv.mk 0 0).fr)), .fl (.int .i64 ((Itv.mk 0 0).to))]) (ys := [.fl (.int .i64 ((Itv.mk 0 0).fr)), .fl (.int .i64 ((Itv.mk 0 0).to))]) ⟨Cv.refl _, Cv.refl _, trivial⟩)) .nil), ?_⟩
          have htb : tB (ix l k) = true := by unfold tB; simp only [h1, h4, h6, h8, Bool.true_or, Bool.false_or, Bool.or_true, Bool.or_false, Bool.not_true, Bool.not_false, cond_true, cond_false, Bool.true_and, Bool.false_and, Bool.and_true, Bool.and_false] <;> rfl
          rw [sp_hit (by omega) htb]; rfl
        · skip
          have h10 := f_dec h8
          refine a_skip ?_
          show A _ _ _ _ _ _ _
          refine a_draw (by kernel_rfl) ?_
          refine dr_put (d := 34) (v := .pt 102 0) rfl (og rfl (of_eff (s_field_pt rfl Try.underlying35 rfl ti3 rfl rfl rfl) rfl)) ?_
          refine dr_put (d := 35) (v := .d (.fl (.int .i64 (mn l k)))) rfl (og rfl (op_load_pt rfl Try.underlying3 rfl rfl rfl rfl rfl)) ?_
          refine dr_put (d := 36) (v := .pt 103 7) rfl (og rfl (of_eff (s_field_pt rfl Try.underlying31 rfl ti3 rfl rfl rfl) rfl)) ?_
          refine dr_put (d := 37) (v := .d (.fl (.int .i64 ((ix l k).time)))) rfl (og rfl (op_load_pt rfl Try.underlying3 rfl rfl rfl rfl rfl)) ?_
          refine dr_put (d := 38) (v := .d (.fl (.int .i64 ((min (mn l k) ((ix l k).time)))))) rfl (og rfl (op_min rfl rfl rfl rfl)) ?_
          refine dr_put (d := 39) (v := .pt 102 1) rfl (og rfl (of_eff (s_field_pt rfl Try.underlying35 rfl ti3 rfl rfl rfl) rfl)) ?_
          refine dr_put (d := 40) (v := .d (.fl (.int .i64 (hx l k)))) rfl (og rfl (op_load_pt rfl Try.underlying3 rfl rfl rfl rfl rfl)) ?_
          refine dr_put (d := 41) (v := .pt 103 7) rfl (og rfl (of_eff (s_field_pt rfl Try.underlying31 rfl ti3 rfl rfl rfl) rfl)) ?_
          refine dr_put (d := 42) (v := .d (.fl (.int .i64 ((ix l k).time)))) rfl (og rfl (op_load_pt rfl Try.underlying3 rfl rfl rfl rfl rfl)) ?_
          refine dr_put (d := 43) (v := .d (.fl (.int .i64 (((ix l k).time + 1))))) rfl (og rfl (op_bin rfl rfl rfl (fun x y w => b_add64 _ _ _ x y w (by omega)) rfl)) ?_
          refine dr_put (d := 44) (v := .d (.fl (.int .i64 ((max (hx l k) (((ix l k).time + 1))))))) rfl (og rfl (op_max rfl rfl rfl rfl)) ?_
          refine dr_put (d := 45) (v := .pt 102 0) rfl (og rfl (of_eff (s_field_pt rfl Try.underlying35 rfl ti3 rfl rfl rfl) rfl)) ?_
          refine dr_sto (nw := [(102, .bx 35 [.fl (.int .i64 ((min (mn l k) ((ix l k).time)))), .fl (.int .i64 (hx l k))])]) rfl (og rfl (of_eff (s_store rfl rfl ti3 rfl rfl rfl rfl rfl rfl) rfl)) ?_
          refine dr_put (d := 46) (v := .pt 102 1) rfl (og rfl (of_eff (s_field_pt rfl Try.underlying35 rfl ti3 rfl rfl rfl) rfl)) ?_
          refine dr_sto (nw := [(102, .bx 35 [.fl (.int .i64 ((min (mn l k) ((ix l k).time)))), .fl (.int .i64 ((max (hx l k) (((ix l k).time + 1)))))])]) rfl (og rfl (of_eff (s_store rfl rfl ti3 rfl rfl rfl rfl rfl rfl) rfl)) ?_
          refine dr_done rfl (sepB_of [0, 1, 0, 4, 15, 0, 32, 0, 128, 384, 992, 127, 2175, 8191, 16383] (by kernel_rfl)) (by kernel_rfl) ?_
          show A _ _ _ _ _ _ _
          refine a_region ?_
          refine rg_put (d := 47) (v := .d (.fl (.int .i64 (((k : Int) + 1))))) rfl (og rfl (op_bin rfl rfl rfl (fun x y w => b_add64 _ _ _ x y w (by omega)) rfl)) ?_
          refine rg_put (d := 21) (v := .d (.fl (.int .i64 (((k : Int) + 1))))) rfl (og rfl (op_move rfl rfl rfl)) ?_
          refine rg_done rfl ?_
          have hx0 : tB (ix l k) = false := by unfold tB; simp only [h1, h4, h6, h8, Bool.true_or, Bool.false_or, Bool.or_true, Bool.or_false, Bool.not_true, Bool.not_false, cond_true, cond_false, Bool.true_and, Bool.false_and, Bool.and_true, Bool.and_false] <;> rfl
          show ∃ i, _ ∧ _ ∧ Imp _ _ _ _ _
          refine ⟨k + 1, ⟨by omega, fun q h => (Nat.lt_succ_iff_lt_or_eq.1 h).elim (hq q) (fun e => by rw [e]; exact hx0)⟩, by omega, imp_forget rfl ⟨rfl, rfl, rfl, rfl, rfl, rfl, (by first | rfl | exact ci (by omega) | exact ci (by simp) | exact cd (by simp) | simp), trivial⟩ ⟨rfl, rfl, trivial⟩⟩
      · skip
        have h11 := t_dec h6
        refine rg_put (d := 29) (v := .d (.fl undef)) rfl (on rfl rfl rfl h6) ?_
        refine rg_put (d := 30) (v := .d (.fl undef)) rfl (on rfl rfl rfl h6) ?_
        refine rg_put (d := 31) (v := .d (.fl undef)) rfl (on rfl rfl rfl h6) ?_
        refine rg_put (d := 32) (v := .d (.fl (.bool true))) rfl (og rfl (op_pick rfl rfl (by rw [h6]; rfl) rfl)) ?_
        refine rg_done rfl ?_
        refine a_condK rfl rfl ?_
        refine a_rseq ?_
        refine rg_put (d := 33) (v := .d (.ag (eItv (Itv.mk 0 0)))) rfl (og rfl (of_eff (op_build rfl Try.underlying35 ti35 rfl (by kernel_rfl) (by kernel_rfl) (pl := #[(0, 1), (1, 1)]) (by kernel_rfl) .nil rfl) rfl)) ?_
        refine rg_sto (nw := [(101, .bx 35 ((eItv (Itv.mk 0 0))))]) rfl (og rfl (of_eff (s_store rfl rfl ti35 rfl rfl rfl rfl rfl rfl) rfl)) ?_
        refine rg_done rfl ?_
        refine a_ret ?_
        show ∃ ds, ResL _ _ _ ds ∧ RV.of ds = _
        refine ⟨[.ag [.fl (.int .i64 ((Itv.mk 0 0).fr)), .fl (.int .i64 ((Itv.mk 0 0).to))]], (.cons (.cellT rfl rfl Try.underlying35 rfl ti35 rfl (Cv.ag (xs := [.fl (.int .i64 ((Itv.mk 0 0).fr)), .fl (.int .i64 ((Itv.mk 0 0).to))]) (ys := [.fl (.int .i64 ((Itv.mk 0 0).fr)), .fl (.int .i64 ((Itv.mk 0 0).to))]) ⟨Cv.refl _, Cv.refl _, trivial⟩)) .nil), ?_⟩
        have htb : tB (ix l k) = true := by unfold tB; simp only [h1, h4, h6, Bool.true_or, Bool.false_or, Bool.or_true, Bool.or_false, Bool.not_true, Bool.not_false, cond_true, cond_false, Bool.true_and, Bool.false_and, Bool.and_true, Bool.and_false] <;> rfl
        rw [sp_hit (by omega) htb]; rfl
    · skip
      have h12 := f_dec h4
      refine a_exit ?_
      show A _ _ _ _ _ _ _
      refine a_rseq ?_
      refine rg_put (d := 48) (v := .d (.ag (eItv ((Itv.mk (mn l k) (hx l k)))))) rfl (og rfl (of_eff (s_load_pts rfl Try.underlying35 rfl ti35 rfl rfl rfl rfl) rfl)) ?_
      refine rg_sto (nw := [(101, .bx 35 ((eItv ((Itv.mk (mn l k) (hx l k))))))]) rfl (og rfl (of_eff (s_store rfl rfl ti35 rfl rfl rfl rfl rfl rfl) rfl)) ?_
      refine rg_done rfl ?_
      refine a_ret ?_
      show ∃ ds, ResL _ _ _ ds ∧ RV.of ds = _
      refine ⟨[.ag [.fl (.int .i64 (((Itv.mk (mn l k) (hx l k))).fr)), .fl (.int .i64 (((Itv.mk (mn l k) (hx l k))).to))]], (.cons (.cellT rfl rfl Try.underlying35 rfl ti35 rfl (Cv.ag (xs := [.fl (.int .i64 (((Itv.mk (mn l k) (hx l k))).fr)), .fl (.int .i64 (((Itv.mk (mn l k) (hx l k))).to))]) (ys := [.fl (.int .i64 (((Itv.mk (mn l k) (hx l k))).fr)), .fl (.int .i64 (((Itv.mk (mn l k) (hx l k))).to))]) ⟨Cv.refl _, Cv.refl _, trivial⟩)) .nil), ?_⟩
      rw [sp_all (by omega) (by omega) hq]; rfl
set_option maxHeartbeats 4000000 in
set_option maxRecDepth 100000 in
theorem spR (l : List Sen) (hl : l.length ≤ 100) : Ctr Try.prog 17 [.sl 11 (List.map eSen l)] (.d (.ag (eItv (sp l)))) := by
  refine ctr (n := 49) (rs := #[.cell 2 35]) (L := [(0, .d (.sl 11 (List.map eSen l)))]) Try.func17 rfl rfl rfl rfl rfl (fun w0 U0 => ?_)
  refine a_rseq ?_
  refine rg_nam (d := 2) (v := .pt 101 0) (m := 101) (nw := [(101, .bx 35 [.fl (.int .i64 0), .fl (.int .i64 0)])]) rfl (og rfl (of_eff (s_alloc 101 rfl ti35 (by kernel_rfl) rfl) rfl)) rfl ?_
  refine rg_done rfl ?_
  refine a_seq ?_
  refine a_rseq ?_
  refine rg_put (d := 6) (v := .d (.sl 11 (List.map eSen l))) rfl (og rfl (op_move rfl rfl rfl)) ?_
  refine rg_put (d := 7) (v := .d (.fl (.int .i64 (l.length : Int)))) rfl (og rfl (s_len rfl Try.underlying22 rfl rfl)) ?_
  refine rg_put (d := 8) (v := .d (.fl (.bool (((l.length : Int) == 0))))) rfl (og rfl (op_bin rfl rfl rfl (b_eql _ _ _ _) rfl)) ?_
  refine rg_done rfl ?_
  refine a_cond rfl (fun h1 => ?_) (fun h1 => ?_)
  · skip
    have h2 := t_beq h1
    refine a_rseq ?_
    refine rg_put (d := 9) (v := .d (.ag (eItv (Itv.mk 0 0)))) rfl (og rfl (of_eff (op_build rfl Try.underlying35 ti35 rfl (by kernel_rfl) (by kernel_rfl) (pl := #[(0, 1), (1, 1)]) (by kernel_rfl) .nil rfl) rfl)) ?_
    refine rg_sto (nw := [(101, .bx 35 ((eItv (Itv.mk 0 0))))]) rfl (og rfl (of_eff (s_store rfl rfl ti35 rfl rfl rfl rfl rfl rfl) rfl)) ?_
    refine rg_done rfl ?_
    refine a_ret ?_
    show ∃ ds, ResL _ _ _ ds ∧ RV.of ds = _
    refine ⟨[.ag [.fl (.int .i64 ((Itv.mk 0 0).fr)), .fl (.int .i64 ((Itv.mk 0 0).to))]], (.cons (.cellT rfl rfl Try.underlying35 rfl ti35 rfl (Cv.ag (xs := [.fl (.int .i64 ((Itv.mk 0 0).fr)), .fl (.int .i64 ((Itv.mk 0 0).to))]) (ys := [.fl (.int .i64 ((Itv.mk 0 0).fr)), .fl (.int .i64 ((Itv.mk 0 0).to))]) ⟨Cv.refl _, Cv.refl _, trivial⟩)) .nil), ?_⟩
    rw [sp_0 (by omega)]; rfl
  · skip
    have h3 := f_beq h1
    refine a_skip ?_
    show A _ _ _ _ _ _ _
    refine a_dseq (by kernel_rfl) ?_
    refine dr_put (d := 10) (v := .d (.sl 11 (List.map eSen l))) rfl (og rfl (op_move rfl rfl rfl)) ?_
    refine dr_put (d := 11) (v := .el ((eSen (ix l 0)))) rfl (og rfl (s_index rfl Try.underlying22 ti31 rfl rfl (by omega) (row_at (by omega)) rfl)) ?_
    refine dr_put (d := 12) (v := .el ((List.drop 7 ((eSen (ix l 0)))))) rfl (og rfl (of_eff (s_field_el rfl Try.underlying31 rfl ti3 rfl rfl rfl) rfl)) ?_
    refine dr_put (d := 13) (v := .d (.fl (.int .i64 ((ix l 0).time)))) rfl (og rfl (op_load_el rfl Try.underlying3 rfl rfl rfl rfl)) ?_
    refine dr_put (d := 14) (v := .d (.sl 11 (List.map eSen l))) rfl (og rfl (op_move rfl rfl rfl)) ?_
    refine dr_put (d := 15) (v := .el ((eSen (ix l 0)))) rfl (og rfl (s_index rfl Try.underlying22 ti31 rfl rfl (by omega) (row_at (by omega)) rfl)) ?_
    refine dr_put (d := 16) (v := .el ((List.drop 7 ((eSen (ix l 0)))))) rfl (og rfl (of_eff (s_field_el rfl Try.underlying31 rfl ti3 rfl rfl rfl) rfl)) ?_
    refine dr_put (d := 17) (v := .d (.fl (.int .i64 ((ix l 0).time)))) rfl (og rfl (op_load_el rfl Try.underlying3 rfl rfl rfl rfl)) ?_
    refine dr_put (d := 3) (v := .d (.fl (.int .i64 ((ix l 0).time)))) rfl (og rfl (op_assign rfl rfl rfl)) ?_
    refine dr_put (d := 4) (v := .d (.fl (.int .i64 ((ix l 0).time)))) rfl (og rfl (op_assign rfl rfl rfl)) ?_
    refine dr_done rfl (by kernel_rfl) (by kernel_rfl) ?_
    refine a_seq ?_
    refine a_rseq ?_
    refine rg_put (d := 5) (v := .d (.fl (.int .i64 0))) rfl (og rfl (op_assign rfl rfl rfl)) ?_
    refine rg_done rfl ?_
    refine a_block ?_
    refine a_loop (ι := Nat) (fun k => SS [(0, .d (.sl 11 (List.map eSen l))), (2, .pt 101 0), (8, .d (.fl (.bool (((l.length : Int) == 0))))), (5, .d (.fl (.int .i64 (k : Int)))), (3, .d (.fl (.int .i64 (mn l k)))), (4, .d (.fl (.int .i64 (mx l k))))] [(101, .bx 35 [.fl (.int .i64 0), .fl (.int .i64 0)])]) (fun k => k ≤ l.length) (fun k => l.length - k) 0 (by omega) (imp_forget rfl ⟨rfl, rfl, rfl, rfl, rfl, rfl, trivial⟩ ⟨rfl, trivial⟩) (fun k hok => ?_)
    have hk := hok
    refine a_seq ?_
    refine a_rseq ?_
    refine rg_put (d := 18) (v := .d (.fl (.int .i64 (k : Int)))) rfl (og rfl (op_move rfl rfl rfl)) ?_
    refine rg_put (d := 19) (v := .d (.sl 11 (List.map eSen l))) rfl (og rfl (op_move rfl rfl rfl)) ?_
    refine rg_put (d := 20) (v := .d (.fl (.int .i64 (l.length : Int)))) rfl (og rfl (s_len rfl Try.underlying22 rfl rfl)) ?_
    refine rg_put (d := 21) (v := .d (.fl (.bool ((decide ((k : Int) < (l.length : Int))))))) rfl (og rfl (op_bin rfl rfl rfl (b_lss _ _ _ _) rfl)) ?_
    refine rg_done rfl ?_
    refine a_cond rfl (fun h4 => ?_) (fun h4 => ?_)
    · skip
      have h5 := t_dec h4
      refine a_skip ?_
      show A _ _ _ _ _ _ _
      refine a_seq ?_
      refine a_block ?_
      refine a_rseq ?_
      refine rg_put (d := 24) (v := .d (.fl (.int .i64 (mn l k)))) rfl (og rfl (op_move rfl rfl rfl)) ?_
      refine rg_put (d := 25) (v := .d (.sl 11 (List.map eSen l))) rfl (og rfl (op_move rfl rfl rfl)) ?_
      refine rg_put (d := 26) (v := .d (.fl (.int .i64 (k : Int)))) rfl (og rfl (op_move rfl rfl rfl)) ?_
      refine rg_put (d := 27) (v := .el ((eSen (ix l k)))) rfl (og rfl (s_index rfl Try.underlying22 ti31 rfl rfl (by omega) (row_at (by omega)) rfl)) ?_
      refine rg_put (d := 28) (v := .el ((List.drop 7 ((eSen (ix l k)))))) rfl (og rfl (of_eff (s_field_el rfl Try.underlying31 rfl ti3 rfl rfl rfl) rfl)) ?_
      refine rg_put (d := 29) (v := .d (.fl (.int .i64 ((ix l k).time)))) rfl (og rfl (op_load_el rfl Try.underlying3 rfl rfl rfl rfl)) ?_
      refine rg_put (d := 30) (v := .d (.fl (.int .i64 ((min (mn l k) ((ix l k).time)))))) rfl (og rfl (op_min rfl rfl rfl rfl)) ?_
      refine rg_put (d := 3) (v := .d (.fl (.int .i64 ((min (mn l k) ((ix l k).time)))))) rfl (og rfl (op_assign rfl rfl rfl)) ?_
      refine rg_done rfl ?_
      refine a_region ?_
      refine rg_put (d := 31) (v := .d (.fl (.int .i64 (mx l k)))) rfl (og rfl (op_move rfl rfl rfl)) ?_
      refine rg_put (d := 32) (v := .d (.sl 11 (List.map eSen l))) rfl (og rfl (op_move rfl rfl rfl)) ?_
      refine rg_put (d := 33) (v := .d (.fl (.int .i64 (k : Int)))) rfl (og rfl (op_move rfl rfl rfl)) ?_
      refine rg_put (d := 34) (v := .el ((eSen (ix l k)))) rfl (og rfl (s_index rfl Try.underlying22 ti31 rfl rfl (by omega) (row_at (by omega)) rfl)) ?_
      refine rg_put (d := 35) (v := .el ((List.drop 7 ((eSen (ix l k)))))) rfl (og rfl (of_eff (s_field_el rfl Try.underlying31 rfl ti3 rfl rfl rfl) rfl)) ?_
      refine rg_put (d := 36) (v := .d (.fl (.int .i64 ((ix l k).time)))) rfl (og rfl (op_load_el rfl Try.underlying3 rfl rfl rfl rfl)) ?_
      refine rg_put (d := 37) (v := .d (.fl (.int .i64 ((max (mx l k) ((ix l k).time)))))) rfl (og rfl (op_max rfl rfl rfl rfl)) ?_
      refine rg_put (d := 4) (v := .d (.fl (.int .i64 ((max (mx l k) ((ix l k).time)))))) rfl (og rfl (op_assign rfl rfl rfl)) ?_
      refine rg_done rfl ?_
      show A _ _ _ _ _ _ _
      refine a_region ?_
      refine rg_put (d := 22) (v := .d (.fl (.int .i64 (k : Int)))) rfl (og rfl (op_move rfl rfl rfl)) ?_
      refine rg_put (d := 23) (v := .d (.fl (.int .i64 (((k : Int) + 1))))) rfl (og rfl (op_bin rfl rfl rfl (fun x y w => b_add64 _ _ _ x y w (by omega)) rfl)) ?_
      refine rg_put (d := 5) (v := .d (.fl (.int .i64 (((k : Int) + 1))))) rfl (og rfl (op_assign rfl rfl rfl)) ?_
      refine rg_done rfl ?_
      show ∃ i, _ ∧ _ ∧ Imp _ _ _ _ _
      refine ⟨k + 1, (by omega), by omega, imp_forget rfl ⟨rfl, rfl, rfl, (ci (by omega)), rfl, rfl, trivial⟩ ⟨rfl, trivial⟩⟩
    · skip
      have h6 := f_dec h4
      refine a_exit ?_
      show A _ _ _ _ _ _ _
      refine a_seq ?_
      refine a_rseq ?_
      have hkl : k = l.length := by omega
      rw [show (mn l k) = (mn l l.length) from (by rw [hkl])]
      rw [show (mx l k) = (mx l l.length) from (by rw [hkl])]
      have hmm := mn_mx l l.length
      refine rg_put (d := 38) (v := .d (.fl (.int .i64 (mn l l.length)))) rfl (og rfl (op_move rfl rfl rfl)) ?_
      refine rg_put (d := 39) (v := .d (.fl (.bool ((decide ((mn l l.length) < 0)))))) rfl (og rfl (op_bin rfl rfl rfl (b_lss _ _ _ _) rfl)) ?_
      refine rg_put (d := 40) (v := .d (.fl (.bool ((decide ((mn l l.length) < 0)))))) rfl (og rfl (op_move rfl rfl rfl)) ?_
      rcases fot ((decide ((mn l l.length) < 0))) with h7 | h7
      · skip
        have h8 := f_dec h7
        refine rg_put (d := 41) (v := .d (.fl (.int .i64 (mx l l.length)))) rfl (oy rfl rfl rfl h7 (op_move rfl rfl rfl)) ?_
        refine rg_put (d := 42) (v := .d (.fl (.bool ((decide (68719476736 ≤ (mx l l.length))))))) rfl (oy rfl rfl rfl h7 (op_bin rfl rfl rfl (b_geq _ _ _ _) rfl)) ?_
        refine rg_put (d := 43) (v := .d (.fl (.bool ((decide (68719476736 ≤ (mx l l.length))))))) rfl (og rfl (op_pick rfl rfl (by rw [h7]; rfl) rfl)) ?_
        refine rg_done rfl ?_
        refine a_cond rfl (fun h9 => ?_) (fun h9 => ?_)
        · skip
          have h10 := t_dec h9
          refine a_rseq ?_
          refine rg_put (d := 44) (v := .d (.ag (eItv (Itv.mk 0 0)))) rfl (og rfl (of_eff (op_build rfl Try.underlying35 ti35 rfl (by kernel_rfl) (by kernel_rfl) (pl := #[(0, 1), (1, 1)]) (by kernel_rfl) .nil rfl) rfl)) ?_
          refine rg_sto (nw := [(101, .bx 35 ((eItv (Itv.mk 0 0))))]) rfl (og rfl (of_eff (s_store rfl rfl ti35 rfl rfl rfl rfl rfl rfl) rfl)) ?_
          refine rg_done rfl ?_
          refine a_ret ?_
          show ∃ ds, ResL _ _ _ ds ∧ RV.of ds = _
          refine ⟨[.ag [.fl (.int .i64 ((Itv.mk 0 0).fr)), .fl (.int .i64 ((Itv.mk 0 0).to))]], (.cons (.cellT rfl rfl Try.underlying35 rfl ti35 rfl (Cv.ag (xs := [.fl (.int .i64 ((Itv.mk 0 0).fr)), .fl (.int .i64 ((Itv.mk 0 0).to))]) (ys := [.fl (.int .i64 ((Itv.mk 0 0).fr)), .fl (.int .i64 ((Itv.mk 0 0).to))]) ⟨Cv.refl _, Cv.refl _, trivial⟩)) .nil), ?_⟩
          first
            | (rw [sp_bad (by omega)]; rfl)
            | (rw [sp_ok (by omega) (by omega) (by omega)]; rfl)
        · skip
          have h11 := f_dec h9
          refine a_skip ?_
          show A _ _ _ _ _ _ _
          refine a_rseq ?_
          refine rg_put (d := 45) (v := .d (.fl (.int .i64 (mn l l.length)))) rfl (og rfl (op_move rfl rfl rfl)) ?_
          refine rg_put (d := 46) (v := .d (.fl (.int .i64 (mx l l.length)))) rfl (og rfl (op_move rfl rfl rfl)) ?_
          refine rg_put (d := 47) (v := .d (.fl (.int .i64 (((mx l l.length) + 1))))) rfl (og rfl (op_bin rfl rfl rfl (fun x y w => b_add64 _ _ _ x y w (by omega)) rfl)) ?_
          refine rg_put (d := 48) (v := .d (.ag (eItv ((Itv.mk (mn l l.length) (((mx l l.length) + 1))))))) rfl (og rfl (of_eff (op_build rfl Try.underlying35 ti35 rfl (by kernel_rfl) (by kernel_rfl) (pl := #[(0, 1), (1, 1)]) (by kernel_rfl) (.cons rfl rfl (.d _) rfl rfl rfl (.cons rfl rfl (.d _) rfl rfl rfl .nil)) rfl) rfl)) ?_
          refine rg_sto (nw := [(101, .bx 35 ((eItv ((Itv.mk (mn l l.length) (((mx l l.length) + 1)))))))]) rfl (og rfl (of_eff (s_store rfl rfl ti35 rfl rfl rfl rfl rfl rfl) rfl)) ?_
          refine rg_done rfl ?_
          refine a_ret ?_
          show ∃ ds, ResL _ _ _ ds ∧ RV.of ds = _
          refine ⟨[.ag [.fl (.int .i64 (((Itv.mk (mn l l.length) (((mx l l.length) + 1)))).fr)), .fl (.int .i64 (((Itv.mk (mn l l.length) (((mx l l.length) + 1)))).to))]], (.cons (.cellT rfl rfl Try.underlying35 rfl ti35 rfl (Cv.ag (xs := [.fl (.int .i64 (((Itv.mk (mn l l.length) (((mx l l.length) + 1)))).fr)), .fl (.int .i64 (((Itv.mk (mn l l.length) (((mx l l.length) + 1)))).to))]) (ys := [.fl (.int .i64 (((Itv.mk (mn l l.length) (((mx l l.length) + 1)))).fr)), .fl (.int .i64 (((Itv.mk (mn l l.length) (((mx l l.length) + 1)))).to))]) ⟨Cv.refl _, Cv.refl _, trivial⟩)) .nil), ?_⟩
          first
            | (rw [sp_bad (by omega)]; rfl)
            | (rw [sp_ok (by omega) (by omega) (by omega)]; rfl)
      · skip
        have h12 := t_dec h7
        refine rg_put (d := 41) (v := .d (.fl undef)) rfl (on rfl rfl rfl h7) ?_
        refine rg_put (d := 42) (v := .d (.fl undef)) rfl (on rfl rfl rfl h7) ?_
        refine rg_put (d := 43) (v := .d (.fl (.bool true))) rfl (og rfl (op_pick rfl rfl (by rw [h7]; rfl) rfl)) ?_
        refine rg_done rfl ?_
        refine a_condK rfl rfl ?_
        refine a_rseq ?_
        refine rg_put (d := 44) (v := .d (.ag (eItv (Itv.mk 0 0)))) rfl (og rfl (of_eff (op_build rfl Try.underlying35 ti35 rfl (by kernel_rfl) (by kernel_rfl) (pl := #[(0, 1), (1, 1)]) (by kernel_rfl) .nil rfl) rfl)) ?_
        refine rg_sto (nw := [(101, .bx 35 ((eItv (Itv.mk 0 0))))]) rfl (og rfl (of_eff (s_store rfl rfl ti35 rfl rfl rfl rfl rfl rfl) rfl)) ?_
        refine rg_done rfl ?_
        refine a_ret ?_
        show ∃ ds, ResL _ _ _ ds ∧ RV.of ds = _
        refine ⟨[.ag [.fl (.int .i64 ((Itv.mk 0 0).fr)), .fl (.int .i64 ((Itv.mk 0 0).to))]], (.cons (.cellT rfl rfl Try.underlying35 rfl ti35 rfl (Cv.ag (xs := [.fl (.int .i64 ((Itv.mk 0 0).fr)), .fl (.int .i64 ((Itv.mk 0 0).to))]) (ys := [.fl (.int .i64 ((Itv.mk 0 0).fr)), .fl (.int .i64 ((Itv.mk 0 0).to))]) ⟨Cv.refl _, Cv.refl _, trivial⟩)) .nil), ?_⟩
        first
          | (rw [sp_bad (by omega)]; rfl)
          | (rw [sp_ok (by omega) (by omega) (by omega)]; rfl)
set_option maxHeartbeats 4000000 in
set_option maxRecDepth 100000 in
theorem nrC (a b gap : Int) : Ctr Try.prog 61 [.fl (.int .i64 a), .fl (.int .i64 b), .fl (.int .i64 gap)] (.d (.fl (.bool (nrB a b gap)))) := by
  refine ctr (n := 20) (rs := #[.tmp 6]) (L := [(0, .d (.fl (.int .i64 a))), (1, .d (.fl (.int .i64 b))), (2, .d (.fl (.int .i64 gap)))]) Try.func61 rfl rfl rfl rfl rfl (fun w0 U0 => ?_)
  refine a_rseq ?_
  refine rg_put (d := 6) (v := .d (.fl (.bool false))) rfl (og rfl (op_assign rfl rfl rfl)) ?_
  refine rg_done rfl ?_
  refine a_rseq ?_
  refine rg_put (d := 7) (v := .d (.fl (.int .i64 a))) rfl (og rfl (op_move rfl rfl rfl)) ?_
  refine rg_put (d := 8) (v := .d (.fl (.int .i64 b))) rfl (og rfl (op_move rfl rfl rfl)) ?_
  refine rg_put (d := 9) (v := .d (.fl (.int .i64 (max a b)))) rfl (og rfl (op_max rfl rfl rfl rfl)) ?_
  refine rg_put (d := 10) (v := .d (.fl (.int .u64 ((IntKind.u64.wrap (max a b)))))) rfl (og rfl (op_convK rfl Try.underlying3 Try.underlying91 rfl rfl)) ?_
  refine rg_put (d := 11) (v := .d (.fl (.int .i64 a))) rfl (og rfl (op_move rfl rfl rfl)) ?_
  refine rg_put (d := 12) (v := .d (.fl (.int .i64 b))) rfl (og rfl (op_move rfl rfl rfl)) ?_
  refine rg_put (d := 13) (v := .d (.fl (.int .i64 (min a b)))) rfl (og rfl (op_min rfl rfl rfl rfl)) ?_
  refine rg_put (d := 14) (v := .d (.fl (.int .u64 ((IntKind.u64.wrap (min a b)))))) rfl (og rfl (op_convK rfl Try.underlying3 Try.underlying91 rfl rfl)) ?_
  refine rg_put (d := 15) (v := .d (.fl (.int .u64 ((IntKind.u64.wrap (((IntKind.u64.wrap (max a b))) - ((IntKind.u64.wrap (min a b))))))))) rfl (og rfl (op_bin rfl rfl rfl (b_sub _ _ _ _) rfl)) ?_
  refine rg_put (d := 16) (v := .d (.fl (.int .i64 gap))) rfl (og rfl (op_move rfl rfl rfl)) ?_
  refine rg_put (d := 17) (v := .d (.fl (.int .i64 (max gap 0)))) rfl (og rfl (op_max rfl rfl rfl rfl)) ?_
  refine rg_put (d := 18) (v := .d (.fl (.int .u64 ((IntKind.u64.wrap (max gap 0)))))) rfl (og rfl (op_convK rfl Try.underlying3 Try.underlying91 rfl rfl)) ?_
  refine rg_put (d := 19) (v := .d (.fl (.bool ((decide ((IntKind.u64.wrap (((IntKind.u64.wrap (max a b))) - ((IntKind.u64.wrap (min a b))))) ≤ (IntKind.u64.wrap (max gap 0)))))))) rfl (og rfl (op_bin rfl rfl rfl (b_leq _ _ _ _) rfl)) ?_
  refine rg_put (d := 6) (v := .d (.fl (.bool ((decide ((IntKind.u64.wrap (((IntKind.u64.wrap (max a b))) - ((IntKind.u64.wrap (min a b))))) ≤ (IntKind.u64.wrap (max gap 0)))))))) rfl (og rfl (op_assign rfl rfl rfl)) ?_
  refine rg_done rfl ?_
  refine a_ret ?_
  show ∃ ds, ResL _ _ _ ds ∧ RV.of ds = _
  refine ⟨[.fl (.bool ((decide ((IntKind.u64.wrap (((IntKind.u64.wrap (max a b))) - ((IntKind.u64.wrap (min a b))))) ≤ (IntKind.u64.wrap (max gap 0))))))], (.cons (.tmp rfl (.d _)) .nil), ?_⟩
  rfl
set_option maxHeartbeats 4000000 in
set_option maxRecDepth 100000 in
theorem nrR (a b gap : Int) : Ctr Try.prog 58 [.fl (.int .i64 a), .fl (.int .i64 b), .fl (.int .i64 gap)] (.d (.fl (.bool (nrB a b gap)))) := by
  refine ctr (n := 24) (rs := #[.tmp 6]) (L := [(0, .d (.fl (.int .i64 a))), (1, .d (.fl (.int .i64 b))), (2, .d (.fl (.int .i64 gap)))]) Try.func58 rfl rfl rfl rfl rfl (fun w0 U0 => ?_)
  refine a_rseq ?_
  refine rg_put (d := 6) (v := .d (.fl (.bool false))) rfl (og rfl (op_assign rfl rfl rfl)) ?_
  refine rg_done rfl ?_
  refine a_rseq ?_
  refine rg_put (d := 9) (v := .d (.fl (.int .i64 a))) rfl (og rfl (op_move rfl rfl rfl)) ?_
  refine rg_put (d := 10) (v := .d (.fl (.int .i64 b))) rfl (og rfl (op_move rfl rfl rfl)) ?_
  refine rg_put (d := 11) (v := .d (.fl (.int .i64 (min a b)))) rfl (og rfl (op_min rfl rfl rfl rfl)) ?_
  refine rg_put (d := 12) (v := .d (.fl (.int .i64 a))) rfl (og rfl (op_move rfl rfl rfl)) ?_
  refine rg_put (d := 13) (v := .d (.fl (.int .i64 b))) rfl (og rfl (op_move rfl rfl rfl)) ?_
  refine rg_put (d := 14) (v := .d (.fl (.int .i64 (max a b)))) rfl (og rfl (op_max rfl rfl rfl rfl)) ?_
  refine rg_put (d := 7) (v := .d (.fl (.int .i64 (min a b)))) rfl (og rfl (op_assign rfl rfl rfl)) ?_
  refine rg_put (d := 8) (v := .d (.fl (.int .i64 (max a b)))) rfl (og rfl (op_assign rfl rfl rfl)) ?_
  refine rg_done rfl ?_
  refine a_rseq ?_
  refine rg_put (d := 15) (v := .d (.fl (.int .i64 (max a b)))) rfl (og rfl (op_move rfl rfl rfl)) ?_
  refine rg_put (d := 16) (v := .d (.fl (.int .u64 ((IntKind.u64.wrap (max a b)))))) rfl (og rfl (op_convK rfl Try.underlying3 Try.underlying91 rfl rfl)) ?_
  refine rg_put (d := 17) (v := .d (.fl (.int .i64 (min a b)))) rfl (og rfl (op_move rfl rfl rfl)) ?_
  refine rg_put (d := 18) (v := .d (.fl (.int .u64 ((IntKind.u64.wrap (min a b)))))) rfl (og rfl (op_convK rfl Try.underlying3 Try.underlying91 rfl rfl)) ?_
  refine rg_put (d := 19) (v := .d (.fl (.int .u64 ((IntKind.u64.wrap (((IntKind.u64.wrap (max a b))) - ((IntKind.u64.wrap (min a b))))))))) rfl (og rfl (op_bin rfl rfl rfl (b_sub _ _ _ _) rfl)) ?_
  refine rg_put (d := 20) (v := .d (.fl (.int .i64 gap))) rfl (og rfl (op_move rfl rfl rfl)) ?_
  refine rg_put (d := 21) (v := .d (.fl (.int .i64 (max gap 0)))) rfl (og rfl (op_max rfl rfl rfl rfl)) ?_
  refine rg_put (d := 22) (v := .d (.fl (.int .u64 ((IntKind.u64.wrap (max gap 0)))))) rfl (og rfl (op_convK rfl Try.underlying3 Try.underlying91 rfl rfl)) ?_
  refine rg_put (d := 23) (v := .d (.fl (.bool ((decide ((IntKind.u64.wrap (((IntKind.u64.wrap (max a b))) - ((IntKind.u64.wrap (min a b))))) ≤ (IntKind.u64.wrap (max gap 0)))))))) rfl (og rfl (op_bin rfl rfl rfl (b_leq _ _ _ _) rfl)) ?_
  refine rg_put (d := 6) (v := .d (.fl (.bool ((decide ((IntKind.u64.wrap (((IntKind.u64.wrap (max a b))) - ((IntKind.u64.wrap (min a b))))) ≤ (IntKind.u64.wrap (max gap 0)))))))) rfl (og rfl (op_assign rfl rfl rfl)) ?_
  refine rg_done rfl ?_
  refine a_ret ?_
  show ∃ ds, ResL _ _ _ ds ∧ RV.of ds = _
  refine ⟨[.fl (.bool ((decide ((IntKind.u64.wrap (((IntKind.u64.wrap (max a b))) - ((IntKind.u64.wrap (min a b))))) ≤ (IntKind.u64.wrap (max gap 0))))))], (.cons (.tmp rfl (.d _)) .nil), ?_⟩
  rfl
set_option maxHeartbeats 4000000 in
set_option maxRecDepth 100000 in
theorem clC (a b : Sen) (gap : Int) : Ctr Try.prog 42 [.ag (eSen a), .ag (eSen b), .fl (.int .i64 gap)] (.d (.fl (.bool (clB a b gap)))) := by
  refine ctr (n := 20) (rs := #[.tmp 6]) (L := [(0, .d (.ag (eSen a))), (1, .d (.ag (eSen b))), (2, .d (.fl (.int .i64 gap)))]) Try.func42 rfl rfl rfl rfl rfl (fun w0 U0 => ?_)
  refine a_rseq ?_
  refine rg_nam (d := 3) (v := .pt 101 0) (m := 101) (nw := [(101, .bx 31 (eSen a))]) rfl (og rfl (of_eff (op_box 101 rfl rfl rfl rfl) rfl)) rfl ?_
  refine rg_nam (d := 4) (v := .pt 102 0) (m := 102) (nw := [(102, .bx 31 (eSen b))]) rfl (og rfl (of_eff (op_box 102 rfl rfl rfl rfl) rfl)) rfl ?_
  refine rg_put (d := 6) (v := .d (.fl (.bool false))) rfl (og rfl (op_assign rfl rfl rfl)) ?_
  refine rg_done rfl ?_
  refine a_rseq ?_
  refine rg_put (d := 7) (v := .pt 101 8) rfl (og rfl (of_eff (s_field_pt rfl Try.underlying31 rfl ti9 rfl rfl rfl) rfl)) ?_
  refine rg_put (d := 8) (v := .d (.fl (.string a.point))) rfl (og rfl (op_load_pt rfl Try.underlying9 rfl rfl rfl rfl rfl)) ?_
  refine rg_put (d := 9) (v := .pt 102 8) rfl (og rfl (of_eff (s_field_pt rfl Try.underlying31 rfl ti9 rfl rfl rfl) rfl)) ?_
  refine rg_put (d := 10) (v := .d (.fl (.string b.point))) rfl (og rfl (op_load_pt rfl Try.underlying9 rfl rfl rfl rfl rfl)) ?_
  refine rg_put (d := 11) (v := .d (.fl (.bool (sEq a.point b.point)))) rfl (og rfl (op_bin rfl rfl rfl (b_seq _ _ _) rfl)) ?_
  refine rg_put (d := 12) (v := .d (.fl (.bool (sEq a.point b.point)))) rfl (og rfl (op_move rfl rfl rfl)) ?_
  rcases fot (sEq a.point b.point) with h1 | h1
  · skip
    refine rg_put (d := 13) (v := .d (.fl undef)) rfl (on rfl rfl rfl h1) ?_
    refine rg_put (d := 14) (v := .d (.fl undef)) rfl (on rfl rfl rfl h1) ?_
    refine rg_put (d := 15) (v := .d (.fl undef)) rfl (on rfl rfl rfl h1) ?_
    refine rg_put (d := 16) (v := .d (.fl undef)) rfl (on rfl rfl rfl h1) ?_
    refine rg_put (d := 17) (v := .d (.fl undef)) rfl (on rfl rfl rfl h1) ?_
    refine rg_put (d := 18) (v := .d (.fl undef)) rfl (on rfl rfl rfl h1) ?_
    refine rg_put (d := 19) (v := .d (.fl (.bool false))) rfl (og rfl (op_pick rfl rfl (by rw [h1]; rfl) rfl)) ?_
    refine rg_put (d := 6) (v := .d (.fl (.bool false))) rfl (og rfl (op_assign rfl rfl rfl)) ?_
    refine rg_done rfl ?_
    refine a_ret ?_
    show ∃ ds, ResL _ _ _ ds ∧ RV.of ds = _
    refine ⟨[.fl (.bool false)], (.cons (.tmp rfl (.d _)) .nil), ?_⟩
    first
      | (have hu : clB a b gap = false := by
          unfold clB; simp only [h1, Bool.true_or, Bool.false_or, Bool.or_true, Bool.or_false, Bool.not_true, Bool.not_false, cond_true, cond_false, Bool.true_and, Bool.false_and, Bool.and_true, Bool.and_false] <;> rfl
         rw [hu]; rfl)
      | (exfalso; omega)
  · skip
    refine rg_put (d := 13) (v := .pt 101 7) rfl (oy rfl rfl rfl h1 (of_eff (s_field_pt rfl Try.underlying31 rfl ti3 rfl rfl rfl) rfl)) ?_
    refine rg_put (d := 14) (v := .d (.fl (.int .i64 a.time))) rfl (oy rfl rfl rfl h1 (op_load_pt rfl Try.underlying3 rfl rfl rfl rfl rfl)) ?_
    refine rg_put (d := 15) (v := .pt 102 7) rfl (oy rfl rfl rfl h1 (of_eff (s_field_pt rfl Try.underlying31 rfl ti3 rfl rfl rfl) rfl)) ?_
    refine rg_put (d := 16) (v := .d (.fl (.int .i64 b.time))) rfl (oy rfl rfl rfl h1 (op_load_pt rfl Try.underlying3 rfl rfl rfl rfl rfl)) ?_
    refine rg_put (d := 17) (v := .d (.fl (.int .i64 gap))) rfl (oy rfl rfl rfl h1 (op_move rfl rfl rfl)) ?_
    refine rg_put (d := 18) (v := .d (.fl (.bool (nrB a.time b.time gap)))) rfl (oy rfl rfl rfl h1 (op_call rfl Try.func61 nm61 rfl (.cons rfl (.d _) (.cons rfl (.d _) (.cons rfl (.d _) .nil))) (nrC a.time b.time gap) rfl)) ?_
    refine rg_put (d := 19) (v := .d (.fl (.bool (nrB a.time b.time gap)))) rfl (og rfl (op_pick rfl rfl (by rw [h1]; rfl) rfl)) ?_
    refine rg_put (d := 6) (v := .d (.fl (.bool (nrB a.time b.time gap)))) rfl (og rfl (op_assign rfl rfl rfl)) ?_
    refine rg_done rfl ?_
    refine a_ret ?_
    show ∃ ds, ResL _ _ _ ds ∧ RV.of ds = _
    refine ⟨[.fl (.bool (nrB a.time b.time gap))], (.cons (.tmp rfl (.d _)) .nil), ?_⟩
    first
      | (have hu : clB a b gap = (nrB a.time b.time gap) := by
          unfold clB; simp only [h1, Bool.true_or, Bool.false_or, Bool.or_true, Bool.or_false, Bool.not_true, Bool.not_false, cond_true, cond_false, Bool.true_and, Bool.false_and, Bool.and_true, Bool.and_false] <;> rfl
         rw [hu]; rfl)
      | (exfalso; omega)
set_option maxHeartbeats 4000000 in
set_option maxRecDepth 100000 in
theorem clR (a b : Sen) (gap : Int) : Ctr Try.prog 35 [.ag (eSen a), .ag (eSen b), .fl (.int .i64 gap)] (.d (.fl (.bool (clB a b gap)))) := by
  refine ctr (n := 20) (rs := #[.tmp 6]) (L := [(0, .d (.ag (eSen a))), (1, .d (.ag (eSen b))), (2, .d (.fl (.int .i64 gap)))]) Try.func35 rfl rfl rfl rfl rfl (fun w0 U0 => ?_)
  refine a_rseq ?_
  refine rg_nam (d := 3) (v := .pt 101 0) (m := 101) (nw := [(101, .bx 31 (eSen a))]) rfl (og rfl (of_eff (op_box 101 rfl rfl rfl rfl) rfl)) rfl ?_
  refine rg_nam (d := 4) (v := .pt 102 0) (m := 102) (nw := [(102, .bx 31 (eSen b))]) rfl (og rfl (of_eff (op_box 102 rfl rfl rfl rfl) rfl)) rfl ?_
  refine rg_put (d := 6) (v := .d (.fl (.bool false))) rfl (og rfl (op_assign rfl rfl rfl)) ?_
  refine rg_done rfl ?_
  refine a_rseq ?_
  refine rg_put (d := 7) (v := .pt 101 8) rfl (og rfl (of_eff (s_field_pt rfl Try.underlying31 rfl ti9 rfl rfl rfl) rfl)) ?_
  refine rg_put (d := 8) (v := .d (.fl (.string a.point))) rfl (og rfl (op_load_pt rfl Try.underlying9 rfl rfl rfl rfl rfl)) ?_
  refine rg_put (d := 9) (v := .pt 102 8) rfl (og rfl (of_eff (s_field_pt rfl Try.underlying31 rfl ti9 rfl rfl rfl) rfl)) ?_
  refine rg_put (d := 10) (v := .d (.fl (.string b.point))) rfl (og rfl (op_load_pt rfl Try.underlying9 rfl rfl rfl rfl rfl)) ?_
  refine rg_put (d := 11) (v := .d (.fl (.bool (sEq a.point b.point)))) rfl (og rfl (op_bin rfl rfl rfl (b_seq _ _ _) rfl)) ?_
  refine rg_put (d := 12) (v := .d (.fl (.bool (sEq a.point b.point)))) rfl (og rfl (op_move rfl rfl rfl)) ?_
  rcases fot (sEq a.point b.point) with h1 | h1
  · skip
    refine rg_put (d := 13) (v := .d (.fl undef)) rfl (on rfl rfl rfl h1) ?_
    refine rg_put (d := 14) (v := .d (.fl undef)) rfl (on rfl rfl rfl h1) ?_
    refine rg_put (d := 15) (v := .d (.fl undef)) rfl (on rfl rfl rfl h1) ?_
    refine rg_put (d := 16) (v := .d (.fl undef)) rfl (on rfl rfl rfl h1) ?_
    refine rg_put (d := 17) (v := .d (.fl undef)) rfl (on rfl rfl rfl h1) ?_
    refine rg_put (d := 18) (v := .d (.fl undef)) rfl (on rfl rfl rfl h1) ?_
    refine rg_put (d := 19) (v := .d (.fl (.bool false))) rfl (og rfl (op_pick rfl rfl (by rw [h1]; rfl) rfl)) ?_
    refine rg_put (d := 6) (v := .d (.fl (.bool false))) rfl (og rfl (op_assign rfl rfl rfl)) ?_
    refine rg_done rfl ?_
    refine a_ret ?_
    show ∃ ds, ResL _ _ _ ds ∧ RV.of ds = _
    refine ⟨[.fl (.bool false)], (.cons (.tmp rfl (.d _)) .nil), ?_⟩
    first
      | (have hu : clB a b gap = false := by
          unfold clB; simp only [h1, Bool.true_or, Bool.false_or, Bool.or_true, Bool.or_false, Bool.not_true, Bool.not_false, cond_true, cond_false, Bool.true_and, Bool.false_and, Bool.and_true, Bool.and_false] <;> rfl
         rw [hu]; rfl)
      | (exfalso; omega)
  · skip
    refine rg_put (d := 13) (v := .pt 101 7) rfl (oy rfl rfl rfl h1 (of_eff (s_field_pt rfl Try.underlying31 rfl ti3 rfl rfl rfl) rfl)) ?_
    refine rg_put (d := 14) (v := .d (.fl (.int .i64 a.time))) rfl (oy rfl rfl rfl h1 (op_load_pt rfl Try.underlying3 rfl rfl rfl rfl rfl)) ?_
    refine rg_put (d := 15) (v := .pt 102 7) rfl (oy rfl rfl rfl h1 (of_eff (s_field_pt rfl Try.underlying31 rfl ti3 rfl rfl rfl) rfl)) ?_
    refine rg_put (d := 16) (v := .d (.fl (.int .i64 b.time))) rfl (oy rfl rfl rfl h1 (op_load_pt rfl Try.underlying3 rfl rfl rfl rfl rfl)) ?_
    refine rg_put (d := 17) (v := .d (.fl (.int .i64 gap))) rfl (oy rfl rfl rfl h1 (op_move rfl rfl rfl)) ?_
    refine rg_put (d := 18) (v := .d (.fl (.bool (nrB a.time b.time gap)))) rfl (oy rfl rfl rfl h1 (op_call rfl Try.func58 nm58 rfl (.cons rfl (.d _) (.cons rfl (.d _) (.cons rfl (.d _) .nil))) (nrR a.time b.time gap) rfl)) ?_
    refine rg_put (d := 19) (v := .d (.fl (.bool (nrB a.time b.time gap)))) rfl (og rfl (op_pick rfl rfl (by rw [h1]; rfl) rfl)) ?_
    refine rg_put (d := 6) (v := .d (.fl (.bool (nrB a.time b.time gap)))) rfl (og rfl (op_assign rfl rfl rfl)) ?_
    refine rg_done rfl ?_
    refine a_ret ?_
    show ∃ ds, ResL _ _ _ ds ∧ RV.of ds = _
    refine ⟨[.fl (.bool (nrB a.time b.time gap))], (.cons (.tmp rfl (.d _)) .nil), ?_⟩
    first
      | (have hu : clB a b gap = (nrB a.time b.time gap) := by
          unfold clB; simp only [h1, Bool.true_or, Bool.false_or, Bool.or_true, Bool.or_false, Bool.not_true, Bool.not_false, cond_true, cond_false, Bool.true_and, Bool.false_and, Bool.and_true, Bool.and_false] <;> rfl
         rw [hu]; rfl)
      | (exfalso; omega)
set_option maxHeartbeats 4000000 in
set_option maxRecDepth 100000 in
theorem tcX (x s : Sen) (gap : Int) : Ctr Try.prog 41 [.ag (eSen x), .el (eSen s), .el [.fl (.int .i64 gap)]] (.d (.fl (.bool (clB x s gap)))) := by
  refine ctr (n := 9) (rs := #[.tmp 4]) (L := [(0, .d (.ag (eSen x))), (1, .el (eSen s)), (2, .el [.fl (.int .i64 gap)])]) Try.func41 rfl rfl rfl rfl rfl (fun w0 U0 => ?_)
  refine a_rseq ?_
  refine rg_nam (d := 3) (v := .pt 101 0) (m := 101) (nw := [(101, .bx 31 (eSen x))]) rfl (og rfl (of_eff (op_box 101 rfl rfl rfl rfl) rfl)) rfl ?_
  refine rg_put (d := 4) (v := .d (.fl (.bool false))) rfl (og rfl (op_assign rfl rfl rfl)) ?_
  refine rg_done rfl ?_
  refine a_rseq ?_
  refine rg_put (d := 5) (v := .d (.ag (eSen x))) rfl (og rfl (of_eff (s_load_pts rfl Try.underlying31 rfl ti31 rfl rfl rfl rfl) rfl)) ?_
  refine rg_put (d := 6) (v := .d (.ag (eSen s))) rfl (og rfl (of_eff (s_load_els rfl Try.underlying31 rfl ti31 rfl rfl rfl) rfl)) ?_
  refine rg_put (d := 7) (v := .d (.fl (.int .i64 gap))) rfl (og rfl (op_load_el rfl Try.underlying3 rfl rfl rfl rfl)) ?_
  refine rg_put (d := 8) (v := .d (.fl (.bool (clB x s gap)))) rfl (og rfl (op_call rfl Try.func42 nm42 rfl (.cons rfl (.d _) (.cons rfl (.d _) (.cons rfl (.d _) .nil))) (clC x s gap) rfl)) ?_
  refine rg_put (d := 4) (v := .d (.fl (.bool (clB x s gap)))) rfl (og rfl (op_assign rfl rfl rfl)) ?_
  refine rg_done rfl ?_
  refine a_ret ?_
  show ∃ ds, ResL _ _ _ ds ∧ RV.of ds = _
  refine ⟨[.fl (.bool (clB x s gap))], (.cons (.tmp rfl (.d _)) .nil), ?_⟩
  rfl
def ixB (l : List Sen) (s : Sen) (gap : Int) : Int := bif tcB l s gap then 0 else -1
theorem tc_at {l : List Sen} {s : Sen} {gap : Int} {k : Nat} (hk : k < l.length) (h : clB (ix l k) s gap = true) : tcB l s gap = true := any_at (p := fun x : Sen => clB x s gap) hk h
theorem tc_no {l : List Sen} {s : Sen} {gap : Int} (h : ∀ q, q < l.length → clB (ix l q) s gap = false) : tcB l s gap = false := any_no (p := fun x : Sen => clB x s gap) h
def iF (l : List Sen) (s : Sen) (gap : Int) : Int := match l.findIdx? (fun x => clB x s gap) with
  | some i => i
  | none => -1
theorem iF_at {l : List Sen} {s : Sen} {gap : Int} {k : Nat} (hk : k < l.length) (hq : ∀ q, q < k → clB (ix l q) s gap = false) (h : clB (ix l k) s gap = true) : iF l s gap = k := by
  unfold iF
  rw [show l.findIdx? (fun x => clB x s gap) = some k from by
    rw [List.findIdx?_eq_some_iff_getElem]
    refine ⟨hk, by rw [ix_eq hk]; exact h, fun j hj => ?_⟩
    rw [ix_eq (by omega)]
    simpa using hq j hj]
theorem iF_no {l : List Sen} {s : Sen} {gap : Int} (hq : ∀ q, q < l.length → clB (ix l q) s gap = false) : iF l s gap = -1 := by
  unfold iF
  rw [show l.findIdx? (fun x => clB x s gap) = none from by
    rw [List.findIdx?_eq_none_iff]
    intro x hx
    obtain ⟨q, h1, rfl⟩ := mem_ix hx
    exact hq q h1]
theorem iF_tc (l : List Sen) (s : Sen) (gap : Int) : decide (0 ≤ iF l s gap) = tcB l s gap := by
  unfold iF tcB
  cases e : l.findIdx? (fun x => clB x s gap) with
  | none =>
    rw [List.findIdx?_eq_none_iff] at e
    rw [show (l.any fun x => clB x s gap) = false from by rw [List.any_eq_false]; intro x hx; simpa using e x hx]; rfl
  | some i =>
    rw [List.findIdx?_eq_some_iff_getElem] at e
    obtain ⟨h1, h2, _⟩ := e
    rw [show (l.any fun x => clB x s gap) = true from List.any_eq_true.2 ⟨_, List.getElem_mem h1, h2⟩]
    exact decide_eq_true (by show (0 : Int) ≤ (i : Int); omega)

set_option maxHeartbeats 4000000 in
set_option maxRecDepth 100000 in
theorem ixC (l : List Sen) (s : Sen) (gap : Int) (hl : l.length ≤ 100) : Ctr Try.prog 60 [.sl 11 (List.map eSen l), .fn 41 [.el (eSen s), .el [.fl (.int .i64 gap)]]] (.d (.fl (.int .i64 (iF l s gap)))) := by
  refine ctr (n := 19) (rs := #[.tmp 4]) (L := [(0, .d (.sl 11 (List.map eSen l))), (1, .d (.fn 41 [.el (eSen s), .el [.fl (.int .i64 gap)]]))]) Try.func60 rfl rfl rfl rfl rfl (fun w0 U0 => ?_)
  refine a_rseq ?_
  refine rg_put (d := 4) (v := .d (.fl (.int .i64 0))) rfl (og rfl (op_assign rfl rfl rfl)) ?_
  refine rg_done rfl ?_
  refine a_seq ?_
  refine a_rseq ?_
  refine rg_put (d := 6) (v := .d (.sl 11 (List.map eSen l))) rfl (og rfl (op_move rfl rfl rfl)) ?_
  refine rg_put (d := 7) (v := .d (.fl (.int .i64 (l.length : Int)))) rfl (og rfl (s_len rfl Try.underlying22 rfl rfl)) ?_
  refine rg_put (d := 8) (v := .d (.fl (.int .i64 0))) rfl (og rfl (op_move rfl rfl rfl)) ?_
  refine rg_done rfl ?_
  refine a_block ?_
  refine a_loop (ι := Nat) (fun k => SS [(0, .d (.sl 11 (List.map eSen l))), (1, .d (.fn 41 [.el (eSen s), .el [.fl (.int .i64 gap)]])), (7, .d (.fl (.int .i64 (l.length : Int)))), (8, .d (.fl (.int .i64 (k : Int))))] []) (fun k => k ≤ l.length ∧ ∀ q, q < k → (clB (ix l q) s gap) = false) (fun k => l.length - k) 0 (⟨by omega, fun q h => by omega⟩) (imp_forget rfl ⟨rfl, rfl, rfl, (by first | rfl | exact ci (by omega) | exact ci (by simp) | exact cd (by simp) | simp), trivial⟩ trivial) (fun k hok => ?_)
  obtain ⟨hkk, hq⟩ := hok
  refine a_rseq ?_
  refine rg_put (d := 9) (v := .d (.fl (.bool ((decide ((k : Int) < (l.length : Int))))))) rfl (og rfl (op_bin rfl rfl rfl (b_lss _ _ _ _) rfl)) ?_
  refine rg_done rfl ?_
  refine a_seq ?_
  refine a_cond rfl (fun h1 => ?_) (fun h1 => ?_)
  · skip
    have h2 := t_dec h1
    refine a_skip ?_
    show A _ _ _ _ _ _ _
    refine a_seq ?_
    refine a_block ?_
    refine a_rseq ?_
    refine rg_put (d := 10) (v := .d (.fl (.int .i64 (k : Int)))) rfl (og rfl (op_move rfl rfl rfl)) ?_
    refine rg_put (d := 5) (v := .d (.fl (.int .i64 (k : Int)))) rfl (og rfl (op_assign rfl rfl rfl)) ?_
    refine rg_done rfl ?_
    refine a_rseq ?_
    refine rg_put (d := 11) (v := .d (.fn 41 [.el (eSen s), .el [.fl (.int .i64 gap)]])) rfl (og rfl (op_move rfl rfl rfl)) ?_
    refine rg_put (d := 12) (v := .d (.sl 11 (List.map eSen l))) rfl (og rfl (op_move rfl rfl rfl)) ?_
    refine rg_put (d := 13) (v := .d (.fl (.int .i64 (k : Int)))) rfl (og rfl (op_move rfl rfl rfl)) ?_
    refine rg_put (d := 14) (v := .el ((eSen (ix l k)))) rfl (og rfl (s_index rfl Try.underlying22 ti31 rfl rfl (by omega) (row_at (by omega)) rfl)) ?_
    refine rg_put (d := 15) (v := .d (.ag (eSen (ix l k)))) rfl (og rfl (of_eff (s_load_els rfl Try.underlying31 rfl ti31 rfl rfl rfl) rfl)) ?_
    refine rg_put (d := 16) (v := .d (.fl (.bool ((clB (ix l k) s gap))))) rfl (og rfl (op_callV rfl rfl ⟨_, Try.func41, nm41, rfl⟩ (.cons rfl (.d _) .nil) (tcX (ix l k) s gap) rfl)) ?_
    refine rg_done rfl ?_
    refine a_cond rfl (fun h3 => ?_) (fun h3 => ?_)
    · skip
      refine a_rseq ?_
      refine rg_put (d := 17) (v := .d (.fl (.int .i64 (k : Int)))) rfl (og rfl (op_move rfl rfl rfl)) ?_
      refine rg_put (d := 4) (v := .d (.fl (.int .i64 (k : Int)))) rfl (og rfl (op_assign rfl rfl rfl)) ?_
      refine rg_done rfl ?_
      refine a_ret ?_
      show ∃ ds, ResL _ _ _ ds ∧ RV.of ds = _
      refine ⟨[.fl (.int .i64 (k : Int))], (.cons (.tmp rfl (.d _)) .nil), ?_⟩
      rw [iF_at (by omega) hq h3]; rfl
    · skip
      refine a_skip ?_
      show A _ _ _ _ _ _ _
      refine a_region ?_
      refine rg_put (d := 18) (v := .d (.fl (.int .i64 (((k : Int) + 1))))) rfl (og rfl (op_bin rfl rfl rfl (fun x y w => b_add64 _ _ _ x y w (by omega)) rfl)) ?_
      refine rg_put (d := 8) (v := .d (.fl (.int .i64 (((k : Int) + 1))))) rfl (og rfl (op_move rfl rfl rfl)) ?_
      refine rg_done rfl ?_
      have hx : (clB (ix l k) s gap) = false := h3
      show ∃ i, _ ∧ _ ∧ Imp _ _ _ _ _
      refine ⟨k + 1, ⟨by omega, fun q h => (Nat.lt_succ_iff_lt_or_eq.1 h).elim (hq q) (fun e => by rw [e]; exact hx)⟩, by omega, imp_forget rfl ⟨rfl, rfl, rfl, (by first | rfl | exact ci (by omega) | exact ci (by simp) | exact cd (by simp) | simp), trivial⟩ trivial⟩
  · skip
    have h4 := f_dec h1
    refine a_exit ?_
    show A _ _ _ _ _ _ _
    refine a_rseq ?_
    refine rg_put (d := 4) (v := .d (.fl (.int .i64 (-1)))) rfl (og rfl (op_assign rfl rfl rfl)) ?_
    refine rg_done rfl ?_
    refine a_ret ?_
    show ∃ ds, ResL _ _ _ ds ∧ RV.of ds = _
    refine ⟨[.fl (.int .i64 (-1))], (.cons (.tmp rfl (.d _)) .nil), ?_⟩
    rw [iF_no (fun q h => hq q (by omega))]; rfl
set_option maxHeartbeats 4000000 in
set_option maxRecDepth 100000 in
theorem cfC (l : List Sen) (s : Sen) (gap : Int) (hl : l.length ≤ 100) : Ctr Try.prog 40 [.sl 11 (List.map eSen l), .fn 41 [.el (eSen s), .el [.fl (.int .i64 gap)]]] (.d (.fl (.bool (tcB l s gap)))) := by
  refine ctr (n := 9) (rs := #[.tmp 4]) (L := [(0, .d (.sl 11 (List.map eSen l))), (1, .d (.fn 41 [.el (eSen s), .el [.fl (.int .i64 gap)]]))]) Try.func40 rfl rfl rfl rfl rfl (fun w0 U0 => ?_)
  refine a_rseq ?_
  refine rg_put (d := 4) (v := .d (.fl (.bool false))) rfl (og rfl (op_assign rfl rfl rfl)) ?_
  refine rg_done rfl ?_
  refine a_rseq ?_
  refine rg_put (d := 5) (v := .d (.sl 11 (List.map eSen l))) rfl (og rfl (op_move rfl rfl rfl)) ?_
  refine rg_put (d := 6) (v := .d (.fn 41 [.el (eSen s), .el [.fl (.int .i64 gap)]])) rfl (og rfl (op_move rfl rfl rfl)) ?_
  refine rg_put (d := 7) (v := .d (.fl (.int .i64 (iF l s gap)))) rfl (og rfl (op_call rfl Try.func60 nm60 rfl (.cons rfl (.d _) (.cons rfl (.d _) .nil)) (ixC l s gap hl) rfl)) ?_
  refine rg_put (d := 8) (v := .d (.fl (.bool ((decide (0 ≤ (iF l s gap))))))) rfl (og rfl (op_bin rfl rfl rfl (b_geq _ _ _ _) rfl)) ?_
  refine rg_put (d := 4) (v := .d (.fl (.bool ((decide (0 ≤ (iF l s gap))))))) rfl (og rfl (op_assign rfl rfl rfl)) ?_
  refine rg_done rfl ?_
  refine a_ret ?_
  show ∃ ds, ResL _ _ _ ds ∧ RV.of ds = _
  refine ⟨[.fl (.bool ((decide (0 ≤ (iF l s gap)))))], (.cons (.tmp rfl (.d _)) .nil), ?_⟩
  rw [iF_tc]; rfl
set_option maxHeartbeats 4000000 in
set_option maxRecDepth 100000 in
theorem toC (l : List Sen) (s : Sen) (gap : Int) (hl : l.length ≤ 100) : Ctr Try.prog 18 [.sl 11 (List.map eSen l), .ag (eSen s), .fl (.int .i64 gap)] (.d (.fl (.bool (tcB l s gap)))) := by
  refine ctr (n := 10) (rs := #[.tmp 6]) (L := [(0, .d (.sl 11 (List.map eSen l))), (1, .d (.ag (eSen s))), (2, .d (.fl (.int .i64 gap)))]) Try.func18 rfl rfl rfl rfl rfl (fun w0 U0 => ?_)
  refine a_rseq ?_
  refine rg_nam (d := 4) (v := .pt 101 0) (m := 101) (nw := [(101, .bx 31 (eSen s))]) rfl (og rfl (of_eff (op_box 101 rfl rfl rfl rfl) rfl)) rfl ?_
  refine rg_nam (d := 5) (v := .pt 102 0) (m := 102) (nw := [(102, .bx 3 [.fl (.int .i64 gap)])]) rfl (og rfl (of_eff (op_box 102 rfl rfl rfl rfl) rfl)) rfl ?_
  refine rg_put (d := 6) (v := .d (.fl (.bool false))) rfl (og rfl (op_assign rfl rfl rfl)) ?_
  refine rg_done rfl ?_
  refine a_rseq ?_
  refine rg_imp (imp_freeze 4 101 rfl rfl) ?_
  refine rg_imp (imp_freeze 5 102 rfl rfl) ?_
  refine rg_put (d := 7) (v := .d (.sl 11 (List.map eSen l))) rfl (og rfl (op_move rfl rfl rfl)) ?_
  refine rg_put (d := 8) (v := .d (.fn 41 [.el (eSen s), .el [.fl (.int .i64 gap)]])) rfl (og rfl (op_mkfn rfl (.cons rfl (.cons rfl .nil)) rfl)) ?_
  refine rg_put (d := 9) (v := .d (.fl (.bool (tcB l s gap)))) rfl (og rfl (op_call rfl Try.func40 nm40 rfl (.cons rfl (.d _) (.cons rfl (.d _) .nil)) (cfC l s gap hl) rfl)) ?_
  refine rg_put (d := 6) (v := .d (.fl (.bool (tcB l s gap)))) rfl (og rfl (op_assign rfl rfl rfl)) ?_
  refine rg_done rfl ?_
  refine a_ret ?_
  show ∃ ds, ResL _ _ _ ds ∧ RV.of ds = _
  refine ⟨[.fl (.bool (tcB l s gap))], (.cons (.tmp rfl (.d _)) .nil), ?_⟩
  rfl
set_option maxHeartbeats 4000000 in
set_option maxRecDepth 100000 in
theorem toR (l : List Sen) (s : Sen) (gap : Int) (hl : l.length ≤ 100) : Ctr Try.prog 19 [.sl 11 (List.map eSen l), .ag (eSen s), .fl (.int .i64 gap)] (.d (.fl (.bool (tcB l s gap)))) := by
  refine ctr (n := 21) (rs := #[.tmp 6]) (L := [(0, .d (.sl 11 (List.map eSen l))), (1, .d (.ag (eSen s))), (2, .d (.fl (.int .i64 gap)))]) Try.func19 rfl rfl rfl rfl rfl (fun w0 U0 => ?_)
  refine a_rseq ?_
  refine rg_nam (d := 4) (v := .pt 101 0) (m := 101) (nw := [(101, .bx 31 (eSen s))]) rfl (og rfl (of_eff (op_box 101 rfl rfl rfl rfl) rfl)) rfl ?_
  refine rg_put (d := 6) (v := .d (.fl (.bool false))) rfl (og rfl (op_assign rfl rfl rfl)) ?_
  refine rg_done rfl ?_
  refine a_seq ?_
  refine a_rseq ?_
  refine rg_put (d := 7) (v := .d (.fl (.int .i64 0))) rfl (og rfl (op_assign rfl rfl rfl)) ?_
  refine rg_done rfl ?_
  refine a_block ?_
  refine a_loop (ι := Nat) (fun k => SS [(0, .d (.sl 11 (List.map eSen l))), (1, .d (.ag (eSen s))), (2, .d (.fl (.int .i64 gap))), (4, .pt 101 0), (7, .d (.fl (.int .i64 (k : Int))))] [(101, .bx 31 (eSen s))]) (fun k => k ≤ l.length ∧ ∀ q, q < k → (clB (ix l q) s gap) = false) (fun k => l.length - k) 0 (⟨by omega, fun q h => by omega⟩) (imp_forget rfl ⟨rfl, rfl, rfl, rfl, (by first | rfl | exact ci (by omega) | exact ci (by simp) | exact cd (by simp) | simp), trivial⟩ ⟨rfl, trivial⟩) (fun k hok => ?_)
  obtain ⟨hkk, hq⟩ := hok
  refine a_seq ?_
  refine a_rseq ?_
  refine rg_put (d := 8) (v := .d (.fl (.int .i64 (k : Int)))) rfl (og rfl (op_move rfl rfl rfl)) ?_
  refine rg_put (d := 9) (v := .d (.sl 11 (List.map eSen l))) rfl (og rfl (op_move rfl rfl rfl)) ?_
  refine rg_put (d := 10) (v := .d (.fl (.int .i64 (l.length : Int)))) rfl (og rfl (s_len rfl Try.underlying22 rfl rfl)) ?_
  refine rg_put (d := 11) (v := .d (.fl (.bool ((decide ((k : Int) < (l.length : Int))))))) rfl (og rfl (op_bin rfl rfl rfl (b_lss _ _ _ _) rfl)) ?_
  refine rg_done rfl ?_
  refine a_cond rfl (fun h1 => ?_) (fun h1 => ?_)
  · skip
    have h2 := t_dec h1
    refine a_skip ?_
    show A _ _ _ _ _ _ _
    refine a_seq ?_
    refine a_block ?_
    refine a_dseq (by kernel_rfl) ?_
    refine dr_put (d := 14) (v := .d (.sl 11 (List.map eSen l))) rfl (og rfl (op_move rfl rfl rfl)) ?_
    refine dr_put (d := 15) (v := .d (.fl (.int .i64 (k : Int)))) rfl (og rfl (op_move rfl rfl rfl)) ?_
    refine dr_put (d := 16) (v := .el ((eSen (ix l k)))) rfl (og rfl (s_index rfl Try.underlying22 ti31 rfl rfl (by omega) (row_at (by omega)) rfl)) ?_
    refine dr_put (d := 17) (v := .d (.ag (eSen (ix l k)))) rfl (og rfl (of_eff (s_load_els rfl Try.underlying31 rfl ti31 rfl rfl rfl) rfl)) ?_
    refine dr_put (d := 18) (v := .d (.ag (eSen s))) rfl (og rfl (of_eff (s_load_pts rfl Try.underlying31 rfl ti31 rfl rfl rfl rfl) rfl)) ?_
    refine dr_put (d := 19) (v := .d (.fl (.int .i64 gap))) rfl (og rfl (op_move rfl rfl rfl)) ?_
    refine dr_put (d := 20) (v := .d (.fl (.bool ((clB (ix l k) s gap))))) rfl (og rfl (op_call rfl Try.func35 nm35 rfl (.cons rfl (.d _) (.cons rfl (.d _) (.cons rfl (.d _) .nil))) (clR (ix l k) s gap) rfl)) ?_
    refine dr_done rfl (by kernel_rfl) (by kernel_rfl) ?_
    refine a_cond rfl (fun h3 => ?_) (fun h3 => ?_)
    · skip
      refine a_rseq ?_
      refine rg_put (d := 6) (v := .d (.fl (.bool true))) rfl (og rfl (op_assign rfl rfl rfl)) ?_
      refine rg_done rfl ?_
      refine a_ret ?_
      show ∃ ds, ResL _ _ _ ds ∧ RV.of ds = _
      refine ⟨[.fl (.bool true)], (.cons (.tmp rfl (.d _)) .nil), ?_⟩
      rw [tc_at (by omega) h3]; rfl
    · skip
      refine a_skip ?_
      show A _ _ _ _ _ _ _
      refine a_region ?_
      refine rg_put (d := 12) (v := .d (.fl (.int .i64 (k : Int)))) rfl (og rfl (op_move rfl rfl rfl)) ?_
      refine rg_put (d := 13) (v := .d (.fl (.int .i64 (((k : Int) + 1))))) rfl (og rfl (op_bin rfl rfl rfl (fun x y w => b_add64 _ _ _ x y w (by omega)) rfl)) ?_
      refine rg_put (d := 7) (v := .d (.fl (.int .i64 (((k : Int) + 1))))) rfl (og rfl (op_assign rfl rfl rfl)) ?_
      refine rg_done rfl ?_
      have hx : (clB (ix l k) s gap) = false := h3
      show ∃ i, _ ∧ _ ∧ Imp _ _ _ _ _
      refine ⟨k + 1, ⟨by omega, fun q h => (Nat.lt_succ_iff_lt_or_eq.1 h).elim (hq q) (fun e => by rw [e]; exact hx)⟩, by omega, imp_forget rfl ⟨rfl, rfl, rfl, rfl, (by first | rfl | exact ci (by omega) | exact ci (by simp) | exact cd (by simp) | simp), trivial⟩ ⟨rfl, trivial⟩⟩
  · skip
    have h4 := f_dec h1
    refine a_exit ?_
    show A _ _ _ _ _ _ _
    refine a_rseq ?_
    refine rg_put (d := 6) (v := .d (.fl (.bool false))) rfl (og rfl (op_assign rfl rfl rfl)) ?_
    refine rg_done rfl ?_
    refine a_ret ?_
    show ∃ ds, ResL _ _ _ ds ∧ RV.of ds = _
    refine ⟨[.fl (.bool false)], (.cons (.tmp rfl (.d _)) .nil), ?_⟩
    rw [tc_no (fun q h => hq q (by omega))]; rfl
set_option maxHeartbeats 4000000 in
set_option maxRecDepth 100000 in
theorem ofC (l : List Sen) (kind : Int) (hl : l.length ≤ 100) : Ctr Try.prog 21 [.sl 11 (List.map eSen l), .fl (.int .i64 kind)] (.d (.sl 11 (List.map eSen (ofE l kind l.length)))) := by
  refine ctr (n := 24) (rs := #[.tmp 4]) (L := [(0, .d (.sl 11 (List.map eSen l))), (1, .d (.fl (.int .i64 kind)))]) Try.func21 rfl rfl rfl rfl rfl (fun w0 U0 => ?_)
  refine a_rseq ?_
  refine rg_put (d := 4) (v := .d (.fl (.slice none 0 0))) rfl (og rfl (op_assign rfl rfl rfl)) ?_
  refine rg_done rfl ?_
  refine a_rseq ?_
  refine rg_put (d := 5) (v := .d (.fl (.slice none 0 0))) rfl (og rfl (op_assign rfl rfl rfl)) ?_
  refine rg_done rfl ?_
  refine a_seq ?_
  refine a_rseq ?_
  refine rg_imp (imp_nilT 5 101 31 11 rfl rfl) ?_
  refine rg_put (d := 8) (v := .d (.sl 11 (List.map eSen l))) rfl (og rfl (op_move rfl rfl rfl)) ?_
  refine rg_put (d := 9) (v := .d (.fl (.int .i64 (l.length : Int)))) rfl (og rfl (s_len rfl Try.underlying22 rfl rfl)) ?_
  refine rg_put (d := 10) (v := .d (.fl (.int .i64 0))) rfl (og rfl (op_move rfl rfl rfl)) ?_
  refine rg_done rfl ?_
  refine a_block ?_
  refine a_loop (ι := Nat) (fun k => SS [(0, .d (.sl 11 (List.map eSen l))), (1, .d (.fl (.int .i64 kind))), (4, .d (.fl (.slice none 0 0))), (8, .d (.sl 11 (List.map eSen l))), (9, .d (.fl (.int .i64 (l.length : Int)))), (10, .d (.fl (.int .i64 (k : Int)))), (5, .ow 101)] [(101, .tr 31 11 (tD eSen (ofE l kind k)))]) (fun k => k ≤ l.length) (fun k => l.length - k) 0 (by omega) (imp_forget rfl ⟨rfl, rfl, rfl, rfl, rfl, (by first | rfl | exact ci (by omega) | exact ci (by simp) | exact cd (by simp) | simp), (by first | rfl | exact ci (by omega) | exact ci (by simp) | exact cd (by simp) | simp), trivial⟩ ⟨rfl, trivial⟩) (fun k hok => ?_)
  have hk := hok
  have hnl := ofE_len l kind k
  refine a_rseq ?_
  refine rg_put (d := 11) (v := .d (.fl (.bool ((decide ((k : Int) < (l.length : Int))))))) rfl (og rfl (op_bin rfl rfl rfl (b_lss _ _ _ _) rfl)) ?_
  refine rg_done rfl ?_
  refine a_seq ?_
  refine a_cond rfl (fun h1 => ?_) (fun h1 => ?_)
  · skip
    have h2 := t_dec h1
    refine a_skip ?_
    show A _ _ _ _ _ _ _
    refine a_seq ?_
    refine a_block ?_
    refine a_rseq ?_
    refine rg_put (d := 12) (v := .el ((eSen (ix l k)))) rfl (og rfl (s_index rfl Try.underlying22 ti31 rfl rfl (by omega) (row_at (by omega)) rfl)) ?_
    refine rg_put (d := 13) (v := .d (.ag (eSen (ix l k)))) rfl (og rfl (of_eff (s_load_els rfl Try.underlying31 rfl ti31 rfl rfl rfl) rfl)) ?_
    refine rg_nam (d := 7) (v := .pt 102 0) (m := 102) (nw := [(102, .bx 31 ([.fl (.string (⟨#[]⟩)), .fl (.int .i64 0), .fl (.int .i64 0), .fl (.string (⟨#[]⟩)), .fl (.string (⟨#[]⟩)), .fl (.int .i64 0), .fl (.int .i64 0), .fl (.int .i64 0), .fl (.string (⟨#[]⟩)), .fl (.int .i64 0), .fl (.int .i64 0)]))]) rfl (og rfl (of_eff (s_alloc 102 rfl ti31 (by kernel_rfl) rfl) rfl)) rfl ?_
    refine rg_sto (nw := [(102, .bx 31 ((eSen (ix l k))))]) rfl (og rfl (of_eff (s_store rfl rfl ti31 rfl rfl rfl rfl rfl rfl) rfl)) ?_
    refine rg_done rfl ?_
    refine a_rseq ?_
    refine rg_put (d := 14) (v := .pt 102 10) rfl (og rfl (of_eff (s_field_pt rfl Try.underlying31 rfl ti3 rfl rfl rfl) rfl)) ?_
    refine rg_put (d := 15) (v := .d (.fl (.int .i64 ((ix l k).kind)))) rfl (og rfl (op_load_pt rfl Try.underlying3 rfl rfl rfl rfl rfl)) ?_
    refine rg_put (d := 16) (v := .d (.fl (.int .i64 kind))) rfl (og rfl (op_move rfl rfl rfl)) ?_
    refine rg_put (d := 17) (v := .d (.fl (.bool (((ix l k).kind == kind))))) rfl (og rfl (op_bin rfl rfl rfl (b_eql _ _ _ _) rfl)) ?_
    refine rg_done rfl ?_
    refine a_cond rfl (fun h3 => ?_) (fun h3 => ?_)
    · skip
      have h4 := t_beq h3
      refine a_region ?_
      refine rg_put (d := 18) (v := .ow 101) rfl (og rfl (op_move rfl rfl rfl)) ?_
      refine rg_put (d := 19) (v := .d (.ag (eSen (ix l k)))) rfl (og rfl (of_eff (s_load_pts rfl Try.underlying31 rfl ti31 rfl rfl rfl rfl) rfl)) ?_
      refine rg_put (d := 20) (v := .d (.sl 11 (List.map eSen [(ix l k)]))) rfl (og rfl (of_eff (op_slices rfl Try.underlying22 ti31 rfl rfl rfl (by kernel_rfl) (xs := [.ag (eSen (ix l k))]) rfl rfl (.cons rfl rfl (.d _) rfl rfl rfl .nil) rfl) rfl)) ?_
      refine rg_nam (d := 21) (v := .ow 103) (m := 103) (nw := [(103, .tr 31 11 (tD eSen (((ofE l kind k) ++ [(ix l k)])))), (101, .no)]) rfl (og rfl (of_eff (s_append_td 103 rfl Try.underlying22 ti31 rfl rfl rfl rfl rfl (.d _) (by simp only [List.length_append, List.length_cons, List.length_nil]; omega) rfl) rfl)) rfl ?_
      refine rg_put (d := 5) (v := .ow 103) rfl (og rfl (op_assign rfl rfl rfl)) ?_
      refine rg_done rfl ?_
      show A _ _ _ _ _ _ _
      refine a_region ?_
      refine rg_put (d := 22) (v := .d (.fl (.int .i64 (((k : Int) + 1))))) rfl (og rfl (op_bin rfl rfl rfl (fun x y w => b_add64 _ _ _ x y w (by omega)) rfl)) ?_
      refine rg_put (d := 10) (v := .d (.fl (.int .i64 (((k : Int) + 1))))) rfl (og rfl (op_move rfl rfl rfl)) ?_
      refine rg_done rfl ?_
      show ∃ i, _ ∧ _ ∧ Imp _ _ _ _ _
      refine ⟨k + 1, (by omega), by omega, imp_ren (fun m => bif Nat.beq m 101 then 103 else m) rfl ⟨rfl, rfl, rfl, rfl, rfl, (by first | rfl | exact ci (by omega) | exact ci (by simp) | exact cd (by simp) | simp), rfl, trivial⟩ ⟨(congrArg (fun z => Ob.tr 31 11 (tD eSen z)) (ofE_y (by omega) h3)), trivial⟩⟩
    · skip
      have h5 := f_beq h3
      refine a_skip ?_
      show A _ _ _ _ _ _ _
      refine a_region ?_
      refine rg_put (d := 22) (v := .d (.fl (.int .i64 (((k : Int) + 1))))) rfl (og rfl (op_bin rfl rfl rfl (fun x y w => b_add64 _ _ _ x y w (by omega)) rfl)) ?_
      refine rg_put (d := 10) (v := .d (.fl (.int .i64 (((k : Int) + 1))))) rfl (og rfl (op_move rfl rfl rfl)) ?_
      refine rg_done rfl ?_
      show ∃ i, _ ∧ _ ∧ Imp _ _ _ _ _
      refine ⟨k + 1, (by omega), by omega, imp_forget rfl ⟨rfl, rfl, rfl, rfl, rfl, (by first | rfl | exact ci (by omega) | exact ci (by simp) | exact cd (by simp) | simp), rfl, trivial⟩ ⟨(congrArg (fun z => Ob.tr 31 11 (tD eSen z)) (ofE_n (by omega) h3)), trivial⟩⟩
  · skip
    have h6 := f_dec h1
    refine a_exit ?_
    show A _ _ _ _ _ _ _
    refine a_rseq ?_
    rw [show (ofE l kind k) = (ofE l kind l.length) from (by rw [show k = l.length by omega])]
    refine rg_put (d := 23) (v := .ow 101) rfl (og rfl (op_move rfl rfl rfl)) ?_
    refine rg_put (d := 4) (v := .ow 101) rfl (og rfl (op_assign rfl rfl rfl)) ?_
    refine rg_done rfl ?_
    refine a_imp (imp_leakT 4 101 rfl rfl) ?_
    refine a_ret ?_
    show ∃ ds, ResL _ _ _ ds ∧ RV.of ds = _
    refine ⟨[.sl 11 (List.map eSen (ofE l kind l.length))], (.cons (.tmp rfl (.d _)) .nil), ?_⟩
    rfl
set_option maxHeartbeats 4000000 in
set_option maxRecDepth 100000 in
theorem ofR (l : List Sen) (kind : Int) (hl : l.length ≤ 100) : Ctr Try.prog 22 [.sl 11 (List.map eSen l), .fl (.int .i64 kind)] (.d (.sl 11 (List.map eSen (ofE l kind l.length)))) := by
  refine ctr (n := 28) (rs := #[.tmp 4]) (L := [(0, .d (.sl 11 (List.map eSen l))), (1, .d (.fl (.int .i64 kind)))]) Try.func22 rfl rfl rfl rfl rfl (fun w0 U0 => ?_)
  refine a_rseq ?_
  refine rg_put (d := 4) (v := .d (.fl (.slice none 0 0))) rfl (og rfl (op_assign rfl rfl rfl)) ?_
  refine rg_done rfl ?_
  refine a_rseq ?_
  refine rg_put (d := 5) (v := .d (.fl (.slice none 0 0))) rfl (og rfl (op_assign rfl rfl rfl)) ?_
  refine rg_done rfl ?_
  refine a_seq ?_
  refine a_rseq ?_
  refine rg_imp (imp_nilT 5 101 31 11 rfl rfl) ?_
  refine rg_put (d := 6) (v := .d (.fl (.int .i64 0))) rfl (og rfl (op_assign rfl rfl rfl)) ?_
  refine rg_done rfl ?_
  refine a_block ?_
  refine a_loop (ι := Nat) (fun k => SS [(0, .d (.sl 11 (List.map eSen l))), (1, .d (.fl (.int .i64 kind))), (4, .d (.fl (.slice none 0 0))), (6, .d (.fl (.int .i64 (k : Int)))), (5, .ow 101)] [(101, .tr 31 11 (tD eSen (ofE l kind k)))]) (fun k => k ≤ l.length) (fun k => l.length - k) 0 (by omega) (imp_forget rfl ⟨rfl, rfl, rfl, (by first | rfl | exact ci (by omega) | exact ci (by simp) | exact cd (by simp) | simp), (by first | rfl | exact ci (by omega) | exact ci (by simp) | exact cd (by simp) | simp), trivial⟩ ⟨rfl, trivial⟩) (fun k hok => ?_)
  have hk := hok
  have hnl := ofE_len l kind k
  refine a_seq ?_
  refine a_rseq ?_
  refine rg_put (d := 7) (v := .d (.fl (.int .i64 (k : Int)))) rfl (og rfl (op_move rfl rfl rfl)) ?_
  refine rg_put (d := 8) (v := .d (.sl 11 (List.map eSen l))) rfl (og rfl (op_move rfl rfl rfl)) ?_
  refine rg_put (d := 9) (v := .d (.fl (.int .i64 (l.length : Int)))) rfl (og rfl (s_len rfl Try.underlying22 rfl rfl)) ?_
  refine rg_put (d := 10) (v := .d (.fl (.bool ((decide ((k : Int) < (l.length : Int))))))) rfl (og rfl (op_bin rfl rfl rfl (b_lss _ _ _ _) rfl)) ?_
  refine rg_done rfl ?_
  refine a_cond rfl (fun h1 => ?_) (fun h1 => ?_)
  · skip
    have h2 := t_dec h1
    refine a_skip ?_
    show A _ _ _ _ _ _ _
    refine a_seq ?_
    refine a_block ?_
    refine a_rseq ?_
    refine rg_put (d := 13) (v := .d (.sl 11 (List.map eSen l))) rfl (og rfl (op_move rfl rfl rfl)) ?_
    refine rg_put (d := 14) (v := .d (.fl (.int .i64 (k : Int)))) rfl (og rfl (op_move rfl rfl rfl)) ?_
    refine rg_put (d := 15) (v := .el ((eSen (ix l k)))) rfl (og rfl (s_index rfl Try.underlying22 ti31 rfl rfl (by omega) (row_at (by omega)) rfl)) ?_
    refine rg_put (d := 16) (v := .el ((List.drop 10 ((eSen (ix l k)))))) rfl (og rfl (of_eff (s_field_el rfl Try.underlying31 rfl ti3 rfl rfl rfl) rfl)) ?_
    refine rg_put (d := 17) (v := .d (.fl (.int .i64 ((ix l k).kind)))) rfl (og rfl (op_load_el rfl Try.underlying3 rfl rfl rfl rfl)) ?_
    refine rg_put (d := 18) (v := .d (.fl (.int .i64 kind))) rfl (og rfl (op_move rfl rfl rfl)) ?_
    refine rg_put (d := 19) (v := .d (.fl (.bool (((ix l k).kind == kind))))) rfl (og rfl (op_bin rfl rfl rfl (b_eql _ _ _ _) rfl)) ?_
    refine rg_done rfl ?_
    refine a_cond rfl (fun h3 => ?_) (fun h3 => ?_)
    · skip
      have h4 := t_beq h3
      refine a_region ?_
      refine rg_put (d := 20) (v := .ow 101) rfl (og rfl (op_move rfl rfl rfl)) ?_
      refine rg_put (d := 21) (v := .d (.sl 11 (List.map eSen l))) rfl (og rfl (op_move rfl rfl rfl)) ?_
      refine rg_put (d := 22) (v := .d (.fl (.int .i64 (k : Int)))) rfl (og rfl (op_move rfl rfl rfl)) ?_
      refine rg_put (d := 23) (v := .el ((eSen (ix l k)))) rfl (og rfl (s_index rfl Try.underlying22 ti31 rfl rfl (by omega) (row_at (by omega)) rfl)) ?_
      refine rg_put (d := 24) (v := .d (.ag (eSen (ix l k)))) rfl (og rfl (of_eff (s_load_els rfl Try.underlying31 rfl ti31 rfl rfl rfl) rfl)) ?_
      refine rg_put (d := 25) (v := .d (.sl 11 (List.map eSen [(ix l k)]))) rfl (og rfl (of_eff (op_slices rfl Try.underlying22 ti31 rfl rfl rfl (by kernel_rfl) (xs := [.ag (eSen (ix l k))]) rfl rfl (.cons rfl rfl (.d _) rfl rfl rfl .nil) rfl) rfl)) ?_
      refine rg_nam (d := 26) (v := .ow 102) (m := 102) (nw := [(102, .tr 31 11 (tD eSen (((ofE l kind k) ++ [(ix l k)])))), (101, .no)]) rfl (og rfl (of_eff (s_append_td 102 rfl Try.underlying22 ti31 rfl rfl rfl rfl rfl (.d _) (by simp only [List.length_append, List.length_cons, List.length_nil]; omega) rfl) rfl)) rfl ?_
      refine rg_put (d := 5) (v := .ow 102) rfl (og rfl (op_assign rfl rfl rfl)) ?_
      refine rg_done rfl ?_
      show A _ _ _ _ _ _ _
      refine a_region ?_
      refine rg_put (d := 11) (v := .d (.fl (.int .i64 (k : Int)))) rfl (og rfl (op_move rfl rfl rfl)) ?_
      refine rg_put (d := 12) (v := .d (.fl (.int .i64 (((k : Int) + 1))))) rfl (og rfl (op_bin rfl rfl rfl (fun x y w => b_add64 _ _ _ x y w (by omega)) rfl)) ?_
      refine rg_put (d := 6) (v := .d (.fl (.int .i64 (((k : Int) + 1))))) rfl (og rfl (op_assign rfl rfl rfl)) ?_
      refine rg_done rfl ?_
      show ∃ i, _ ∧ _ ∧ Imp _ _ _ _ _
      refine ⟨k + 1, (by omega), by omega, imp_ren (fun m => bif Nat.beq m 101 then 102 else m) rfl ⟨rfl, rfl, rfl, (by first | rfl | exact ci (by omega) | exact ci (by simp) | exact cd (by simp) | simp), rfl, trivial⟩ ⟨(congrArg (fun z => Ob.tr 31 11 (tD eSen z)) (ofE_y (by omega) h3)), trivial⟩⟩
    · skip
      have h5 := f_beq h3
      refine a_skip ?_
      show A _ _ _ _ _ _ _
      refine a_region ?_
      refine rg_put (d := 11) (v := .d (.fl (.int .i64 (k : Int)))) rfl (og rfl (op_move rfl rfl rfl)) ?_
      refine rg_put (d := 12) (v := .d (.fl (.int .i64 (((k : Int) + 1))))) rfl (og rfl (op_bin rfl rfl rfl (fun x y w => b_add64 _ _ _ x y w (by omega)) rfl)) ?_
      refine rg_put (d := 6) (v := .d (.fl (.int .i64 (((k : Int) + 1))))) rfl (og rfl (op_assign rfl rfl rfl)) ?_
      refine rg_done rfl ?_
      show ∃ i, _ ∧ _ ∧ Imp _ _ _ _ _
      refine ⟨k + 1, (by omega), by omega, imp_forget rfl ⟨rfl, rfl, rfl, (by first | rfl | exact ci (by omega) | exact ci (by simp) | exact cd (by simp) | simp), rfl, trivial⟩ ⟨(congrArg (fun z => Ob.tr 31 11 (tD eSen z)) (ofE_n (by omega) h3)), trivial⟩⟩
  · skip
    have h6 := f_dec h1
    refine a_exit ?_
    show A _ _ _ _ _ _ _
    refine a_rseq ?_
    rw [show (ofE l kind k) = (ofE l kind l.length) from (by rw [show k = l.length by omega])]
    refine rg_put (d := 27) (v := .ow 101) rfl (og rfl (op_move rfl rfl rfl)) ?_
    refine rg_put (d := 4) (v := .ow 101) rfl (og rfl (op_assign rfl rfl rfl)) ?_
    refine rg_done rfl ?_
    refine a_imp (imp_leakT 4 101 rfl rfl) ?_
    refine a_ret ?_
    show ∃ ds, ResL _ _ _ ds ∧ RV.of ds = _
    refine ⟨[.sl 11 (List.map eSen (ofE l kind l.length))], (.cons (.tmp rfl (.d _)) .nil), ?_⟩
    rfl
end Go.Proofs.Ytipkielpicfobaa.Wk
