/- The greatest number of vehicles, both sides. Condition: at most 40 stays. -/
import Derived.Test.YtjkfajeipbagmaaGreatDoorB1
set_option linter.unusedSimpArgs false
set_option linter.unusedVariables false
namespace Go.Proofs.YtjkfajeipbagmaaGreatDoor.Wk
open Go Go.RowKit Go.Proofs.YtjkfajeipbagmaaGreatDoor.Av
set_option maxHeartbeats 4000000 in
set_option maxRecDepth 100000 in
theorem pkR (l : List Sty) (z : ByteArray) (hl : l.length ≤ 40) : Ctr Tryz.prog 9 [.sl 5 (List.map eSty l), .fl (.string z)] (.tu [.fl (.int .i64 (rf l z l.length).1), .fl (.int .i64 (rf l z l.length).2)]) := by
  refine ctr (n := 48) (rs := #[.tmp 4, .tmp 5]) (L := [(0, .d (.sl 5 (List.map eSty l))), (1, .d (.fl (.string z)))]) Tryz.func9 rfl rfl rfl rfl rfl (fun w0 U0 => ?_)
  refine a_rseq ?_
  refine rg_put (d := 4) (v := .d (.fl (.int .i64 0))) rfl (og rfl (op_assign rfl rfl rfl)) ?_
  refine rg_put (d := 5) (v := .d (.fl (.int .i64 0))) rfl (og rfl (op_assign rfl rfl rfl)) ?_
  refine rg_done rfl ?_
  refine a_rseq ?_
  refine rg_put (d := 6) (v := .d (.fl (.int .i64 0))) rfl (og rfl (op_assign rfl rfl rfl)) ?_
  refine rg_put (d := 7) (v := .d (.fl (.int .i64 0))) rfl (og rfl (op_assign rfl rfl rfl)) ?_
  refine rg_done rfl ?_
  refine a_seq ?_
  refine a_rseq ?_
  refine rg_put (d := 8) (v := .d (.fl (.int .i64 0))) rfl (og rfl (op_assign rfl rfl rfl)) ?_
  refine rg_done rfl ?_
  refine a_block ?_
  refine a_loop (ι := Nat) (fun k => SS [(0, .d (.sl 5 (List.map eSty l))), (1, .d (.fl (.string z))), (4, .d (.fl (.int .i64 0))), (5, .d (.fl (.int .i64 0))), (8, .d (.fl (.int .i64 (k : Int)))), (6, .d (.fl (.int .i64 ((rf l z k).1)))), (7, .d (.fl (.int .i64 ((rf l z k).2))))] []) (fun k => k ≤ l.length) (fun k => l.length - k) 0 (by omega) (imp_forget rfl ⟨rfl, rfl, rfl, rfl, (by first | rfl | exact ci (by omega) | exact ci (by simp) | exact cd (by simp) | simp), rfl, rfl, trivial⟩ trivial) (fun k hok => ?_)
  have hk := hok
  refine a_seq ?_
  refine a_rseq ?_
  refine rg_put (d := 11) (v := .d (.fl (.int .i64 (k : Int)))) rfl (og rfl (op_move rfl rfl rfl)) ?_
  refine rg_put (d := 12) (v := .d (.sl 5 (List.map eSty l))) rfl (og rfl (op_move rfl rfl rfl)) ?_
  refine rg_put (d := 13) (v := .d (.fl (.int .i64 (l.length : Int)))) rfl (og rfl (s_len rfl Tryz.underlying22 rfl rfl)) ?_
  refine rg_put (d := 14) (v := .d (.fl (.bool ((decide ((k : Int) < (l.length : Int))))))) rfl (og rfl (op_bin rfl rfl rfl (b_lss _ _ _ _) rfl)) ?_
  refine rg_done rfl ?_
  refine a_cond rfl (fun h1 => ?_) (fun h1 => ?_)
  · skip
    have h2 := t_dec h1
    refine a_skip ?_
    show A _ _ _ _ _ _ _
    refine a_seq ?_
    refine a_block ?_
    refine a_rseq ?_
    refine rg_put (d := 17) (v := .d (.sl 5 (List.map eSty l))) rfl (og rfl (op_move rfl rfl rfl)) ?_
    refine rg_put (d := 18) (v := .d (.fl (.int .i64 (k : Int)))) rfl (og rfl (op_move rfl rfl rfl)) ?_
    refine rg_put (d := 19) (v := .el ((eSty (ix l k)))) rfl (og rfl (s_index rfl Tryz.underlying22 ti28 rfl rfl (by omega) (row_at (by omega)) rfl)) ?_
    refine rg_put (d := 20) (v := .el ((List.drop 3 ((eSty (ix l k)))))) rfl (og rfl (of_eff (s_field_el rfl Tryz.underlying28 rfl ti26 rfl rfl rfl) rfl)) ?_
    refine rg_put (d := 21) (v := .el ((List.drop 0 ((List.drop 3 ((eSty (ix l k)))))))) rfl (og rfl (of_eff (s_field_el rfl Tryz.underlying26 rfl ti3 rfl rfl rfl) rfl)) ?_
    refine rg_put (d := 22) (v := .d (.fl (.int .i64 (((ix l k).time).fr)))) rfl (og rfl (op_load_el rfl Tryz.underlying3 rfl rfl rfl rfl)) ?_
    refine rg_put (d := 9) (v := .d (.fl (.int .i64 (((ix l k).time).fr)))) rfl (og rfl (op_assign rfl rfl rfl)) ?_
    refine rg_done rfl ?_
    refine a_rseq ?_
    refine rg_put (d := 23) (v := .d (.sl 5 (List.map eSty l))) rfl (og rfl (op_move rfl rfl rfl)) ?_
    refine rg_put (d := 24) (v := .d (.fl (.string z))) rfl (og rfl (op_move rfl rfl rfl)) ?_
    refine rg_put (d := 25) (v := .d (.fl (.int .i64 (((ix l k).time).fr)))) rfl (og rfl (op_move rfl rfl rfl)) ?_
    refine rg_put (d := 26) (v := .d (.fl (.int .i64 ((ct l z (((ix l k).time).fr) l.length))))) rfl (og rfl (op_call rfl Tryz.func10 nm10 rfl (.cons rfl (.d _) (.cons rfl (.d _) (.cons rfl (.d _) .nil))) (prR l z (((ix l k).time).fr) (by omega)) rfl)) ?_
    refine rg_put (d := 10) (v := .d (.fl (.int .i64 ((ct l z (((ix l k).time).fr) l.length))))) rfl (og rfl (op_assign rfl rfl rfl)) ?_
    refine rg_done rfl ?_
    refine a_rseq ?_
    refine rg_put (d := 27) (v := .d (.fl (.int .i64 ((ct l z (((ix l k).time).fr) l.length))))) rfl (og rfl (op_move rfl rfl rfl)) ?_
    refine rg_put (d := 28) (v := .d (.fl (.int .i64 ((rf l z k).1)))) rfl (og rfl (op_move rfl rfl rfl)) ?_
    refine rg_put (d := 29) (v := .d (.fl (.bool ((decide ((rf l z k).1 < (ct l z (((ix l k).time).fr) l.length))))))) rfl (og rfl (op_bin rfl rfl rfl (b_gtr _ _ _ _) rfl)) ?_
    refine rg_put (d := 30) (v := .d (.fl (.bool ((decide ((rf l z k).1 < (ct l z (((ix l k).time).fr) l.length))))))) rfl (og rfl (op_move rfl rfl rfl)) ?_
    rcases fot ((decide ((rf l z k).1 < (ct l z (((ix l k).time).fr) l.length)))) with h3 | h3
    · skip
      have h4 := f_dec h3
      refine rg_put (d := 31) (v := .d (.fl (.int .i64 ((ct l z (((ix l k).time).fr) l.length))))) rfl (oy rfl rfl rfl h3 (op_move rfl rfl rfl)) ?_
      refine rg_put (d := 32) (v := .d (.fl (.int .i64 ((rf l z k).1)))) rfl (oy rfl rfl rfl h3 (op_move rfl rfl rfl)) ?_
      refine rg_put (d := 33) (v := .d (.fl (.bool (((ct l z (((ix l k).time).fr) l.length) == (rf l z k).1))))) rfl (oy rfl rfl rfl h3 (op_bin rfl rfl rfl (b_eql _ _ _ _) rfl)) ?_
      refine rg_put (d := 34) (v := .d (.fl (.bool (((ct l z (((ix l k).time).fr) l.length) == (rf l z k).1))))) rfl (oy rfl rfl rfl h3 (op_move rfl rfl rfl)) ?_
      rcases fot (((ct l z (((ix l k).time).fr) l.length) == (rf l z k).1)) with h5 | h5
      · skip
        have h6 := f_beq h5
        refine rg_put (d := 35) (v := .d (.fl undef)) rfl (on rfl rfl rfl h5) ?_
        refine rg_put (d := 36) (v := .d (.fl undef)) rfl (on rfl rfl rfl h5) ?_
        refine rg_put (d := 37) (v := .d (.fl (.bool false))) rfl (oy rfl rfl rfl h3 (op_pick rfl rfl (by rw [h5]; rfl) rfl)) ?_
        refine rg_put (d := 38) (v := .d (.fl (.bool false))) rfl (oy rfl rfl rfl h3 (op_move rfl rfl rfl)) ?_
        refine rg_put (d := 39) (v := .d (.fl undef)) rfl (on rfl rfl rfl rfl) ?_
        refine rg_put (d := 40) (v := .d (.fl undef)) rfl (on rfl rfl rfl rfl) ?_
        refine rg_put (d := 41) (v := .d (.fl undef)) rfl (on rfl rfl rfl rfl) ?_
        refine rg_put (d := 42) (v := .d (.fl (.bool false))) rfl (oy rfl rfl rfl h3 (op_pick rfl rfl rfl rfl)) ?_
        refine rg_put (d := 43) (v := .d (.fl (.bool false))) rfl (og rfl (op_pick rfl rfl (by rw [h3]; rfl) rfl)) ?_
        refine rg_done rfl ?_
        refine a_condF rfl rfl ?_
        refine a_skip ?_
        show A _ _ _ _ _ _ _
        refine a_region ?_
        refine rg_put (d := 15) (v := .d (.fl (.int .i64 (k : Int)))) rfl (og rfl (op_move rfl rfl rfl)) ?_
        refine rg_put (d := 16) (v := .d (.fl (.int .i64 (((k : Int) + 1))))) rfl (og rfl (op_bin rfl rfl rfl (fun x y w => b_add64 _ _ _ x y w (by omega)) rfl)) ?_
        refine rg_put (d := 8) (v := .d (.fl (.int .i64 (((k : Int) + 1))))) rfl (og rfl (op_assign rfl rfl rfl)) ?_
        refine rg_done rfl ?_
        have hst : rf l z (k + 1) = ((rf l z k).1, (rf l z k).2) := rf_n (by omega)
        show ∃ i, _ ∧ _ ∧ Imp _ _ _ _ _
        refine ⟨k + 1, (by omega), by omega, imp_forget rfl ⟨rfl, rfl, rfl, rfl, (by first | rfl | exact ci (by omega)), (ci (by rw [hst])), (ci (by rw [hst])), trivial⟩ trivial⟩
      · skip
        have h7 := t_beq h5
        refine rg_put (d := 35) (v := .d (.fl (.int .i64 ((ct l z (((ix l k).time).fr) l.length))))) rfl (oy rfl rfl rfl h5 (op_move rfl rfl rfl)) ?_
        refine rg_put (d := 36) (v := .d (.fl (.bool ((decide (0 < (ct l z (((ix l k).time).fr) l.length))))))) rfl (oy rfl rfl rfl h5 (op_bin rfl rfl rfl (b_gtr _ _ _ _) rfl)) ?_
        refine rg_put (d := 37) (v := .d (.fl (.bool ((decide (0 < (ct l z (((ix l k).time).fr) l.length))))))) rfl (oy rfl rfl rfl h3 (op_pick rfl rfl (by rw [h5]; rfl) rfl)) ?_
        refine rg_put (d := 38) (v := .d (.fl (.bool ((decide (0 < (ct l z (((ix l k).time).fr) l.length))))))) rfl (oy rfl rfl rfl h3 (op_move rfl rfl rfl)) ?_
        rcases fot ((decide (0 < (ct l z (((ix l k).time).fr) l.length)))) with h8 | h8
        · skip
          have h9 := f_dec h8
          refine rg_put (d := 39) (v := .d (.fl undef)) rfl (on rfl rfl rfl h8) ?_
          refine rg_put (d := 40) (v := .d (.fl undef)) rfl (on rfl rfl rfl h8) ?_
          refine rg_put (d := 41) (v := .d (.fl undef)) rfl (on rfl rfl rfl h8) ?_
          refine rg_put (d := 42) (v := .d (.fl (.bool false))) rfl (oy rfl rfl rfl h3 (op_pick rfl rfl (by rw [h8]; rfl) rfl)) ?_
          refine rg_put (d := 43) (v := .d (.fl (.bool false))) rfl (og rfl (op_pick rfl rfl (by rw [h3]; rfl) rfl)) ?_
          refine rg_done rfl ?_
          refine a_condF rfl rfl ?_
          refine a_skip ?_
          show A _ _ _ _ _ _ _
          refine a_region ?_
          refine rg_put (d := 15) (v := .d (.fl (.int .i64 (k : Int)))) rfl (og rfl (op_move rfl rfl rfl)) ?_
          refine rg_put (d := 16) (v := .d (.fl (.int .i64 (((k : Int) + 1))))) rfl (og rfl (op_bin rfl rfl rfl (fun x y w => b_add64 _ _ _ x y w (by omega)) rfl)) ?_
          refine rg_put (d := 8) (v := .d (.fl (.int .i64 (((k : Int) + 1))))) rfl (og rfl (op_assign rfl rfl rfl)) ?_
          refine rg_done rfl ?_
          have hst : rf l z (k + 1) = ((rf l z k).1, (rf l z k).2) := rf_n (by omega)
          show ∃ i, _ ∧ _ ∧ Imp _ _ _ _ _
          refine ⟨k + 1, (by omega), by omega, imp_forget rfl ⟨rfl, rfl, rfl, rfl, (by first | rfl | exact ci (by omega)), (ci (by rw [hst])), (ci (by rw [hst])), trivial⟩ trivial⟩
        · skip
          have h10 := t_dec h8
          refine rg_put (d := 39) (v := .d (.fl (.int .i64 (((ix l k).time).fr)))) rfl (oy rfl rfl rfl h8 (op_move rfl rfl rfl)) ?_
          refine rg_put (d := 40) (v := .d (.fl (.int .i64 ((rf l z k).2)))) rfl (oy rfl rfl rfl h8 (op_move rfl rfl rfl)) ?_
          refine rg_put (d := 41) (v := .d (.fl (.bool ((decide (((ix l k).time).fr < (rf l z k).2)))))) rfl (oy rfl rfl rfl h8 (op_bin rfl rfl rfl (b_lss _ _ _ _) rfl)) ?_
          refine rg_put (d := 42) (v := .d (.fl (.bool ((decide (((ix l k).time).fr < (rf l z k).2)))))) rfl (oy rfl rfl rfl h3 (op_pick rfl rfl (by rw [h8]; rfl) rfl)) ?_
          refine rg_put (d := 43) (v := .d (.fl (.bool ((decide (((ix l k).time).fr < (rf l z k).2)))))) rfl (og rfl (op_pick rfl rfl (by rw [h3]; rfl) rfl)) ?_
          refine rg_done rfl ?_
          refine a_cond rfl (fun h11 => ?_) (fun h11 => ?_)
          · skip
            have h12 := t_dec h11
            refine a_region ?_
            refine rg_put (d := 44) (v := .d (.fl (.int .i64 ((ct l z (((ix l k).time).fr) l.length))))) rfl (og rfl (op_move rfl rfl rfl)) ?_
            refine rg_put (d := 45) (v := .d (.fl (.int .i64 (((ix l k).time).fr)))) rfl (og rfl (op_move rfl rfl rfl)) ?_
            refine rg_put (d := 6) (v := .d (.fl (.int .i64 ((ct l z (((ix l k).time).fr) l.length))))) rfl (og rfl (op_assign rfl rfl rfl)) ?_
            refine rg_put (d := 7) (v := .d (.fl (.int .i64 (((ix l k).time).fr)))) rfl (og rfl (op_assign rfl rfl rfl)) ?_
            refine rg_done rfl ?_
            show A _ _ _ _ _ _ _
            refine a_region ?_
            refine rg_put (d := 15) (v := .d (.fl (.int .i64 (k : Int)))) rfl (og rfl (op_move rfl rfl rfl)) ?_
            refine rg_put (d := 16) (v := .d (.fl (.int .i64 (((k : Int) + 1))))) rfl (og rfl (op_bin rfl rfl rfl (fun x y w => b_add64 _ _ _ x y w (by omega)) rfl)) ?_
            refine rg_put (d := 8) (v := .d (.fl (.int .i64 (((k : Int) + 1))))) rfl (og rfl (op_assign rfl rfl rfl)) ?_
            refine rg_done rfl ?_
            have hst : rf l z (k + 1) = ((ct l z (((ix l k).time).fr) l.length), ((ix l k).time).fr) := rf_y (by omega)
            show ∃ i, _ ∧ _ ∧ Imp _ _ _ _ _
            refine ⟨k + 1, (by omega), by omega, imp_forget rfl ⟨rfl, rfl, rfl, rfl, (by first | rfl | exact ci (by omega)), (ci (by rw [hst])), (ci (by rw [hst])), trivial⟩ trivial⟩
          · skip
            have h13 := f_dec h11
            refine a_skip ?_
            show A _ _ _ _ _ _ _
            refine a_region ?_
            refine rg_put (d := 15) (v := .d (.fl (.int .i64 (k : Int)))) rfl (og rfl (op_move rfl rfl rfl)) ?_
            refine rg_put (d := 16) (v := .d (.fl (.int .i64 (((k : Int) + 1))))) rfl (og rfl (op_bin rfl rfl rfl (fun x y w => b_add64 _ _ _ x y w (by omega)) rfl)) ?_
            refine rg_put (d := 8) (v := .d (.fl (.int .i64 (((k : Int) + 1))))) rfl (og rfl (op_assign rfl rfl rfl)) ?_
            refine rg_done rfl ?_
            have hst : rf l z (k + 1) = ((rf l z k).1, (rf l z k).2) := rf_n (by omega)
            show ∃ i, _ ∧ _ ∧ Imp _ _ _ _ _
            refine ⟨k + 1, (by omega), by omega, imp_forget rfl ⟨rfl, rfl, rfl, rfl, (by first | rfl | exact ci (by omega)), (ci (by rw [hst])), (ci (by rw [hst])), trivial⟩ trivial⟩
    · skip
      have h14 := t_dec h3
      refine rg_put (d := 31) (v := .d (.fl undef)) rfl (on rfl rfl rfl h3) ?_
      refine rg_put (d := 32) (v := .d (.fl undef)) rfl (on rfl rfl rfl h3) ?_
      refine rg_put (d := 33) (v := .d (.fl undef)) rfl (on rfl rfl rfl h3) ?_
      refine rg_put (d := 34) (v := .d (.fl undef)) rfl (on rfl rfl rfl h3) ?_
      refine rg_put (d := 35) (v := .d (.fl undef)) rfl (ou rfl rfl rfl) ?_
      refine rg_put (d := 36) (v := .d (.fl undef)) rfl (ou rfl rfl rfl) ?_
      refine rg_put (d := 37) (v := .d (.fl undef)) rfl (on rfl rfl rfl h3) ?_
      refine rg_put (d := 38) (v := .d (.fl undef)) rfl (on rfl rfl rfl h3) ?_
      refine rg_put (d := 39) (v := .d (.fl undef)) rfl (ou rfl rfl rfl) ?_
      refine rg_put (d := 40) (v := .d (.fl undef)) rfl (ou rfl rfl rfl) ?_
      refine rg_put (d := 41) (v := .d (.fl undef)) rfl (ou rfl rfl rfl) ?_
      refine rg_put (d := 42) (v := .d (.fl undef)) rfl (on rfl rfl rfl h3) ?_
      refine rg_put (d := 43) (v := .d (.fl (.bool true))) rfl (og rfl (op_pick rfl rfl (by rw [h3]; rfl) rfl)) ?_
      refine rg_done rfl ?_
      refine a_condK rfl rfl ?_
      refine a_region ?_
      refine rg_put (d := 44) (v := .d (.fl (.int .i64 ((ct l z (((ix l k).time).fr) l.length))))) rfl (og rfl (op_move rfl rfl rfl)) ?_
      refine rg_put (d := 45) (v := .d (.fl (.int .i64 (((ix l k).time).fr)))) rfl (og rfl (op_move rfl rfl rfl)) ?_
      refine rg_put (d := 6) (v := .d (.fl (.int .i64 ((ct l z (((ix l k).time).fr) l.length))))) rfl (og rfl (op_assign rfl rfl rfl)) ?_
      refine rg_put (d := 7) (v := .d (.fl (.int .i64 (((ix l k).time).fr)))) rfl (og rfl (op_assign rfl rfl rfl)) ?_
      refine rg_done rfl ?_
      show A _ _ _ _ _ _ _
      refine a_region ?_
      refine rg_put (d := 15) (v := .d (.fl (.int .i64 (k : Int)))) rfl (og rfl (op_move rfl rfl rfl)) ?_
      refine rg_put (d := 16) (v := .d (.fl (.int .i64 (((k : Int) + 1))))) rfl (og rfl (op_bin rfl rfl rfl (fun x y w => b_add64 _ _ _ x y w (by omega)) rfl)) ?_
      refine rg_put (d := 8) (v := .d (.fl (.int .i64 (((k : Int) + 1))))) rfl (og rfl (op_assign rfl rfl rfl)) ?_
      refine rg_done rfl ?_
      have hst : rf l z (k + 1) = ((ct l z (((ix l k).time).fr) l.length), ((ix l k).time).fr) := rf_y (by omega)
      show ∃ i, _ ∧ _ ∧ Imp _ _ _ _ _
      refine ⟨k + 1, (by omega), by omega, imp_forget rfl ⟨rfl, rfl, rfl, rfl, (by first | rfl | exact ci (by omega)), (ci (by rw [hst])), (ci (by rw [hst])), trivial⟩ trivial⟩
  · skip
    have h15 := f_dec h1
    refine a_exit ?_
    show A _ _ _ _ _ _ _
    refine a_rseq ?_
    refine rg_put (d := 46) (v := .d (.fl (.int .i64 ((rf l z k).1)))) rfl (og rfl (op_move rfl rfl rfl)) ?_
    refine rg_put (d := 47) (v := .d (.fl (.int .i64 ((rf l z k).2)))) rfl (og rfl (op_move rfl rfl rfl)) ?_
    refine rg_put (d := 4) (v := .d (.fl (.int .i64 ((rf l z k).1)))) rfl (og rfl (op_assign rfl rfl rfl)) ?_
    refine rg_put (d := 5) (v := .d (.fl (.int .i64 ((rf l z k).2)))) rfl (og rfl (op_assign rfl rfl rfl)) ?_
    refine rg_done rfl ?_
    refine a_ret ?_
    show ∃ ds, ResL _ _ _ ds ∧ RV.of ds = _
    refine ⟨[.fl (.int .i64 ((rf l z k).1)), .fl (.int .i64 ((rf l z k).2))], (.cons (.tmp rfl (.d _)) (.cons (.tmp rfl (.d _)) .nil)), ?_⟩
    rw [show l.length = k from by omega]; rfl
set_option maxHeartbeats 4000000 in
set_option maxRecDepth 100000 in
theorem pkP (l : List Sty) (z : ByteArray) (hl : l.length ≤ 40) : Ctr Tryz.prog 7 [.sl 5 (List.map eSty l), .fl (.string z)] (.tu [.fl (.int .i64 (rf l z l.length).1), .fl (.int .i64 (rf l z l.length).2)]) := by
  refine ctr (n := 62) (rs := #[.tmp 4, .tmp 5]) (L := [(0, .d (.sl 5 (List.map eSty l))), (1, .d (.fl (.string z)))]) Tryz.func7 rfl rfl rfl rfl rfl (fun w0 U0 => ?_)
  refine a_rseq ?_
  refine rg_put (d := 4) (v := .d (.fl (.int .i64 0))) rfl (og rfl (op_assign rfl rfl rfl)) ?_
  refine rg_put (d := 5) (v := .d (.fl (.int .i64 0))) rfl (og rfl (op_assign rfl rfl rfl)) ?_
  refine rg_done rfl ?_
  refine a_rseq ?_
  refine rg_put (d := 6) (v := .d (.fl (.slice none 0 0))) rfl (og rfl (op_assign rfl rfl rfl)) ?_
  refine rg_done rfl ?_
  refine a_seq ?_
  refine a_rseq ?_
  refine rg_imp (imp_nilT 6 101 64 2 rfl rfl) ?_
  refine rg_put (d := 14) (v := .d (.sl 5 (List.map eSty l))) rfl (og rfl (op_move rfl rfl rfl)) ?_
  refine rg_put (d := 15) (v := .d (.fl (.int .i64 (l.length : Int)))) rfl (og rfl (s_len rfl Tryz.underlying22 rfl rfl)) ?_
  refine rg_put (d := 16) (v := .d (.fl (.int .i64 0))) rfl (og rfl (op_move rfl rfl rfl)) ?_
  refine rg_done rfl ?_
  refine a_block ?_
  refine a_loop (ι := Nat) (fun k => SS [(0, .d (.sl 5 (List.map eSty l))), (1, .d (.fl (.string z))), (4, .d (.fl (.int .i64 0))), (5, .d (.fl (.int .i64 0))), (14, .d (.sl 5 (List.map eSty l))), (15, .d (.fl (.int .i64 (l.length : Int)))), (16, .d (.fl (.int .i64 (k : Int)))), (6, .ow 101)] [(101, .tr 64 2 (tD eMvm (mv l z k)))]) (fun k => k ≤ l.length) (fun k => l.length - k) 0 (by omega) (imp_forget rfl ⟨rfl, rfl, rfl, rfl, rfl, rfl, (by first | rfl | exact ci (by omega) | exact ci (by simp) | exact cd (by simp) | simp), (by first | rfl | exact ci (by omega) | exact ci (by simp) | exact cd (by simp) | simp), trivial⟩ ⟨rfl, trivial⟩) (fun k hok => ?_)
  have hk := hok
  have hml := mv_len l z k
  refine a_rseq ?_
  refine rg_put (d := 17) (v := .d (.fl (.bool ((decide ((k : Int) < (l.length : Int))))))) rfl (og rfl (op_bin rfl rfl rfl (b_lss _ _ _ _) rfl)) ?_
  refine rg_done rfl ?_
  refine a_seq ?_
  refine a_cond rfl (fun h1 => ?_) (fun h1 => ?_)
  · skip
    have h2 := t_dec h1
    refine a_skip ?_
    show A _ _ _ _ _ _ _
    refine a_seq ?_
    refine a_block ?_
    refine a_rseq ?_
    refine rg_put (d := 18) (v := .el ((eSty (ix l k)))) rfl (og rfl (s_index rfl Tryz.underlying22 ti28 rfl rfl (by omega) (row_at (by omega)) rfl)) ?_
    refine rg_put (d := 19) (v := .d (.ag (eSty (ix l k)))) rfl (og rfl (of_eff (s_load_els rfl Tryz.underlying28 rfl ti28 rfl rfl rfl) rfl)) ?_
    refine rg_nam (d := 8) (v := .pt 102 0) (m := 102) (nw := [(102, .bx 28 ([.fl (.string (⟨#[]⟩)), .fl (.string (⟨#[]⟩)), .fl (.string (⟨#[]⟩)), .fl (.int .i64 0), .fl (.int .i64 0)]))]) rfl (og rfl (of_eff (s_alloc 102 rfl ti28 (by kernel_rfl) rfl) rfl)) rfl ?_
    refine rg_sto (nw := [(102, .bx 28 ((eSty (ix l k))))]) rfl (og rfl (of_eff (s_store rfl rfl ti28 rfl rfl rfl rfl rfl rfl) rfl)) ?_
    refine rg_done rfl ?_
    refine a_rseq ?_
    refine rg_put (d := 20) (v := .pt 102 1) rfl (og rfl (of_eff (s_field_pt rfl Tryz.underlying28 rfl ti9 rfl rfl rfl) rfl)) ?_
    refine rg_put (d := 21) (v := .d (.fl (.string ((ix l k).zone)))) rfl (og rfl (op_load_pt rfl Tryz.underlying9 rfl rfl rfl rfl rfl)) ?_
    refine rg_put (d := 22) (v := .d (.fl (.string z))) rfl (og rfl (op_move rfl rfl rfl)) ?_
    refine rg_put (d := 23) (v := .d (.fl (.bool ((sEq ((ix l k).zone) z))))) rfl (og rfl (op_bin rfl rfl rfl (b_seq _ _ _) rfl)) ?_
    refine rg_put (d := 24) (v := .d (.fl (.bool ((sEq ((ix l k).zone) z))))) rfl (og rfl (op_move rfl rfl rfl)) ?_
    rcases fot ((sEq ((ix l k).zone) z)) with h3 | h3
    · skip
      refine rg_put (d := 25) (v := .d (.fl undef)) rfl (on rfl rfl rfl h3) ?_
      refine rg_put (d := 26) (v := .d (.fl undef)) rfl (on rfl rfl rfl h3) ?_
      refine rg_put (d := 27) (v := .d (.fl undef)) rfl (on rfl rfl rfl h3) ?_
      refine rg_put (d := 28) (v := .d (.fl (.bool false))) rfl (og rfl (op_pick rfl rfl (by rw [h3]; rfl) rfl)) ?_
      refine rg_done rfl ?_
      refine a_condF rfl rfl ?_
      refine a_skip ?_
      show A _ _ _ _ _ _ _
      refine a_region ?_
      refine rg_put (d := 40) (v := .d (.fl (.int .i64 (((k : Int) + 1))))) rfl (og rfl (op_bin rfl rfl rfl (fun x y w => b_add64 _ _ _ x y w (by omega)) rfl)) ?_
      refine rg_put (d := 16) (v := .d (.fl (.int .i64 (((k : Int) + 1))))) rfl (og rfl (op_move rfl rfl rfl)) ?_
      refine rg_done rfl ?_
      have hx : (sEq (ix l k).zone z && vl (ix l k).time) = false := by simp only [h1, h3, Bool.true_or, Bool.false_or, Bool.or_true, Bool.or_false, Bool.not_true, Bool.not_false, cond_true, cond_false, Bool.true_and, Bool.false_and, Bool.and_true, Bool.and_false] <;> rfl
      have hst : (mv l z k) = mv l z (k + 1) := (mv_n hx).symm
      show ∃ i, _ ∧ _ ∧ Imp _ _ _ _ _
      refine ⟨k + 1, (by omega), by omega, imp_forget rfl ⟨rfl, rfl, rfl, rfl, rfl, rfl, (by first | rfl | exact ci (by omega) | exact ci (by simp) | exact cd (by simp) | simp), rfl, trivial⟩ ⟨(congrArg (fun z => Ob.tr 64 2 (tD eMvm z)) hst), trivial⟩⟩
    · skip
      refine rg_put (d := 25) (v := .pt 102 3) rfl (oy rfl rfl rfl h3 (of_eff (s_field_pt rfl Tryz.underlying28 rfl ti26 rfl rfl rfl) rfl)) ?_
      refine rg_put (d := 26) (v := .d (.ag (eItv ((ix l k).time)))) rfl (oy rfl rfl rfl h3 (of_eff (s_load_pts rfl Tryz.underlying26 rfl ti26 rfl rfl rfl rfl) rfl)) ?_
      refine rg_put (d := 27) (v := .d (.fl (.bool ((vl ((ix l k).time)))))) rfl (oy rfl rfl rfl h3 (op_call rfl Tryz.func18 nm18 rfl (.cons rfl (.d _) .nil) (vlP ((ix l k).time)) rfl)) ?_
      refine rg_put (d := 28) (v := .d (.fl (.bool ((vl ((ix l k).time)))))) rfl (og rfl (op_pick rfl rfl (by rw [h3]; rfl) rfl)) ?_
      refine rg_done rfl ?_
      refine a_cond rfl (fun h4 => ?_) (fun h4 => ?_)
      · skip
        refine a_region ?_
        refine rg_put (d := 29) (v := .ow 101) rfl (og rfl (op_move rfl rfl rfl)) ?_
        refine rg_put (d := 30) (v := .pt 102 3) rfl (og rfl (of_eff (s_field_pt rfl Tryz.underlying28 rfl ti26 rfl rfl rfl) rfl)) ?_
        refine rg_put (d := 31) (v := .pt 102 3) rfl (og rfl (of_eff (s_field_pt rfl Tryz.underlying26 rfl ti3 rfl rfl rfl) rfl)) ?_
        refine rg_put (d := 32) (v := .d (.fl (.int .i64 (((ix l k).time).fr)))) rfl (og rfl (op_load_pt rfl Tryz.underlying3 rfl rfl rfl rfl rfl)) ?_
        refine rg_put (d := 33) (v := .d (.ag (eMvm ((Mvm.mk (((ix l k).time).fr) 1))))) rfl (og rfl (of_eff (op_build rfl Tryz.underlying64 ti64 rfl (by kernel_rfl) (by kernel_rfl) (pl := #[(0, 1), (1, 1)]) (by kernel_rfl) (.cons rfl rfl (.d _) rfl rfl rfl (.cons rfl rfl (.d _) rfl rfl rfl .nil)) rfl) rfl)) ?_
        refine rg_put (d := 34) (v := .pt 102 3) rfl (og rfl (of_eff (s_field_pt rfl Tryz.underlying28 rfl ti26 rfl rfl rfl) rfl)) ?_
        refine rg_put (d := 35) (v := .pt 102 4) rfl (og rfl (of_eff (s_field_pt rfl Tryz.underlying26 rfl ti3 rfl rfl rfl) rfl)) ?_
        refine rg_put (d := 36) (v := .d (.fl (.int .i64 (((ix l k).time).to)))) rfl (og rfl (op_load_pt rfl Tryz.underlying3 rfl rfl rfl rfl rfl)) ?_
        refine rg_put (d := 37) (v := .d (.ag (eMvm ((Mvm.mk (((ix l k).time).to) (-1)))))) rfl (og rfl (of_eff (op_build rfl Tryz.underlying64 ti64 rfl (by kernel_rfl) (by kernel_rfl) (pl := #[(0, 1), (1, 1)]) (by kernel_rfl) (.cons rfl rfl (.d _) rfl rfl rfl (.cons rfl rfl (.d _) rfl rfl rfl .nil)) rfl) rfl)) ?_
        refine rg_put (d := 38) (v := .d (.sl 2 (List.map eMvm [(Mvm.mk (((ix l k).time).fr) 1), (Mvm.mk (((ix l k).time).to) (-1))]))) rfl (og rfl (of_eff (op_slices rfl Tryz.underlying61 ti64 rfl rfl rfl (by kernel_rfl) (xs := [.ag (eMvm ((Mvm.mk (((ix l k).time).fr) 1))), .ag (eMvm ((Mvm.mk (((ix l k).time).to) (-1))))]) rfl rfl (.cons rfl rfl (.d _) rfl rfl rfl (.cons rfl rfl (.d _) rfl rfl rfl .nil)) rfl) rfl)) ?_
        refine rg_nam (d := 39) (v := .ow 103) (m := 103) (nw := [(103, .tr 64 2 (tD eMvm (((mv l z k) ++ [(Mvm.mk (((ix l k).time).fr) 1), (Mvm.mk (((ix l k).time).to) (-1))])))), (101, .no)]) rfl (og rfl (of_eff (s_append_td 103 rfl Tryz.underlying61 ti64 rfl rfl rfl rfl rfl (.d _) (by first | omega | (simp only [List.length_append, List.length_cons, List.length_nil]; omega)) rfl) rfl)) rfl ?_
        refine rg_put (d := 6) (v := .ow 103) rfl (og rfl (op_assign rfl rfl rfl)) ?_
        refine rg_done rfl ?_
        show A _ _ _ _ _ _ _
        refine a_region ?_
        refine rg_put (d := 40) (v := .d (.fl (.int .i64 (((k : Int) + 1))))) rfl (og rfl (op_bin rfl rfl rfl (fun x y w => b_add64 _ _ _ x y w (by omega)) rfl)) ?_
        refine rg_put (d := 16) (v := .d (.fl (.int .i64 (((k : Int) + 1))))) rfl (og rfl (op_move rfl rfl rfl)) ?_
        refine rg_done rfl ?_
        have hx : (sEq (ix l k).zone z && vl (ix l k).time) = true := by simp only [h1, h3, h4, Bool.true_or, Bool.false_or, Bool.or_true, Bool.or_false, Bool.not_true, Bool.not_false, cond_true, cond_false, Bool.true_and, Bool.false_and, Bool.and_true, Bool.and_false] <;> rfl
        have hst : ((mv l z k) ++ [(Mvm.mk (((ix l k).time).fr) 1), (Mvm.mk (((ix l k).time).to) (-1))]) = mv l z (k + 1) := (mv_y hx).symm
        show ∃ i, _ ∧ _ ∧ Imp _ _ _ _ _
        refine ⟨k + 1, (by omega), by omega, imp_ren (fun m => bif Nat.beq m 101 then 103 else m) rfl ⟨rfl, rfl, rfl, rfl, rfl, rfl, (by first | rfl | exact ci (by omega) | exact ci (by simp) | exact cd (by simp) | simp), rfl, trivial⟩ ⟨(congrArg (fun z => Ob.tr 64 2 (tD eMvm z)) hst), trivial⟩⟩
      · skip
        refine a_skip ?_
        show A _ _ _ _ _ _ _
        refine a_region ?_
        refine rg_put (d := 40) (v := .d (.fl (.int .i64 (((k : Int) + 1))))) rfl (og rfl (op_bin rfl rfl rfl (fun x y w => b_add64 _ _ _ x y w (by omega)) rfl)) ?_
        refine rg_put (d := 16) (v := .d (.fl (.int .i64 (((k : Int) + 1))))) rfl (og rfl (op_move rfl rfl rfl)) ?_
        refine rg_done rfl ?_
        have hx : (sEq (ix l k).zone z && vl (ix l k).time) = false := by simp only [h1, h3, h4, Bool.true_or, Bool.false_or, Bool.or_true, Bool.or_false, Bool.not_true, Bool.not_false, cond_true, cond_false, Bool.true_and, Bool.false_and, Bool.and_true, Bool.and_false] <;> rfl
        have hst : (mv l z k) = mv l z (k + 1) := (mv_n hx).symm
        show ∃ i, _ ∧ _ ∧ Imp _ _ _ _ _
        refine ⟨k + 1, (by omega), by omega, imp_forget rfl ⟨rfl, rfl, rfl, rfl, rfl, rfl, (by first | rfl | exact ci (by omega) | exact ci (by simp) | exact cd (by simp) | simp), rfl, trivial⟩ ⟨(congrArg (fun z => Ob.tr 64 2 (tD eMvm z)) hst), trivial⟩⟩
  · skip
    have h5 := f_dec h1
    refine a_exit ?_
    show A _ _ _ _ _ _ _
    refine a_rseq ?_
    have hke : k = l.length := by omega
    rw [show (mv l z k) = (mv l z l.length) from (by rw [hke])]
    have hml := mv_len l z l.length
    refine rg_put (d := 41) (v := .ow 101) rfl (og rfl (op_move rfl rfl rfl)) ?_
    refine rg_sortE rfl rfl rfl rfl (by rfl) Tryz.func19 nm19 rfl rfl rfl rfl (fun _ => rfl) (p := fun _ => True) (fun _ _ => trivial) sortD (by omega) (fun u hp hs => ?_)
    refine rg_done rfl ?_
    refine a_rseq ?_
    have hul : u.length ≤ 80 := by rw [hp.length_eq]; omega
    have hub : ∀ m ∈ u, -1 ≤ m.b ∧ m.b ≤ 1 := fun m hm => mv_b _ m (hp.subset hm)
    have hsr : Srt u := hs.imp (fun h => cm_le (le_of_sorted cm_neg h))
    refine rg_put (d := 9) (v := .d (.fl (.int .i64 0))) rfl (og rfl (op_assign rfl rfl rfl)) ?_
    refine rg_put (d := 10) (v := .d (.fl (.int .i64 0))) rfl (og rfl (op_assign rfl rfl rfl)) ?_
    refine rg_put (d := 11) (v := .d (.fl (.int .i64 0))) rfl (og rfl (op_assign rfl rfl rfl)) ?_
    refine rg_done rfl ?_
    refine a_seq ?_
    refine a_rseq ?_
    refine rg_put (d := 43) (v := .ow 101) rfl (og rfl (op_move rfl rfl rfl)) ?_
    refine rg_put (d := 44) (v := .d (.fl (.int .i64 (((u).length : Int))))) rfl (og rfl (op_len_tr rfl Tryz.underlying61 rfl rfl tD_len rfl)) ?_
    refine rg_put (d := 45) (v := .d (.fl (.int .i64 0))) rfl (og rfl (op_move rfl rfl rfl)) ?_
    refine rg_done rfl ?_
    refine a_block ?_
    refine a_loop (ι := Nat) (fun i => SS [(0, .d (.sl 5 (List.map eSty l))), (1, .d (.fl (.string z))), (4, .d (.fl (.int .i64 0))), (5, .d (.fl (.int .i64 0))), (6, .ow 101), (14, .d (.sl 5 (List.map eSty l))), (15, .d (.fl (.int .i64 (l.length : Int)))), (16, .d (.fl (.int .i64 (k : Int)))), (17, .d (.fl (.bool ((decide ((k : Int) < (l.length : Int))))))), (43, .ow 101), (44, .d (.fl (.int .i64 (((u).length : Int))))), (45, .d (.fl (.int .i64 (i : Int)))), (9, .d (.fl (.int .i64 (sp u i)))), (10, .d (.fl (.int .i64 ((mf u i).1)))), (11, .d (.fl (.int .i64 ((mf u i).2))))] [(101, .tr 64 2 (tD eMvm u))]) (fun i => i ≤ u.length) (fun i => u.length - i) 0 (by omega) (imp_forget rfl ⟨rfl, rfl, rfl, rfl, rfl, rfl, rfl, rfl, rfl, rfl, rfl, (by first | rfl | exact ci (by omega) | exact ci (by simp) | exact cd (by simp) | simp), rfl, rfl, rfl, trivial⟩ ⟨rfl, trivial⟩) (fun i hok => ?_)
    have hi := hok
    have hsn := sp_in hub i hi
    refine a_rseq ?_
    refine rg_put (d := 46) (v := .d (.fl (.bool ((decide ((i : Int) < ((u).length : Int))))))) rfl (og rfl (op_bin rfl rfl rfl (b_lss _ _ _ _) rfl)) ?_
    refine rg_done rfl ?_
    refine a_seq ?_
    refine a_cond rfl (fun h6 => ?_) (fun h6 => ?_)
    · skip
      have h7 := t_dec h6
      refine a_skip ?_
      show A _ _ _ _ _ _ _
      refine a_seq ?_
      refine a_block ?_
      refine a_rseq ?_
      refine rg_put (d := 47) (v := .pe 101 2 i 0) rfl (og rfl (op_index_tr rfl Tryz.underlying61 ti64 rfl rfl rfl (get_lt (tD_at (by omega))) rfl)) ?_
      refine rg_put (d := 48) (v := .d (.ag (eMvm (ix u i)))) rfl (og rfl (of_eff (op_load_pes rfl Tryz.underlying64 rfl ti64 rfl rfl (tD_at (by omega)) rfl rfl rfl) rfl)) ?_
      refine rg_nam (d := 13) (v := .pt 104 0) (m := 104) (nw := [(104, .bx 64 [.fl (.int .i64 0), .fl (.int .i64 0)])]) rfl (og rfl (of_eff (s_alloc 104 rfl ti64 (by kernel_rfl) rfl) rfl)) rfl ?_
      refine rg_sto (nw := [(104, .bx 64 ((eMvm (ix u i))))]) rfl (og rfl (of_eff (s_store rfl rfl ti64 rfl rfl rfl rfl rfl rfl) rfl)) ?_
      refine rg_done rfl ?_
      refine a_rseq ?_
      have hbi := hub _ (ix_mem (by omega : i < u.length))
      refine rg_put (d := 49) (v := .d (.fl (.int .i64 (sp u i)))) rfl (og rfl (op_move rfl rfl rfl)) ?_
      refine rg_put (d := 50) (v := .pt 104 1) rfl (og rfl (of_eff (s_field_pt rfl Tryz.underlying64 rfl ti3 rfl rfl rfl) rfl)) ?_
      refine rg_put (d := 51) (v := .d (.fl (.int .i64 ((ix u i).b)))) rfl (og rfl (op_load_pt rfl Tryz.underlying3 rfl rfl rfl rfl rfl)) ?_
      refine rg_put (d := 52) (v := .d (.fl (.int .i64 (((sp u i) + (ix u i).b))))) rfl (og rfl (op_bin rfl rfl rfl (fun x y w => b_add64 _ _ _ x y w (by omega)) rfl)) ?_
      refine rg_put (d := 9) (v := .d (.fl (.int .i64 (((sp u i) + (ix u i).b))))) rfl (og rfl (op_assign rfl rfl rfl)) ?_
      refine rg_done rfl ?_
      refine a_rseq ?_
      refine rg_put (d := 53) (v := .d (.fl (.int .i64 (((sp u i) + (ix u i).b))))) rfl (og rfl (op_move rfl rfl rfl)) ?_
      refine rg_put (d := 54) (v := .d (.fl (.int .i64 ((mf u i).1)))) rfl (og rfl (op_move rfl rfl rfl)) ?_
      refine rg_put (d := 55) (v := .d (.fl (.bool ((decide ((mf u i).1 < ((sp u i) + (ix u i).b))))))) rfl (og rfl (op_bin rfl rfl rfl (b_gtr _ _ _ _) rfl)) ?_
      refine rg_done rfl ?_
      refine a_cond rfl (fun h8 => ?_) (fun h8 => ?_)
      · skip
        have h9 := t_dec h8
        refine a_draw (by kernel_rfl) ?_
        refine dr_put (d := 56) (v := .d (.fl (.int .i64 (((sp u i) + (ix u i).b))))) rfl (og rfl (op_move rfl rfl rfl)) ?_
        refine dr_put (d := 57) (v := .pt 104 0) rfl (og rfl (of_eff (s_field_pt rfl Tryz.underlying64 rfl ti3 rfl rfl rfl) rfl)) ?_
        refine dr_put (d := 58) (v := .d (.fl (.int .i64 ((ix u i).t)))) rfl (og rfl (op_load_pt rfl Tryz.underlying3 rfl rfl rfl rfl rfl)) ?_
        refine dr_put (d := 10) (v := .d (.fl (.int .i64 (((sp u i) + (ix u i).b))))) rfl (og rfl (op_assign rfl rfl rfl)) ?_
        refine dr_put (d := 11) (v := .d (.fl (.int .i64 ((ix u i).t)))) rfl (og rfl (op_assign rfl rfl rfl)) ?_
        refine dr_done rfl (by kernel_rfl) (by kernel_rfl) ?_
        show A _ _ _ _ _ _ _
        refine a_region ?_
        refine rg_put (d := 59) (v := .d (.fl (.int .i64 (((i : Int) + 1))))) rfl (og rfl (op_bin rfl rfl rfl (fun x y w => b_add64 _ _ _ x y w (by omega)) rfl)) ?_
        refine rg_put (d := 45) (v := .d (.fl (.int .i64 (((i : Int) + 1))))) rfl (og rfl (op_move rfl rfl rfl)) ?_
        refine rg_done rfl ?_
        have hsp : sp u (i + 1) = ((sp u i) + (ix u i).b) := rfl
        have hst : mf u (i + 1) = (((sp u i) + (ix u i).b), (ix u i).t) := mf_y (by omega)
        show ∃ i, _ ∧ _ ∧ Imp _ _ _ _ _
        refine ⟨i + 1, (by omega), by omega, imp_forget rfl ⟨rfl, rfl, rfl, rfl, rfl, rfl, rfl, rfl, rfl, rfl, rfl, (by first | rfl | exact ci (by omega)), rfl, (ci (by rw [hst])), (ci (by rw [hst])), trivial⟩ ⟨rfl, trivial⟩⟩
      · skip
        have h10 := f_dec h8
        refine a_skip ?_
        show A _ _ _ _ _ _ _
        refine a_region ?_
        refine rg_put (d := 59) (v := .d (.fl (.int .i64 (((i : Int) + 1))))) rfl (og rfl (op_bin rfl rfl rfl (fun x y w => b_add64 _ _ _ x y w (by omega)) rfl)) ?_
        refine rg_put (d := 45) (v := .d (.fl (.int .i64 (((i : Int) + 1))))) rfl (og rfl (op_move rfl rfl rfl)) ?_
        refine rg_done rfl ?_
        have hsp : sp u (i + 1) = ((sp u i) + (ix u i).b) := rfl
        have hst : mf u (i + 1) = ((mf u i).1, (mf u i).2) := mf_n (by omega)
        show ∃ i, _ ∧ _ ∧ Imp _ _ _ _ _
        refine ⟨i + 1, (by omega), by omega, imp_forget rfl ⟨rfl, rfl, rfl, rfl, rfl, rfl, rfl, rfl, rfl, rfl, rfl, (by first | rfl | exact ci (by omega)), rfl, (ci (by rw [hst])), (ci (by rw [hst])), trivial⟩ ⟨rfl, trivial⟩⟩
    · skip
      have h11 := f_dec h6
      refine a_exit ?_
      show A _ _ _ _ _ _ _
      refine a_rseq ?_
      refine rg_put (d := 60) (v := .d (.fl (.int .i64 ((mf u i).1)))) rfl (og rfl (op_move rfl rfl rfl)) ?_
      refine rg_put (d := 61) (v := .d (.fl (.int .i64 ((mf u i).2)))) rfl (og rfl (op_move rfl rfl rfl)) ?_
      refine rg_put (d := 4) (v := .d (.fl (.int .i64 ((mf u i).1)))) rfl (og rfl (op_assign rfl rfl rfl)) ?_
      refine rg_put (d := 5) (v := .d (.fl (.int .i64 ((mf u i).2)))) rfl (og rfl (op_assign rfl rfl rfl)) ?_
      refine rg_done rfl ?_
      refine a_ret ?_
      show ∃ ds, ResL _ _ _ ds ∧ RV.of ds = _
      refine ⟨[.fl (.int .i64 ((mf u i).1)), .fl (.int .i64 ((mf u i).2))], (.cons (.tmp rfl (.d _)) (.cons (.tmp rfl (.d _)) .nil)), ?_⟩
      rw [show rf l z l.length = mf u i from (by rw [show i = u.length from by omega]; exact (rf_pk l z).eq (mf_pk hp hsr))]; rfl
end Go.Proofs.YtjkfajeipbagmaaGreatDoor.Wk
