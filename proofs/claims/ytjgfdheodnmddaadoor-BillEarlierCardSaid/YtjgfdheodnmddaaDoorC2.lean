/- The law of earlier passages. Condition: the table of months reads as it is laid. -/
import Derived.Test.YtjgfdheodnmddaaDoorAl
import Derived.Test.YtjgfdheodnmddaaDoorB2
set_option linter.unusedSimpArgs false
set_option linter.unusedVariables false
namespace Go.Proofs.YtjgfdheodnmddaaDoor.Wk
open Go Go.RowKit Go.Proofs.YtjgfdheodnmddaaDoor.Av
set_option maxHeartbeats 4000000 in
set_option maxRecDepth 100000 in
theorem law4 (l : List Tp) (x : Tp) : CtrK Tryd.prog KK 4 [.sl 5 (List.map eTp l), .ag (eTp x)] (.d (.fl (.bool true))) := by
  refine ctrK (n := 70) (rs := #[.tmp 4]) (L := [(0, .d (.sl 5 (List.map eTp l))), (1, .d (.ag (eTp x)))]) Tryd.func4 rfl rfl rfl rfl rfl (fun w0 U0 hG => ?_)
  refine a_rseq ?_
  refine rg_nam (d := 3) (v := .pt 101 0) (m := 101) (nw := [(101, .bx 28 (eTp x))]) rfl (og rfl (of_eff (op_box 101 rfl rfl rfl rfl) rfl)) rfl ?_
  refine rg_put (d := 4) (v := .d (.fl (.bool false))) rfl (og rfl (op_assign rfl rfl rfl)) ?_
  refine rg_done rfl ?_
  refine a_seq ?_
  refine a_rseq ?_
  refine rg_put (d := 6) (v := .d (.sl 5 (List.map eTp l))) rfl (og rfl (op_move rfl rfl rfl)) ?_
  refine rg_put (d := 7) (v := .d (.fl (.int .i64 (l.length : Int)))) rfl (og rfl (s_len rfl Tryd.underlying25 rfl rfl)) ?_
  refine rg_put (d := 8) (v := .d (.fl (.bool ((decide (30 < (l.length : Int))))))) rfl (og rfl (op_bin rfl rfl rfl (b_gtr _ _ _ _) rfl)) ?_
  refine rg_put (d := 9) (v := .d (.fl (.bool ((decide (30 < (l.length : Int))))))) rfl (og rfl (op_move rfl rfl rfl)) ?_
  rcases fot ((decide (30 < (l.length : Int)))) with h1 | h1
  · skip
    have h2 := f_dec h1
    refine rg_put (d := 10) (v := .pt 101 4) rfl (oy rfl rfl rfl h1 (of_eff (s_field_pt rfl Tryd.underlying28 rfl ti26 rfl rfl rfl) rfl)) ?_
    refine rg_put (d := 11) (v := .d (.sl 3 (List.map eSto x.stops))) rfl (oy rfl rfl rfl h1 (op_load_pt rfl Tryd.underlying26 rfl rfl rfl rfl rfl)) ?_
    refine rg_put (d := 12) (v := .d (.fl (.int .i64 (x.stops.length : Int)))) rfl (oy rfl rfl rfl h1 (s_len rfl Tryd.underlying26 rfl rfl)) ?_
    refine rg_put (d := 13) (v := .d (.fl (.bool ((decide (8 < (x.stops.length : Int))))))) rfl (oy rfl rfl rfl h1 (op_bin rfl rfl rfl (b_gtr _ _ _ _) rfl)) ?_
    refine rg_put (d := 14) (v := .d (.fl (.bool ((decide (8 < (x.stops.length : Int))))))) rfl (og rfl (op_pick rfl rfl (by rw [h1]; rfl) rfl)) ?_
    refine rg_put (d := 15) (v := .d (.fl (.bool ((decide (8 < (x.stops.length : Int))))))) rfl (og rfl (op_move rfl rfl rfl)) ?_
    rcases fot ((decide (8 < (x.stops.length : Int)))) with h3 | h3
    · skip
      have h4 := f_dec h3
      refine rg_put (d := 16) (v := .pt 101 0) rfl (oy rfl rfl rfl h3 (of_eff (s_field_pt rfl Tryd.underlying28 rfl ti9 rfl rfl rfl) rfl)) ?_
      refine rg_put (d := 17) (v := .d (.fl (.string x.id))) rfl (oy rfl rfl rfl h3 (op_load_pt rfl Tryd.underlying9 rfl rfl rfl rfl rfl)) ?_
      refine rg_put (d := 18) (v := .d (.fl (.int .i64 (x.id.size : Int)))) rfl (oy rfl rfl rfl h3 (op_len_str rfl Tryd.underlying9 rfl rfl)) ?_
      refine rg_put (d := 19) (v := .d (.fl (.bool ((decide (80 < (x.id.size : Int))))))) rfl (oy rfl rfl rfl h3 (op_bin rfl rfl rfl (b_gtr _ _ _ _) rfl)) ?_
      refine rg_put (d := 20) (v := .d (.fl (.bool ((decide (80 < (x.id.size : Int))))))) rfl (og rfl (op_pick rfl rfl (by rw [h3]; rfl) rfl)) ?_
      refine rg_put (d := 21) (v := .d (.fl (.bool ((decide (80 < (x.id.size : Int))))))) rfl (og rfl (op_move rfl rfl rfl)) ?_
      rcases fot ((decide (80 < (x.id.size : Int)))) with h5 | h5
      · skip
        have h6 := f_dec h5
        refine rg_put (d := 22) (v := .pt 101 1) rfl (oy rfl rfl rfl h5 (of_eff (s_field_pt rfl Tryd.underlying28 rfl ti9 rfl rfl rfl) rfl)) ?_
        refine rg_put (d := 23) (v := .d (.fl (.string x.veh))) rfl (oy rfl rfl rfl h5 (op_load_pt rfl Tryd.underlying9 rfl rfl rfl rfl rfl)) ?_
        refine rg_put (d := 24) (v := .d (.fl (.int .i64 (x.veh.size : Int)))) rfl (oy rfl rfl rfl h5 (op_len_str rfl Tryd.underlying9 rfl rfl)) ?_
        refine rg_put (d := 25) (v := .d (.fl (.bool ((decide (40 < (x.veh.size : Int))))))) rfl (oy rfl rfl rfl h5 (op_bin rfl rfl rfl (b_gtr _ _ _ _) rfl)) ?_
        refine rg_put (d := 26) (v := .d (.fl (.bool ((decide (40 < (x.veh.size : Int))))))) rfl (og rfl (op_pick rfl rfl (by rw [h5]; rfl) rfl)) ?_
        refine rg_done rfl ?_
        refine a_cond rfl (fun h7 => ?_) (fun h7 => ?_)
        · skip
          have h8 := t_dec h7
          refine a_rseq ?_
          refine rg_put (d := 27) (v := .d (.fl (.bool true))) rfl (og rfl (op_callK kkst hG rfl Tryd.func10 nm10 rfl .nil alive10 rfl)) ?_
          refine rg_put (d := 4) (v := .d (.fl (.bool true))) rfl (og rfl (op_assign rfl rfl rfl)) ?_
          refine rg_done rfl ?_
          refine a_ret ?_
          show ∃ ds, ResL _ _ _ ds ∧ RV.of ds = _
          refine ⟨[.fl (.bool true)], (.cons (.tmp rfl (.d _)) .nil), ?_⟩
          rfl
        · skip
          have h9 := f_dec h7
          refine a_skip ?_
          show A _ _ _ _ _ _ _
          refine a_seq ?_
          refine a_rseq ?_
          refine rg_put (d := 5) (v := .d (.fl (.int .i64 0))) rfl (og rfl (op_assign rfl rfl rfl)) ?_
          refine rg_done rfl ?_
          refine a_block ?_
          refine a_loop (ι := Nat) (fun k => SS [(0, .d (.sl 5 (List.map eTp l))), (1, .d (.ag (eTp x))), (3, .pt 101 0), (26, .d (.fl (.bool ((decide (40 < (x.veh.size : Int))))))), (5, .d (.fl (.int .i64 (k : Int))))] [(101, .bx 28 (eTp x))]) (fun k => k ≤ l.length ∧ ∀ q, q < k → decide (80 < ((ix l q).id.size : Int)) = false) (fun k => l.length - k) 0 (⟨by omega, fun q h => by omega⟩) (imp_forget rfl ⟨rfl, rfl, rfl, rfl, (by first | rfl | exact ci (by omega) | exact ci (by simp) | exact cd (by simp) | simp), trivial⟩ ⟨rfl, trivial⟩) (fun k hok => ?_)
          obtain ⟨hkk, hq⟩ := hok
          refine a_seq ?_
          refine a_rseq ?_
          refine rg_put (d := 28) (v := .d (.fl (.int .i64 (k : Int)))) rfl (og rfl (op_move rfl rfl rfl)) ?_
          refine rg_put (d := 29) (v := .d (.sl 5 (List.map eTp l))) rfl (og rfl (op_move rfl rfl rfl)) ?_
          refine rg_put (d := 30) (v := .d (.fl (.int .i64 (l.length : Int)))) rfl (og rfl (s_len rfl Tryd.underlying25 rfl rfl)) ?_
          refine rg_put (d := 31) (v := .d (.fl (.bool ((decide ((k : Int) < (l.length : Int))))))) rfl (og rfl (op_bin rfl rfl rfl (b_lss _ _ _ _) rfl)) ?_
          refine rg_done rfl ?_
          refine a_cond rfl (fun h10 => ?_) (fun h10 => ?_)
          · skip
            have h11 := t_dec h10
            refine a_skip ?_
            show A _ _ _ _ _ _ _
            refine a_seq ?_
            refine a_block ?_
            refine a_rseq ?_
            refine rg_put (d := 34) (v := .d (.sl 5 (List.map eTp l))) rfl (og rfl (op_move rfl rfl rfl)) ?_
            refine rg_put (d := 35) (v := .d (.fl (.int .i64 (k : Int)))) rfl (og rfl (op_move rfl rfl rfl)) ?_
            refine rg_put (d := 36) (v := .el ((eTp (ix l k)))) rfl (og rfl (s_index rfl Tryd.underlying25 ti28 rfl rfl (by omega) (row_at (by omega)) rfl)) ?_
            refine rg_put (d := 37) (v := .el ((List.drop 4 ((eTp (ix l k)))))) rfl (og rfl (of_eff (s_field_el rfl Tryd.underlying28 rfl ti26 rfl rfl rfl) rfl)) ?_
            refine rg_put (d := 38) (v := .d (.sl 3 (List.map eSto ((ix l k).stops)))) rfl (og rfl (op_load_el rfl Tryd.underlying26 rfl rfl rfl rfl)) ?_
            refine rg_put (d := 39) (v := .d (.fl (.int .i64 ((((ix l k).stops).length : Int))))) rfl (og rfl (s_len rfl Tryd.underlying26 rfl rfl)) ?_
            refine rg_put (d := 40) (v := .d (.fl (.bool ((decide (8 < (((ix l k).stops).length : Int))))))) rfl (og rfl (op_bin rfl rfl rfl (b_gtr _ _ _ _) rfl)) ?_
            refine rg_put (d := 41) (v := .d (.fl (.bool ((decide (8 < (((ix l k).stops).length : Int))))))) rfl (og rfl (op_move rfl rfl rfl)) ?_
            rcases fot ((decide (8 < (((ix l k).stops).length : Int)))) with h12 | h12
            · skip
              have h13 := f_dec h12
              refine rg_put (d := 42) (v := .d (.sl 5 (List.map eTp l))) rfl (oy rfl rfl rfl h12 (op_move rfl rfl rfl)) ?_
              refine rg_put (d := 43) (v := .d (.fl (.int .i64 (k : Int)))) rfl (oy rfl rfl rfl h12 (op_move rfl rfl rfl)) ?_
              refine rg_put (d := 44) (v := .el ((eTp (ix l k)))) rfl (oy rfl rfl rfl h12 (s_index rfl Tryd.underlying25 ti28 rfl rfl (by omega) (row_at (by omega)) rfl)) ?_
              refine rg_put (d := 45) (v := .el ((List.drop 0 ((eTp (ix l k)))))) rfl (oy rfl rfl rfl h12 (of_eff (s_field_el rfl Tryd.underlying28 rfl ti9 rfl rfl rfl) rfl)) ?_
              refine rg_put (d := 46) (v := .d (.fl (.string ((ix l k).id)))) rfl (oy rfl rfl rfl h12 (op_load_el rfl Tryd.underlying9 rfl rfl rfl rfl)) ?_
              refine rg_put (d := 47) (v := .d (.fl (.int .i64 ((((ix l k).id).size : Int))))) rfl (oy rfl rfl rfl h12 (op_len_str rfl Tryd.underlying9 rfl rfl)) ?_
              refine rg_put (d := 48) (v := .d (.fl (.bool ((decide (80 < (((ix l k).id).size : Int))))))) rfl (oy rfl rfl rfl h12 (op_bin rfl rfl rfl (b_gtr _ _ _ _) rfl)) ?_
              refine rg_put (d := 49) (v := .d (.fl (.bool ((decide (80 < (((ix l k).id).size : Int))))))) rfl (og rfl (op_pick rfl rfl (by rw [h12]; rfl) rfl)) ?_
              refine rg_put (d := 50) (v := .d (.fl (.bool ((decide (80 < (((ix l k).id).size : Int))))))) rfl (og rfl (op_move rfl rfl rfl)) ?_
              rcases fot ((decide (80 < (((ix l k).id).size : Int)))) with h14 | h14
              · skip
                have h15 := f_dec h14
                refine rg_put (d := 51) (v := .d (.sl 5 (List.map eTp l))) rfl (oy rfl rfl rfl h14 (op_move rfl rfl rfl)) ?_
                refine rg_put (d := 52) (v := .d (.fl (.int .i64 (k : Int)))) rfl (oy rfl rfl rfl h14 (op_move rfl rfl rfl)) ?_
                refine rg_put (d := 53) (v := .el ((eTp (ix l k)))) rfl (oy rfl rfl rfl h14 (s_index rfl Tryd.underlying25 ti28 rfl rfl (by omega) (row_at (by omega)) rfl)) ?_
                refine rg_put (d := 54) (v := .el ((List.drop 1 ((eTp (ix l k)))))) rfl (oy rfl rfl rfl h14 (of_eff (s_field_el rfl Tryd.underlying28 rfl ti9 rfl rfl rfl) rfl)) ?_
                refine rg_put (d := 55) (v := .d (.fl (.string ((ix l k).veh)))) rfl (oy rfl rfl rfl h14 (op_load_el rfl Tryd.underlying9 rfl rfl rfl rfl)) ?_
                refine rg_put (d := 56) (v := .d (.fl (.int .i64 ((((ix l k).veh).size : Int))))) rfl (oy rfl rfl rfl h14 (op_len_str rfl Tryd.underlying9 rfl rfl)) ?_
                refine rg_put (d := 57) (v := .d (.fl (.bool ((decide (40 < (((ix l k).veh).size : Int))))))) rfl (oy rfl rfl rfl h14 (op_bin rfl rfl rfl (b_gtr _ _ _ _) rfl)) ?_
                refine rg_put (d := 58) (v := .d (.fl (.bool ((decide (40 < (((ix l k).veh).size : Int))))))) rfl (og rfl (op_pick rfl rfl (by rw [h14]; rfl) rfl)) ?_
                refine rg_done rfl ?_
                refine a_cond rfl (fun h16 => ?_) (fun h16 => ?_)
                · skip
                  have h17 := t_dec h16
                  refine a_rseq ?_
                  refine rg_put (d := 59) (v := .d (.fl (.bool true))) rfl (og rfl (op_callK kkst hG rfl Tryd.func10 nm10 rfl .nil alive10 rfl)) ?_
                  refine rg_put (d := 4) (v := .d (.fl (.bool true))) rfl (og rfl (op_assign rfl rfl rfl)) ?_
                  refine rg_done rfl ?_
                  refine a_ret ?_
                  show ∃ ds, ResL _ _ _ ds ∧ RV.of ds = _
                  refine ⟨[.fl (.bool true)], (.cons (.tmp rfl (.d _)) .nil), ?_⟩
                  rfl
                · skip
                  have h18 := f_dec h16
                  refine a_skip ?_
                  show A _ _ _ _ _ _ _
                  refine a_region ?_
                  refine rg_put (d := 32) (v := .d (.fl (.int .i64 (k : Int)))) rfl (og rfl (op_move rfl rfl rfl)) ?_
                  refine rg_put (d := 33) (v := .d (.fl (.int .i64 (((k : Int) + 1))))) rfl (og rfl (op_bin rfl rfl rfl (fun x y w => b_add64 _ _ _ x y w (by omega)) rfl)) ?_
                  refine rg_put (d := 5) (v := .d (.fl (.int .i64 (((k : Int) + 1))))) rfl (og rfl (op_assign rfl rfl rfl)) ?_
                  refine rg_done rfl ?_
                  have hx : decide (80 < ((ix l k).id.size : Int)) = false := h14
                  show ∃ i, _ ∧ _ ∧ Imp _ _ _ _ _
                  refine ⟨k + 1, ⟨by omega, fun q h => (Nat.lt_succ_iff_lt_or_eq.1 h).elim (hq q) (fun e => by rw [e]; exact hx)⟩, by omega, imp_forget rfl ⟨rfl, rfl, rfl, rfl, (by first | rfl | exact ci (by omega) | exact ci (by simp) | exact cd (by simp) | simp), trivial⟩ ⟨rfl, trivial⟩⟩
              · skip
                have h19 := t_dec h14
                refine rg_put (d := 51) (v := .d (.fl undef)) rfl (on rfl rfl rfl h14) ?_
                refine rg_put (d := 52) (v := .d (.fl undef)) rfl (on rfl rfl rfl h14) ?_
                refine rg_put (d := 53) (v := .d (.fl undef)) rfl (on rfl rfl rfl h14) ?_
                refine rg_put (d := 54) (v := .d (.fl undef)) rfl (on rfl rfl rfl h14) ?_
                refine rg_put (d := 55) (v := .d (.fl undef)) rfl (on rfl rfl rfl h14) ?_
                refine rg_put (d := 56) (v := .d (.fl undef)) rfl (on rfl rfl rfl h14) ?_
                refine rg_put (d := 57) (v := .d (.fl undef)) rfl (on rfl rfl rfl h14) ?_
                refine rg_put (d := 58) (v := .d (.fl (.bool true))) rfl (og rfl (op_pick rfl rfl (by rw [h14]; rfl) rfl)) ?_
                refine rg_done rfl ?_
                refine a_condK rfl rfl ?_
                refine a_rseq ?_
                refine rg_put (d := 59) (v := .d (.fl (.bool true))) rfl (og rfl (op_callK kkst hG rfl Tryd.func10 nm10 rfl .nil alive10 rfl)) ?_
                refine rg_put (d := 4) (v := .d (.fl (.bool true))) rfl (og rfl (op_assign rfl rfl rfl)) ?_
                refine rg_done rfl ?_
                refine a_ret ?_
                show ∃ ds, ResL _ _ _ ds ∧ RV.of ds = _
                refine ⟨[.fl (.bool true)], (.cons (.tmp rfl (.d _)) .nil), ?_⟩
                rfl
            · skip
              have h20 := t_dec h12
              refine rg_put (d := 42) (v := .d (.fl undef)) rfl (on rfl rfl rfl h12) ?_
              refine rg_put (d := 43) (v := .d (.fl undef)) rfl (on rfl rfl rfl h12) ?_
              refine rg_put (d := 44) (v := .d (.fl undef)) rfl (on rfl rfl rfl h12) ?_
              refine rg_put (d := 45) (v := .d (.fl undef)) rfl (on rfl rfl rfl h12) ?_
              refine rg_put (d := 46) (v := .d (.fl undef)) rfl (on rfl rfl rfl h12) ?_
              refine rg_put (d := 47) (v := .d (.fl undef)) rfl (on rfl rfl rfl h12) ?_
              refine rg_put (d := 48) (v := .d (.fl undef)) rfl (on rfl rfl rfl h12) ?_
              refine rg_put (d := 49) (v := .d (.fl (.bool true))) rfl (og rfl (op_pick rfl rfl (by rw [h12]; rfl) rfl)) ?_
              refine rg_put (d := 50) (v := .d (.fl (.bool true))) rfl (og rfl (op_move rfl rfl rfl)) ?_
              refine rg_put (d := 51) (v := .d (.fl undef)) rfl (on rfl rfl rfl rfl) ?_
              refine rg_put (d := 52) (v := .d (.fl undef)) rfl (on rfl rfl rfl rfl) ?_
              refine rg_put (d := 53) (v := .d (.fl undef)) rfl (on rfl rfl rfl rfl) ?_
              refine rg_put (d := 54) (v := .d (.fl undef)) rfl (on rfl rfl rfl rfl) ?_
              refine rg_put (d := 55) (v := .d (.fl undef)) rfl (on rfl rfl rfl rfl) ?_
              refine rg_put (d := 56) (v := .d (.fl undef)) rfl (on rfl rfl rfl rfl) ?_
              refine rg_put (d := 57) (v := .d (.fl undef)) rfl (on rfl rfl rfl rfl) ?_
              refine rg_put (d := 58) (v := .d (.fl (.bool true))) rfl (og rfl (op_pick rfl rfl rfl rfl)) ?_
              refine rg_done rfl ?_
              refine a_condK rfl rfl ?_
              refine a_rseq ?_
              refine rg_put (d := 59) (v := .d (.fl (.bool true))) rfl (og rfl (op_callK kkst hG rfl Tryd.func10 nm10 rfl .nil alive10 rfl)) ?_
              refine rg_put (d := 4) (v := .d (.fl (.bool true))) rfl (og rfl (op_assign rfl rfl rfl)) ?_
              refine rg_done rfl ?_
              refine a_ret ?_
              show ∃ ds, ResL _ _ _ ds ∧ RV.of ds = _
              refine ⟨[.fl (.bool true)], (.cons (.tmp rfl (.d _)) .nil), ?_⟩
              rfl
          · skip
            have h21 := f_dec h10
            refine a_exit ?_
            show A _ _ _ _ _ _ _
            refine a_dseq (by kernel_rfl) ?_
            have hid : ∀ q, q < l.length → (ix l q).id.size ≤ 80 := fun q h => by have := of_decide_eq_false (hq q (by omega)); omega
            refine dr_put (d := 60) (v := .d (.sl 5 (List.map eTp l))) rfl (og rfl (op_move rfl rfl rfl)) ?_
            refine dr_put (d := 61) (v := .d (.ag (eTp x))) rfl (og rfl (of_eff (s_load_pts rfl Tryd.underlying28 rfl ti28 rfl rfl rfl rfl) rfl)) ?_
            refine dr_put (d := 62) (v := .d (.fl (.int .i64 (ear l x)))) rfl (og rfl (op_callK kkst hG rfl Tryd.func11 nm11 rfl (.cons rfl (.d _) (.cons rfl (.d _) .nil)) (earP l x (by omega) hid (by omega)) rfl)) ?_
            refine dr_put (d := 63) (v := .d (.sl 5 (List.map eTp l))) rfl (og rfl (op_move rfl rfl rfl)) ?_
            refine dr_put (d := 64) (v := .d (.ag (eTp x))) rfl (og rfl (of_eff (s_load_pts rfl Tryd.underlying28 rfl ti28 rfl rfl rfl rfl) rfl)) ?_
            refine dr_put (d := 65) (v := .d (.fl (.int .i64 (ear l x)))) rfl (og rfl (op_call rfl Tryd.func12 nm12 rfl (.cons rfl (.d _) (.cons rfl (.d _) .nil)) (earR l x (by omega) hid (by omega)) rfl)) ?_
            refine dr_put (d := 66) (v := .d (.fl (.bool (((ear l x) == (ear l x)))))) rfl (og rfl (op_bin rfl rfl rfl (b_eql _ _ _ _) rfl)) ?_
            refine dr_put (d := 67) (v := .d (.fl (.bool (((ear l x) == (ear l x)))))) rfl (og rfl (op_move rfl rfl rfl)) ?_
            refine dr_put (d := 68) (v := .d (.fl (.bool true))) rfl (oy rfl rfl rfl (eq_self_b _) (op_callK kkst hG rfl Tryd.func10 nm10 rfl .nil alive10 rfl)) ?_
            refine dr_put (d := 69) (v := .d (.fl (.bool true))) rfl (og rfl (op_pick rfl rfl (by rw [(eq_self_b _)]; rfl) rfl)) ?_
            refine dr_put (d := 4) (v := .d (.fl (.bool true))) rfl (og rfl (op_assign rfl rfl rfl)) ?_
            refine dr_done rfl (by kernel_rfl) (by kernel_rfl) ?_
            refine a_ret ?_
            show ∃ ds, ResL _ _ _ ds ∧ RV.of ds = _
            refine ⟨[.fl (.bool true)], (.cons (.tmp rfl (.d _)) .nil), ?_⟩
            rfl
      · skip
        have h22 := t_dec h5
        refine rg_put (d := 22) (v := .d (.fl undef)) rfl (on rfl rfl rfl h5) ?_
        refine rg_put (d := 23) (v := .d (.fl undef)) rfl (on rfl rfl rfl h5) ?_
        refine rg_put (d := 24) (v := .d (.fl undef)) rfl (on rfl rfl rfl h5) ?_
        refine rg_put (d := 25) (v := .d (.fl undef)) rfl (on rfl rfl rfl h5) ?_
        refine rg_put (d := 26) (v := .d (.fl (.bool true))) rfl (og rfl (op_pick rfl rfl (by rw [h5]; rfl) rfl)) ?_
        refine rg_done rfl ?_
        refine a_condK rfl rfl ?_
        refine a_rseq ?_
        refine rg_put (d := 27) (v := .d (.fl (.bool true))) rfl (og rfl (op_callK kkst hG rfl Tryd.func10 nm10 rfl .nil alive10 rfl)) ?_
        refine rg_put (d := 4) (v := .d (.fl (.bool true))) rfl (og rfl (op_assign rfl rfl rfl)) ?_
        refine rg_done rfl ?_
        refine a_ret ?_
        show ∃ ds, ResL _ _ _ ds ∧ RV.of ds = _
        refine ⟨[.fl (.bool true)], (.cons (.tmp rfl (.d _)) .nil), ?_⟩
        rfl
    · skip
      have h23 := t_dec h3
      refine rg_put (d := 16) (v := .d (.fl undef)) rfl (on rfl rfl rfl h3) ?_
      refine rg_put (d := 17) (v := .d (.fl undef)) rfl (on rfl rfl rfl h3) ?_
      refine rg_put (d := 18) (v := .d (.fl undef)) rfl (on rfl rfl rfl h3) ?_
      refine rg_put (d := 19) (v := .d (.fl undef)) rfl (on rfl rfl rfl h3) ?_
      refine rg_put (d := 20) (v := .d (.fl (.bool true))) rfl (og rfl (op_pick rfl rfl (by rw [h3]; rfl) rfl)) ?_
      refine rg_put (d := 21) (v := .d (.fl (.bool true))) rfl (og rfl (op_move rfl rfl rfl)) ?_
      refine rg_put (d := 22) (v := .d (.fl undef)) rfl (on rfl rfl rfl rfl) ?_
      refine rg_put (d := 23) (v := .d (.fl undef)) rfl (on rfl rfl rfl rfl) ?_
      refine rg_put (d := 24) (v := .d (.fl undef)) rfl (on rfl rfl rfl rfl) ?_
      refine rg_put (d := 25) (v := .d (.fl undef)) rfl (on rfl rfl rfl rfl) ?_
      refine rg_put (d := 26) (v := .d (.fl (.bool true))) rfl (og rfl (op_pick rfl rfl rfl rfl)) ?_
      refine rg_done rfl ?_
      refine a_condK rfl rfl ?_
      refine a_rseq ?_
      refine rg_put (d := 27) (v := .d (.fl (.bool true))) rfl (og rfl (op_callK kkst hG rfl Tryd.func10 nm10 rfl .nil alive10 rfl)) ?_
      refine rg_put (d := 4) (v := .d (.fl (.bool true))) rfl (og rfl (op_assign rfl rfl rfl)) ?_
      refine rg_done rfl ?_
      refine a_ret ?_
      show ∃ ds, ResL _ _ _ ds ∧ RV.of ds = _
      refine ⟨[.fl (.bool true)], (.cons (.tmp rfl (.d _)) .nil), ?_⟩
      rfl
  · skip
    have h24 := t_dec h1
    refine rg_put (d := 10) (v := .d (.fl undef)) rfl (on rfl rfl rfl h1) ?_
    refine rg_put (d := 11) (v := .d (.fl undef)) rfl (on rfl rfl rfl h1) ?_
    refine rg_put (d := 12) (v := .d (.fl undef)) rfl (on rfl rfl rfl h1) ?_
    refine rg_put (d := 13) (v := .d (.fl undef)) rfl (on rfl rfl rfl h1) ?_
    refine rg_put (d := 14) (v := .d (.fl (.bool true))) rfl (og rfl (op_pick rfl rfl (by rw [h1]; rfl) rfl)) ?_
    refine rg_put (d := 15) (v := .d (.fl (.bool true))) rfl (og rfl (op_move rfl rfl rfl)) ?_
    refine rg_put (d := 16) (v := .d (.fl undef)) rfl (on rfl rfl rfl rfl) ?_
    refine rg_put (d := 17) (v := .d (.fl undef)) rfl (on rfl rfl rfl rfl) ?_
    refine rg_put (d := 18) (v := .d (.fl undef)) rfl (on rfl rfl rfl rfl) ?_
    refine rg_put (d := 19) (v := .d (.fl undef)) rfl (on rfl rfl rfl rfl) ?_
    refine rg_put (d := 20) (v := .d (.fl (.bool true))) rfl (og rfl (op_pick rfl rfl rfl rfl)) ?_
    refine rg_put (d := 21) (v := .d (.fl (.bool true))) rfl (og rfl (op_move rfl rfl rfl)) ?_
    refine rg_put (d := 22) (v := .d (.fl undef)) rfl (on rfl rfl rfl rfl) ?_
    refine rg_put (d := 23) (v := .d (.fl undef)) rfl (on rfl rfl rfl rfl) ?_
    refine rg_put (d := 24) (v := .d (.fl undef)) rfl (on rfl rfl rfl rfl) ?_
    refine rg_put (d := 25) (v := .d (.fl undef)) rfl (on rfl rfl rfl rfl) ?_
    refine rg_put (d := 26) (v := .d (.fl (.bool true))) rfl (og rfl (op_pick rfl rfl rfl rfl)) ?_
    refine rg_done rfl ?_
    refine a_condK rfl rfl ?_
    refine a_rseq ?_
    refine rg_put (d := 27) (v := .d (.fl (.bool true))) rfl (og rfl (op_callK kkst hG rfl Tryd.func10 nm10 rfl .nil alive10 rfl)) ?_
    refine rg_put (d := 4) (v := .d (.fl (.bool true))) rfl (og rfl (op_assign rfl rfl rfl)) ?_
    refine rg_done rfl ?_
    refine a_ret ?_
    show ∃ ds, ResL _ _ _ ds ∧ RV.of ds = _
    refine ⟨[.fl (.bool true)], (.cons (.tmp rfl (.d _)) .nil), ?_⟩
    rfl
end Go.Proofs.YtjgfdheodnmddaaDoor.Wk
