/- The law. Conditions: numbers of the machine. -/
import Derived.Test.YtdafmaocbkmmgaaDoorM1
import Derived.Test.YtdafmaocbkmmgaaDoorA1
set_option linter.unusedSimpArgs false
set_option linter.unusedVariables false
namespace Go.Proofs.YtdafmaocbkmmgaaDoor.Wk
open Go Go.RowKit Go.Proofs.YtdafmaocbkmmgaaDoor.Av
set_option maxHeartbeats 4000000 in
set_option maxRecDepth 100000 in
theorem law3 (w : Lw) (cal : List Int) (c : Int) (ts : List Tn) (hc : 0 ≤ c ∧ c ≤ 65535) (ht : ∀ a ∈ ts, -9223372036854775808 ≤ a.n ∧ a.n ≤ 9223372036854775807) : Ctr Tryd.prog 3 [.ag (eLw w), .sl 1 (List.map (rI .i64) cal), .fl (.int .u16 c), .sl 3 (List.map eTn ts)] (.d (.fl (.bool true))) := by
  refine ctr (n := 181) (rs := #[.tmp 8]) (L := [(0, .d (.ag (eLw w))), (1, .d (.sl 1 (List.map (rI .i64) cal))), (2, .d (.fl (.int .u16 c))), (3, .d (.sl 3 (List.map eTn ts)))]) Tryd.func3 rfl rfl rfl rfl rfl (fun w0 U0 => ?_)
  refine a_rseq ?_
  refine rg_nam (d := 4) (v := .pt 101 0) (m := 101) (nw := [(101, .bx 24 (eLw w))]) rfl (og rfl (of_eff (op_box 101 rfl rfl rfl rfl) rfl)) rfl ?_
  refine rg_put (d := 8) (v := .d (.fl (.bool false))) rfl (og rfl (op_assign rfl rfl rfl)) ?_
  refine rg_done rfl ?_
  refine a_seq ?_
  refine a_rseq ?_
  refine rg_put (d := 15) (v := .pt 101 0) rfl (og rfl (of_eff (s_field_pt rfl Tryd.underlying24 rfl ti22 rfl rfl rfl) rfl)) ?_
  refine rg_put (d := 16) (v := .d (.sl 1 (List.map (rI .i64) w.days))) rfl (og rfl (op_load_pt rfl Tryd.underlying22 rfl rfl rfl rfl rfl)) ?_
  refine rg_put (d := 17) (v := .d (.fl (.int .i64 (w.days.length : Int)))) rfl (og rfl (s_len rfl Tryd.underlying22 rfl rfl)) ?_
  refine rg_put (d := 18) (v := .d (.fl (.bool ((decide (6 < (w.days.length : Int))))))) rfl (og rfl (op_bin rfl rfl rfl (b_gtr _ _ _ _) rfl)) ?_
  refine rg_put (d := 19) (v := .d (.fl (.bool ((decide (6 < (w.days.length : Int))))))) rfl (og rfl (op_move rfl rfl rfl)) ?_
  rcases fot ((decide (6 < (w.days.length : Int)))) with h1 | h1
  · skip
    have h2 := f_dec h1
    refine rg_put (d := 20) (v := .pt 101 1) rfl (oy rfl rfl rfl h1 (of_eff (s_field_pt rfl Tryd.underlying24 rfl ti22 rfl rfl rfl) rfl)) ?_
    refine rg_put (d := 21) (v := .d (.sl 1 (List.map (rI .i64) w.fees))) rfl (oy rfl rfl rfl h1 (op_load_pt rfl Tryd.underlying22 rfl rfl rfl rfl rfl)) ?_
    refine rg_put (d := 22) (v := .d (.fl (.int .i64 (w.fees.length : Int)))) rfl (oy rfl rfl rfl h1 (s_len rfl Tryd.underlying22 rfl rfl)) ?_
    refine rg_put (d := 23) (v := .d (.fl (.bool ((decide (6 < (w.fees.length : Int))))))) rfl (oy rfl rfl rfl h1 (op_bin rfl rfl rfl (b_gtr _ _ _ _) rfl)) ?_
    refine rg_put (d := 24) (v := .d (.fl (.bool ((decide (6 < (w.fees.length : Int))))))) rfl (og rfl (op_pick rfl rfl (by rw [h1]; rfl) rfl)) ?_
    refine rg_put (d := 25) (v := .d (.fl (.bool ((decide (6 < (w.fees.length : Int))))))) rfl (og rfl (op_move rfl rfl rfl)) ?_
    rcases fot ((decide (6 < (w.fees.length : Int)))) with h3 | h3
    · skip
      have h4 := f_dec h3
      refine rg_put (d := 26) (v := .d (.sl 1 (List.map (rI .i64) cal))) rfl (oy rfl rfl rfl h3 (op_move rfl rfl rfl)) ?_
      refine rg_put (d := 27) (v := .d (.fl (.int .i64 (cal.length : Int)))) rfl (oy rfl rfl rfl h3 (s_len rfl Tryd.underlying22 rfl rfl)) ?_
      refine rg_put (d := 28) (v := .d (.fl (.bool ((decide (40 < (cal.length : Int))))))) rfl (oy rfl rfl rfl h3 (op_bin rfl rfl rfl (b_gtr _ _ _ _) rfl)) ?_
      refine rg_put (d := 29) (v := .d (.fl (.bool ((decide (40 < (cal.length : Int))))))) rfl (og rfl (op_pick rfl rfl (by rw [h3]; rfl) rfl)) ?_
      refine rg_put (d := 30) (v := .d (.fl (.bool ((decide (40 < (cal.length : Int))))))) rfl (og rfl (op_move rfl rfl rfl)) ?_
      rcases fot ((decide (40 < (cal.length : Int)))) with h5 | h5
      · skip
        have h6 := f_dec h5
        refine rg_put (d := 31) (v := .d (.sl 3 (List.map eTn ts))) rfl (oy rfl rfl rfl h5 (op_move rfl rfl rfl)) ?_
        refine rg_put (d := 32) (v := .d (.fl (.int .i64 (ts.length : Int)))) rfl (oy rfl rfl rfl h5 (s_len rfl Tryd.underlying26 rfl rfl)) ?_
        refine rg_put (d := 33) (v := .d (.fl (.bool ((decide (16 < (ts.length : Int))))))) rfl (oy rfl rfl rfl h5 (op_bin rfl rfl rfl (b_gtr _ _ _ _) rfl)) ?_
        refine rg_put (d := 34) (v := .d (.fl (.bool ((decide (16 < (ts.length : Int))))))) rfl (og rfl (op_pick rfl rfl (by rw [h5]; rfl) rfl)) ?_
        refine rg_put (d := 35) (v := .d (.fl (.bool ((decide (16 < (ts.length : Int))))))) rfl (og rfl (op_move rfl rfl rfl)) ?_
        rcases fot ((decide (16 < (ts.length : Int)))) with h7 | h7
        · skip
          have h8 := f_dec h7
          refine rg_put (d := 36) (v := .d (.fl (.int .u16 c))) rfl (oy rfl rfl rfl h7 (op_move rfl rfl rfl)) ?_
          refine rg_put (d := 37) (v := .d (.fl (.bool (c == 0)))) rfl (oy rfl rfl rfl h7 (op_bin rfl rfl rfl (b_eql _ _ _ _) rfl)) ?_
          refine rg_put (d := 38) (v := .d (.fl (.bool (c == 0)))) rfl (og rfl (op_pick rfl rfl (by rw [h7]; rfl) rfl)) ?_
          refine rg_put (d := 39) (v := .d (.fl (.bool (c == 0)))) rfl (og rfl (op_move rfl rfl rfl)) ?_
          rcases fot (c == 0) with h9 | h9
          · skip
            have hc0 : c ≠ 0 := by simpa using h9
            have h10 := f_beq h9
            refine rg_put (d := 40) (v := .d (.ag (eLw w))) rfl (oy rfl rfl rfl h9 (of_eff (s_load_pts rfl Tryd.underlying24 rfl ti24 rfl rfl rfl rfl) rfl)) ?_
            refine rg_put (d := 41) (v := .d (.fl (.int .i64 (ckL w)))) rfl (oy rfl rfl rfl h9 (op_call rfl Tryd.func4 nm4 rfl (.cons rfl (.d _) .nil) (ck13 w) rfl)) ?_
            refine rg_put (d := 42) (v := .d (.fl (.bool (((ckL w) != 0))))) rfl (oy rfl rfl rfl h9 (op_bin rfl rfl rfl (b_neq _ _ _ _) rfl)) ?_
            refine rg_put (d := 43) (v := .d (.fl (.bool (((ckL w) != 0))))) rfl (og rfl (op_pick rfl rfl (by rw [h9]; rfl) rfl)) ?_
            refine rg_done rfl ?_
            refine a_cond rfl (fun h11 => ?_) (fun h11 => ?_)
            · skip
              have h12 := t_bne h11
              refine a_rseq ?_
              refine rg_put (d := 44) (v := .d (.fl (.bool true))) rfl (og rfl (op_call rfl Tryd.func5 nm5 rfl .nil awake5 rfl)) ?_
              refine rg_put (d := 8) (v := .d (.fl (.bool true))) rfl (og rfl (op_assign rfl rfl rfl)) ?_
              refine rg_done rfl ?_
              refine a_ret ?_
              show ∃ ds, ResL _ _ _ ds ∧ RV.of ds = _
              refine ⟨[.fl (.bool true)], (.cons (.tmp rfl (.d _)) .nil), ?_⟩
              rfl
            · skip
              have h13 := f_bne h11
              refine a_skip ?_
              show A _ _ _ _ _ _ _
              refine a_rseq ?_
              have hl0 : cal.length < 9223372036854775807 := by omega
              refine rg_put (d := 46) (v := .d (.fl (.int .u16 c))) rfl (og rfl (op_move rfl rfl rfl)) ?_
              refine rg_put (d := 47) (v := .d (.fl (.int .i64 c))) rfl (og rfl (op_conv rfl Tryd.underlying25 Tryd.underlying3 rfl (w64 (by omega)) rfl)) ?_
              refine rg_put (d := 48) (v := .tu [.ag (eCs ((Cs.mk ⟨#[118, 49]⟩ ⟨#[65, 66, 49, 50]⟩ ⟨#[107]⟩ 0 0 1 c 0 0 (Ap.mk 0 0 0)))), .fl (.int .i64 0)]) rfl (og rfl (op_call rfl Tryd.func6 nm6 rfl (.cons rfl (.d _) (.cons rfl (.d _) (.cons rfl (.d _) (.cons rfl (.d _) (.cons rfl (.d _) .nil))))) (new_top c (by omega)) rfl)) ?_
              refine rg_put (d := 45) (v := .tu [.ag (eCs ((Cs.mk ⟨#[118, 49]⟩ ⟨#[65, 66, 49, 50]⟩ ⟨#[107]⟩ 0 0 1 c 0 0 (Ap.mk 0 0 0)))), .fl (.int .i64 0)]) rfl (og rfl (op_move rfl rfl rfl)) ?_
              refine rg_put (d := 49) (v := .d (.ag (eCs ((Cs.mk ⟨#[118, 49]⟩ ⟨#[65, 66, 49, 50]⟩ ⟨#[107]⟩ 0 0 1 c 0 0 (Ap.mk 0 0 0)))))) rfl (og rfl (op_extract rfl rfl rfl rfl)) ?_
              refine rg_put (d := 50) (v := .d (.fl (.int .i64 0))) rfl (og rfl (op_extract rfl rfl rfl rfl)) ?_
              refine rg_nam (d := 9) (v := .pt 102 0) (m := 102) (nw := [(102, .bx 32 ([.fl (.string (⟨#[]⟩)), .fl (.string (⟨#[]⟩)), .fl (.string (⟨#[]⟩)), .fl (.int .i64 0), .fl (.int .i64 0), .fl (.int .i64 0), .fl (.int .i64 0), .fl (.int .i64 0), .fl (.int .i64 0), .fl (.int .i64 0), .fl (.int .i64 0), .fl (.int .i64 0)]))]) rfl (og rfl (of_eff (s_alloc 102 rfl ti32 (by kernel_rfl) rfl) rfl)) rfl ?_
              refine rg_sto (nw := [(102, .bx 32 ((eCs ((Cs.mk ⟨#[118, 49]⟩ ⟨#[65, 66, 49, 50]⟩ ⟨#[107]⟩ 0 0 1 c 0 0 (Ap.mk 0 0 0))))))]) rfl (og rfl (of_eff (s_store rfl rfl ti32 rfl rfl rfl rfl rfl rfl) rfl)) ?_
              refine rg_put (d := 10) (v := .d (.fl (.int .i64 0))) rfl (og rfl (op_assign rfl rfl rfl)) ?_
              refine rg_done rfl ?_
              refine a_seq ?_
              refine a_rseq ?_
              refine rg_put (d := 51) (v := .d (.fl (.int .i64 0))) rfl (og rfl (op_move rfl rfl rfl)) ?_
              refine rg_put (d := 52) (v := .d (.fl (.bool (0 != 0)))) rfl (og rfl (op_bin rfl rfl rfl (b_neq _ _ _ _) rfl)) ?_
              refine rg_done rfl ?_
              refine a_condF rfl rfl ?_
              refine a_skip ?_
              show A _ _ _ _ _ _ _
              refine a_seq ?_
              refine a_rseq ?_
              refine rg_put (d := 11) (v := .d (.fl (.int .i64 0))) rfl (og rfl (op_assign rfl rfl rfl)) ?_
              refine rg_done rfl ?_
              refine a_block ?_
              refine a_loop (ι := Nat × Cs) (fun p => SS [(0, .d (.ag (eLw w))), (1, .d (.sl 1 (List.map (rI .i64) cal))), (2, .d (.fl (.int .u16 c))), (3, .d (.sl 3 (List.map eTn ts))), (4, .pt 101 0), (9, .pt 102 0), (10, .d (.fl (.int .i64 0))), (43, .d (.fl (.bool (((ckL w) != 0))))), (52, .d (.fl (.bool (0 != 0)))), (11, .d (.fl (.int .i64 (p.1 : Int))))] [(101, .bx 24 (eLw w)), (102, .bx 32 (eCs p.2))]) (fun p => p.1 ≤ ts.length) (fun p => ts.length - p.1) ((0, Cs.mk ⟨#[118, 49]⟩ ⟨#[65, 66, 49, 50]⟩ ⟨#[107]⟩ 0 0 1 c 0 0 (Ap.mk 0 0 0))) (by show 0 ≤ _; omega) (imp_forget rfl ⟨rfl, rfl, rfl, rfl, rfl, rfl, rfl, rfl, rfl, rfl, trivial⟩ ⟨rfl, (by first | rfl | simp), trivial⟩) (fun p hok => ?_)
              have hk := hok
              refine a_seq ?_
              refine a_rseq ?_
              refine rg_put (d := 53) (v := .d (.fl (.int .i64 (p.1 : Int)))) rfl (og rfl (op_move rfl rfl rfl)) ?_
              refine rg_put (d := 54) (v := .d (.sl 3 (List.map eTn ts))) rfl (og rfl (op_move rfl rfl rfl)) ?_
              refine rg_put (d := 55) (v := .d (.fl (.int .i64 (ts.length : Int)))) rfl (og rfl (s_len rfl Tryd.underlying26 rfl rfl)) ?_
              refine rg_put (d := 56) (v := .d (.fl (.bool ((decide ((p.1 : Int) < (ts.length : Int))))))) rfl (og rfl (op_bin rfl rfl rfl (b_lss _ _ _ _) rfl)) ?_
              refine rg_done rfl ?_
              refine a_cond rfl (fun h14 => ?_) (fun h14 => ?_)
              · skip
                have h15 := t_dec h14
                refine a_skip ?_
                show A _ _ _ _ _ _ _
                refine a_seq ?_
                refine a_block ?_
                refine a_rseq ?_
                have htn := ht (ix ts p.1) (ix_mem (by omega))
                refine rg_put (d := 59) (v := .d (.sl 3 (List.map eTn ts))) rfl (og rfl (op_move rfl rfl rfl)) ?_
                refine rg_put (d := 60) (v := .d (.fl (.int .i64 (p.1 : Int)))) rfl (og rfl (op_move rfl rfl rfl)) ?_
                refine rg_put (d := 61) (v := .el ((eTn (ix ts p.1)))) rfl (og rfl (s_index rfl Tryd.underlying26 ti37 rfl rfl (by omega) (row_at (by omega)) rfl)) ?_
                refine rg_put (d := 62) (v := .d (.ag (eTn (ix ts p.1)))) rfl (og rfl (of_eff (s_load_els rfl Tryd.underlying37 rfl ti37 rfl rfl rfl) rfl)) ?_
                refine rg_nam (d := 12) (v := .pt 103 0) (m := 103) (nw := [(103, .bx 37 [.fl (.int .i64 0), .fl (.int .i64 0), .fl (.int .i64 0)])]) rfl (og rfl (of_eff (s_alloc 103 rfl ti37 (by kernel_rfl) rfl) rfl)) rfl ?_
                refine rg_sto (nw := [(103, .bx 37 ((eTn (ix ts p.1))))]) rfl (og rfl (of_eff (s_store rfl rfl ti37 rfl rfl rfl rfl rfl rfl) rfl)) ?_
                refine rg_done rfl ?_
                refine a_seq ?_
                refine a_rseq ?_
                refine rg_put (d := 63) (v := .pt 103 1) rfl (og rfl (of_eff (s_field_pt rfl Tryd.underlying37 rfl ti3 rfl rfl rfl) rfl)) ?_
                refine rg_put (d := 64) (v := .d (.fl (.int .i64 ((ix ts p.1).day)))) rfl (og rfl (op_load_pt rfl Tryd.underlying3 rfl rfl rfl rfl rfl)) ?_
                refine rg_put (d := 65) (v := .d (.fl (.bool ((decide (2000 < (ix ts p.1).day)))))) rfl (og rfl (op_bin rfl rfl rfl (b_gtr _ _ _ _) rfl)) ?_
                refine rg_put (d := 66) (v := .d (.fl (.bool ((decide (2000 < (ix ts p.1).day)))))) rfl (og rfl (op_move rfl rfl rfl)) ?_
                rcases fot ((decide (2000 < (ix ts p.1).day))) with h16 | h16
                · skip
                  have h17 := f_dec h16
                  refine rg_put (d := 67) (v := .pt 103 2) rfl (oy rfl rfl rfl h16 (of_eff (s_field_pt rfl Tryd.underlying37 rfl ti3 rfl rfl rfl) rfl)) ?_
                  refine rg_put (d := 68) (v := .d (.fl (.int .i64 ((ix ts p.1).n)))) rfl (oy rfl rfl rfl h16 (op_load_pt rfl Tryd.underlying3 rfl rfl rfl rfl rfl)) ?_
                  refine rg_put (d := 69) (v := .d (.fl (.bool ((decide (1099511627776 < (ix ts p.1).n)))))) rfl (oy rfl rfl rfl h16 (op_bin rfl rfl rfl (b_gtr _ _ _ _) rfl)) ?_
                  refine rg_put (d := 70) (v := .d (.fl (.bool ((decide (1099511627776 < (ix ts p.1).n)))))) rfl (og rfl (op_pick rfl rfl (by rw [h16]; rfl) rfl)) ?_
                  refine rg_done rfl ?_
                  refine a_cond rfl (fun h18 => ?_) (fun h18 => ?_)
                  · skip
                    have h19 := t_dec h18
                    refine a_rseq ?_
                    refine rg_put (d := 71) (v := .d (.fl (.bool true))) rfl (og rfl (op_call rfl Tryd.func5 nm5 rfl .nil awake5 rfl)) ?_
                    refine rg_put (d := 8) (v := .d (.fl (.bool true))) rfl (og rfl (op_assign rfl rfl rfl)) ?_
                    refine rg_done rfl ?_
                    refine a_ret ?_
                    show ∃ ds, ResL _ _ _ ds ∧ RV.of ds = _
                    refine ⟨[.fl (.bool true)], (.cons (.tmp rfl (.d _)) .nil), ?_⟩
                    rfl
                  · skip
                    have h20 := f_dec h18
                    refine a_skip ?_
                    show A _ _ _ _ _ _ _
                    refine a_rseq ?_
                    refine rg_put (d := 72) (v := .d (.ag (eCs p.2))) rfl (og rfl (of_eff (s_load_pts rfl Tryd.underlying32 rfl ti32 rfl rfl rfl rfl) rfl)) ?_
                    refine rg_nam (d := 13) (v := .pt 104 0) (m := 104) (nw := [(104, .bx 32 ([.fl (.string (⟨#[]⟩)), .fl (.string (⟨#[]⟩)), .fl (.string (⟨#[]⟩)), .fl (.int .i64 0), .fl (.int .i64 0), .fl (.int .i64 0), .fl (.int .i64 0), .fl (.int .i64 0), .fl (.int .i64 0), .fl (.int .i64 0), .fl (.int .i64 0), .fl (.int .i64 0)]))]) rfl (og rfl (of_eff (s_alloc 104 rfl ti32 (by kernel_rfl) rfl) rfl)) rfl ?_
                    refine rg_sto (nw := [(104, .bx 32 (eCs p.2))]) rfl (og rfl (of_eff (s_store rfl rfl ti32 rfl rfl rfl rfl rfl rfl) rfl)) ?_
                    refine rg_put (d := 14) (v := .d (.fl (.int .i64 0))) rfl (og rfl (op_assign rfl rfl rfl)) ?_
                    refine rg_done rfl ?_
                    refine a_seq ?_
                    refine a_rseq ?_
                    refine rg_put (d := 73) (v := .pt 103 0) rfl (og rfl (of_eff (s_field_pt rfl Tryd.underlying37 rfl ti3 rfl rfl rfl) rfl)) ?_
                    refine rg_put (d := 74) (v := .d (.fl (.int .i64 ((ix ts p.1).act)))) rfl (og rfl (op_load_pt rfl Tryd.underlying3 rfl rfl rfl rfl rfl)) ?_
                    refine rg_done rfl ?_
                    refine a_block ?_
                    refine a_rseq ?_
                    refine rg_put (d := 81) (v := .d (.fl (.bool (((ix ts p.1).act == 0))))) rfl (og rfl (op_bin rfl rfl rfl (b_eql _ _ _ _) rfl)) ?_
                    refine rg_put (d := 80) (v := .d (.fl (.bool (((ix ts p.1).act == 0))))) rfl (og rfl (op_assign rfl rfl rfl)) ?_
                    refine rg_done rfl ?_
                    refine a_cond rfl (fun h21 => ?_) (fun h21 => ?_)
                    · skip
                      have h22 := t_beq h21
                      refine a_region ?_
                      refine rg_put (d := 83) (v := .d (.ag (eLw w))) rfl (og rfl (of_eff (s_load_pts rfl Tryd.underlying24 rfl ti24 rfl rfl rfl rfl) rfl)) ?_
                      refine rg_put (d := 84) (v := .d (.sl 1 (List.map (rI .i64) cal))) rfl (og rfl (op_move rfl rfl rfl)) ?_
                      refine rg_put (d := 85) (v := .d (.ag (eCs p.2))) rfl (og rfl (of_eff (s_load_pts rfl Tryd.underlying32 rfl ti32 rfl rfl rfl rfl) rfl)) ?_
                      refine rg_put (d := 86) (v := .pt 103 1) rfl (og rfl (of_eff (s_field_pt rfl Tryd.underlying37 rfl ti3 rfl rfl rfl) rfl)) ?_
                      refine rg_put (d := 87) (v := .d (.fl (.int .i64 ((ix ts p.1).day)))) rfl (og rfl (op_load_pt rfl Tryd.underlying3 rfl rfl rfl rfl rfl)) ?_
                      refine rg_put (d := 88) (v := .tu [.ag (eCs ((adv w cal p.2 ((ix ts p.1).day)).1)), .fl (.int .i64 ((adv w cal p.2 ((ix ts p.1).day)).2))]) rfl (og rfl (op_call rfl Tryd.func7 nm7 rfl (.cons rfl (.d _) (.cons rfl (.d _) (.cons rfl (.d _) (.cons rfl (.d _) .nil)))) (adv17 w cal p.2 ((ix ts p.1).day) hl0) rfl)) ?_
                      refine rg_put (d := 82) (v := .tu [.ag (eCs ((adv w cal p.2 ((ix ts p.1).day)).1)), .fl (.int .i64 ((adv w cal p.2 ((ix ts p.1).day)).2))]) rfl (og rfl (op_move rfl rfl rfl)) ?_
                      refine rg_put (d := 89) (v := .d (.ag (eCs ((adv w cal p.2 ((ix ts p.1).day)).1)))) rfl (og rfl (op_extract rfl rfl rfl rfl)) ?_
                      refine rg_put (d := 90) (v := .d (.fl (.int .i64 ((adv w cal p.2 ((ix ts p.1).day)).2)))) rfl (og rfl (op_extract rfl rfl rfl rfl)) ?_
                      refine rg_sto (nw := [(104, .bx 32 ((eCs ((adv w cal p.2 ((ix ts p.1).day)).1))))]) rfl (og rfl (of_eff (s_store rfl rfl ti32 rfl rfl rfl rfl rfl rfl) rfl)) ?_
                      refine rg_put (d := 14) (v := .d (.fl (.int .i64 ((adv w cal p.2 ((ix ts p.1).day)).2)))) rfl (og rfl (op_assign rfl rfl rfl)) ?_
                      refine rg_done rfl ?_
                      show A _ _ _ _ _ _ _
                      refine a_seq ?_
                      refine a_rseq ?_
                      refine rg_put (d := 136) (v := .d (.fl (.int .i64 ((adv w cal p.2 ((ix ts p.1).day)).2)))) rfl (og rfl (op_move rfl rfl rfl)) ?_
                      refine rg_put (d := 137) (v := .d (.fl (.bool (((adv w cal p.2 ((ix ts p.1).day)).2 != 0))))) rfl (og rfl (op_bin rfl rfl rfl (b_neq _ _ _ _) rfl)) ?_
                      refine rg_done rfl ?_
                      refine a_cond rfl (fun h23 => ?_) (fun h23 => ?_)
                      · skip
                        have h24 := t_bne h23
                        refine a_exit ?_
                        show A _ _ _ _ _ _ _
                        refine a_region ?_
                        refine rg_put (d := 57) (v := .d (.fl (.int .i64 (p.1 : Int)))) rfl (og rfl (op_move rfl rfl rfl)) ?_
                        refine rg_put (d := 58) (v := .d (.fl (.int .i64 (((p.1 : Int) + 1))))) rfl (og rfl (op_bin rfl rfl rfl (fun x y w => b_add64 _ _ _ x y w (by omega)) rfl)) ?_
                        refine rg_put (d := 11) (v := .d (.fl (.int .i64 (((p.1 : Int) + 1))))) rfl (og rfl (op_assign rfl rfl rfl)) ?_
                        refine rg_done rfl ?_
                        show ∃ i, _ ∧ _ ∧ Imp _ _ _ _ _
                        refine ⟨(p.1 + 1, p.2), (by show p.1 + 1 ≤ _; omega), by show ts.length - (p.1 + 1) < _; omega, imp_forget rfl ⟨rfl, rfl, rfl, rfl, rfl, rfl, rfl, rfl, rfl, (ci (by show (p.1 : Int) + 1 = ((p.1 + 1 : Nat) : Int); omega)), trivial⟩ ⟨rfl, rfl, trivial⟩⟩
                      · skip
                        obtain ⟨hup, hpe⟩ := adv_up (f_bne h23)
                        have h25 := f_bne h23
                        refine a_skip ?_
                        show A _ _ _ _ _ _ _
                        refine a_seq ?_
                        refine a_rseq ?_
                        refine rg_put (d := 138) (v := .pt 104 5) rfl (og rfl (of_eff (s_field_pt rfl Tryd.underlying32 rfl ti3 rfl rfl rfl) rfl)) ?_
                        refine rg_put (d := 139) (v := .d (.fl (.int .i64 (((adv w cal p.2 ((ix ts p.1).day)).1).stage)))) rfl (og rfl (op_load_pt rfl Tryd.underlying3 rfl rfl rfl rfl rfl)) ?_
                        refine rg_put (d := 140) (v := .pt 102 5) rfl (og rfl (of_eff (s_field_pt rfl Tryd.underlying32 rfl ti3 rfl rfl rfl) rfl)) ?_
                        refine rg_put (d := 141) (v := .d (.fl (.int .i64 p.2.stage))) rfl (og rfl (op_load_pt rfl Tryd.underlying3 rfl rfl rfl rfl rfl)) ?_
                        refine rg_put (d := 142) (v := .d (.fl (.bool ((decide (((adv w cal p.2 ((ix ts p.1).day)).1).stage < p.2.stage)))))) rfl (og rfl (op_bin rfl rfl rfl (b_lss _ _ _ _) rfl)) ?_
                        refine rg_put (d := 143) (v := .d (.fl (.bool ((decide (((adv w cal p.2 ((ix ts p.1).day)).1).stage < p.2.stage)))))) rfl (og rfl (op_move rfl rfl rfl)) ?_
                        refine rg_put (d := 144) (v := .pt 104 6) rfl (oy rfl rfl rfl (decide_eq_false (Int.not_lt.2 hup.s)) (of_eff (s_field_pt rfl Tryd.underlying32 rfl ti3 rfl rfl rfl) rfl)) ?_
                        refine rg_put (d := 145) (v := .d (.fl (.int .i64 (((adv w cal p.2 ((ix ts p.1).day)).1).owed)))) rfl (oy rfl rfl rfl (decide_eq_false (Int.not_lt.2 hup.s)) (op_load_pt rfl Tryd.underlying3 rfl rfl rfl rfl rfl)) ?_
                        refine rg_put (d := 146) (v := .pt 102 6) rfl (oy rfl rfl rfl (decide_eq_false (Int.not_lt.2 hup.s)) (of_eff (s_field_pt rfl Tryd.underlying32 rfl ti3 rfl rfl rfl) rfl)) ?_
                        refine rg_put (d := 147) (v := .d (.fl (.int .i64 p.2.owed))) rfl (oy rfl rfl rfl (decide_eq_false (Int.not_lt.2 hup.s)) (op_load_pt rfl Tryd.underlying3 rfl rfl rfl rfl rfl)) ?_
                        refine rg_put (d := 148) (v := .d (.fl (.bool ((decide (((adv w cal p.2 ((ix ts p.1).day)).1).owed < p.2.owed)))))) rfl (oy rfl rfl rfl (decide_eq_false (Int.not_lt.2 hup.s)) (op_bin rfl rfl rfl (b_lss _ _ _ _) rfl)) ?_
                        refine rg_put (d := 149) (v := .d (.fl (.bool ((decide (((adv w cal p.2 ((ix ts p.1).day)).1).owed < p.2.owed)))))) rfl (og rfl (op_pick rfl rfl (by rw [(decide_eq_false (Int.not_lt.2 hup.s))]; rfl) rfl)) ?_
                        refine rg_put (d := 150) (v := .d (.fl (.bool ((decide (((adv w cal p.2 ((ix ts p.1).day)).1).owed < p.2.owed)))))) rfl (og rfl (op_move rfl rfl rfl)) ?_
                        refine rg_put (d := 151) (v := .pt 104 7) rfl (oy rfl rfl rfl (decide_eq_false (Int.not_lt.2 hup.o)) (of_eff (s_field_pt rfl Tryd.underlying32 rfl ti3 rfl rfl rfl) rfl)) ?_
                        refine rg_put (d := 152) (v := .d (.fl (.int .i64 (((adv w cal p.2 ((ix ts p.1).day)).1).paid)))) rfl (oy rfl rfl rfl (decide_eq_false (Int.not_lt.2 hup.o)) (op_load_pt rfl Tryd.underlying3 rfl rfl rfl rfl rfl)) ?_
                        refine rg_put (d := 153) (v := .pt 102 7) rfl (oy rfl rfl rfl (decide_eq_false (Int.not_lt.2 hup.o)) (of_eff (s_field_pt rfl Tryd.underlying32 rfl ti3 rfl rfl rfl) rfl)) ?_
                        refine rg_put (d := 154) (v := .d (.fl (.int .i64 p.2.paid))) rfl (oy rfl rfl rfl (decide_eq_false (Int.not_lt.2 hup.o)) (op_load_pt rfl Tryd.underlying3 rfl rfl rfl rfl rfl)) ?_
                        refine rg_put (d := 155) (v := .d (.fl (.bool ((decide (((adv w cal p.2 ((ix ts p.1).day)).1).paid < p.2.paid)))))) rfl (oy rfl rfl rfl (decide_eq_false (Int.not_lt.2 hup.o)) (op_bin rfl rfl rfl (b_lss _ _ _ _) rfl)) ?_
                        refine rg_put (d := 156) (v := .d (.fl (.bool ((decide (((adv w cal p.2 ((ix ts p.1).day)).1).paid < p.2.paid)))))) rfl (og rfl (op_pick rfl rfl (by rw [(decide_eq_false (Int.not_lt.2 hup.o))]; rfl) rfl)) ?_
                        refine rg_done rfl ?_
                        refine a_condF rfl (decide_eq_false (Int.not_lt.2 hup.d)) ?_
                        refine a_skip ?_
                        show A _ _ _ _ _ _ _
                        refine a_seq ?_
                        refine a_rseq ?_
                        refine rg_put (d := 157) (v := .pt 103 0) rfl (og rfl (of_eff (s_field_pt rfl Tryd.underlying37 rfl ti3 rfl rfl rfl) rfl)) ?_
                        refine rg_put (d := 158) (v := .d (.fl (.int .i64 ((ix ts p.1).act)))) rfl (og rfl (op_load_pt rfl Tryd.underlying3 rfl rfl rfl rfl rfl)) ?_
                        refine rg_put (d := 159) (v := .d (.fl (.bool (((ix ts p.1).act == 0))))) rfl (og rfl (op_bin rfl rfl rfl (b_eql _ _ _ _) rfl)) ?_
                        refine rg_put (d := 160) (v := .d (.fl (.bool (((ix ts p.1).act == 0))))) rfl (og rfl (op_move rfl rfl rfl)) ?_
                        refine rg_put (d := 161) (v := .d (.ag (eCs p.2))) rfl (oy rfl rfl rfl h21 (of_eff (s_load_pts rfl Tryd.underlying32 rfl ti32 rfl rfl rfl rfl) rfl)) ?_
                        refine rg_put (d := 162) (v := .d (.fl (.bool (pend p.2)))) rfl (oy rfl rfl rfl h21 (op_call rfl Tryd.func12 nm12 rfl (.cons rfl (.d _) .nil) (pend17 p.2) rfl)) ?_
                        refine rg_put (d := 163) (v := .d (.fl (.bool (pend p.2)))) rfl (og rfl (op_pick rfl rfl (by rw [h21]; rfl) rfl)) ?_
                        refine rg_put (d := 164) (v := .d (.fl (.bool (pend p.2)))) rfl (og rfl (op_move rfl rfl rfl)) ?_
                        rcases fot (pend p.2) with h26 | h26
                        · skip
                          refine rg_put (d := 165) (v := .d (.fl undef)) rfl (on rfl rfl rfl h26) ?_
                          refine rg_put (d := 166) (v := .d (.fl undef)) rfl (on rfl rfl rfl h26) ?_
                          refine rg_put (d := 167) (v := .d (.fl undef)) rfl (on rfl rfl rfl h26) ?_
                          refine rg_put (d := 168) (v := .d (.fl (.bool false))) rfl (og rfl (op_pick rfl rfl (by rw [h26]; rfl) rfl)) ?_
                          refine rg_put (d := 169) (v := .d (.fl (.bool false))) rfl (og rfl (op_move rfl rfl rfl)) ?_
                          refine rg_put (d := 170) (v := .d (.ag (eCs p.2))) rfl (oy rfl rfl rfl rfl (of_eff (s_load_pts rfl Tryd.underlying32 rfl ti32 rfl rfl rfl rfl) rfl)) ?_
                          refine rg_put (d := 171) (v := .d (.fl (.bool (opn p.2)))) rfl (oy rfl rfl rfl rfl (op_call rfl Tryd.func13 nm13 rfl (.cons rfl (.d _) .nil) (opn21 p.2) rfl)) ?_
                          refine rg_put (d := 172) (v := .d (.fl (.bool ((!(opn p.2)))))) rfl (oy rfl rfl rfl rfl (op_un rfl rfl (u_not _) rfl)) ?_
                          refine rg_put (d := 173) (v := .d (.fl (.bool ((!(opn p.2)))))) rfl (oy rfl rfl rfl rfl (op_move rfl rfl rfl)) ?_
                          rcases fot ((!(opn p.2))) with h27 | h27
                          · skip
                            have h28 := f_not h27
                            refine rg_put (d := 174) (v := .d (.fl undef)) rfl (on rfl rfl rfl h27) ?_
                            refine rg_put (d := 175) (v := .d (.fl undef)) rfl (on rfl rfl rfl h27) ?_
                            refine rg_put (d := 176) (v := .d (.fl undef)) rfl (on rfl rfl rfl h27) ?_
                            refine rg_put (d := 177) (v := .d (.fl (.bool false))) rfl (oy rfl rfl rfl rfl (op_pick rfl rfl (by rw [h27]; rfl) rfl)) ?_
                            refine rg_put (d := 178) (v := .d (.fl (.bool false))) rfl (og rfl (op_pick rfl rfl rfl rfl)) ?_
                            refine rg_done rfl ?_
                            refine a_condF rfl rfl ?_
                            refine a_skip ?_
                            show A _ _ _ _ _ _ _
                            refine a_region ?_
                            refine rg_put (d := 179) (v := .d (.ag (eCs (((adv w cal p.2 ((ix ts p.1).day)).1))))) rfl (og rfl (of_eff (s_load_pts rfl Tryd.underlying32 rfl ti32 rfl rfl rfl rfl) rfl)) ?_
                            refine rg_sto (nw := [(102, .bx 32 ((eCs (((adv w cal p.2 ((ix ts p.1).day)).1)))))]) rfl (og rfl (of_eff (s_store rfl rfl ti32 rfl rfl rfl rfl rfl rfl) rfl)) ?_
                            refine rg_done rfl ?_
                            show A _ _ _ _ _ _ _
                            refine a_region ?_
                            refine rg_put (d := 57) (v := .d (.fl (.int .i64 (p.1 : Int)))) rfl (og rfl (op_move rfl rfl rfl)) ?_
                            refine rg_put (d := 58) (v := .d (.fl (.int .i64 (((p.1 : Int) + 1))))) rfl (og rfl (op_bin rfl rfl rfl (fun x y w => b_add64 _ _ _ x y w (by omega)) rfl)) ?_
                            refine rg_put (d := 11) (v := .d (.fl (.int .i64 (((p.1 : Int) + 1))))) rfl (og rfl (op_assign rfl rfl rfl)) ?_
                            refine rg_done rfl ?_
                            show ∃ i, _ ∧ _ ∧ Imp _ _ _ _ _
                            refine ⟨(p.1 + 1, (((adv w cal p.2 ((ix ts p.1).day)).1))), (by show p.1 + 1 ≤ _; omega), by show ts.length - (p.1 + 1) < _; omega, imp_forget rfl ⟨rfl, rfl, rfl, rfl, rfl, rfl, rfl, rfl, rfl, (ci (by show (p.1 : Int) + 1 = ((p.1 + 1 : Nat) : Int); omega)), trivial⟩ ⟨rfl, rfl, trivial⟩⟩
                          · skip
                            have h29 := t_not h27
                            refine rg_put (d := 174) (v := .d (.ag (eCs (((adv w cal p.2 ((ix ts p.1).day)).1))))) rfl (oy rfl rfl rfl h27 (of_eff (s_load_pts rfl Tryd.underlying32 rfl ti32 rfl rfl rfl rfl) rfl)) ?_
                            refine rg_put (d := 175) (v := .d (.ag (eCs p.2))) rfl (oy rfl rfl rfl h27 (of_eff (s_load_pts rfl Tryd.underlying32 rfl ti32 rfl rfl rfl rfl) rfl)) ?_
                            refine rg_put (d := 176) (v := .d (.fl (.bool false))) rfl (oy rfl rfl rfl h27 (op_eqS [.string ((((adv w cal p.2 ((ix ts p.1).day)).1)).id), .string ((((adv w cal p.2 ((ix ts p.1).day)).1)).plate), .string ((((adv w cal p.2 ((ix ts p.1).day)).1)).key), .int .i64 ((((adv w cal p.2 ((ix ts p.1).day)).1)).begun), .int .i64 ((((adv w cal p.2 ((ix ts p.1).day)).1)).since), .int .i64 ((((adv w cal p.2 ((ix ts p.1).day)).1)).stage), .int .i64 ((((adv w cal p.2 ((ix ts p.1).day)).1)).owed), .int .i64 ((((adv w cal p.2 ((ix ts p.1).day)).1)).paid), .int .i64 ((((adv w cal p.2 ((ix ts p.1).day)).1)).paused), .int .i64 (((((adv w cal p.2 ((ix ts p.1).day)).1)).ap).state), .int .i64 (((((adv w cal p.2 ((ix ts p.1).day)).1)).ap).ground), .int .i64 (((((adv w cal p.2 ((ix ts p.1).day)).1)).ap).day)] [.string p.2.id, .string p.2.plate, .string p.2.key, .int .i64 p.2.begun, .int .i64 p.2.since, .int .i64 p.2.stage, .int .i64 p.2.owed, .int .i64 p.2.paid, .int .i64 p.2.paused, .int .i64 p.2.ap.state, .int .i64 p.2.ap.ground, .int .i64 p.2.ap.day] rfl rfl rfl (b := false) (fun ww => by rw [hup.c h29]; exact neq32 p.2 _ _ ww) rfl)) ?_
                            refine rg_put (d := 177) (v := .d (.fl (.bool false))) rfl (oy rfl rfl rfl rfl (op_pick rfl rfl (by rw [h27]; rfl) rfl)) ?_
                            refine rg_put (d := 178) (v := .d (.fl (.bool false))) rfl (og rfl (op_pick rfl rfl rfl rfl)) ?_
                            refine rg_done rfl ?_
                            refine a_condF rfl rfl ?_
                            refine a_skip ?_
                            show A _ _ _ _ _ _ _
                            refine a_region ?_
                            refine rg_put (d := 179) (v := .d (.ag (eCs (((adv w cal p.2 ((ix ts p.1).day)).1))))) rfl (og rfl (of_eff (s_load_pts rfl Tryd.underlying32 rfl ti32 rfl rfl rfl rfl) rfl)) ?_
                            refine rg_sto (nw := [(102, .bx 32 ((eCs (((adv w cal p.2 ((ix ts p.1).day)).1)))))]) rfl (og rfl (of_eff (s_store rfl rfl ti32 rfl rfl rfl rfl rfl rfl) rfl)) ?_
                            refine rg_done rfl ?_
                            show A _ _ _ _ _ _ _
                            refine a_region ?_
                            refine rg_put (d := 57) (v := .d (.fl (.int .i64 (p.1 : Int)))) rfl (og rfl (op_move rfl rfl rfl)) ?_
                            refine rg_put (d := 58) (v := .d (.fl (.int .i64 (((p.1 : Int) + 1))))) rfl (og rfl (op_bin rfl rfl rfl (fun x y w => b_add64 _ _ _ x y w (by omega)) rfl)) ?_
                            refine rg_put (d := 11) (v := .d (.fl (.int .i64 (((p.1 : Int) + 1))))) rfl (og rfl (op_assign rfl rfl rfl)) ?_
                            refine rg_done rfl ?_
                            show ∃ i, _ ∧ _ ∧ Imp _ _ _ _ _
                            refine ⟨(p.1 + 1, (((adv w cal p.2 ((ix ts p.1).day)).1))), (by show p.1 + 1 ≤ _; omega), by show ts.length - (p.1 + 1) < _; omega, imp_forget rfl ⟨rfl, rfl, rfl, rfl, rfl, rfl, rfl, rfl, rfl, (ci (by show (p.1 : Int) + 1 = ((p.1 + 1 : Nat) : Int); omega)), trivial⟩ ⟨rfl, rfl, trivial⟩⟩
                        · skip
                          refine rg_put (d := 165) (v := .d (.ag (eCs (((adv w cal p.2 ((ix ts p.1).day)).1))))) rfl (oy rfl rfl rfl h26 (of_eff (s_load_pts rfl Tryd.underlying32 rfl ti32 rfl rfl rfl rfl) rfl)) ?_
                          refine rg_put (d := 166) (v := .d (.ag (eCs p.2))) rfl (oy rfl rfl rfl h26 (of_eff (s_load_pts rfl Tryd.underlying32 rfl ti32 rfl rfl rfl rfl) rfl)) ?_
                          refine rg_put (d := 167) (v := .d (.fl (.bool false))) rfl (oy rfl rfl rfl h26 (op_eqS [.string ((((adv w cal p.2 ((ix ts p.1).day)).1)).id), .string ((((adv w cal p.2 ((ix ts p.1).day)).1)).plate), .string ((((adv w cal p.2 ((ix ts p.1).day)).1)).key), .int .i64 ((((adv w cal p.2 ((ix ts p.1).day)).1)).begun), .int .i64 ((((adv w cal p.2 ((ix ts p.1).day)).1)).since), .int .i64 ((((adv w cal p.2 ((ix ts p.1).day)).1)).stage), .int .i64 ((((adv w cal p.2 ((ix ts p.1).day)).1)).owed), .int .i64 ((((adv w cal p.2 ((ix ts p.1).day)).1)).paid), .int .i64 ((((adv w cal p.2 ((ix ts p.1).day)).1)).paused), .int .i64 (((((adv w cal p.2 ((ix ts p.1).day)).1)).ap).state), .int .i64 (((((adv w cal p.2 ((ix ts p.1).day)).1)).ap).ground), .int .i64 (((((adv w cal p.2 ((ix ts p.1).day)).1)).ap).day)] [.string p.2.id, .string p.2.plate, .string p.2.key, .int .i64 p.2.begun, .int .i64 p.2.since, .int .i64 p.2.stage, .int .i64 p.2.owed, .int .i64 p.2.paid, .int .i64 p.2.paused, .int .i64 p.2.ap.state, .int .i64 p.2.ap.ground, .int .i64 p.2.ap.day] rfl rfl rfl (b := false) (fun ww => by rw [hpe h26]; exact neq32 p.2 _ _ ww) rfl)) ?_
                          refine rg_put (d := 168) (v := .d (.fl (.bool false))) rfl (og rfl (op_pick rfl rfl (by rw [h26]; rfl) rfl)) ?_
                          refine rg_put (d := 169) (v := .d (.fl (.bool false))) rfl (og rfl (op_move rfl rfl rfl)) ?_
                          refine rg_put (d := 170) (v := .d (.ag (eCs p.2))) rfl (oy rfl rfl rfl rfl (of_eff (s_load_pts rfl Tryd.underlying32 rfl ti32 rfl rfl rfl rfl) rfl)) ?_
                          refine rg_put (d := 171) (v := .d (.fl (.bool (opn p.2)))) rfl (oy rfl rfl rfl rfl (op_call rfl Tryd.func13 nm13 rfl (.cons rfl (.d _) .nil) (opn21 p.2) rfl)) ?_
                          refine rg_put (d := 172) (v := .d (.fl (.bool ((!(opn p.2)))))) rfl (oy rfl rfl rfl rfl (op_un rfl rfl (u_not _) rfl)) ?_
                          refine rg_put (d := 173) (v := .d (.fl (.bool ((!(opn p.2)))))) rfl (oy rfl rfl rfl rfl (op_move rfl rfl rfl)) ?_
                          rcases fot ((!(opn p.2))) with h30 | h30
                          · skip
                            have h31 := f_not h30
                            refine rg_put (d := 174) (v := .d (.fl undef)) rfl (on rfl rfl rfl h30) ?_
                            refine rg_put (d := 175) (v := .d (.fl undef)) rfl (on rfl rfl rfl h30) ?_
                            refine rg_put (d := 176) (v := .d (.fl undef)) rfl (on rfl rfl rfl h30) ?_
                            refine rg_put (d := 177) (v := .d (.fl (.bool false))) rfl (oy rfl rfl rfl rfl (op_pick rfl rfl (by rw [h30]; rfl) rfl)) ?_
                            refine rg_put (d := 178) (v := .d (.fl (.bool false))) rfl (og rfl (op_pick rfl rfl rfl rfl)) ?_
                            refine rg_done rfl ?_
                            refine a_condF rfl rfl ?_
                            refine a_skip ?_
                            show A _ _ _ _ _ _ _
                            refine a_region ?_
                            refine rg_put (d := 179) (v := .d (.ag (eCs (((adv w cal p.2 ((ix ts p.1).day)).1))))) rfl (og rfl (of_eff (s_load_pts rfl Tryd.underlying32 rfl ti32 rfl rfl rfl rfl) rfl)) ?_
                            refine rg_sto (nw := [(102, .bx 32 ((eCs (((adv w cal p.2 ((ix ts p.1).day)).1)))))]) rfl (og rfl (of_eff (s_store rfl rfl ti32 rfl rfl rfl rfl rfl rfl) rfl)) ?_
                            refine rg_done rfl ?_
                            show A _ _ _ _ _ _ _
                            refine a_region ?_
                            refine rg_put (d := 57) (v := .d (.fl (.int .i64 (p.1 : Int)))) rfl (og rfl (op_move rfl rfl rfl)) ?_
                            refine rg_put (d := 58) (v := .d (.fl (.int .i64 (((p.1 : Int) + 1))))) rfl (og rfl (op_bin rfl rfl rfl (fun x y w => b_add64 _ _ _ x y w (by omega)) rfl)) ?_
                            refine rg_put (d := 11) (v := .d (.fl (.int .i64 (((p.1 : Int) + 1))))) rfl (og rfl (op_assign rfl rfl rfl)) ?_
                            refine rg_done rfl ?_
                            show ∃ i, _ ∧ _ ∧ Imp _ _ _ _ _
                            refine ⟨(p.1 + 1, (((adv w cal p.2 ((ix ts p.1).day)).1))), (by show p.1 + 1 ≤ _; omega), by show ts.length - (p.1 + 1) < _; omega, imp_forget rfl ⟨rfl, rfl, rfl, rfl, rfl, rfl, rfl, rfl, rfl, (ci (by show (p.1 : Int) + 1 = ((p.1 + 1 : Nat) : Int); omega)), trivial⟩ ⟨rfl, rfl, trivial⟩⟩
                          · skip
                            have h32 := t_not h30
                            refine rg_put (d := 174) (v := .d (.ag (eCs (((adv w cal p.2 ((ix ts p.1).day)).1))))) rfl (oy rfl rfl rfl h30 (of_eff (s_load_pts rfl Tryd.underlying32 rfl ti32 rfl rfl rfl rfl) rfl)) ?_
                            refine rg_put (d := 175) (v := .d (.ag (eCs p.2))) rfl (oy rfl rfl rfl h30 (of_eff (s_load_pts rfl Tryd.underlying32 rfl ti32 rfl rfl rfl rfl) rfl)) ?_
                            refine rg_put (d := 176) (v := .d (.fl (.bool false))) rfl (oy rfl rfl rfl h30 (op_eqS [.string ((((adv w cal p.2 ((ix ts p.1).day)).1)).id), .string ((((adv w cal p.2 ((ix ts p.1).day)).1)).plate), .string ((((adv w cal p.2 ((ix ts p.1).day)).1)).key), .int .i64 ((((adv w cal p.2 ((ix ts p.1).day)).1)).begun), .int .i64 ((((adv w cal p.2 ((ix ts p.1).day)).1)).since), .int .i64 ((((adv w cal p.2 ((ix ts p.1).day)).1)).stage), .int .i64 ((((adv w cal p.2 ((ix ts p.1).day)).1)).owed), .int .i64 ((((adv w cal p.2 ((ix ts p.1).day)).1)).paid), .int .i64 ((((adv w cal p.2 ((ix ts p.1).day)).1)).paused), .int .i64 (((((adv w cal p.2 ((ix ts p.1).day)).1)).ap).state), .int .i64 (((((adv w cal p.2 ((ix ts p.1).day)).1)).ap).ground), .int .i64 (((((adv w cal p.2 ((ix ts p.1).day)).1)).ap).day)] [.string p.2.id, .string p.2.plate, .string p.2.key, .int .i64 p.2.begun, .int .i64 p.2.since, .int .i64 p.2.stage, .int .i64 p.2.owed, .int .i64 p.2.paid, .int .i64 p.2.paused, .int .i64 p.2.ap.state, .int .i64 p.2.ap.ground, .int .i64 p.2.ap.day] rfl rfl rfl (b := false) (fun ww => by rw [hup.c h32]; exact neq32 p.2 _ _ ww) rfl)) ?_
                            refine rg_put (d := 177) (v := .d (.fl (.bool false))) rfl (oy rfl rfl rfl rfl (op_pick rfl rfl (by rw [h30]; rfl) rfl)) ?_
                            refine rg_put (d := 178) (v := .d (.fl (.bool false))) rfl (og rfl (op_pick rfl rfl rfl rfl)) ?_
                            refine rg_done rfl ?_
                            refine a_condF rfl rfl ?_
                            refine a_skip ?_
                            show A _ _ _ _ _ _ _
                            refine a_region ?_
                            refine rg_put (d := 179) (v := .d (.ag (eCs (((adv w cal p.2 ((ix ts p.1).day)).1))))) rfl (og rfl (of_eff (s_load_pts rfl Tryd.underlying32 rfl ti32 rfl rfl rfl rfl) rfl)) ?_
                            refine rg_sto (nw := [(102, .bx 32 ((eCs (((adv w cal p.2 ((ix ts p.1).day)).1)))))]) rfl (og rfl (of_eff (s_store rfl rfl ti32 rfl rfl rfl rfl rfl rfl) rfl)) ?_
                            refine rg_done rfl ?_
                            show A _ _ _ _ _ _ _
                            refine a_region ?_
                            refine rg_put (d := 57) (v := .d (.fl (.int .i64 (p.1 : Int)))) rfl (og rfl (op_move rfl rfl rfl)) ?_
                            refine rg_put (d := 58) (v := .d (.fl (.int .i64 (((p.1 : Int) + 1))))) rfl (og rfl (op_bin rfl rfl rfl (fun x y w => b_add64 _ _ _ x y w (by omega)) rfl)) ?_
                            refine rg_put (d := 11) (v := .d (.fl (.int .i64 (((p.1 : Int) + 1))))) rfl (og rfl (op_assign rfl rfl rfl)) ?_
                            refine rg_done rfl ?_
                            show ∃ i, _ ∧ _ ∧ Imp _ _ _ _ _
                            refine ⟨(p.1 + 1, (((adv w cal p.2 ((ix ts p.1).day)).1))), (by show p.1 + 1 ≤ _; omega), by show ts.length - (p.1 + 1) < _; omega, imp_forget rfl ⟨rfl, rfl, rfl, rfl, rfl, rfl, rfl, rfl, rfl, (ci (by show (p.1 : Int) + 1 = ((p.1 + 1 : Nat) : Int); omega)), trivial⟩ ⟨rfl, rfl, trivial⟩⟩
                    · skip
                      have h33 := f_beq h21
                      refine a_rseq ?_
                      refine rg_put (d := 92) (v := .d (.fl (.bool (((ix ts p.1).act == 1))))) rfl (og rfl (op_bin rfl rfl rfl (b_eql _ _ _ _) rfl)) ?_
                      refine rg_put (d := 91) (v := .d (.fl (.bool (((ix ts p.1).act == 1))))) rfl (og rfl (op_assign rfl rfl rfl)) ?_
                      refine rg_done rfl ?_
                      refine a_cond rfl (fun h34 => ?_) (fun h34 => ?_)
                      · skip
                        have h35 := t_beq h34
                        refine a_region ?_
                        refine rg_put (d := 94) (v := .d (.ag (eCs p.2))) rfl (og rfl (of_eff (s_load_pts rfl Tryd.underlying32 rfl ti32 rfl rfl rfl rfl) rfl)) ?_
                        refine rg_put (d := 95) (v := .pt 103 2) rfl (og rfl (of_eff (s_field_pt rfl Tryd.underlying37 rfl ti3 rfl rfl rfl) rfl)) ?_
                        refine rg_put (d := 96) (v := .d (.fl (.int .i64 ((ix ts p.1).n)))) rfl (og rfl (op_load_pt rfl Tryd.underlying3 rfl rfl rfl rfl rfl)) ?_
                        refine rg_put (d := 97) (v := .tu [.ag (eCs ((pay p.2 ((ix ts p.1).n)).1.1)), .fl (.int .i64 ((pay p.2 ((ix ts p.1).n)).1.2)), .fl (.int .i64 ((pay p.2 ((ix ts p.1).n)).2))]) rfl (og rfl (op_call rfl Tryd.func8 nm8 rfl (.cons rfl (.d _) (.cons rfl (.d _) .nil)) (pay23 p.2 ((ix ts p.1).n) htn.1 htn.2) rfl)) ?_
                        refine rg_put (d := 93) (v := .tu [.ag (eCs ((pay p.2 ((ix ts p.1).n)).1.1)), .fl (.int .i64 ((pay p.2 ((ix ts p.1).n)).1.2)), .fl (.int .i64 ((pay p.2 ((ix ts p.1).n)).2))]) rfl (og rfl (op_move rfl rfl rfl)) ?_
                        refine rg_put (d := 98) (v := .d (.ag (eCs ((pay p.2 ((ix ts p.1).n)).1.1)))) rfl (og rfl (op_extract rfl rfl rfl rfl)) ?_
                        refine rg_put (d := 99) (v := .d (.fl (.int .i64 ((pay p.2 ((ix ts p.1).n)).1.2)))) rfl (og rfl (op_extract rfl rfl rfl rfl)) ?_
                        refine rg_put (d := 100) (v := .d (.fl (.int .i64 ((pay p.2 ((ix ts p.1).n)).2)))) rfl (og rfl (op_extract rfl rfl rfl rfl)) ?_
                        refine rg_sto (nw := [(104, .bx 32 ((eCs ((pay p.2 ((ix ts p.1).n)).1.1))))]) rfl (og rfl (of_eff (s_store rfl rfl ti32 rfl rfl rfl rfl rfl rfl) rfl)) ?_
                        refine rg_put (d := 14) (v := .d (.fl (.int .i64 ((pay p.2 ((ix ts p.1).n)).2)))) rfl (og rfl (op_assign rfl rfl rfl)) ?_
                        refine rg_done rfl ?_
                        show A _ _ _ _ _ _ _
                        refine a_seq ?_
                        refine a_rseq ?_
                        refine rg_put (d := 136) (v := .d (.fl (.int .i64 ((pay p.2 ((ix ts p.1).n)).2)))) rfl (og rfl (op_move rfl rfl rfl)) ?_
                        refine rg_put (d := 137) (v := .d (.fl (.bool (((pay p.2 ((ix ts p.1).n)).2 != 0))))) rfl (og rfl (op_bin rfl rfl rfl (b_neq _ _ _ _) rfl)) ?_
                        refine rg_done rfl ?_
                        refine a_cond rfl (fun h36 => ?_) (fun h36 => ?_)
                        · skip
                          have h37 := t_bne h36
                          refine a_exit ?_
                          show A _ _ _ _ _ _ _
                          refine a_region ?_
                          refine rg_put (d := 57) (v := .d (.fl (.int .i64 (p.1 : Int)))) rfl (og rfl (op_move rfl rfl rfl)) ?_
                          refine rg_put (d := 58) (v := .d (.fl (.int .i64 (((p.1 : Int) + 1))))) rfl (og rfl (op_bin rfl rfl rfl (fun x y w => b_add64 _ _ _ x y w (by omega)) rfl)) ?_
                          refine rg_put (d := 11) (v := .d (.fl (.int .i64 (((p.1 : Int) + 1))))) rfl (og rfl (op_assign rfl rfl rfl)) ?_
                          refine rg_done rfl ?_
                          show ∃ i, _ ∧ _ ∧ Imp _ _ _ _ _
                          refine ⟨(p.1 + 1, p.2), (by show p.1 + 1 ≤ _; omega), by show ts.length - (p.1 + 1) < _; omega, imp_forget rfl ⟨rfl, rfl, rfl, rfl, rfl, rfl, rfl, rfl, rfl, (ci (by show (p.1 : Int) + 1 = ((p.1 + 1 : Nat) : Int); omega)), trivial⟩ ⟨rfl, rfl, trivial⟩⟩
                        · skip
                          have hup := pay_up (f_bne h36)
                          have h38 := f_bne h36
                          refine a_skip ?_
                          show A _ _ _ _ _ _ _
                          refine a_seq ?_
                          refine a_rseq ?_
                          refine rg_put (d := 138) (v := .pt 104 5) rfl (og rfl (of_eff (s_field_pt rfl Tryd.underlying32 rfl ti3 rfl rfl rfl) rfl)) ?_
                          refine rg_put (d := 139) (v := .d (.fl (.int .i64 (((pay p.2 ((ix ts p.1).n)).1.1).stage)))) rfl (og rfl (op_load_pt rfl Tryd.underlying3 rfl rfl rfl rfl rfl)) ?_
                          refine rg_put (d := 140) (v := .pt 102 5) rfl (og rfl (of_eff (s_field_pt rfl Tryd.underlying32 rfl ti3 rfl rfl rfl) rfl)) ?_
                          refine rg_put (d := 141) (v := .d (.fl (.int .i64 p.2.stage))) rfl (og rfl (op_load_pt rfl Tryd.underlying3 rfl rfl rfl rfl rfl)) ?_
                          refine rg_put (d := 142) (v := .d (.fl (.bool ((decide (((pay p.2 ((ix ts p.1).n)).1.1).stage < p.2.stage)))))) rfl (og rfl (op_bin rfl rfl rfl (b_lss _ _ _ _) rfl)) ?_
                          refine rg_put (d := 143) (v := .d (.fl (.bool ((decide (((pay p.2 ((ix ts p.1).n)).1.1).stage < p.2.stage)))))) rfl (og rfl (op_move rfl rfl rfl)) ?_
                          refine rg_put (d := 144) (v := .pt 104 6) rfl (oy rfl rfl rfl (decide_eq_false (Int.not_lt.2 hup.s)) (of_eff (s_field_pt rfl Tryd.underlying32 rfl ti3 rfl rfl rfl) rfl)) ?_
                          refine rg_put (d := 145) (v := .d (.fl (.int .i64 (((pay p.2 ((ix ts p.1).n)).1.1).owed)))) rfl (oy rfl rfl rfl (decide_eq_false (Int.not_lt.2 hup.s)) (op_load_pt rfl Tryd.underlying3 rfl rfl rfl rfl rfl)) ?_
                          refine rg_put (d := 146) (v := .pt 102 6) rfl (oy rfl rfl rfl (decide_eq_false (Int.not_lt.2 hup.s)) (of_eff (s_field_pt rfl Tryd.underlying32 rfl ti3 rfl rfl rfl) rfl)) ?_
                          refine rg_put (d := 147) (v := .d (.fl (.int .i64 p.2.owed))) rfl (oy rfl rfl rfl (decide_eq_false (Int.not_lt.2 hup.s)) (op_load_pt rfl Tryd.underlying3 rfl rfl rfl rfl rfl)) ?_
                          refine rg_put (d := 148) (v := .d (.fl (.bool ((decide (((pay p.2 ((ix ts p.1).n)).1.1).owed < p.2.owed)))))) rfl (oy rfl rfl rfl (decide_eq_false (Int.not_lt.2 hup.s)) (op_bin rfl rfl rfl (b_lss _ _ _ _) rfl)) ?_
                          refine rg_put (d := 149) (v := .d (.fl (.bool ((decide (((pay p.2 ((ix ts p.1).n)).1.1).owed < p.2.owed)))))) rfl (og rfl (op_pick rfl rfl (by rw [(decide_eq_false (Int.not_lt.2 hup.s))]; rfl) rfl)) ?_
                          refine rg_put (d := 150) (v := .d (.fl (.bool ((decide (((pay p.2 ((ix ts p.1).n)).1.1).owed < p.2.owed)))))) rfl (og rfl (op_move rfl rfl rfl)) ?_
                          refine rg_put (d := 151) (v := .pt 104 7) rfl (oy rfl rfl rfl (decide_eq_false (Int.not_lt.2 hup.o)) (of_eff (s_field_pt rfl Tryd.underlying32 rfl ti3 rfl rfl rfl) rfl)) ?_
                          refine rg_put (d := 152) (v := .d (.fl (.int .i64 (((pay p.2 ((ix ts p.1).n)).1.1).paid)))) rfl (oy rfl rfl rfl (decide_eq_false (Int.not_lt.2 hup.o)) (op_load_pt rfl Tryd.underlying3 rfl rfl rfl rfl rfl)) ?_
                          refine rg_put (d := 153) (v := .pt 102 7) rfl (oy rfl rfl rfl (decide_eq_false (Int.not_lt.2 hup.o)) (of_eff (s_field_pt rfl Tryd.underlying32 rfl ti3 rfl rfl rfl) rfl)) ?_
                          refine rg_put (d := 154) (v := .d (.fl (.int .i64 p.2.paid))) rfl (oy rfl rfl rfl (decide_eq_false (Int.not_lt.2 hup.o)) (op_load_pt rfl Tryd.underlying3 rfl rfl rfl rfl rfl)) ?_
                          refine rg_put (d := 155) (v := .d (.fl (.bool ((decide (((pay p.2 ((ix ts p.1).n)).1.1).paid < p.2.paid)))))) rfl (oy rfl rfl rfl (decide_eq_false (Int.not_lt.2 hup.o)) (op_bin rfl rfl rfl (b_lss _ _ _ _) rfl)) ?_
                          refine rg_put (d := 156) (v := .d (.fl (.bool ((decide (((pay p.2 ((ix ts p.1).n)).1.1).paid < p.2.paid)))))) rfl (og rfl (op_pick rfl rfl (by rw [(decide_eq_false (Int.not_lt.2 hup.o))]; rfl) rfl)) ?_
                          refine rg_done rfl ?_
                          refine a_condF rfl (decide_eq_false (Int.not_lt.2 hup.d)) ?_
                          refine a_skip ?_
                          show A _ _ _ _ _ _ _
                          refine a_seq ?_
                          refine a_rseq ?_
                          refine rg_put (d := 157) (v := .pt 103 0) rfl (og rfl (of_eff (s_field_pt rfl Tryd.underlying37 rfl ti3 rfl rfl rfl) rfl)) ?_
                          refine rg_put (d := 158) (v := .d (.fl (.int .i64 ((ix ts p.1).act)))) rfl (og rfl (op_load_pt rfl Tryd.underlying3 rfl rfl rfl rfl rfl)) ?_
                          refine rg_put (d := 159) (v := .d (.fl (.bool (((ix ts p.1).act == 0))))) rfl (og rfl (op_bin rfl rfl rfl (b_eql _ _ _ _) rfl)) ?_
                          refine rg_put (d := 160) (v := .d (.fl (.bool (((ix ts p.1).act == 0))))) rfl (og rfl (op_move rfl rfl rfl)) ?_
                          refine rg_put (d := 161) (v := .d (.fl undef)) rfl (on rfl rfl rfl h21) ?_
                          refine rg_put (d := 162) (v := .d (.fl undef)) rfl (on rfl rfl rfl h21) ?_
                          refine rg_put (d := 163) (v := .d (.fl (.bool false))) rfl (og rfl (op_pick rfl rfl (by rw [h21]; rfl) rfl)) ?_
                          refine rg_put (d := 164) (v := .d (.fl (.bool false))) rfl (og rfl (op_move rfl rfl rfl)) ?_
                          refine rg_put (d := 165) (v := .d (.fl undef)) rfl (on rfl rfl rfl rfl) ?_
                          refine rg_put (d := 166) (v := .d (.fl undef)) rfl (on rfl rfl rfl rfl) ?_
                          refine rg_put (d := 167) (v := .d (.fl undef)) rfl (on rfl rfl rfl rfl) ?_
                          refine rg_put (d := 168) (v := .d (.fl (.bool false))) rfl (og rfl (op_pick rfl rfl rfl rfl)) ?_
                          refine rg_put (d := 169) (v := .d (.fl (.bool false))) rfl (og rfl (op_move rfl rfl rfl)) ?_
                          refine rg_put (d := 170) (v := .d (.ag (eCs p.2))) rfl (oy rfl rfl rfl rfl (of_eff (s_load_pts rfl Tryd.underlying32 rfl ti32 rfl rfl rfl rfl) rfl)) ?_
                          refine rg_put (d := 171) (v := .d (.fl (.bool (opn p.2)))) rfl (oy rfl rfl rfl rfl (op_call rfl Tryd.func13 nm13 rfl (.cons rfl (.d _) .nil) (opn21 p.2) rfl)) ?_
                          refine rg_put (d := 172) (v := .d (.fl (.bool ((!(opn p.2)))))) rfl (oy rfl rfl rfl rfl (op_un rfl rfl (u_not _) rfl)) ?_
                          refine rg_put (d := 173) (v := .d (.fl (.bool ((!(opn p.2)))))) rfl (oy rfl rfl rfl rfl (op_move rfl rfl rfl)) ?_
                          rcases fot ((!(opn p.2))) with h39 | h39
                          · skip
                            have h40 := f_not h39
                            refine rg_put (d := 174) (v := .d (.fl undef)) rfl (on rfl rfl rfl h39) ?_
                            refine rg_put (d := 175) (v := .d (.fl undef)) rfl (on rfl rfl rfl h39) ?_
                            refine rg_put (d := 176) (v := .d (.fl undef)) rfl (on rfl rfl rfl h39) ?_
                            refine rg_put (d := 177) (v := .d (.fl (.bool false))) rfl (oy rfl rfl rfl rfl (op_pick rfl rfl (by rw [h39]; rfl) rfl)) ?_
                            refine rg_put (d := 178) (v := .d (.fl (.bool false))) rfl (og rfl (op_pick rfl rfl rfl rfl)) ?_
                            refine rg_done rfl ?_
                            refine a_condF rfl rfl ?_
                            refine a_skip ?_
                            show A _ _ _ _ _ _ _
                            refine a_region ?_
                            refine rg_put (d := 179) (v := .d (.ag (eCs (((pay p.2 ((ix ts p.1).n)).1.1))))) rfl (og rfl (of_eff (s_load_pts rfl Tryd.underlying32 rfl ti32 rfl rfl rfl rfl) rfl)) ?_
                            refine rg_sto (nw := [(102, .bx 32 ((eCs (((pay p.2 ((ix ts p.1).n)).1.1)))))]) rfl (og rfl (of_eff (s_store rfl rfl ti32 rfl rfl rfl rfl rfl rfl) rfl)) ?_
                            refine rg_done rfl ?_
                            show A _ _ _ _ _ _ _
                            refine a_region ?_
                            refine rg_put (d := 57) (v := .d (.fl (.int .i64 (p.1 : Int)))) rfl (og rfl (op_move rfl rfl rfl)) ?_
                            refine rg_put (d := 58) (v := .d (.fl (.int .i64 (((p.1 : Int) + 1))))) rfl (og rfl (op_bin rfl rfl rfl (fun x y w => b_add64 _ _ _ x y w (by omega)) rfl)) ?_
                            refine rg_put (d := 11) (v := .d (.fl (.int .i64 (((p.1 : Int) + 1))))) rfl (og rfl (op_assign rfl rfl rfl)) ?_
                            refine rg_done rfl ?_
                            show ∃ i, _ ∧ _ ∧ Imp _ _ _ _ _
                            refine ⟨(p.1 + 1, (((pay p.2 ((ix ts p.1).n)).1.1))), (by show p.1 + 1 ≤ _; omega), by show ts.length - (p.1 + 1) < _; omega, imp_forget rfl ⟨rfl, rfl, rfl, rfl, rfl, rfl, rfl, rfl, rfl, (ci (by show (p.1 : Int) + 1 = ((p.1 + 1 : Nat) : Int); omega)), trivial⟩ ⟨rfl, rfl, trivial⟩⟩
                          · skip
                            have h41 := t_not h39
                            refine rg_put (d := 174) (v := .d (.ag (eCs (((pay p.2 ((ix ts p.1).n)).1.1))))) rfl (oy rfl rfl rfl h39 (of_eff (s_load_pts rfl Tryd.underlying32 rfl ti32 rfl rfl rfl rfl) rfl)) ?_
                            refine rg_put (d := 175) (v := .d (.ag (eCs p.2))) rfl (oy rfl rfl rfl h39 (of_eff (s_load_pts rfl Tryd.underlying32 rfl ti32 rfl rfl rfl rfl) rfl)) ?_
                            refine rg_put (d := 176) (v := .d (.fl (.bool false))) rfl (oy rfl rfl rfl h39 (op_eqS [.string ((((pay p.2 ((ix ts p.1).n)).1.1)).id), .string ((((pay p.2 ((ix ts p.1).n)).1.1)).plate), .string ((((pay p.2 ((ix ts p.1).n)).1.1)).key), .int .i64 ((((pay p.2 ((ix ts p.1).n)).1.1)).begun), .int .i64 ((((pay p.2 ((ix ts p.1).n)).1.1)).since), .int .i64 ((((pay p.2 ((ix ts p.1).n)).1.1)).stage), .int .i64 ((((pay p.2 ((ix ts p.1).n)).1.1)).owed), .int .i64 ((((pay p.2 ((ix ts p.1).n)).1.1)).paid), .int .i64 ((((pay p.2 ((ix ts p.1).n)).1.1)).paused), .int .i64 (((((pay p.2 ((ix ts p.1).n)).1.1)).ap).state), .int .i64 (((((pay p.2 ((ix ts p.1).n)).1.1)).ap).ground), .int .i64 (((((pay p.2 ((ix ts p.1).n)).1.1)).ap).day)] [.string p.2.id, .string p.2.plate, .string p.2.key, .int .i64 p.2.begun, .int .i64 p.2.since, .int .i64 p.2.stage, .int .i64 p.2.owed, .int .i64 p.2.paid, .int .i64 p.2.paused, .int .i64 p.2.ap.state, .int .i64 p.2.ap.ground, .int .i64 p.2.ap.day] rfl rfl rfl (b := false) (fun ww => by rw [hup.c h41]; exact neq32 p.2 _ _ ww) rfl)) ?_
                            refine rg_put (d := 177) (v := .d (.fl (.bool false))) rfl (oy rfl rfl rfl rfl (op_pick rfl rfl (by rw [h39]; rfl) rfl)) ?_
                            refine rg_put (d := 178) (v := .d (.fl (.bool false))) rfl (og rfl (op_pick rfl rfl rfl rfl)) ?_
                            refine rg_done rfl ?_
                            refine a_condF rfl rfl ?_
                            refine a_skip ?_
                            show A _ _ _ _ _ _ _
                            refine a_region ?_
                            refine rg_put (d := 179) (v := .d (.ag (eCs (((pay p.2 ((ix ts p.1).n)).1.1))))) rfl (og rfl (of_eff (s_load_pts rfl Tryd.underlying32 rfl ti32 rfl rfl rfl rfl) rfl)) ?_
                            refine rg_sto (nw := [(102, .bx 32 ((eCs (((pay p.2 ((ix ts p.1).n)).1.1)))))]) rfl (og rfl (of_eff (s_store rfl rfl ti32 rfl rfl rfl rfl rfl rfl) rfl)) ?_
                            refine rg_done rfl ?_
                            show A _ _ _ _ _ _ _
                            refine a_region ?_
                            refine rg_put (d := 57) (v := .d (.fl (.int .i64 (p.1 : Int)))) rfl (og rfl (op_move rfl rfl rfl)) ?_
                            refine rg_put (d := 58) (v := .d (.fl (.int .i64 (((p.1 : Int) + 1))))) rfl (og rfl (op_bin rfl rfl rfl (fun x y w => b_add64 _ _ _ x y w (by omega)) rfl)) ?_
                            refine rg_put (d := 11) (v := .d (.fl (.int .i64 (((p.1 : Int) + 1))))) rfl (og rfl (op_assign rfl rfl rfl)) ?_
                            refine rg_done rfl ?_
                            show ∃ i, _ ∧ _ ∧ Imp _ _ _ _ _
                            refine ⟨(p.1 + 1, (((pay p.2 ((ix ts p.1).n)).1.1))), (by show p.1 + 1 ≤ _; omega), by show ts.length - (p.1 + 1) < _; omega, imp_forget rfl ⟨rfl, rfl, rfl, rfl, rfl, rfl, rfl, rfl, rfl, (ci (by show (p.1 : Int) + 1 = ((p.1 + 1 : Nat) : Int); omega)), trivial⟩ ⟨rfl, rfl, trivial⟩⟩
                      · skip
                        have h42 := f_beq h34
                        refine a_rseq ?_
                        refine rg_put (d := 102) (v := .d (.fl (.bool (((ix ts p.1).act == 2))))) rfl (og rfl (op_bin rfl rfl rfl (b_eql _ _ _ _) rfl)) ?_
                        refine rg_put (d := 101) (v := .d (.fl (.bool (((ix ts p.1).act == 2))))) rfl (og rfl (op_assign rfl rfl rfl)) ?_
                        refine rg_done rfl ?_
                        refine a_cond rfl (fun h43 => ?_) (fun h43 => ?_)
                        · skip
                          have h44 := t_beq h43
                          refine a_region ?_
                          refine rg_put (d := 104) (v := .d (.ag (eLw w))) rfl (og rfl (of_eff (s_load_pts rfl Tryd.underlying24 rfl ti24 rfl rfl rfl rfl) rfl)) ?_
                          refine rg_put (d := 105) (v := .d (.sl 1 (List.map (rI .i64) cal))) rfl (og rfl (op_move rfl rfl rfl)) ?_
                          refine rg_put (d := 106) (v := .d (.ag (eCs p.2))) rfl (og rfl (of_eff (s_load_pts rfl Tryd.underlying32 rfl ti32 rfl rfl rfl rfl) rfl)) ?_
                          refine rg_put (d := 107) (v := .pt 103 2) rfl (og rfl (of_eff (s_field_pt rfl Tryd.underlying37 rfl ti3 rfl rfl rfl) rfl)) ?_
                          refine rg_put (d := 108) (v := .d (.fl (.int .i64 ((ix ts p.1).n)))) rfl (og rfl (op_load_pt rfl Tryd.underlying3 rfl rfl rfl rfl rfl)) ?_
                          refine rg_put (d := 109) (v := .pt 103 1) rfl (og rfl (of_eff (s_field_pt rfl Tryd.underlying37 rfl ti3 rfl rfl rfl) rfl)) ?_
                          refine rg_put (d := 110) (v := .d (.fl (.int .i64 ((ix ts p.1).day)))) rfl (og rfl (op_load_pt rfl Tryd.underlying3 rfl rfl rfl rfl rfl)) ?_
                          refine rg_put (d := 111) (v := .tu [.ag (eCs ((fil w cal p.2 ((ix ts p.1).n) ((ix ts p.1).day)).1)), .fl (.int .i64 ((fil w cal p.2 ((ix ts p.1).n) ((ix ts p.1).day)).2))]) rfl (og rfl (op_call rfl Tryd.func9 nm9 rfl (.cons rfl (.d _) (.cons rfl (.d _) (.cons rfl (.d _) (.cons rfl (.d _) (.cons rfl (.d _) .nil))))) (fil10 w cal p.2 ((ix ts p.1).n) ((ix ts p.1).day) hl0) rfl)) ?_
                          refine rg_put (d := 103) (v := .tu [.ag (eCs ((fil w cal p.2 ((ix ts p.1).n) ((ix ts p.1).day)).1)), .fl (.int .i64 ((fil w cal p.2 ((ix ts p.1).n) ((ix ts p.1).day)).2))]) rfl (og rfl (op_move rfl rfl rfl)) ?_
                          refine rg_put (d := 112) (v := .d (.ag (eCs ((fil w cal p.2 ((ix ts p.1).n) ((ix ts p.1).day)).1)))) rfl (og rfl (op_extract rfl rfl rfl rfl)) ?_
                          refine rg_put (d := 113) (v := .d (.fl (.int .i64 ((fil w cal p.2 ((ix ts p.1).n) ((ix ts p.1).day)).2)))) rfl (og rfl (op_extract rfl rfl rfl rfl)) ?_
                          refine rg_sto (nw := [(104, .bx 32 ((eCs ((fil w cal p.2 ((ix ts p.1).n) ((ix ts p.1).day)).1))))]) rfl (og rfl (of_eff (s_store rfl rfl ti32 rfl rfl rfl rfl rfl rfl) rfl)) ?_
                          refine rg_put (d := 14) (v := .d (.fl (.int .i64 ((fil w cal p.2 ((ix ts p.1).n) ((ix ts p.1).day)).2)))) rfl (og rfl (op_assign rfl rfl rfl)) ?_
                          refine rg_done rfl ?_
                          show A _ _ _ _ _ _ _
                          refine a_seq ?_
                          refine a_rseq ?_
                          refine rg_put (d := 136) (v := .d (.fl (.int .i64 ((fil w cal p.2 ((ix ts p.1).n) ((ix ts p.1).day)).2)))) rfl (og rfl (op_move rfl rfl rfl)) ?_
                          refine rg_put (d := 137) (v := .d (.fl (.bool (((fil w cal p.2 ((ix ts p.1).n) ((ix ts p.1).day)).2 != 0))))) rfl (og rfl (op_bin rfl rfl rfl (b_neq _ _ _ _) rfl)) ?_
                          refine rg_done rfl ?_
                          refine a_cond rfl (fun h45 => ?_) (fun h45 => ?_)
                          · skip
                            have h46 := t_bne h45
                            refine a_exit ?_
                            show A _ _ _ _ _ _ _
                            refine a_region ?_
                            refine rg_put (d := 57) (v := .d (.fl (.int .i64 (p.1 : Int)))) rfl (og rfl (op_move rfl rfl rfl)) ?_
                            refine rg_put (d := 58) (v := .d (.fl (.int .i64 (((p.1 : Int) + 1))))) rfl (og rfl (op_bin rfl rfl rfl (fun x y w => b_add64 _ _ _ x y w (by omega)) rfl)) ?_
                            refine rg_put (d := 11) (v := .d (.fl (.int .i64 (((p.1 : Int) + 1))))) rfl (og rfl (op_assign rfl rfl rfl)) ?_
                            refine rg_done rfl ?_
                            show ∃ i, _ ∧ _ ∧ Imp _ _ _ _ _
                            refine ⟨(p.1 + 1, p.2), (by show p.1 + 1 ≤ _; omega), by show ts.length - (p.1 + 1) < _; omega, imp_forget rfl ⟨rfl, rfl, rfl, rfl, rfl, rfl, rfl, rfl, rfl, (ci (by show (p.1 : Int) + 1 = ((p.1 + 1 : Nat) : Int); omega)), trivial⟩ ⟨rfl, rfl, trivial⟩⟩
                          · skip
                            have hup := fil_up (f_bne h45)
                            have h47 := f_bne h45
                            refine a_skip ?_
                            show A _ _ _ _ _ _ _
                            refine a_seq ?_
                            refine a_rseq ?_
                            refine rg_put (d := 138) (v := .pt 104 5) rfl (og rfl (of_eff (s_field_pt rfl Tryd.underlying32 rfl ti3 rfl rfl rfl) rfl)) ?_
                            refine rg_put (d := 139) (v := .d (.fl (.int .i64 (((fil w cal p.2 ((ix ts p.1).n) ((ix ts p.1).day)).1).stage)))) rfl (og rfl (op_load_pt rfl Tryd.underlying3 rfl rfl rfl rfl rfl)) ?_
                            refine rg_put (d := 140) (v := .pt 102 5) rfl (og rfl (of_eff (s_field_pt rfl Tryd.underlying32 rfl ti3 rfl rfl rfl) rfl)) ?_
                            refine rg_put (d := 141) (v := .d (.fl (.int .i64 p.2.stage))) rfl (og rfl (op_load_pt rfl Tryd.underlying3 rfl rfl rfl rfl rfl)) ?_
                            refine rg_put (d := 142) (v := .d (.fl (.bool ((decide (((fil w cal p.2 ((ix ts p.1).n) ((ix ts p.1).day)).1).stage < p.2.stage)))))) rfl (og rfl (op_bin rfl rfl rfl (b_lss _ _ _ _) rfl)) ?_
                            refine rg_put (d := 143) (v := .d (.fl (.bool ((decide (((fil w cal p.2 ((ix ts p.1).n) ((ix ts p.1).day)).1).stage < p.2.stage)))))) rfl (og rfl (op_move rfl rfl rfl)) ?_
                            refine rg_put (d := 144) (v := .pt 104 6) rfl (oy rfl rfl rfl (decide_eq_false (Int.not_lt.2 hup.s)) (of_eff (s_field_pt rfl Tryd.underlying32 rfl ti3 rfl rfl rfl) rfl)) ?_
                            refine rg_put (d := 145) (v := .d (.fl (.int .i64 (((fil w cal p.2 ((ix ts p.1).n) ((ix ts p.1).day)).1).owed)))) rfl (oy rfl rfl rfl (decide_eq_false (Int.not_lt.2 hup.s)) (op_load_pt rfl Tryd.underlying3 rfl rfl rfl rfl rfl)) ?_
                            refine rg_put (d := 146) (v := .pt 102 6) rfl (oy rfl rfl rfl (decide_eq_false (Int.not_lt.2 hup.s)) (of_eff (s_field_pt rfl Tryd.underlying32 rfl ti3 rfl rfl rfl) rfl)) ?_
                            refine rg_put (d := 147) (v := .d (.fl (.int .i64 p.2.owed))) rfl (oy rfl rfl rfl (decide_eq_false (Int.not_lt.2 hup.s)) (op_load_pt rfl Tryd.underlying3 rfl rfl rfl rfl rfl)) ?_
                            refine rg_put (d := 148) (v := .d (.fl (.bool ((decide (((fil w cal p.2 ((ix ts p.1).n) ((ix ts p.1).day)).1).owed < p.2.owed)))))) rfl (oy rfl rfl rfl (decide_eq_false (Int.not_lt.2 hup.s)) (op_bin rfl rfl rfl (b_lss _ _ _ _) rfl)) ?_
                            refine rg_put (d := 149) (v := .d (.fl (.bool ((decide (((fil w cal p.2 ((ix ts p.1).n) ((ix ts p.1).day)).1).owed < p.2.owed)))))) rfl (og rfl (op_pick rfl rfl (by rw [(decide_eq_false (Int.not_lt.2 hup.s))]; rfl) rfl)) ?_
                            refine rg_put (d := 150) (v := .d (.fl (.bool ((decide (((fil w cal p.2 ((ix ts p.1).n) ((ix ts p.1).day)).1).owed < p.2.owed)))))) rfl (og rfl (op_move rfl rfl rfl)) ?_
                            refine rg_put (d := 151) (v := .pt 104 7) rfl (oy rfl rfl rfl (decide_eq_false (Int.not_lt.2 hup.o)) (of_eff (s_field_pt rfl Tryd.underlying32 rfl ti3 rfl rfl rfl) rfl)) ?_
                            refine rg_put (d := 152) (v := .d (.fl (.int .i64 (((fil w cal p.2 ((ix ts p.1).n) ((ix ts p.1).day)).1).paid)))) rfl (oy rfl rfl rfl (decide_eq_false (Int.not_lt.2 hup.o)) (op_load_pt rfl Tryd.underlying3 rfl rfl rfl rfl rfl)) ?_
                            refine rg_put (d := 153) (v := .pt 102 7) rfl (oy rfl rfl rfl (decide_eq_false (Int.not_lt.2 hup.o)) (of_eff (s_field_pt rfl Tryd.underlying32 rfl ti3 rfl rfl rfl) rfl)) ?_
                            refine rg_put (d := 154) (v := .d (.fl (.int .i64 p.2.paid))) rfl (oy rfl rfl rfl (decide_eq_false (Int.not_lt.2 hup.o)) (op_load_pt rfl Tryd.underlying3 rfl rfl rfl rfl rfl)) ?_
                            refine rg_put (d := 155) (v := .d (.fl (.bool ((decide (((fil w cal p.2 ((ix ts p.1).n) ((ix ts p.1).day)).1).paid < p.2.paid)))))) rfl (oy rfl rfl rfl (decide_eq_false (Int.not_lt.2 hup.o)) (op_bin rfl rfl rfl (b_lss _ _ _ _) rfl)) ?_
                            refine rg_put (d := 156) (v := .d (.fl (.bool ((decide (((fil w cal p.2 ((ix ts p.1).n) ((ix ts p.1).day)).1).paid < p.2.paid)))))) rfl (og rfl (op_pick rfl rfl (by rw [(decide_eq_false (Int.not_lt.2 hup.o))]; rfl) rfl)) ?_
                            refine rg_done rfl ?_
                            refine a_condF rfl (decide_eq_false (Int.not_lt.2 hup.d)) ?_
                            refine a_skip ?_
                            show A _ _ _ _ _ _ _
                            refine a_seq ?_
                            refine a_rseq ?_
                            refine rg_put (d := 157) (v := .pt 103 0) rfl (og rfl (of_eff (s_field_pt rfl Tryd.underlying37 rfl ti3 rfl rfl rfl) rfl)) ?_
                            refine rg_put (d := 158) (v := .d (.fl (.int .i64 ((ix ts p.1).act)))) rfl (og rfl (op_load_pt rfl Tryd.underlying3 rfl rfl rfl rfl rfl)) ?_
                            refine rg_put (d := 159) (v := .d (.fl (.bool (((ix ts p.1).act == 0))))) rfl (og rfl (op_bin rfl rfl rfl (b_eql _ _ _ _) rfl)) ?_
                            refine rg_put (d := 160) (v := .d (.fl (.bool (((ix ts p.1).act == 0))))) rfl (og rfl (op_move rfl rfl rfl)) ?_
                            refine rg_put (d := 161) (v := .d (.fl undef)) rfl (on rfl rfl rfl h21) ?_
                            refine rg_put (d := 162) (v := .d (.fl undef)) rfl (on rfl rfl rfl h21) ?_
                            refine rg_put (d := 163) (v := .d (.fl (.bool false))) rfl (og rfl (op_pick rfl rfl (by rw [h21]; rfl) rfl)) ?_
                            refine rg_put (d := 164) (v := .d (.fl (.bool false))) rfl (og rfl (op_move rfl rfl rfl)) ?_
                            refine rg_put (d := 165) (v := .d (.fl undef)) rfl (on rfl rfl rfl rfl) ?_
                            refine rg_put (d := 166) (v := .d (.fl undef)) rfl (on rfl rfl rfl rfl) ?_
                            refine rg_put (d := 167) (v := .d (.fl undef)) rfl (on rfl rfl rfl rfl) ?_
                            refine rg_put (d := 168) (v := .d (.fl (.bool false))) rfl (og rfl (op_pick rfl rfl rfl rfl)) ?_
                            refine rg_put (d := 169) (v := .d (.fl (.bool false))) rfl (og rfl (op_move rfl rfl rfl)) ?_
                            refine rg_put (d := 170) (v := .d (.ag (eCs p.2))) rfl (oy rfl rfl rfl rfl (of_eff (s_load_pts rfl Tryd.underlying32 rfl ti32 rfl rfl rfl rfl) rfl)) ?_
                            refine rg_put (d := 171) (v := .d (.fl (.bool (opn p.2)))) rfl (oy rfl rfl rfl rfl (op_call rfl Tryd.func13 nm13 rfl (.cons rfl (.d _) .nil) (opn21 p.2) rfl)) ?_
                            refine rg_put (d := 172) (v := .d (.fl (.bool ((!(opn p.2)))))) rfl (oy rfl rfl rfl rfl (op_un rfl rfl (u_not _) rfl)) ?_
                            refine rg_put (d := 173) (v := .d (.fl (.bool ((!(opn p.2)))))) rfl (oy rfl rfl rfl rfl (op_move rfl rfl rfl)) ?_
                            rcases fot ((!(opn p.2))) with h48 | h48
                            · skip
                              have h49 := f_not h48
                              refine rg_put (d := 174) (v := .d (.fl undef)) rfl (on rfl rfl rfl h48) ?_
                              refine rg_put (d := 175) (v := .d (.fl undef)) rfl (on rfl rfl rfl h48) ?_
                              refine rg_put (d := 176) (v := .d (.fl undef)) rfl (on rfl rfl rfl h48) ?_
                              refine rg_put (d := 177) (v := .d (.fl (.bool false))) rfl (oy rfl rfl rfl rfl (op_pick rfl rfl (by rw [h48]; rfl) rfl)) ?_
                              refine rg_put (d := 178) (v := .d (.fl (.bool false))) rfl (og rfl (op_pick rfl rfl rfl rfl)) ?_
                              refine rg_done rfl ?_
                              refine a_condF rfl rfl ?_
                              refine a_skip ?_
                              show A _ _ _ _ _ _ _
                              refine a_region ?_
                              refine rg_put (d := 179) (v := .d (.ag (eCs (((fil w cal p.2 ((ix ts p.1).n) ((ix ts p.1).day)).1))))) rfl (og rfl (of_eff (s_load_pts rfl Tryd.underlying32 rfl ti32 rfl rfl rfl rfl) rfl)) ?_
                              refine rg_sto (nw := [(102, .bx 32 ((eCs (((fil w cal p.2 ((ix ts p.1).n) ((ix ts p.1).day)).1)))))]) rfl (og rfl (of_eff (s_store rfl rfl ti32 rfl rfl rfl rfl rfl rfl) rfl)) ?_
                              refine rg_done rfl ?_
                              show A _ _ _ _ _ _ _
                              refine a_region ?_
                              refine rg_put (d := 57) (v := .d (.fl (.int .i64 (p.1 : Int)))) rfl (og rfl (op_move rfl rfl rfl)) ?_
                              refine rg_put (d := 58) (v := .d (.fl (.int .i64 (((p.1 : Int) + 1))))) rfl (og rfl (op_bin rfl rfl rfl (fun x y w => b_add64 _ _ _ x y w (by omega)) rfl)) ?_
                              refine rg_put (d := 11) (v := .d (.fl (.int .i64 (((p.1 : Int) + 1))))) rfl (og rfl (op_assign rfl rfl rfl)) ?_
                              refine rg_done rfl ?_
                              show ∃ i, _ ∧ _ ∧ Imp _ _ _ _ _
                              refine ⟨(p.1 + 1, (((fil w cal p.2 ((ix ts p.1).n) ((ix ts p.1).day)).1))), (by show p.1 + 1 ≤ _; omega), by show ts.length - (p.1 + 1) < _; omega, imp_forget rfl ⟨rfl, rfl, rfl, rfl, rfl, rfl, rfl, rfl, rfl, (ci (by show (p.1 : Int) + 1 = ((p.1 + 1 : Nat) : Int); omega)), trivial⟩ ⟨rfl, rfl, trivial⟩⟩
                            · skip
                              have h50 := t_not h48
                              refine rg_put (d := 174) (v := .d (.ag (eCs (((fil w cal p.2 ((ix ts p.1).n) ((ix ts p.1).day)).1))))) rfl (oy rfl rfl rfl h48 (of_eff (s_load_pts rfl Tryd.underlying32 rfl ti32 rfl rfl rfl rfl) rfl)) ?_
                              refine rg_put (d := 175) (v := .d (.ag (eCs p.2))) rfl (oy rfl rfl rfl h48 (of_eff (s_load_pts rfl Tryd.underlying32 rfl ti32 rfl rfl rfl rfl) rfl)) ?_
                              refine rg_put (d := 176) (v := .d (.fl (.bool false))) rfl (oy rfl rfl rfl h48 (op_eqS [.string ((((fil w cal p.2 ((ix ts p.1).n) ((ix ts p.1).day)).1)).id), .string ((((fil w cal p.2 ((ix ts p.1).n) ((ix ts p.1).day)).1)).plate), .string ((((fil w cal p.2 ((ix ts p.1).n) ((ix ts p.1).day)).1)).key), .int .i64 ((((fil w cal p.2 ((ix ts p.1).n) ((ix ts p.1).day)).1)).begun), .int .i64 ((((fil w cal p.2 ((ix ts p.1).n) ((ix ts p.1).day)).1)).since), .int .i64 ((((fil w cal p.2 ((ix ts p.1).n) ((ix ts p.1).day)).1)).stage), .int .i64 ((((fil w cal p.2 ((ix ts p.1).n) ((ix ts p.1).day)).1)).owed), .int .i64 ((((fil w cal p.2 ((ix ts p.1).n) ((ix ts p.1).day)).1)).paid), .int .i64 ((((fil w cal p.2 ((ix ts p.1).n) ((ix ts p.1).day)).1)).paused), .int .i64 (((((fil w cal p.2 ((ix ts p.1).n) ((ix ts p.1).day)).1)).ap).state), .int .i64 (((((fil w cal p.2 ((ix ts p.1).n) ((ix ts p.1).day)).1)).ap).ground), .int .i64 (((((fil w cal p.2 ((ix ts p.1).n) ((ix ts p.1).day)).1)).ap).day)] [.string p.2.id, .string p.2.plate, .string p.2.key, .int .i64 p.2.begun, .int .i64 p.2.since, .int .i64 p.2.stage, .int .i64 p.2.owed, .int .i64 p.2.paid, .int .i64 p.2.paused, .int .i64 p.2.ap.state, .int .i64 p.2.ap.ground, .int .i64 p.2.ap.day] rfl rfl rfl (b := false) (fun ww => by rw [hup.c h50]; exact neq32 p.2 _ _ ww) rfl)) ?_
                              refine rg_put (d := 177) (v := .d (.fl (.bool false))) rfl (oy rfl rfl rfl rfl (op_pick rfl rfl (by rw [h48]; rfl) rfl)) ?_
                              refine rg_put (d := 178) (v := .d (.fl (.bool false))) rfl (og rfl (op_pick rfl rfl rfl rfl)) ?_
                              refine rg_done rfl ?_
                              refine a_condF rfl rfl ?_
                              refine a_skip ?_
                              show A _ _ _ _ _ _ _
                              refine a_region ?_
                              refine rg_put (d := 179) (v := .d (.ag (eCs (((fil w cal p.2 ((ix ts p.1).n) ((ix ts p.1).day)).1))))) rfl (og rfl (of_eff (s_load_pts rfl Tryd.underlying32 rfl ti32 rfl rfl rfl rfl) rfl)) ?_
                              refine rg_sto (nw := [(102, .bx 32 ((eCs (((fil w cal p.2 ((ix ts p.1).n) ((ix ts p.1).day)).1)))))]) rfl (og rfl (of_eff (s_store rfl rfl ti32 rfl rfl rfl rfl rfl rfl) rfl)) ?_
                              refine rg_done rfl ?_
                              show A _ _ _ _ _ _ _
                              refine a_region ?_
                              refine rg_put (d := 57) (v := .d (.fl (.int .i64 (p.1 : Int)))) rfl (og rfl (op_move rfl rfl rfl)) ?_
                              refine rg_put (d := 58) (v := .d (.fl (.int .i64 (((p.1 : Int) + 1))))) rfl (og rfl (op_bin rfl rfl rfl (fun x y w => b_add64 _ _ _ x y w (by omega)) rfl)) ?_
                              refine rg_put (d := 11) (v := .d (.fl (.int .i64 (((p.1 : Int) + 1))))) rfl (og rfl (op_assign rfl rfl rfl)) ?_
                              refine rg_done rfl ?_
                              show ∃ i, _ ∧ _ ∧ Imp _ _ _ _ _
                              refine ⟨(p.1 + 1, (((fil w cal p.2 ((ix ts p.1).n) ((ix ts p.1).day)).1))), (by show p.1 + 1 ≤ _; omega), by show ts.length - (p.1 + 1) < _; omega, imp_forget rfl ⟨rfl, rfl, rfl, rfl, rfl, rfl, rfl, rfl, rfl, (ci (by show (p.1 : Int) + 1 = ((p.1 + 1 : Nat) : Int); omega)), trivial⟩ ⟨rfl, rfl, trivial⟩⟩
                        · skip
                          have h51 := f_beq h43
                          refine a_rseq ?_
                          refine rg_put (d := 115) (v := .d (.fl (.bool (((ix ts p.1).act == 3))))) rfl (og rfl (op_bin rfl rfl rfl (b_eql _ _ _ _) rfl)) ?_
                          refine rg_put (d := 114) (v := .d (.fl (.bool (((ix ts p.1).act == 3))))) rfl (og rfl (op_assign rfl rfl rfl)) ?_
                          refine rg_done rfl ?_
                          refine a_cond rfl (fun h52 => ?_) (fun h52 => ?_)
                          · skip
                            have h53 := t_beq h52
                            refine a_region ?_
                            refine rg_put (d := 117) (v := .d (.ag (eLw w))) rfl (og rfl (of_eff (s_load_pts rfl Tryd.underlying24 rfl ti24 rfl rfl rfl rfl) rfl)) ?_
                            refine rg_put (d := 118) (v := .d (.sl 1 (List.map (rI .i64) cal))) rfl (og rfl (op_move rfl rfl rfl)) ?_
                            refine rg_put (d := 119) (v := .d (.ag (eCs p.2))) rfl (og rfl (of_eff (s_load_pts rfl Tryd.underlying32 rfl ti32 rfl rfl rfl rfl) rfl)) ?_
                            refine rg_put (d := 120) (v := .pt 103 1) rfl (og rfl (of_eff (s_field_pt rfl Tryd.underlying37 rfl ti3 rfl rfl rfl) rfl)) ?_
                            refine rg_put (d := 121) (v := .d (.fl (.int .i64 ((ix ts p.1).day)))) rfl (og rfl (op_load_pt rfl Tryd.underlying3 rfl rfl rfl rfl rfl)) ?_
                            refine rg_put (d := 122) (v := .tu [.ag (eCs ((dec w cal p.2 true ((ix ts p.1).day)).1)), .fl (.int .i64 ((dec w cal p.2 true ((ix ts p.1).day)).2))]) rfl (og rfl (op_call rfl Tryd.func10 nm10 rfl (.cons rfl (.d _) (.cons rfl (.d _) (.cons rfl (.d _) (.cons rfl (.d _) (.cons rfl (.d _) .nil))))) (dec13 w cal p.2 true ((ix ts p.1).day) hl0) rfl)) ?_
                            refine rg_put (d := 116) (v := .tu [.ag (eCs ((dec w cal p.2 true ((ix ts p.1).day)).1)), .fl (.int .i64 ((dec w cal p.2 true ((ix ts p.1).day)).2))]) rfl (og rfl (op_move rfl rfl rfl)) ?_
                            refine rg_put (d := 123) (v := .d (.ag (eCs ((dec w cal p.2 true ((ix ts p.1).day)).1)))) rfl (og rfl (op_extract rfl rfl rfl rfl)) ?_
                            refine rg_put (d := 124) (v := .d (.fl (.int .i64 ((dec w cal p.2 true ((ix ts p.1).day)).2)))) rfl (og rfl (op_extract rfl rfl rfl rfl)) ?_
                            refine rg_sto (nw := [(104, .bx 32 ((eCs ((dec w cal p.2 true ((ix ts p.1).day)).1))))]) rfl (og rfl (of_eff (s_store rfl rfl ti32 rfl rfl rfl rfl rfl rfl) rfl)) ?_
                            refine rg_put (d := 14) (v := .d (.fl (.int .i64 ((dec w cal p.2 true ((ix ts p.1).day)).2)))) rfl (og rfl (op_assign rfl rfl rfl)) ?_
                            refine rg_done rfl ?_
                            show A _ _ _ _ _ _ _
                            refine a_seq ?_
                            refine a_rseq ?_
                            refine rg_put (d := 136) (v := .d (.fl (.int .i64 ((dec w cal p.2 true ((ix ts p.1).day)).2)))) rfl (og rfl (op_move rfl rfl rfl)) ?_
                            refine rg_put (d := 137) (v := .d (.fl (.bool (((dec w cal p.2 true ((ix ts p.1).day)).2 != 0))))) rfl (og rfl (op_bin rfl rfl rfl (b_neq _ _ _ _) rfl)) ?_
                            refine rg_done rfl ?_
                            refine a_cond rfl (fun h54 => ?_) (fun h54 => ?_)
                            · skip
                              have h55 := t_bne h54
                              refine a_exit ?_
                              show A _ _ _ _ _ _ _
                              refine a_region ?_
                              refine rg_put (d := 57) (v := .d (.fl (.int .i64 (p.1 : Int)))) rfl (og rfl (op_move rfl rfl rfl)) ?_
                              refine rg_put (d := 58) (v := .d (.fl (.int .i64 (((p.1 : Int) + 1))))) rfl (og rfl (op_bin rfl rfl rfl (fun x y w => b_add64 _ _ _ x y w (by omega)) rfl)) ?_
                              refine rg_put (d := 11) (v := .d (.fl (.int .i64 (((p.1 : Int) + 1))))) rfl (og rfl (op_assign rfl rfl rfl)) ?_
                              refine rg_done rfl ?_
                              show ∃ i, _ ∧ _ ∧ Imp _ _ _ _ _
                              refine ⟨(p.1 + 1, p.2), (by show p.1 + 1 ≤ _; omega), by show ts.length - (p.1 + 1) < _; omega, imp_forget rfl ⟨rfl, rfl, rfl, rfl, rfl, rfl, rfl, rfl, rfl, (ci (by show (p.1 : Int) + 1 = ((p.1 + 1 : Nat) : Int); omega)), trivial⟩ ⟨rfl, rfl, trivial⟩⟩
                            · skip
                              have hup := dec_up (f_bne h54)
                              have h56 := f_bne h54
                              refine a_skip ?_
                              show A _ _ _ _ _ _ _
                              refine a_seq ?_
                              refine a_rseq ?_
                              refine rg_put (d := 138) (v := .pt 104 5) rfl (og rfl (of_eff (s_field_pt rfl Tryd.underlying32 rfl ti3 rfl rfl rfl) rfl)) ?_
                              refine rg_put (d := 139) (v := .d (.fl (.int .i64 (((dec w cal p.2 true ((ix ts p.1).day)).1).stage)))) rfl (og rfl (op_load_pt rfl Tryd.underlying3 rfl rfl rfl rfl rfl)) ?_
                              refine rg_put (d := 140) (v := .pt 102 5) rfl (og rfl (of_eff (s_field_pt rfl Tryd.underlying32 rfl ti3 rfl rfl rfl) rfl)) ?_
                              refine rg_put (d := 141) (v := .d (.fl (.int .i64 p.2.stage))) rfl (og rfl (op_load_pt rfl Tryd.underlying3 rfl rfl rfl rfl rfl)) ?_
                              refine rg_put (d := 142) (v := .d (.fl (.bool ((decide (((dec w cal p.2 true ((ix ts p.1).day)).1).stage < p.2.stage)))))) rfl (og rfl (op_bin rfl rfl rfl (b_lss _ _ _ _) rfl)) ?_
                              refine rg_put (d := 143) (v := .d (.fl (.bool ((decide (((dec w cal p.2 true ((ix ts p.1).day)).1).stage < p.2.stage)))))) rfl (og rfl (op_move rfl rfl rfl)) ?_
                              refine rg_put (d := 144) (v := .pt 104 6) rfl (oy rfl rfl rfl (decide_eq_false (Int.not_lt.2 hup.s)) (of_eff (s_field_pt rfl Tryd.underlying32 rfl ti3 rfl rfl rfl) rfl)) ?_
                              refine rg_put (d := 145) (v := .d (.fl (.int .i64 (((dec w cal p.2 true ((ix ts p.1).day)).1).owed)))) rfl (oy rfl rfl rfl (decide_eq_false (Int.not_lt.2 hup.s)) (op_load_pt rfl Tryd.underlying3 rfl rfl rfl rfl rfl)) ?_
                              refine rg_put (d := 146) (v := .pt 102 6) rfl (oy rfl rfl rfl (decide_eq_false (Int.not_lt.2 hup.s)) (of_eff (s_field_pt rfl Tryd.underlying32 rfl ti3 rfl rfl rfl) rfl)) ?_
                              refine rg_put (d := 147) (v := .d (.fl (.int .i64 p.2.owed))) rfl (oy rfl rfl rfl (decide_eq_false (Int.not_lt.2 hup.s)) (op_load_pt rfl Tryd.underlying3 rfl rfl rfl rfl rfl)) ?_
                              refine rg_put (d := 148) (v := .d (.fl (.bool ((decide (((dec w cal p.2 true ((ix ts p.1).day)).1).owed < p.2.owed)))))) rfl (oy rfl rfl rfl (decide_eq_false (Int.not_lt.2 hup.s)) (op_bin rfl rfl rfl (b_lss _ _ _ _) rfl)) ?_
                              refine rg_put (d := 149) (v := .d (.fl (.bool ((decide (((dec w cal p.2 true ((ix ts p.1).day)).1).owed < p.2.owed)))))) rfl (og rfl (op_pick rfl rfl (by rw [(decide_eq_false (Int.not_lt.2 hup.s))]; rfl) rfl)) ?_
                              refine rg_put (d := 150) (v := .d (.fl (.bool ((decide (((dec w cal p.2 true ((ix ts p.1).day)).1).owed < p.2.owed)))))) rfl (og rfl (op_move rfl rfl rfl)) ?_
                              refine rg_put (d := 151) (v := .pt 104 7) rfl (oy rfl rfl rfl (decide_eq_false (Int.not_lt.2 hup.o)) (of_eff (s_field_pt rfl Tryd.underlying32 rfl ti3 rfl rfl rfl) rfl)) ?_
                              refine rg_put (d := 152) (v := .d (.fl (.int .i64 (((dec w cal p.2 true ((ix ts p.1).day)).1).paid)))) rfl (oy rfl rfl rfl (decide_eq_false (Int.not_lt.2 hup.o)) (op_load_pt rfl Tryd.underlying3 rfl rfl rfl rfl rfl)) ?_
                              refine rg_put (d := 153) (v := .pt 102 7) rfl (oy rfl rfl rfl (decide_eq_false (Int.not_lt.2 hup.o)) (of_eff (s_field_pt rfl Tryd.underlying32 rfl ti3 rfl rfl rfl) rfl)) ?_
                              refine rg_put (d := 154) (v := .d (.fl (.int .i64 p.2.paid))) rfl (oy rfl rfl rfl (decide_eq_false (Int.not_lt.2 hup.o)) (op_load_pt rfl Tryd.underlying3 rfl rfl rfl rfl rfl)) ?_
                              refine rg_put (d := 155) (v := .d (.fl (.bool ((decide (((dec w cal p.2 true ((ix ts p.1).day)).1).paid < p.2.paid)))))) rfl (oy rfl rfl rfl (decide_eq_false (Int.not_lt.2 hup.o)) (op_bin rfl rfl rfl (b_lss _ _ _ _) rfl)) ?_
                              refine rg_put (d := 156) (v := .d (.fl (.bool ((decide (((dec w cal p.2 true ((ix ts p.1).day)).1).paid < p.2.paid)))))) rfl (og rfl (op_pick rfl rfl (by rw [(decide_eq_false (Int.not_lt.2 hup.o))]; rfl) rfl)) ?_
                              refine rg_done rfl ?_
                              refine a_condF rfl (decide_eq_false (Int.not_lt.2 hup.d)) ?_
                              refine a_skip ?_
                              show A _ _ _ _ _ _ _
                              refine a_seq ?_
                              refine a_rseq ?_
                              refine rg_put (d := 157) (v := .pt 103 0) rfl (og rfl (of_eff (s_field_pt rfl Tryd.underlying37 rfl ti3 rfl rfl rfl) rfl)) ?_
                              refine rg_put (d := 158) (v := .d (.fl (.int .i64 ((ix ts p.1).act)))) rfl (og rfl (op_load_pt rfl Tryd.underlying3 rfl rfl rfl rfl rfl)) ?_
                              refine rg_put (d := 159) (v := .d (.fl (.bool (((ix ts p.1).act == 0))))) rfl (og rfl (op_bin rfl rfl rfl (b_eql _ _ _ _) rfl)) ?_
                              refine rg_put (d := 160) (v := .d (.fl (.bool (((ix ts p.1).act == 0))))) rfl (og rfl (op_move rfl rfl rfl)) ?_
                              refine rg_put (d := 161) (v := .d (.fl undef)) rfl (on rfl rfl rfl h21) ?_
                              refine rg_put (d := 162) (v := .d (.fl undef)) rfl (on rfl rfl rfl h21) ?_
                              refine rg_put (d := 163) (v := .d (.fl (.bool false))) rfl (og rfl (op_pick rfl rfl (by rw [h21]; rfl) rfl)) ?_
                              refine rg_put (d := 164) (v := .d (.fl (.bool false))) rfl (og rfl (op_move rfl rfl rfl)) ?_
                              refine rg_put (d := 165) (v := .d (.fl undef)) rfl (on rfl rfl rfl rfl) ?_
                              refine rg_put (d := 166) (v := .d (.fl undef)) rfl (on rfl rfl rfl rfl) ?_
                              refine rg_put (d := 167) (v := .d (.fl undef)) rfl (on rfl rfl rfl rfl) ?_
                              refine rg_put (d := 168) (v := .d (.fl (.bool false))) rfl (og rfl (op_pick rfl rfl rfl rfl)) ?_
                              refine rg_put (d := 169) (v := .d (.fl (.bool false))) rfl (og rfl (op_move rfl rfl rfl)) ?_
                              refine rg_put (d := 170) (v := .d (.ag (eCs p.2))) rfl (oy rfl rfl rfl rfl (of_eff (s_load_pts rfl Tryd.underlying32 rfl ti32 rfl rfl rfl rfl) rfl)) ?_
                              refine rg_put (d := 171) (v := .d (.fl (.bool (opn p.2)))) rfl (oy rfl rfl rfl rfl (op_call rfl Tryd.func13 nm13 rfl (.cons rfl (.d _) .nil) (opn21 p.2) rfl)) ?_
                              refine rg_put (d := 172) (v := .d (.fl (.bool ((!(opn p.2)))))) rfl (oy rfl rfl rfl rfl (op_un rfl rfl (u_not _) rfl)) ?_
                              refine rg_put (d := 173) (v := .d (.fl (.bool ((!(opn p.2)))))) rfl (oy rfl rfl rfl rfl (op_move rfl rfl rfl)) ?_
                              rcases fot ((!(opn p.2))) with h57 | h57
                              · skip
                                have h58 := f_not h57
                                refine rg_put (d := 174) (v := .d (.fl undef)) rfl (on rfl rfl rfl h57) ?_
                                refine rg_put (d := 175) (v := .d (.fl undef)) rfl (on rfl rfl rfl h57) ?_
                                refine rg_put (d := 176) (v := .d (.fl undef)) rfl (on rfl rfl rfl h57) ?_
                                refine rg_put (d := 177) (v := .d (.fl (.bool false))) rfl (oy rfl rfl rfl rfl (op_pick rfl rfl (by rw [h57]; rfl) rfl)) ?_
                                refine rg_put (d := 178) (v := .d (.fl (.bool false))) rfl (og rfl (op_pick rfl rfl rfl rfl)) ?_
                                refine rg_done rfl ?_
                                refine a_condF rfl rfl ?_
                                refine a_skip ?_
                                show A _ _ _ _ _ _ _
                                refine a_region ?_
                                refine rg_put (d := 179) (v := .d (.ag (eCs (((dec w cal p.2 true ((ix ts p.1).day)).1))))) rfl (og rfl (of_eff (s_load_pts rfl Tryd.underlying32 rfl ti32 rfl rfl rfl rfl) rfl)) ?_
                                refine rg_sto (nw := [(102, .bx 32 ((eCs (((dec w cal p.2 true ((ix ts p.1).day)).1)))))]) rfl (og rfl (of_eff (s_store rfl rfl ti32 rfl rfl rfl rfl rfl rfl) rfl)) ?_
                                refine rg_done rfl ?_
                                show A _ _ _ _ _ _ _
                                refine a_region ?_
                                refine rg_put (d := 57) (v := .d (.fl (.int .i64 (p.1 : Int)))) rfl (og rfl (op_move rfl rfl rfl)) ?_
                                refine rg_put (d := 58) (v := .d (.fl (.int .i64 (((p.1 : Int) + 1))))) rfl (og rfl (op_bin rfl rfl rfl (fun x y w => b_add64 _ _ _ x y w (by omega)) rfl)) ?_
                                refine rg_put (d := 11) (v := .d (.fl (.int .i64 (((p.1 : Int) + 1))))) rfl (og rfl (op_assign rfl rfl rfl)) ?_
                                refine rg_done rfl ?_
                                show ∃ i, _ ∧ _ ∧ Imp _ _ _ _ _
                                refine ⟨(p.1 + 1, (((dec w cal p.2 true ((ix ts p.1).day)).1))), (by show p.1 + 1 ≤ _; omega), by show ts.length - (p.1 + 1) < _; omega, imp_forget rfl ⟨rfl, rfl, rfl, rfl, rfl, rfl, rfl, rfl, rfl, (ci (by show (p.1 : Int) + 1 = ((p.1 + 1 : Nat) : Int); omega)), trivial⟩ ⟨rfl, rfl, trivial⟩⟩
                              · skip
                                have h59 := t_not h57
                                refine rg_put (d := 174) (v := .d (.ag (eCs (((dec w cal p.2 true ((ix ts p.1).day)).1))))) rfl (oy rfl rfl rfl h57 (of_eff (s_load_pts rfl Tryd.underlying32 rfl ti32 rfl rfl rfl rfl) rfl)) ?_
                                refine rg_put (d := 175) (v := .d (.ag (eCs p.2))) rfl (oy rfl rfl rfl h57 (of_eff (s_load_pts rfl Tryd.underlying32 rfl ti32 rfl rfl rfl rfl) rfl)) ?_
                                refine rg_put (d := 176) (v := .d (.fl (.bool false))) rfl (oy rfl rfl rfl h57 (op_eqS [.string ((((dec w cal p.2 true ((ix ts p.1).day)).1)).id), .string ((((dec w cal p.2 true ((ix ts p.1).day)).1)).plate), .string ((((dec w cal p.2 true ((ix ts p.1).day)).1)).key), .int .i64 ((((dec w cal p.2 true ((ix ts p.1).day)).1)).begun), .int .i64 ((((dec w cal p.2 true ((ix ts p.1).day)).1)).since), .int .i64 ((((dec w cal p.2 true ((ix ts p.1).day)).1)).stage), .int .i64 ((((dec w cal p.2 true ((ix ts p.1).day)).1)).owed), .int .i64 ((((dec w cal p.2 true ((ix ts p.1).day)).1)).paid), .int .i64 ((((dec w cal p.2 true ((ix ts p.1).day)).1)).paused), .int .i64 (((((dec w cal p.2 true ((ix ts p.1).day)).1)).ap).state), .int .i64 (((((dec w cal p.2 true ((ix ts p.1).day)).1)).ap).ground), .int .i64 (((((dec w cal p.2 true ((ix ts p.1).day)).1)).ap).day)] [.string p.2.id, .string p.2.plate, .string p.2.key, .int .i64 p.2.begun, .int .i64 p.2.since, .int .i64 p.2.stage, .int .i64 p.2.owed, .int .i64 p.2.paid, .int .i64 p.2.paused, .int .i64 p.2.ap.state, .int .i64 p.2.ap.ground, .int .i64 p.2.ap.day] rfl rfl rfl (b := false) (fun ww => by rw [hup.c h59]; exact neq32 p.2 _ _ ww) rfl)) ?_
                                refine rg_put (d := 177) (v := .d (.fl (.bool false))) rfl (oy rfl rfl rfl rfl (op_pick rfl rfl (by rw [h57]; rfl) rfl)) ?_
                                refine rg_put (d := 178) (v := .d (.fl (.bool false))) rfl (og rfl (op_pick rfl rfl rfl rfl)) ?_
                                refine rg_done rfl ?_
                                refine a_condF rfl rfl ?_
                                refine a_skip ?_
                                show A _ _ _ _ _ _ _
                                refine a_region ?_
                                refine rg_put (d := 179) (v := .d (.ag (eCs (((dec w cal p.2 true ((ix ts p.1).day)).1))))) rfl (og rfl (of_eff (s_load_pts rfl Tryd.underlying32 rfl ti32 rfl rfl rfl rfl) rfl)) ?_
                                refine rg_sto (nw := [(102, .bx 32 ((eCs (((dec w cal p.2 true ((ix ts p.1).day)).1)))))]) rfl (og rfl (of_eff (s_store rfl rfl ti32 rfl rfl rfl rfl rfl rfl) rfl)) ?_
                                refine rg_done rfl ?_
                                show A _ _ _ _ _ _ _
                                refine a_region ?_
                                refine rg_put (d := 57) (v := .d (.fl (.int .i64 (p.1 : Int)))) rfl (og rfl (op_move rfl rfl rfl)) ?_
                                refine rg_put (d := 58) (v := .d (.fl (.int .i64 (((p.1 : Int) + 1))))) rfl (og rfl (op_bin rfl rfl rfl (fun x y w => b_add64 _ _ _ x y w (by omega)) rfl)) ?_
                                refine rg_put (d := 11) (v := .d (.fl (.int .i64 (((p.1 : Int) + 1))))) rfl (og rfl (op_assign rfl rfl rfl)) ?_
                                refine rg_done rfl ?_
                                show ∃ i, _ ∧ _ ∧ Imp _ _ _ _ _
                                refine ⟨(p.1 + 1, (((dec w cal p.2 true ((ix ts p.1).day)).1))), (by show p.1 + 1 ≤ _; omega), by show ts.length - (p.1 + 1) < _; omega, imp_forget rfl ⟨rfl, rfl, rfl, rfl, rfl, rfl, rfl, rfl, rfl, (ci (by show (p.1 : Int) + 1 = ((p.1 + 1 : Nat) : Int); omega)), trivial⟩ ⟨rfl, rfl, trivial⟩⟩
                          · skip
                            have h60 := f_beq h52
                            refine a_rseq ?_
                            refine rg_put (d := 126) (v := .d (.fl (.bool (((ix ts p.1).act == 4))))) rfl (og rfl (op_bin rfl rfl rfl (b_eql _ _ _ _) rfl)) ?_
                            refine rg_put (d := 125) (v := .d (.fl (.bool (((ix ts p.1).act == 4))))) rfl (og rfl (op_assign rfl rfl rfl)) ?_
                            refine rg_done rfl ?_
                            refine a_cond rfl (fun h61 => ?_) (fun h61 => ?_)
                            · skip
                              have h62 := t_beq h61
                              refine a_region ?_
                              refine rg_put (d := 128) (v := .d (.ag (eLw w))) rfl (og rfl (of_eff (s_load_pts rfl Tryd.underlying24 rfl ti24 rfl rfl rfl rfl) rfl)) ?_
                              refine rg_put (d := 129) (v := .d (.sl 1 (List.map (rI .i64) cal))) rfl (og rfl (op_move rfl rfl rfl)) ?_
                              refine rg_put (d := 130) (v := .d (.ag (eCs p.2))) rfl (og rfl (of_eff (s_load_pts rfl Tryd.underlying32 rfl ti32 rfl rfl rfl rfl) rfl)) ?_
                              refine rg_put (d := 131) (v := .pt 103 1) rfl (og rfl (of_eff (s_field_pt rfl Tryd.underlying37 rfl ti3 rfl rfl rfl) rfl)) ?_
                              refine rg_put (d := 132) (v := .d (.fl (.int .i64 ((ix ts p.1).day)))) rfl (og rfl (op_load_pt rfl Tryd.underlying3 rfl rfl rfl rfl rfl)) ?_
                              refine rg_put (d := 133) (v := .tu [.ag (eCs ((dec w cal p.2 false ((ix ts p.1).day)).1)), .fl (.int .i64 ((dec w cal p.2 false ((ix ts p.1).day)).2))]) rfl (og rfl (op_call rfl Tryd.func10 nm10 rfl (.cons rfl (.d _) (.cons rfl (.d _) (.cons rfl (.d _) (.cons rfl (.d _) (.cons rfl (.d _) .nil))))) (dec13 w cal p.2 false ((ix ts p.1).day) hl0) rfl)) ?_
                              refine rg_put (d := 127) (v := .tu [.ag (eCs ((dec w cal p.2 false ((ix ts p.1).day)).1)), .fl (.int .i64 ((dec w cal p.2 false ((ix ts p.1).day)).2))]) rfl (og rfl (op_move rfl rfl rfl)) ?_
                              refine rg_put (d := 134) (v := .d (.ag (eCs ((dec w cal p.2 false ((ix ts p.1).day)).1)))) rfl (og rfl (op_extract rfl rfl rfl rfl)) ?_
                              refine rg_put (d := 135) (v := .d (.fl (.int .i64 ((dec w cal p.2 false ((ix ts p.1).day)).2)))) rfl (og rfl (op_extract rfl rfl rfl rfl)) ?_
                              refine rg_sto (nw := [(104, .bx 32 ((eCs ((dec w cal p.2 false ((ix ts p.1).day)).1))))]) rfl (og rfl (of_eff (s_store rfl rfl ti32 rfl rfl rfl rfl rfl rfl) rfl)) ?_
                              refine rg_put (d := 14) (v := .d (.fl (.int .i64 ((dec w cal p.2 false ((ix ts p.1).day)).2)))) rfl (og rfl (op_assign rfl rfl rfl)) ?_
                              refine rg_done rfl ?_
                              show A _ _ _ _ _ _ _
                              refine a_seq ?_
                              refine a_rseq ?_
                              refine rg_put (d := 136) (v := .d (.fl (.int .i64 ((dec w cal p.2 false ((ix ts p.1).day)).2)))) rfl (og rfl (op_move rfl rfl rfl)) ?_
                              refine rg_put (d := 137) (v := .d (.fl (.bool (((dec w cal p.2 false ((ix ts p.1).day)).2 != 0))))) rfl (og rfl (op_bin rfl rfl rfl (b_neq _ _ _ _) rfl)) ?_
                              refine rg_done rfl ?_
                              refine a_cond rfl (fun h63 => ?_) (fun h63 => ?_)
                              · skip
                                have h64 := t_bne h63
                                refine a_exit ?_
                                show A _ _ _ _ _ _ _
                                refine a_region ?_
                                refine rg_put (d := 57) (v := .d (.fl (.int .i64 (p.1 : Int)))) rfl (og rfl (op_move rfl rfl rfl)) ?_
                                refine rg_put (d := 58) (v := .d (.fl (.int .i64 (((p.1 : Int) + 1))))) rfl (og rfl (op_bin rfl rfl rfl (fun x y w => b_add64 _ _ _ x y w (by omega)) rfl)) ?_
                                refine rg_put (d := 11) (v := .d (.fl (.int .i64 (((p.1 : Int) + 1))))) rfl (og rfl (op_assign rfl rfl rfl)) ?_
                                refine rg_done rfl ?_
                                show ∃ i, _ ∧ _ ∧ Imp _ _ _ _ _
                                refine ⟨(p.1 + 1, p.2), (by show p.1 + 1 ≤ _; omega), by show ts.length - (p.1 + 1) < _; omega, imp_forget rfl ⟨rfl, rfl, rfl, rfl, rfl, rfl, rfl, rfl, rfl, (ci (by show (p.1 : Int) + 1 = ((p.1 + 1 : Nat) : Int); omega)), trivial⟩ ⟨rfl, rfl, trivial⟩⟩
                              · skip
                                have hup := dec_up (f_bne h63)
                                have h65 := f_bne h63
                                refine a_skip ?_
                                show A _ _ _ _ _ _ _
                                refine a_seq ?_
                                refine a_rseq ?_
                                refine rg_put (d := 138) (v := .pt 104 5) rfl (og rfl (of_eff (s_field_pt rfl Tryd.underlying32 rfl ti3 rfl rfl rfl) rfl)) ?_
                                refine rg_put (d := 139) (v := .d (.fl (.int .i64 (((dec w cal p.2 false ((ix ts p.1).day)).1).stage)))) rfl (og rfl (op_load_pt rfl Tryd.underlying3 rfl rfl rfl rfl rfl)) ?_
                                refine rg_put (d := 140) (v := .pt 102 5) rfl (og rfl (of_eff (s_field_pt rfl Tryd.underlying32 rfl ti3 rfl rfl rfl) rfl)) ?_
                                refine rg_put (d := 141) (v := .d (.fl (.int .i64 p.2.stage))) rfl (og rfl (op_load_pt rfl Tryd.underlying3 rfl rfl rfl rfl rfl)) ?_
                                refine rg_put (d := 142) (v := .d (.fl (.bool ((decide (((dec w cal p.2 false ((ix ts p.1).day)).1).stage < p.2.stage)))))) rfl (og rfl (op_bin rfl rfl rfl (b_lss _ _ _ _) rfl)) ?_
                                refine rg_put (d := 143) (v := .d (.fl (.bool ((decide (((dec w cal p.2 false ((ix ts p.1).day)).1).stage < p.2.stage)))))) rfl (og rfl (op_move rfl rfl rfl)) ?_
                                refine rg_put (d := 144) (v := .pt 104 6) rfl (oy rfl rfl rfl (decide_eq_false (Int.not_lt.2 hup.s)) (of_eff (s_field_pt rfl Tryd.underlying32 rfl ti3 rfl rfl rfl) rfl)) ?_
                                refine rg_put (d := 145) (v := .d (.fl (.int .i64 (((dec w cal p.2 false ((ix ts p.1).day)).1).owed)))) rfl (oy rfl rfl rfl (decide_eq_false (Int.not_lt.2 hup.s)) (op_load_pt rfl Tryd.underlying3 rfl rfl rfl rfl rfl)) ?_
                                refine rg_put (d := 146) (v := .pt 102 6) rfl (oy rfl rfl rfl (decide_eq_false (Int.not_lt.2 hup.s)) (of_eff (s_field_pt rfl Tryd.underlying32 rfl ti3 rfl rfl rfl) rfl)) ?_
                                refine rg_put (d := 147) (v := .d (.fl (.int .i64 p.2.owed))) rfl (oy rfl rfl rfl (decide_eq_false (Int.not_lt.2 hup.s)) (op_load_pt rfl Tryd.underlying3 rfl rfl rfl rfl rfl)) ?_
                                refine rg_put (d := 148) (v := .d (.fl (.bool ((decide (((dec w cal p.2 false ((ix ts p.1).day)).1).owed < p.2.owed)))))) rfl (oy rfl rfl rfl (decide_eq_false (Int.not_lt.2 hup.s)) (op_bin rfl rfl rfl (b_lss _ _ _ _) rfl)) ?_
                                refine rg_put (d := 149) (v := .d (.fl (.bool ((decide (((dec w cal p.2 false ((ix ts p.1).day)).1).owed < p.2.owed)))))) rfl (og rfl (op_pick rfl rfl (by rw [(decide_eq_false (Int.not_lt.2 hup.s))]; rfl) rfl)) ?_
                                refine rg_put (d := 150) (v := .d (.fl (.bool ((decide (((dec w cal p.2 false ((ix ts p.1).day)).1).owed < p.2.owed)))))) rfl (og rfl (op_move rfl rfl rfl)) ?_
                                refine rg_put (d := 151) (v := .pt 104 7) rfl (oy rfl rfl rfl (decide_eq_false (Int.not_lt.2 hup.o)) (of_eff (s_field_pt rfl Tryd.underlying32 rfl ti3 rfl rfl rfl) rfl)) ?_
                                refine rg_put (d := 152) (v := .d (.fl (.int .i64 (((dec w cal p.2 false ((ix ts p.1).day)).1).paid)))) rfl (oy rfl rfl rfl (decide_eq_false (Int.not_lt.2 hup.o)) (op_load_pt rfl Tryd.underlying3 rfl rfl rfl rfl rfl)) ?_
                                refine rg_put (d := 153) (v := .pt 102 7) rfl (oy rfl rfl rfl (decide_eq_false (Int.not_lt.2 hup.o)) (of_eff (s_field_pt rfl Tryd.underlying32 rfl ti3 rfl rfl rfl) rfl)) ?_
                                refine rg_put (d := 154) (v := .d (.fl (.int .i64 p.2.paid))) rfl (oy rfl rfl rfl (decide_eq_false (Int.not_lt.2 hup.o)) (op_load_pt rfl Tryd.underlying3 rfl rfl rfl rfl rfl)) ?_
                                refine rg_put (d := 155) (v := .d (.fl (.bool ((decide (((dec w cal p.2 false ((ix ts p.1).day)).1).paid < p.2.paid)))))) rfl (oy rfl rfl rfl (decide_eq_false (Int.not_lt.2 hup.o)) (op_bin rfl rfl rfl (b_lss _ _ _ _) rfl)) ?_
                                refine rg_put (d := 156) (v := .d (.fl (.bool ((decide (((dec w cal p.2 false ((ix ts p.1).day)).1).paid < p.2.paid)))))) rfl (og rfl (op_pick rfl rfl (by rw [(decide_eq_false (Int.not_lt.2 hup.o))]; rfl) rfl)) ?_
                                refine rg_done rfl ?_
                                refine a_condF rfl (decide_eq_false (Int.not_lt.2 hup.d)) ?_
                                refine a_skip ?_
                                show A _ _ _ _ _ _ _
                                refine a_seq ?_
                                refine a_rseq ?_
                                refine rg_put (d := 157) (v := .pt 103 0) rfl (og rfl (of_eff (s_field_pt rfl Tryd.underlying37 rfl ti3 rfl rfl rfl) rfl)) ?_
                                refine rg_put (d := 158) (v := .d (.fl (.int .i64 ((ix ts p.1).act)))) rfl (og rfl (op_load_pt rfl Tryd.underlying3 rfl rfl rfl rfl rfl)) ?_
                                refine rg_put (d := 159) (v := .d (.fl (.bool (((ix ts p.1).act == 0))))) rfl (og rfl (op_bin rfl rfl rfl (b_eql _ _ _ _) rfl)) ?_
                                refine rg_put (d := 160) (v := .d (.fl (.bool (((ix ts p.1).act == 0))))) rfl (og rfl (op_move rfl rfl rfl)) ?_
                                refine rg_put (d := 161) (v := .d (.fl undef)) rfl (on rfl rfl rfl h21) ?_
                                refine rg_put (d := 162) (v := .d (.fl undef)) rfl (on rfl rfl rfl h21) ?_
                                refine rg_put (d := 163) (v := .d (.fl (.bool false))) rfl (og rfl (op_pick rfl rfl (by rw [h21]; rfl) rfl)) ?_
                                refine rg_put (d := 164) (v := .d (.fl (.bool false))) rfl (og rfl (op_move rfl rfl rfl)) ?_
                                refine rg_put (d := 165) (v := .d (.fl undef)) rfl (on rfl rfl rfl rfl) ?_
                                refine rg_put (d := 166) (v := .d (.fl undef)) rfl (on rfl rfl rfl rfl) ?_
                                refine rg_put (d := 167) (v := .d (.fl undef)) rfl (on rfl rfl rfl rfl) ?_
                                refine rg_put (d := 168) (v := .d (.fl (.bool false))) rfl (og rfl (op_pick rfl rfl rfl rfl)) ?_
                                refine rg_put (d := 169) (v := .d (.fl (.bool false))) rfl (og rfl (op_move rfl rfl rfl)) ?_
                                refine rg_put (d := 170) (v := .d (.ag (eCs p.2))) rfl (oy rfl rfl rfl rfl (of_eff (s_load_pts rfl Tryd.underlying32 rfl ti32 rfl rfl rfl rfl) rfl)) ?_
                                refine rg_put (d := 171) (v := .d (.fl (.bool (opn p.2)))) rfl (oy rfl rfl rfl rfl (op_call rfl Tryd.func13 nm13 rfl (.cons rfl (.d _) .nil) (opn21 p.2) rfl)) ?_
                                refine rg_put (d := 172) (v := .d (.fl (.bool ((!(opn p.2)))))) rfl (oy rfl rfl rfl rfl (op_un rfl rfl (u_not _) rfl)) ?_
                                refine rg_put (d := 173) (v := .d (.fl (.bool ((!(opn p.2)))))) rfl (oy rfl rfl rfl rfl (op_move rfl rfl rfl)) ?_
                                rcases fot ((!(opn p.2))) with h66 | h66
                                · skip
                                  have h67 := f_not h66
                                  refine rg_put (d := 174) (v := .d (.fl undef)) rfl (on rfl rfl rfl h66) ?_
                                  refine rg_put (d := 175) (v := .d (.fl undef)) rfl (on rfl rfl rfl h66) ?_
                                  refine rg_put (d := 176) (v := .d (.fl undef)) rfl (on rfl rfl rfl h66) ?_
                                  refine rg_put (d := 177) (v := .d (.fl (.bool false))) rfl (oy rfl rfl rfl rfl (op_pick rfl rfl (by rw [h66]; rfl) rfl)) ?_
                                  refine rg_put (d := 178) (v := .d (.fl (.bool false))) rfl (og rfl (op_pick rfl rfl rfl rfl)) ?_
                                  refine rg_done rfl ?_
                                  refine a_condF rfl rfl ?_
                                  refine a_skip ?_
                                  show A _ _ _ _ _ _ _
                                  refine a_region ?_
                                  refine rg_put (d := 179) (v := .d (.ag (eCs (((dec w cal p.2 false ((ix ts p.1).day)).1))))) rfl (og rfl (of_eff (s_load_pts rfl Tryd.underlying32 rfl ti32 rfl rfl rfl rfl) rfl)) ?_
                                  refine rg_sto (nw := [(102, .bx 32 ((eCs (((dec w cal p.2 false ((ix ts p.1).day)).1)))))]) rfl (og rfl (of_eff (s_store rfl rfl ti32 rfl rfl rfl rfl rfl rfl) rfl)) ?_
                                  refine rg_done rfl ?_
                                  show A _ _ _ _ _ _ _
                                  refine a_region ?_
                                  refine rg_put (d := 57) (v := .d (.fl (.int .i64 (p.1 : Int)))) rfl (og rfl (op_move rfl rfl rfl)) ?_
                                  refine rg_put (d := 58) (v := .d (.fl (.int .i64 (((p.1 : Int) + 1))))) rfl (og rfl (op_bin rfl rfl rfl (fun x y w => b_add64 _ _ _ x y w (by omega)) rfl)) ?_
                                  refine rg_put (d := 11) (v := .d (.fl (.int .i64 (((p.1 : Int) + 1))))) rfl (og rfl (op_assign rfl rfl rfl)) ?_
                                  refine rg_done rfl ?_
                                  show ∃ i, _ ∧ _ ∧ Imp _ _ _ _ _
                                  refine ⟨(p.1 + 1, (((dec w cal p.2 false ((ix ts p.1).day)).1))), (by show p.1 + 1 ≤ _; omega), by show ts.length - (p.1 + 1) < _; omega, imp_forget rfl ⟨rfl, rfl, rfl, rfl, rfl, rfl, rfl, rfl, rfl, (ci (by show (p.1 : Int) + 1 = ((p.1 + 1 : Nat) : Int); omega)), trivial⟩ ⟨rfl, rfl, trivial⟩⟩
                                · skip
                                  have h68 := t_not h66
                                  refine rg_put (d := 174) (v := .d (.ag (eCs (((dec w cal p.2 false ((ix ts p.1).day)).1))))) rfl (oy rfl rfl rfl h66 (of_eff (s_load_pts rfl Tryd.underlying32 rfl ti32 rfl rfl rfl rfl) rfl)) ?_
                                  refine rg_put (d := 175) (v := .d (.ag (eCs p.2))) rfl (oy rfl rfl rfl h66 (of_eff (s_load_pts rfl Tryd.underlying32 rfl ti32 rfl rfl rfl rfl) rfl)) ?_
                                  refine rg_put (d := 176) (v := .d (.fl (.bool false))) rfl (oy rfl rfl rfl h66 (op_eqS [.string ((((dec w cal p.2 false ((ix ts p.1).day)).1)).id), .string ((((dec w cal p.2 false ((ix ts p.1).day)).1)).plate), .string ((((dec w cal p.2 false ((ix ts p.1).day)).1)).key), .int .i64 ((((dec w cal p.2 false ((ix ts p.1).day)).1)).begun), .int .i64 ((((dec w cal p.2 false ((ix ts p.1).day)).1)).since), .int .i64 ((((dec w cal p.2 false ((ix ts p.1).day)).1)).stage), .int .i64 ((((dec w cal p.2 false ((ix ts p.1).day)).1)).owed), .int .i64 ((((dec w cal p.2 false ((ix ts p.1).day)).1)).paid), .int .i64 ((((dec w cal p.2 false ((ix ts p.1).day)).1)).paused), .int .i64 (((((dec w cal p.2 false ((ix ts p.1).day)).1)).ap).state), .int .i64 (((((dec w cal p.2 false ((ix ts p.1).day)).1)).ap).ground), .int .i64 (((((dec w cal p.2 false ((ix ts p.1).day)).1)).ap).day)] [.string p.2.id, .string p.2.plate, .string p.2.key, .int .i64 p.2.begun, .int .i64 p.2.since, .int .i64 p.2.stage, .int .i64 p.2.owed, .int .i64 p.2.paid, .int .i64 p.2.paused, .int .i64 p.2.ap.state, .int .i64 p.2.ap.ground, .int .i64 p.2.ap.day] rfl rfl rfl (b := false) (fun ww => by rw [hup.c h68]; exact neq32 p.2 _ _ ww) rfl)) ?_
                                  refine rg_put (d := 177) (v := .d (.fl (.bool false))) rfl (oy rfl rfl rfl rfl (op_pick rfl rfl (by rw [h66]; rfl) rfl)) ?_
                                  refine rg_put (d := 178) (v := .d (.fl (.bool false))) rfl (og rfl (op_pick rfl rfl rfl rfl)) ?_
                                  refine rg_done rfl ?_
                                  refine a_condF rfl rfl ?_
                                  refine a_skip ?_
                                  show A _ _ _ _ _ _ _
                                  refine a_region ?_
                                  refine rg_put (d := 179) (v := .d (.ag (eCs (((dec w cal p.2 false ((ix ts p.1).day)).1))))) rfl (og rfl (of_eff (s_load_pts rfl Tryd.underlying32 rfl ti32 rfl rfl rfl rfl) rfl)) ?_
                                  refine rg_sto (nw := [(102, .bx 32 ((eCs (((dec w cal p.2 false ((ix ts p.1).day)).1)))))]) rfl (og rfl (of_eff (s_store rfl rfl ti32 rfl rfl rfl rfl rfl rfl) rfl)) ?_
                                  refine rg_done rfl ?_
                                  show A _ _ _ _ _ _ _
                                  refine a_region ?_
                                  refine rg_put (d := 57) (v := .d (.fl (.int .i64 (p.1 : Int)))) rfl (og rfl (op_move rfl rfl rfl)) ?_
                                  refine rg_put (d := 58) (v := .d (.fl (.int .i64 (((p.1 : Int) + 1))))) rfl (og rfl (op_bin rfl rfl rfl (fun x y w => b_add64 _ _ _ x y w (by omega)) rfl)) ?_
                                  refine rg_put (d := 11) (v := .d (.fl (.int .i64 (((p.1 : Int) + 1))))) rfl (og rfl (op_assign rfl rfl rfl)) ?_
                                  refine rg_done rfl ?_
                                  show ∃ i, _ ∧ _ ∧ Imp _ _ _ _ _
                                  refine ⟨(p.1 + 1, (((dec w cal p.2 false ((ix ts p.1).day)).1))), (by show p.1 + 1 ≤ _; omega), by show ts.length - (p.1 + 1) < _; omega, imp_forget rfl ⟨rfl, rfl, rfl, rfl, rfl, rfl, rfl, rfl, rfl, (ci (by show (p.1 : Int) + 1 = ((p.1 + 1 : Nat) : Int); omega)), trivial⟩ ⟨rfl, rfl, trivial⟩⟩
                            · skip
                              have h69 := f_beq h61
                              refine a_region ?_
                              refine rg_put (d := 76) (v := .d (.ag (eCs p.2))) rfl (og rfl (of_eff (s_load_pts rfl Tryd.underlying32 rfl ti32 rfl rfl rfl rfl) rfl)) ?_
                              refine rg_put (d := 77) (v := .tu [.ag (eCs ((wv p.2).1)), .fl (.int .i64 ((wv p.2).2))]) rfl (og rfl (op_call rfl Tryd.func11 nm11 rfl (.cons rfl (.d _) .nil) (wv11 p.2) rfl)) ?_
                              refine rg_put (d := 75) (v := .tu [.ag (eCs ((wv p.2).1)), .fl (.int .i64 ((wv p.2).2))]) rfl (og rfl (op_move rfl rfl rfl)) ?_
                              refine rg_put (d := 78) (v := .d (.ag (eCs ((wv p.2).1)))) rfl (og rfl (op_extract rfl rfl rfl rfl)) ?_
                              refine rg_put (d := 79) (v := .d (.fl (.int .i64 ((wv p.2).2)))) rfl (og rfl (op_extract rfl rfl rfl rfl)) ?_
                              refine rg_sto (nw := [(104, .bx 32 ((eCs ((wv p.2).1))))]) rfl (og rfl (of_eff (s_store rfl rfl ti32 rfl rfl rfl rfl rfl rfl) rfl)) ?_
                              refine rg_put (d := 14) (v := .d (.fl (.int .i64 ((wv p.2).2)))) rfl (og rfl (op_assign rfl rfl rfl)) ?_
                              refine rg_done rfl ?_
                              show A _ _ _ _ _ _ _
                              refine a_seq ?_
                              refine a_rseq ?_
                              refine rg_put (d := 136) (v := .d (.fl (.int .i64 ((wv p.2).2)))) rfl (og rfl (op_move rfl rfl rfl)) ?_
                              refine rg_put (d := 137) (v := .d (.fl (.bool (((wv p.2).2 != 0))))) rfl (og rfl (op_bin rfl rfl rfl (b_neq _ _ _ _) rfl)) ?_
                              refine rg_done rfl ?_
                              refine a_cond rfl (fun h70 => ?_) (fun h70 => ?_)
                              · skip
                                have h71 := t_bne h70
                                refine a_exit ?_
                                show A _ _ _ _ _ _ _
                                refine a_region ?_
                                refine rg_put (d := 57) (v := .d (.fl (.int .i64 (p.1 : Int)))) rfl (og rfl (op_move rfl rfl rfl)) ?_
                                refine rg_put (d := 58) (v := .d (.fl (.int .i64 (((p.1 : Int) + 1))))) rfl (og rfl (op_bin rfl rfl rfl (fun x y w => b_add64 _ _ _ x y w (by omega)) rfl)) ?_
                                refine rg_put (d := 11) (v := .d (.fl (.int .i64 (((p.1 : Int) + 1))))) rfl (og rfl (op_assign rfl rfl rfl)) ?_
                                refine rg_done rfl ?_
                                show ∃ i, _ ∧ _ ∧ Imp _ _ _ _ _
                                refine ⟨(p.1 + 1, p.2), (by show p.1 + 1 ≤ _; omega), by show ts.length - (p.1 + 1) < _; omega, imp_forget rfl ⟨rfl, rfl, rfl, rfl, rfl, rfl, rfl, rfl, rfl, (ci (by show (p.1 : Int) + 1 = ((p.1 + 1 : Nat) : Int); omega)), trivial⟩ ⟨rfl, rfl, trivial⟩⟩
                              · skip
                                have hup := wv_up (f_bne h70)
                                have h72 := f_bne h70
                                refine a_skip ?_
                                show A _ _ _ _ _ _ _
                                refine a_seq ?_
                                refine a_rseq ?_
                                refine rg_put (d := 138) (v := .pt 104 5) rfl (og rfl (of_eff (s_field_pt rfl Tryd.underlying32 rfl ti3 rfl rfl rfl) rfl)) ?_
                                refine rg_put (d := 139) (v := .d (.fl (.int .i64 (((wv p.2).1).stage)))) rfl (og rfl (op_load_pt rfl Tryd.underlying3 rfl rfl rfl rfl rfl)) ?_
                                refine rg_put (d := 140) (v := .pt 102 5) rfl (og rfl (of_eff (s_field_pt rfl Tryd.underlying32 rfl ti3 rfl rfl rfl) rfl)) ?_
                                refine rg_put (d := 141) (v := .d (.fl (.int .i64 p.2.stage))) rfl (og rfl (op_load_pt rfl Tryd.underlying3 rfl rfl rfl rfl rfl)) ?_
                                refine rg_put (d := 142) (v := .d (.fl (.bool ((decide (((wv p.2).1).stage < p.2.stage)))))) rfl (og rfl (op_bin rfl rfl rfl (b_lss _ _ _ _) rfl)) ?_
                                refine rg_put (d := 143) (v := .d (.fl (.bool ((decide (((wv p.2).1).stage < p.2.stage)))))) rfl (og rfl (op_move rfl rfl rfl)) ?_
                                refine rg_put (d := 144) (v := .pt 104 6) rfl (oy rfl rfl rfl (decide_eq_false (Int.not_lt.2 hup.s)) (of_eff (s_field_pt rfl Tryd.underlying32 rfl ti3 rfl rfl rfl) rfl)) ?_
                                refine rg_put (d := 145) (v := .d (.fl (.int .i64 (((wv p.2).1).owed)))) rfl (oy rfl rfl rfl (decide_eq_false (Int.not_lt.2 hup.s)) (op_load_pt rfl Tryd.underlying3 rfl rfl rfl rfl rfl)) ?_
                                refine rg_put (d := 146) (v := .pt 102 6) rfl (oy rfl rfl rfl (decide_eq_false (Int.not_lt.2 hup.s)) (of_eff (s_field_pt rfl Tryd.underlying32 rfl ti3 rfl rfl rfl) rfl)) ?_
                                refine rg_put (d := 147) (v := .d (.fl (.int .i64 p.2.owed))) rfl (oy rfl rfl rfl (decide_eq_false (Int.not_lt.2 hup.s)) (op_load_pt rfl Tryd.underlying3 rfl rfl rfl rfl rfl)) ?_
                                refine rg_put (d := 148) (v := .d (.fl (.bool ((decide (((wv p.2).1).owed < p.2.owed)))))) rfl (oy rfl rfl rfl (decide_eq_false (Int.not_lt.2 hup.s)) (op_bin rfl rfl rfl (b_lss _ _ _ _) rfl)) ?_
                                refine rg_put (d := 149) (v := .d (.fl (.bool ((decide (((wv p.2).1).owed < p.2.owed)))))) rfl (og rfl (op_pick rfl rfl (by rw [(decide_eq_false (Int.not_lt.2 hup.s))]; rfl) rfl)) ?_
                                refine rg_put (d := 150) (v := .d (.fl (.bool ((decide (((wv p.2).1).owed < p.2.owed)))))) rfl (og rfl (op_move rfl rfl rfl)) ?_
                                refine rg_put (d := 151) (v := .pt 104 7) rfl (oy rfl rfl rfl (decide_eq_false (Int.not_lt.2 hup.o)) (of_eff (s_field_pt rfl Tryd.underlying32 rfl ti3 rfl rfl rfl) rfl)) ?_
                                refine rg_put (d := 152) (v := .d (.fl (.int .i64 (((wv p.2).1).paid)))) rfl (oy rfl rfl rfl (decide_eq_false (Int.not_lt.2 hup.o)) (op_load_pt rfl Tryd.underlying3 rfl rfl rfl rfl rfl)) ?_
                                refine rg_put (d := 153) (v := .pt 102 7) rfl (oy rfl rfl rfl (decide_eq_false (Int.not_lt.2 hup.o)) (of_eff (s_field_pt rfl Tryd.underlying32 rfl ti3 rfl rfl rfl) rfl)) ?_
                                refine rg_put (d := 154) (v := .d (.fl (.int .i64 p.2.paid))) rfl (oy rfl rfl rfl (decide_eq_false (Int.not_lt.2 hup.o)) (op_load_pt rfl Tryd.underlying3 rfl rfl rfl rfl rfl)) ?_
                                refine rg_put (d := 155) (v := .d (.fl (.bool ((decide (((wv p.2).1).paid < p.2.paid)))))) rfl (oy rfl rfl rfl (decide_eq_false (Int.not_lt.2 hup.o)) (op_bin rfl rfl rfl (b_lss _ _ _ _) rfl)) ?_
                                refine rg_put (d := 156) (v := .d (.fl (.bool ((decide (((wv p.2).1).paid < p.2.paid)))))) rfl (og rfl (op_pick rfl rfl (by rw [(decide_eq_false (Int.not_lt.2 hup.o))]; rfl) rfl)) ?_
                                refine rg_done rfl ?_
                                refine a_condF rfl (decide_eq_false (Int.not_lt.2 hup.d)) ?_
                                refine a_skip ?_
                                show A _ _ _ _ _ _ _
                                refine a_seq ?_
                                refine a_rseq ?_
                                refine rg_put (d := 157) (v := .pt 103 0) rfl (og rfl (of_eff (s_field_pt rfl Tryd.underlying37 rfl ti3 rfl rfl rfl) rfl)) ?_
                                refine rg_put (d := 158) (v := .d (.fl (.int .i64 ((ix ts p.1).act)))) rfl (og rfl (op_load_pt rfl Tryd.underlying3 rfl rfl rfl rfl rfl)) ?_
                                refine rg_put (d := 159) (v := .d (.fl (.bool (((ix ts p.1).act == 0))))) rfl (og rfl (op_bin rfl rfl rfl (b_eql _ _ _ _) rfl)) ?_
                                refine rg_put (d := 160) (v := .d (.fl (.bool (((ix ts p.1).act == 0))))) rfl (og rfl (op_move rfl rfl rfl)) ?_
                                refine rg_put (d := 161) (v := .d (.fl undef)) rfl (on rfl rfl rfl h21) ?_
                                refine rg_put (d := 162) (v := .d (.fl undef)) rfl (on rfl rfl rfl h21) ?_
                                refine rg_put (d := 163) (v := .d (.fl (.bool false))) rfl (og rfl (op_pick rfl rfl (by rw [h21]; rfl) rfl)) ?_
                                refine rg_put (d := 164) (v := .d (.fl (.bool false))) rfl (og rfl (op_move rfl rfl rfl)) ?_
                                refine rg_put (d := 165) (v := .d (.fl undef)) rfl (on rfl rfl rfl rfl) ?_
                                refine rg_put (d := 166) (v := .d (.fl undef)) rfl (on rfl rfl rfl rfl) ?_
                                refine rg_put (d := 167) (v := .d (.fl undef)) rfl (on rfl rfl rfl rfl) ?_
                                refine rg_put (d := 168) (v := .d (.fl (.bool false))) rfl (og rfl (op_pick rfl rfl rfl rfl)) ?_
                                refine rg_put (d := 169) (v := .d (.fl (.bool false))) rfl (og rfl (op_move rfl rfl rfl)) ?_
                                refine rg_put (d := 170) (v := .d (.ag (eCs p.2))) rfl (oy rfl rfl rfl rfl (of_eff (s_load_pts rfl Tryd.underlying32 rfl ti32 rfl rfl rfl rfl) rfl)) ?_
                                refine rg_put (d := 171) (v := .d (.fl (.bool (opn p.2)))) rfl (oy rfl rfl rfl rfl (op_call rfl Tryd.func13 nm13 rfl (.cons rfl (.d _) .nil) (opn21 p.2) rfl)) ?_
                                refine rg_put (d := 172) (v := .d (.fl (.bool ((!(opn p.2)))))) rfl (oy rfl rfl rfl rfl (op_un rfl rfl (u_not _) rfl)) ?_
                                refine rg_put (d := 173) (v := .d (.fl (.bool ((!(opn p.2)))))) rfl (oy rfl rfl rfl rfl (op_move rfl rfl rfl)) ?_
                                rcases fot ((!(opn p.2))) with h73 | h73
                                · skip
                                  have h74 := f_not h73
                                  refine rg_put (d := 174) (v := .d (.fl undef)) rfl (on rfl rfl rfl h73) ?_
                                  refine rg_put (d := 175) (v := .d (.fl undef)) rfl (on rfl rfl rfl h73) ?_
                                  refine rg_put (d := 176) (v := .d (.fl undef)) rfl (on rfl rfl rfl h73) ?_
                                  refine rg_put (d := 177) (v := .d (.fl (.bool false))) rfl (oy rfl rfl rfl rfl (op_pick rfl rfl (by rw [h73]; rfl) rfl)) ?_
                                  refine rg_put (d := 178) (v := .d (.fl (.bool false))) rfl (og rfl (op_pick rfl rfl rfl rfl)) ?_
                                  refine rg_done rfl ?_
                                  refine a_condF rfl rfl ?_
                                  refine a_skip ?_
                                  show A _ _ _ _ _ _ _
                                  refine a_region ?_
                                  refine rg_put (d := 179) (v := .d (.ag (eCs (((wv p.2).1))))) rfl (og rfl (of_eff (s_load_pts rfl Tryd.underlying32 rfl ti32 rfl rfl rfl rfl) rfl)) ?_
                                  refine rg_sto (nw := [(102, .bx 32 ((eCs (((wv p.2).1)))))]) rfl (og rfl (of_eff (s_store rfl rfl ti32 rfl rfl rfl rfl rfl rfl) rfl)) ?_
                                  refine rg_done rfl ?_
                                  show A _ _ _ _ _ _ _
                                  refine a_region ?_
                                  refine rg_put (d := 57) (v := .d (.fl (.int .i64 (p.1 : Int)))) rfl (og rfl (op_move rfl rfl rfl)) ?_
                                  refine rg_put (d := 58) (v := .d (.fl (.int .i64 (((p.1 : Int) + 1))))) rfl (og rfl (op_bin rfl rfl rfl (fun x y w => b_add64 _ _ _ x y w (by omega)) rfl)) ?_
                                  refine rg_put (d := 11) (v := .d (.fl (.int .i64 (((p.1 : Int) + 1))))) rfl (og rfl (op_assign rfl rfl rfl)) ?_
                                  refine rg_done rfl ?_
                                  show ∃ i, _ ∧ _ ∧ Imp _ _ _ _ _
                                  refine ⟨(p.1 + 1, (((wv p.2).1))), (by show p.1 + 1 ≤ _; omega), by show ts.length - (p.1 + 1) < _; omega, imp_forget rfl ⟨rfl, rfl, rfl, rfl, rfl, rfl, rfl, rfl, rfl, (ci (by show (p.1 : Int) + 1 = ((p.1 + 1 : Nat) : Int); omega)), trivial⟩ ⟨rfl, rfl, trivial⟩⟩
                                · skip
                                  have h75 := t_not h73
                                  refine rg_put (d := 174) (v := .d (.ag (eCs (((wv p.2).1))))) rfl (oy rfl rfl rfl h73 (of_eff (s_load_pts rfl Tryd.underlying32 rfl ti32 rfl rfl rfl rfl) rfl)) ?_
                                  refine rg_put (d := 175) (v := .d (.ag (eCs p.2))) rfl (oy rfl rfl rfl h73 (of_eff (s_load_pts rfl Tryd.underlying32 rfl ti32 rfl rfl rfl rfl) rfl)) ?_
                                  refine rg_put (d := 176) (v := .d (.fl (.bool false))) rfl (oy rfl rfl rfl h73 (op_eqS [.string ((((wv p.2).1)).id), .string ((((wv p.2).1)).plate), .string ((((wv p.2).1)).key), .int .i64 ((((wv p.2).1)).begun), .int .i64 ((((wv p.2).1)).since), .int .i64 ((((wv p.2).1)).stage), .int .i64 ((((wv p.2).1)).owed), .int .i64 ((((wv p.2).1)).paid), .int .i64 ((((wv p.2).1)).paused), .int .i64 (((((wv p.2).1)).ap).state), .int .i64 (((((wv p.2).1)).ap).ground), .int .i64 (((((wv p.2).1)).ap).day)] [.string p.2.id, .string p.2.plate, .string p.2.key, .int .i64 p.2.begun, .int .i64 p.2.since, .int .i64 p.2.stage, .int .i64 p.2.owed, .int .i64 p.2.paid, .int .i64 p.2.paused, .int .i64 p.2.ap.state, .int .i64 p.2.ap.ground, .int .i64 p.2.ap.day] rfl rfl rfl (b := false) (fun ww => by rw [hup.c h75]; exact neq32 p.2 _ _ ww) rfl)) ?_
                                  refine rg_put (d := 177) (v := .d (.fl (.bool false))) rfl (oy rfl rfl rfl rfl (op_pick rfl rfl (by rw [h73]; rfl) rfl)) ?_
                                  refine rg_put (d := 178) (v := .d (.fl (.bool false))) rfl (og rfl (op_pick rfl rfl rfl rfl)) ?_
                                  refine rg_done rfl ?_
                                  refine a_condF rfl rfl ?_
                                  refine a_skip ?_
                                  show A _ _ _ _ _ _ _
                                  refine a_region ?_
                                  refine rg_put (d := 179) (v := .d (.ag (eCs (((wv p.2).1))))) rfl (og rfl (of_eff (s_load_pts rfl Tryd.underlying32 rfl ti32 rfl rfl rfl rfl) rfl)) ?_
                                  refine rg_sto (nw := [(102, .bx 32 ((eCs (((wv p.2).1)))))]) rfl (og rfl (of_eff (s_store rfl rfl ti32 rfl rfl rfl rfl rfl rfl) rfl)) ?_
                                  refine rg_done rfl ?_
                                  show A _ _ _ _ _ _ _
                                  refine a_region ?_
                                  refine rg_put (d := 57) (v := .d (.fl (.int .i64 (p.1 : Int)))) rfl (og rfl (op_move rfl rfl rfl)) ?_
                                  refine rg_put (d := 58) (v := .d (.fl (.int .i64 (((p.1 : Int) + 1))))) rfl (og rfl (op_bin rfl rfl rfl (fun x y w => b_add64 _ _ _ x y w (by omega)) rfl)) ?_
                                  refine rg_put (d := 11) (v := .d (.fl (.int .i64 (((p.1 : Int) + 1))))) rfl (og rfl (op_assign rfl rfl rfl)) ?_
                                  refine rg_done rfl ?_
                                  show ∃ i, _ ∧ _ ∧ Imp _ _ _ _ _
                                  refine ⟨(p.1 + 1, (((wv p.2).1))), (by show p.1 + 1 ≤ _; omega), by show ts.length - (p.1 + 1) < _; omega, imp_forget rfl ⟨rfl, rfl, rfl, rfl, rfl, rfl, rfl, rfl, rfl, (ci (by show (p.1 : Int) + 1 = ((p.1 + 1 : Nat) : Int); omega)), trivial⟩ ⟨rfl, rfl, trivial⟩⟩
                · skip
                  have h76 := t_dec h16
                  refine rg_put (d := 67) (v := .d (.fl undef)) rfl (on rfl rfl rfl h16) ?_
                  refine rg_put (d := 68) (v := .d (.fl undef)) rfl (on rfl rfl rfl h16) ?_
                  refine rg_put (d := 69) (v := .d (.fl undef)) rfl (on rfl rfl rfl h16) ?_
                  refine rg_put (d := 70) (v := .d (.fl (.bool true))) rfl (og rfl (op_pick rfl rfl (by rw [h16]; rfl) rfl)) ?_
                  refine rg_done rfl ?_
                  refine a_condK rfl rfl ?_
                  refine a_rseq ?_
                  refine rg_put (d := 71) (v := .d (.fl (.bool true))) rfl (og rfl (op_call rfl Tryd.func5 nm5 rfl .nil awake5 rfl)) ?_
                  refine rg_put (d := 8) (v := .d (.fl (.bool true))) rfl (og rfl (op_assign rfl rfl rfl)) ?_
                  refine rg_done rfl ?_
                  refine a_ret ?_
                  show ∃ ds, ResL _ _ _ ds ∧ RV.of ds = _
                  refine ⟨[.fl (.bool true)], (.cons (.tmp rfl (.d _)) .nil), ?_⟩
                  rfl
              · skip
                have h77 := f_dec h14
                refine a_exit ?_
                show A _ _ _ _ _ _ _
                refine a_rseq ?_
                refine rg_put (d := 180) (v := .d (.fl (.bool true))) rfl (og rfl (op_call rfl Tryd.func5 nm5 rfl .nil awake5 rfl)) ?_
                refine rg_put (d := 8) (v := .d (.fl (.bool true))) rfl (og rfl (op_assign rfl rfl rfl)) ?_
                refine rg_done rfl ?_
                refine a_ret ?_
                show ∃ ds, ResL _ _ _ ds ∧ RV.of ds = _
                refine ⟨[.fl (.bool true)], (.cons (.tmp rfl (.d _)) .nil), ?_⟩
                rfl
          · skip
            have h78 := t_beq h9
            refine rg_put (d := 40) (v := .d (.fl undef)) rfl (on rfl rfl rfl h9) ?_
            refine rg_put (d := 41) (v := .d (.fl undef)) rfl (on rfl rfl rfl h9) ?_
            refine rg_put (d := 42) (v := .d (.fl undef)) rfl (on rfl rfl rfl h9) ?_
            refine rg_put (d := 43) (v := .d (.fl (.bool true))) rfl (og rfl (op_pick rfl rfl (by rw [h9]; rfl) rfl)) ?_
            refine rg_done rfl ?_
            refine a_condK rfl rfl ?_
            refine a_rseq ?_
            refine rg_put (d := 44) (v := .d (.fl (.bool true))) rfl (og rfl (op_call rfl Tryd.func5 nm5 rfl .nil awake5 rfl)) ?_
            refine rg_put (d := 8) (v := .d (.fl (.bool true))) rfl (og rfl (op_assign rfl rfl rfl)) ?_
            refine rg_done rfl ?_
            refine a_ret ?_
            show ∃ ds, ResL _ _ _ ds ∧ RV.of ds = _
            refine ⟨[.fl (.bool true)], (.cons (.tmp rfl (.d _)) .nil), ?_⟩
            rfl
        · skip
          have h79 := t_dec h7
          refine rg_put (d := 36) (v := .d (.fl undef)) rfl (on rfl rfl rfl h7) ?_
          refine rg_put (d := 37) (v := .d (.fl undef)) rfl (on rfl rfl rfl h7) ?_
          refine rg_put (d := 38) (v := .d (.fl (.bool true))) rfl (og rfl (op_pick rfl rfl (by rw [h7]; rfl) rfl)) ?_
          refine rg_put (d := 39) (v := .d (.fl (.bool true))) rfl (og rfl (op_move rfl rfl rfl)) ?_
          refine rg_put (d := 40) (v := .d (.fl undef)) rfl (on rfl rfl rfl rfl) ?_
          refine rg_put (d := 41) (v := .d (.fl undef)) rfl (on rfl rfl rfl rfl) ?_
          refine rg_put (d := 42) (v := .d (.fl undef)) rfl (on rfl rfl rfl rfl) ?_
          refine rg_put (d := 43) (v := .d (.fl (.bool true))) rfl (og rfl (op_pick rfl rfl rfl rfl)) ?_
          refine rg_done rfl ?_
          refine a_condK rfl rfl ?_
          refine a_rseq ?_
          refine rg_put (d := 44) (v := .d (.fl (.bool true))) rfl (og rfl (op_call rfl Tryd.func5 nm5 rfl .nil awake5 rfl)) ?_
          refine rg_put (d := 8) (v := .d (.fl (.bool true))) rfl (og rfl (op_assign rfl rfl rfl)) ?_
          refine rg_done rfl ?_
          refine a_ret ?_
          show ∃ ds, ResL _ _ _ ds ∧ RV.of ds = _
          refine ⟨[.fl (.bool true)], (.cons (.tmp rfl (.d _)) .nil), ?_⟩
          rfl
      · skip
        have h80 := t_dec h5
        refine rg_put (d := 31) (v := .d (.fl undef)) rfl (on rfl rfl rfl h5) ?_
        refine rg_put (d := 32) (v := .d (.fl undef)) rfl (on rfl rfl rfl h5) ?_
        refine rg_put (d := 33) (v := .d (.fl undef)) rfl (on rfl rfl rfl h5) ?_
        refine rg_put (d := 34) (v := .d (.fl (.bool true))) rfl (og rfl (op_pick rfl rfl (by rw [h5]; rfl) rfl)) ?_
        refine rg_put (d := 35) (v := .d (.fl (.bool true))) rfl (og rfl (op_move rfl rfl rfl)) ?_
        refine rg_put (d := 36) (v := .d (.fl undef)) rfl (on rfl rfl rfl rfl) ?_
        refine rg_put (d := 37) (v := .d (.fl undef)) rfl (on rfl rfl rfl rfl) ?_
        refine rg_put (d := 38) (v := .d (.fl (.bool true))) rfl (og rfl (op_pick rfl rfl rfl rfl)) ?_
        refine rg_put (d := 39) (v := .d (.fl (.bool true))) rfl (og rfl (op_move rfl rfl rfl)) ?_
        refine rg_put (d := 40) (v := .d (.fl undef)) rfl (on rfl rfl rfl rfl) ?_
        refine rg_put (d := 41) (v := .d (.fl undef)) rfl (on rfl rfl rfl rfl) ?_
        refine rg_put (d := 42) (v := .d (.fl undef)) rfl (on rfl rfl rfl rfl) ?_
        refine rg_put (d := 43) (v := .d (.fl (.bool true))) rfl (og rfl (op_pick rfl rfl rfl rfl)) ?_
        refine rg_done rfl ?_
        refine a_condK rfl rfl ?_
        refine a_rseq ?_
        refine rg_put (d := 44) (v := .d (.fl (.bool true))) rfl (og rfl (op_call rfl Tryd.func5 nm5 rfl .nil awake5 rfl)) ?_
        refine rg_put (d := 8) (v := .d (.fl (.bool true))) rfl (og rfl (op_assign rfl rfl rfl)) ?_
        refine rg_done rfl ?_
        refine a_ret ?_
        show ∃ ds, ResL _ _ _ ds ∧ RV.of ds = _
        refine ⟨[.fl (.bool true)], (.cons (.tmp rfl (.d _)) .nil), ?_⟩
        rfl
    · skip
      have h81 := t_dec h3
      refine rg_put (d := 26) (v := .d (.fl undef)) rfl (on rfl rfl rfl h3) ?_
      refine rg_put (d := 27) (v := .d (.fl undef)) rfl (on rfl rfl rfl h3) ?_
      refine rg_put (d := 28) (v := .d (.fl undef)) rfl (on rfl rfl rfl h3) ?_
      refine rg_put (d := 29) (v := .d (.fl (.bool true))) rfl (og rfl (op_pick rfl rfl (by rw [h3]; rfl) rfl)) ?_
      refine rg_put (d := 30) (v := .d (.fl (.bool true))) rfl (og rfl (op_move rfl rfl rfl)) ?_
      refine rg_put (d := 31) (v := .d (.fl undef)) rfl (on rfl rfl rfl rfl) ?_
      refine rg_put (d := 32) (v := .d (.fl undef)) rfl (on rfl rfl rfl rfl) ?_
      refine rg_put (d := 33) (v := .d (.fl undef)) rfl (on rfl rfl rfl rfl) ?_
      refine rg_put (d := 34) (v := .d (.fl (.bool true))) rfl (og rfl (op_pick rfl rfl rfl rfl)) ?_
      refine rg_put (d := 35) (v := .d (.fl (.bool true))) rfl (og rfl (op_move rfl rfl rfl)) ?_
      refine rg_put (d := 36) (v := .d (.fl undef)) rfl (on rfl rfl rfl rfl) ?_
      refine rg_put (d := 37) (v := .d (.fl undef)) rfl (on rfl rfl rfl rfl) ?_
      refine rg_put (d := 38) (v := .d (.fl (.bool true))) rfl (og rfl (op_pick rfl rfl rfl rfl)) ?_
      refine rg_put (d := 39) (v := .d (.fl (.bool true))) rfl (og rfl (op_move rfl rfl rfl)) ?_
      refine rg_put (d := 40) (v := .d (.fl undef)) rfl (on rfl rfl rfl rfl) ?_
      refine rg_put (d := 41) (v := .d (.fl undef)) rfl (on rfl rfl rfl rfl) ?_
      refine rg_put (d := 42) (v := .d (.fl undef)) rfl (on rfl rfl rfl rfl) ?_
      refine rg_put (d := 43) (v := .d (.fl (.bool true))) rfl (og rfl (op_pick rfl rfl rfl rfl)) ?_
      refine rg_done rfl ?_
      refine a_condK rfl rfl ?_
      refine a_rseq ?_
      refine rg_put (d := 44) (v := .d (.fl (.bool true))) rfl (og rfl (op_call rfl Tryd.func5 nm5 rfl .nil awake5 rfl)) ?_
      refine rg_put (d := 8) (v := .d (.fl (.bool true))) rfl (og rfl (op_assign rfl rfl rfl)) ?_
      refine rg_done rfl ?_
      refine a_ret ?_
      show ∃ ds, ResL _ _ _ ds ∧ RV.of ds = _
      refine ⟨[.fl (.bool true)], (.cons (.tmp rfl (.d _)) .nil), ?_⟩
      rfl
  · skip
    have h82 := t_dec h1
    refine rg_put (d := 20) (v := .d (.fl undef)) rfl (on rfl rfl rfl h1) ?_
    refine rg_put (d := 21) (v := .d (.fl undef)) rfl (on rfl rfl rfl h1) ?_
    refine rg_put (d := 22) (v := .d (.fl undef)) rfl (on rfl rfl rfl h1) ?_
    refine rg_put (d := 23) (v := .d (.fl undef)) rfl (on rfl rfl rfl h1) ?_
    refine rg_put (d := 24) (v := .d (.fl (.bool true))) rfl (og rfl (op_pick rfl rfl (by rw [h1]; rfl) rfl)) ?_
    refine rg_put (d := 25) (v := .d (.fl (.bool true))) rfl (og rfl (op_move rfl rfl rfl)) ?_
    refine rg_put (d := 26) (v := .d (.fl undef)) rfl (on rfl rfl rfl rfl) ?_
    refine rg_put (d := 27) (v := .d (.fl undef)) rfl (on rfl rfl rfl rfl) ?_
    refine rg_put (d := 28) (v := .d (.fl undef)) rfl (on rfl rfl rfl rfl) ?_
    refine rg_put (d := 29) (v := .d (.fl (.bool true))) rfl (og rfl (op_pick rfl rfl rfl rfl)) ?_
    refine rg_put (d := 30) (v := .d (.fl (.bool true))) rfl (og rfl (op_move rfl rfl rfl)) ?_
    refine rg_put (d := 31) (v := .d (.fl undef)) rfl (on rfl rfl rfl rfl) ?_
    refine rg_put (d := 32) (v := .d (.fl undef)) rfl (on rfl rfl rfl rfl) ?_
    refine rg_put (d := 33) (v := .d (.fl undef)) rfl (on rfl rfl rfl rfl) ?_
    refine rg_put (d := 34) (v := .d (.fl (.bool true))) rfl (og rfl (op_pick rfl rfl rfl rfl)) ?_
    refine rg_put (d := 35) (v := .d (.fl (.bool true))) rfl (og rfl (op_move rfl rfl rfl)) ?_
    refine rg_put (d := 36) (v := .d (.fl undef)) rfl (on rfl rfl rfl rfl) ?_
    refine rg_put (d := 37) (v := .d (.fl undef)) rfl (on rfl rfl rfl rfl) ?_
    refine rg_put (d := 38) (v := .d (.fl (.bool true))) rfl (og rfl (op_pick rfl rfl rfl rfl)) ?_
    refine rg_put (d := 39) (v := .d (.fl (.bool true))) rfl (og rfl (op_move rfl rfl rfl)) ?_
    refine rg_put (d := 40) (v := .d (.fl undef)) rfl (on rfl rfl rfl rfl) ?_
    refine rg_put (d := 41) (v := .d (.fl undef)) rfl (on rfl rfl rfl rfl) ?_
    refine rg_put (d := 42) (v := .d (.fl undef)) rfl (on rfl rfl rfl rfl) ?_
    refine rg_put (d := 43) (v := .d (.fl (.bool true))) rfl (og rfl (op_pick rfl rfl rfl rfl)) ?_
    refine rg_done rfl ?_
    refine a_condK rfl rfl ?_
    refine a_rseq ?_
    refine rg_put (d := 44) (v := .d (.fl (.bool true))) rfl (og rfl (op_call rfl Tryd.func5 nm5 rfl .nil awake5 rfl)) ?_
    refine rg_put (d := 8) (v := .d (.fl (.bool true))) rfl (og rfl (op_assign rfl rfl rfl)) ?_
    refine rg_done rfl ?_
    refine a_ret ?_
    show ∃ ds, ResL _ _ _ ds ∧ RV.of ds = _
    refine ⟨[.fl (.bool true)], (.cons (.tmp rfl (.d _)) .nil), ?_⟩
    rfl
end Go.Proofs.YtdafmaocbkmmgaaDoor.Wk
