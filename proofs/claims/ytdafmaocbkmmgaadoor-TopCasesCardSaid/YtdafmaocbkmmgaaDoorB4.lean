/- A step of a case. No condition. -/
import Derived.Test.YtdafmaocbkmmgaaDoorB3
set_option linter.unusedSimpArgs false
set_option linter.unusedVariables false
namespace Go.Proofs.YtdafmaocbkmmgaaDoor.Wk
open Go Go.RowKit Go.Proofs.YtdafmaocbkmmgaaDoor.Av
set_option maxHeartbeats 4000000 in
set_option maxRecDepth 100000 in
theorem next35 (w : Lw) (cal : List Int) (x : Cs) (day : Int) (hok : OKx w x) (hlim : w.limit < 795364 ∧ 1 ≤ w.limit) (hl0 : cal.length < 9223372036854775807) : CtrM Tryd.prog 18 .p (.bx 50 ((ePu (Pu.mk w cal x day)))) [] (.bx 50 (ePu (Pu.mk w cal (nx w cal x day).1 day))) (.d (.fl (.bool (nx w cal x day).2))) := by
  obtain ⟨_, hb, hp, ho⟩ := hok
  refine ctrM (n := 117) (rs := #[.tmp 2]) (L := []) Tryd.func18 rfl rfl rfl rfl rfl rfl rfl (fun w0 U0 v0 H0 V0 Q0 => ?_)
  refine a_rseq ?_
  refine rg_put (d := 2) (v := .d (.fl (.bool false))) rfl (og rfl (op_assign rfl rfl rfl)) ?_
  refine rg_done rfl ?_
  refine a_dseq (by kernel_rfl) ?_
  refine dr_put (d := 7) (v := .pt 0 0) rfl (og rfl (op_move_pv rfl rfl rfl)) ?_
  refine dr_put (d := 8) (v := .pt 0 0) rfl (og rfl (op_nilCheck rfl rfl rfl)) ?_
  refine dr_put (d := 9) (v := .pt 0 0) rfl (og rfl (of_eff (s_field_pt rfl Tryd.underlying50 rfl ti24 rfl rfl rfl) rfl)) ?_
  refine dr_put (d := 10) (v := .d (.ag (eLw w))) rfl (og rfl (of_eff (s_load_pts rfl Tryd.underlying24 rfl ti24 rfl rfl rfl rfl) rfl)) ?_
  refine dr_put (d := 11) (v := .pt 0 0) rfl (og rfl (op_move_pv rfl rfl rfl)) ?_
  refine dr_put (d := 12) (v := .pt 0 0) rfl (og rfl (op_nilCheck rfl rfl rfl)) ?_
  refine dr_put (d := 13) (v := .pt 0 3) rfl (og rfl (of_eff (s_field_pt rfl Tryd.underlying50 rfl ti22 rfl rfl rfl) rfl)) ?_
  refine dr_put (d := 14) (v := .d (.sl 1 (List.map (rI .i64) cal))) rfl (og rfl (op_load_pt rfl Tryd.underlying22 rfl rfl rfl rfl rfl)) ?_
  refine dr_put (d := 15) (v := .pt 0 0) rfl (og rfl (op_move_pv rfl rfl rfl)) ?_
  refine dr_put (d := 16) (v := .pt 0 0) rfl (og rfl (op_nilCheck rfl rfl rfl)) ?_
  refine dr_put (d := 17) (v := .pt 0 4) rfl (og rfl (of_eff (s_field_pt rfl Tryd.underlying50 rfl ti32 rfl rfl rfl) rfl)) ?_
  refine dr_put (d := 18) (v := .d (.ag (eCs x))) rfl (og rfl (of_eff (s_load_pts rfl Tryd.underlying32 rfl ti32 rfl rfl rfl rfl) rfl)) ?_
  refine dr_put (d := 19) (v := .tu [.fl (.int .i64 ((due w cal x).1)), .fl (.bool ((due w cal x).2))]) rfl (og rfl (op_call rfl Tryd.func26 nm26 rfl (.cons rfl (.d _) (.cons rfl (.d _) (.cons rfl (.d _) .nil))) (due19 w cal x hl0) rfl)) ?_
  refine dr_put (d := 6) (v := .tu [.fl (.int .i64 ((due w cal x).1)), .fl (.bool ((due w cal x).2))]) rfl (og rfl (op_move rfl rfl rfl)) ?_
  refine dr_put (d := 20) (v := .d (.fl (.int .i64 ((due w cal x).1)))) rfl (og rfl (op_extract rfl rfl rfl rfl)) ?_
  refine dr_put (d := 21) (v := .d (.fl (.bool ((due w cal x).2)))) rfl (og rfl (op_extract rfl rfl rfl rfl)) ?_
  refine dr_put (d := 3) (v := .d (.fl (.int .i64 ((due w cal x).1)))) rfl (og rfl (op_assign rfl rfl rfl)) ?_
  refine dr_put (d := 4) (v := .d (.fl (.bool ((due w cal x).2)))) rfl (og rfl (op_assign rfl rfl rfl)) ?_
  refine dr_done rfl (sepB_of [0, 1, 3, 7, 0, 16, 48, 112, 0, 256, 768, 1792, 4095, 8191, 16383, 16383, 32767, 131071] (by kernel_rfl)) (by kernel_rfl) ?_
  refine a_dseq (by kernel_rfl) ?_
  refine dr_put (d := 22) (v := .pt 0 0) rfl (og rfl (op_move_pv rfl rfl rfl)) ?_
  refine dr_put (d := 23) (v := .pt 0 0) rfl (og rfl (op_nilCheck rfl rfl rfl)) ?_
  refine dr_put (d := 24) (v := .pt 0 4) rfl (og rfl (of_eff (s_field_pt rfl Tryd.underlying50 rfl ti32 rfl rfl rfl) rfl)) ?_
  refine dr_put (d := 25) (v := .pt 0 7) rfl (og rfl (of_eff (s_field_pt rfl Tryd.underlying32 rfl ti3 rfl rfl rfl) rfl)) ?_
  refine dr_put (d := 26) (v := .d (.fl (.int .i64 x.begun))) rfl (og rfl (op_load_pt rfl Tryd.underlying3 rfl rfl rfl rfl rfl)) ?_
  refine dr_put (d := 27) (v := .pt 0 0) rfl (og rfl (op_move_pv rfl rfl rfl)) ?_
  refine dr_put (d := 28) (v := .pt 0 0) rfl (og rfl (op_nilCheck rfl rfl rfl)) ?_
  refine dr_put (d := 29) (v := .pt 0 0) rfl (og rfl (of_eff (s_field_pt rfl Tryd.underlying50 rfl ti24 rfl rfl rfl) rfl)) ?_
  refine dr_put (d := 30) (v := .pt 0 2) rfl (og rfl (of_eff (s_field_pt rfl Tryd.underlying24 rfl ti3 rfl rfl rfl) rfl)) ?_
  refine dr_put (d := 31) (v := .d (.fl (.int .i64 w.limit))) rfl (og rfl (op_load_pt rfl Tryd.underlying3 rfl rfl rfl rfl rfl)) ?_
  refine dr_put (d := 32) (v := .d (.fl (.int .i64 (x.begun + w.limit)))) rfl (og rfl (op_bin rfl rfl rfl (fun x y w => b_add64 _ _ _ x y w (by omega)) rfl)) ?_
  refine dr_put (d := 33) (v := .pt 0 0) rfl (og rfl (op_move_pv rfl rfl rfl)) ?_
  refine dr_put (d := 34) (v := .pt 0 0) rfl (og rfl (op_nilCheck rfl rfl rfl)) ?_
  refine dr_put (d := 35) (v := .pt 0 4) rfl (og rfl (of_eff (s_field_pt rfl Tryd.underlying50 rfl ti32 rfl rfl rfl) rfl)) ?_
  refine dr_put (d := 36) (v := .pt 0 12) rfl (og rfl (of_eff (s_field_pt rfl Tryd.underlying32 rfl ti3 rfl rfl rfl) rfl)) ?_
  refine dr_put (d := 37) (v := .d (.fl (.int .i64 x.paused))) rfl (og rfl (op_load_pt rfl Tryd.underlying3 rfl rfl rfl rfl rfl)) ?_
  refine dr_put (d := 38) (v := .d (.fl (.int .i64 (((x.begun + w.limit) + x.paused))))) rfl (og rfl (op_bin rfl rfl rfl (fun x y w => b_add64 _ _ _ x y w (by omega)) rfl)) ?_
  refine dr_put (d := 5) (v := .d (.fl (.int .i64 (((x.begun + w.limit) + x.paused))))) rfl (og rfl (op_assign rfl rfl rfl)) ?_
  refine dr_done rfl (sepB_of [0, 1, 3, 7, 15, 0, 32, 96, 224, 480, 1023, 0, 2048, 6144, 14336, 30720, 65535, 131071] (by kernel_rfl)) (by kernel_rfl) ?_
  refine a_seq ?_
  refine a_rseq ?_
  refine rg_put (d := 39) (v := .d (.fl (.int .i64 (((x.begun + w.limit) + x.paused))))) rfl (og rfl (op_move rfl rfl rfl)) ?_
  refine rg_put (d := 40) (v := .pt 0 0) rfl (og rfl (op_move_pv rfl rfl rfl)) ?_
  refine rg_put (d := 41) (v := .pt 0 0) rfl (og rfl (op_nilCheck rfl rfl rfl)) ?_
  refine rg_put (d := 42) (v := .pt 0 16) rfl (og rfl (of_eff (s_field_pt rfl Tryd.underlying50 rfl ti3 rfl rfl rfl) rfl)) ?_
  refine rg_put (d := 43) (v := .d (.fl (.int .i64 day))) rfl (og rfl (op_load_pt rfl Tryd.underlying3 rfl rfl rfl rfl rfl)) ?_
  refine rg_put (d := 44) (v := .d (.fl (.bool ((decide (((x.begun + w.limit) + x.paused) ≤ day)))))) rfl (og rfl (op_bin rfl rfl rfl (b_leq _ _ _ _) rfl)) ?_
  refine rg_put (d := 45) (v := .d (.fl (.bool ((decide (((x.begun + w.limit) + x.paused) ≤ day)))))) rfl (og rfl (op_move rfl rfl rfl)) ?_
  rcases fot ((decide (((x.begun + w.limit) + x.paused) ≤ day))) with h1 | h1
  · skip
    have h2 := f_dec h1
    refine rg_put (d := 46) (v := .d (.fl undef)) rfl (on rfl rfl rfl h1) ?_
    refine rg_put (d := 47) (v := .d (.fl undef)) rfl (on rfl rfl rfl h1) ?_
    refine rg_put (d := 48) (v := .d (.fl undef)) rfl (on rfl rfl rfl h1) ?_
    refine rg_put (d := 49) (v := .d (.fl undef)) rfl (ou rfl rfl rfl) ?_
    refine rg_put (d := 50) (v := .d (.fl undef)) rfl (ou rfl rfl rfl) ?_
    refine rg_put (d := 51) (v := .d (.fl undef)) rfl (ou rfl rfl rfl) ?_
    refine rg_put (d := 52) (v := .d (.fl undef)) rfl (on rfl rfl rfl h1) ?_
    refine rg_put (d := 53) (v := .d (.fl (.bool false))) rfl (og rfl (op_pick rfl rfl (by rw [h1]; rfl) rfl)) ?_
    refine rg_done rfl ?_
    refine a_condF rfl rfl ?_
    refine a_skip ?_
    show A _ _ _ _ _ _ _
    refine a_seq ?_
    refine a_rseq ?_
    refine rg_put (d := 69) (v := .d (.fl (.bool ((due w cal x).2)))) rfl (og rfl (op_move rfl rfl rfl)) ?_
    refine rg_put (d := 70) (v := .d (.fl (.bool ((!((due w cal x).2)))))) rfl (og rfl (op_un rfl rfl (u_not _) rfl)) ?_
    refine rg_put (d := 71) (v := .d (.fl (.bool ((!((due w cal x).2)))))) rfl (og rfl (op_move rfl rfl rfl)) ?_
    rcases fot ((!((due w cal x).2))) with h3 | h3
    · skip
      have h4 := f_not h3
      obtain ⟨d1, d2, d3, d4, d5⟩ := due_ok h4
      have hfee := fee_ok d1 d2 d3
      have hlen := (ckL_ok d1).2.1
      refine rg_put (d := 72) (v := .d (.fl (.int .i64 ((due w cal x).1)))) rfl (oy rfl rfl rfl h3 (op_move rfl rfl rfl)) ?_
      refine rg_put (d := 73) (v := .pt 0 0) rfl (oy rfl rfl rfl h3 (op_move_pv rfl rfl rfl)) ?_
      refine rg_put (d := 74) (v := .pt 0 0) rfl (oy rfl rfl rfl h3 (op_nilCheck rfl rfl rfl)) ?_
      refine rg_put (d := 75) (v := .pt 0 16) rfl (oy rfl rfl rfl h3 (of_eff (s_field_pt rfl Tryd.underlying50 rfl ti3 rfl rfl rfl) rfl)) ?_
      refine rg_put (d := 76) (v := .d (.fl (.int .i64 day))) rfl (oy rfl rfl rfl h3 (op_load_pt rfl Tryd.underlying3 rfl rfl rfl rfl rfl)) ?_
      refine rg_put (d := 77) (v := .d (.fl (.bool ((decide (day < (due w cal x).1)))))) rfl (oy rfl rfl rfl h3 (op_bin rfl rfl rfl (b_gtr _ _ _ _) rfl)) ?_
      refine rg_put (d := 78) (v := .d (.fl (.bool ((decide (day < (due w cal x).1)))))) rfl (og rfl (op_pick rfl rfl (by rw [h3]; rfl) rfl)) ?_
      refine rg_done rfl ?_
      refine a_cond rfl (fun h5 => ?_) (fun h5 => ?_)
      · skip
        have h6 := t_dec h5
        refine a_rseq ?_
        refine rg_put (d := 2) (v := .d (.fl (.bool false))) rfl (og rfl (op_assign rfl rfl rfl)) ?_
        refine rg_done rfl ?_
        have hu : nx w cal x day = (x, false) := by
          unfold nx nxE; simp only [h1, h3, h4, h5]; rfl
        refine a_ret ?_
        show (∃ ds, ResL _ _ _ ds ∧ RV.of ds = _) ∧ _ = _ ∧ _ = _ ∧ _ = _
        refine ⟨⟨[.fl (.bool false)], (.cons (.tmp rfl (.d _)) .nil), ?_⟩, rfl, ?_, rfl⟩
        · rw [hu]; rfl
        · rw [hu]; rfl
      · skip
        have h7 := f_dec h5
        refine a_skip ?_
        show A _ _ _ _ _ _ _
        refine a_dseq (by kernel_rfl) ?_
        refine dr_put (d := 79) (v := .pt 0 0) rfl (og rfl (op_move_pv rfl rfl rfl)) ?_
        refine dr_put (d := 80) (v := .pt 0 0) rfl (og rfl (op_move_pv rfl rfl rfl)) ?_
        refine dr_put (d := 81) (v := .pt 0 0) rfl (og rfl (op_nilCheck rfl rfl rfl)) ?_
        refine dr_put (d := 82) (v := .pt 0 4) rfl (og rfl (of_eff (s_field_pt rfl Tryd.underlying50 rfl ti32 rfl rfl rfl) rfl)) ?_
        refine dr_put (d := 83) (v := .pt 0 10) rfl (og rfl (of_eff (s_field_pt rfl Tryd.underlying32 rfl ti3 rfl rfl rfl) rfl)) ?_
        refine dr_put (d := 84) (v := .d (.fl (.int .i64 x.owed))) rfl (og rfl (op_load_pt rfl Tryd.underlying3 rfl rfl rfl rfl rfl)) ?_
        refine dr_put (d := 85) (v := .pt 0 0) rfl (og rfl (op_move_pv rfl rfl rfl)) ?_
        refine dr_put (d := 86) (v := .pt 0 0) rfl (og rfl (op_nilCheck rfl rfl rfl)) ?_
        refine dr_put (d := 87) (v := .pt 0 0) rfl (og rfl (of_eff (s_field_pt rfl Tryd.underlying50 rfl ti24 rfl rfl rfl) rfl)) ?_
        refine dr_put (d := 88) (v := .pt 0 1) rfl (og rfl (of_eff (s_field_pt rfl Tryd.underlying24 rfl ti22 rfl rfl rfl) rfl)) ?_
        refine dr_put (d := 89) (v := .d (.sl 1 (List.map (rI .i64) w.fees))) rfl (og rfl (op_load_pt rfl Tryd.underlying22 rfl rfl rfl rfl rfl)) ?_
        refine dr_put (d := 90) (v := .pt 0 0) rfl (og rfl (op_move_pv rfl rfl rfl)) ?_
        refine dr_put (d := 91) (v := .pt 0 0) rfl (og rfl (op_nilCheck rfl rfl rfl)) ?_
        refine dr_put (d := 92) (v := .pt 0 4) rfl (og rfl (of_eff (s_field_pt rfl Tryd.underlying50 rfl ti32 rfl rfl rfl) rfl)) ?_
        refine dr_put (d := 93) (v := .pt 0 9) rfl (og rfl (of_eff (s_field_pt rfl Tryd.underlying32 rfl ti3 rfl rfl rfl) rfl)) ?_
        refine dr_put (d := 94) (v := .d (.fl (.int .i64 x.stage))) rfl (og rfl (op_load_pt rfl Tryd.underlying3 rfl rfl rfl rfl rfl)) ?_
        refine dr_put (d := 95) (v := .d (.fl (.int .i64 (x.stage - 1)))) rfl (og rfl (op_bin rfl rfl rfl (fun x y w => b_sub64 _ _ _ x y w (by omega)) rfl)) ?_
        refine dr_put (d := 96) (v := .el ((rI .i64 ((ix w.fees ((x.stage - 1)).toNat))))) rfl (og rfl (s_index rfl Tryd.underlying22 ti3 rfl rfl (by omega) (row_atI (by omega) (by omega)) rfl)) ?_
        refine dr_put (d := 97) (v := .d (.fl (.int .i64 ((ix w.fees ((x.stage - 1)).toNat))))) rfl (og rfl (op_load_el rfl Tryd.underlying3 rfl rfl rfl rfl)) ?_
        refine dr_put (d := 98) (v := .d (.fl (.int .i64 ((x.owed + (ix w.fees ((x.stage - 1)).toNat)))))) rfl (og rfl (op_bin rfl rfl rfl (fun x y w => b_add64 _ _ _ x y w (by omega)) rfl)) ?_
        refine dr_put (d := 99) (v := .d (.fl (.int .i64 ((min ((x.owed + (ix w.fees ((x.stage - 1)).toNat))) 1125899906842624))))) rfl (og rfl (op_min rfl rfl rfl rfl)) ?_
        refine dr_put (d := 100) (v := .pt 0 0) rfl (og rfl (op_nilCheck rfl rfl rfl)) ?_
        refine dr_put (d := 101) (v := .pt 0 4) rfl (og rfl (of_eff (s_field_pt rfl Tryd.underlying50 rfl ti32 rfl rfl rfl) rfl)) ?_
        refine dr_put (d := 102) (v := .pt 0 10) rfl (og rfl (of_eff (s_field_pt rfl Tryd.underlying32 rfl ti3 rfl rfl rfl) rfl)) ?_
        refine dr_sto (nw := [(0, .bx 50 [.sl 1 (List.map (rI .i64) w.days), .sl 1 (List.map (rI .i64) w.fees), .fl (.int .i64 w.limit), .sl 1 (List.map (rI .i64) cal), .fl (.string x.id), .fl (.string x.plate), .fl (.string x.key), .fl (.int .i64 x.begun), .fl (.int .i64 x.since), .fl (.int .i64 x.stage), .fl (.int .i64 ((min ((x.owed + (ix w.fees ((x.stage - 1)).toNat))) 1125899906842624))), .fl (.int .i64 x.paid), .fl (.int .i64 x.paused), .fl (.int .i64 x.ap.state), .fl (.int .i64 x.ap.ground), .fl (.int .i64 x.ap.day), .fl (.int .i64 day)])]) rfl (og rfl (of_eff (s_store rfl rfl ti3 rfl rfl rfl rfl rfl rfl) rfl)) ?_
        refine dr_done rfl (sepB_of [0, 0, 2, 6, 14, 30, 0, 64, 192, 448, 960, 0, 2048, 6144, 14336, 30720, 63488, 131008, 262080, 524286, 1048574, 2097151, 4194303, 8388607, 16777215] (by kernel_rfl)) (by kernel_rfl) ?_
        refine a_rseq ?_
        refine rg_put (d := 103) (v := .pt 0 0) rfl (og rfl (op_move_pv rfl rfl rfl)) ?_
        refine rg_put (d := 104) (v := .pt 0 0) rfl (og rfl (op_nilCheck rfl rfl rfl)) ?_
        refine rg_put (d := 105) (v := .pt 0 4) rfl (og rfl (of_eff (s_field_pt rfl Tryd.underlying50 rfl ti32 rfl rfl rfl) rfl)) ?_
        refine rg_put (d := 106) (v := .pt 0 9) rfl (og rfl (of_eff (s_field_pt rfl Tryd.underlying32 rfl ti3 rfl rfl rfl) rfl)) ?_
        refine rg_put (d := 107) (v := .d (.fl (.int .i64 x.stage))) rfl (og rfl (op_load_pt rfl Tryd.underlying3 rfl rfl rfl rfl rfl)) ?_
        refine rg_put (d := 108) (v := .d (.fl (.int .i64 (x.stage + 1)))) rfl (og rfl (op_bin rfl rfl rfl (fun x y w => b_add64 _ _ _ x y w (by omega)) rfl)) ?_
        refine rg_put (d := 109) (v := .pt 0 0) rfl (og rfl (op_nilCheck rfl rfl rfl)) ?_
        refine rg_put (d := 110) (v := .pt 0 4) rfl (og rfl (of_eff (s_field_pt rfl Tryd.underlying50 rfl ti32 rfl rfl rfl) rfl)) ?_
        refine rg_put (d := 111) (v := .pt 0 9) rfl (og rfl (of_eff (s_field_pt rfl Tryd.underlying32 rfl ti3 rfl rfl rfl) rfl)) ?_
        refine rg_sto (nw := [(0, .bx 50 [.sl 1 (List.map (rI .i64) w.days), .sl 1 (List.map (rI .i64) w.fees), .fl (.int .i64 w.limit), .sl 1 (List.map (rI .i64) cal), .fl (.string x.id), .fl (.string x.plate), .fl (.string x.key), .fl (.int .i64 x.begun), .fl (.int .i64 x.since), .fl (.int .i64 (x.stage + 1)), .fl (.int .i64 ((min ((x.owed + (ix w.fees ((x.stage - 1)).toNat))) 1125899906842624))), .fl (.int .i64 x.paid), .fl (.int .i64 x.paused), .fl (.int .i64 x.ap.state), .fl (.int .i64 x.ap.ground), .fl (.int .i64 x.ap.day), .fl (.int .i64 day)])]) rfl (og rfl (of_eff (s_store rfl rfl ti3 rfl rfl rfl rfl rfl rfl) rfl)) ?_
        refine rg_done rfl ?_
        refine a_rseq ?_
        refine rg_put (d := 112) (v := .pt 0 0) rfl (og rfl (op_move_pv rfl rfl rfl)) ?_
        refine rg_put (d := 113) (v := .d (.fl (.int .i64 ((due w cal x).1)))) rfl (og rfl (op_move rfl rfl rfl)) ?_
        refine rg_put (d := 114) (v := .pt 0 0) rfl (og rfl (op_nilCheck rfl rfl rfl)) ?_
        refine rg_put (d := 115) (v := .pt 0 4) rfl (og rfl (of_eff (s_field_pt rfl Tryd.underlying50 rfl ti32 rfl rfl rfl) rfl)) ?_
        refine rg_put (d := 116) (v := .pt 0 8) rfl (og rfl (of_eff (s_field_pt rfl Tryd.underlying32 rfl ti3 rfl rfl rfl) rfl)) ?_
        refine rg_sto (nw := [(0, .bx 50 [.sl 1 (List.map (rI .i64) w.days), .sl 1 (List.map (rI .i64) w.fees), .fl (.int .i64 w.limit), .sl 1 (List.map (rI .i64) cal), .fl (.string x.id), .fl (.string x.plate), .fl (.string x.key), .fl (.int .i64 x.begun), .fl (.int .i64 ((due w cal x).1)), .fl (.int .i64 (x.stage + 1)), .fl (.int .i64 ((min ((x.owed + (ix w.fees ((x.stage - 1)).toNat))) 1125899906842624))), .fl (.int .i64 x.paid), .fl (.int .i64 x.paused), .fl (.int .i64 x.ap.state), .fl (.int .i64 x.ap.ground), .fl (.int .i64 x.ap.day), .fl (.int .i64 day)])]) rfl (og rfl (of_eff (s_store rfl rfl ti3 rfl rfl rfl rfl rfl rfl) rfl)) ?_
        refine rg_done rfl ?_
        refine a_rseq ?_
        refine rg_put (d := 2) (v := .d (.fl (.bool true))) rfl (og rfl (op_assign rfl rfl rfl)) ?_
        refine rg_done rfl ?_
        have hu : nx w cal x day = (fwd w cal x, true) := by
          unfold nx nxE; simp only [h1, h3, h4, h5]; rfl
        refine a_ret ?_
        show (∃ ds, ResL _ _ _ ds ∧ RV.of ds = _) ∧ _ = _ ∧ _ = _ ∧ _ = _
        refine ⟨⟨[.fl (.bool true)], (.cons (.tmp rfl (.d _)) .nil), ?_⟩, rfl, ?_, rfl⟩
        · rw [hu]; rfl
        · rw [hu]; rfl
    · skip
      have h8 := t_not h3
      refine rg_put (d := 72) (v := .d (.fl undef)) rfl (on rfl rfl rfl h3) ?_
      refine rg_put (d := 73) (v := .d (.fl undef)) rfl (on rfl rfl rfl h3) ?_
      refine rg_put (d := 74) (v := .d (.fl undef)) rfl (on rfl rfl rfl h3) ?_
      refine rg_put (d := 75) (v := .d (.fl undef)) rfl (on rfl rfl rfl h3) ?_
      refine rg_put (d := 76) (v := .d (.fl undef)) rfl (on rfl rfl rfl h3) ?_
      refine rg_put (d := 77) (v := .d (.fl undef)) rfl (on rfl rfl rfl h3) ?_
      refine rg_put (d := 78) (v := .d (.fl (.bool true))) rfl (og rfl (op_pick rfl rfl (by rw [h3]; rfl) rfl)) ?_
      refine rg_done rfl ?_
      refine a_condK rfl rfl ?_
      refine a_rseq ?_
      refine rg_put (d := 2) (v := .d (.fl (.bool false))) rfl (og rfl (op_assign rfl rfl rfl)) ?_
      refine rg_done rfl ?_
      have hu : nx w cal x day = (x, false) := by
        unfold nx nxE; simp only [h1, h3, h8]; rfl
      refine a_ret ?_
      show (∃ ds, ResL _ _ _ ds ∧ RV.of ds = _) ∧ _ = _ ∧ _ = _ ∧ _ = _
      refine ⟨⟨[.fl (.bool false)], (.cons (.tmp rfl (.d _)) .nil), ?_⟩, rfl, ?_, rfl⟩
      · rw [hu]; rfl
      · rw [hu]; rfl
  · skip
    have h9 := t_dec h1
    refine rg_put (d := 46) (v := .d (.fl (.bool ((due w cal x).2)))) rfl (oy rfl rfl rfl h1 (op_move rfl rfl rfl)) ?_
    refine rg_put (d := 47) (v := .d (.fl (.bool ((!((due w cal x).2)))))) rfl (oy rfl rfl rfl h1 (op_un rfl rfl (u_not _) rfl)) ?_
    refine rg_put (d := 48) (v := .d (.fl (.bool ((!((due w cal x).2)))))) rfl (oy rfl rfl rfl h1 (op_move rfl rfl rfl)) ?_
    rcases fot ((!((due w cal x).2))) with h10 | h10
    · skip
      have h11 := f_not h10
      obtain ⟨d1, d2, d3, d4, d5⟩ := due_ok h11
      have hfee := fee_ok d1 d2 d3
      have hlen := (ckL_ok d1).2.1
      refine rg_put (d := 49) (v := .d (.fl (.int .i64 (((x.begun + w.limit) + x.paused))))) rfl (oy rfl rfl rfl h10 (op_move rfl rfl rfl)) ?_
      refine rg_put (d := 50) (v := .d (.fl (.int .i64 ((due w cal x).1)))) rfl (oy rfl rfl rfl h10 (op_move rfl rfl rfl)) ?_
      refine rg_put (d := 51) (v := .d (.fl (.bool ((decide (((x.begun + w.limit) + x.paused) ≤ (due w cal x).1)))))) rfl (oy rfl rfl rfl h10 (op_bin rfl rfl rfl (b_leq _ _ _ _) rfl)) ?_
      refine rg_put (d := 52) (v := .d (.fl (.bool ((decide (((x.begun + w.limit) + x.paused) ≤ (due w cal x).1)))))) rfl (oy rfl rfl rfl h1 (op_pick rfl rfl (by rw [h10]; rfl) rfl)) ?_
      refine rg_put (d := 53) (v := .d (.fl (.bool ((decide (((x.begun + w.limit) + x.paused) ≤ (due w cal x).1)))))) rfl (og rfl (op_pick rfl rfl (by rw [h1]; rfl) rfl)) ?_
      refine rg_done rfl ?_
      refine a_cond rfl (fun h12 => ?_) (fun h12 => ?_)
      · skip
        have h13 := t_dec h12
        refine a_rseq ?_
        refine rg_put (d := 54) (v := .pt 0 0) rfl (og rfl (op_move_pv rfl rfl rfl)) ?_
        refine rg_put (d := 55) (v := .pt 0 0) rfl (og rfl (op_nilCheck rfl rfl rfl)) ?_
        refine rg_put (d := 56) (v := .pt 0 4) rfl (og rfl (of_eff (s_field_pt rfl Tryd.underlying50 rfl ti32 rfl rfl rfl) rfl)) ?_
        refine rg_put (d := 57) (v := .pt 0 9) rfl (og rfl (of_eff (s_field_pt rfl Tryd.underlying32 rfl ti3 rfl rfl rfl) rfl)) ?_
        refine rg_sto (nw := [(0, .bx 50 [.sl 1 (List.map (rI .i64) w.days), .sl 1 (List.map (rI .i64) w.fees), .fl (.int .i64 w.limit), .sl 1 (List.map (rI .i64) cal), .fl (.string x.id), .fl (.string x.plate), .fl (.string x.key), .fl (.int .i64 x.begun), .fl (.int .i64 x.since), .fl (.int .i64 8), .fl (.int .i64 x.owed), .fl (.int .i64 x.paid), .fl (.int .i64 x.paused), .fl (.int .i64 x.ap.state), .fl (.int .i64 x.ap.ground), .fl (.int .i64 x.ap.day), .fl (.int .i64 day)])]) rfl (og rfl (of_eff (s_store rfl rfl ti3 rfl rfl rfl rfl rfl rfl) rfl)) ?_
        refine rg_done rfl ?_
        refine a_rseq ?_
        refine rg_put (d := 58) (v := .pt 0 0) rfl (og rfl (op_move_pv rfl rfl rfl)) ?_
        refine rg_put (d := 59) (v := .pt 0 0) rfl (og rfl (op_move_pv rfl rfl rfl)) ?_
        refine rg_put (d := 60) (v := .pt 0 0) rfl (og rfl (op_nilCheck rfl rfl rfl)) ?_
        refine rg_put (d := 61) (v := .pt 0 4) rfl (og rfl (of_eff (s_field_pt rfl Tryd.underlying50 rfl ti32 rfl rfl rfl) rfl)) ?_
        refine rg_put (d := 62) (v := .pt 0 8) rfl (og rfl (of_eff (s_field_pt rfl Tryd.underlying32 rfl ti3 rfl rfl rfl) rfl)) ?_
        refine rg_put (d := 63) (v := .d (.fl (.int .i64 x.since))) rfl (og rfl (op_load_pt rfl Tryd.underlying3 rfl rfl rfl rfl rfl)) ?_
        refine rg_put (d := 64) (v := .d (.fl (.int .i64 (((x.begun + w.limit) + x.paused))))) rfl (og rfl (op_move rfl rfl rfl)) ?_
        refine rg_put (d := 65) (v := .d (.fl (.int .i64 ((max x.since (((x.begun + w.limit) + x.paused))))))) rfl (og rfl (op_max rfl rfl rfl rfl)) ?_
        refine rg_put (d := 66) (v := .pt 0 0) rfl (og rfl (op_nilCheck rfl rfl rfl)) ?_
        refine rg_put (d := 67) (v := .pt 0 4) rfl (og rfl (of_eff (s_field_pt rfl Tryd.underlying50 rfl ti32 rfl rfl rfl) rfl)) ?_
        refine rg_put (d := 68) (v := .pt 0 8) rfl (og rfl (of_eff (s_field_pt rfl Tryd.underlying32 rfl ti3 rfl rfl rfl) rfl)) ?_
        refine rg_sto (nw := [(0, .bx 50 [.sl 1 (List.map (rI .i64) w.days), .sl 1 (List.map (rI .i64) w.fees), .fl (.int .i64 w.limit), .sl 1 (List.map (rI .i64) cal), .fl (.string x.id), .fl (.string x.plate), .fl (.string x.key), .fl (.int .i64 x.begun), .fl (.int .i64 ((max x.since (((x.begun + w.limit) + x.paused))))), .fl (.int .i64 8), .fl (.int .i64 x.owed), .fl (.int .i64 x.paid), .fl (.int .i64 x.paused), .fl (.int .i64 x.ap.state), .fl (.int .i64 x.ap.ground), .fl (.int .i64 x.ap.day), .fl (.int .i64 day)])]) rfl (og rfl (of_eff (s_store rfl rfl ti3 rfl rfl rfl rfl rfl rfl) rfl)) ?_
        refine rg_done rfl ?_
        refine a_rseq ?_
        refine rg_put (d := 2) (v := .d (.fl (.bool false))) rfl (og rfl (op_assign rfl rfl rfl)) ?_
        refine rg_done rfl ?_
        have hu : nx w cal x day = (bar w x, false) := by
          unfold nx nxE; simp only [h1, h10, h11, h12]; rfl
        refine a_ret ?_
        show (∃ ds, ResL _ _ _ ds ∧ RV.of ds = _) ∧ _ = _ ∧ _ = _ ∧ _ = _
        refine ⟨⟨[.fl (.bool false)], (.cons (.tmp rfl (.d _)) .nil), ?_⟩, rfl, ?_, rfl⟩
        · rw [hu]; rfl
        · rw [hu]; rfl
      · skip
        have h14 := f_dec h12
        refine a_skip ?_
        show A _ _ _ _ _ _ _
        refine a_seq ?_
        refine a_rseq ?_
        refine rg_put (d := 69) (v := .d (.fl (.bool ((due w cal x).2)))) rfl (og rfl (op_move rfl rfl rfl)) ?_
        refine rg_put (d := 70) (v := .d (.fl (.bool ((!((due w cal x).2)))))) rfl (og rfl (op_un rfl rfl (u_not _) rfl)) ?_
        refine rg_put (d := 71) (v := .d (.fl (.bool ((!((due w cal x).2)))))) rfl (og rfl (op_move rfl rfl rfl)) ?_
        refine rg_put (d := 72) (v := .d (.fl (.int .i64 ((due w cal x).1)))) rfl (oy rfl rfl rfl h10 (op_move rfl rfl rfl)) ?_
        refine rg_put (d := 73) (v := .pt 0 0) rfl (oy rfl rfl rfl h10 (op_move_pv rfl rfl rfl)) ?_
        refine rg_put (d := 74) (v := .pt 0 0) rfl (oy rfl rfl rfl h10 (op_nilCheck rfl rfl rfl)) ?_
        refine rg_put (d := 75) (v := .pt 0 16) rfl (oy rfl rfl rfl h10 (of_eff (s_field_pt rfl Tryd.underlying50 rfl ti3 rfl rfl rfl) rfl)) ?_
        refine rg_put (d := 76) (v := .d (.fl (.int .i64 day))) rfl (oy rfl rfl rfl h10 (op_load_pt rfl Tryd.underlying3 rfl rfl rfl rfl rfl)) ?_
        refine rg_put (d := 77) (v := .d (.fl (.bool ((decide (day < (due w cal x).1)))))) rfl (oy rfl rfl rfl h10 (op_bin rfl rfl rfl (b_gtr _ _ _ _) rfl)) ?_
        refine rg_put (d := 78) (v := .d (.fl (.bool ((decide (day < (due w cal x).1)))))) rfl (og rfl (op_pick rfl rfl (by rw [h10]; rfl) rfl)) ?_
        refine rg_done rfl ?_
        refine a_cond rfl (fun h15 => ?_) (fun h15 => ?_)
        · skip
          have h16 := t_dec h15
          refine a_rseq ?_
          refine rg_put (d := 2) (v := .d (.fl (.bool false))) rfl (og rfl (op_assign rfl rfl rfl)) ?_
          refine rg_done rfl ?_
          have hu : nx w cal x day = (x, false) := by
            unfold nx nxE; simp only [h1, h10, h11, h12, h15]; rfl
          refine a_ret ?_
          show (∃ ds, ResL _ _ _ ds ∧ RV.of ds = _) ∧ _ = _ ∧ _ = _ ∧ _ = _
          refine ⟨⟨[.fl (.bool false)], (.cons (.tmp rfl (.d _)) .nil), ?_⟩, rfl, ?_, rfl⟩
          · rw [hu]; rfl
          · rw [hu]; rfl
        · skip
          have h17 := f_dec h15
          refine a_skip ?_
          show A _ _ _ _ _ _ _
          refine a_dseq (by kernel_rfl) ?_
          refine dr_put (d := 79) (v := .pt 0 0) rfl (og rfl (op_move_pv rfl rfl rfl)) ?_
          refine dr_put (d := 80) (v := .pt 0 0) rfl (og rfl (op_move_pv rfl rfl rfl)) ?_
          refine dr_put (d := 81) (v := .pt 0 0) rfl (og rfl (op_nilCheck rfl rfl rfl)) ?_
          refine dr_put (d := 82) (v := .pt 0 4) rfl (og rfl (of_eff (s_field_pt rfl Tryd.underlying50 rfl ti32 rfl rfl rfl) rfl)) ?_
          refine dr_put (d := 83) (v := .pt 0 10) rfl (og rfl (of_eff (s_field_pt rfl Tryd.underlying32 rfl ti3 rfl rfl rfl) rfl)) ?_
          refine dr_put (d := 84) (v := .d (.fl (.int .i64 x.owed))) rfl (og rfl (op_load_pt rfl Tryd.underlying3 rfl rfl rfl rfl rfl)) ?_
          refine dr_put (d := 85) (v := .pt 0 0) rfl (og rfl (op_move_pv rfl rfl rfl)) ?_
          refine dr_put (d := 86) (v := .pt 0 0) rfl (og rfl (op_nilCheck rfl rfl rfl)) ?_
          refine dr_put (d := 87) (v := .pt 0 0) rfl (og rfl (of_eff (s_field_pt rfl Tryd.underlying50 rfl ti24 rfl rfl rfl) rfl)) ?_
          refine dr_put (d := 88) (v := .pt 0 1) rfl (og rfl (of_eff (s_field_pt rfl Tryd.underlying24 rfl ti22 rfl rfl rfl) rfl)) ?_
          refine dr_put (d := 89) (v := .d (.sl 1 (List.map (rI .i64) w.fees))) rfl (og rfl (op_load_pt rfl Tryd.underlying22 rfl rfl rfl rfl rfl)) ?_
          refine dr_put (d := 90) (v := .pt 0 0) rfl (og rfl (op_move_pv rfl rfl rfl)) ?_
          refine dr_put (d := 91) (v := .pt 0 0) rfl (og rfl (op_nilCheck rfl rfl rfl)) ?_
          refine dr_put (d := 92) (v := .pt 0 4) rfl (og rfl (of_eff (s_field_pt rfl Tryd.underlying50 rfl ti32 rfl rfl rfl) rfl)) ?_
          refine dr_put (d := 93) (v := .pt 0 9) rfl (og rfl (of_eff (s_field_pt rfl Tryd.underlying32 rfl ti3 rfl rfl rfl) rfl)) ?_
          refine dr_put (d := 94) (v := .d (.fl (.int .i64 x.stage))) rfl (og rfl (op_load_pt rfl Tryd.underlying3 rfl rfl rfl rfl rfl)) ?_
          refine dr_put (d := 95) (v := .d (.fl (.int .i64 (x.stage - 1)))) rfl (og rfl (op_bin rfl rfl rfl (fun x y w => b_sub64 _ _ _ x y w (by omega)) rfl)) ?_
          refine dr_put (d := 96) (v := .el ((rI .i64 ((ix w.fees ((x.stage - 1)).toNat))))) rfl (og rfl (s_index rfl Tryd.underlying22 ti3 rfl rfl (by omega) (row_atI (by omega) (by omega)) rfl)) ?_
          refine dr_put (d := 97) (v := .d (.fl (.int .i64 ((ix w.fees ((x.stage - 1)).toNat))))) rfl (og rfl (op_load_el rfl Tryd.underlying3 rfl rfl rfl rfl)) ?_
          refine dr_put (d := 98) (v := .d (.fl (.int .i64 ((x.owed + (ix w.fees ((x.stage - 1)).toNat)))))) rfl (og rfl (op_bin rfl rfl rfl (fun x y w => b_add64 _ _ _ x y w (by omega)) rfl)) ?_
          refine dr_put (d := 99) (v := .d (.fl (.int .i64 ((min ((x.owed + (ix w.fees ((x.stage - 1)).toNat))) 1125899906842624))))) rfl (og rfl (op_min rfl rfl rfl rfl)) ?_
          refine dr_put (d := 100) (v := .pt 0 0) rfl (og rfl (op_nilCheck rfl rfl rfl)) ?_
          refine dr_put (d := 101) (v := .pt 0 4) rfl (og rfl (of_eff (s_field_pt rfl Tryd.underlying50 rfl ti32 rfl rfl rfl) rfl)) ?_
          refine dr_put (d := 102) (v := .pt 0 10) rfl (og rfl (of_eff (s_field_pt rfl Tryd.underlying32 rfl ti3 rfl rfl rfl) rfl)) ?_
          refine dr_sto (nw := [(0, .bx 50 [.sl 1 (List.map (rI .i64) w.days), .sl 1 (List.map (rI .i64) w.fees), .fl (.int .i64 w.limit), .sl 1 (List.map (rI .i64) cal), .fl (.string x.id), .fl (.string x.plate), .fl (.string x.key), .fl (.int .i64 x.begun), .fl (.int .i64 x.since), .fl (.int .i64 x.stage), .fl (.int .i64 ((min ((x.owed + (ix w.fees ((x.stage - 1)).toNat))) 1125899906842624))), .fl (.int .i64 x.paid), .fl (.int .i64 x.paused), .fl (.int .i64 x.ap.state), .fl (.int .i64 x.ap.ground), .fl (.int .i64 x.ap.day), .fl (.int .i64 day)])]) rfl (og rfl (of_eff (s_store rfl rfl ti3 rfl rfl rfl rfl rfl rfl) rfl)) ?_
          refine dr_done rfl (sepB_of [0, 0, 2, 6, 14, 30, 0, 64, 192, 448, 960, 0, 2048, 6144, 14336, 30720, 63488, 131008, 262080, 524286, 1048574, 2097151, 4194303, 8388607, 16777215] (by kernel_rfl)) (by kernel_rfl) ?_
          refine a_rseq ?_
          refine rg_put (d := 103) (v := .pt 0 0) rfl (og rfl (op_move_pv rfl rfl rfl)) ?_
          refine rg_put (d := 104) (v := .pt 0 0) rfl (og rfl (op_nilCheck rfl rfl rfl)) ?_
          refine rg_put (d := 105) (v := .pt 0 4) rfl (og rfl (of_eff (s_field_pt rfl Tryd.underlying50 rfl ti32 rfl rfl rfl) rfl)) ?_
          refine rg_put (d := 106) (v := .pt 0 9) rfl (og rfl (of_eff (s_field_pt rfl Tryd.underlying32 rfl ti3 rfl rfl rfl) rfl)) ?_
          refine rg_put (d := 107) (v := .d (.fl (.int .i64 x.stage))) rfl (og rfl (op_load_pt rfl Tryd.underlying3 rfl rfl rfl rfl rfl)) ?_
          refine rg_put (d := 108) (v := .d (.fl (.int .i64 (x.stage + 1)))) rfl (og rfl (op_bin rfl rfl rfl (fun x y w => b_add64 _ _ _ x y w (by omega)) rfl)) ?_
          refine rg_put (d := 109) (v := .pt 0 0) rfl (og rfl (op_nilCheck rfl rfl rfl)) ?_
          refine rg_put (d := 110) (v := .pt 0 4) rfl (og rfl (of_eff (s_field_pt rfl Tryd.underlying50 rfl ti32 rfl rfl rfl) rfl)) ?_
          refine rg_put (d := 111) (v := .pt 0 9) rfl (og rfl (of_eff (s_field_pt rfl Tryd.underlying32 rfl ti3 rfl rfl rfl) rfl)) ?_
          refine rg_sto (nw := [(0, .bx 50 [.sl 1 (List.map (rI .i64) w.days), .sl 1 (List.map (rI .i64) w.fees), .fl (.int .i64 w.limit), .sl 1 (List.map (rI .i64) cal), .fl (.string x.id), .fl (.string x.plate), .fl (.string x.key), .fl (.int .i64 x.begun), .fl (.int .i64 x.since), .fl (.int .i64 (x.stage + 1)), .fl (.int .i64 ((min ((x.owed + (ix w.fees ((x.stage - 1)).toNat))) 1125899906842624))), .fl (.int .i64 x.paid), .fl (.int .i64 x.paused), .fl (.int .i64 x.ap.state), .fl (.int .i64 x.ap.ground), .fl (.int .i64 x.ap.day), .fl (.int .i64 day)])]) rfl (og rfl (of_eff (s_store rfl rfl ti3 rfl rfl rfl rfl rfl rfl) rfl)) ?_
          refine rg_done rfl ?_
          refine a_rseq ?_
          refine rg_put (d := 112) (v := .pt 0 0) rfl (og rfl (op_move_pv rfl rfl rfl)) ?_
          refine rg_put (d := 113) (v := .d (.fl (.int .i64 ((due w cal x).1)))) rfl (og rfl (op_move rfl rfl rfl)) ?_
          refine rg_put (d := 114) (v := .pt 0 0) rfl (og rfl (op_nilCheck rfl rfl rfl)) ?_
          refine rg_put (d := 115) (v := .pt 0 4) rfl (og rfl (of_eff (s_field_pt rfl Tryd.underlying50 rfl ti32 rfl rfl rfl) rfl)) ?_
          refine rg_put (d := 116) (v := .pt 0 8) rfl (og rfl (of_eff (s_field_pt rfl Tryd.underlying32 rfl ti3 rfl rfl rfl) rfl)) ?_
          refine rg_sto (nw := [(0, .bx 50 [.sl 1 (List.map (rI .i64) w.days), .sl 1 (List.map (rI .i64) w.fees), .fl (.int .i64 w.limit), .sl 1 (List.map (rI .i64) cal), .fl (.string x.id), .fl (.string x.plate), .fl (.string x.key), .fl (.int .i64 x.begun), .fl (.int .i64 ((due w cal x).1)), .fl (.int .i64 (x.stage + 1)), .fl (.int .i64 ((min ((x.owed + (ix w.fees ((x.stage - 1)).toNat))) 1125899906842624))), .fl (.int .i64 x.paid), .fl (.int .i64 x.paused), .fl (.int .i64 x.ap.state), .fl (.int .i64 x.ap.ground), .fl (.int .i64 x.ap.day), .fl (.int .i64 day)])]) rfl (og rfl (of_eff (s_store rfl rfl ti3 rfl rfl rfl rfl rfl rfl) rfl)) ?_
          refine rg_done rfl ?_
          refine a_rseq ?_
          refine rg_put (d := 2) (v := .d (.fl (.bool true))) rfl (og rfl (op_assign rfl rfl rfl)) ?_
          refine rg_done rfl ?_
          have hu : nx w cal x day = (fwd w cal x, true) := by
            unfold nx nxE; simp only [h1, h10, h11, h12, h15]; rfl
          refine a_ret ?_
          show (∃ ds, ResL _ _ _ ds ∧ RV.of ds = _) ∧ _ = _ ∧ _ = _ ∧ _ = _
          refine ⟨⟨[.fl (.bool true)], (.cons (.tmp rfl (.d _)) .nil), ?_⟩, rfl, ?_, rfl⟩
          · rw [hu]; rfl
          · rw [hu]; rfl
    · skip
      have h18 := t_not h10
      refine rg_put (d := 49) (v := .d (.fl undef)) rfl (on rfl rfl rfl h10) ?_
      refine rg_put (d := 50) (v := .d (.fl undef)) rfl (on rfl rfl rfl h10) ?_
      refine rg_put (d := 51) (v := .d (.fl undef)) rfl (on rfl rfl rfl h10) ?_
      refine rg_put (d := 52) (v := .d (.fl (.bool true))) rfl (oy rfl rfl rfl h1 (op_pick rfl rfl (by rw [h10]; rfl) rfl)) ?_
      refine rg_put (d := 53) (v := .d (.fl (.bool true))) rfl (og rfl (op_pick rfl rfl (by rw [h1]; rfl) rfl)) ?_
      refine rg_done rfl ?_
      refine a_condK rfl rfl ?_
      refine a_rseq ?_
      refine rg_put (d := 54) (v := .pt 0 0) rfl (og rfl (op_move_pv rfl rfl rfl)) ?_
      refine rg_put (d := 55) (v := .pt 0 0) rfl (og rfl (op_nilCheck rfl rfl rfl)) ?_
      refine rg_put (d := 56) (v := .pt 0 4) rfl (og rfl (of_eff (s_field_pt rfl Tryd.underlying50 rfl ti32 rfl rfl rfl) rfl)) ?_
      refine rg_put (d := 57) (v := .pt 0 9) rfl (og rfl (of_eff (s_field_pt rfl Tryd.underlying32 rfl ti3 rfl rfl rfl) rfl)) ?_
      refine rg_sto (nw := [(0, .bx 50 [.sl 1 (List.map (rI .i64) w.days), .sl 1 (List.map (rI .i64) w.fees), .fl (.int .i64 w.limit), .sl 1 (List.map (rI .i64) cal), .fl (.string x.id), .fl (.string x.plate), .fl (.string x.key), .fl (.int .i64 x.begun), .fl (.int .i64 x.since), .fl (.int .i64 8), .fl (.int .i64 x.owed), .fl (.int .i64 x.paid), .fl (.int .i64 x.paused), .fl (.int .i64 x.ap.state), .fl (.int .i64 x.ap.ground), .fl (.int .i64 x.ap.day), .fl (.int .i64 day)])]) rfl (og rfl (of_eff (s_store rfl rfl ti3 rfl rfl rfl rfl rfl rfl) rfl)) ?_
      refine rg_done rfl ?_
      refine a_rseq ?_
      refine rg_put (d := 58) (v := .pt 0 0) rfl (og rfl (op_move_pv rfl rfl rfl)) ?_
      refine rg_put (d := 59) (v := .pt 0 0) rfl (og rfl (op_move_pv rfl rfl rfl)) ?_
      refine rg_put (d := 60) (v := .pt 0 0) rfl (og rfl (op_nilCheck rfl rfl rfl)) ?_
      refine rg_put (d := 61) (v := .pt 0 4) rfl (og rfl (of_eff (s_field_pt rfl Tryd.underlying50 rfl ti32 rfl rfl rfl) rfl)) ?_
      refine rg_put (d := 62) (v := .pt 0 8) rfl (og rfl (of_eff (s_field_pt rfl Tryd.underlying32 rfl ti3 rfl rfl rfl) rfl)) ?_
      refine rg_put (d := 63) (v := .d (.fl (.int .i64 x.since))) rfl (og rfl (op_load_pt rfl Tryd.underlying3 rfl rfl rfl rfl rfl)) ?_
      refine rg_put (d := 64) (v := .d (.fl (.int .i64 (((x.begun + w.limit) + x.paused))))) rfl (og rfl (op_move rfl rfl rfl)) ?_
      refine rg_put (d := 65) (v := .d (.fl (.int .i64 ((max x.since (((x.begun + w.limit) + x.paused))))))) rfl (og rfl (op_max rfl rfl rfl rfl)) ?_
      refine rg_put (d := 66) (v := .pt 0 0) rfl (og rfl (op_nilCheck rfl rfl rfl)) ?_
      refine rg_put (d := 67) (v := .pt 0 4) rfl (og rfl (of_eff (s_field_pt rfl Tryd.underlying50 rfl ti32 rfl rfl rfl) rfl)) ?_
      refine rg_put (d := 68) (v := .pt 0 8) rfl (og rfl (of_eff (s_field_pt rfl Tryd.underlying32 rfl ti3 rfl rfl rfl) rfl)) ?_
      refine rg_sto (nw := [(0, .bx 50 [.sl 1 (List.map (rI .i64) w.days), .sl 1 (List.map (rI .i64) w.fees), .fl (.int .i64 w.limit), .sl 1 (List.map (rI .i64) cal), .fl (.string x.id), .fl (.string x.plate), .fl (.string x.key), .fl (.int .i64 x.begun), .fl (.int .i64 ((max x.since (((x.begun + w.limit) + x.paused))))), .fl (.int .i64 8), .fl (.int .i64 x.owed), .fl (.int .i64 x.paid), .fl (.int .i64 x.paused), .fl (.int .i64 x.ap.state), .fl (.int .i64 x.ap.ground), .fl (.int .i64 x.ap.day), .fl (.int .i64 day)])]) rfl (og rfl (of_eff (s_store rfl rfl ti3 rfl rfl rfl rfl rfl rfl) rfl)) ?_
      refine rg_done rfl ?_
      refine a_rseq ?_
      refine rg_put (d := 2) (v := .d (.fl (.bool false))) rfl (og rfl (op_assign rfl rfl rfl)) ?_
      refine rg_done rfl ?_
      have hu : nx w cal x day = (bar w x, false) := by
        unfold nx nxE; simp only [h1, h10, h18]; rfl
      refine a_ret ?_
      show (∃ ds, ResL _ _ _ ds ∧ RV.of ds = _) ∧ _ = _ ∧ _ = _ ∧ _ = _
      refine ⟨⟨[.fl (.bool false)], (.cons (.tmp rfl (.d _)) .nil), ?_⟩, rfl, ?_, rfl⟩
      · rw [hu]; rfl
      · rw [hu]; rfl
end Go.Proofs.YtdafmaocbkmmgaaDoor.Wk
