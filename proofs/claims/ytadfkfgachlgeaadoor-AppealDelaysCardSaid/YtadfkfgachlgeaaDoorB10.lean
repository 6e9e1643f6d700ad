/- A case advances, by the reference. No condition. -/
import Derived.Test.YtadfkfgachlgeaaDoorB5
set_option linter.unusedSimpArgs false
set_option linter.unusedVariables false
namespace Go.Proofs.YtadfkfgachlgeaaDoor.Wk
open Go Go.RowKit Go.Proofs.YtadfkfgachlgeaaDoor.Av
set_option maxHeartbeats 4000000 in
set_option maxRecDepth 100000 in
theorem sp36 (w : Lw) (cal : List Int) (x : Cs) (day : Int) (hok : OKx w x) (hlim : w.limit < 795364 ∧ 1 ≤ w.limit) (hl0 : cal.length < 9223372036854775807) : Ctr Tryd.prog 38 [.ag (eLw w), .sl 1 (List.map (rI .i64) cal), .ag (eCs x), .fl (.int .i64 day)] (.tu [.ag (eCs (sp w cal x day).1), .fl (.bool (sp w cal x day).2)]) := by
  obtain ⟨_, hb, hp, ho⟩ := hok
  refine ctr (n := 87) (rs := #[.cell 8 28, .tmp 9]) (L := [(0, .d (.ag (eLw w))), (1, .d (.sl 1 (List.map (rI .i64) cal))), (2, .d (.ag (eCs x))), (3, .d (.fl (.int .i64 day)))]) Tryd.func38 rfl rfl rfl rfl rfl (fun w0 U0 => ?_)
  refine a_rseq ?_
  refine rg_nam (d := 4) (v := .pt 101 0) (m := 101) (nw := [(101, .bx 24 (eLw w))]) rfl (og rfl (of_eff (op_box 101 rfl rfl rfl rfl) rfl)) rfl ?_
  refine rg_nam (d := 6) (v := .pt 102 0) (m := 102) (nw := [(102, .bx 28 (eCs x))]) rfl (og rfl (of_eff (op_box 102 rfl rfl rfl rfl) rfl)) rfl ?_
  refine rg_nam (d := 8) (v := .pt 103 0) (m := 103) (nw := [(103, .bx 28 ([.fl (.string (⟨#[]⟩)), .fl (.string (⟨#[]⟩)), .fl (.string (⟨#[]⟩)), .fl (.int .i64 0), .fl (.int .i64 0), .fl (.int .i64 0), .fl (.int .i64 0), .fl (.int .i64 0), .fl (.int .i64 0), .fl (.int .i64 0), .fl (.int .i64 0), .fl (.int .i64 0)]))]) rfl (og rfl (of_eff (s_alloc 103 rfl ti28 (by kernel_rfl) rfl) rfl)) rfl ?_
  refine rg_put (d := 9) (v := .d (.fl (.bool false))) rfl (og rfl (op_assign rfl rfl rfl)) ?_
  refine rg_done rfl ?_
  refine a_rseq ?_
  refine rg_put (d := 14) (v := .d (.ag (eLw w))) rfl (og rfl (of_eff (s_load_pts rfl Tryd.underlying24 rfl ti24 rfl rfl rfl rfl) rfl)) ?_
  refine rg_put (d := 15) (v := .d (.sl 1 (List.map (rI .i64) cal))) rfl (og rfl (op_move rfl rfl rfl)) ?_
  refine rg_put (d := 16) (v := .d (.ag (eCs x))) rfl (og rfl (of_eff (s_load_pts rfl Tryd.underlying28 rfl ti28 rfl rfl rfl rfl) rfl)) ?_
  refine rg_put (d := 17) (v := .tu [.fl (.int .i64 ((due w cal x).1)), .fl (.bool ((due w cal x).2))]) rfl (og rfl (op_call rfl Tryd.func33 nm33 rfl (.cons rfl (.d _) (.cons rfl (.d _) (.cons rfl (.d _) .nil))) (due20 w cal x hl0) rfl)) ?_
  refine rg_put (d := 13) (v := .tu [.fl (.int .i64 ((due w cal x).1)), .fl (.bool ((due w cal x).2))]) rfl (og rfl (op_move rfl rfl rfl)) ?_
  refine rg_put (d := 18) (v := .d (.fl (.int .i64 ((due w cal x).1)))) rfl (og rfl (op_extract rfl rfl rfl rfl)) ?_
  refine rg_put (d := 19) (v := .d (.fl (.bool ((due w cal x).2)))) rfl (og rfl (op_extract rfl rfl rfl rfl)) ?_
  refine rg_put (d := 10) (v := .d (.fl (.int .i64 ((due w cal x).1)))) rfl (og rfl (op_assign rfl rfl rfl)) ?_
  refine rg_put (d := 11) (v := .d (.fl (.bool ((due w cal x).2)))) rfl (og rfl (op_assign rfl rfl rfl)) ?_
  refine rg_done rfl ?_
  refine a_rseq ?_
  refine rg_put (d := 20) (v := .pt 102 3) rfl (og rfl (of_eff (s_field_pt rfl Tryd.underlying28 rfl ti3 rfl rfl rfl) rfl)) ?_
  refine rg_put (d := 21) (v := .d (.fl (.int .i64 x.begun))) rfl (og rfl (op_load_pt rfl Tryd.underlying3 rfl rfl rfl rfl rfl)) ?_
  refine rg_put (d := 22) (v := .pt 101 2) rfl (og rfl (of_eff (s_field_pt rfl Tryd.underlying24 rfl ti3 rfl rfl rfl) rfl)) ?_
  refine rg_put (d := 23) (v := .d (.fl (.int .i64 w.limit))) rfl (og rfl (op_load_pt rfl Tryd.underlying3 rfl rfl rfl rfl rfl)) ?_
  refine rg_put (d := 24) (v := .d (.fl (.int .i64 (x.begun + w.limit)))) rfl (og rfl (op_bin rfl rfl rfl (fun x y w => b_add64 _ _ _ x y w (by omega)) rfl)) ?_
  refine rg_put (d := 25) (v := .pt 102 8) rfl (og rfl (of_eff (s_field_pt rfl Tryd.underlying28 rfl ti3 rfl rfl rfl) rfl)) ?_
  refine rg_put (d := 26) (v := .d (.fl (.int .i64 x.paused))) rfl (og rfl (op_load_pt rfl Tryd.underlying3 rfl rfl rfl rfl rfl)) ?_
  refine rg_put (d := 27) (v := .d (.fl (.int .i64 (((x.begun + w.limit) + x.paused))))) rfl (og rfl (op_bin rfl rfl rfl (fun x y w => b_add64 _ _ _ x y w (by omega)) rfl)) ?_
  refine rg_put (d := 12) (v := .d (.fl (.int .i64 (((x.begun + w.limit) + x.paused))))) rfl (og rfl (op_assign rfl rfl rfl)) ?_
  refine rg_done rfl ?_
  refine a_seq ?_
  refine a_rseq ?_
  refine rg_put (d := 28) (v := .pt 102 5) rfl (og rfl (of_eff (s_field_pt rfl Tryd.underlying28 rfl ti3 rfl rfl rfl) rfl)) ?_
  refine rg_put (d := 29) (v := .d (.fl (.int .i64 x.stage))) rfl (og rfl (op_load_pt rfl Tryd.underlying3 rfl rfl rfl rfl rfl)) ?_
  refine rg_put (d := 30) (v := .d (.fl (.bool ((decide (1 ≤ x.stage)))))) rfl (og rfl (op_bin rfl rfl rfl (b_geq _ _ _ _) rfl)) ?_
  refine rg_put (d := 31) (v := .d (.fl (.bool ((decide (1 ≤ x.stage)))))) rfl (og rfl (op_move rfl rfl rfl)) ?_
  rcases fot ((decide (1 ≤ x.stage))) with h1 | h1
  · skip
    have h2 := f_dec h1
    refine rg_put (d := 32) (v := .d (.fl undef)) rfl (on rfl rfl rfl h1) ?_
    refine rg_put (d := 33) (v := .d (.fl undef)) rfl (on rfl rfl rfl h1) ?_
    refine rg_put (d := 34) (v := .d (.fl undef)) rfl (on rfl rfl rfl h1) ?_
    refine rg_put (d := 35) (v := .d (.fl (.bool false))) rfl (og rfl (op_pick rfl rfl (by rw [h1]; rfl) rfl)) ?_
    refine rg_put (d := 36) (v := .d (.fl (.bool false))) rfl (og rfl (op_move rfl rfl rfl)) ?_
    refine rg_put (d := 37) (v := .d (.fl undef)) rfl (on rfl rfl rfl rfl) ?_
    refine rg_put (d := 38) (v := .d (.fl undef)) rfl (on rfl rfl rfl rfl) ?_
    refine rg_put (d := 39) (v := .d (.fl undef)) rfl (on rfl rfl rfl rfl) ?_
    refine rg_put (d := 40) (v := .d (.fl (.bool false))) rfl (og rfl (op_pick rfl rfl rfl rfl)) ?_
    refine rg_put (d := 41) (v := .d (.fl (.bool false))) rfl (og rfl (op_move rfl rfl rfl)) ?_
    refine rg_put (d := 42) (v := .d (.fl undef)) rfl (on rfl rfl rfl rfl) ?_
    refine rg_put (d := 43) (v := .d (.fl undef)) rfl (on rfl rfl rfl rfl) ?_
    refine rg_put (d := 44) (v := .d (.fl undef)) rfl (on rfl rfl rfl rfl) ?_
    refine rg_put (d := 45) (v := .d (.fl undef)) rfl (ou rfl rfl rfl) ?_
    refine rg_put (d := 46) (v := .d (.fl undef)) rfl (ou rfl rfl rfl) ?_
    refine rg_put (d := 47) (v := .d (.fl undef)) rfl (ou rfl rfl rfl) ?_
    refine rg_put (d := 48) (v := .d (.fl undef)) rfl (on rfl rfl rfl rfl) ?_
    refine rg_put (d := 49) (v := .d (.fl (.bool false))) rfl (og rfl (op_pick rfl rfl rfl rfl)) ?_
    refine rg_done rfl ?_
    refine a_condF rfl rfl ?_
    refine a_skip ?_
    show A _ _ _ _ _ _ _
    refine a_seq ?_
    refine a_rseq ?_
    refine rg_put (d := 58) (v := .d (.fl (.bool ((due w cal x).2)))) rfl (og rfl (op_move rfl rfl rfl)) ?_
    refine rg_put (d := 59) (v := .d (.fl (.bool ((due w cal x).2)))) rfl (og rfl (op_move rfl rfl rfl)) ?_
    rcases fot ((due w cal x).2) with h3 | h3
    · skip
      refine rg_put (d := 60) (v := .d (.fl undef)) rfl (on rfl rfl rfl h3) ?_
      refine rg_put (d := 61) (v := .d (.fl undef)) rfl (on rfl rfl rfl h3) ?_
      refine rg_put (d := 62) (v := .d (.fl undef)) rfl (on rfl rfl rfl h3) ?_
      refine rg_put (d := 63) (v := .d (.fl (.bool false))) rfl (og rfl (op_pick rfl rfl (by rw [h3]; rfl) rfl)) ?_
      refine rg_done rfl ?_
      refine a_condF rfl rfl ?_
      refine a_skip ?_
      show A _ _ _ _ _ _ _
      refine a_rseq ?_
      refine rg_put (d := 86) (v := .d (.ag (eCs x))) rfl (og rfl (of_eff (s_load_pts rfl Tryd.underlying28 rfl ti28 rfl rfl rfl rfl) rfl)) ?_
      refine rg_sto (nw := [(103, .bx 28 (eCs x))]) rfl (og rfl (of_eff (s_store rfl rfl ti28 rfl rfl rfl rfl rfl rfl) rfl)) ?_
      refine rg_put (d := 9) (v := .d (.fl (.bool false))) rfl (og rfl (op_assign rfl rfl rfl)) ?_
      refine rg_done rfl ?_
      refine a_ret ?_
      show ∃ ds, ResL _ _ _ ds ∧ RV.of ds = _
      refine ⟨[.ag [.fl (.string x.id), .fl (.string x.plate), .fl (.string x.key), .fl (.int .i64 x.begun), .fl (.int .i64 x.since), .fl (.int .i64 x.stage), .fl (.int .i64 x.owed), .fl (.int .i64 x.paid), .fl (.int .i64 x.paused), .fl (.int .i64 x.ap.state), .fl (.int .i64 x.ap.ground), .fl (.int .i64 x.ap.day)], .fl (.bool false)], (.cons (.cellT rfl rfl Tryd.underlying28 rfl ti28 rfl (Cv.ag (xs := [.fl (.string x.id), .fl (.string x.plate), .fl (.string x.key), .fl (.int .i64 x.begun), .fl (.int .i64 x.since), .fl (.int .i64 x.stage), .fl (.int .i64 x.owed), .fl (.int .i64 x.paid), .fl (.int .i64 x.paused), .fl (.int .i64 x.ap.state), .fl (.int .i64 x.ap.ground), .fl (.int .i64 x.ap.day)]) (ys := [.fl (.string x.id), .fl (.string x.plate), .fl (.string x.key), .fl (.int .i64 x.begun), .fl (.int .i64 x.since), .fl (.int .i64 x.stage), .fl (.int .i64 x.owed), .fl (.int .i64 x.paid), .fl (.int .i64 x.paused), .fl (.int .i64 x.ap.state), .fl (.int .i64 x.ap.ground), .fl (.int .i64 x.ap.day)]) ⟨Cv.refl _, Cv.refl _, Cv.refl _, Cv.refl _, Cv.refl _, Cv.refl _, Cv.refl _, Cv.refl _, Cv.refl _, Cv.refl _, Cv.refl _, Cv.refl _, trivial⟩)) (.cons (.tmp rfl (.d _)) .nil)), ?_⟩
      have hu : sp w cal x day = (x, false) := by
        unfold sp nxE; simp only [h1, h3]; rfl
      rw [hu]; rfl
    · skip
      obtain ⟨d1, d2, d3, d4, d5⟩ := due_ok h3
      have hfee := fee_ok d1 d2 d3
      have hlen := (ckL_ok d1).2.1
      refine rg_put (d := 60) (v := .d (.fl (.int .i64 ((due w cal x).1)))) rfl (oy rfl rfl rfl h3 (op_move rfl rfl rfl)) ?_
      refine rg_put (d := 61) (v := .d (.fl (.int .i64 day))) rfl (oy rfl rfl rfl h3 (op_move rfl rfl rfl)) ?_
      refine rg_put (d := 62) (v := .d (.fl (.bool ((decide ((due w cal x).1 ≤ day)))))) rfl (oy rfl rfl rfl h3 (op_bin rfl rfl rfl (b_leq _ _ _ _) rfl)) ?_
      refine rg_put (d := 63) (v := .d (.fl (.bool ((decide ((due w cal x).1 ≤ day)))))) rfl (og rfl (op_pick rfl rfl (by rw [h3]; rfl) rfl)) ?_
      refine rg_done rfl ?_
      refine a_cond rfl (fun h4 => ?_) (fun h4 => ?_)
      · skip
        have h5 := t_dec h4
        refine a_dseq (by kernel_rfl) ?_
        refine dr_put (d := 64) (v := .pt 102 6) rfl (og rfl (of_eff (s_field_pt rfl Tryd.underlying28 rfl ti3 rfl rfl rfl) rfl)) ?_
        refine dr_put (d := 65) (v := .d (.fl (.int .i64 x.owed))) rfl (og rfl (op_load_pt rfl Tryd.underlying3 rfl rfl rfl rfl rfl)) ?_
        refine dr_put (d := 66) (v := .pt 101 1) rfl (og rfl (of_eff (s_field_pt rfl Tryd.underlying24 rfl ti22 rfl rfl rfl) rfl)) ?_
        refine dr_put (d := 67) (v := .d (.sl 1 (List.map (rI .i64) w.fees))) rfl (og rfl (op_load_pt rfl Tryd.underlying22 rfl rfl rfl rfl rfl)) ?_
        refine dr_put (d := 68) (v := .pt 102 5) rfl (og rfl (of_eff (s_field_pt rfl Tryd.underlying28 rfl ti3 rfl rfl rfl) rfl)) ?_
        refine dr_put (d := 69) (v := .d (.fl (.int .i64 x.stage))) rfl (og rfl (op_load_pt rfl Tryd.underlying3 rfl rfl rfl rfl rfl)) ?_
        refine dr_put (d := 70) (v := .d (.fl (.int .i64 (x.stage - 1)))) rfl (og rfl (op_bin rfl rfl rfl (fun x y w => b_sub64 _ _ _ x y w (by omega)) rfl)) ?_
        refine dr_put (d := 71) (v := .el ((rI .i64 ((ix w.fees ((x.stage - 1)).toNat))))) rfl (og rfl (s_index rfl Tryd.underlying22 ti3 rfl rfl (by omega) (row_atI (by omega) (by omega)) rfl)) ?_
        refine dr_put (d := 72) (v := .d (.fl (.int .i64 ((ix w.fees ((x.stage - 1)).toNat))))) rfl (og rfl (op_load_el rfl Tryd.underlying3 rfl rfl rfl rfl)) ?_
        refine dr_put (d := 73) (v := .d (.fl (.int .i64 ((x.owed + (ix w.fees ((x.stage - 1)).toNat)))))) rfl (og rfl (op_bin rfl rfl rfl (fun x y w => b_add64 _ _ _ x y w (by omega)) rfl)) ?_
        refine dr_put (d := 74) (v := .pt 102 6) rfl (og rfl (of_eff (s_field_pt rfl Tryd.underlying28 rfl ti3 rfl rfl rfl) rfl)) ?_
        refine dr_sto (nw := [(102, .bx 28 [.fl (.string x.id), .fl (.string x.plate), .fl (.string x.key), .fl (.int .i64 x.begun), .fl (.int .i64 x.since), .fl (.int .i64 x.stage), .fl (.int .i64 ((x.owed + (ix w.fees ((x.stage - 1)).toNat)))), .fl (.int .i64 x.paid), .fl (.int .i64 x.paused), .fl (.int .i64 x.ap.state), .fl (.int .i64 x.ap.ground), .fl (.int .i64 x.ap.day)])]) rfl (og rfl (of_eff (s_store rfl rfl ti3 rfl rfl rfl rfl rfl rfl) rfl)) ?_
        refine dr_done rfl (by kernel_rfl) (by kernel_rfl) ?_
        refine a_seq ?_
        refine a_rseq ?_
        refine rg_put (d := 75) (v := .pt 102 6) rfl (og rfl (of_eff (s_field_pt rfl Tryd.underlying28 rfl ti3 rfl rfl rfl) rfl)) ?_
        refine rg_put (d := 76) (v := .d (.fl (.int .i64 ((x.owed + (ix w.fees ((x.stage - 1)).toNat)))))) rfl (og rfl (op_load_pt rfl Tryd.underlying3 rfl rfl rfl rfl rfl)) ?_
        refine rg_put (d := 77) (v := .d (.fl (.bool ((decide (1125899906842624 < (x.owed + (ix w.fees ((x.stage - 1)).toNat)))))))) rfl (og rfl (op_bin rfl rfl rfl (b_gtr _ _ _ _) rfl)) ?_
        refine rg_done rfl ?_
        refine a_cond rfl (fun h6 => ?_) (fun h6 => ?_)
        · skip
          have h7 := t_dec h6
          refine a_region ?_
          refine rg_put (d := 78) (v := .pt 102 6) rfl (og rfl (of_eff (s_field_pt rfl Tryd.underlying28 rfl ti3 rfl rfl rfl) rfl)) ?_
          refine rg_sto (nw := [(102, .bx 28 [.fl (.string x.id), .fl (.string x.plate), .fl (.string x.key), .fl (.int .i64 x.begun), .fl (.int .i64 x.since), .fl (.int .i64 x.stage), .fl (.int .i64 1125899906842624), .fl (.int .i64 x.paid), .fl (.int .i64 x.paused), .fl (.int .i64 x.ap.state), .fl (.int .i64 x.ap.ground), .fl (.int .i64 x.ap.day)])]) rfl (og rfl (of_eff (s_store rfl rfl ti3 rfl rfl rfl rfl rfl rfl) rfl)) ?_
          refine rg_done rfl ?_
          show A _ _ _ _ _ _ _
          refine a_rseq ?_
          refine rg_put (d := 79) (v := .pt 102 5) rfl (og rfl (of_eff (s_field_pt rfl Tryd.underlying28 rfl ti3 rfl rfl rfl) rfl)) ?_
          refine rg_put (d := 80) (v := .d (.fl (.int .i64 x.stage))) rfl (og rfl (op_load_pt rfl Tryd.underlying3 rfl rfl rfl rfl rfl)) ?_
          refine rg_put (d := 81) (v := .d (.fl (.int .i64 (x.stage + 1)))) rfl (og rfl (op_bin rfl rfl rfl (fun x y w => b_add64 _ _ _ x y w (by omega)) rfl)) ?_
          refine rg_put (d := 82) (v := .pt 102 5) rfl (og rfl (of_eff (s_field_pt rfl Tryd.underlying28 rfl ti3 rfl rfl rfl) rfl)) ?_
          refine rg_sto (nw := [(102, .bx 28 [.fl (.string x.id), .fl (.string x.plate), .fl (.string x.key), .fl (.int .i64 x.begun), .fl (.int .i64 x.since), .fl (.int .i64 (x.stage + 1)), .fl (.int .i64 1125899906842624), .fl (.int .i64 x.paid), .fl (.int .i64 x.paused), .fl (.int .i64 x.ap.state), .fl (.int .i64 x.ap.ground), .fl (.int .i64 x.ap.day)])]) rfl (og rfl (of_eff (s_store rfl rfl ti3 rfl rfl rfl rfl rfl rfl) rfl)) ?_
          refine rg_done rfl ?_
          refine a_rseq ?_
          refine rg_put (d := 83) (v := .d (.fl (.int .i64 ((due w cal x).1)))) rfl (og rfl (op_move rfl rfl rfl)) ?_
          refine rg_put (d := 84) (v := .pt 102 4) rfl (og rfl (of_eff (s_field_pt rfl Tryd.underlying28 rfl ti3 rfl rfl rfl) rfl)) ?_
          refine rg_sto (nw := [(102, .bx 28 [.fl (.string x.id), .fl (.string x.plate), .fl (.string x.key), .fl (.int .i64 x.begun), .fl (.int .i64 ((due w cal x).1)), .fl (.int .i64 (x.stage + 1)), .fl (.int .i64 1125899906842624), .fl (.int .i64 x.paid), .fl (.int .i64 x.paused), .fl (.int .i64 x.ap.state), .fl (.int .i64 x.ap.ground), .fl (.int .i64 x.ap.day)])]) rfl (og rfl (of_eff (s_store rfl rfl ti3 rfl rfl rfl rfl rfl rfl) rfl)) ?_
          refine rg_done rfl ?_
          refine a_rseq ?_
          refine rg_put (d := 85) (v := .d (.ag (eCs ((Cs.mk x.id x.plate x.key x.begun ((due w cal x).1) (x.stage + 1) 1125899906842624 x.paid x.paused x.ap))))) rfl (og rfl (of_eff (s_load_pts rfl Tryd.underlying28 rfl ti28 rfl rfl rfl rfl) rfl)) ?_
          refine rg_sto (nw := [(103, .bx 28 ((eCs ((Cs.mk x.id x.plate x.key x.begun ((due w cal x).1) (x.stage + 1) 1125899906842624 x.paid x.paused x.ap)))))]) rfl (og rfl (of_eff (s_store rfl rfl ti28 rfl rfl rfl rfl rfl rfl) rfl)) ?_
          refine rg_put (d := 9) (v := .d (.fl (.bool true))) rfl (og rfl (op_assign rfl rfl rfl)) ?_
          refine rg_done rfl ?_
          refine a_ret ?_
          show ∃ ds, ResL _ _ _ ds ∧ RV.of ds = _
          refine ⟨[.ag [.fl (.string (x.id)), .fl (.string (x.plate)), .fl (.string (x.key)), .fl (.int .i64 (x.begun)), .fl (.int .i64 ((due w cal x).1)), .fl (.int .i64 (x.stage + 1)), .fl (.int .i64 (1125899906842624)), .fl (.int .i64 (x.paid)), .fl (.int .i64 (x.paused)), .fl (.int .i64 ((x.ap).state)), .fl (.int .i64 ((x.ap).ground)), .fl (.int .i64 ((x.ap).day))], .fl (.bool true)], (.cons (.cellT rfl rfl Tryd.underlying28 rfl ti28 rfl (Cv.ag (xs := [.fl (.string (x.id)), .fl (.string (x.plate)), .fl (.string (x.key)), .fl (.int .i64 (x.begun)), .fl (.int .i64 ((due w cal x).1)), .fl (.int .i64 (x.stage + 1)), .fl (.int .i64 (1125899906842624)), .fl (.int .i64 (x.paid)), .fl (.int .i64 (x.paused)), .fl (.int .i64 ((x.ap).state)), .fl (.int .i64 ((x.ap).ground)), .fl (.int .i64 ((x.ap).day))]) (ys := [.fl (.string (x.id)), .fl (.string (x.plate)), .fl (.string (x.key)), .fl (.int .i64 (x.begun)), .fl (.int .i64 ((due w cal x).1)), .fl (.int .i64 (x.stage + 1)), .fl (.int .i64 (1125899906842624)), .fl (.int .i64 (x.paid)), .fl (.int .i64 (x.paused)), .fl (.int .i64 ((x.ap).state)), .fl (.int .i64 ((x.ap).ground)), .fl (.int .i64 ((x.ap).day))]) ⟨Cv.refl _, Cv.refl _, Cv.refl _, Cv.refl _, Cv.refl _, Cv.refl _, Cv.refl _, Cv.refl _, Cv.refl _, Cv.refl _, Cv.refl _, Cv.refl _, trivial⟩)) (.cons (.tmp rfl (.d _)) .nil)), ?_⟩
          have hm : min (x.owed + ix w.fees (x.stage - 1).toNat) 1125899906842624 = 1125899906842624 := by omega
          have hv : fwd w cal x = { x with owed := 1125899906842624, stage := x.stage + 1, since := (due w cal x).1 } := by unfold fwd; rw [hm]
          have hu : sp w cal x day = (fwd w cal x, true) := by
            unfold sp nxE; simp only [h1, h3, h4, h6]; rfl
          rw [hu, hv]; rfl
        · skip
          have h8 := f_dec h6
          refine a_skip ?_
          show A _ _ _ _ _ _ _
          refine a_rseq ?_
          refine rg_put (d := 79) (v := .pt 102 5) rfl (og rfl (of_eff (s_field_pt rfl Tryd.underlying28 rfl ti3 rfl rfl rfl) rfl)) ?_
          refine rg_put (d := 80) (v := .d (.fl (.int .i64 x.stage))) rfl (og rfl (op_load_pt rfl Tryd.underlying3 rfl rfl rfl rfl rfl)) ?_
          refine rg_put (d := 81) (v := .d (.fl (.int .i64 (x.stage + 1)))) rfl (og rfl (op_bin rfl rfl rfl (fun x y w => b_add64 _ _ _ x y w (by omega)) rfl)) ?_
          refine rg_put (d := 82) (v := .pt 102 5) rfl (og rfl (of_eff (s_field_pt rfl Tryd.underlying28 rfl ti3 rfl rfl rfl) rfl)) ?_
          refine rg_sto (nw := [(102, .bx 28 [.fl (.string x.id), .fl (.string x.plate), .fl (.string x.key), .fl (.int .i64 x.begun), .fl (.int .i64 x.since), .fl (.int .i64 (x.stage + 1)), .fl (.int .i64 ((x.owed + (ix w.fees ((x.stage - 1)).toNat)))), .fl (.int .i64 x.paid), .fl (.int .i64 x.paused), .fl (.int .i64 x.ap.state), .fl (.int .i64 x.ap.ground), .fl (.int .i64 x.ap.day)])]) rfl (og rfl (of_eff (s_store rfl rfl ti3 rfl rfl rfl rfl rfl rfl) rfl)) ?_
          refine rg_done rfl ?_
          refine a_rseq ?_
          refine rg_put (d := 83) (v := .d (.fl (.int .i64 ((due w cal x).1)))) rfl (og rfl (op_move rfl rfl rfl)) ?_
          refine rg_put (d := 84) (v := .pt 102 4) rfl (og rfl (of_eff (s_field_pt rfl Tryd.underlying28 rfl ti3 rfl rfl rfl) rfl)) ?_
          refine rg_sto (nw := [(102, .bx 28 [.fl (.string x.id), .fl (.string x.plate), .fl (.string x.key), .fl (.int .i64 x.begun), .fl (.int .i64 ((due w cal x).1)), .fl (.int .i64 (x.stage + 1)), .fl (.int .i64 ((x.owed + (ix w.fees ((x.stage - 1)).toNat)))), .fl (.int .i64 x.paid), .fl (.int .i64 x.paused), .fl (.int .i64 x.ap.state), .fl (.int .i64 x.ap.ground), .fl (.int .i64 x.ap.day)])]) rfl (og rfl (of_eff (s_store rfl rfl ti3 rfl rfl rfl rfl rfl rfl) rfl)) ?_
          refine rg_done rfl ?_
          refine a_rseq ?_
          refine rg_put (d := 85) (v := .d (.ag (eCs ((Cs.mk x.id x.plate x.key x.begun ((due w cal x).1) (x.stage + 1) ((x.owed + (ix w.fees ((x.stage - 1)).toNat))) x.paid x.paused x.ap))))) rfl (og rfl (of_eff (s_load_pts rfl Tryd.underlying28 rfl ti28 rfl rfl rfl rfl) rfl)) ?_
          refine rg_sto (nw := [(103, .bx 28 ((eCs ((Cs.mk x.id x.plate x.key x.begun ((due w cal x).1) (x.stage + 1) ((x.owed + (ix w.fees ((x.stage - 1)).toNat))) x.paid x.paused x.ap)))))]) rfl (og rfl (of_eff (s_store rfl rfl ti28 rfl rfl rfl rfl rfl rfl) rfl)) ?_
          refine rg_put (d := 9) (v := .d (.fl (.bool true))) rfl (og rfl (op_assign rfl rfl rfl)) ?_
          refine rg_done rfl ?_
          refine a_ret ?_
          show ∃ ds, ResL _ _ _ ds ∧ RV.of ds = _
          refine ⟨[.ag [.fl (.string (x.id)), .fl (.string (x.plate)), .fl (.string (x.key)), .fl (.int .i64 (x.begun)), .fl (.int .i64 ((due w cal x).1)), .fl (.int .i64 (x.stage + 1)), .fl (.int .i64 (x.owed + (ix w.fees (x.stage - 1).toNat))), .fl (.int .i64 (x.paid)), .fl (.int .i64 (x.paused)), .fl (.int .i64 ((x.ap).state)), .fl (.int .i64 ((x.ap).ground)), .fl (.int .i64 ((x.ap).day))], .fl (.bool true)], (.cons (.cellT rfl rfl Tryd.underlying28 rfl ti28 rfl (Cv.ag (xs := [.fl (.string (x.id)), .fl (.string (x.plate)), .fl (.string (x.key)), .fl (.int .i64 (x.begun)), .fl (.int .i64 ((due w cal x).1)), .fl (.int .i64 (x.stage + 1)), .fl (.int .i64 (x.owed + (ix w.fees (x.stage - 1).toNat))), .fl (.int .i64 (x.paid)), .fl (.int .i64 (x.paused)), .fl (.int .i64 ((x.ap).state)), .fl (.int .i64 ((x.ap).ground)), .fl (.int .i64 ((x.ap).day))]) (ys := [.fl (.string (x.id)), .fl (.string (x.plate)), .fl (.string (x.key)), .fl (.int .i64 (x.begun)), .fl (.int .i64 ((due w cal x).1)), .fl (.int .i64 (x.stage + 1)), .fl (.int .i64 (x.owed + (ix w.fees (x.stage - 1).toNat))), .fl (.int .i64 (x.paid)), .fl (.int .i64 (x.paused)), .fl (.int .i64 ((x.ap).state)), .fl (.int .i64 ((x.ap).ground)), .fl (.int .i64 ((x.ap).day))]) ⟨Cv.refl _, Cv.refl _, Cv.refl _, Cv.refl _, Cv.refl _, Cv.refl _, Cv.refl _, Cv.refl _, Cv.refl _, Cv.refl _, Cv.refl _, Cv.refl _, trivial⟩)) (.cons (.tmp rfl (.d _)) .nil)), ?_⟩
          have hm : min (x.owed + ix w.fees (x.stage - 1).toNat) 1125899906842624 = (x.owed + (ix w.fees ((x.stage - 1)).toNat)) := by omega
          have hv : fwd w cal x = { x with owed := (x.owed + (ix w.fees ((x.stage - 1)).toNat)), stage := x.stage + 1, since := (due w cal x).1 } := by unfold fwd; rw [hm]
          have hu : sp w cal x day = (fwd w cal x, true) := by
            unfold sp nxE; simp only [h1, h3, h4, h6]; rfl
          rw [hu, hv]; rfl
      · skip
        have h9 := f_dec h4
        refine a_skip ?_
        show A _ _ _ _ _ _ _
        refine a_rseq ?_
        refine rg_put (d := 86) (v := .d (.ag (eCs x))) rfl (og rfl (of_eff (s_load_pts rfl Tryd.underlying28 rfl ti28 rfl rfl rfl rfl) rfl)) ?_
        refine rg_sto (nw := [(103, .bx 28 (eCs x))]) rfl (og rfl (of_eff (s_store rfl rfl ti28 rfl rfl rfl rfl rfl rfl) rfl)) ?_
        refine rg_put (d := 9) (v := .d (.fl (.bool false))) rfl (og rfl (op_assign rfl rfl rfl)) ?_
        refine rg_done rfl ?_
        refine a_ret ?_
        show ∃ ds, ResL _ _ _ ds ∧ RV.of ds = _
        refine ⟨[.ag [.fl (.string x.id), .fl (.string x.plate), .fl (.string x.key), .fl (.int .i64 x.begun), .fl (.int .i64 x.since), .fl (.int .i64 x.stage), .fl (.int .i64 x.owed), .fl (.int .i64 x.paid), .fl (.int .i64 x.paused), .fl (.int .i64 x.ap.state), .fl (.int .i64 x.ap.ground), .fl (.int .i64 x.ap.day)], .fl (.bool false)], (.cons (.cellT rfl rfl Tryd.underlying28 rfl ti28 rfl (Cv.ag (xs := [.fl (.string x.id), .fl (.string x.plate), .fl (.string x.key), .fl (.int .i64 x.begun), .fl (.int .i64 x.since), .fl (.int .i64 x.stage), .fl (.int .i64 x.owed), .fl (.int .i64 x.paid), .fl (.int .i64 x.paused), .fl (.int .i64 x.ap.state), .fl (.int .i64 x.ap.ground), .fl (.int .i64 x.ap.day)]) (ys := [.fl (.string x.id), .fl (.string x.plate), .fl (.string x.key), .fl (.int .i64 x.begun), .fl (.int .i64 x.since), .fl (.int .i64 x.stage), .fl (.int .i64 x.owed), .fl (.int .i64 x.paid), .fl (.int .i64 x.paused), .fl (.int .i64 x.ap.state), .fl (.int .i64 x.ap.ground), .fl (.int .i64 x.ap.day)]) ⟨Cv.refl _, Cv.refl _, Cv.refl _, Cv.refl _, Cv.refl _, Cv.refl _, Cv.refl _, Cv.refl _, Cv.refl _, Cv.refl _, Cv.refl _, Cv.refl _, trivial⟩)) (.cons (.tmp rfl (.d _)) .nil)), ?_⟩
        have hu : sp w cal x day = (x, false) := by
          unfold sp nxE; simp only [h1, h3, h4]; rfl
        rw [hu]; rfl
  · skip
    have h10 := t_dec h1
    refine rg_put (d := 32) (v := .pt 102 5) rfl (oy rfl rfl rfl h1 (of_eff (s_field_pt rfl Tryd.underlying28 rfl ti3 rfl rfl rfl) rfl)) ?_
    refine rg_put (d := 33) (v := .d (.fl (.int .i64 x.stage))) rfl (oy rfl rfl rfl h1 (op_load_pt rfl Tryd.underlying3 rfl rfl rfl rfl rfl)) ?_
    refine rg_put (d := 34) (v := .d (.fl (.bool ((decide (x.stage ≤ 4)))))) rfl (oy rfl rfl rfl h1 (op_bin rfl rfl rfl (b_leq _ _ _ _) rfl)) ?_
    refine rg_put (d := 35) (v := .d (.fl (.bool ((decide (x.stage ≤ 4)))))) rfl (og rfl (op_pick rfl rfl (by rw [h1]; rfl) rfl)) ?_
    refine rg_put (d := 36) (v := .d (.fl (.bool ((decide (x.stage ≤ 4)))))) rfl (og rfl (op_move rfl rfl rfl)) ?_
    rcases fot ((decide (x.stage ≤ 4))) with h11 | h11
    · skip
      have h12 := f_dec h11
      refine rg_put (d := 37) (v := .d (.fl undef)) rfl (on rfl rfl rfl h11) ?_
      refine rg_put (d := 38) (v := .d (.fl undef)) rfl (on rfl rfl rfl h11) ?_
      refine rg_put (d := 39) (v := .d (.fl undef)) rfl (on rfl rfl rfl h11) ?_
      refine rg_put (d := 40) (v := .d (.fl (.bool false))) rfl (og rfl (op_pick rfl rfl (by rw [h11]; rfl) rfl)) ?_
      refine rg_put (d := 41) (v := .d (.fl (.bool false))) rfl (og rfl (op_move rfl rfl rfl)) ?_
      refine rg_put (d := 42) (v := .d (.fl undef)) rfl (on rfl rfl rfl rfl) ?_
      refine rg_put (d := 43) (v := .d (.fl undef)) rfl (on rfl rfl rfl rfl) ?_
      refine rg_put (d := 44) (v := .d (.fl undef)) rfl (on rfl rfl rfl rfl) ?_
      refine rg_put (d := 45) (v := .d (.fl undef)) rfl (ou rfl rfl rfl) ?_
      refine rg_put (d := 46) (v := .d (.fl undef)) rfl (ou rfl rfl rfl) ?_
      refine rg_put (d := 47) (v := .d (.fl undef)) rfl (ou rfl rfl rfl) ?_
      refine rg_put (d := 48) (v := .d (.fl undef)) rfl (on rfl rfl rfl rfl) ?_
      refine rg_put (d := 49) (v := .d (.fl (.bool false))) rfl (og rfl (op_pick rfl rfl rfl rfl)) ?_
      refine rg_done rfl ?_
      refine a_condF rfl rfl ?_
      refine a_skip ?_
      show A _ _ _ _ _ _ _
      refine a_seq ?_
      refine a_rseq ?_
      refine rg_put (d := 58) (v := .d (.fl (.bool ((due w cal x).2)))) rfl (og rfl (op_move rfl rfl rfl)) ?_
      refine rg_put (d := 59) (v := .d (.fl (.bool ((due w cal x).2)))) rfl (og rfl (op_move rfl rfl rfl)) ?_
      rcases fot ((due w cal x).2) with h13 | h13
      · skip
        refine rg_put (d := 60) (v := .d (.fl undef)) rfl (on rfl rfl rfl h13) ?_
        refine rg_put (d := 61) (v := .d (.fl undef)) rfl (on rfl rfl rfl h13) ?_
        refine rg_put (d := 62) (v := .d (.fl undef)) rfl (on rfl rfl rfl h13) ?_
        refine rg_put (d := 63) (v := .d (.fl (.bool false))) rfl (og rfl (op_pick rfl rfl (by rw [h13]; rfl) rfl)) ?_
        refine rg_done rfl ?_
        refine a_condF rfl rfl ?_
        refine a_skip ?_
        show A _ _ _ _ _ _ _
        refine a_rseq ?_
        refine rg_put (d := 86) (v := .d (.ag (eCs x))) rfl (og rfl (of_eff (s_load_pts rfl Tryd.underlying28 rfl ti28 rfl rfl rfl rfl) rfl)) ?_
        refine rg_sto (nw := [(103, .bx 28 (eCs x))]) rfl (og rfl (of_eff (s_store rfl rfl ti28 rfl rfl rfl rfl rfl rfl) rfl)) ?_
        refine rg_put (d := 9) (v := .d (.fl (.bool false))) rfl (og rfl (op_assign rfl rfl rfl)) ?_
        refine rg_done rfl ?_
        refine a_ret ?_
        show ∃ ds, ResL _ _ _ ds ∧ RV.of ds = _
        refine ⟨[.ag [.fl (.string x.id), .fl (.string x.plate), .fl (.string x.key), .fl (.int .i64 x.begun), .fl (.int .i64 x.since), .fl (.int .i64 x.stage), .fl (.int .i64 x.owed), .fl (.int .i64 x.paid), .fl (.int .i64 x.paused), .fl (.int .i64 x.ap.state), .fl (.int .i64 x.ap.ground), .fl (.int .i64 x.ap.day)], .fl (.bool false)], (.cons (.cellT rfl rfl Tryd.underlying28 rfl ti28 rfl (Cv.ag (xs := [.fl (.string x.id), .fl (.string x.plate), .fl (.string x.key), .fl (.int .i64 x.begun), .fl (.int .i64 x.since), .fl (.int .i64 x.stage), .fl (.int .i64 x.owed), .fl (.int .i64 x.paid), .fl (.int .i64 x.paused), .fl (.int .i64 x.ap.state), .fl (.int .i64 x.ap.ground), .fl (.int .i64 x.ap.day)]) (ys := [.fl (.string x.id), .fl (.string x.plate), .fl (.string x.key), .fl (.int .i64 x.begun), .fl (.int .i64 x.since), .fl (.int .i64 x.stage), .fl (.int .i64 x.owed), .fl (.int .i64 x.paid), .fl (.int .i64 x.paused), .fl (.int .i64 x.ap.state), .fl (.int .i64 x.ap.ground), .fl (.int .i64 x.ap.day)]) ⟨Cv.refl _, Cv.refl _, Cv.refl _, Cv.refl _, Cv.refl _, Cv.refl _, Cv.refl _, Cv.refl _, Cv.refl _, Cv.refl _, Cv.refl _, Cv.refl _, trivial⟩)) (.cons (.tmp rfl (.d _)) .nil)), ?_⟩
        have hu : sp w cal x day = (x, false) := by
          unfold sp nxE; simp only [h1, h11, h13]; rfl
        rw [hu]; rfl
      · skip
        obtain ⟨d1, d2, d3, d4, d5⟩ := due_ok h13
        have hfee := fee_ok d1 d2 d3
        have hlen := (ckL_ok d1).2.1
        refine rg_put (d := 60) (v := .d (.fl (.int .i64 ((due w cal x).1)))) rfl (oy rfl rfl rfl h13 (op_move rfl rfl rfl)) ?_
        refine rg_put (d := 61) (v := .d (.fl (.int .i64 day))) rfl (oy rfl rfl rfl h13 (op_move rfl rfl rfl)) ?_
        refine rg_put (d := 62) (v := .d (.fl (.bool ((decide ((due w cal x).1 ≤ day)))))) rfl (oy rfl rfl rfl h13 (op_bin rfl rfl rfl (b_leq _ _ _ _) rfl)) ?_
        refine rg_put (d := 63) (v := .d (.fl (.bool ((decide ((due w cal x).1 ≤ day)))))) rfl (og rfl (op_pick rfl rfl (by rw [h13]; rfl) rfl)) ?_
        refine rg_done rfl ?_
        refine a_cond rfl (fun h14 => ?_) (fun h14 => ?_)
        · skip
          have h15 := t_dec h14
          refine a_dseq (by kernel_rfl) ?_
          refine dr_put (d := 64) (v := .pt 102 6) rfl (og rfl (of_eff (s_field_pt rfl Tryd.underlying28 rfl ti3 rfl rfl rfl) rfl)) ?_
          refine dr_put (d := 65) (v := .d (.fl (.int .i64 x.owed))) rfl (og rfl (op_load_pt rfl Tryd.underlying3 rfl rfl rfl rfl rfl)) ?_
          refine dr_put (d := 66) (v := .pt 101 1) rfl (og rfl (of_eff (s_field_pt rfl Tryd.underlying24 rfl ti22 rfl rfl rfl) rfl)) ?_
          refine dr_put (d := 67) (v := .d (.sl 1 (List.map (rI .i64) w.fees))) rfl (og rfl (op_load_pt rfl Tryd.underlying22 rfl rfl rfl rfl rfl)) ?_
          refine dr_put (d := 68) (v := .pt 102 5) rfl (og rfl (of_eff (s_field_pt rfl Tryd.underlying28 rfl ti3 rfl rfl rfl) rfl)) ?_
          refine dr_put (d := 69) (v := .d (.fl (.int .i64 x.stage))) rfl (og rfl (op_load_pt rfl Tryd.underlying3 rfl rfl rfl rfl rfl)) ?_
          refine dr_put (d := 70) (v := .d (.fl (.int .i64 (x.stage - 1)))) rfl (og rfl (op_bin rfl rfl rfl (fun x y w => b_sub64 _ _ _ x y w (by omega)) rfl)) ?_
          refine dr_put (d := 71) (v := .el ((rI .i64 ((ix w.fees ((x.stage - 1)).toNat))))) rfl (og rfl (s_index rfl Tryd.underlying22 ti3 rfl rfl (by omega) (row_atI (by omega) (by omega)) rfl)) ?_
          refine dr_put (d := 72) (v := .d (.fl (.int .i64 ((ix w.fees ((x.stage - 1)).toNat))))) rfl (og rfl (op_load_el rfl Tryd.underlying3 rfl rfl rfl rfl)) ?_
          refine dr_put (d := 73) (v := .d (.fl (.int .i64 ((x.owed + (ix w.fees ((x.stage - 1)).toNat)))))) rfl (og rfl (op_bin rfl rfl rfl (fun x y w => b_add64 _ _ _ x y w (by omega)) rfl)) ?_
          refine dr_put (d := 74) (v := .pt 102 6) rfl (og rfl (of_eff (s_field_pt rfl Tryd.underlying28 rfl ti3 rfl rfl rfl) rfl)) ?_
          refine dr_sto (nw := [(102, .bx 28 [.fl (.string x.id), .fl (.string x.plate), .fl (.string x.key), .fl (.int .i64 x.begun), .fl (.int .i64 x.since), .fl (.int .i64 x.stage), .fl (.int .i64 ((x.owed + (ix w.fees ((x.stage - 1)).toNat)))), .fl (.int .i64 x.paid), .fl (.int .i64 x.paused), .fl (.int .i64 x.ap.state), .fl (.int .i64 x.ap.ground), .fl (.int .i64 x.ap.day)])]) rfl (og rfl (of_eff (s_store rfl rfl ti3 rfl rfl rfl rfl rfl rfl) rfl)) ?_
          refine dr_done rfl (by kernel_rfl) (by kernel_rfl) ?_
          refine a_seq ?_
          refine a_rseq ?_
          refine rg_put (d := 75) (v := .pt 102 6) rfl (og rfl (of_eff (s_field_pt rfl Tryd.underlying28 rfl ti3 rfl rfl rfl) rfl)) ?_
          refine rg_put (d := 76) (v := .d (.fl (.int .i64 ((x.owed + (ix w.fees ((x.stage - 1)).toNat)))))) rfl (og rfl (op_load_pt rfl Tryd.underlying3 rfl rfl rfl rfl rfl)) ?_
          refine rg_put (d := 77) (v := .d (.fl (.bool ((decide (1125899906842624 < (x.owed + (ix w.fees ((x.stage - 1)).toNat)))))))) rfl (og rfl (op_bin rfl rfl rfl (b_gtr _ _ _ _) rfl)) ?_
          refine rg_done rfl ?_
          refine a_cond rfl (fun h16 => ?_) (fun h16 => ?_)
          · skip
            have h17 := t_dec h16
            refine a_region ?_
            refine rg_put (d := 78) (v := .pt 102 6) rfl (og rfl (of_eff (s_field_pt rfl Tryd.underlying28 rfl ti3 rfl rfl rfl) rfl)) ?_
            refine rg_sto (nw := [(102, .bx 28 [.fl (.string x.id), .fl (.string x.plate), .fl (.string x.key), .fl (.int .i64 x.begun), .fl (.int .i64 x.since), .fl (.int .i64 x.stage), .fl (.int .i64 1125899906842624), .fl (.int .i64 x.paid), .fl (.int .i64 x.paused), .fl (.int .i64 x.ap.state), .fl (.int .i64 x.ap.ground), .fl (.int .i64 x.ap.day)])]) rfl (og rfl (of_eff (s_store rfl rfl ti3 rfl rfl rfl rfl rfl rfl) rfl)) ?_
            refine rg_done rfl ?_
            show A _ _ _ _ _ _ _
            refine a_rseq ?_
            refine rg_put (d := 79) (v := .pt 102 5) rfl (og rfl (of_eff (s_field_pt rfl Tryd.underlying28 rfl ti3 rfl rfl rfl) rfl)) ?_
            refine rg_put (d := 80) (v := .d (.fl (.int .i64 x.stage))) rfl (og rfl (op_load_pt rfl Tryd.underlying3 rfl rfl rfl rfl rfl)) ?_
            refine rg_put (d := 81) (v := .d (.fl (.int .i64 (x.stage + 1)))) rfl (og rfl (op_bin rfl rfl rfl (fun x y w => b_add64 _ _ _ x y w (by omega)) rfl)) ?_
            refine rg_put (d := 82) (v := .pt 102 5) rfl (og rfl (of_eff (s_field_pt rfl Tryd.underlying28 rfl ti3 rfl rfl rfl) rfl)) ?_
            refine rg_sto (nw := [(102, .bx 28 [.fl (.string x.id), .fl (.string x.plate), .fl (.string x.key), .fl (.int .i64 x.begun), .fl (.int .i64 x.since), .fl (.int .i64 (x.stage + 1)), .fl (.int .i64 1125899906842624), .fl (.int .i64 x.paid), .fl (.int .i64 x.paused), .fl (.int .i64 x.ap.state), .fl (.int .i64 x.ap.ground), .fl (.int .i64 x.ap.day)])]) rfl (og rfl (of_eff (s_store rfl rfl ti3 rfl rfl rfl rfl rfl rfl) rfl)) ?_
            refine rg_done rfl ?_
            refine a_rseq ?_
            refine rg_put (d := 83) (v := .d (.fl (.int .i64 ((due w cal x).1)))) rfl (og rfl (op_move rfl rfl rfl)) ?_
            refine rg_put (d := 84) (v := .pt 102 4) rfl (og rfl (of_eff (s_field_pt rfl Tryd.underlying28 rfl ti3 rfl rfl rfl) rfl)) ?_
            refine rg_sto (nw := [(102, .bx 28 [.fl (.string x.id), .fl (.string x.plate), .fl (.string x.key), .fl (.int .i64 x.begun), .fl (.int .i64 ((due w cal x).1)), .fl (.int .i64 (x.stage + 1)), .fl (.int .i64 1125899906842624), .fl (.int .i64 x.paid), .fl (.int .i64 x.paused), .fl (.int .i64 x.ap.state), .fl (.int .i64 x.ap.ground), .fl (.int .i64 x.ap.day)])]) rfl (og rfl (of_eff (s_store rfl rfl ti3 rfl rfl rfl rfl rfl rfl) rfl)) ?_
            refine rg_done rfl ?_
            refine a_rseq ?_
            refine rg_put (d := 85) (v := .d (.ag (eCs ((Cs.mk x.id x.plate x.key x.begun ((due w cal x).1) (x.stage + 1) 1125899906842624 x.paid x.paused x.ap))))) rfl (og rfl (of_eff (s_load_pts rfl Tryd.underlying28 rfl ti28 rfl rfl rfl rfl) rfl)) ?_
            refine rg_sto (nw := [(103, .bx 28 ((eCs ((Cs.mk x.id x.plate x.key x.begun ((due w cal x).1) (x.stage + 1) 1125899906842624 x.paid x.paused x.ap)))))]) rfl (og rfl (of_eff (s_store rfl rfl ti28 rfl rfl rfl rfl rfl rfl) rfl)) ?_
            refine rg_put (d := 9) (v := .d (.fl (.bool true))) rfl (og rfl (op_assign rfl rfl rfl)) ?_
            refine rg_done rfl ?_
            refine a_ret ?_
            show ∃ ds, ResL _ _ _ ds ∧ RV.of ds = _
            refine ⟨[.ag [.fl (.string (x.id)), .fl (.string (x.plate)), .fl (.string (x.key)), .fl (.int .i64 (x.begun)), .fl (.int .i64 ((due w cal x).1)), .fl (.int .i64 (x.stage + 1)), .fl (.int .i64 (1125899906842624)), .fl (.int .i64 (x.paid)), .fl (.int .i64 (x.paused)), .fl (.int .i64 ((x.ap).state)), .fl (.int .i64 ((x.ap).ground)), .fl (.int .i64 ((x.ap).day))], .fl (.bool true)], (.cons (.cellT rfl rfl Tryd.underlying28 rfl ti28 rfl (Cv.ag (xs := [.fl (.string (x.id)), .fl (.string (x.plate)), .fl (.string (x.key)), .fl (.int .i64 (x.begun)), .fl (.int .i64 ((due w cal x).1)), .fl (.int .i64 (x.stage + 1)), .fl (.int .i64 (1125899906842624)), .fl (.int .i64 (x.paid)), .fl (.int .i64 (x.paused)), .fl (.int .i64 ((x.ap).state)), .fl (.int .i64 ((x.ap).ground)), .fl (.int .i64 ((x.ap).day))]) (ys := [.fl (.string (x.id)), .fl (.string (x.plate)), .fl (.string (x.key)), .fl (.int .i64 (x.begun)), .fl (.int .i64 ((due w cal x).1)), .fl (.int .i64 (x.stage + 1)), .fl (.int .i64 (1125899906842624)), .fl (.int .i64 (x.paid)), .fl (.int .i64 (x.paused)), .fl (.int .i64 ((x.ap).state)), .fl (.int .i64 ((x.ap).ground)), .fl (.int .i64 ((x.ap).day))]) ⟨Cv.refl _, Cv.refl _, Cv.refl _, Cv.refl _, Cv.refl _, Cv.refl _, Cv.refl _, Cv.refl _, Cv.refl _, Cv.refl _, Cv.refl _, Cv.refl _, trivial⟩)) (.cons (.tmp rfl (.d _)) .nil)), ?_⟩
            have hm : min (x.owed + ix w.fees (x.stage - 1).toNat) 1125899906842624 = 1125899906842624 := by omega
            have hv : fwd w cal x = { x with owed := 1125899906842624, stage := x.stage + 1, since := (due w cal x).1 } := by unfold fwd; rw [hm]
            have hu : sp w cal x day = (fwd w cal x, true) := by
              unfold sp nxE; simp only [h1, h11, h13, h14, h16]; rfl
            rw [hu, hv]; rfl
          · skip
            have h18 := f_dec h16
            refine a_skip ?_
            show A _ _ _ _ _ _ _
            refine a_rseq ?_
            refine rg_put (d := 79) (v := .pt 102 5) rfl (og rfl (of_eff (s_field_pt rfl Tryd.underlying28 rfl ti3 rfl rfl rfl) rfl)) ?_
            refine rg_put (d := 80) (v := .d (.fl (.int .i64 x.stage))) rfl (og rfl (op_load_pt rfl Tryd.underlying3 rfl rfl rfl rfl rfl)) ?_
            refine rg_put (d := 81) (v := .d (.fl (.int .i64 (x.stage + 1)))) rfl (og rfl (op_bin rfl rfl rfl (fun x y w => b_add64 _ _ _ x y w (by omega)) rfl)) ?_
            refine rg_put (d := 82) (v := .pt 102 5) rfl (og rfl (of_eff (s_field_pt rfl Tryd.underlying28 rfl ti3 rfl rfl rfl) rfl)) ?_
            refine rg_sto (nw := [(102, .bx 28 [.fl (.string x.id), .fl (.string x.plate), .fl (.string x.key), .fl (.int .i64 x.begun), .fl (.int .i64 x.since), .fl (.int .i64 (x.stage + 1)), .fl (.int .i64 ((x.owed + (ix w.fees ((x.stage - 1)).toNat)))), .fl (.int .i64 x.paid), .fl (.int .i64 x.paused), .fl (.int .i64 x.ap.state), .fl (.int .i64 x.ap.ground), .fl (.int .i64 x.ap.day)])]) rfl (og rfl (of_eff (s_store rfl rfl ti3 rfl rfl rfl rfl rfl rfl) rfl)) ?_
            refine rg_done rfl ?_
            refine a_rseq ?_
            refine rg_put (d := 83) (v := .d (.fl (.int .i64 ((due w cal x).1)))) rfl (og rfl (op_move rfl rfl rfl)) ?_
            refine rg_put (d := 84) (v := .pt 102 4) rfl (og rfl (of_eff (s_field_pt rfl Tryd.underlying28 rfl ti3 rfl rfl rfl) rfl)) ?_
            refine rg_sto (nw := [(102, .bx 28 [.fl (.string x.id), .fl (.string x.plate), .fl (.string x.key), .fl (.int .i64 x.begun), .fl (.int .i64 ((due w cal x).1)), .fl (.int .i64 (x.stage + 1)), .fl (.int .i64 ((x.owed + (ix w.fees ((x.stage - 1)).toNat)))), .fl (.int .i64 x.paid), .fl (.int .i64 x.paused), .fl (.int .i64 x.ap.state), .fl (.int .i64 x.ap.ground), .fl (.int .i64 x.ap.day)])]) rfl (og rfl (of_eff (s_store rfl rfl ti3 rfl rfl rfl rfl rfl rfl) rfl)) ?_
            refine rg_done rfl ?_
            refine a_rseq ?_
            refine rg_put (d := 85) (v := .d (.ag (eCs ((Cs.mk x.id x.plate x.key x.begun ((due w cal x).1) (x.stage + 1) ((x.owed + (ix w.fees ((x.stage - 1)).toNat))) x.paid x.paused x.ap))))) rfl (og rfl (of_eff (s_load_pts rfl Tryd.underlying28 rfl ti28 rfl rfl rfl rfl) rfl)) ?_
            refine rg_sto (nw := [(103, .bx 28 ((eCs ((Cs.mk x.id x.plate x.key x.begun ((due w cal x).1) (x.stage + 1) ((x.owed + (ix w.fees ((x.stage - 1)).toNat))) x.paid x.paused x.ap)))))]) rfl (og rfl (of_eff (s_store rfl rfl ti28 rfl rfl rfl rfl rfl rfl) rfl)) ?_
            refine rg_put (d := 9) (v := .d (.fl (.bool true))) rfl (og rfl (op_assign rfl rfl rfl)) ?_
            refine rg_done rfl ?_
            refine a_ret ?_
            show ∃ ds, ResL _ _ _ ds ∧ RV.of ds = _
            refine ⟨[.ag [.fl (.string (x.id)), .fl (.string (x.plate)), .fl (.string (x.key)), .fl (.int .i64 (x.begun)), .fl (.int .i64 ((due w cal x).1)), .fl (.int .i64 (x.stage + 1)), .fl (.int .i64 (x.owed + (ix w.fees (x.stage - 1).toNat))), .fl (.int .i64 (x.paid)), .fl (.int .i64 (x.paused)), .fl (.int .i64 ((x.ap).state)), .fl (.int .i64 ((x.ap).ground)), .fl (.int .i64 ((x.ap).day))], .fl (.bool true)], (.cons (.cellT rfl rfl Tryd.underlying28 rfl ti28 rfl (Cv.ag (xs := [.fl (.string (x.id)), .fl (.string (x.plate)), .fl (.string (x.key)), .fl (.int .i64 (x.begun)), .fl (.int .i64 ((due w cal x).1)), .fl (.int .i64 (x.stage + 1)), .fl (.int .i64 (x.owed + (ix w.fees (x.stage - 1).toNat))), .fl (.int .i64 (x.paid)), .fl (.int .i64 (x.paused)), .fl (.int .i64 ((x.ap).state)), .fl (.int .i64 ((x.ap).ground)), .fl (.int .i64 ((x.ap).day))]) (ys := [.fl (.string (x.id)), .fl (.string (x.plate)), .fl (.string (x.key)), .fl (.int .i64 (x.begun)), .fl (.int .i64 ((due w cal x).1)), .fl (.int .i64 (x.stage + 1)), .fl (.int .i64 (x.owed + (ix w.fees (x.stage - 1).toNat))), .fl (.int .i64 (x.paid)), .fl (.int .i64 (x.paused)), .fl (.int .i64 ((x.ap).state)), .fl (.int .i64 ((x.ap).ground)), .fl (.int .i64 ((x.ap).day))]) ⟨Cv.refl _, Cv.refl _, Cv.refl _, Cv.refl _, Cv.refl _, Cv.refl _, Cv.refl _, Cv.refl _, Cv.refl _, Cv.refl _, Cv.refl _, Cv.refl _, trivial⟩)) (.cons (.tmp rfl (.d _)) .nil)), ?_⟩
            have hm : min (x.owed + ix w.fees (x.stage - 1).toNat) 1125899906842624 = (x.owed + (ix w.fees ((x.stage - 1)).toNat)) := by omega
            have hv : fwd w cal x = { x with owed := (x.owed + (ix w.fees ((x.stage - 1)).toNat)), stage := x.stage + 1, since := (due w cal x).1 } := by unfold fwd; rw [hm]
            have hu : sp w cal x day = (fwd w cal x, true) := by
              unfold sp nxE; simp only [h1, h11, h13, h14, h16]; rfl
            rw [hu, hv]; rfl
        · skip
          have h19 := f_dec h14
          refine a_skip ?_
          show A _ _ _ _ _ _ _
          refine a_rseq ?_
          refine rg_put (d := 86) (v := .d (.ag (eCs x))) rfl (og rfl (of_eff (s_load_pts rfl Tryd.underlying28 rfl ti28 rfl rfl rfl rfl) rfl)) ?_
          refine rg_sto (nw := [(103, .bx 28 (eCs x))]) rfl (og rfl (of_eff (s_store rfl rfl ti28 rfl rfl rfl rfl rfl rfl) rfl)) ?_
          refine rg_put (d := 9) (v := .d (.fl (.bool false))) rfl (og rfl (op_assign rfl rfl rfl)) ?_
          refine rg_done rfl ?_
          refine a_ret ?_
          show ∃ ds, ResL _ _ _ ds ∧ RV.of ds = _
          refine ⟨[.ag [.fl (.string x.id), .fl (.string x.plate), .fl (.string x.key), .fl (.int .i64 x.begun), .fl (.int .i64 x.since), .fl (.int .i64 x.stage), .fl (.int .i64 x.owed), .fl (.int .i64 x.paid), .fl (.int .i64 x.paused), .fl (.int .i64 x.ap.state), .fl (.int .i64 x.ap.ground), .fl (.int .i64 x.ap.day)], .fl (.bool false)], (.cons (.cellT rfl rfl Tryd.underlying28 rfl ti28 rfl (Cv.ag (xs := [.fl (.string x.id), .fl (.string x.plate), .fl (.string x.key), .fl (.int .i64 x.begun), .fl (.int .i64 x.since), .fl (.int .i64 x.stage), .fl (.int .i64 x.owed), .fl (.int .i64 x.paid), .fl (.int .i64 x.paused), .fl (.int .i64 x.ap.state), .fl (.int .i64 x.ap.ground), .fl (.int .i64 x.ap.day)]) (ys := [.fl (.string x.id), .fl (.string x.plate), .fl (.string x.key), .fl (.int .i64 x.begun), .fl (.int .i64 x.since), .fl (.int .i64 x.stage), .fl (.int .i64 x.owed), .fl (.int .i64 x.paid), .fl (.int .i64 x.paused), .fl (.int .i64 x.ap.state), .fl (.int .i64 x.ap.ground), .fl (.int .i64 x.ap.day)]) ⟨Cv.refl _, Cv.refl _, Cv.refl _, Cv.refl _, Cv.refl _, Cv.refl _, Cv.refl _, Cv.refl _, Cv.refl _, Cv.refl _, Cv.refl _, Cv.refl _, trivial⟩)) (.cons (.tmp rfl (.d _)) .nil)), ?_⟩
          have hu : sp w cal x day = (x, false) := by
            unfold sp nxE; simp only [h1, h11, h13, h14]; rfl
          rw [hu]; rfl
    · skip
      have h20 := t_dec h11
      refine rg_put (d := 37) (v := .d (.fl (.int .i64 (((x.begun + w.limit) + x.paused))))) rfl (oy rfl rfl rfl h11 (op_move rfl rfl rfl)) ?_
      refine rg_put (d := 38) (v := .d (.fl (.int .i64 day))) rfl (oy rfl rfl rfl h11 (op_move rfl rfl rfl)) ?_
      refine rg_put (d := 39) (v := .d (.fl (.bool ((decide (((x.begun + w.limit) + x.paused) ≤ day)))))) rfl (oy rfl rfl rfl h11 (op_bin rfl rfl rfl (b_leq _ _ _ _) rfl)) ?_
      refine rg_put (d := 40) (v := .d (.fl (.bool ((decide (((x.begun + w.limit) + x.paused) ≤ day)))))) rfl (og rfl (op_pick rfl rfl (by rw [h11]; rfl) rfl)) ?_
      refine rg_put (d := 41) (v := .d (.fl (.bool ((decide (((x.begun + w.limit) + x.paused) ≤ day)))))) rfl (og rfl (op_move rfl rfl rfl)) ?_
      rcases fot ((decide (((x.begun + w.limit) + x.paused) ≤ day))) with h21 | h21
      · skip
        have h22 := f_dec h21
        refine rg_put (d := 42) (v := .d (.fl undef)) rfl (on rfl rfl rfl h21) ?_
        refine rg_put (d := 43) (v := .d (.fl undef)) rfl (on rfl rfl rfl h21) ?_
        refine rg_put (d := 44) (v := .d (.fl undef)) rfl (on rfl rfl rfl h21) ?_
        refine rg_put (d := 45) (v := .d (.fl undef)) rfl (ou rfl rfl rfl) ?_
        refine rg_put (d := 46) (v := .d (.fl undef)) rfl (ou rfl rfl rfl) ?_
        refine rg_put (d := 47) (v := .d (.fl undef)) rfl (ou rfl rfl rfl) ?_
        refine rg_put (d := 48) (v := .d (.fl undef)) rfl (on rfl rfl rfl h21) ?_
        refine rg_put (d := 49) (v := .d (.fl (.bool false))) rfl (og rfl (op_pick rfl rfl (by rw [h21]; rfl) rfl)) ?_
        refine rg_done rfl ?_
        refine a_condF rfl rfl ?_
        refine a_skip ?_
        show A _ _ _ _ _ _ _
        refine a_seq ?_
        refine a_rseq ?_
        refine rg_put (d := 58) (v := .d (.fl (.bool ((due w cal x).2)))) rfl (og rfl (op_move rfl rfl rfl)) ?_
        refine rg_put (d := 59) (v := .d (.fl (.bool ((due w cal x).2)))) rfl (og rfl (op_move rfl rfl rfl)) ?_
        rcases fot ((due w cal x).2) with h23 | h23
        · skip
          refine rg_put (d := 60) (v := .d (.fl undef)) rfl (on rfl rfl rfl h23) ?_
          refine rg_put (d := 61) (v := .d (.fl undef)) rfl (on rfl rfl rfl h23) ?_
          refine rg_put (d := 62) (v := .d (.fl undef)) rfl (on rfl rfl rfl h23) ?_
          refine rg_put (d := 63) (v := .d (.fl (.bool false))) rfl (og rfl (op_pick rfl rfl (by rw [h23]; rfl) rfl)) ?_
          refine rg_done rfl ?_
          refine a_condF rfl rfl ?_
          refine a_skip ?_
          show A _ _ _ _ _ _ _
          refine a_rseq ?_
          refine rg_put (d := 86) (v := .d (.ag (eCs x))) rfl (og rfl (of_eff (s_load_pts rfl Tryd.underlying28 rfl ti28 rfl rfl rfl rfl) rfl)) ?_
          refine rg_sto (nw := [(103, .bx 28 (eCs x))]) rfl (og rfl (of_eff (s_store rfl rfl ti28 rfl rfl rfl rfl rfl rfl) rfl)) ?_
          refine rg_put (d := 9) (v := .d (.fl (.bool false))) rfl (og rfl (op_assign rfl rfl rfl)) ?_
          refine rg_done rfl ?_
          refine a_ret ?_
          show ∃ ds, ResL _ _ _ ds ∧ RV.of ds = _
          refine ⟨[.ag [.fl (.string x.id), .fl (.string x.plate), .fl (.string x.key), .fl (.int .i64 x.begun), .fl (.int .i64 x.since), .fl (.int .i64 x.stage), .fl (.int .i64 x.owed), .fl (.int .i64 x.paid), .fl (.int .i64 x.paused), .fl (.int .i64 x.ap.state), .fl (.int .i64 x.ap.ground), .fl (.int .i64 x.ap.day)], .fl (.bool false)], (.cons (.cellT rfl rfl Tryd.underlying28 rfl ti28 rfl (Cv.ag (xs := [.fl (.string x.id), .fl (.string x.plate), .fl (.string x.key), .fl (.int .i64 x.begun), .fl (.int .i64 x.since), .fl (.int .i64 x.stage), .fl (.int .i64 x.owed), .fl (.int .i64 x.paid), .fl (.int .i64 x.paused), .fl (.int .i64 x.ap.state), .fl (.int .i64 x.ap.ground), .fl (.int .i64 x.ap.day)]) (ys := [.fl (.string x.id), .fl (.string x.plate), .fl (.string x.key), .fl (.int .i64 x.begun), .fl (.int .i64 x.since), .fl (.int .i64 x.stage), .fl (.int .i64 x.owed), .fl (.int .i64 x.paid), .fl (.int .i64 x.paused), .fl (.int .i64 x.ap.state), .fl (.int .i64 x.ap.ground), .fl (.int .i64 x.ap.day)]) ⟨Cv.refl _, Cv.refl _, Cv.refl _, Cv.refl _, Cv.refl _, Cv.refl _, Cv.refl _, Cv.refl _, Cv.refl _, Cv.refl _, Cv.refl _, Cv.refl _, trivial⟩)) (.cons (.tmp rfl (.d _)) .nil)), ?_⟩
          have hu : sp w cal x day = (x, false) := by
            unfold sp nxE; simp only [h1, h11, h21, h23]; rfl
          rw [hu]; rfl
        · skip
          obtain ⟨d1, d2, d3, d4, d5⟩ := due_ok h23
          have hfee := fee_ok d1 d2 d3
          have hlen := (ckL_ok d1).2.1
          refine rg_put (d := 60) (v := .d (.fl (.int .i64 ((due w cal x).1)))) rfl (oy rfl rfl rfl h23 (op_move rfl rfl rfl)) ?_
          refine rg_put (d := 61) (v := .d (.fl (.int .i64 day))) rfl (oy rfl rfl rfl h23 (op_move rfl rfl rfl)) ?_
          refine rg_put (d := 62) (v := .d (.fl (.bool ((decide ((due w cal x).1 ≤ day)))))) rfl (oy rfl rfl rfl h23 (op_bin rfl rfl rfl (b_leq _ _ _ _) rfl)) ?_
          refine rg_put (d := 63) (v := .d (.fl (.bool ((decide ((due w cal x).1 ≤ day)))))) rfl (og rfl (op_pick rfl rfl (by rw [h23]; rfl) rfl)) ?_
          refine rg_done rfl ?_
          refine a_cond rfl (fun h24 => ?_) (fun h24 => ?_)
          · skip
            have h25 := t_dec h24
            refine a_dseq (by kernel_rfl) ?_
            refine dr_put (d := 64) (v := .pt 102 6) rfl (og rfl (of_eff (s_field_pt rfl Tryd.underlying28 rfl ti3 rfl rfl rfl) rfl)) ?_
            refine dr_put (d := 65) (v := .d (.fl (.int .i64 x.owed))) rfl (og rfl (op_load_pt rfl Tryd.underlying3 rfl rfl rfl rfl rfl)) ?_
            refine dr_put (d := 66) (v := .pt 101 1) rfl (og rfl (of_eff (s_field_pt rfl Tryd.underlying24 rfl ti22 rfl rfl rfl) rfl)) ?_
            refine dr_put (d := 67) (v := .d (.sl 1 (List.map (rI .i64) w.fees))) rfl (og rfl (op_load_pt rfl Tryd.underlying22 rfl rfl rfl rfl rfl)) ?_
            refine dr_put (d := 68) (v := .pt 102 5) rfl (og rfl (of_eff (s_field_pt rfl Tryd.underlying28 rfl ti3 rfl rfl rfl) rfl)) ?_
            refine dr_put (d := 69) (v := .d (.fl (.int .i64 x.stage))) rfl (og rfl (op_load_pt rfl Tryd.underlying3 rfl rfl rfl rfl rfl)) ?_
            refine dr_put (d := 70) (v := .d (.fl (.int .i64 (x.stage - 1)))) rfl (og rfl (op_bin rfl rfl rfl (fun x y w => b_sub64 _ _ _ x y w (by omega)) rfl)) ?_
            refine dr_put (d := 71) (v := .el ((rI .i64 ((ix w.fees ((x.stage - 1)).toNat))))) rfl (og rfl (s_index rfl Tryd.underlying22 ti3 rfl rfl (by omega) (row_atI (by omega) (by omega)) rfl)) ?_
            refine dr_put (d := 72) (v := .d (.fl (.int .i64 ((ix w.fees ((x.stage - 1)).toNat))))) rfl (og rfl (op_load_el rfl Tryd.underlying3 rfl rfl rfl rfl)) ?_
            refine dr_put (d := 73) (v := .d (.fl (.int .i64 ((x.owed + (ix w.fees ((x.stage - 1)).toNat)))))) rfl (og rfl (op_bin rfl rfl rfl (fun x y w => b_add64 _ _ _ x y w (by omega)) rfl)) ?_
            refine dr_put (d := 74) (v := .pt 102 6) rfl (og rfl (of_eff (s_field_pt rfl Tryd.underlying28 rfl ti3 rfl rfl rfl) rfl)) ?_
            refine dr_sto (nw := [(102, .bx 28 [.fl (.string x.id), .fl (.string x.plate), .fl (.string x.key), .fl (.int .i64 x.begun), .fl (.int .i64 x.since), .fl (.int .i64 x.stage), .fl (.int .i64 ((x.owed + (ix w.fees ((x.stage - 1)).toNat)))), .fl (.int .i64 x.paid), .fl (.int .i64 x.paused), .fl (.int .i64 x.ap.state), .fl (.int .i64 x.ap.ground), .fl (.int .i64 x.ap.day)])]) rfl (og rfl (of_eff (s_store rfl rfl ti3 rfl rfl rfl rfl rfl rfl) rfl)) ?_
            refine dr_done rfl (by kernel_rfl) (by kernel_rfl) ?_
            refine a_seq ?_
            refine a_rseq ?_
            refine rg_put (d := 75) (v := .pt 102 6) rfl (og rfl (of_eff (s_field_pt rfl Tryd.underlying28 rfl ti3 rfl rfl rfl) rfl)) ?_
            refine rg_put (d := 76) (v := .d (.fl (.int .i64 ((x.owed + (ix w.fees ((x.stage - 1)).toNat)))))) rfl (og rfl (op_load_pt rfl Tryd.underlying3 rfl rfl rfl rfl rfl)) ?_
            refine rg_put (d := 77) (v := .d (.fl (.bool ((decide (1125899906842624 < (x.owed + (ix w.fees ((x.stage - 1)).toNat)))))))) rfl (og rfl (op_bin rfl rfl rfl (b_gtr _ _ _ _) rfl)) ?_
            refine rg_done rfl ?_
            refine a_cond rfl (fun h26 => ?_) (fun h26 => ?_)
            · skip
              have h27 := t_dec h26
              refine a_region ?_
              refine rg_put (d := 78) (v := .pt 102 6) rfl (og rfl (of_eff (s_field_pt rfl Tryd.underlying28 rfl ti3 rfl rfl rfl) rfl)) ?_
              refine rg_sto (nw := [(102, .bx 28 [.fl (.string x.id), .fl (.string x.plate), .fl (.string x.key), .fl (.int .i64 x.begun), .fl (.int .i64 x.since), .fl (.int .i64 x.stage), .fl (.int .i64 1125899906842624), .fl (.int .i64 x.paid), .fl (.int .i64 x.paused), .fl (.int .i64 x.ap.state), .fl (.int .i64 x.ap.ground), .fl (.int .i64 x.ap.day)])]) rfl (og rfl (of_eff (s_store rfl rfl ti3 rfl rfl rfl rfl rfl rfl) rfl)) ?_
              refine rg_done rfl ?_
              show A _ _ _ _ _ _ _
              refine a_rseq ?_
              refine rg_put (d := 79) (v := .pt 102 5) rfl (og rfl (of_eff (s_field_pt rfl Tryd.underlying28 rfl ti3 rfl rfl rfl) rfl)) ?_
              refine rg_put (d := 80) (v := .d (.fl (.int .i64 x.stage))) rfl (og rfl (op_load_pt rfl Tryd.underlying3 rfl rfl rfl rfl rfl)) ?_
              refine rg_put (d := 81) (v := .d (.fl (.int .i64 (x.stage + 1)))) rfl (og rfl (op_bin rfl rfl rfl (fun x y w => b_add64 _ _ _ x y w (by omega)) rfl)) ?_
              refine rg_put (d := 82) (v := .pt 102 5) rfl (og rfl (of_eff (s_field_pt rfl Tryd.underlying28 rfl ti3 rfl rfl rfl) rfl)) ?_
              refine rg_sto (nw := [(102, .bx 28 [.fl (.string x.id), .fl (.string x.plate), .fl (.string x.key), .fl (.int .i64 x.begun), .fl (.int .i64 x.since), .fl (.int .i64 (x.stage + 1)), .fl (.int .i64 1125899906842624), .fl (.int .i64 x.paid), .fl (.int .i64 x.paused), .fl (.int .i64 x.ap.state), .fl (.int .i64 x.ap.ground), .fl (.int .i64 x.ap.day)])]) rfl (og rfl (of_eff (s_store rfl rfl ti3 rfl rfl rfl rfl rfl rfl) rfl)) ?_
              refine rg_done rfl ?_
              refine a_rseq ?_
              refine rg_put (d := 83) (v := .d (.fl (.int .i64 ((due w cal x).1)))) rfl (og rfl (op_move rfl rfl rfl)) ?_
              refine rg_put (d := 84) (v := .pt 102 4) rfl (og rfl (of_eff (s_field_pt rfl Tryd.underlying28 rfl ti3 rfl rfl rfl) rfl)) ?_
              refine rg_sto (nw := [(102, .bx 28 [.fl (.string x.id), .fl (.string x.plate), .fl (.string x.key), .fl (.int .i64 x.begun), .fl (.int .i64 ((due w cal x).1)), .fl (.int .i64 (x.stage + 1)), .fl (.int .i64 1125899906842624), .fl (.int .i64 x.paid), .fl (.int .i64 x.paused), .fl (.int .i64 x.ap.state), .fl (.int .i64 x.ap.ground), .fl (.int .i64 x.ap.day)])]) rfl (og rfl (of_eff (s_store rfl rfl ti3 rfl rfl rfl rfl rfl rfl) rfl)) ?_
              refine rg_done rfl ?_
              refine a_rseq ?_
              refine rg_put (d := 85) (v := .d (.ag (eCs ((Cs.mk x.id x.plate x.key x.begun ((due w cal x).1) (x.stage + 1) 1125899906842624 x.paid x.paused x.ap))))) rfl (og rfl (of_eff (s_load_pts rfl Tryd.underlying28 rfl ti28 rfl rfl rfl rfl) rfl)) ?_
              refine rg_sto (nw := [(103, .bx 28 ((eCs ((Cs.mk x.id x.plate x.key x.begun ((due w cal x).1) (x.stage + 1) 1125899906842624 x.paid x.paused x.ap)))))]) rfl (og rfl (of_eff (s_store rfl rfl ti28 rfl rfl rfl rfl rfl rfl) rfl)) ?_
              refine rg_put (d := 9) (v := .d (.fl (.bool true))) rfl (og rfl (op_assign rfl rfl rfl)) ?_
              refine rg_done rfl ?_
              refine a_ret ?_
              show ∃ ds, ResL _ _ _ ds ∧ RV.of ds = _
              refine ⟨[.ag [.fl (.string (x.id)), .fl (.string (x.plate)), .fl (.string (x.key)), .fl (.int .i64 (x.begun)), .fl (.int .i64 ((due w cal x).1)), .fl (.int .i64 (x.stage + 1)), .fl (.int .i64 (1125899906842624)), .fl (.int .i64 (x.paid)), .fl (.int .i64 (x.paused)), .fl (.int .i64 ((x.ap).state)), .fl (.int .i64 ((x.ap).ground)), .fl (.int .i64 ((x.ap).day))], .fl (.bool true)], (.cons (.cellT rfl rfl Tryd.underlying28 rfl ti28 rfl (Cv.ag (xs := [.fl (.string (x.id)), .fl (.string (x.plate)), .fl (.string (x.key)), .fl (.int .i64 (x.begun)), .fl (.int .i64 ((due w cal x).1)), .fl (.int .i64 (x.stage + 1)), .fl (.int .i64 (1125899906842624)), .fl (.int .i64 (x.paid)), .fl (.int .i64 (x.paused)), .fl (.int .i64 ((x.ap).state)), .fl (.int .i64 ((x.ap).ground)), .fl (.int .i64 ((x.ap).day))]) (ys := [.fl (.string (x.id)), .fl (.string (x.plate)), .fl (.string (x.key)), .fl (.int .i64 (x.begun)), .fl (.int .i64 ((due w cal x).1)), .fl (.int .i64 (x.stage + 1)), .fl (.int .i64 (1125899906842624)), .fl (.int .i64 (x.paid)), .fl (.int .i64 (x.paused)), .fl (.int .i64 ((x.ap).state)), .fl (.int .i64 ((x.ap).ground)), .fl (.int .i64 ((x.ap).day))]) ⟨Cv.refl _, Cv.refl _, Cv.refl _, Cv.refl _, Cv.refl _, Cv.refl _, Cv.refl _, Cv.refl _, Cv.refl _, Cv.refl _, Cv.refl _, Cv.refl _, trivial⟩)) (.cons (.tmp rfl (.d _)) .nil)), ?_⟩
              have hm : min (x.owed + ix w.fees (x.stage - 1).toNat) 1125899906842624 = 1125899906842624 := by omega
              have hv : fwd w cal x = { x with owed := 1125899906842624, stage := x.stage + 1, since := (due w cal x).1 } := by unfold fwd; rw [hm]
              have hu : sp w cal x day = (fwd w cal x, true) := by
                unfold sp nxE; simp only [h1, h11, h21, h23, h24, h26]; rfl
              rw [hu, hv]; rfl
            · skip
              have h28 := f_dec h26
              refine a_skip ?_
              show A _ _ _ _ _ _ _
              refine a_rseq ?_
              refine rg_put (d := 79) (v := .pt 102 5) rfl (og rfl (of_eff (s_field_pt rfl Tryd.underlying28 rfl ti3 rfl rfl rfl) rfl)) ?_
              refine rg_put (d := 80) (v := .d (.fl (.int .i64 x.stage))) rfl (og rfl (op_load_pt rfl Tryd.underlying3 rfl rfl rfl rfl rfl)) ?_
              refine rg_put (d := 81) (v := .d (.fl (.int .i64 (x.stage + 1)))) rfl (og rfl (op_bin rfl rfl rfl (fun x y w => b_add64 _ _ _ x y w (by omega)) rfl)) ?_
              refine rg_put (d := 82) (v := .pt 102 5) rfl (og rfl (of_eff (s_field_pt rfl Tryd.underlying28 rfl ti3 rfl rfl rfl) rfl)) ?_
              refine rg_sto (nw := [(102, .bx 28 [.fl (.string x.id), .fl (.string x.plate), .fl (.string x.key), .fl (.int .i64 x.begun), .fl (.int .i64 x.since), .fl (.int .i64 (x.stage + 1)), .fl (.int .i64 ((x.owed + (ix w.fees ((x.stage - 1)).toNat)))), .fl (.int .i64 x.paid), .fl (.int .i64 x.paused), .fl (.int .i64 x.ap.state), .fl (.int .i64 x.ap.ground), .fl (.int .i64 x.ap.day)])]) rfl (og rfl (of_eff (s_store rfl rfl ti3 rfl rfl rfl rfl rfl rfl) rfl)) ?_
              refine rg_done rfl ?_
              refine a_rseq ?_
              refine rg_put (d := 83) (v := .d (.fl (.int .i64 ((due w cal x).1)))) rfl (og rfl (op_move rfl rfl rfl)) ?_
              refine rg_put (d := 84) (v := .pt 102 4) rfl (og rfl (of_eff (s_field_pt rfl Tryd.underlying28 rfl ti3 rfl rfl rfl) rfl)) ?_
              refine rg_sto (nw := [(102, .bx 28 [.fl (.string x.id), .fl (.string x.plate), .fl (.string x.key), .fl (.int .i64 x.begun), .fl (.int .i64 ((due w cal x).1)), .fl (.int .i64 (x.stage + 1)), .fl (.int .i64 ((x.owed + (ix w.fees ((x.stage - 1)).toNat)))), .fl (.int .i64 x.paid), .fl (.int .i64 x.paused), .fl (.int .i64 x.ap.state), .fl (.int .i64 x.ap.ground), .fl (.int .i64 x.ap.day)])]) rfl (og rfl (of_eff (s_store rfl rfl ti3 rfl rfl rfl rfl rfl rfl) rfl)) ?_
              refine rg_done rfl ?_
              refine a_rseq ?_
              refine rg_put (d := 85) (v := .d (.ag (eCs ((Cs.mk x.id x.plate x.key x.begun ((due w cal x).1) (x.stage + 1) ((x.owed + (ix w.fees ((x.stage - 1)).toNat))) x.paid x.paused x.ap))))) rfl (og rfl (of_eff (s_load_pts rfl Tryd.underlying28 rfl ti28 rfl rfl rfl rfl) rfl)) ?_
              refine rg_sto (nw := [(103, .bx 28 ((eCs ((Cs.mk x.id x.plate x.key x.begun ((due w cal x).1) (x.stage + 1) ((x.owed + (ix w.fees ((x.stage - 1)).toNat))) x.paid x.paused x.ap)))))]) rfl (og rfl (of_eff (s_store rfl rfl ti28 rfl rfl rfl rfl rfl rfl) rfl)) ?_
              refine rg_put (d := 9) (v := .d (.fl (.bool true))) rfl (og rfl (op_assign rfl rfl rfl)) ?_
              refine rg_done rfl ?_
              refine a_ret ?_
              show ∃ ds, ResL _ _ _ ds ∧ RV.of ds = _
              refine ⟨[.ag [.fl (.string (x.id)), .fl (.string (x.plate)), .fl (.string (x.key)), .fl (.int .i64 (x.begun)), .fl (.int .i64 ((due w cal x).1)), .fl (.int .i64 (x.stage + 1)), .fl (.int .i64 (x.owed + (ix w.fees (x.stage - 1).toNat))), .fl (.int .i64 (x.paid)), .fl (.int .i64 (x.paused)), .fl (.int .i64 ((x.ap).state)), .fl (.int .i64 ((x.ap).ground)), .fl (.int .i64 ((x.ap).day))], .fl (.bool true)], (.cons (.cellT rfl rfl Tryd.underlying28 rfl ti28 rfl (Cv.ag (xs := [.fl (.string (x.id)), .fl (.string (x.plate)), .fl (.string (x.key)), .fl (.int .i64 (x.begun)), .fl (.int .i64 ((due w cal x).1)), .fl (.int .i64 (x.stage + 1)), .fl (.int .i64 (x.owed + (ix w.fees (x.stage - 1).toNat))), .fl (.int .i64 (x.paid)), .fl (.int .i64 (x.paused)), .fl (.int .i64 ((x.ap).state)), .fl (.int .i64 ((x.ap).ground)), .fl (.int .i64 ((x.ap).day))]) (ys := [.fl (.string (x.id)), .fl (.string (x.plate)), .fl (.string (x.key)), .fl (.int .i64 (x.begun)), .fl (.int .i64 ((due w cal x).1)), .fl (.int .i64 (x.stage + 1)), .fl (.int .i64 (x.owed + (ix w.fees (x.stage - 1).toNat))), .fl (.int .i64 (x.paid)), .fl (.int .i64 (x.paused)), .fl (.int .i64 ((x.ap).state)), .fl (.int .i64 ((x.ap).ground)), .fl (.int .i64 ((x.ap).day))]) ⟨Cv.refl _, Cv.refl _, Cv.refl _, Cv.refl _, Cv.refl _, Cv.refl _, Cv.refl _, Cv.refl _, Cv.refl _, Cv.refl _, Cv.refl _, Cv.refl _, trivial⟩)) (.cons (.tmp rfl (.d _)) .nil)), ?_⟩
              have hm : min (x.owed + ix w.fees (x.stage - 1).toNat) 1125899906842624 = (x.owed + (ix w.fees ((x.stage - 1)).toNat)) := by omega
              have hv : fwd w cal x = { x with owed := (x.owed + (ix w.fees ((x.stage - 1)).toNat)), stage := x.stage + 1, since := (due w cal x).1 } := by unfold fwd; rw [hm]
              have hu : sp w cal x day = (fwd w cal x, true) := by
                unfold sp nxE; simp only [h1, h11, h21, h23, h24, h26]; rfl
              rw [hu, hv]; rfl
          · skip
            have h29 := f_dec h24
            refine a_skip ?_
            show A _ _ _ _ _ _ _
            refine a_rseq ?_
            refine rg_put (d := 86) (v := .d (.ag (eCs x))) rfl (og rfl (of_eff (s_load_pts rfl Tryd.underlying28 rfl ti28 rfl rfl rfl rfl) rfl)) ?_
            refine rg_sto (nw := [(103, .bx 28 (eCs x))]) rfl (og rfl (of_eff (s_store rfl rfl ti28 rfl rfl rfl rfl rfl rfl) rfl)) ?_
            refine rg_put (d := 9) (v := .d (.fl (.bool false))) rfl (og rfl (op_assign rfl rfl rfl)) ?_
            refine rg_done rfl ?_
            refine a_ret ?_
            show ∃ ds, ResL _ _ _ ds ∧ RV.of ds = _
            refine ⟨[.ag [.fl (.string x.id), .fl (.string x.plate), .fl (.string x.key), .fl (.int .i64 x.begun), .fl (.int .i64 x.since), .fl (.int .i64 x.stage), .fl (.int .i64 x.owed), .fl (.int .i64 x.paid), .fl (.int .i64 x.paused), .fl (.int .i64 x.ap.state), .fl (.int .i64 x.ap.ground), .fl (.int .i64 x.ap.day)], .fl (.bool false)], (.cons (.cellT rfl rfl Tryd.underlying28 rfl ti28 rfl (Cv.ag (xs := [.fl (.string x.id), .fl (.string x.plate), .fl (.string x.key), .fl (.int .i64 x.begun), .fl (.int .i64 x.since), .fl (.int .i64 x.stage), .fl (.int .i64 x.owed), .fl (.int .i64 x.paid), .fl (.int .i64 x.paused), .fl (.int .i64 x.ap.state), .fl (.int .i64 x.ap.ground), .fl (.int .i64 x.ap.day)]) (ys := [.fl (.string x.id), .fl (.string x.plate), .fl (.string x.key), .fl (.int .i64 x.begun), .fl (.int .i64 x.since), .fl (.int .i64 x.stage), .fl (.int .i64 x.owed), .fl (.int .i64 x.paid), .fl (.int .i64 x.paused), .fl (.int .i64 x.ap.state), .fl (.int .i64 x.ap.ground), .fl (.int .i64 x.ap.day)]) ⟨Cv.refl _, Cv.refl _, Cv.refl _, Cv.refl _, Cv.refl _, Cv.refl _, Cv.refl _, Cv.refl _, Cv.refl _, Cv.refl _, Cv.refl _, Cv.refl _, trivial⟩)) (.cons (.tmp rfl (.d _)) .nil)), ?_⟩
            have hu : sp w cal x day = (x, false) := by
              unfold sp nxE; simp only [h1, h11, h21, h23, h24]; rfl
            rw [hu]; rfl
      · skip
        have h30 := t_dec h21
        refine rg_put (d := 42) (v := .d (.fl (.bool ((due w cal x).2)))) rfl (oy rfl rfl rfl h21 (op_move rfl rfl rfl)) ?_
        refine rg_put (d := 43) (v := .d (.fl (.bool ((!((due w cal x).2)))))) rfl (oy rfl rfl rfl h21 (op_un rfl rfl (u_not _) rfl)) ?_
        refine rg_put (d := 44) (v := .d (.fl (.bool ((!((due w cal x).2)))))) rfl (oy rfl rfl rfl h21 (op_move rfl rfl rfl)) ?_
        rcases fot ((!((due w cal x).2))) with h31 | h31
        · skip
          have h32 := f_not h31
          obtain ⟨d1, d2, d3, d4, d5⟩ := due_ok h32
          have hfee := fee_ok d1 d2 d3
          have hlen := (ckL_ok d1).2.1
          refine rg_put (d := 45) (v := .d (.fl (.int .i64 (((x.begun + w.limit) + x.paused))))) rfl (oy rfl rfl rfl h31 (op_move rfl rfl rfl)) ?_
          refine rg_put (d := 46) (v := .d (.fl (.int .i64 ((due w cal x).1)))) rfl (oy rfl rfl rfl h31 (op_move rfl rfl rfl)) ?_
          refine rg_put (d := 47) (v := .d (.fl (.bool ((decide (((x.begun + w.limit) + x.paused) ≤ (due w cal x).1)))))) rfl (oy rfl rfl rfl h31 (op_bin rfl rfl rfl (b_leq _ _ _ _) rfl)) ?_
          refine rg_put (d := 48) (v := .d (.fl (.bool ((decide (((x.begun + w.limit) + x.paused) ≤ (due w cal x).1)))))) rfl (oy rfl rfl rfl h21 (op_pick rfl rfl (by rw [h31]; rfl) rfl)) ?_
          refine rg_put (d := 49) (v := .d (.fl (.bool ((decide (((x.begun + w.limit) + x.paused) ≤ (due w cal x).1)))))) rfl (og rfl (op_pick rfl rfl (by rw [h21]; rfl) rfl)) ?_
          refine rg_done rfl ?_
          refine a_cond rfl (fun h33 => ?_) (fun h33 => ?_)
          · skip
            have h34 := t_dec h33
            refine a_rseq ?_
            refine rg_put (d := 50) (v := .pt 102 5) rfl (og rfl (of_eff (s_field_pt rfl Tryd.underlying28 rfl ti3 rfl rfl rfl) rfl)) ?_
            refine rg_sto (nw := [(102, .bx 28 [.fl (.string x.id), .fl (.string x.plate), .fl (.string x.key), .fl (.int .i64 x.begun), .fl (.int .i64 x.since), .fl (.int .i64 8), .fl (.int .i64 x.owed), .fl (.int .i64 x.paid), .fl (.int .i64 x.paused), .fl (.int .i64 x.ap.state), .fl (.int .i64 x.ap.ground), .fl (.int .i64 x.ap.day)])]) rfl (og rfl (of_eff (s_store rfl rfl ti3 rfl rfl rfl rfl rfl rfl) rfl)) ?_
            refine rg_done rfl ?_
            refine a_seq ?_
            refine a_rseq ?_
            refine rg_put (d := 51) (v := .d (.fl (.int .i64 (((x.begun + w.limit) + x.paused))))) rfl (og rfl (op_move rfl rfl rfl)) ?_
            refine rg_put (d := 52) (v := .pt 102 4) rfl (og rfl (of_eff (s_field_pt rfl Tryd.underlying28 rfl ti3 rfl rfl rfl) rfl)) ?_
            refine rg_put (d := 53) (v := .d (.fl (.int .i64 x.since))) rfl (og rfl (op_load_pt rfl Tryd.underlying3 rfl rfl rfl rfl rfl)) ?_
            refine rg_put (d := 54) (v := .d (.fl (.bool ((decide (x.since < ((x.begun + w.limit) + x.paused))))))) rfl (og rfl (op_bin rfl rfl rfl (b_gtr _ _ _ _) rfl)) ?_
            refine rg_done rfl ?_
            refine a_cond rfl (fun h35 => ?_) (fun h35 => ?_)
            · skip
              have h36 := t_dec h35
              refine a_region ?_
              refine rg_put (d := 55) (v := .d (.fl (.int .i64 (((x.begun + w.limit) + x.paused))))) rfl (og rfl (op_move rfl rfl rfl)) ?_
              refine rg_put (d := 56) (v := .pt 102 4) rfl (og rfl (of_eff (s_field_pt rfl Tryd.underlying28 rfl ti3 rfl rfl rfl) rfl)) ?_
              refine rg_sto (nw := [(102, .bx 28 [.fl (.string x.id), .fl (.string x.plate), .fl (.string x.key), .fl (.int .i64 x.begun), .fl (.int .i64 (((x.begun + w.limit) + x.paused))), .fl (.int .i64 8), .fl (.int .i64 x.owed), .fl (.int .i64 x.paid), .fl (.int .i64 x.paused), .fl (.int .i64 x.ap.state), .fl (.int .i64 x.ap.ground), .fl (.int .i64 x.ap.day)])]) rfl (og rfl (of_eff (s_store rfl rfl ti3 rfl rfl rfl rfl rfl rfl) rfl)) ?_
              refine rg_done rfl ?_
              show A _ _ _ _ _ _ _
              refine a_rseq ?_
              refine rg_put (d := 57) (v := .d (.ag (eCs ((Cs.mk x.id x.plate x.key x.begun (((x.begun + w.limit) + x.paused)) 8 x.owed x.paid x.paused x.ap))))) rfl (og rfl (of_eff (s_load_pts rfl Tryd.underlying28 rfl ti28 rfl rfl rfl rfl) rfl)) ?_
              refine rg_sto (nw := [(103, .bx 28 ((eCs ((Cs.mk x.id x.plate x.key x.begun (((x.begun + w.limit) + x.paused)) 8 x.owed x.paid x.paused x.ap)))))]) rfl (og rfl (of_eff (s_store rfl rfl ti28 rfl rfl rfl rfl rfl rfl) rfl)) ?_
              refine rg_put (d := 9) (v := .d (.fl (.bool true))) rfl (og rfl (op_assign rfl rfl rfl)) ?_
              refine rg_done rfl ?_
              refine a_ret ?_
              show ∃ ds, ResL _ _ _ ds ∧ RV.of ds = _
              refine ⟨[.ag [.fl (.string (x.id)), .fl (.string (x.plate)), .fl (.string (x.key)), .fl (.int .i64 (x.begun)), .fl (.int .i64 ((x.begun + w.limit) + x.paused)), .fl (.int .i64 (8)), .fl (.int .i64 (x.owed)), .fl (.int .i64 (x.paid)), .fl (.int .i64 (x.paused)), .fl (.int .i64 ((x.ap).state)), .fl (.int .i64 ((x.ap).ground)), .fl (.int .i64 ((x.ap).day))], .fl (.bool true)], (.cons (.cellT rfl rfl Tryd.underlying28 rfl ti28 rfl (Cv.ag (xs := [.fl (.string (x.id)), .fl (.string (x.plate)), .fl (.string (x.key)), .fl (.int .i64 (x.begun)), .fl (.int .i64 ((x.begun + w.limit) + x.paused)), .fl (.int .i64 (8)), .fl (.int .i64 (x.owed)), .fl (.int .i64 (x.paid)), .fl (.int .i64 (x.paused)), .fl (.int .i64 ((x.ap).state)), .fl (.int .i64 ((x.ap).ground)), .fl (.int .i64 ((x.ap).day))]) (ys := [.fl (.string (x.id)), .fl (.string (x.plate)), .fl (.string (x.key)), .fl (.int .i64 (x.begun)), .fl (.int .i64 ((x.begun + w.limit) + x.paused)), .fl (.int .i64 (8)), .fl (.int .i64 (x.owed)), .fl (.int .i64 (x.paid)), .fl (.int .i64 (x.paused)), .fl (.int .i64 ((x.ap).state)), .fl (.int .i64 ((x.ap).ground)), .fl (.int .i64 ((x.ap).day))]) ⟨Cv.refl _, Cv.refl _, Cv.refl _, Cv.refl _, Cv.refl _, Cv.refl _, Cv.refl _, Cv.refl _, Cv.refl _, Cv.refl _, Cv.refl _, Cv.refl _, trivial⟩)) (.cons (.tmp rfl (.d _)) .nil)), ?_⟩
              have hm : max x.since (nxE w x) = ((x.begun + w.limit) + x.paused) := by unfold nxE; omega
              have hv : bar w x = { x with stage := 8, since := ((x.begun + w.limit) + x.paused) } := by unfold bar; rw [hm]
              have hu : sp w cal x day = (bar w x, true) := by
                unfold sp nxE; simp only [h1, h11, h21, h31, h32, h33, h35]; rfl
              rw [hu, hv]; rfl
            · skip
              have h37 := f_dec h35
              refine a_skip ?_
              show A _ _ _ _ _ _ _
              refine a_rseq ?_
              refine rg_put (d := 57) (v := .d (.ag (eCs (Cs.mk x.id x.plate x.key x.begun x.since 8 x.owed x.paid x.paused x.ap)))) rfl (og rfl (of_eff (s_load_pts rfl Tryd.underlying28 rfl ti28 rfl rfl rfl rfl) rfl)) ?_
              refine rg_sto (nw := [(103, .bx 28 ((eCs (Cs.mk x.id x.plate x.key x.begun x.since 8 x.owed x.paid x.paused x.ap))))]) rfl (og rfl (of_eff (s_store rfl rfl ti28 rfl rfl rfl rfl rfl rfl) rfl)) ?_
              refine rg_put (d := 9) (v := .d (.fl (.bool true))) rfl (og rfl (op_assign rfl rfl rfl)) ?_
              refine rg_done rfl ?_
              refine a_ret ?_
              show ∃ ds, ResL _ _ _ ds ∧ RV.of ds = _
              refine ⟨[.ag [.fl (.string (x.id)), .fl (.string (x.plate)), .fl (.string (x.key)), .fl (.int .i64 (x.begun)), .fl (.int .i64 (x.since)), .fl (.int .i64 (8)), .fl (.int .i64 (x.owed)), .fl (.int .i64 (x.paid)), .fl (.int .i64 (x.paused)), .fl (.int .i64 ((x.ap).state)), .fl (.int .i64 ((x.ap).ground)), .fl (.int .i64 ((x.ap).day))], .fl (.bool true)], (.cons (.cellT rfl rfl Tryd.underlying28 rfl ti28 rfl (Cv.ag (xs := [.fl (.string (x.id)), .fl (.string (x.plate)), .fl (.string (x.key)), .fl (.int .i64 (x.begun)), .fl (.int .i64 (x.since)), .fl (.int .i64 (8)), .fl (.int .i64 (x.owed)), .fl (.int .i64 (x.paid)), .fl (.int .i64 (x.paused)), .fl (.int .i64 ((x.ap).state)), .fl (.int .i64 ((x.ap).ground)), .fl (.int .i64 ((x.ap).day))]) (ys := [.fl (.string (x.id)), .fl (.string (x.plate)), .fl (.string (x.key)), .fl (.int .i64 (x.begun)), .fl (.int .i64 (x.since)), .fl (.int .i64 (8)), .fl (.int .i64 (x.owed)), .fl (.int .i64 (x.paid)), .fl (.int .i64 (x.paused)), .fl (.int .i64 ((x.ap).state)), .fl (.int .i64 ((x.ap).ground)), .fl (.int .i64 ((x.ap).day))]) ⟨Cv.refl _, Cv.refl _, Cv.refl _, Cv.refl _, Cv.refl _, Cv.refl _, Cv.refl _, Cv.refl _, Cv.refl _, Cv.refl _, Cv.refl _, Cv.refl _, trivial⟩)) (.cons (.tmp rfl (.d _)) .nil)), ?_⟩
              have hm : max x.since (nxE w x) = x.since := by unfold nxE; omega
              have hv : bar w x = { x with stage := 8, since := x.since } := by unfold bar; rw [hm]
              have hu : sp w cal x day = (bar w x, true) := by
                unfold sp nxE; simp only [h1, h11, h21, h31, h32, h33, h35]; rfl
              rw [hu, hv]; rfl
          · skip
            have h38 := f_dec h33
            refine a_skip ?_
            show A _ _ _ _ _ _ _
            refine a_seq ?_
            refine a_rseq ?_
            refine rg_put (d := 58) (v := .d (.fl (.bool ((due w cal x).2)))) rfl (og rfl (op_move rfl rfl rfl)) ?_
            refine rg_put (d := 59) (v := .d (.fl (.bool ((due w cal x).2)))) rfl (og rfl (op_move rfl rfl rfl)) ?_
            refine rg_put (d := 60) (v := .d (.fl (.int .i64 ((due w cal x).1)))) rfl (oy rfl rfl rfl h32 (op_move rfl rfl rfl)) ?_
            refine rg_put (d := 61) (v := .d (.fl (.int .i64 day))) rfl (oy rfl rfl rfl h32 (op_move rfl rfl rfl)) ?_
            refine rg_put (d := 62) (v := .d (.fl (.bool ((decide ((due w cal x).1 ≤ day)))))) rfl (oy rfl rfl rfl h32 (op_bin rfl rfl rfl (b_leq _ _ _ _) rfl)) ?_
            refine rg_put (d := 63) (v := .d (.fl (.bool ((decide ((due w cal x).1 ≤ day)))))) rfl (og rfl (op_pick rfl rfl (by rw [h32]; rfl) rfl)) ?_
            refine rg_done rfl ?_
            refine a_cond rfl (fun h39 => ?_) (fun h39 => ?_)
            · skip
              have h40 := t_dec h39
              refine a_dseq (by kernel_rfl) ?_
              refine dr_put (d := 64) (v := .pt 102 6) rfl (og rfl (of_eff (s_field_pt rfl Tryd.underlying28 rfl ti3 rfl rfl rfl) rfl)) ?_
              refine dr_put (d := 65) (v := .d (.fl (.int .i64 x.owed))) rfl (og rfl (op_load_pt rfl Tryd.underlying3 rfl rfl rfl rfl rfl)) ?_
              refine dr_put (d := 66) (v := .pt 101 1) rfl (og rfl (of_eff (s_field_pt rfl Tryd.underlying24 rfl ti22 rfl rfl rfl) rfl)) ?_
              refine dr_put (d := 67) (v := .d (.sl 1 (List.map (rI .i64) w.fees))) rfl (og rfl (op_load_pt rfl Tryd.underlying22 rfl rfl rfl rfl rfl)) ?_
              refine dr_put (d := 68) (v := .pt 102 5) rfl (og rfl (of_eff (s_field_pt rfl Tryd.underlying28 rfl ti3 rfl rfl rfl) rfl)) ?_
              refine dr_put (d := 69) (v := .d (.fl (.int .i64 x.stage))) rfl (og rfl (op_load_pt rfl Tryd.underlying3 rfl rfl rfl rfl rfl)) ?_
              refine dr_put (d := 70) (v := .d (.fl (.int .i64 (x.stage - 1)))) rfl (og rfl (op_bin rfl rfl rfl (fun x y w => b_sub64 _ _ _ x y w (by omega)) rfl)) ?_
              refine dr_put (d := 71) (v := .el ((rI .i64 ((ix w.fees ((x.stage - 1)).toNat))))) rfl (og rfl (s_index rfl Tryd.underlying22 ti3 rfl rfl (by omega) (row_atI (by omega) (by omega)) rfl)) ?_
              refine dr_put (d := 72) (v := .d (.fl (.int .i64 ((ix w.fees ((x.stage - 1)).toNat))))) rfl (og rfl (op_load_el rfl Tryd.underlying3 rfl rfl rfl rfl)) ?_
              refine dr_put (d := 73) (v := .d (.fl (.int .i64 ((x.owed + (ix w.fees ((x.stage - 1)).toNat)))))) rfl (og rfl (op_bin rfl rfl rfl (fun x y w => b_add64 _ _ _ x y w (by omega)) rfl)) ?_
              refine dr_put (d := 74) (v := .pt 102 6) rfl (og rfl (of_eff (s_field_pt rfl Tryd.underlying28 rfl ti3 rfl rfl rfl) rfl)) ?_
              refine dr_sto (nw := [(102, .bx 28 [.fl (.string x.id), .fl (.string x.plate), .fl (.string x.key), .fl (.int .i64 x.begun), .fl (.int .i64 x.since), .fl (.int .i64 x.stage), .fl (.int .i64 ((x.owed + (ix w.fees ((x.stage - 1)).toNat)))), .fl (.int .i64 x.paid), .fl (.int .i64 x.paused), .fl (.int .i64 x.ap.state), .fl (.int .i64 x.ap.ground), .fl (.int .i64 x.ap.day)])]) rfl (og rfl (of_eff (s_store rfl rfl ti3 rfl rfl rfl rfl rfl rfl) rfl)) ?_
              refine dr_done rfl (by kernel_rfl) (by kernel_rfl) ?_
              refine a_seq ?_
              refine a_rseq ?_
              refine rg_put (d := 75) (v := .pt 102 6) rfl (og rfl (of_eff (s_field_pt rfl Tryd.underlying28 rfl ti3 rfl rfl rfl) rfl)) ?_
              refine rg_put (d := 76) (v := .d (.fl (.int .i64 ((x.owed + (ix w.fees ((x.stage - 1)).toNat)))))) rfl (og rfl (op_load_pt rfl Tryd.underlying3 rfl rfl rfl rfl rfl)) ?_
              refine rg_put (d := 77) (v := .d (.fl (.bool ((decide (1125899906842624 < (x.owed + (ix w.fees ((x.stage - 1)).toNat)))))))) rfl (og rfl (op_bin rfl rfl rfl (b_gtr _ _ _ _) rfl)) ?_
              refine rg_done rfl ?_
              refine a_cond rfl (fun h41 => ?_) (fun h41 => ?_)
              · skip
                have h42 := t_dec h41
                refine a_region ?_
                refine rg_put (d := 78) (v := .pt 102 6) rfl (og rfl (of_eff (s_field_pt rfl Tryd.underlying28 rfl ti3 rfl rfl rfl) rfl)) ?_
                refine rg_sto (nw := [(102, .bx 28 [.fl (.string x.id), .fl (.string x.plate), .fl (.string x.key), .fl (.int .i64 x.begun), .fl (.int .i64 x.since), .fl (.int .i64 x.stage), .fl (.int .i64 1125899906842624), .fl (.int .i64 x.paid), .fl (.int .i64 x.paused), .fl (.int .i64 x.ap.state), .fl (.int .i64 x.ap.ground), .fl (.int .i64 x.ap.day)])]) rfl (og rfl (of_eff (s_store rfl rfl ti3 rfl rfl rfl rfl rfl rfl) rfl)) ?_
                refine rg_done rfl ?_
                show A _ _ _ _ _ _ _
                refine a_rseq ?_
                refine rg_put (d := 79) (v := .pt 102 5) rfl (og rfl (of_eff (s_field_pt rfl Tryd.underlying28 rfl ti3 rfl rfl rfl) rfl)) ?_
                refine rg_put (d := 80) (v := .d (.fl (.int .i64 x.stage))) rfl (og rfl (op_load_pt rfl Tryd.underlying3 rfl rfl rfl rfl rfl)) ?_
                refine rg_put (d := 81) (v := .d (.fl (.int .i64 (x.stage + 1)))) rfl (og rfl (op_bin rfl rfl rfl (fun x y w => b_add64 _ _ _ x y w (by omega)) rfl)) ?_
                refine rg_put (d := 82) (v := .pt 102 5) rfl (og rfl (of_eff (s_field_pt rfl Tryd.underlying28 rfl ti3 rfl rfl rfl) rfl)) ?_
                refine rg_sto (nw := [(102, .bx 28 [.fl (.string x.id), .fl (.string x.plate), .fl (.string x.key), .fl (.int .i64 x.begun), .fl (.int .i64 x.since), .fl (.int .i64 (x.stage + 1)), .fl (.int .i64 1125899906842624), .fl (.int .i64 x.paid), .fl (.int .i64 x.paused), .fl (.int .i64 x.ap.state), .fl (.int .i64 x.ap.ground), .fl (.int .i64 x.ap.day)])]) rfl (og rfl (of_eff (s_store rfl rfl ti3 rfl rfl rfl rfl rfl rfl) rfl)) ?_
                refine rg_done rfl ?_
                refine a_rseq ?_
                refine rg_put (d := 83) (v := .d (.fl (.int .i64 ((due w cal x).1)))) rfl (og rfl (op_move rfl rfl rfl)) ?_
                refine rg_put (d := 84) (v := .pt 102 4) rfl (og rfl (of_eff (s_field_pt rfl Tryd.underlying28 rfl ti3 rfl rfl rfl) rfl)) ?_
                refine rg_sto (nw := [(102, .bx 28 [.fl (.string x.id), .fl (.string x.plate), .fl (.string x.key), .fl (.int .i64 x.begun), .fl (.int .i64 ((due w cal x).1)), .fl (.int .i64 (x.stage + 1)), .fl (.int .i64 1125899906842624), .fl (.int .i64 x.paid), .fl (.int .i64 x.paused), .fl (.int .i64 x.ap.state), .fl (.int .i64 x.ap.ground), .fl (.int .i64 x.ap.day)])]) rfl (og rfl (of_eff (s_store rfl rfl ti3 rfl rfl rfl rfl rfl rfl) rfl)) ?_
                refine rg_done rfl ?_
                refine a_rseq ?_
                refine rg_put (d := 85) (v := .d (.ag (eCs ((Cs.mk x.id x.plate x.key x.begun ((due w cal x).1) (x.stage + 1) 1125899906842624 x.paid x.paused x.ap))))) rfl (og rfl (of_eff (s_load_pts rfl Tryd.underlying28 rfl ti28 rfl rfl rfl rfl) rfl)) ?_
                refine rg_sto (nw := [(103, .bx 28 ((eCs ((Cs.mk x.id x.plate x.key x.begun ((due w cal x).1) (x.stage + 1) 1125899906842624 x.paid x.paused x.ap)))))]) rfl (og rfl (of_eff (s_store rfl rfl ti28 rfl rfl rfl rfl rfl rfl) rfl)) ?_
                refine rg_put (d := 9) (v := .d (.fl (.bool true))) rfl (og rfl (op_assign rfl rfl rfl)) ?_
                refine rg_done rfl ?_
                refine a_ret ?_
                show ∃ ds, ResL _ _ _ ds ∧ RV.of ds = _
                refine ⟨[.ag [.fl (.string (x.id)), .fl (.string (x.plate)), .fl (.string (x.key)), .fl (.int .i64 (x.begun)), .fl (.int .i64 ((due w cal x).1)), .fl (.int .i64 (x.stage + 1)), .fl (.int .i64 (1125899906842624)), .fl (.int .i64 (x.paid)), .fl (.int .i64 (x.paused)), .fl (.int .i64 ((x.ap).state)), .fl (.int .i64 ((x.ap).ground)), .fl (.int .i64 ((x.ap).day))], .fl (.bool true)], (.cons (.cellT rfl rfl Tryd.underlying28 rfl ti28 rfl (Cv.ag (xs := [.fl (.string (x.id)), .fl (.string (x.plate)), .fl (.string (x.key)), .fl (.int .i64 (x.begun)), .fl (.int .i64 ((due w cal x).1)), .fl (.int .i64 (x.stage + 1)), .fl (.int .i64 (1125899906842624)), .fl (.int .i64 (x.paid)), .fl (.int .i64 (x.paused)), .fl (.int .i64 ((x.ap).state)), .fl (.int .i64 ((x.ap).ground)), .fl (.int .i64 ((x.ap).day))]) (ys := [.fl (.string (x.id)), .fl (.string (x.plate)), .fl (.string (x.key)), .fl (.int .i64 (x.begun)), .fl (.int .i64 ((due w cal x).1)), .fl (.int .i64 (x.stage + 1)), .fl (.int .i64 (1125899906842624)), .fl (.int .i64 (x.paid)), .fl (.int .i64 (x.paused)), .fl (.int .i64 ((x.ap).state)), .fl (.int .i64 ((x.ap).ground)), .fl (.int .i64 ((x.ap).day))]) ⟨Cv.refl _, Cv.refl _, Cv.refl _, Cv.refl _, Cv.refl _, Cv.refl _, Cv.refl _, Cv.refl _, Cv.refl _, Cv.refl _, Cv.refl _, Cv.refl _, trivial⟩)) (.cons (.tmp rfl (.d _)) .nil)), ?_⟩
                have hm : min (x.owed + ix w.fees (x.stage - 1).toNat) 1125899906842624 = 1125899906842624 := by omega
                have hv : fwd w cal x = { x with owed := 1125899906842624, stage := x.stage + 1, since := (due w cal x).1 } := by unfold fwd; rw [hm]
                have hu : sp w cal x day = (fwd w cal x, true) := by
                  unfold sp nxE; simp only [h1, h11, h21, h31, h32, h33, h39, h41]; rfl
                rw [hu, hv]; rfl
              · skip
                have h43 := f_dec h41
                refine a_skip ?_
                show A _ _ _ _ _ _ _
                refine a_rseq ?_
                refine rg_put (d := 79) (v := .pt 102 5) rfl (og rfl (of_eff (s_field_pt rfl Tryd.underlying28 rfl ti3 rfl rfl rfl) rfl)) ?_
                refine rg_put (d := 80) (v := .d (.fl (.int .i64 x.stage))) rfl (og rfl (op_load_pt rfl Tryd.underlying3 rfl rfl rfl rfl rfl)) ?_
                refine rg_put (d := 81) (v := .d (.fl (.int .i64 (x.stage + 1)))) rfl (og rfl (op_bin rfl rfl rfl (fun x y w => b_add64 _ _ _ x y w (by omega)) rfl)) ?_
                refine rg_put (d := 82) (v := .pt 102 5) rfl (og rfl (of_eff (s_field_pt rfl Tryd.underlying28 rfl ti3 rfl rfl rfl) rfl)) ?_
                refine rg_sto (nw := [(102, .bx 28 [.fl (.string x.id), .fl (.string x.plate), .fl (.string x.key), .fl (.int .i64 x.begun), .fl (.int .i64 x.since), .fl (.int .i64 (x.stage + 1)), .fl (.int .i64 ((x.owed + (ix w.fees ((x.stage - 1)).toNat)))), .fl (.int .i64 x.paid), .fl (.int .i64 x.paused), .fl (.int .i64 x.ap.state), .fl (.int .i64 x.ap.ground), .fl (.int .i64 x.ap.day)])]) rfl (og rfl (of_eff (s_store rfl rfl ti3 rfl rfl rfl rfl rfl rfl) rfl)) ?_
                refine rg_done rfl ?_
                refine a_rseq ?_
                refine rg_put (d := 83) (v := .d (.fl (.int .i64 ((due w cal x).1)))) rfl (og rfl (op_move rfl rfl rfl)) ?_
                refine rg_put (d := 84) (v := .pt 102 4) rfl (og rfl (of_eff (s_field_pt rfl Tryd.underlying28 rfl ti3 rfl rfl rfl) rfl)) ?_
                refine rg_sto (nw := [(102, .bx 28 [.fl (.string x.id), .fl (.string x.plate), .fl (.string x.key), .fl (.int .i64 x.begun), .fl (.int .i64 ((due w cal x).1)), .fl (.int .i64 (x.stage + 1)), .fl (.int .i64 ((x.owed + (ix w.fees ((x.stage - 1)).toNat)))), .fl (.int .i64 x.paid), .fl (.int .i64 x.paused), .fl (.int .i64 x.ap.state), .fl (.int .i64 x.ap.ground), .fl (.int .i64 x.ap.day)])]) rfl (og rfl (of_eff (s_store rfl rfl ti3 rfl rfl rfl rfl rfl rfl) rfl)) ?_
                refine rg_done rfl ?_
                refine a_rseq ?_
                refine rg_put (d := 85) (v := .d (.ag (eCs ((Cs.mk x.id x.plate x.key x.begun ((due w cal x).1) (x.stage + 1) ((x.owed + (ix w.fees ((x.stage - 1)).toNat))) x.paid x.paused x.ap))))) rfl (og rfl (of_eff (s_load_pts rfl Tryd.underlying28 rfl ti28 rfl rfl rfl rfl) rfl)) ?_
                refine rg_sto (nw := [(103, .bx 28 ((eCs ((Cs.mk x.id x.plate x.key x.begun ((due w cal x).1) (x.stage + 1) ((x.owed + (ix w.fees ((x.stage - 1)).toNat))) x.paid x.paused x.ap)))))]) rfl (og rfl (of_eff (s_store rfl rfl ti28 rfl rfl rfl rfl rfl rfl) rfl)) ?_
                refine rg_put (d := 9) (v := .d (.fl (.bool true))) rfl (og rfl (op_assign rfl rfl rfl)) ?_
                refine rg_done rfl ?_
                refine a_ret ?_
                show ∃ ds, ResL _ _ _ ds ∧ RV.of ds = _
                refine ⟨[.ag [.fl (.string (x.id)), .fl (.string (x.plate)), .fl (.string (x.key)), .fl (.int .i64 (x.begun)), .fl (.int .i64 ((due w cal x).1)), .fl (.int .i64 (x.stage + 1)), .fl (.int .i64 (x.owed + (ix w.fees (x.stage - 1).toNat))), .fl (.int .i64 (x.paid)), .fl (.int .i64 (x.paused)), .fl (.int .i64 ((x.ap).state)), .fl (.int .i64 ((x.ap).ground)), .fl (.int .i64 ((x.ap).day))], .fl (.bool true)], (.cons (.cellT rfl rfl Tryd.underlying28 rfl ti28 rfl (Cv.ag (xs := [.fl (.string (x.id)), .fl (.string (x.plate)), .fl (.string (x.key)), .fl (.int .i64 (x.begun)), .fl (.int .i64 ((due w cal x).1)), .fl (.int .i64 (x.stage + 1)), .fl (.int .i64 (x.owed + (ix w.fees (x.stage - 1).toNat))), .fl (.int .i64 (x.paid)), .fl (.int .i64 (x.paused)), .fl (.int .i64 ((x.ap).state)), .fl (.int .i64 ((x.ap).ground)), .fl (.int .i64 ((x.ap).day))]) (ys := [.fl (.string (x.id)), .fl (.string (x.plate)), .fl (.string (x.key)), .fl (.int .i64 (x.begun)), .fl (.int .i64 ((due w cal x).1)), .fl (.int .i64 (x.stage + 1)), .fl (.int .i64 (x.owed + (ix w.fees (x.stage - 1).toNat))), .fl (.int .i64 (x.paid)), .fl (.int .i64 (x.paused)), .fl (.int .i64 ((x.ap).state)), .fl (.int .i64 ((x.ap).ground)), .fl (.int .i64 ((x.ap).day))]) ⟨Cv.refl _, Cv.refl _, Cv.refl _, Cv.refl _, Cv.refl _, Cv.refl _, Cv.refl _, Cv.refl _, Cv.refl _, Cv.refl _, Cv.refl _, Cv.refl _, trivial⟩)) (.cons (.tmp rfl (.d _)) .nil)), ?_⟩
                have hm : min (x.owed + ix w.fees (x.stage - 1).toNat) 1125899906842624 = (x.owed + (ix w.fees ((x.stage - 1)).toNat)) := by omega
                have hv : fwd w cal x = { x with owed := (x.owed + (ix w.fees ((x.stage - 1)).toNat)), stage := x.stage + 1, since := (due w cal x).1 } := by unfold fwd; rw [hm]
                have hu : sp w cal x day = (fwd w cal x, true) := by
                  unfold sp nxE; simp only [h1, h11, h21, h31, h32, h33, h39, h41]; rfl
                rw [hu, hv]; rfl
            · skip
              have h44 := f_dec h39
              refine a_skip ?_
              show A _ _ _ _ _ _ _
              refine a_rseq ?_
              refine rg_put (d := 86) (v := .d (.ag (eCs x))) rfl (og rfl (of_eff (s_load_pts rfl Tryd.underlying28 rfl ti28 rfl rfl rfl rfl) rfl)) ?_
              refine rg_sto (nw := [(103, .bx 28 (eCs x))]) rfl (og rfl (of_eff (s_store rfl rfl ti28 rfl rfl rfl rfl rfl rfl) rfl)) ?_
              refine rg_put (d := 9) (v := .d (.fl (.bool false))) rfl (og rfl (op_assign rfl rfl rfl)) ?_
              refine rg_done rfl ?_
              refine a_ret ?_
              show ∃ ds, ResL _ _ _ ds ∧ RV.of ds = _
              refine ⟨[.ag [.fl (.string x.id), .fl (.string x.plate), .fl (.string x.key), .fl (.int .i64 x.begun), .fl (.int .i64 x.since), .fl (.int .i64 x.stage), .fl (.int .i64 x.owed), .fl (.int .i64 x.paid), .fl (.int .i64 x.paused), .fl (.int .i64 x.ap.state), .fl (.int .i64 x.ap.ground), .fl (.int .i64 x.ap.day)], .fl (.bool false)], (.cons (.cellT rfl rfl Tryd.underlying28 rfl ti28 rfl (Cv.ag (xs := [.fl (.string x.id), .fl (.string x.plate), .fl (.string x.key), .fl (.int .i64 x.begun), .fl (.int .i64 x.since), .fl (.int .i64 x.stage), .fl (.int .i64 x.owed), .fl (.int .i64 x.paid), .fl (.int .i64 x.paused), .fl (.int .i64 x.ap.state), .fl (.int .i64 x.ap.ground), .fl (.int .i64 x.ap.day)]) (ys := [.fl (.string x.id), .fl (.string x.plate), .fl (.string x.key), .fl (.int .i64 x.begun), .fl (.int .i64 x.since), .fl (.int .i64 x.stage), .fl (.int .i64 x.owed), .fl (.int .i64 x.paid), .fl (.int .i64 x.paused), .fl (.int .i64 x.ap.state), .fl (.int .i64 x.ap.ground), .fl (.int .i64 x.ap.day)]) ⟨Cv.refl _, Cv.refl _, Cv.refl _, Cv.refl _, Cv.refl _, Cv.refl _, Cv.refl _, Cv.refl _, Cv.refl _, Cv.refl _, Cv.refl _, Cv.refl _, trivial⟩)) (.cons (.tmp rfl (.d _)) .nil)), ?_⟩
              have hu : sp w cal x day = (x, false) := by
                unfold sp nxE; simp only [h1, h11, h21, h31, h32, h33, h39]; rfl
              rw [hu]; rfl
        · skip
          have h45 := t_not h31
          refine rg_put (d := 45) (v := .d (.fl undef)) rfl (on rfl rfl rfl h31) ?_
          refine rg_put (d := 46) (v := .d (.fl undef)) rfl (on rfl rfl rfl h31) ?_
          refine rg_put (d := 47) (v := .d (.fl undef)) rfl (on rfl rfl rfl h31) ?_
          refine rg_put (d := 48) (v := .d (.fl (.bool true))) rfl (oy rfl rfl rfl h21 (op_pick rfl rfl (by rw [h31]; rfl) rfl)) ?_
          refine rg_put (d := 49) (v := .d (.fl (.bool true))) rfl (og rfl (op_pick rfl rfl (by rw [h21]; rfl) rfl)) ?_
          refine rg_done rfl ?_
          refine a_condK rfl rfl ?_
          refine a_rseq ?_
          refine rg_put (d := 50) (v := .pt 102 5) rfl (og rfl (of_eff (s_field_pt rfl Tryd.underlying28 rfl ti3 rfl rfl rfl) rfl)) ?_
          refine rg_sto (nw := [(102, .bx 28 [.fl (.string x.id), .fl (.string x.plate), .fl (.string x.key), .fl (.int .i64 x.begun), .fl (.int .i64 x.since), .fl (.int .i64 8), .fl (.int .i64 x.owed), .fl (.int .i64 x.paid), .fl (.int .i64 x.paused), .fl (.int .i64 x.ap.state), .fl (.int .i64 x.ap.ground), .fl (.int .i64 x.ap.day)])]) rfl (og rfl (of_eff (s_store rfl rfl ti3 rfl rfl rfl rfl rfl rfl) rfl)) ?_
          refine rg_done rfl ?_
          refine a_seq ?_
          refine a_rseq ?_
          refine rg_put (d := 51) (v := .d (.fl (.int .i64 (((x.begun + w.limit) + x.paused))))) rfl (og rfl (op_move rfl rfl rfl)) ?_
          refine rg_put (d := 52) (v := .pt 102 4) rfl (og rfl (of_eff (s_field_pt rfl Tryd.underlying28 rfl ti3 rfl rfl rfl) rfl)) ?_
          refine rg_put (d := 53) (v := .d (.fl (.int .i64 x.since))) rfl (og rfl (op_load_pt rfl Tryd.underlying3 rfl rfl rfl rfl rfl)) ?_
          refine rg_put (d := 54) (v := .d (.fl (.bool ((decide (x.since < ((x.begun + w.limit) + x.paused))))))) rfl (og rfl (op_bin rfl rfl rfl (b_gtr _ _ _ _) rfl)) ?_
          refine rg_done rfl ?_
          refine a_cond rfl (fun h46 => ?_) (fun h46 => ?_)
          · skip
            have h47 := t_dec h46
            refine a_region ?_
            refine rg_put (d := 55) (v := .d (.fl (.int .i64 (((x.begun + w.limit) + x.paused))))) rfl (og rfl (op_move rfl rfl rfl)) ?_
            refine rg_put (d := 56) (v := .pt 102 4) rfl (og rfl (of_eff (s_field_pt rfl Tryd.underlying28 rfl ti3 rfl rfl rfl) rfl)) ?_
            refine rg_sto (nw := [(102, .bx 28 [.fl (.string x.id), .fl (.string x.plate), .fl (.string x.key), .fl (.int .i64 x.begun), .fl (.int .i64 (((x.begun + w.limit) + x.paused))), .fl (.int .i64 8), .fl (.int .i64 x.owed), .fl (.int .i64 x.paid), .fl (.int .i64 x.paused), .fl (.int .i64 x.ap.state), .fl (.int .i64 x.ap.ground), .fl (.int .i64 x.ap.day)])]) rfl (og rfl (of_eff (s_store rfl rfl ti3 rfl rfl rfl rfl rfl rfl) rfl)) ?_
            refine rg_done rfl ?_
            show A _ _ _ _ _ _ _
            refine a_rseq ?_
            refine rg_put (d := 57) (v := .d (.ag (eCs ((Cs.mk x.id x.plate x.key x.begun (((x.begun + w.limit) + x.paused)) 8 x.owed x.paid x.paused x.ap))))) rfl (og rfl (of_eff (s_load_pts rfl Tryd.underlying28 rfl ti28 rfl rfl rfl rfl) rfl)) ?_
            refine rg_sto (nw := [(103, .bx 28 ((eCs ((Cs.mk x.id x.plate x.key x.begun (((x.begun + w.limit) + x.paused)) 8 x.owed x.paid x.paused x.ap)))))]) rfl (og rfl (of_eff (s_store rfl rfl ti28 rfl rfl rfl rfl rfl rfl) rfl)) ?_
            refine rg_put (d := 9) (v := .d (.fl (.bool true))) rfl (og rfl (op_assign rfl rfl rfl)) ?_
            refine rg_done rfl ?_
            refine a_ret ?_
            show ∃ ds, ResL _ _ _ ds ∧ RV.of ds = _
            refine ⟨[.ag [.fl (.string (x.id)), .fl (.string (x.plate)), .fl (.string (x.key)), .fl (.int .i64 (x.begun)), .fl (.int .i64 ((x.begun + w.limit) + x.paused)), .fl (.int .i64 (8)), .fl (.int .i64 (x.owed)), .fl (.int .i64 (x.paid)), .fl (.int .i64 (x.paused)), .fl (.int .i64 ((x.ap).state)), .fl (.int .i64 ((x.ap).ground)), .fl (.int .i64 ((x.ap).day))], .fl (.bool true)], (.cons (.cellT rfl rfl Tryd.underlying28 rfl ti28 rfl (Cv.ag (xs := [.fl (.string (x.id)), .fl (.string (x.plate)), .fl (.string (x.key)), .fl (.int .i64 (x.begun)), .fl (.int .i64 ((x.begun + w.limit) + x.paused)), .fl (.int .i64 (8)), .fl (.int .i64 (x.owed)), .fl (.int .i64 (x.paid)), .fl (.int .i64 (x.paused)), .fl (.int .i64 ((x.ap).state)), .fl (.int .i64 ((x.ap).ground)), .fl (.int .i64 ((x.ap).day))]) (ys := [.fl (.string (x.id)), .fl (.string (x.plate)), .fl (.string (x.key)), .fl (.int .i64 (x.begun)), .fl (.int .i64 ((x.begun + w.limit) + x.paused)), .fl (.int .i64 (8)), .fl (.int .i64 (x.owed)), .fl (.int .i64 (x.paid)), .fl (.int .i64 (x.paused)), .fl (.int .i64 ((x.ap).state)), .fl (.int .i64 ((x.ap).ground)), .fl (.int .i64 ((x.ap).day))]) ⟨Cv.refl _, Cv.refl _, Cv.refl _, Cv.refl _, Cv.refl _, Cv.refl _, Cv.refl _, Cv.refl _, Cv.refl _, Cv.refl _, Cv.refl _, Cv.refl _, trivial⟩)) (.cons (.tmp rfl (.d _)) .nil)), ?_⟩
            have hm : max x.since (nxE w x) = ((x.begun + w.limit) + x.paused) := by unfold nxE; omega
            have hv : bar w x = { x with stage := 8, since := ((x.begun + w.limit) + x.paused) } := by unfold bar; rw [hm]
            have hu : sp w cal x day = (bar w x, true) := by
              unfold sp nxE; simp only [h1, h11, h21, h31, h45, h46]; rfl
            rw [hu, hv]; rfl
          · skip
            have h48 := f_dec h46
            refine a_skip ?_
            show A _ _ _ _ _ _ _
            refine a_rseq ?_
            refine rg_put (d := 57) (v := .d (.ag (eCs (Cs.mk x.id x.plate x.key x.begun x.since 8 x.owed x.paid x.paused x.ap)))) rfl (og rfl (of_eff (s_load_pts rfl Tryd.underlying28 rfl ti28 rfl rfl rfl rfl) rfl)) ?_
            refine rg_sto (nw := [(103, .bx 28 ((eCs (Cs.mk x.id x.plate x.key x.begun x.since 8 x.owed x.paid x.paused x.ap))))]) rfl (og rfl (of_eff (s_store rfl rfl ti28 rfl rfl rfl rfl rfl rfl) rfl)) ?_
            refine rg_put (d := 9) (v := .d (.fl (.bool true))) rfl (og rfl (op_assign rfl rfl rfl)) ?_
            refine rg_done rfl ?_
            refine a_ret ?_
            show ∃ ds, ResL _ _ _ ds ∧ RV.of ds = _
            refine ⟨[.ag [.fl (.string (x.id)), .fl (.string (x.plate)), .fl (.string (x.key)), .fl (.int .i64 (x.begun)), .fl (.int .i64 (x.since)), .fl (.int .i64 (8)), .fl (.int .i64 (x.owed)), .fl (.int .i64 (x.paid)), .fl (.int .i64 (x.paused)), .fl (.int .i64 ((x.ap).state)), .fl (.int .i64 ((x.ap).ground)), .fl (.int .i64 ((x.ap).day))], .fl (.bool true)], (.cons (.cellT rfl rfl Tryd.underlying28 rfl ti28 rfl (Cv.ag (xs := [.fl (.string (x.id)), .fl (.string (x.plate)), .fl (.string (x.key)), .fl (.int .i64 (x.begun)), .fl (.int .i64 (x.since)), .fl (.int .i64 (8)), .fl (.int .i64 (x.owed)), .fl (.int .i64 (x.paid)), .fl (.int .i64 (x.paused)), .fl (.int .i64 ((x.ap).state)), .fl (.int .i64 ((x.ap).ground)), .fl (.int .i64 ((x.ap).day))]) (ys := [.fl (.string (x.id)), .fl (.string (x.plate)), .fl (.string (x.key)), .fl (.int .i64 (x.begun)), .fl (.int .i64 (x.since)), .fl (.int .i64 (8)), .fl (.int .i64 (x.owed)), .fl (.int .i64 (x.paid)), .fl (.int .i64 (x.paused)), .fl (.int .i64 ((x.ap).state)), .fl (.int .i64 ((x.ap).ground)), .fl (.int .i64 ((x.ap).day))]) ⟨Cv.refl _, Cv.refl _, Cv.refl _, Cv.refl _, Cv.refl _, Cv.refl _, Cv.refl _, Cv.refl _, Cv.refl _, Cv.refl _, Cv.refl _, Cv.refl _, trivial⟩)) (.cons (.tmp rfl (.d _)) .nil)), ?_⟩
            have hm : max x.since (nxE w x) = x.since := by unfold nxE; omega
            have hv : bar w x = { x with stage := 8, since := x.since } := by unfold bar; rw [hm]
            have hu : sp w cal x day = (bar w x, true) := by
              unfold sp nxE; simp only [h1, h11, h21, h31, h45, h46]; rfl
            rw [hu, hv]; rfl
set_option maxHeartbeats 4000000 in
set_option maxRecDepth 100000 in
theorem adv18 (w : Lw) (cal : List Int) (x : Cs) (day : Int) (hl0 : cal.length < 9223372036854775807) : Ctr Tryd.prog 25 [.ag (eLw w), .sl 1 (List.map (rI .i64) cal), .ag (eCs x), .fl (.int .i64 day)] (.tu [.ag (eCs (adv w cal x day).1), .fl (.int .i64 (adv w cal x day).2)]) := by
  refine ctr (n := 82) (rs := #[.cell 8 28, .tmp 9]) (L := [(0, .d (.ag (eLw w))), (1, .d (.sl 1 (List.map (rI .i64) cal))), (2, .d (.ag (eCs x))), (3, .d (.fl (.int .i64 day)))]) Tryd.func25 rfl rfl rfl rfl rfl (fun w0 U0 => ?_)
  refine a_rseq ?_
  refine rg_nam (d := 4) (v := .pt 101 0) (m := 101) (nw := [(101, .bx 24 (eLw w))]) rfl (og rfl (of_eff (op_box 101 rfl rfl rfl rfl) rfl)) rfl ?_
  refine rg_nam (d := 6) (v := .pt 102 0) (m := 102) (nw := [(102, .bx 28 (eCs x))]) rfl (og rfl (of_eff (op_box 102 rfl rfl rfl rfl) rfl)) rfl ?_
  refine rg_nam (d := 8) (v := .pt 103 0) (m := 103) (nw := [(103, .bx 28 ([.fl (.string (⟨#[]⟩)), .fl (.string (⟨#[]⟩)), .fl (.string (⟨#[]⟩)), .fl (.int .i64 0), .fl (.int .i64 0), .fl (.int .i64 0), .fl (.int .i64 0), .fl (.int .i64 0), .fl (.int .i64 0), .fl (.int .i64 0), .fl (.int .i64 0), .fl (.int .i64 0)]))]) rfl (og rfl (of_eff (s_alloc 103 rfl ti28 (by kernel_rfl) rfl) rfl)) rfl ?_
  refine rg_put (d := 9) (v := .d (.fl (.int .i64 0))) rfl (og rfl (op_assign rfl rfl rfl)) ?_
  refine rg_done rfl ?_
  refine a_rseq ?_
  refine rg_put (d := 14) (v := .d (.ag (eLw w))) rfl (og rfl (of_eff (s_load_pts rfl Tryd.underlying24 rfl ti24 rfl rfl rfl rfl) rfl)) ?_
  refine rg_put (d := 15) (v := .d (.fl (.int .i64 (ckL w)))) rfl (og rfl (op_call rfl Tryd.func30 nm30 rfl (.cons rfl (.d _) .nil) (ck13 w) rfl)) ?_
  refine rg_put (d := 10) (v := .d (.fl (.int .i64 (ckL w)))) rfl (og rfl (op_assign rfl rfl rfl)) ?_
  refine rg_done rfl ?_
  refine a_seq ?_
  refine a_rseq ?_
  refine rg_put (d := 16) (v := .d (.fl (.int .i64 (ckL w)))) rfl (og rfl (op_move rfl rfl rfl)) ?_
  refine rg_put (d := 17) (v := .d (.fl (.bool (((ckL w) != 0))))) rfl (og rfl (op_bin rfl rfl rfl (b_neq _ _ _ _) rfl)) ?_
  refine rg_done rfl ?_
  refine a_cond rfl (fun h1 => ?_) (fun h1 => ?_)
  · skip
    have h2 := t_bne h1
    refine a_rseq ?_
    refine rg_put (d := 18) (v := .d (.ag (eCs ((Cs.mk (⟨#[]⟩) (⟨#[]⟩) (⟨#[]⟩) 0 0 0 0 0 0 (Ap.mk 0 0 0)))))) rfl (og rfl (of_eff (op_build rfl Tryd.underlying28 ti28 rfl (by kernel_rfl) (by kernel_rfl) (pl := #[(0, 1), (1, 1), (2, 1), (3, 1), (4, 1), (5, 1), (6, 1), (7, 1), (8, 1), (9, 3)]) (by kernel_rfl) .nil rfl) rfl)) ?_
    refine rg_put (d := 19) (v := .d (.fl (.int .i64 (ckL w)))) rfl (og rfl (op_move rfl rfl rfl)) ?_
    refine rg_sto (nw := [(103, .bx 28 ((eCs ((Cs.mk (⟨#[]⟩) (⟨#[]⟩) (⟨#[]⟩) 0 0 0 0 0 0 (Ap.mk 0 0 0))))))]) rfl (og rfl (of_eff (s_store rfl rfl ti28 rfl rfl rfl rfl rfl rfl) rfl)) ?_
    refine rg_put (d := 9) (v := .d (.fl (.int .i64 (ckL w)))) rfl (og rfl (op_assign rfl rfl rfl)) ?_
    refine rg_done rfl ?_
    refine a_ret ?_
    show ∃ ds, ResL _ _ _ ds ∧ RV.of ds = _
    refine ⟨[.ag [.fl (.string (⟨#[]⟩)), .fl (.string (⟨#[]⟩)), .fl (.string (⟨#[]⟩)), .fl (.int .i64 (0)), .fl (.int .i64 (0)), .fl (.int .i64 (0)), .fl (.int .i64 (0)), .fl (.int .i64 (0)), .fl (.int .i64 (0)), .fl (.int .i64 (0)), .fl (.int .i64 (0)), .fl (.int .i64 (0))], .fl (.int .i64 (ckL w))], (.cons (.cellT rfl rfl Tryd.underlying28 rfl ti28 rfl (Cv.ag (xs := [.fl (.string (⟨#[]⟩)), .fl (.string (⟨#[]⟩)), .fl (.string (⟨#[]⟩)), .fl (.int .i64 (0)), .fl (.int .i64 (0)), .fl (.int .i64 (0)), .fl (.int .i64 (0)), .fl (.int .i64 (0)), .fl (.int .i64 (0)), .fl (.int .i64 (0)), .fl (.int .i64 (0)), .fl (.int .i64 (0))]) (ys := [.fl (.string (⟨#[]⟩)), .fl (.string (⟨#[]⟩)), .fl (.string (⟨#[]⟩)), .fl (.int .i64 (0)), .fl (.int .i64 (0)), .fl (.int .i64 (0)), .fl (.int .i64 (0)), .fl (.int .i64 (0)), .fl (.int .i64 (0)), .fl (.int .i64 (0)), .fl (.int .i64 (0)), .fl (.int .i64 (0))]) ⟨Cv.refl _, Cv.refl _, Cv.refl _, Cv.refl _, Cv.refl _, Cv.refl _, Cv.refl _, Cv.refl _, Cv.refl _, Cv.refl _, Cv.refl _, Cv.refl _, trivial⟩)) (.cons (.tmp rfl (.d _)) .nil)), ?_⟩
    have hu : chA w x day = (ckL w) := by
      unfold chA; simp only [h1]; rfl
    have hv : adv w cal x day = (z0, (ckL w)) := by
      unfold adv; rw [hu]; rw [if_pos (by simpa using h1)]
    rw [hv]; rfl
  · skip
    have h3 := f_bne h1
    refine a_skip ?_
    show A _ _ _ _ _ _ _
    refine a_seq ?_
    refine a_rseq ?_
    refine rg_put (d := 20) (v := .d (.fl (.int .i64 day))) rfl (og rfl (op_move rfl rfl rfl)) ?_
    refine rg_put (d := 21) (v := .d (.fl (.bool (isD day)))) rfl (og rfl (op_call rfl Tryd.func31 nm31 rfl (.cons rfl (.d _) .nil) (isD33 day) rfl)) ?_
    refine rg_put (d := 22) (v := .d (.fl (.bool ((!(isD day)))))) rfl (og rfl (op_un rfl rfl (u_not _) rfl)) ?_
    refine rg_put (d := 23) (v := .d (.fl (.bool ((!(isD day)))))) rfl (og rfl (op_move rfl rfl rfl)) ?_
    rcases fot ((!(isD day))) with h4 | h4
    · skip
      have h5 := f_not h4
      refine rg_put (d := 24) (v := .pt 102 3) rfl (oy rfl rfl rfl h4 (of_eff (s_field_pt rfl Tryd.underlying28 rfl ti3 rfl rfl rfl) rfl)) ?_
      refine rg_put (d := 25) (v := .d (.fl (.int .i64 x.begun))) rfl (oy rfl rfl rfl h4 (op_load_pt rfl Tryd.underlying3 rfl rfl rfl rfl rfl)) ?_
      refine rg_put (d := 26) (v := .d (.fl (.bool (isD x.begun)))) rfl (oy rfl rfl rfl h4 (op_call rfl Tryd.func31 nm31 rfl (.cons rfl (.d _) .nil) (isD33 x.begun) rfl)) ?_
      refine rg_put (d := 27) (v := .d (.fl (.bool ((!(isD x.begun)))))) rfl (oy rfl rfl rfl h4 (op_un rfl rfl (u_not _) rfl)) ?_
      refine rg_put (d := 28) (v := .d (.fl (.bool ((!(isD x.begun)))))) rfl (og rfl (op_pick rfl rfl (by rw [h4]; rfl) rfl)) ?_
      refine rg_put (d := 29) (v := .d (.fl (.bool ((!(isD x.begun)))))) rfl (og rfl (op_move rfl rfl rfl)) ?_
      rcases fot ((!(isD x.begun))) with h6 | h6
      · skip
        have h7 := f_not h6
        refine rg_put (d := 30) (v := .pt 102 4) rfl (oy rfl rfl rfl h6 (of_eff (s_field_pt rfl Tryd.underlying28 rfl ti3 rfl rfl rfl) rfl)) ?_
        refine rg_put (d := 31) (v := .d (.fl (.int .i64 x.since))) rfl (oy rfl rfl rfl h6 (op_load_pt rfl Tryd.underlying3 rfl rfl rfl rfl rfl)) ?_
        refine rg_put (d := 32) (v := .d (.fl (.bool (isD x.since)))) rfl (oy rfl rfl rfl h6 (op_call rfl Tryd.func31 nm31 rfl (.cons rfl (.d _) .nil) (isD33 x.since) rfl)) ?_
        refine rg_put (d := 33) (v := .d (.fl (.bool ((!(isD x.since)))))) rfl (oy rfl rfl rfl h6 (op_un rfl rfl (u_not _) rfl)) ?_
        refine rg_put (d := 34) (v := .d (.fl (.bool ((!(isD x.since)))))) rfl (og rfl (op_pick rfl rfl (by rw [h6]; rfl) rfl)) ?_
        refine rg_put (d := 35) (v := .d (.fl (.bool ((!(isD x.since)))))) rfl (og rfl (op_move rfl rfl rfl)) ?_
        rcases fot ((!(isD x.since))) with h8 | h8
        · skip
          have h9 := f_not h8
          refine rg_put (d := 36) (v := .pt 102 8) rfl (oy rfl rfl rfl h8 (of_eff (s_field_pt rfl Tryd.underlying28 rfl ti3 rfl rfl rfl) rfl)) ?_
          refine rg_put (d := 37) (v := .d (.fl (.int .i64 x.paused))) rfl (oy rfl rfl rfl h8 (op_load_pt rfl Tryd.underlying3 rfl rfl rfl rfl rfl)) ?_
          refine rg_put (d := 38) (v := .d (.fl (.bool ((decide (x.paused < 0)))))) rfl (oy rfl rfl rfl h8 (op_bin rfl rfl rfl (b_lss _ _ _ _) rfl)) ?_
          refine rg_put (d := 39) (v := .d (.fl (.bool ((decide (x.paused < 0)))))) rfl (og rfl (op_pick rfl rfl (by rw [h8]; rfl) rfl)) ?_
          refine rg_put (d := 40) (v := .d (.fl (.bool ((decide (x.paused < 0)))))) rfl (og rfl (op_move rfl rfl rfl)) ?_
          rcases fot ((decide (x.paused < 0))) with h10 | h10
          · skip
            have h11 := f_dec h10
            refine rg_put (d := 41) (v := .pt 102 8) rfl (oy rfl rfl rfl h10 (of_eff (s_field_pt rfl Tryd.underlying28 rfl ti3 rfl rfl rfl) rfl)) ?_
            refine rg_put (d := 42) (v := .d (.fl (.int .i64 x.paused))) rfl (oy rfl rfl rfl h10 (op_load_pt rfl Tryd.underlying3 rfl rfl rfl rfl rfl)) ?_
            refine rg_put (d := 43) (v := .d (.fl (.bool ((decide (795364 < x.paused)))))) rfl (oy rfl rfl rfl h10 (op_bin rfl rfl rfl (b_gtr _ _ _ _) rfl)) ?_
            refine rg_put (d := 44) (v := .d (.fl (.bool ((decide (795364 < x.paused)))))) rfl (og rfl (op_pick rfl rfl (by rw [h10]; rfl) rfl)) ?_
            refine rg_done rfl ?_
            refine a_cond rfl (fun h12 => ?_) (fun h12 => ?_)
            · skip
              have h13 := t_dec h12
              refine a_rseq ?_
              refine rg_put (d := 45) (v := .d (.ag (eCs ((Cs.mk (⟨#[]⟩) (⟨#[]⟩) (⟨#[]⟩) 0 0 0 0 0 0 (Ap.mk 0 0 0)))))) rfl (og rfl (of_eff (op_build rfl Tryd.underlying28 ti28 rfl (by kernel_rfl) (by kernel_rfl) (pl := #[(0, 1), (1, 1), (2, 1), (3, 1), (4, 1), (5, 1), (6, 1), (7, 1), (8, 1), (9, 3)]) (by kernel_rfl) .nil rfl) rfl)) ?_
              refine rg_sto (nw := [(103, .bx 28 ((eCs ((Cs.mk (⟨#[]⟩) (⟨#[]⟩) (⟨#[]⟩) 0 0 0 0 0 0 (Ap.mk 0 0 0))))))]) rfl (og rfl (of_eff (s_store rfl rfl ti28 rfl rfl rfl rfl rfl rfl) rfl)) ?_
              refine rg_put (d := 9) (v := .d (.fl (.int .i64 12))) rfl (og rfl (op_assign rfl rfl rfl)) ?_
              refine rg_done rfl ?_
              refine a_ret ?_
              show ∃ ds, ResL _ _ _ ds ∧ RV.of ds = _
              refine ⟨[.ag [.fl (.string (⟨#[]⟩)), .fl (.string (⟨#[]⟩)), .fl (.string (⟨#[]⟩)), .fl (.int .i64 (0)), .fl (.int .i64 (0)), .fl (.int .i64 (0)), .fl (.int .i64 (0)), .fl (.int .i64 (0)), .fl (.int .i64 (0)), .fl (.int .i64 (0)), .fl (.int .i64 (0)), .fl (.int .i64 (0))], .fl (.int .i64 12)], (.cons (.cellT rfl rfl Tryd.underlying28 rfl ti28 rfl (Cv.ag (xs := [.fl (.string (⟨#[]⟩)), .fl (.string (⟨#[]⟩)), .fl (.string (⟨#[]⟩)), .fl (.int .i64 (0)), .fl (.int .i64 (0)), .fl (.int .i64 (0)), .fl (.int .i64 (0)), .fl (.int .i64 (0)), .fl (.int .i64 (0)), .fl (.int .i64 (0)), .fl (.int .i64 (0)), .fl (.int .i64 (0))]) (ys := [.fl (.string (⟨#[]⟩)), .fl (.string (⟨#[]⟩)), .fl (.string (⟨#[]⟩)), .fl (.int .i64 (0)), .fl (.int .i64 (0)), .fl (.int .i64 (0)), .fl (.int .i64 (0)), .fl (.int .i64 (0)), .fl (.int .i64 (0)), .fl (.int .i64 (0)), .fl (.int .i64 (0)), .fl (.int .i64 (0))]) ⟨Cv.refl _, Cv.refl _, Cv.refl _, Cv.refl _, Cv.refl _, Cv.refl _, Cv.refl _, Cv.refl _, Cv.refl _, Cv.refl _, Cv.refl _, Cv.refl _, trivial⟩)) (.cons (.tmp rfl (.d _)) .nil)), ?_⟩
              have hu : chA w x day = 12 := by
                unfold chA; simp only [h1, h4, h5, h6, h7, h8, h9, h10, h12]; rfl
              have hv : adv w cal x day = (z0, 12) := by
                unfold adv; rw [hu]; rw [if_pos (by decide)]
              rw [hv]; rfl
            · skip
              have h14 := f_dec h12
              refine a_skip ?_
              show A _ _ _ _ _ _ _
              refine a_seq ?_
              refine a_rseq ?_
              refine rg_put (d := 46) (v := .pt 102 6) rfl (og rfl (of_eff (s_field_pt rfl Tryd.underlying28 rfl ti3 rfl rfl rfl) rfl)) ?_
              refine rg_put (d := 47) (v := .d (.fl (.int .i64 x.owed))) rfl (og rfl (op_load_pt rfl Tryd.underlying3 rfl rfl rfl rfl rfl)) ?_
              refine rg_put (d := 48) (v := .d (.fl (.bool ((decide (x.owed < 0)))))) rfl (og rfl (op_bin rfl rfl rfl (b_lss _ _ _ _) rfl)) ?_
              refine rg_put (d := 49) (v := .d (.fl (.bool ((decide (x.owed < 0)))))) rfl (og rfl (op_move rfl rfl rfl)) ?_
              rcases fot ((decide (x.owed < 0))) with h15 | h15
              · skip
                have h16 := f_dec h15
                refine rg_put (d := 50) (v := .pt 102 6) rfl (oy rfl rfl rfl h15 (of_eff (s_field_pt rfl Tryd.underlying28 rfl ti3 rfl rfl rfl) rfl)) ?_
                refine rg_put (d := 51) (v := .d (.fl (.int .i64 x.owed))) rfl (oy rfl rfl rfl h15 (op_load_pt rfl Tryd.underlying3 rfl rfl rfl rfl rfl)) ?_
                refine rg_put (d := 52) (v := .d (.fl (.bool ((decide (1125899906842624 < x.owed)))))) rfl (oy rfl rfl rfl h15 (op_bin rfl rfl rfl (b_gtr _ _ _ _) rfl)) ?_
                refine rg_put (d := 53) (v := .d (.fl (.bool ((decide (1125899906842624 < x.owed)))))) rfl (og rfl (op_pick rfl rfl (by rw [h15]; rfl) rfl)) ?_
                refine rg_done rfl ?_
                refine a_cond rfl (fun h17 => ?_) (fun h17 => ?_)
                · skip
                  have h18 := t_dec h17
                  refine a_rseq ?_
                  refine rg_put (d := 54) (v := .d (.ag (eCs ((Cs.mk (⟨#[]⟩) (⟨#[]⟩) (⟨#[]⟩) 0 0 0 0 0 0 (Ap.mk 0 0 0)))))) rfl (og rfl (of_eff (op_build rfl Tryd.underlying28 ti28 rfl (by kernel_rfl) (by kernel_rfl) (pl := #[(0, 1), (1, 1), (2, 1), (3, 1), (4, 1), (5, 1), (6, 1), (7, 1), (8, 1), (9, 3)]) (by kernel_rfl) .nil rfl) rfl)) ?_
                  refine rg_sto (nw := [(103, .bx 28 ((eCs ((Cs.mk (⟨#[]⟩) (⟨#[]⟩) (⟨#[]⟩) 0 0 0 0 0 0 (Ap.mk 0 0 0))))))]) rfl (og rfl (of_eff (s_store rfl rfl ti28 rfl rfl rfl rfl rfl rfl) rfl)) ?_
                  refine rg_put (d := 9) (v := .d (.fl (.int .i64 13))) rfl (og rfl (op_assign rfl rfl rfl)) ?_
                  refine rg_done rfl ?_
                  refine a_ret ?_
                  show ∃ ds, ResL _ _ _ ds ∧ RV.of ds = _
                  refine ⟨[.ag [.fl (.string (⟨#[]⟩)), .fl (.string (⟨#[]⟩)), .fl (.string (⟨#[]⟩)), .fl (.int .i64 (0)), .fl (.int .i64 (0)), .fl (.int .i64 (0)), .fl (.int .i64 (0)), .fl (.int .i64 (0)), .fl (.int .i64 (0)), .fl (.int .i64 (0)), .fl (.int .i64 (0)), .fl (.int .i64 (0))], .fl (.int .i64 13)], (.cons (.cellT rfl rfl Tryd.underlying28 rfl ti28 rfl (Cv.ag (xs := [.fl (.string (⟨#[]⟩)), .fl (.string (⟨#[]⟩)), .fl (.string (⟨#[]⟩)), .fl (.int .i64 (0)), .fl (.int .i64 (0)), .fl (.int .i64 (0)), .fl (.int .i64 (0)), .fl (.int .i64 (0)), .fl (.int .i64 (0)), .fl (.int .i64 (0)), .fl (.int .i64 (0)), .fl (.int .i64 (0))]) (ys := [.fl (.string (⟨#[]⟩)), .fl (.string (⟨#[]⟩)), .fl (.string (⟨#[]⟩)), .fl (.int .i64 (0)), .fl (.int .i64 (0)), .fl (.int .i64 (0)), .fl (.int .i64 (0)), .fl (.int .i64 (0)), .fl (.int .i64 (0)), .fl (.int .i64 (0)), .fl (.int .i64 (0)), .fl (.int .i64 (0))]) ⟨Cv.refl _, Cv.refl _, Cv.refl _, Cv.refl _, Cv.refl _, Cv.refl _, Cv.refl _, Cv.refl _, Cv.refl _, Cv.refl _, Cv.refl _, Cv.refl _, trivial⟩)) (.cons (.tmp rfl (.d _)) .nil)), ?_⟩
                  have hu : chA w x day = 13 := by
                    unfold chA; simp only [h1, h4, h5, h6, h7, h8, h9, h10, h12, h15, h17]; rfl
                  have hv : adv w cal x day = (z0, 13) := by
                    unfold adv; rw [hu]; rw [if_pos (by decide)]
                  rw [hv]; rfl
                · skip
                  have h19 := f_dec h17
                  refine a_skip ?_
                  show A _ _ _ _ _ _ _
                  refine a_seq ?_
                  refine a_rseq ?_
                  refine rg_put (d := 55) (v := .d (.fl (.int .i64 day))) rfl (og rfl (op_move rfl rfl rfl)) ?_
                  refine rg_put (d := 56) (v := .pt 102 4) rfl (og rfl (of_eff (s_field_pt rfl Tryd.underlying28 rfl ti3 rfl rfl rfl) rfl)) ?_
                  refine rg_put (d := 57) (v := .d (.fl (.int .i64 x.since))) rfl (og rfl (op_load_pt rfl Tryd.underlying3 rfl rfl rfl rfl rfl)) ?_
                  refine rg_put (d := 58) (v := .d (.fl (.bool ((decide (day < x.since)))))) rfl (og rfl (op_bin rfl rfl rfl (b_lss _ _ _ _) rfl)) ?_
                  refine rg_done rfl ?_
                  refine a_cond rfl (fun h20 => ?_) (fun h20 => ?_)
                  · skip
                    have h21 := t_dec h20
                    refine a_rseq ?_
                    refine rg_put (d := 59) (v := .d (.ag (eCs ((Cs.mk (⟨#[]⟩) (⟨#[]⟩) (⟨#[]⟩) 0 0 0 0 0 0 (Ap.mk 0 0 0)))))) rfl (og rfl (of_eff (op_build rfl Tryd.underlying28 ti28 rfl (by kernel_rfl) (by kernel_rfl) (pl := #[(0, 1), (1, 1), (2, 1), (3, 1), (4, 1), (5, 1), (6, 1), (7, 1), (8, 1), (9, 3)]) (by kernel_rfl) .nil rfl) rfl)) ?_
                    refine rg_sto (nw := [(103, .bx 28 ((eCs ((Cs.mk (⟨#[]⟩) (⟨#[]⟩) (⟨#[]⟩) 0 0 0 0 0 0 (Ap.mk 0 0 0))))))]) rfl (og rfl (of_eff (s_store rfl rfl ti28 rfl rfl rfl rfl rfl rfl) rfl)) ?_
                    refine rg_put (d := 9) (v := .d (.fl (.int .i64 15))) rfl (og rfl (op_assign rfl rfl rfl)) ?_
                    refine rg_done rfl ?_
                    refine a_ret ?_
                    show ∃ ds, ResL _ _ _ ds ∧ RV.of ds = _
                    refine ⟨[.ag [.fl (.string (⟨#[]⟩)), .fl (.string (⟨#[]⟩)), .fl (.string (⟨#[]⟩)), .fl (.int .i64 (0)), .fl (.int .i64 (0)), .fl (.int .i64 (0)), .fl (.int .i64 (0)), .fl (.int .i64 (0)), .fl (.int .i64 (0)), .fl (.int .i64 (0)), .fl (.int .i64 (0)), .fl (.int .i64 (0))], .fl (.int .i64 15)], (.cons (.cellT rfl rfl Tryd.underlying28 rfl ti28 rfl (Cv.ag (xs := [.fl (.string (⟨#[]⟩)), .fl (.string (⟨#[]⟩)), .fl (.string (⟨#[]⟩)), .fl (.int .i64 (0)), .fl (.int .i64 (0)), .fl (.int .i64 (0)), .fl (.int .i64 (0)), .fl (.int .i64 (0)), .fl (.int .i64 (0)), .fl (.int .i64 (0)), .fl (.int .i64 (0)), .fl (.int .i64 (0))]) (ys := [.fl (.string (⟨#[]⟩)), .fl (.string (⟨#[]⟩)), .fl (.string (⟨#[]⟩)), .fl (.int .i64 (0)), .fl (.int .i64 (0)), .fl (.int .i64 (0)), .fl (.int .i64 (0)), .fl (.int .i64 (0)), .fl (.int .i64 (0)), .fl (.int .i64 (0)), .fl (.int .i64 (0)), .fl (.int .i64 (0))]) ⟨Cv.refl _, Cv.refl _, Cv.refl _, Cv.refl _, Cv.refl _, Cv.refl _, Cv.refl _, Cv.refl _, Cv.refl _, Cv.refl _, Cv.refl _, Cv.refl _, trivial⟩)) (.cons (.tmp rfl (.d _)) .nil)), ?_⟩
                    have hu : chA w x day = 15 := by
                      unfold chA; simp only [h1, h4, h5, h6, h7, h8, h9, h10, h12, h15, h17, h20]; rfl
                    have hv : adv w cal x day = (z0, 15) := by
                      unfold adv; rw [hu]; rw [if_pos (by decide)]
                    rw [hv]; rfl
                  · skip
                    have h22 := f_dec h20
                    refine a_skip ?_
                    show A _ _ _ _ _ _ _
                    refine a_seq ?_
                    refine a_rseq ?_
                    have hch : chA w x day = 0 := by
                      unfold chA; simp only [h1, h4, h5, h6, h7, h8, h9, h10, h12, h15, h17, h20]; rfl
                    obtain ⟨hokx, hday, hsin⟩ := chA_ok hch
                    obtain ⟨c1, c2, c3, c4, c5, c6⟩ := ckL_ok hokx.c
                    refine rg_put (d := 60) (v := .pt 102 9) rfl (og rfl (of_eff (s_field_pt rfl Tryd.underlying28 rfl ti26 rfl rfl rfl) rfl)) ?_
                    refine rg_put (d := 61) (v := .pt 102 9) rfl (og rfl (of_eff (s_field_pt rfl Tryd.underlying26 rfl ti3 rfl rfl rfl) rfl)) ?_
                    refine rg_put (d := 62) (v := .d (.fl (.int .i64 x.ap.state))) rfl (og rfl (op_load_pt rfl Tryd.underlying3 rfl rfl rfl rfl rfl)) ?_
                    refine rg_put (d := 63) (v := .d (.fl (.bool (x.ap.state == 1)))) rfl (og rfl (op_bin rfl rfl rfl (b_eql _ _ _ _) rfl)) ?_
                    refine rg_done rfl ?_
                    refine a_cond rfl (fun h23 => ?_) (fun h23 => ?_)
                    · skip
                      have h24 := t_beq h23
                      refine a_rseq ?_
                      refine rg_put (d := 64) (v := .d (.ag (eCs x))) rfl (og rfl (of_eff (s_load_pts rfl Tryd.underlying28 rfl ti28 rfl rfl rfl rfl) rfl)) ?_
                      refine rg_sto (nw := [(103, .bx 28 (eCs x))]) rfl (og rfl (of_eff (s_store rfl rfl ti28 rfl rfl rfl rfl rfl rfl) rfl)) ?_
                      refine rg_put (d := 9) (v := .d (.fl (.int .i64 0))) rfl (og rfl (op_assign rfl rfl rfl)) ?_
                      refine rg_done rfl ?_
                      refine a_ret ?_
                      show ∃ ds, ResL _ _ _ ds ∧ RV.of ds = _
                      refine ⟨[.ag [.fl (.string x.id), .fl (.string x.plate), .fl (.string x.key), .fl (.int .i64 x.begun), .fl (.int .i64 x.since), .fl (.int .i64 x.stage), .fl (.int .i64 x.owed), .fl (.int .i64 x.paid), .fl (.int .i64 x.paused), .fl (.int .i64 x.ap.state), .fl (.int .i64 x.ap.ground), .fl (.int .i64 x.ap.day)], .fl (.int .i64 0)], (.cons (.cellT rfl rfl Tryd.underlying28 rfl ti28 rfl (Cv.ag (xs := [.fl (.string x.id), .fl (.string x.plate), .fl (.string x.key), .fl (.int .i64 x.begun), .fl (.int .i64 x.since), .fl (.int .i64 x.stage), .fl (.int .i64 x.owed), .fl (.int .i64 x.paid), .fl (.int .i64 x.paused), .fl (.int .i64 x.ap.state), .fl (.int .i64 x.ap.ground), .fl (.int .i64 x.ap.day)]) (ys := [.fl (.string x.id), .fl (.string x.plate), .fl (.string x.key), .fl (.int .i64 x.begun), .fl (.int .i64 x.since), .fl (.int .i64 x.stage), .fl (.int .i64 x.owed), .fl (.int .i64 x.paid), .fl (.int .i64 x.paused), .fl (.int .i64 x.ap.state), .fl (.int .i64 x.ap.ground), .fl (.int .i64 x.ap.day)]) ⟨Cv.refl _, Cv.refl _, Cv.refl _, Cv.refl _, Cv.refl _, Cv.refl _, Cv.refl _, Cv.refl _, Cv.refl _, Cv.refl _, Cv.refl _, Cv.refl _, trivial⟩)) (.cons (.tmp rfl (.d _)) .nil)), ?_⟩
                      have hu : adv w cal x day = (x, 0) := by
                        unfold adv; rw [hch]; simp only [h1, h4, h5, h6, h7, h8, h9, h10, h12, h15, h17, h20, h23]; rfl
                      rw [hu]; rfl
                    · skip
                      have h25 := f_beq h23
                      refine a_skip ?_
                      show A _ _ _ _ _ _ _
                      refine a_seq ?_
                      refine a_rseq ?_
                      refine rg_put (d := 11) (v := .d (.fl (.int .i64 0))) rfl (og rfl (op_assign rfl rfl rfl)) ?_
                      refine rg_done rfl ?_
                      refine a_block ?_
                      refine a_loop (ι := Nat × Cs) (fun p => SS [(0, .d (.ag (eLw w))), (1, .d (.sl 1 (List.map (rI .i64) cal))), (2, .d (.ag (eCs x))), (3, .d (.fl (.int .i64 day))), (4, .pt 101 0), (6, .pt 102 0), (8, .pt 103 0), (10, .d (.fl (.int .i64 (ckL w)))), (17, .d (.fl (.bool (((ckL w) != 0))))), (44, .d (.fl (.bool ((decide (795364 < x.paused)))))), (53, .d (.fl (.bool ((decide (1125899906842624 < x.owed)))))), (58, .d (.fl (.bool ((decide (day < x.since)))))), (63, .d (.fl (.bool (x.ap.state == 1)))), (11, .d (.fl (.int .i64 (p.1 : Int))))] [(101, .bx 24 (eLw w)), (103, .bx 28 ([.fl (.string (⟨#[]⟩)), .fl (.string (⟨#[]⟩)), .fl (.string (⟨#[]⟩)), .fl (.int .i64 0), .fl (.int .i64 0), .fl (.int .i64 0), .fl (.int .i64 0), .fl (.int .i64 0), .fl (.int .i64 0), .fl (.int .i64 0), .fl (.int .i64 0), .fl (.int .i64 0)])), (102, .bx 28 (eCs p.2))]) (fun p => p.1 ≤ 5 ∧ itR w cal day 5 x = itR w cal day (5 - p.1) p.2 ∧ OKx w p.2) (fun p => 5 - p.1) (0, x) (⟨by show 0 ≤ 5; omega, rfl, hokx⟩) (imp_forget rfl ⟨rfl, rfl, rfl, rfl, rfl, rfl, rfl, rfl, rfl, rfl, rfl, rfl, rfl, rfl, trivial⟩ ⟨rfl, rfl, (by first | rfl | simp), trivial⟩) (fun p hok => ?_)
                      obtain ⟨hk, hl, hokp⟩ := hok
                      refine a_seq ?_
                      refine a_rseq ?_
                      refine rg_put (d := 65) (v := .d (.fl (.int .i64 (p.1 : Int)))) rfl (og rfl (op_move rfl rfl rfl)) ?_
                      refine rg_put (d := 66) (v := .d (.fl (.bool ((decide ((p.1 : Int) < 5)))))) rfl (og rfl (op_bin rfl rfl rfl (b_lss _ _ _ _) rfl)) ?_
                      refine rg_done rfl ?_
                      refine a_cond rfl (fun h26 => ?_) (fun h26 => ?_)
                      · skip
                        have h27 := t_dec h26
                        refine a_skip ?_
                        show A _ _ _ _ _ _ _
                        refine a_seq ?_
                        refine a_block ?_
                        refine a_rseq ?_
                        refine rg_put (d := 70) (v := .d (.ag (eLw w))) rfl (og rfl (of_eff (s_load_pts rfl Tryd.underlying24 rfl ti24 rfl rfl rfl rfl) rfl)) ?_
                        refine rg_put (d := 71) (v := .d (.sl 1 (List.map (rI .i64) cal))) rfl (og rfl (op_move rfl rfl rfl)) ?_
                        refine rg_put (d := 72) (v := .d (.ag (eCs p.2))) rfl (og rfl (of_eff (s_load_pts rfl Tryd.underlying28 rfl ti28 rfl rfl rfl rfl) rfl)) ?_
                        refine rg_put (d := 73) (v := .d (.fl (.int .i64 day))) rfl (og rfl (op_move rfl rfl rfl)) ?_
                        refine rg_put (d := 74) (v := .tu [.ag (eCs ((sp w cal p.2 day).1)), .fl (.bool ((sp w cal p.2 day).2))]) rfl (og rfl (op_call rfl Tryd.func38 nm38 rfl (.cons rfl (.d _) (.cons rfl (.d _) (.cons rfl (.d _) (.cons rfl (.d _) .nil)))) (sp36 w cal p.2 day hokp ⟨c6, c5⟩ hl0) rfl)) ?_
                        refine rg_put (d := 69) (v := .tu [.ag (eCs ((sp w cal p.2 day).1)), .fl (.bool ((sp w cal p.2 day).2))]) rfl (og rfl (op_move rfl rfl rfl)) ?_
                        refine rg_put (d := 75) (v := .d (.ag (eCs ((sp w cal p.2 day).1)))) rfl (og rfl (op_extract rfl rfl rfl rfl)) ?_
                        refine rg_put (d := 76) (v := .d (.fl (.bool ((sp w cal p.2 day).2)))) rfl (og rfl (op_extract rfl rfl rfl rfl)) ?_
                        refine rg_nam (d := 12) (v := .pt 104 0) (m := 104) (nw := [(104, .bx 28 ([.fl (.string (⟨#[]⟩)), .fl (.string (⟨#[]⟩)), .fl (.string (⟨#[]⟩)), .fl (.int .i64 0), .fl (.int .i64 0), .fl (.int .i64 0), .fl (.int .i64 0), .fl (.int .i64 0), .fl (.int .i64 0), .fl (.int .i64 0), .fl (.int .i64 0), .fl (.int .i64 0)]))]) rfl (og rfl (of_eff (s_alloc 104 rfl ti28 (by kernel_rfl) rfl) rfl)) rfl ?_
                        refine rg_sto (nw := [(104, .bx 28 ((eCs ((sp w cal p.2 day).1))))]) rfl (og rfl (of_eff (s_store rfl rfl ti28 rfl rfl rfl rfl rfl rfl) rfl)) ?_
                        refine rg_put (d := 13) (v := .d (.fl (.bool ((sp w cal p.2 day).2)))) rfl (og rfl (op_assign rfl rfl rfl)) ?_
                        refine rg_done rfl ?_
                        refine a_seq ?_
                        refine a_rseq ?_
                        refine rg_put (d := 77) (v := .d (.fl (.bool ((sp w cal p.2 day).2)))) rfl (og rfl (op_move rfl rfl rfl)) ?_
                        refine rg_put (d := 78) (v := .d (.fl (.bool ((!((sp w cal p.2 day).2)))))) rfl (og rfl (op_un rfl rfl (u_not _) rfl)) ?_
                        refine rg_done rfl ?_
                        refine a_cond rfl (fun h28 => ?_) (fun h28 => ?_)
                        · skip
                          have h29 := t_not h28
                          refine a_rseq ?_
                          refine rg_put (d := 79) (v := .d (.ag (eCs p.2))) rfl (og rfl (of_eff (s_load_pts rfl Tryd.underlying28 rfl ti28 rfl rfl rfl rfl) rfl)) ?_
                          refine rg_sto (nw := [(103, .bx 28 (eCs p.2))]) rfl (og rfl (of_eff (s_store rfl rfl ti28 rfl rfl rfl rfl rfl rfl) rfl)) ?_
                          refine rg_put (d := 9) (v := .d (.fl (.int .i64 0))) rfl (og rfl (op_assign rfl rfl rfl)) ?_
                          refine rg_done rfl ?_
                          refine a_ret ?_
                          show ∃ ds, ResL _ _ _ ds ∧ RV.of ds = _
                          refine ⟨[.ag [.fl (.string p.2.id), .fl (.string p.2.plate), .fl (.string p.2.key), .fl (.int .i64 p.2.begun), .fl (.int .i64 p.2.since), .fl (.int .i64 p.2.stage), .fl (.int .i64 p.2.owed), .fl (.int .i64 p.2.paid), .fl (.int .i64 p.2.paused), .fl (.int .i64 p.2.ap.state), .fl (.int .i64 p.2.ap.ground), .fl (.int .i64 p.2.ap.day)], .fl (.int .i64 0)], (.cons (.cellT rfl rfl Tryd.underlying28 rfl ti28 rfl (Cv.ag (xs := [.fl (.string p.2.id), .fl (.string p.2.plate), .fl (.string p.2.key), .fl (.int .i64 p.2.begun), .fl (.int .i64 p.2.since), .fl (.int .i64 p.2.stage), .fl (.int .i64 p.2.owed), .fl (.int .i64 p.2.paid), .fl (.int .i64 p.2.paused), .fl (.int .i64 p.2.ap.state), .fl (.int .i64 p.2.ap.ground), .fl (.int .i64 p.2.ap.day)]) (ys := [.fl (.string p.2.id), .fl (.string p.2.plate), .fl (.string p.2.key), .fl (.int .i64 p.2.begun), .fl (.int .i64 p.2.since), .fl (.int .i64 p.2.stage), .fl (.int .i64 p.2.owed), .fl (.int .i64 p.2.paid), .fl (.int .i64 p.2.paused), .fl (.int .i64 p.2.ap.state), .fl (.int .i64 p.2.ap.ground), .fl (.int .i64 p.2.ap.day)]) ⟨Cv.refl _, Cv.refl _, Cv.refl _, Cv.refl _, Cv.refl _, Cv.refl _, Cv.refl _, Cv.refl _, Cv.refl _, Cv.refl _, Cv.refl _, Cv.refl _, trivial⟩)) (.cons (.tmp rfl (.d _)) .nil)), ?_⟩
                          have hs : sw w cal x day = p.2 := by rw [← sw_itR]; rw [hl, show 5 - p.1 = (5 - (p.1 + 1)) + 1 by omega]; show (if _ then _ else _) = _; rw [if_neg (by rw [h29]; simp)]
                          have hu : adv w cal x day = (p.2, 0) := by
                            unfold adv; rw [hch, hs]; simp only [h1, h4, h5, h6, h7, h8, h9, h10, h12, h15, h17, h20, h23, h26, h28, h29]; rfl
                          rw [hu]; rfl
                        · skip
                          have h30 := f_not h28
                          refine a_skip ?_
                          show A _ _ _ _ _ _ _
                          refine a_region ?_
                          refine rg_put (d := 80) (v := .d (.ag (eCs (((sp w cal p.2 day).1))))) rfl (og rfl (of_eff (s_load_pts rfl Tryd.underlying28 rfl ti28 rfl rfl rfl rfl) rfl)) ?_
                          refine rg_sto (nw := [(102, .bx 28 ((eCs (((sp w cal p.2 day).1)))))]) rfl (og rfl (of_eff (s_store rfl rfl ti28 rfl rfl rfl rfl rfl rfl) rfl)) ?_
                          refine rg_done rfl ?_
                          show A _ _ _ _ _ _ _
                          refine a_region ?_
                          refine rg_put (d := 67) (v := .d (.fl (.int .i64 (p.1 : Int)))) rfl (og rfl (op_move rfl rfl rfl)) ?_
                          refine rg_put (d := 68) (v := .d (.fl (.int .i64 (((p.1 : Int) + 1))))) rfl (og rfl (op_bin rfl rfl rfl (fun x y w => b_add64 _ _ _ x y w (by omega)) rfl)) ?_
                          refine rg_put (d := 11) (v := .d (.fl (.int .i64 (((p.1 : Int) + 1))))) rfl (og rfl (op_assign rfl rfl rfl)) ?_
                          refine rg_done rfl ?_
                          show ∃ i, _ ∧ _ ∧ Imp _ _ _ _ _
                          refine ⟨(p.1 + 1, (sp w cal p.2 day).1), ⟨by show p.1 + 1 ≤ 5; omega, hl.trans (by rw [show 5 - p.1 = (5 - (p.1 + 1)) + 1 by omega]; show (if _ then _ else _) = _; rw [if_pos h30]), sp_ok hokp⟩, by show 5 - (p.1 + 1) < _; omega, imp_forget rfl ⟨rfl, rfl, rfl, rfl, rfl, rfl, rfl, rfl, rfl, rfl, rfl, rfl, rfl, (ci (by show (p.1 : Int) + 1 = ((p.1 + 1 : Nat) : Int); omega)), trivial⟩ ⟨rfl, rfl, rfl, trivial⟩⟩
                      · skip
                        have h31 := f_dec h26
                        refine a_exit ?_
                        show A _ _ _ _ _ _ _
                        refine a_rseq ?_
                        refine rg_put (d := 81) (v := .d (.ag (eCs p.2))) rfl (og rfl (of_eff (s_load_pts rfl Tryd.underlying28 rfl ti28 rfl rfl rfl rfl) rfl)) ?_
                        refine rg_sto (nw := [(103, .bx 28 (eCs p.2))]) rfl (og rfl (of_eff (s_store rfl rfl ti28 rfl rfl rfl rfl rfl rfl) rfl)) ?_
                        refine rg_put (d := 9) (v := .d (.fl (.int .i64 0))) rfl (og rfl (op_assign rfl rfl rfl)) ?_
                        refine rg_done rfl ?_
                        refine a_ret ?_
                        show ∃ ds, ResL _ _ _ ds ∧ RV.of ds = _
                        refine ⟨[.ag [.fl (.string p.2.id), .fl (.string p.2.plate), .fl (.string p.2.key), .fl (.int .i64 p.2.begun), .fl (.int .i64 p.2.since), .fl (.int .i64 p.2.stage), .fl (.int .i64 p.2.owed), .fl (.int .i64 p.2.paid), .fl (.int .i64 p.2.paused), .fl (.int .i64 p.2.ap.state), .fl (.int .i64 p.2.ap.ground), .fl (.int .i64 p.2.ap.day)], .fl (.int .i64 0)], (.cons (.cellT rfl rfl Tryd.underlying28 rfl ti28 rfl (Cv.ag (xs := [.fl (.string p.2.id), .fl (.string p.2.plate), .fl (.string p.2.key), .fl (.int .i64 p.2.begun), .fl (.int .i64 p.2.since), .fl (.int .i64 p.2.stage), .fl (.int .i64 p.2.owed), .fl (.int .i64 p.2.paid), .fl (.int .i64 p.2.paused), .fl (.int .i64 p.2.ap.state), .fl (.int .i64 p.2.ap.ground), .fl (.int .i64 p.2.ap.day)]) (ys := [.fl (.string p.2.id), .fl (.string p.2.plate), .fl (.string p.2.key), .fl (.int .i64 p.2.begun), .fl (.int .i64 p.2.since), .fl (.int .i64 p.2.stage), .fl (.int .i64 p.2.owed), .fl (.int .i64 p.2.paid), .fl (.int .i64 p.2.paused), .fl (.int .i64 p.2.ap.state), .fl (.int .i64 p.2.ap.ground), .fl (.int .i64 p.2.ap.day)]) ⟨Cv.refl _, Cv.refl _, Cv.refl _, Cv.refl _, Cv.refl _, Cv.refl _, Cv.refl _, Cv.refl _, Cv.refl _, Cv.refl _, Cv.refl _, Cv.refl _, trivial⟩)) (.cons (.tmp rfl (.d _)) .nil)), ?_⟩
                        have hs : sw w cal x day = p.2 := by rw [← sw_itR]; rw [hl, show 5 - p.1 = 0 by omega]; rfl
                        have hu : adv w cal x day = (p.2, 0) := by
                          unfold adv; rw [hch, hs]; simp only [h1, h4, h5, h6, h7, h8, h9, h10, h12, h15, h17, h20, h23, h26]; rfl
                        rw [hu]; rfl
              · skip
                have h32 := t_dec h15
                refine rg_put (d := 50) (v := .d (.fl undef)) rfl (on rfl rfl rfl h15) ?_
                refine rg_put (d := 51) (v := .d (.fl undef)) rfl (on rfl rfl rfl h15) ?_
                refine rg_put (d := 52) (v := .d (.fl undef)) rfl (on rfl rfl rfl h15) ?_
                refine rg_put (d := 53) (v := .d (.fl (.bool true))) rfl (og rfl (op_pick rfl rfl (by rw [h15]; rfl) rfl)) ?_
                refine rg_done rfl ?_
                refine a_condK rfl rfl ?_
                refine a_rseq ?_
                refine rg_put (d := 54) (v := .d (.ag (eCs ((Cs.mk (⟨#[]⟩) (⟨#[]⟩) (⟨#[]⟩) 0 0 0 0 0 0 (Ap.mk 0 0 0)))))) rfl (og rfl (of_eff (op_build rfl Tryd.underlying28 ti28 rfl (by kernel_rfl) (by kernel_rfl) (pl := #[(0, 1), (1, 1), (2, 1), (3, 1), (4, 1), (5, 1), (6, 1), (7, 1), (8, 1), (9, 3)]) (by kernel_rfl) .nil rfl) rfl)) ?_
                refine rg_sto (nw := [(103, .bx 28 ((eCs ((Cs.mk (⟨#[]⟩) (⟨#[]⟩) (⟨#[]⟩) 0 0 0 0 0 0 (Ap.mk 0 0 0))))))]) rfl (og rfl (of_eff (s_store rfl rfl ti28 rfl rfl rfl rfl rfl rfl) rfl)) ?_
                refine rg_put (d := 9) (v := .d (.fl (.int .i64 13))) rfl (og rfl (op_assign rfl rfl rfl)) ?_
                refine rg_done rfl ?_
                refine a_ret ?_
                show ∃ ds, ResL _ _ _ ds ∧ RV.of ds = _
                refine ⟨[.ag [.fl (.string (⟨#[]⟩)), .fl (.string (⟨#[]⟩)), .fl (.string (⟨#[]⟩)), .fl (.int .i64 (0)), .fl (.int .i64 (0)), .fl (.int .i64 (0)), .fl (.int .i64 (0)), .fl (.int .i64 (0)), .fl (.int .i64 (0)), .fl (.int .i64 (0)), .fl (.int .i64 (0)), .fl (.int .i64 (0))], .fl (.int .i64 13)], (.cons (.cellT rfl rfl Tryd.underlying28 rfl ti28 rfl (Cv.ag (xs := [.fl (.string (⟨#[]⟩)), .fl (.string (⟨#[]⟩)), .fl (.string (⟨#[]⟩)), .fl (.int .i64 (0)), .fl (.int .i64 (0)), .fl (.int .i64 (0)), .fl (.int .i64 (0)), .fl (.int .i64 (0)), .fl (.int .i64 (0)), .fl (.int .i64 (0)), .fl (.int .i64 (0)), .fl (.int .i64 (0))]) (ys := [.fl (.string (⟨#[]⟩)), .fl (.string (⟨#[]⟩)), .fl (.string (⟨#[]⟩)), .fl (.int .i64 (0)), .fl (.int .i64 (0)), .fl (.int .i64 (0)), .fl (.int .i64 (0)), .fl (.int .i64 (0)), .fl (.int .i64 (0)), .fl (.int .i64 (0)), .fl (.int .i64 (0)), .fl (.int .i64 (0))]) ⟨Cv.refl _, Cv.refl _, Cv.refl _, Cv.refl _, Cv.refl _, Cv.refl _, Cv.refl _, Cv.refl _, Cv.refl _, Cv.refl _, Cv.refl _, Cv.refl _, trivial⟩)) (.cons (.tmp rfl (.d _)) .nil)), ?_⟩
                have hu : chA w x day = 13 := by
                  unfold chA; simp only [h1, h4, h5, h6, h7, h8, h9, h10, h12, h15]; rfl
                have hv : adv w cal x day = (z0, 13) := by
                  unfold adv; rw [hu]; rw [if_pos (by decide)]
                rw [hv]; rfl
          · skip
            have h33 := t_dec h10
            refine rg_put (d := 41) (v := .d (.fl undef)) rfl (on rfl rfl rfl h10) ?_
            refine rg_put (d := 42) (v := .d (.fl undef)) rfl (on rfl rfl rfl h10) ?_
            refine rg_put (d := 43) (v := .d (.fl undef)) rfl (on rfl rfl rfl h10) ?_
            refine rg_put (d := 44) (v := .d (.fl (.bool true))) rfl (og rfl (op_pick rfl rfl (by rw [h10]; rfl) rfl)) ?_
            refine rg_done rfl ?_
            refine a_condK rfl rfl ?_
            refine a_rseq ?_
            refine rg_put (d := 45) (v := .d (.ag (eCs ((Cs.mk (⟨#[]⟩) (⟨#[]⟩) (⟨#[]⟩) 0 0 0 0 0 0 (Ap.mk 0 0 0)))))) rfl (og rfl (of_eff (op_build rfl Tryd.underlying28 ti28 rfl (by kernel_rfl) (by kernel_rfl) (pl := #[(0, 1), (1, 1), (2, 1), (3, 1), (4, 1), (5, 1), (6, 1), (7, 1), (8, 1), (9, 3)]) (by kernel_rfl) .nil rfl) rfl)) ?_
            refine rg_sto (nw := [(103, .bx 28 ((eCs ((Cs.mk (⟨#[]⟩) (⟨#[]⟩) (⟨#[]⟩) 0 0 0 0 0 0 (Ap.mk 0 0 0))))))]) rfl (og rfl (of_eff (s_store rfl rfl ti28 rfl rfl rfl rfl rfl rfl) rfl)) ?_
            refine rg_put (d := 9) (v := .d (.fl (.int .i64 12))) rfl (og rfl (op_assign rfl rfl rfl)) ?_
            refine rg_done rfl ?_
            refine a_ret ?_
            show ∃ ds, ResL _ _ _ ds ∧ RV.of ds = _
            refine ⟨[.ag [.fl (.string (⟨#[]⟩)), .fl (.string (⟨#[]⟩)), .fl (.string (⟨#[]⟩)), .fl (.int .i64 (0)), .fl (.int .i64 (0)), .fl (.int .i64 (0)), .fl (.int .i64 (0)), .fl (.int .i64 (0)), .fl (.int .i64 (0)), .fl (.int .i64 (0)), .fl (.int .i64 (0)), .fl (.int .i64 (0))], .fl (.int .i64 12)], (.cons (.cellT rfl rfl Tryd.underlying28 rfl ti28 rfl (Cv.ag (xs := [.fl (.string (⟨#[]⟩)), .fl (.string (⟨#[]⟩)), .fl (.string (⟨#[]⟩)), .fl (.int .i64 (0)), .fl (.int .i64 (0)), .fl (.int .i64 (0)), .fl (.int .i64 (0)), .fl (.int .i64 (0)), .fl (.int .i64 (0)), .fl (.int .i64 (0)), .fl (.int .i64 (0)), .fl (.int .i64 (0))]) (ys := [.fl (.string (⟨#[]⟩)), .fl (.string (⟨#[]⟩)), .fl (.string (⟨#[]⟩)), .fl (.int .i64 (0)), .fl (.int .i64 (0)), .fl (.int .i64 (0)), .fl (.int .i64 (0)), .fl (.int .i64 (0)), .fl (.int .i64 (0)), .fl (.int .i64 (0)), .fl (.int .i64 (0)), .fl (.int .i64 (0))]) ⟨Cv.refl _, Cv.refl _, Cv.refl _, Cv.refl _, Cv.refl _, Cv.refl _, Cv.refl _, Cv.refl _, Cv.refl _, Cv.refl _, Cv.refl _, Cv.refl _, trivial⟩)) (.cons (.tmp rfl (.d _)) .nil)), ?_⟩
            have hu : chA w x day = 12 := by
              unfold chA; simp only [h1, h4, h5, h6, h7, h8, h9, h10]; rfl
            have hv : adv w cal x day = (z0, 12) := by
              unfold adv; rw [hu]; rw [if_pos (by decide)]
            rw [hv]; rfl
        · skip
          have h34 := t_not h8
          refine rg_put (d := 36) (v := .d (.fl undef)) rfl (on rfl rfl rfl h8) ?_
          refine rg_put (d := 37) (v := .d (.fl undef)) rfl (on rfl rfl rfl h8) ?_
          refine rg_put (d := 38) (v := .d (.fl undef)) rfl (on rfl rfl rfl h8) ?_
          refine rg_put (d := 39) (v := .d (.fl (.bool true))) rfl (og rfl (op_pick rfl rfl (by rw [h8]; rfl) rfl)) ?_
          refine rg_put (d := 40) (v := .d (.fl (.bool true))) rfl (og rfl (op_move rfl rfl rfl)) ?_
          refine rg_put (d := 41) (v := .d (.fl undef)) rfl (on rfl rfl rfl rfl) ?_
          refine rg_put (d := 42) (v := .d (.fl undef)) rfl (on rfl rfl rfl rfl) ?_
          refine rg_put (d := 43) (v := .d (.fl undef)) rfl (on rfl rfl rfl rfl) ?_
          refine rg_put (d := 44) (v := .d (.fl (.bool true))) rfl (og rfl (op_pick rfl rfl rfl rfl)) ?_
          refine rg_done rfl ?_
          refine a_condK rfl rfl ?_
          refine a_rseq ?_
          refine rg_put (d := 45) (v := .d (.ag (eCs ((Cs.mk (⟨#[]⟩) (⟨#[]⟩) (⟨#[]⟩) 0 0 0 0 0 0 (Ap.mk 0 0 0)))))) rfl (og rfl (of_eff (op_build rfl Tryd.underlying28 ti28 rfl (by kernel_rfl) (by kernel_rfl) (pl := #[(0, 1), (1, 1), (2, 1), (3, 1), (4, 1), (5, 1), (6, 1), (7, 1), (8, 1), (9, 3)]) (by kernel_rfl) .nil rfl) rfl)) ?_
          refine rg_sto (nw := [(103, .bx 28 ((eCs ((Cs.mk (⟨#[]⟩) (⟨#[]⟩) (⟨#[]⟩) 0 0 0 0 0 0 (Ap.mk 0 0 0))))))]) rfl (og rfl (of_eff (s_store rfl rfl ti28 rfl rfl rfl rfl rfl rfl) rfl)) ?_
          refine rg_put (d := 9) (v := .d (.fl (.int .i64 12))) rfl (og rfl (op_assign rfl rfl rfl)) ?_
          refine rg_done rfl ?_
          refine a_ret ?_
          show ∃ ds, ResL _ _ _ ds ∧ RV.of ds = _
          refine ⟨[.ag [.fl (.string (⟨#[]⟩)), .fl (.string (⟨#[]⟩)), .fl (.string (⟨#[]⟩)), .fl (.int .i64 (0)), .fl (.int .i64 (0)), .fl (.int .i64 (0)), .fl (.int .i64 (0)), .fl (.int .i64 (0)), .fl (.int .i64 (0)), .fl (.int .i64 (0)), .fl (.int .i64 (0)), .fl (.int .i64 (0))], .fl (.int .i64 12)], (.cons (.cellT rfl rfl Tryd.underlying28 rfl ti28 rfl (Cv.ag (xs := [.fl (.string (⟨#[]⟩)), .fl (.string (⟨#[]⟩)), .fl (.string (⟨#[]⟩)), .fl (.int .i64 (0)), .fl (.int .i64 (0)), .fl (.int .i64 (0)), .fl (.int .i64 (0)), .fl (.int .i64 (0)), .fl (.int .i64 (0)), .fl (.int .i64 (0)), .fl (.int .i64 (0)), .fl (.int .i64 (0))]) (ys := [.fl (.string (⟨#[]⟩)), .fl (.string (⟨#[]⟩)), .fl (.string (⟨#[]⟩)), .fl (.int .i64 (0)), .fl (.int .i64 (0)), .fl (.int .i64 (0)), .fl (.int .i64 (0)), .fl (.int .i64 (0)), .fl (.int .i64 (0)), .fl (.int .i64 (0)), .fl (.int .i64 (0)), .fl (.int .i64 (0))]) ⟨Cv.refl _, Cv.refl _, Cv.refl _, Cv.refl _, Cv.refl _, Cv.refl _, Cv.refl _, Cv.refl _, Cv.refl _, Cv.refl _, Cv.refl _, Cv.refl _, trivial⟩)) (.cons (.tmp rfl (.d _)) .nil)), ?_⟩
          have hu : chA w x day = 12 := by
            unfold chA; simp only [h1, h4, h5, h6, h7, h8, h34]; rfl
          have hv : adv w cal x day = (z0, 12) := by
            unfold adv; rw [hu]; rw [if_pos (by decide)]
          rw [hv]; rfl
      · skip
        have h35 := t_not h6
        refine rg_put (d := 30) (v := .d (.fl undef)) rfl (on rfl rfl rfl h6) ?_
        refine rg_put (d := 31) (v := .d (.fl undef)) rfl (on rfl rfl rfl h6) ?_
        refine rg_put (d := 32) (v := .d (.fl undef)) rfl (on rfl rfl rfl h6) ?_
        refine rg_put (d := 33) (v := .d (.fl undef)) rfl (on rfl rfl rfl h6) ?_
        refine rg_put (d := 34) (v := .d (.fl (.bool true))) rfl (og rfl (op_pick rfl rfl (by rw [h6]; rfl) rfl)) ?_
        refine rg_put (d := 35) (v := .d (.fl (.bool true))) rfl (og rfl (op_move rfl rfl rfl)) ?_
        refine rg_put (d := 36) (v := .d (.fl undef)) rfl (on rfl rfl rfl rfl) ?_
        refine rg_put (d := 37) (v := .d (.fl undef)) rfl (on rfl rfl rfl rfl) ?_
        refine rg_put (d := 38) (v := .d (.fl undef)) rfl (on rfl rfl rfl rfl) ?_
        refine rg_put (d := 39) (v := .d (.fl (.bool true))) rfl (og rfl (op_pick rfl rfl rfl rfl)) ?_
        refine rg_put (d := 40) (v := .d (.fl (.bool true))) rfl (og rfl (op_move rfl rfl rfl)) ?_
        refine rg_put (d := 41) (v := .d (.fl undef)) rfl (on rfl rfl rfl rfl) ?_
        refine rg_put (d := 42) (v := .d (.fl undef)) rfl (on rfl rfl rfl rfl) ?_
        refine rg_put (d := 43) (v := .d (.fl undef)) rfl (on rfl rfl rfl rfl) ?_
        refine rg_put (d := 44) (v := .d (.fl (.bool true))) rfl (og rfl (op_pick rfl rfl rfl rfl)) ?_
        refine rg_done rfl ?_
        refine a_condK rfl rfl ?_
        refine a_rseq ?_
        refine rg_put (d := 45) (v := .d (.ag (eCs ((Cs.mk (⟨#[]⟩) (⟨#[]⟩) (⟨#[]⟩) 0 0 0 0 0 0 (Ap.mk 0 0 0)))))) rfl (og rfl (of_eff (op_build rfl Tryd.underlying28 ti28 rfl (by kernel_rfl) (by kernel_rfl) (pl := #[(0, 1), (1, 1), (2, 1), (3, 1), (4, 1), (5, 1), (6, 1), (7, 1), (8, 1), (9, 3)]) (by kernel_rfl) .nil rfl) rfl)) ?_
        refine rg_sto (nw := [(103, .bx 28 ((eCs ((Cs.mk (⟨#[]⟩) (⟨#[]⟩) (⟨#[]⟩) 0 0 0 0 0 0 (Ap.mk 0 0 0))))))]) rfl (og rfl (of_eff (s_store rfl rfl ti28 rfl rfl rfl rfl rfl rfl) rfl)) ?_
        refine rg_put (d := 9) (v := .d (.fl (.int .i64 12))) rfl (og rfl (op_assign rfl rfl rfl)) ?_
        refine rg_done rfl ?_
        refine a_ret ?_
        show ∃ ds, ResL _ _ _ ds ∧ RV.of ds = _
        refine ⟨[.ag [.fl (.string (⟨#[]⟩)), .fl (.string (⟨#[]⟩)), .fl (.string (⟨#[]⟩)), .fl (.int .i64 (0)), .fl (.int .i64 (0)), .fl (.int .i64 (0)), .fl (.int .i64 (0)), .fl (.int .i64 (0)), .fl (.int .i64 (0)), .fl (.int .i64 (0)), .fl (.int .i64 (0)), .fl (.int .i64 (0))], .fl (.int .i64 12)], (.cons (.cellT rfl rfl Tryd.underlying28 rfl ti28 rfl (Cv.ag (xs := [.fl (.string (⟨#[]⟩)), .fl (.string (⟨#[]⟩)), .fl (.string (⟨#[]⟩)), .fl (.int .i64 (0)), .fl (.int .i64 (0)), .fl (.int .i64 (0)), .fl (.int .i64 (0)), .fl (.int .i64 (0)), .fl (.int .i64 (0)), .fl (.int .i64 (0)), .fl (.int .i64 (0)), .fl (.int .i64 (0))]) (ys := [.fl (.string (⟨#[]⟩)), .fl (.string (⟨#[]⟩)), .fl (.string (⟨#[]⟩)), .fl (.int .i64 (0)), .fl (.int .i64 (0)), .fl (.int .i64 (0)), .fl (.int .i64 (0)), .fl (.int .i64 (0)), .fl (.int .i64 (0)), .fl (.int .i64 (0)), .fl (.int .i64 (0)), .fl (.int .i64 (0))]) ⟨Cv.refl _, Cv.refl _, Cv.refl _, Cv.refl _, Cv.refl _, Cv.refl _, Cv.refl _, Cv.refl _, Cv.refl _, Cv.refl _, Cv.refl _, Cv.refl _, trivial⟩)) (.cons (.tmp rfl (.d _)) .nil)), ?_⟩
        have hu : chA w x day = 12 := by
          unfold chA; simp only [h1, h4, h5, h6, h35]; rfl
        have hv : adv w cal x day = (z0, 12) := by
          unfold adv; rw [hu]; rw [if_pos (by decide)]
        rw [hv]; rfl
    · skip
      have h36 := t_not h4
      refine rg_put (d := 24) (v := .d (.fl undef)) rfl (on rfl rfl rfl h4) ?_
      refine rg_put (d := 25) (v := .d (.fl undef)) rfl (on rfl rfl rfl h4) ?_
      refine rg_put (d := 26) (v := .d (.fl undef)) rfl (on rfl rfl rfl h4) ?_
      refine rg_put (d := 27) (v := .d (.fl undef)) rfl (on rfl rfl rfl h4) ?_
      refine rg_put (d := 28) (v := .d (.fl (.bool true))) rfl (og rfl (op_pick rfl rfl (by rw [h4]; rfl) rfl)) ?_
      refine rg_put (d := 29) (v := .d (.fl (.bool true))) rfl (og rfl (op_move rfl rfl rfl)) ?_
      refine rg_put (d := 30) (v := .d (.fl undef)) rfl (on rfl rfl rfl rfl) ?_
      refine rg_put (d := 31) (v := .d (.fl undef)) rfl (on rfl rfl rfl rfl) ?_
      refine rg_put (d := 32) (v := .d (.fl undef)) rfl (on rfl rfl rfl rfl) ?_
      refine rg_put (d := 33) (v := .d (.fl undef)) rfl (on rfl rfl rfl rfl) ?_
      refine rg_put (d := 34) (v := .d (.fl (.bool true))) rfl (og rfl (op_pick rfl rfl rfl rfl)) ?_
      refine rg_put (d := 35) (v := .d (.fl (.bool true))) rfl (og rfl (op_move rfl rfl rfl)) ?_
      refine rg_put (d := 36) (v := .d (.fl undef)) rfl (on rfl rfl rfl rfl) ?_
      refine rg_put (d := 37) (v := .d (.fl undef)) rfl (on rfl rfl rfl rfl) ?_
      refine rg_put (d := 38) (v := .d (.fl undef)) rfl (on rfl rfl rfl rfl) ?_
      refine rg_put (d := 39) (v := .d (.fl (.bool true))) rfl (og rfl (op_pick rfl rfl rfl rfl)) ?_
      refine rg_put (d := 40) (v := .d (.fl (.bool true))) rfl (og rfl (op_move rfl rfl rfl)) ?_
      refine rg_put (d := 41) (v := .d (.fl undef)) rfl (on rfl rfl rfl rfl) ?_
      refine rg_put (d := 42) (v := .d (.fl undef)) rfl (on rfl rfl rfl rfl) ?_
      refine rg_put (d := 43) (v := .d (.fl undef)) rfl (on rfl rfl rfl rfl) ?_
      refine rg_put (d := 44) (v := .d (.fl (.bool true))) rfl (og rfl (op_pick rfl rfl rfl rfl)) ?_
      refine rg_done rfl ?_
      refine a_condK rfl rfl ?_
      refine a_rseq ?_
      refine rg_put (d := 45) (v := .d (.ag (eCs ((Cs.mk (⟨#[]⟩) (⟨#[]⟩) (⟨#[]⟩) 0 0 0 0 0 0 (Ap.mk 0 0 0)))))) rfl (og rfl (of_eff (op_build rfl Tryd.underlying28 ti28 rfl (by kernel_rfl) (by kernel_rfl) (pl := #[(0, 1), (1, 1), (2, 1), (3, 1), (4, 1), (5, 1), (6, 1), (7, 1), (8, 1), (9, 3)]) (by kernel_rfl) .nil rfl) rfl)) ?_
      refine rg_sto (nw := [(103, .bx 28 ((eCs ((Cs.mk (⟨#[]⟩) (⟨#[]⟩) (⟨#[]⟩) 0 0 0 0 0 0 (Ap.mk 0 0 0))))))]) rfl (og rfl (of_eff (s_store rfl rfl ti28 rfl rfl rfl rfl rfl rfl) rfl)) ?_
      refine rg_put (d := 9) (v := .d (.fl (.int .i64 12))) rfl (og rfl (op_assign rfl rfl rfl)) ?_
      refine rg_done rfl ?_
      refine a_ret ?_
      show ∃ ds, ResL _ _ _ ds ∧ RV.of ds = _
      refine ⟨[.ag [.fl (.string (⟨#[]⟩)), .fl (.string (⟨#[]⟩)), .fl (.string (⟨#[]⟩)), .fl (.int .i64 (0)), .fl (.int .i64 (0)), .fl (.int .i64 (0)), .fl (.int .i64 (0)), .fl (.int .i64 (0)), .fl (.int .i64 (0)), .fl (.int .i64 (0)), .fl (.int .i64 (0)), .fl (.int .i64 (0))], .fl (.int .i64 12)], (.cons (.cellT rfl rfl Tryd.underlying28 rfl ti28 rfl (Cv.ag (xs := [.fl (.string (⟨#[]⟩)), .fl (.string (⟨#[]⟩)), .fl (.string (⟨#[]⟩)), .fl (.int .i64 (0)), .fl (.int .i64 (0)), .fl (.int .i64 (0)), .fl (.int .i64 (0)), .fl (.int .i64 (0)), .fl (.int .i64 (0)), .fl (.int .i64 (0)), .fl (.int .i64 (0)), .fl (.int .i64 (0))]) (ys := [.fl (.string (⟨#[]⟩)), .fl (.string (⟨#[]⟩)), .fl (.string (⟨#[]⟩)), .fl (.int .i64 (0)), .fl (.int .i64 (0)), .fl (.int .i64 (0)), .fl (.int .i64 (0)), .fl (.int .i64 (0)), .fl (.int .i64 (0)), .fl (.int .i64 (0)), .fl (.int .i64 (0)), .fl (.int .i64 (0))]) ⟨Cv.refl _, Cv.refl _, Cv.refl _, Cv.refl _, Cv.refl _, Cv.refl _, Cv.refl _, Cv.refl _, Cv.refl _, Cv.refl _, Cv.refl _, Cv.refl _, trivial⟩)) (.cons (.tmp rfl (.d _)) .nil)), ?_⟩
      have hu : chA w x day = 12 := by
        unfold chA; simp only [h1, h4, h36]; rfl
      have hv : adv w cal x day = (z0, 12) := by
        unfold adv; rw [hu]; rw [if_pos (by decide)]
      rw [hv]; rfl
end Go.Proofs.YtadfkfgachlgeaaDoor.Wk
