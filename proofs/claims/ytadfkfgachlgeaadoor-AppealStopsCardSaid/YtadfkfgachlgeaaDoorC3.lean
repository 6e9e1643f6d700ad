/- The law of an appeal that stops a case. Condition: a number of sixteen bits. -/
import Derived.Test.YtadfkfgachlgeaaDoorC2
set_option linter.unusedSimpArgs false
set_option linter.unusedVariables false
namespace Go.Proofs.YtadfkfgachlgeaaDoor.Wk
open Go Go.RowKit Go.Proofs.YtadfkfgachlgeaaDoor.Av
theorem adv17_as0 {w : Lw} {cal : List Int} {x : Cs} {day : Int} (h : (adv w cal x day).2 = 0) (hl0 : cal.length < 9223372036854775807) : Ctr Tryd.prog 21 [.ag (eLw w), .sl 1 (List.map (rI .i64) cal), .ag (eCs x), .fl (.int .i64 day)] (.tu [.ag (eCs (adv w cal x day).1), .fl (.int .i64 0)]) := by
  have := adv17 w cal x day hl0
  rwa [h] at this
set_option maxHeartbeats 4000000 in
set_option maxRecDepth 100000 in
theorem law6 (w : Lw) (cal : List Int) (x : Cs) (g day l : Int) (hl : 0 ≤ l ∧ l ≤ 65535) : CtrG Tryd.prog 0 GS 6 [.ag (eLw w), .sl 1 (List.map (rI .i64) cal), .ag (eCs x), .fl (.int .i64 g), .fl (.int .i64 day), .fl (.int .u16 l)] (.d (.fl (.bool true))) := by
  refine ctrG (n := 131) (rs := #[.tmp 12]) (L := [(0, .d (.ag (eLw w))), (1, .d (.sl 1 (List.map (rI .i64) cal))), (2, .d (.ag (eCs x))), (3, .d (.fl (.int .i64 g))), (4, .d (.fl (.int .i64 day))), (5, .d (.fl (.int .u16 l)))]) Tryd.func6 rfl rfl rfl rfl rfl (fun w0 U0 hG => ?_)
  refine a_rseq ?_
  refine rg_nam (d := 6) (v := .pt 101 0) (m := 101) (nw := [(101, .bx 24 (eLw w))]) rfl (og rfl (of_eff (op_box 101 rfl rfl rfl rfl) rfl)) rfl ?_
  refine rg_nam (d := 8) (v := .pt 102 0) (m := 102) (nw := [(102, .bx 28 (eCs x))]) rfl (og rfl (of_eff (op_box 102 rfl rfl rfl rfl) rfl)) rfl ?_
  refine rg_put (d := 12) (v := .d (.fl (.bool false))) rfl (og rfl (op_assign rfl rfl rfl)) ?_
  refine rg_done rfl ?_
  refine a_seq ?_
  refine a_rseq ?_
  refine rg_put (d := 25) (v := .d (.ag (eLw w))) rfl (og rfl (of_eff (s_load_pts rfl Tryd.underlying24 rfl ti24 rfl rfl rfl rfl) rfl)) ?_
  refine rg_put (d := 26) (v := .d (.sl 1 (List.map (rI .i64) cal))) rfl (og rfl (op_move rfl rfl rfl)) ?_
  refine rg_put (d := 27) (v := .d (.fl (.bool (small w cal)))) rfl (og rfl (op_call rfl Tryd.func9 nm9 rfl (.cons rfl (.d _) (.cons rfl (.d _) .nil)) (small9 w cal) rfl)) ?_
  refine rg_put (d := 28) (v := .d (.fl (.bool ((!(small w cal)))))) rfl (og rfl (op_un rfl rfl (u_not _) rfl)) ?_
  refine rg_done rfl ?_
  refine a_cond rfl (fun h1 => ?_) (fun h1 => ?_)
  · skip
    have h2 := t_not h1
    refine a_rseq ?_
    refine rg_put (d := 12) (v := .d (.fl (.bool true))) rfl (og rfl (op_assign rfl rfl rfl)) ?_
    refine rg_done rfl ?_
    refine a_ret ?_
    show ∃ ds, ResL _ _ _ ds ∧ RV.of ds = _
    refine ⟨[.fl (.bool true)], (.cons (.tmp rfl (.d _)) .nil), ?_⟩
    rfl
  · skip
    have h3 := f_not h1
    have hcl := small_t h3
    refine a_skip ?_
    show A _ _ _ _ _ _ _
    refine a_rseq ?_
    refine rg_put (d := 30) (v := .d (.ag (eLw w))) rfl (og rfl (of_eff (s_load_pts rfl Tryd.underlying24 rfl ti24 rfl rfl rfl rfl) rfl)) ?_
    refine rg_put (d := 31) (v := .d (.sl 1 (List.map (rI .i64) cal))) rfl (og rfl (op_move rfl rfl rfl)) ?_
    refine rg_put (d := 32) (v := .d (.ag (eCs x))) rfl (og rfl (of_eff (s_load_pts rfl Tryd.underlying28 rfl ti28 rfl rfl rfl rfl) rfl)) ?_
    refine rg_put (d := 33) (v := .d (.fl (.int .i64 g))) rfl (og rfl (op_move rfl rfl rfl)) ?_
    refine rg_put (d := 34) (v := .d (.fl (.int .i64 day))) rfl (og rfl (op_move rfl rfl rfl)) ?_
    rcases fot (((fil w cal x g day).2 != 0)) with h4 | h4
    · skip
      obtain ⟨fo1, fo2, fo3⟩ := fil_ok (f_bne h4)
      obtain ⟨fk1, fk2, fk3⟩ := adv_key fo1
      have fo4 : ((adv w cal x day).1.ap.state == 0) = true := by rw [fo3]; rfl
      have h5 := f_bne h4
      refine rg_put (d := 35) (v := .tu [.ag (eCs ((yv (adv w cal x day).1 g day))), .fl (.int .i64 0)]) rfl (og rfl (op_call rfl Tryd.func10 nm10 rfl (.cons rfl (.d _) (.cons rfl (.d _) (.cons rfl (.d _) (.cons rfl (.d _) (.cons rfl (.d _) .nil))))) (fil10_as fo2 (by omega)) rfl)) ?_
      refine rg_put (d := 29) (v := .tu [.ag (eCs ((yv (adv w cal x day).1 g day))), .fl (.int .i64 0)]) rfl (og rfl (op_move rfl rfl rfl)) ?_
      refine rg_put (d := 36) (v := .d (.ag (eCs ((yv (adv w cal x day).1 g day))))) rfl (og rfl (op_extract rfl rfl rfl rfl)) ?_
      refine rg_put (d := 37) (v := .d (.fl (.int .i64 0))) rfl (og rfl (op_extract rfl rfl rfl rfl)) ?_
      refine rg_nam (d := 13) (v := .pt 103 0) (m := 103) (nw := [(103, .bx 28 ([.fl (.string (⟨#[]⟩)), .fl (.string (⟨#[]⟩)), .fl (.string (⟨#[]⟩)), .fl (.int .i64 0), .fl (.int .i64 0), .fl (.int .i64 0), .fl (.int .i64 0), .fl (.int .i64 0), .fl (.int .i64 0), .fl (.int .i64 0), .fl (.int .i64 0), .fl (.int .i64 0)]))]) rfl (og rfl (of_eff (s_alloc 103 rfl ti28 (by kernel_rfl) rfl) rfl)) rfl ?_
      refine rg_sto (nw := [(103, .bx 28 ((eCs ((yv (adv w cal x day).1 g day)))))]) rfl (og rfl (of_eff (s_store rfl rfl ti28 rfl rfl rfl rfl rfl rfl) rfl)) ?_
      refine rg_put (d := 14) (v := .d (.fl (.int .i64 0))) rfl (og rfl (op_assign rfl rfl rfl)) ?_
      refine rg_done rfl ?_
      refine a_seq ?_
      refine a_rseq ?_
      refine rg_put (d := 38) (v := .d (.fl (.int .i64 0))) rfl (og rfl (op_move rfl rfl rfl)) ?_
      refine rg_put (d := 39) (v := .d (.fl (.bool (0 != 0)))) rfl (og rfl (op_bin rfl rfl rfl (b_neq _ _ _ _) rfl)) ?_
      refine rg_done rfl ?_
      refine a_condF rfl (ne_self_b _) ?_
      refine a_skip ?_
      show A _ _ _ _ _ _ _
      refine a_rseq ?_
      refine rg_put (d := 48) (v := .d (.ag (eLw w))) rfl (og rfl (of_eff (s_load_pts rfl Tryd.underlying24 rfl ti24 rfl rfl rfl rfl) rfl)) ?_
      refine rg_put (d := 49) (v := .d (.sl 1 (List.map (rI .i64) cal))) rfl (og rfl (op_move rfl rfl rfl)) ?_
      refine rg_put (d := 50) (v := .d (.ag (eCs x))) rfl (og rfl (of_eff (s_load_pts rfl Tryd.underlying28 rfl ti28 rfl rfl rfl rfl) rfl)) ?_
      refine rg_put (d := 51) (v := .d (.fl (.int .i64 day))) rfl (og rfl (op_move rfl rfl rfl)) ?_
      refine rg_put (d := 52) (v := .tu [.ag (eCs ((adv w cal x day).1)), .fl (.int .i64 0)]) rfl (og rfl (op_call rfl Tryd.func21 nm21 rfl (.cons rfl (.d _) (.cons rfl (.d _) (.cons rfl (.d _) (.cons rfl (.d _) .nil)))) (adv17_as0 fo1 (by omega)) rfl)) ?_
      refine rg_put (d := 47) (v := .tu [.ag (eCs ((adv w cal x day).1)), .fl (.int .i64 0)]) rfl (og rfl (op_move rfl rfl rfl)) ?_
      refine rg_put (d := 53) (v := .d (.ag (eCs ((adv w cal x day).1)))) rfl (og rfl (op_extract rfl rfl rfl rfl)) ?_
      refine rg_put (d := 54) (v := .d (.fl (.int .i64 0))) rfl (og rfl (op_extract rfl rfl rfl rfl)) ?_
      refine rg_nam (d := 16) (v := .pt 104 0) (m := 104) (nw := [(104, .bx 28 ([.fl (.string (⟨#[]⟩)), .fl (.string (⟨#[]⟩)), .fl (.string (⟨#[]⟩)), .fl (.int .i64 0), .fl (.int .i64 0), .fl (.int .i64 0), .fl (.int .i64 0), .fl (.int .i64 0), .fl (.int .i64 0), .fl (.int .i64 0), .fl (.int .i64 0), .fl (.int .i64 0)]))]) rfl (og rfl (of_eff (s_alloc 104 rfl ti28 (by kernel_rfl) rfl) rfl)) rfl ?_
      refine rg_sto (nw := [(104, .bx 28 ((eCs ((adv w cal x day).1))))]) rfl (og rfl (of_eff (s_store rfl rfl ti28 rfl rfl rfl rfl rfl rfl) rfl)) ?_
      refine rg_put (d := 17) (v := .d (.fl (.int .i64 0))) rfl (og rfl (op_assign rfl rfl rfl)) ?_
      refine rg_done rfl ?_
      refine a_rseq ?_
      refine rg_put (d := 56) (v := .d (.ag (eLw w))) rfl (og rfl (of_eff (s_load_pts rfl Tryd.underlying24 rfl ti24 rfl rfl rfl rfl) rfl)) ?_
      refine rg_put (d := 57) (v := .d (.sl 1 (List.map (rI .i64) cal))) rfl (og rfl (op_move rfl rfl rfl)) ?_
      refine rg_put (d := 58) (v := .d (.ag (eCs (((yv (adv w cal x day).1 g day)))))) rfl (og rfl (of_eff (s_load_pts rfl Tryd.underlying28 rfl ti28 rfl rfl rfl rfl) rfl)) ?_
      refine rg_put (d := 59) (v := .tu [.fl (.int .i64 0), .fl (.bool false)]) rfl (og rfl (op_call rfl Tryd.func22 nm22 rfl (.cons rfl (.d _) (.cons rfl (.d _) (.cons rfl (.d _) .nil))) (due19_as (r := (0, false)) (due_pend rfl) (by omega)) rfl)) ?_
      refine rg_put (d := 55) (v := .tu [.fl (.int .i64 0), .fl (.bool false)]) rfl (og rfl (op_move rfl rfl rfl)) ?_
      refine rg_put (d := 60) (v := .d (.fl (.int .i64 0))) rfl (og rfl (op_extract rfl rfl rfl rfl)) ?_
      refine rg_put (d := 61) (v := .d (.fl (.bool false))) rfl (og rfl (op_extract rfl rfl rfl rfl)) ?_
      refine rg_put (d := 18) (v := .d (.fl (.int .i64 0))) rfl (og rfl (op_assign rfl rfl rfl)) ?_
      refine rg_put (d := 19) (v := .d (.fl (.bool false))) rfl (og rfl (op_assign rfl rfl rfl)) ?_
      refine rg_done rfl ?_
      refine a_rseq ?_
      refine rg_put (d := 63) (v := .d (.ag (eLw w))) rfl (og rfl (of_eff (s_load_pts rfl Tryd.underlying24 rfl ti24 rfl rfl rfl rfl) rfl)) ?_
      refine rg_put (d := 64) (v := .d (.sl 1 (List.map (rI .i64) cal))) rfl (og rfl (op_move rfl rfl rfl)) ?_
      refine rg_put (d := 65) (v := .d (.ag (eCs (((yv (adv w cal x day).1 g day)))))) rfl (og rfl (of_eff (s_load_pts rfl Tryd.underlying28 rfl ti28 rfl rfl rfl rfl) rfl)) ?_
      refine rg_put (d := 66) (v := .tu [.fl (.int .i64 0), .fl (.bool false)]) rfl (og rfl (op_call rfl Tryd.func15 nm15 rfl (.cons rfl (.d _) (.cons rfl (.d _) (.cons rfl (.d _) .nil))) (last15_as (r := (0, false)) (last_no (show (1 : Int) ≠ 0 by decide)) (by omega)) rfl)) ?_
      refine rg_put (d := 62) (v := .tu [.fl (.int .i64 0), .fl (.bool false)]) rfl (og rfl (op_move rfl rfl rfl)) ?_
      refine rg_put (d := 67) (v := .d (.fl (.int .i64 0))) rfl (og rfl (op_extract rfl rfl rfl rfl)) ?_
      refine rg_put (d := 68) (v := .d (.fl (.bool false))) rfl (og rfl (op_extract rfl rfl rfl rfl)) ?_
      refine rg_put (d := 20) (v := .d (.fl (.int .i64 0))) rfl (og rfl (op_assign rfl rfl rfl)) ?_
      refine rg_put (d := 21) (v := .d (.fl (.bool false))) rfl (og rfl (op_assign rfl rfl rfl)) ?_
      refine rg_done rfl ?_
      refine a_seq ?_
      refine a_rseq ?_
      refine rg_put (d := 69) (v := .d (.fl (.int .i64 0))) rfl (og rfl (op_move rfl rfl rfl)) ?_
      refine rg_put (d := 70) (v := .d (.fl (.bool (0 != 0)))) rfl (og rfl (op_bin rfl rfl rfl (b_neq _ _ _ _) rfl)) ?_
      refine rg_put (d := 71) (v := .d (.fl (.bool (0 != 0)))) rfl (og rfl (op_move rfl rfl rfl)) ?_
      refine rg_put (d := 72) (v := .d (.fl (.bool false))) rfl (oy rfl rfl rfl (ne_self_b _) (op_move rfl rfl rfl)) ?_
      refine rg_put (d := 73) (v := .d (.fl (.bool false))) rfl (og rfl (op_pick rfl rfl (by rw [(ne_self_b _)]; rfl) rfl)) ?_
      refine rg_put (d := 74) (v := .d (.fl (.bool false))) rfl (og rfl (op_move rfl rfl rfl)) ?_
      refine rg_put (d := 75) (v := .d (.fl (.bool false))) rfl (oy rfl rfl rfl rfl (op_move rfl rfl rfl)) ?_
      refine rg_put (d := 76) (v := .d (.fl (.bool false))) rfl (og rfl (op_pick rfl rfl rfl rfl)) ?_
      refine rg_put (d := 77) (v := .d (.fl (.bool false))) rfl (og rfl (op_move rfl rfl rfl)) ?_
      refine rg_put (d := 78) (v := .d (.ag (eCs (((yv (adv w cal x day).1 g day)))))) rfl (oy rfl rfl rfl rfl (of_eff (s_load_pts rfl Tryd.underlying28 rfl ti28 rfl rfl rfl rfl) rfl)) ?_
      refine rg_put (d := 79) (v := .d (.fl (.bool true))) rfl (oy rfl rfl rfl rfl (op_call rfl Tryd.func17 nm17 rfl (.cons rfl (.d _) .nil) (pend17 (yv (adv w cal x day).1 g day)) rfl)) ?_
      refine rg_put (d := 80) (v := .d (.fl (.bool (!true)))) rfl (oy rfl rfl rfl rfl (op_un rfl rfl (u_not _) rfl)) ?_
      refine rg_put (d := 81) (v := .d (.fl (.bool (!true)))) rfl (og rfl (op_pick rfl rfl rfl rfl)) ?_
      refine rg_put (d := 82) (v := .d (.fl (.bool (!true)))) rfl (og rfl (op_move rfl rfl rfl)) ?_
      refine rg_put (d := 83) (v := .pt 103 9) rfl (oy rfl rfl rfl (not_f rfl) (of_eff (s_field_pt rfl Tryd.underlying28 rfl ti26 rfl rfl rfl) rfl)) ?_
      refine rg_put (d := 84) (v := .pt 103 10) rfl (oy rfl rfl rfl (not_f rfl) (of_eff (s_field_pt rfl Tryd.underlying26 rfl ti3 rfl rfl rfl) rfl)) ?_
      refine rg_put (d := 85) (v := .d (.fl (.int .i64 ((((yv (adv w cal x day).1 g day)).ap).ground)))) rfl (oy rfl rfl rfl (not_f rfl) (op_load_pt rfl Tryd.underlying3 rfl rfl rfl rfl rfl)) ?_
      refine rg_put (d := 86) (v := .d (.fl (.int .i64 g))) rfl (oy rfl rfl rfl (not_f rfl) (op_move rfl rfl rfl)) ?_
      refine rg_put (d := 87) (v := .d (.fl (.bool (((((yv (adv w cal x day).1 g day)).ap).ground != g))))) rfl (oy rfl rfl rfl (not_f rfl) (op_bin rfl rfl rfl (b_neq _ _ _ _) rfl)) ?_
      refine rg_put (d := 88) (v := .d (.fl (.bool (((((yv (adv w cal x day).1 g day)).ap).ground != g))))) rfl (og rfl (op_pick rfl rfl (by rw [(not_f rfl)]; rfl) rfl)) ?_
      refine rg_put (d := 89) (v := .d (.fl (.bool (((((yv (adv w cal x day).1 g day)).ap).ground != g))))) rfl (og rfl (op_move rfl rfl rfl)) ?_
      refine rg_put (d := 90) (v := .pt 103 9) rfl (oy rfl rfl rfl (show ((yv (adv w cal x day).1 g day).ap.ground != g) = false from ne_self_b g) (of_eff (s_field_pt rfl Tryd.underlying28 rfl ti26 rfl rfl rfl) rfl)) ?_
      refine rg_put (d := 91) (v := .pt 103 11) rfl (oy rfl rfl rfl (show ((yv (adv w cal x day).1 g day).ap.ground != g) = false from ne_self_b g) (of_eff (s_field_pt rfl Tryd.underlying26 rfl ti3 rfl rfl rfl) rfl)) ?_
      refine rg_put (d := 92) (v := .d (.fl (.int .i64 ((((yv (adv w cal x day).1 g day)).ap).day)))) rfl (oy rfl rfl rfl (show ((yv (adv w cal x day).1 g day).ap.ground != g) = false from ne_self_b g) (op_load_pt rfl Tryd.underlying3 rfl rfl rfl rfl rfl)) ?_
      refine rg_put (d := 93) (v := .d (.fl (.int .i64 day))) rfl (oy rfl rfl rfl (show ((yv (adv w cal x day).1 g day).ap.ground != g) = false from ne_self_b g) (op_move rfl rfl rfl)) ?_
      refine rg_put (d := 94) (v := .d (.fl (.bool (((((yv (adv w cal x day).1 g day)).ap).day != day))))) rfl (oy rfl rfl rfl (show ((yv (adv w cal x day).1 g day).ap.ground != g) = false from ne_self_b g) (op_bin rfl rfl rfl (b_neq _ _ _ _) rfl)) ?_
      refine rg_put (d := 95) (v := .d (.fl (.bool (((((yv (adv w cal x day).1 g day)).ap).day != day))))) rfl (og rfl (op_pick rfl rfl (by rw [(show ((yv (adv w cal x day).1 g day).ap.ground != g) = false from ne_self_b g)]; rfl) rfl)) ?_
      refine rg_done rfl ?_
      refine a_condF rfl (show ((yv (adv w cal x day).1 g day).ap.day != day) = false from ne_self_b day) ?_
      refine a_skip ?_
      show A _ _ _ _ _ _ _
      refine a_rseq ?_
      refine rg_put (d := 96) (v := .d (.fl (.int .i64 day))) rfl (og rfl (op_move rfl rfl rfl)) ?_
      refine rg_put (d := 97) (v := .d (.fl (.int .u16 l))) rfl (og rfl (op_move rfl rfl rfl)) ?_
      refine rg_put (d := 98) (v := .d (.fl (.int .i64 l))) rfl (og rfl (op_conv rfl Tryd.underlying45 Tryd.underlying3 rfl (w64 (by omega)) rfl)) ?_
      refine rg_put (d := 99) (v := .d (.fl (.int .i64 (day + l)))) rfl (og rfl (op_bin rfl rfl rfl (fun x y w => b_add64 _ _ _ x y w (by omega)) rfl)) ?_
      refine rg_put (d := 100) (v := .d (.fl (.int .i64 ((min (day + l) 795363))))) rfl (og rfl (op_min rfl rfl rfl rfl)) ?_
      refine rg_put (d := 22) (v := .d (.fl (.int .i64 ((min (day + l) 795363))))) rfl (og rfl (op_assign rfl rfl rfl)) ?_
      refine rg_done rfl ?_
      refine a_rseq ?_
      refine rg_put (d := 102) (v := .d (.ag (eLw w))) rfl (og rfl (of_eff (s_load_pts rfl Tryd.underlying24 rfl ti24 rfl rfl rfl rfl) rfl)) ?_
      refine rg_put (d := 103) (v := .d (.sl 1 (List.map (rI .i64) cal))) rfl (og rfl (op_move rfl rfl rfl)) ?_
      refine rg_put (d := 104) (v := .d (.ag (eCs (((yv (adv w cal x day).1 g day)))))) rfl (og rfl (of_eff (s_load_pts rfl Tryd.underlying28 rfl ti28 rfl rfl rfl rfl) rfl)) ?_
      refine rg_put (d := 105) (v := .d (.fl (.int .i64 ((min (day + l) 795363))))) rfl (og rfl (op_move rfl rfl rfl)) ?_
      refine rg_put (d := 106) (v := .tu [.ag (eCs ((yv (adv w cal x day).1 g day))), .fl (.int .i64 0)]) rfl (og rfl (op_call rfl Tryd.func21 nm21 rfl (.cons rfl (.d _) (.cons rfl (.d _) (.cons rfl (.d _) (.cons rfl (.d _) .nil)))) (adv17x_as (r := ((yv (adv w cal x day).1 g day), 0)) (adv_pend rfl (yv_ok fk1) (by omega) (show 0 ≤ (adv w cal x day).1.since ∧ (adv w cal x day).1.since ≤ _ by omega)) (by omega)) rfl)) ?_
      refine rg_put (d := 101) (v := .tu [.ag (eCs ((yv (adv w cal x day).1 g day))), .fl (.int .i64 0)]) rfl (og rfl (op_move rfl rfl rfl)) ?_
      refine rg_put (d := 107) (v := .d (.ag (eCs ((yv (adv w cal x day).1 g day))))) rfl (og rfl (op_extract rfl rfl rfl rfl)) ?_
      refine rg_put (d := 108) (v := .d (.fl (.int .i64 0))) rfl (og rfl (op_extract rfl rfl rfl rfl)) ?_
      refine rg_nam (d := 23) (v := .pt 105 0) (m := 105) (nw := [(105, .bx 28 ([.fl (.string (⟨#[]⟩)), .fl (.string (⟨#[]⟩)), .fl (.string (⟨#[]⟩)), .fl (.int .i64 0), .fl (.int .i64 0), .fl (.int .i64 0), .fl (.int .i64 0), .fl (.int .i64 0), .fl (.int .i64 0), .fl (.int .i64 0), .fl (.int .i64 0), .fl (.int .i64 0)]))]) rfl (og rfl (of_eff (s_alloc 105 rfl ti28 (by kernel_rfl) rfl) rfl)) rfl ?_
      refine rg_sto (nw := [(105, .bx 28 ((eCs ((yv (adv w cal x day).1 g day)))))]) rfl (og rfl (of_eff (s_store rfl rfl ti28 rfl rfl rfl rfl rfl rfl) rfl)) ?_
      refine rg_put (d := 24) (v := .d (.fl (.int .i64 0))) rfl (og rfl (op_assign rfl rfl rfl)) ?_
      refine rg_done rfl ?_
      refine a_seq ?_
      refine a_rseq ?_
      refine rg_put (d := 109) (v := .d (.fl (.int .i64 0))) rfl (og rfl (op_move rfl rfl rfl)) ?_
      refine rg_put (d := 110) (v := .d (.fl (.bool (0 != 0)))) rfl (og rfl (op_bin rfl rfl rfl (b_neq _ _ _ _) rfl)) ?_
      refine rg_put (d := 111) (v := .d (.fl (.bool (0 != 0)))) rfl (og rfl (op_move rfl rfl rfl)) ?_
      refine rg_put (d := 112) (v := .d (.ag (eCs (((yv (adv w cal x day).1 g day)))))) rfl (oy rfl rfl rfl (ne_self_b _) (of_eff (s_load_pts rfl Tryd.underlying28 rfl ti28 rfl rfl rfl rfl) rfl)) ?_
      refine rg_put (d := 113) (v := .d (.ag (eCs (((yv (adv w cal x day).1 g day)))))) rfl (oy rfl rfl rfl (ne_self_b _) (of_eff (s_load_pts rfl Tryd.underlying28 rfl ti28 rfl rfl rfl rfl) rfl)) ?_
      refine rg_put (d := 114) (v := .d (.fl (.bool false))) rfl (oy rfl rfl rfl (ne_self_b _) (op_eqS [.string ((((yv (adv w cal x day).1 g day))).id), .string ((((yv (adv w cal x day).1 g day))).plate), .string ((((yv (adv w cal x day).1 g day))).key), .int .i64 ((((yv (adv w cal x day).1 g day))).begun), .int .i64 ((((yv (adv w cal x day).1 g day))).since), .int .i64 ((((yv (adv w cal x day).1 g day))).stage), .int .i64 ((((yv (adv w cal x day).1 g day))).owed), .int .i64 ((((yv (adv w cal x day).1 g day))).paid), .int .i64 ((((yv (adv w cal x day).1 g day))).paused), .int .i64 (((((yv (adv w cal x day).1 g day))).ap).state), .int .i64 (((((yv (adv w cal x day).1 g day))).ap).ground), .int .i64 (((((yv (adv w cal x day).1 g day))).ap).day)] [.string ((((yv (adv w cal x day).1 g day))).id), .string ((((yv (adv w cal x day).1 g day))).plate), .string ((((yv (adv w cal x day).1 g day))).key), .int .i64 ((((yv (adv w cal x day).1 g day))).begun), .int .i64 ((((yv (adv w cal x day).1 g day))).since), .int .i64 ((((yv (adv w cal x day).1 g day))).stage), .int .i64 ((((yv (adv w cal x day).1 g day))).owed), .int .i64 ((((yv (adv w cal x day).1 g day))).paid), .int .i64 ((((yv (adv w cal x day).1 g day))).paused), .int .i64 (((((yv (adv w cal x day).1 g day))).ap).state), .int .i64 (((((yv (adv w cal x day).1 g day))).ap).ground), .int .i64 (((((yv (adv w cal x day).1 g day))).ap).day)] rfl rfl rfl (b := false) (fun ww => neq28 (((yv (adv w cal x day).1 g day))) _ _ ww) rfl)) ?_
      refine rg_put (d := 115) (v := .d (.fl (.bool false))) rfl (og rfl (op_pick rfl rfl (by rw [(ne_self_b _)]; rfl) rfl)) ?_
      refine rg_done rfl ?_
      refine a_condF rfl rfl ?_
      refine a_skip ?_
      show A _ _ _ _ _ _ _
      refine a_rseq ?_
      refine rg_put (d := 116) (v := .pt 104 9) rfl (og rfl (of_eff (s_field_pt rfl Tryd.underlying28 rfl ti26 rfl rfl rfl) rfl)) ?_
      refine rg_put (d := 117) (v := .d (.ag (eAp ((Ap.mk ((((adv w cal x day).1).ap).state) ((((adv w cal x day).1).ap).ground) ((((adv w cal x day).1).ap).day)))))) rfl (og rfl (of_eff (s_load_pts rfl Tryd.underlying26 rfl ti26 rfl rfl rfl rfl) rfl)) ?_
      refine rg_put (d := 118) (v := .pt 103 9) rfl (og rfl (of_eff (s_field_pt rfl Tryd.underlying28 rfl ti26 rfl rfl rfl) rfl)) ?_
      refine rg_sto (nw := [(103, .bx 28 [.fl (.string (((yv (adv w cal x day).1 g day)).id)), .fl (.string (((yv (adv w cal x day).1 g day)).plate)), .fl (.string (((yv (adv w cal x day).1 g day)).key)), .fl (.int .i64 (((yv (adv w cal x day).1 g day)).begun)), .fl (.int .i64 (((yv (adv w cal x day).1 g day)).since)), .fl (.int .i64 (((yv (adv w cal x day).1 g day)).stage)), .fl (.int .i64 (((yv (adv w cal x day).1 g day)).owed)), .fl (.int .i64 (((yv (adv w cal x day).1 g day)).paid)), .fl (.int .i64 (((yv (adv w cal x day).1 g day)).paused)), .fl (.int .i64 (((Ap.mk ((((adv w cal x day).1).ap).state) ((((adv w cal x day).1).ap).ground) ((((adv w cal x day).1).ap).day))).state)), .fl (.int .i64 (((Ap.mk ((((adv w cal x day).1).ap).state) ((((adv w cal x day).1).ap).ground) ((((adv w cal x day).1).ap).day))).ground)), .fl (.int .i64 (((Ap.mk ((((adv w cal x day).1).ap).state) ((((adv w cal x day).1).ap).ground) ((((adv w cal x day).1).ap).day))).day))])]) rfl (og rfl (of_eff (s_store rfl rfl ti26 rfl rfl rfl rfl rfl rfl) rfl)) ?_
      refine rg_done rfl ?_
      refine a_rseq ?_
      refine rg_put (d := 119) (v := .d (.ag (eCs ((Cs.mk (((yv (adv w cal x day).1 g day)).id) (((yv (adv w cal x day).1 g day)).plate) (((yv (adv w cal x day).1 g day)).key) (((yv (adv w cal x day).1 g day)).begun) (((yv (adv w cal x day).1 g day)).since) (((yv (adv w cal x day).1 g day)).stage) (((yv (adv w cal x day).1 g day)).owed) (((yv (adv w cal x day).1 g day)).paid) (((yv (adv w cal x day).1 g day)).paused) ((Ap.mk (((Ap.mk ((((adv w cal x day).1).ap).state) ((((adv w cal x day).1).ap).ground) ((((adv w cal x day).1).ap).day))).state) (((Ap.mk ((((adv w cal x day).1).ap).state) ((((adv w cal x day).1).ap).ground) ((((adv w cal x day).1).ap).day))).ground) (((Ap.mk ((((adv w cal x day).1).ap).state) ((((adv w cal x day).1).ap).ground) ((((adv w cal x day).1).ap).day))).day)))))))) rfl (og rfl (of_eff (s_load_pts rfl Tryd.underlying28 rfl ti28 rfl rfl rfl rfl) rfl)) ?_
      refine rg_put (d := 120) (v := .d (.ag (eCs (((adv w cal x day).1))))) rfl (og rfl (of_eff (s_load_pts rfl Tryd.underlying28 rfl ti28 rfl rfl rfl rfl) rfl)) ?_
      refine rg_put (d := 121) (v := .d (.fl (.bool true))) rfl (og rfl (op_eqS [.string (((Cs.mk (((yv (adv w cal x day).1 g day)).id) (((yv (adv w cal x day).1 g day)).plate) (((yv (adv w cal x day).1 g day)).key) (((yv (adv w cal x day).1 g day)).begun) (((yv (adv w cal x day).1 g day)).since) (((yv (adv w cal x day).1 g day)).stage) (((yv (adv w cal x day).1 g day)).owed) (((yv (adv w cal x day).1 g day)).paid) (((yv (adv w cal x day).1 g day)).paused) ((Ap.mk (((Ap.mk ((((adv w cal x day).1).ap).state) ((((adv w cal x day).1).ap).ground) ((((adv w cal x day).1).ap).day))).state) (((Ap.mk ((((adv w cal x day).1).ap).state) ((((adv w cal x day).1).ap).ground) ((((adv w cal x day).1).ap).day))).ground) (((Ap.mk ((((adv w cal x day).1).ap).state) ((((adv w cal x day).1).ap).ground) ((((adv w cal x day).1).ap).day))).day))))).id), .string (((Cs.mk (((yv (adv w cal x day).1 g day)).id) (((yv (adv w cal x day).1 g day)).plate) (((yv (adv w cal x day).1 g day)).key) (((yv (adv w cal x day).1 g day)).begun) (((yv (adv w cal x day).1 g day)).since) (((yv (adv w cal x day).1 g day)).stage) (((yv (adv w cal x day).1 g day)).owed) (((yv (adv w cal x day).1 g day)).paid) (((yv (adv w cal x day).1 g day)).paused) ((Ap.mk (((Ap.mk ((((adv w cal x day).1).ap).state) ((((adv w cal x day).1).ap).ground) ((((adv w cal x day).1).ap).day))).state) (((Ap.mk ((((adv w cal x day).1).ap).state) ((((adv w cal x day).1).ap).ground) ((((adv w cal x day).1).ap).day))).ground) (((Ap.mk ((((adv w cal x day).1).ap).state) ((((adv w cal x day).1).ap).ground) ((((adv w cal x day).1).ap).day))).day))))).plate), .string (((Cs.mk (((yv (adv w cal x day).1 g day)).id) (((yv (adv w cal x day).1 g day)).plate) (((yv (adv w cal x day).1 g day)).key) (((yv (adv w cal x day).1 g day)).begun) (((yv (adv w cal x day).1 g day)).since) (((yv (adv w cal x day).1 g day)).stage) (((yv (adv w cal x day).1 g day)).owed) (((yv (adv w cal x day).1 g day)).paid) (((yv (adv w cal x day).1 g day)).paused) ((Ap.mk (((Ap.mk ((((adv w cal x day).1).ap).state) ((((adv w cal x day).1).ap).ground) ((((adv w cal x day).1).ap).day))).state) (((Ap.mk ((((adv w cal x day).1).ap).state) ((((adv w cal x day).1).ap).ground) ((((adv w cal x day).1).ap).day))).ground) (((Ap.mk ((((adv w cal x day).1).ap).state) ((((adv w cal x day).1).ap).ground) ((((adv w cal x day).1).ap).day))).day))))).key), .int .i64 (((Cs.mk (((yv (adv w cal x day).1 g day)).id) (((yv (adv w cal x day).1 g day)).plate) (((yv (adv w cal x day).1 g day)).key) (((yv (adv w cal x day).1 g day)).begun) (((yv (adv w cal x day).1 g day)).since) (((yv (adv w cal x day).1 g day)).stage) (((yv (adv w cal x day).1 g day)).owed) (((yv (adv w cal x day).1 g day)).paid) (((yv (adv w cal x day).1 g day)).paused) ((Ap.mk (((Ap.mk ((((adv w cal x day).1).ap).state) ((((adv w cal x day).1).ap).ground) ((((adv w cal x day).1).ap).day))).state) (((Ap.mk ((((adv w cal x day).1).ap).state) ((((adv w cal x day).1).ap).ground) ((((adv w cal x day).1).ap).day))).ground) (((Ap.mk ((((adv w cal x day).1).ap).state) ((((adv w cal x day).1).ap).ground) ((((adv w cal x day).1).ap).day))).day))))).begun), .int .i64 (((Cs.mk (((yv (adv w cal x day).1 g day)).id) (((yv (adv w cal x day).1 g day)).plate) (((yv (adv w cal x day).1 g day)).key) (((yv (adv w cal x day).1 g day)).begun) (((yv (adv w cal x day).1 g day)).since) (((yv (adv w cal x day).1 g day)).stage) (((yv (adv w cal x day).1 g day)).owed) (((yv (adv w cal x day).1 g day)).paid) (((yv (adv w cal x day).1 g day)).paused) ((Ap.mk (((Ap.mk ((((adv w cal x day).1).ap).state) ((((adv w cal x day).1).ap).ground) ((((adv w cal x day).1).ap).day))).state) (((Ap.mk ((((adv w cal x day).1).ap).state) ((((adv w cal x day).1).ap).ground) ((((adv w cal x day).1).ap).day))).ground) (((Ap.mk ((((adv w cal x day).1).ap).state) ((((adv w cal x day).1).ap).ground) ((((adv w cal x day).1).ap).day))).day))))).since), .int .i64 (((Cs.mk (((yv (adv w cal x day).1 g day)).id) (((yv (adv w cal x day).1 g day)).plate) (((yv (adv w cal x day).1 g day)).key) (((yv (adv w cal x day).1 g day)).begun) (((yv (adv w cal x day).1 g day)).since) (((yv (adv w cal x day).1 g day)).stage) (((yv (adv w cal x day).1 g day)).owed) (((yv (adv w cal x day).1 g day)).paid) (((yv (adv w cal x day).1 g day)).paused) ((Ap.mk (((Ap.mk ((((adv w cal x day).1).ap).state) ((((adv w cal x day).1).ap).ground) ((((adv w cal x day).1).ap).day))).state) (((Ap.mk ((((adv w cal x day).1).ap).state) ((((adv w cal x day).1).ap).ground) ((((adv w cal x day).1).ap).day))).ground) (((Ap.mk ((((adv w cal x day).1).ap).state) ((((adv w cal x day).1).ap).ground) ((((adv w cal x day).1).ap).day))).day))))).stage), .int .i64 (((Cs.mk (((yv (adv w cal x day).1 g day)).id) (((yv (adv w cal x day).1 g day)).plate) (((yv (adv w cal x day).1 g day)).key) (((yv (adv w cal x day).1 g day)).begun) (((yv (adv w cal x day).1 g day)).since) (((yv (adv w cal x day).1 g day)).stage) (((yv (adv w cal x day).1 g day)).owed) (((yv (adv w cal x day).1 g day)).paid) (((yv (adv w cal x day).1 g day)).paused) ((Ap.mk (((Ap.mk ((((adv w cal x day).1).ap).state) ((((adv w cal x day).1).ap).ground) ((((adv w cal x day).1).ap).day))).state) (((Ap.mk ((((adv w cal x day).1).ap).state) ((((adv w cal x day).1).ap).ground) ((((adv w cal x day).1).ap).day))).ground) (((Ap.mk ((((adv w cal x day).1).ap).state) ((((adv w cal x day).1).ap).ground) ((((adv w cal x day).1).ap).day))).day))))).owed), .int .i64 (((Cs.mk (((yv (adv w cal x day).1 g day)).id) (((yv (adv w cal x day).1 g day)).plate) (((yv (adv w cal x day).1 g day)).key) (((yv (adv w cal x day).1 g day)).begun) (((yv (adv w cal x day).1 g day)).since) (((yv (adv w cal x day).1 g day)).stage) (((yv (adv w cal x day).1 g day)).owed) (((yv (adv w cal x day).1 g day)).paid) (((yv (adv w cal x day).1 g day)).paused) ((Ap.mk (((Ap.mk ((((adv w cal x day).1).ap).state) ((((adv w cal x day).1).ap).ground) ((((adv w cal x day).1).ap).day))).state) (((Ap.mk ((((adv w cal x day).1).ap).state) ((((adv w cal x day).1).ap).ground) ((((adv w cal x day).1).ap).day))).ground) (((Ap.mk ((((adv w cal x day).1).ap).state) ((((adv w cal x day).1).ap).ground) ((((adv w cal x day).1).ap).day))).day))))).paid), .int .i64 (((Cs.mk (((yv (adv w cal x day).1 g day)).id) (((yv (adv w cal x day).1 g day)).plate) (((yv (adv w cal x day).1 g day)).key) (((yv (adv w cal x day).1 g day)).begun) (((yv (adv w cal x day).1 g day)).since) (((yv (adv w cal x day).1 g day)).stage) (((yv (adv w cal x day).1 g day)).owed) (((yv (adv w cal x day).1 g day)).paid) (((yv (adv w cal x day).1 g day)).paused) ((Ap.mk (((Ap.mk ((((adv w cal x day).1).ap).state) ((((adv w cal x day).1).ap).ground) ((((adv w cal x day).1).ap).day))).state) (((Ap.mk ((((adv w cal x day).1).ap).state) ((((adv w cal x day).1).ap).ground) ((((adv w cal x day).1).ap).day))).ground) (((Ap.mk ((((adv w cal x day).1).ap).state) ((((adv w cal x day).1).ap).ground) ((((adv w cal x day).1).ap).day))).day))))).paused), .int .i64 ((((Cs.mk (((yv (adv w cal x day).1 g day)).id) (((yv (adv w cal x day).1 g day)).plate) (((yv (adv w cal x day).1 g day)).key) (((yv (adv w cal x day).1 g day)).begun) (((yv (adv w cal x day).1 g day)).since) (((yv (adv w cal x day).1 g day)).stage) (((yv (adv w cal x day).1 g day)).owed) (((yv (adv w cal x day).1 g day)).paid) (((yv (adv w cal x day).1 g day)).paused) ((Ap.mk (((Ap.mk ((((adv w cal x day).1).ap).state) ((((adv w cal x day).1).ap).ground) ((((adv w cal x day).1).ap).day))).state) (((Ap.mk ((((adv w cal x day).1).ap).state) ((((adv w cal x day).1).ap).ground) ((((adv w cal x day).1).ap).day))).ground) (((Ap.mk ((((adv w cal x day).1).ap).state) ((((adv w cal x day).1).ap).ground) ((((adv w cal x day).1).ap).day))).day))))).ap).state), .int .i64 ((((Cs.mk (((yv (adv w cal x day).1 g day)).id) (((yv (adv w cal x day).1 g day)).plate) (((yv (adv w cal x day).1 g day)).key) (((yv (adv w cal x day).1 g day)).begun) (((yv (adv w cal x day).1 g day)).since) (((yv (adv w cal x day).1 g day)).stage) (((yv (adv w cal x day).1 g day)).owed) (((yv (adv w cal x day).1 g day)).paid) (((yv (adv w cal x day).1 g day)).paused) ((Ap.mk (((Ap.mk ((((adv w cal x day).1).ap).state) ((((adv w cal x day).1).ap).ground) ((((adv w cal x day).1).ap).day))).state) (((Ap.mk ((((adv w cal x day).1).ap).state) ((((adv w cal x day).1).ap).ground) ((((adv w cal x day).1).ap).day))).ground) (((Ap.mk ((((adv w cal x day).1).ap).state) ((((adv w cal x day).1).ap).ground) ((((adv w cal x day).1).ap).day))).day))))).ap).ground), .int .i64 ((((Cs.mk (((yv (adv w cal x day).1 g day)).id) (((yv (adv w cal x day).1 g day)).plate) (((yv (adv w cal x day).1 g day)).key) (((yv (adv w cal x day).1 g day)).begun) (((yv (adv w cal x day).1 g day)).since) (((yv (adv w cal x day).1 g day)).stage) (((yv (adv w cal x day).1 g day)).owed) (((yv (adv w cal x day).1 g day)).paid) (((yv (adv w cal x day).1 g day)).paused) ((Ap.mk (((Ap.mk ((((adv w cal x day).1).ap).state) ((((adv w cal x day).1).ap).ground) ((((adv w cal x day).1).ap).day))).state) (((Ap.mk ((((adv w cal x day).1).ap).state) ((((adv w cal x day).1).ap).ground) ((((adv w cal x day).1).ap).day))).ground) (((Ap.mk ((((adv w cal x day).1).ap).state) ((((adv w cal x day).1).ap).ground) ((((adv w cal x day).1).ap).day))).day))))).ap).day)] [.string ((((adv w cal x day).1)).id), .string ((((adv w cal x day).1)).plate), .string ((((adv w cal x day).1)).key), .int .i64 ((((adv w cal x day).1)).begun), .int .i64 ((((adv w cal x day).1)).since), .int .i64 ((((adv w cal x day).1)).stage), .int .i64 ((((adv w cal x day).1)).owed), .int .i64 ((((adv w cal x day).1)).paid), .int .i64 ((((adv w cal x day).1)).paused), .int .i64 (((((adv w cal x day).1)).ap).state), .int .i64 (((((adv w cal x day).1)).ap).ground), .int .i64 (((((adv w cal x day).1)).ap).day)] rfl rfl rfl (b := true) (fun ww => eql28 (((adv w cal x day).1)) _ _ ww) rfl)) ?_
      refine rg_put (d := 122) (v := .d (.fl (.bool true))) rfl (og rfl (op_move rfl rfl rfl)) ?_
      refine rg_put (d := 123) (v := .pt 104 9) rfl (oy rfl rfl rfl rfl (of_eff (s_field_pt rfl Tryd.underlying28 rfl ti26 rfl rfl rfl) rfl)) ?_
      refine rg_put (d := 124) (v := .pt 104 9) rfl (oy rfl rfl rfl rfl (of_eff (s_field_pt rfl Tryd.underlying26 rfl ti3 rfl rfl rfl) rfl)) ?_
      refine rg_put (d := 125) (v := .d (.fl (.int .i64 ((((adv w cal x day).1).ap).state)))) rfl (oy rfl rfl rfl rfl (op_load_pt rfl Tryd.underlying3 rfl rfl rfl rfl rfl)) ?_
      refine rg_put (d := 126) (v := .d (.fl (.bool (((((adv w cal x day).1).ap).state == 0))))) rfl (oy rfl rfl rfl rfl (op_bin rfl rfl rfl (b_eql _ _ _ _) rfl)) ?_
      refine rg_put (d := 127) (v := .d (.fl (.bool (((((adv w cal x day).1).ap).state == 0))))) rfl (og rfl (op_pick rfl rfl rfl rfl)) ?_
      refine rg_put (d := 128) (v := .d (.fl (.bool (((((adv w cal x day).1).ap).state == 0))))) rfl (og rfl (op_move rfl rfl rfl)) ?_
      refine rg_put (d := 129) (v := .d (.fl (.bool true))) rfl (oy rfl rfl rfl fo4 (op_callG hG rfl Tryd.func12 nm12 rfl .nil alive12 rfl)) ?_
      refine rg_put (d := 130) (v := .d (.fl (.bool true))) rfl (og rfl (op_pick rfl rfl (by rw [fo4]; rfl) rfl)) ?_
      refine rg_put (d := 12) (v := .d (.fl (.bool true))) rfl (og rfl (op_assign rfl rfl rfl)) ?_
      refine rg_done rfl ?_
      refine a_ret ?_
      show ∃ ds, ResL _ _ _ ds ∧ RV.of ds = _
      refine ⟨[.fl (.bool true)], (.cons (.tmp rfl (.d _)) .nil), ?_⟩
      rfl
    · skip
      have h6 := t_bne h4
      refine rg_put (d := 35) (v := .tu [.ag (eCs z0), .fl (.int .i64 ((fil w cal x g day).2))]) rfl (og rfl (op_call rfl Tryd.func10 nm10 rfl (.cons rfl (.d _) (.cons rfl (.d _) (.cons rfl (.d _) (.cons rfl (.d _) (.cons rfl (.d _) .nil))))) (fil10_as (fil_err (t_bne h4)) (by omega)) rfl)) ?_
      refine rg_put (d := 29) (v := .tu [.ag (eCs z0), .fl (.int .i64 ((fil w cal x g day).2))]) rfl (og rfl (op_move rfl rfl rfl)) ?_
      refine rg_put (d := 36) (v := .d (.ag (eCs z0))) rfl (og rfl (op_extract rfl rfl rfl rfl)) ?_
      refine rg_put (d := 37) (v := .d (.fl (.int .i64 ((fil w cal x g day).2)))) rfl (og rfl (op_extract rfl rfl rfl rfl)) ?_
      refine rg_nam (d := 13) (v := .pt 106 0) (m := 106) (nw := [(106, .bx 28 ([.fl (.string (⟨#[]⟩)), .fl (.string (⟨#[]⟩)), .fl (.string (⟨#[]⟩)), .fl (.int .i64 0), .fl (.int .i64 0), .fl (.int .i64 0), .fl (.int .i64 0), .fl (.int .i64 0), .fl (.int .i64 0), .fl (.int .i64 0), .fl (.int .i64 0), .fl (.int .i64 0)]))]) rfl (og rfl (of_eff (s_alloc 106 rfl ti28 (by kernel_rfl) rfl) rfl)) rfl ?_
      refine rg_sto (nw := [(106, .bx 28 (eCs z0))]) rfl (og rfl (of_eff (s_store rfl rfl ti28 rfl rfl rfl rfl rfl rfl) rfl)) ?_
      refine rg_put (d := 14) (v := .d (.fl (.int .i64 ((fil w cal x g day).2)))) rfl (og rfl (op_assign rfl rfl rfl)) ?_
      refine rg_done rfl ?_
      refine a_seq ?_
      refine a_rseq ?_
      refine rg_put (d := 38) (v := .d (.fl (.int .i64 ((fil w cal x g day).2)))) rfl (og rfl (op_move rfl rfl rfl)) ?_
      refine rg_put (d := 39) (v := .d (.fl (.bool (((fil w cal x g day).2 != 0))))) rfl (og rfl (op_bin rfl rfl rfl (b_neq _ _ _ _) rfl)) ?_
      refine rg_done rfl ?_
      refine a_condK rfl h4 ?_
      refine a_rseq ?_
      refine rg_put (d := 40) (v := .d (.ag (eCs ((Cs.mk (⟨#[]⟩) (⟨#[]⟩) (⟨#[]⟩) 0 0 0 0 0 0 (Ap.mk 0 0 0)))))) rfl (og rfl (of_eff (op_build rfl Tryd.underlying28 ti28 rfl (by kernel_rfl) (by kernel_rfl) (pl := #[(0, 1), (1, 1), (2, 1), (3, 1), (4, 1), (5, 1), (6, 1), (7, 1), (8, 1), (9, 3)]) (by kernel_rfl) .nil rfl) rfl)) ?_
      refine rg_nam (d := 15) (v := .pt 107 0) (m := 107) (nw := [(107, .bx 28 ([.fl (.string (⟨#[]⟩)), .fl (.string (⟨#[]⟩)), .fl (.string (⟨#[]⟩)), .fl (.int .i64 0), .fl (.int .i64 0), .fl (.int .i64 0), .fl (.int .i64 0), .fl (.int .i64 0), .fl (.int .i64 0), .fl (.int .i64 0), .fl (.int .i64 0), .fl (.int .i64 0)]))]) rfl (og rfl (of_eff (s_alloc 107 rfl ti28 (by kernel_rfl) rfl) rfl)) rfl ?_
      refine rg_sto (nw := [(107, .bx 28 ((eCs ((Cs.mk (⟨#[]⟩) (⟨#[]⟩) (⟨#[]⟩) 0 0 0 0 0 0 (Ap.mk 0 0 0))))))]) rfl (og rfl (of_eff (s_store rfl rfl ti28 rfl rfl rfl rfl rfl rfl) rfl)) ?_
      refine rg_done rfl ?_
      refine a_rseq ?_
      refine rg_put (d := 41) (v := .d (.ag (eCs z0))) rfl (og rfl (of_eff (s_load_pts rfl Tryd.underlying28 rfl ti28 rfl rfl rfl rfl) rfl)) ?_
      refine rg_put (d := 42) (v := .d (.ag (eCs (((Cs.mk (⟨#[]⟩) (⟨#[]⟩) (⟨#[]⟩) 0 0 0 0 0 0 (Ap.mk 0 0 0))))))) rfl (og rfl (of_eff (s_load_pts rfl Tryd.underlying28 rfl ti28 rfl rfl rfl rfl) rfl)) ?_
      refine rg_put (d := 43) (v := .d (.fl (.bool true))) rfl (og rfl (op_eqS [.string z0.id, .string z0.plate, .string z0.key, .int .i64 z0.begun, .int .i64 z0.since, .int .i64 z0.stage, .int .i64 z0.owed, .int .i64 z0.paid, .int .i64 z0.paused, .int .i64 z0.ap.state, .int .i64 z0.ap.ground, .int .i64 z0.ap.day] [.string ((((Cs.mk (⟨#[]⟩) (⟨#[]⟩) (⟨#[]⟩) 0 0 0 0 0 0 (Ap.mk 0 0 0)))).id), .string ((((Cs.mk (⟨#[]⟩) (⟨#[]⟩) (⟨#[]⟩) 0 0 0 0 0 0 (Ap.mk 0 0 0)))).plate), .string ((((Cs.mk (⟨#[]⟩) (⟨#[]⟩) (⟨#[]⟩) 0 0 0 0 0 0 (Ap.mk 0 0 0)))).key), .int .i64 ((((Cs.mk (⟨#[]⟩) (⟨#[]⟩) (⟨#[]⟩) 0 0 0 0 0 0 (Ap.mk 0 0 0)))).begun), .int .i64 ((((Cs.mk (⟨#[]⟩) (⟨#[]⟩) (⟨#[]⟩) 0 0 0 0 0 0 (Ap.mk 0 0 0)))).since), .int .i64 ((((Cs.mk (⟨#[]⟩) (⟨#[]⟩) (⟨#[]⟩) 0 0 0 0 0 0 (Ap.mk 0 0 0)))).stage), .int .i64 ((((Cs.mk (⟨#[]⟩) (⟨#[]⟩) (⟨#[]⟩) 0 0 0 0 0 0 (Ap.mk 0 0 0)))).owed), .int .i64 ((((Cs.mk (⟨#[]⟩) (⟨#[]⟩) (⟨#[]⟩) 0 0 0 0 0 0 (Ap.mk 0 0 0)))).paid), .int .i64 ((((Cs.mk (⟨#[]⟩) (⟨#[]⟩) (⟨#[]⟩) 0 0 0 0 0 0 (Ap.mk 0 0 0)))).paused), .int .i64 (((((Cs.mk (⟨#[]⟩) (⟨#[]⟩) (⟨#[]⟩) 0 0 0 0 0 0 (Ap.mk 0 0 0)))).ap).state), .int .i64 (((((Cs.mk (⟨#[]⟩) (⟨#[]⟩) (⟨#[]⟩) 0 0 0 0 0 0 (Ap.mk 0 0 0)))).ap).ground), .int .i64 (((((Cs.mk (⟨#[]⟩) (⟨#[]⟩) (⟨#[]⟩) 0 0 0 0 0 0 (Ap.mk 0 0 0)))).ap).day)] rfl rfl rfl (b := true) (fun ww => eql28 (((Cs.mk (⟨#[]⟩) (⟨#[]⟩) (⟨#[]⟩) 0 0 0 0 0 0 (Ap.mk 0 0 0)))) _ _ ww) rfl)) ?_
      refine rg_put (d := 44) (v := .d (.fl (.bool true))) rfl (og rfl (op_move rfl rfl rfl)) ?_
      refine rg_put (d := 45) (v := .d (.fl (.bool true))) rfl (oy rfl rfl rfl rfl (op_callG hG rfl Tryd.func12 nm12 rfl .nil alive12 rfl)) ?_
      refine rg_put (d := 46) (v := .d (.fl (.bool true))) rfl (og rfl (op_pick rfl rfl rfl rfl)) ?_
      refine rg_put (d := 12) (v := .d (.fl (.bool true))) rfl (og rfl (op_assign rfl rfl rfl)) ?_
      refine rg_done rfl ?_
      refine a_ret ?_
      show ∃ ds, ResL _ _ _ ds ∧ RV.of ds = _
      refine ⟨[.fl (.bool true)], (.cons (.tmp rfl (.d _)) .nil), ?_⟩
      rfl
end Go.Proofs.YtadfkfgachlgeaaDoor.Wk
