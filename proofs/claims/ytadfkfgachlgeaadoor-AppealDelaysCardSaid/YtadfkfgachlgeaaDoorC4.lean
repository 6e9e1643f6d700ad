/- The laws of an appeal that was decided. Condition: a number of sixteen bits. -/
import Derived.Test.YtadfkfgachlgeaaDoorC2
set_option linter.unusedSimpArgs false
set_option linter.unusedVariables false
namespace Go.Proofs.YtadfkfgachlgeaaDoor.Wk
open Go Go.RowKit Go.Proofs.YtadfkfgachlgeaaDoor.Av
theorem bne_yes {a b : Int} (h : a ≠ b) : (a != b) = true := by simpa using h
theorem dec_day {w : Lw} {cal : List Int} {x : Cs} {up : Bool} {day : Int} (h : (dec w cal x up day).2 = 0) : 0 ≤ day ∧ day < 795364 := by
  unfold dec at h
  split at h
  · rename_i h0; simp at h0; exact absurd h h0
  · rename_i h0
    exact (chD_ok (by simpa using h0)).2.2.2.1
set_option maxHeartbeats 4000000 in
set_option maxRecDepth 100000 in
theorem law7 (w : Lw) (cal : List Int) (x : Cs) (up : Bool) (day l : Int) (hl : 0 ≤ l ∧ l ≤ 65535) : CtrG Tryd.prog 0 GS 7 [.ag (eLw w), .sl 1 (List.map (rI .i64) cal), .ag (eCs x), .fl (.bool up), .fl (.int .i64 day), .fl (.int .u16 l)] (.d (.fl (.bool true))) := by
  refine ctrG (n := 74) (rs := #[.tmp 12]) (L := [(0, .d (.ag (eLw w))), (1, .d (.sl 1 (List.map (rI .i64) cal))), (2, .d (.ag (eCs x))), (3, .d (.fl (.bool up))), (4, .d (.fl (.int .i64 day))), (5, .d (.fl (.int .u16 l)))]) Tryd.func7 rfl rfl rfl rfl rfl (fun w0 U0 hG => ?_)
  refine a_rseq ?_
  refine rg_nam (d := 6) (v := .pt 101 0) (m := 101) (nw := [(101, .bx 24 (eLw w))]) rfl (og rfl (of_eff (op_box 101 rfl rfl rfl rfl) rfl)) rfl ?_
  refine rg_nam (d := 8) (v := .pt 102 0) (m := 102) (nw := [(102, .bx 28 (eCs x))]) rfl (og rfl (of_eff (op_box 102 rfl rfl rfl rfl) rfl)) rfl ?_
  refine rg_put (d := 12) (v := .d (.fl (.bool false))) rfl (og rfl (op_assign rfl rfl rfl)) ?_
  refine rg_done rfl ?_
  refine a_seq ?_
  refine a_rseq ?_
  refine rg_put (d := 20) (v := .d (.ag (eLw w))) rfl (og rfl (of_eff (s_load_pts rfl Tryd.underlying24 rfl ti24 rfl rfl rfl rfl) rfl)) ?_
  refine rg_put (d := 21) (v := .d (.sl 1 (List.map (rI .i64) cal))) rfl (og rfl (op_move rfl rfl rfl)) ?_
  refine rg_put (d := 22) (v := .d (.fl (.bool (small w cal)))) rfl (og rfl (op_call rfl Tryd.func9 nm9 rfl (.cons rfl (.d _) (.cons rfl (.d _) .nil)) (small9 w cal) rfl)) ?_
  refine rg_put (d := 23) (v := .d (.fl (.bool ((!(small w cal)))))) rfl (og rfl (op_un rfl rfl (u_not _) rfl)) ?_
  refine rg_done rfl ?_
  refine a_cond rfl (fun h1 => ?_) (fun h1 => ?_)
  · skip
    have h2 := t_not h1
    refine a_rseq ?_
    refine rg_put (d := 12) (v := .d (.fl (.bool true))) rfl (og rfl (op_assign rfl rfl rfl)) ?_
    refine rg_done rfl ?_
    refine a_ret ?_
    show ∃ ds, ResL _ _ _ ds ∧ RV.of ds = _
    refine ⟨[.fl (.bool true)], (.cons (.tmp rfl (.d _)) .nil), ?_⟩
    rfl
  · skip
    have h3 := f_not h1
    have hcl := small_t h3
    refine a_skip ?_
    show A _ _ _ _ _ _ _
    refine a_rseq ?_
    refine rg_put (d := 25) (v := .d (.ag (eLw w))) rfl (og rfl (of_eff (s_load_pts rfl Tryd.underlying24 rfl ti24 rfl rfl rfl rfl) rfl)) ?_
    refine rg_put (d := 26) (v := .d (.sl 1 (List.map (rI .i64) cal))) rfl (og rfl (op_move rfl rfl rfl)) ?_
    refine rg_put (d := 27) (v := .d (.ag (eCs x))) rfl (og rfl (of_eff (s_load_pts rfl Tryd.underlying28 rfl ti28 rfl rfl rfl rfl) rfl)) ?_
    refine rg_put (d := 28) (v := .d (.fl (.bool up))) rfl (og rfl (op_move rfl rfl rfl)) ?_
    refine rg_put (d := 29) (v := .d (.fl (.int .i64 day))) rfl (og rfl (op_move rfl rfl rfl)) ?_
    refine rg_put (d := 30) (v := .tu [.ag (eCs ((dec w cal x up day).1)), .fl (.int .i64 ((dec w cal x up day).2))]) rfl (og rfl (op_call rfl Tryd.func13 nm13 rfl (.cons rfl (.d _) (.cons rfl (.d _) (.cons rfl (.d _) (.cons rfl (.d _) (.cons rfl (.d _) .nil))))) (dec13 w cal x up day (by omega)) rfl)) ?_
    refine rg_put (d := 24) (v := .tu [.ag (eCs ((dec w cal x up day).1)), .fl (.int .i64 ((dec w cal x up day).2))]) rfl (og rfl (op_move rfl rfl rfl)) ?_
    refine rg_put (d := 31) (v := .d (.ag (eCs ((dec w cal x up day).1)))) rfl (og rfl (op_extract rfl rfl rfl rfl)) ?_
    refine rg_put (d := 32) (v := .d (.fl (.int .i64 ((dec w cal x up day).2)))) rfl (og rfl (op_extract rfl rfl rfl rfl)) ?_
    refine rg_nam (d := 13) (v := .pt 103 0) (m := 103) (nw := [(103, .bx 28 ([.fl (.string (⟨#[]⟩)), .fl (.string (⟨#[]⟩)), .fl (.string (⟨#[]⟩)), .fl (.int .i64 0), .fl (.int .i64 0), .fl (.int .i64 0), .fl (.int .i64 0), .fl (.int .i64 0), .fl (.int .i64 0), .fl (.int .i64 0), .fl (.int .i64 0), .fl (.int .i64 0)]))]) rfl (og rfl (of_eff (s_alloc 103 rfl ti28 (by kernel_rfl) rfl) rfl)) rfl ?_
    refine rg_sto (nw := [(103, .bx 28 ((eCs ((dec w cal x up day).1))))]) rfl (og rfl (of_eff (s_store rfl rfl ti28 rfl rfl rfl rfl rfl rfl) rfl)) ?_
    refine rg_put (d := 14) (v := .d (.fl (.int .i64 ((dec w cal x up day).2)))) rfl (og rfl (op_assign rfl rfl rfl)) ?_
    refine rg_done rfl ?_
    refine a_seq ?_
    refine a_rseq ?_
    refine rg_put (d := 33) (v := .d (.fl (.int .i64 ((dec w cal x up day).2)))) rfl (og rfl (op_move rfl rfl rfl)) ?_
    refine rg_put (d := 34) (v := .d (.fl (.bool (((dec w cal x up day).2 != 0))))) rfl (og rfl (op_bin rfl rfl rfl (b_neq _ _ _ _) rfl)) ?_
    refine rg_done rfl ?_
    refine a_cond rfl (fun h4 => ?_) (fun h4 => ?_)
    · skip
      have h5 := t_bne h4
      refine a_rseq ?_
      refine rg_put (d := 12) (v := .d (.fl (.bool true))) rfl (og rfl (op_assign rfl rfl rfl)) ?_
      refine rg_done rfl ?_
      refine a_ret ?_
      show ∃ ds, ResL _ _ _ ds ∧ RV.of ds = _
      refine ⟨[.fl (.bool true)], (.cons (.tmp rfl (.d _)) .nil), ?_⟩
      rfl
    · skip
      obtain ⟨de1, de2⟩ := dec_ap (f_bne h4)
      have de3 := dec_day (f_bne h4)
      have h6 := f_bne h4
      refine a_skip ?_
      show A _ _ _ _ _ _ _
      refine a_rseq ?_
      refine rg_put (d := 36) (v := .d (.ag (eLw w))) rfl (og rfl (of_eff (s_load_pts rfl Tryd.underlying24 rfl ti24 rfl rfl rfl rfl) rfl)) ?_
      refine rg_put (d := 37) (v := .d (.sl 1 (List.map (rI .i64) cal))) rfl (og rfl (op_move rfl rfl rfl)) ?_
      refine rg_put (d := 38) (v := .d (.ag (eCs (((dec w cal x up day).1))))) rfl (og rfl (of_eff (s_load_pts rfl Tryd.underlying28 rfl ti28 rfl rfl rfl rfl) rfl)) ?_
      refine rg_put (d := 39) (v := .tu [.fl (.int .i64 0), .fl (.bool false)]) rfl (og rfl (op_call rfl Tryd.func15 nm15 rfl (.cons rfl (.d _) (.cons rfl (.d _) (.cons rfl (.d _) .nil))) (last15_as (r := (0, false)) (last_no de1) (by omega)) rfl)) ?_
      refine rg_put (d := 35) (v := .tu [.fl (.int .i64 0), .fl (.bool false)]) rfl (og rfl (op_move rfl rfl rfl)) ?_
      refine rg_put (d := 40) (v := .d (.fl (.int .i64 0))) rfl (og rfl (op_extract rfl rfl rfl rfl)) ?_
      refine rg_put (d := 41) (v := .d (.fl (.bool false))) rfl (og rfl (op_extract rfl rfl rfl rfl)) ?_
      refine rg_put (d := 15) (v := .d (.fl (.int .i64 0))) rfl (og rfl (op_assign rfl rfl rfl)) ?_
      refine rg_put (d := 16) (v := .d (.fl (.bool false))) rfl (og rfl (op_assign rfl rfl rfl)) ?_
      refine rg_done rfl ?_
      refine a_rseq ?_
      refine rg_put (d := 43) (v := .d (.ag (eLw w))) rfl (og rfl (of_eff (s_load_pts rfl Tryd.underlying24 rfl ti24 rfl rfl rfl rfl) rfl)) ?_
      refine rg_put (d := 44) (v := .d (.sl 1 (List.map (rI .i64) cal))) rfl (og rfl (op_move rfl rfl rfl)) ?_
      refine rg_put (d := 45) (v := .d (.ag (eCs (((dec w cal x up day).1))))) rfl (og rfl (of_eff (s_load_pts rfl Tryd.underlying28 rfl ti28 rfl rfl rfl rfl) rfl)) ?_
      refine rg_put (d := 46) (v := .d (.fl (.int .i64 day))) rfl (og rfl (op_move rfl rfl rfl)) ?_
      refine rg_put (d := 47) (v := .d (.fl (.int .u16 l))) rfl (og rfl (op_move rfl rfl rfl)) ?_
      refine rg_put (d := 48) (v := .d (.fl (.int .i64 l))) rfl (og rfl (op_conv rfl Tryd.underlying45 Tryd.underlying3 rfl (w64 (by omega)) rfl)) ?_
      refine rg_put (d := 49) (v := .d (.fl (.int .i64 (day + l)))) rfl (og rfl (op_bin rfl rfl rfl (fun x y w => b_add64 _ _ _ x y w (by omega)) rfl)) ?_
      refine rg_put (d := 50) (v := .d (.fl (.int .i64 ((min (day + l) 795363))))) rfl (og rfl (op_min rfl rfl rfl rfl)) ?_
      refine rg_put (d := 51) (v := .tu [.ag (eCs z0), .fl (.int .i64 ((fil w cal (((dec w cal x up day).1)) 1 ((min (day + l) 795363))).2))]) rfl (og rfl (op_call rfl Tryd.func10 nm10 rfl (.cons rfl (.d _) (.cons rfl (.d _) (.cons rfl (.d _) (.cons rfl (.d _) (.cons rfl (.d _) .nil))))) (fil10_as (fil_err (fil_dec de1)) (by omega)) rfl)) ?_
      refine rg_put (d := 42) (v := .tu [.ag (eCs z0), .fl (.int .i64 ((fil w cal (((dec w cal x up day).1)) 1 ((min (day + l) 795363))).2))]) rfl (og rfl (op_move rfl rfl rfl)) ?_
      refine rg_put (d := 52) (v := .d (.ag (eCs z0))) rfl (og rfl (op_extract rfl rfl rfl rfl)) ?_
      refine rg_put (d := 53) (v := .d (.fl (.int .i64 ((fil w cal (((dec w cal x up day).1)) 1 ((min (day + l) 795363))).2)))) rfl (og rfl (op_extract rfl rfl rfl rfl)) ?_
      refine rg_nam (d := 17) (v := .pt 104 0) (m := 104) (nw := [(104, .bx 28 ([.fl (.string (⟨#[]⟩)), .fl (.string (⟨#[]⟩)), .fl (.string (⟨#[]⟩)), .fl (.int .i64 0), .fl (.int .i64 0), .fl (.int .i64 0), .fl (.int .i64 0), .fl (.int .i64 0), .fl (.int .i64 0), .fl (.int .i64 0), .fl (.int .i64 0), .fl (.int .i64 0)]))]) rfl (og rfl (of_eff (s_alloc 104 rfl ti28 (by kernel_rfl) rfl) rfl)) rfl ?_
      refine rg_sto (nw := [(104, .bx 28 (eCs z0))]) rfl (og rfl (of_eff (s_store rfl rfl ti28 rfl rfl rfl rfl rfl rfl) rfl)) ?_
      refine rg_put (d := 18) (v := .d (.fl (.int .i64 ((fil w cal (((dec w cal x up day).1)) 1 ((min (day + l) 795363))).2)))) rfl (og rfl (op_assign rfl rfl rfl)) ?_
      refine rg_done rfl ?_
      refine a_rseq ?_
      refine rg_put (d := 54) (v := .d (.ag (eCs ((Cs.mk (⟨#[]⟩) (⟨#[]⟩) (⟨#[]⟩) 0 0 0 0 0 0 (Ap.mk 0 0 0)))))) rfl (og rfl (of_eff (op_build rfl Tryd.underlying28 ti28 rfl (by kernel_rfl) (by kernel_rfl) (pl := #[(0, 1), (1, 1), (2, 1), (3, 1), (4, 1), (5, 1), (6, 1), (7, 1), (8, 1), (9, 3)]) (by kernel_rfl) .nil rfl) rfl)) ?_
      refine rg_nam (d := 19) (v := .pt 105 0) (m := 105) (nw := [(105, .bx 28 ([.fl (.string (⟨#[]⟩)), .fl (.string (⟨#[]⟩)), .fl (.string (⟨#[]⟩)), .fl (.int .i64 0), .fl (.int .i64 0), .fl (.int .i64 0), .fl (.int .i64 0), .fl (.int .i64 0), .fl (.int .i64 0), .fl (.int .i64 0), .fl (.int .i64 0), .fl (.int .i64 0)]))]) rfl (og rfl (of_eff (s_alloc 105 rfl ti28 (by kernel_rfl) rfl) rfl)) rfl ?_
      refine rg_sto (nw := [(105, .bx 28 ((eCs ((Cs.mk (⟨#[]⟩) (⟨#[]⟩) (⟨#[]⟩) 0 0 0 0 0 0 (Ap.mk 0 0 0))))))]) rfl (og rfl (of_eff (s_store rfl rfl ti28 rfl rfl rfl rfl rfl rfl) rfl)) ?_
      refine rg_done rfl ?_
      refine a_rseq ?_
      refine rg_put (d := 55) (v := .d (.fl (.bool false))) rfl (og rfl (op_move rfl rfl rfl)) ?_
      refine rg_put (d := 56) (v := .d (.fl (.bool (!false)))) rfl (og rfl (op_un rfl rfl (u_not _) rfl)) ?_
      refine rg_put (d := 57) (v := .d (.fl (.bool (!false)))) rfl (og rfl (op_move rfl rfl rfl)) ?_
      refine rg_put (d := 58) (v := .d (.fl (.int .i64 ((fil w cal (((dec w cal x up day).1)) 1 ((min (day + l) 795363))).2)))) rfl (oy rfl rfl rfl (not_t' rfl) (op_move rfl rfl rfl)) ?_
      refine rg_put (d := 59) (v := .d (.fl (.bool (((fil w cal (((dec w cal x up day).1)) 1 ((min (day + l) 795363))).2 != 0))))) rfl (oy rfl rfl rfl (not_t' rfl) (op_bin rfl rfl rfl (b_neq _ _ _ _) rfl)) ?_
      refine rg_put (d := 60) (v := .d (.fl (.bool (((fil w cal (((dec w cal x up day).1)) 1 ((min (day + l) 795363))).2 != 0))))) rfl (og rfl (op_pick rfl rfl (by rw [(not_t' rfl)]; rfl) rfl)) ?_
      refine rg_put (d := 61) (v := .d (.fl (.bool (((fil w cal (((dec w cal x up day).1)) 1 ((min (day + l) 795363))).2 != 0))))) rfl (og rfl (op_move rfl rfl rfl)) ?_
      refine rg_put (d := 62) (v := .d (.ag (eCs z0))) rfl (oy rfl rfl rfl (bne_yes (fil_dec de1)) (of_eff (s_load_pts rfl Tryd.underlying28 rfl ti28 rfl rfl rfl rfl) rfl)) ?_
      refine rg_put (d := 63) (v := .d (.ag (eCs (((Cs.mk (⟨#[]⟩) (⟨#[]⟩) (⟨#[]⟩) 0 0 0 0 0 0 (Ap.mk 0 0 0))))))) rfl (oy rfl rfl rfl (bne_yes (fil_dec de1)) (of_eff (s_load_pts rfl Tryd.underlying28 rfl ti28 rfl rfl rfl rfl) rfl)) ?_
      refine rg_put (d := 64) (v := .d (.fl (.bool true))) rfl (oy rfl rfl rfl (bne_yes (fil_dec de1)) (op_eqS [.string z0.id, .string z0.plate, .string z0.key, .int .i64 z0.begun, .int .i64 z0.since, .int .i64 z0.stage, .int .i64 z0.owed, .int .i64 z0.paid, .int .i64 z0.paused, .int .i64 z0.ap.state, .int .i64 z0.ap.ground, .int .i64 z0.ap.day] [.string ((((Cs.mk (⟨#[]⟩) (⟨#[]⟩) (⟨#[]⟩) 0 0 0 0 0 0 (Ap.mk 0 0 0)))).id), .string ((((Cs.mk (⟨#[]⟩) (⟨#[]⟩) (⟨#[]⟩) 0 0 0 0 0 0 (Ap.mk 0 0 0)))).plate), .string ((((Cs.mk (⟨#[]⟩) (⟨#[]⟩) (⟨#[]⟩) 0 0 0 0 0 0 (Ap.mk 0 0 0)))).key), .int .i64 ((((Cs.mk (⟨#[]⟩) (⟨#[]⟩) (⟨#[]⟩) 0 0 0 0 0 0 (Ap.mk 0 0 0)))).begun), .int .i64 ((((Cs.mk (⟨#[]⟩) (⟨#[]⟩) (⟨#[]⟩) 0 0 0 0 0 0 (Ap.mk 0 0 0)))).since), .int .i64 ((((Cs.mk (⟨#[]⟩) (⟨#[]⟩) (⟨#[]⟩) 0 0 0 0 0 0 (Ap.mk 0 0 0)))).stage), .int .i64 ((((Cs.mk (⟨#[]⟩) (⟨#[]⟩) (⟨#[]⟩) 0 0 0 0 0 0 (Ap.mk 0 0 0)))).owed), .int .i64 ((((Cs.mk (⟨#[]⟩) (⟨#[]⟩) (⟨#[]⟩) 0 0 0 0 0 0 (Ap.mk 0 0 0)))).paid), .int .i64 ((((Cs.mk (⟨#[]⟩) (⟨#[]⟩) (⟨#[]⟩) 0 0 0 0 0 0 (Ap.mk 0 0 0)))).paused), .int .i64 (((((Cs.mk (⟨#[]⟩) (⟨#[]⟩) (⟨#[]⟩) 0 0 0 0 0 0 (Ap.mk 0 0 0)))).ap).state), .int .i64 (((((Cs.mk (⟨#[]⟩) (⟨#[]⟩) (⟨#[]⟩) 0 0 0 0 0 0 (Ap.mk 0 0 0)))).ap).ground), .int .i64 (((((Cs.mk (⟨#[]⟩) (⟨#[]⟩) (⟨#[]⟩) 0 0 0 0 0 0 (Ap.mk 0 0 0)))).ap).day)] rfl rfl rfl (b := true) (fun ww => eql28 z0 _ _ ww) rfl)) ?_
      refine rg_put (d := 65) (v := .d (.fl (.bool true))) rfl (og rfl (op_pick rfl rfl (by rw [(bne_yes (fil_dec de1))]; rfl) rfl)) ?_
      refine rg_put (d := 66) (v := .d (.fl (.bool true))) rfl (og rfl (op_move rfl rfl rfl)) ?_
      refine rg_put (d := 67) (v := .d (.ag (eCs (((dec w cal x up day).1))))) rfl (oy rfl rfl rfl rfl (of_eff (s_load_pts rfl Tryd.underlying28 rfl ti28 rfl rfl rfl rfl) rfl)) ?_
      refine rg_put (d := 68) (v := .d (.fl (.bool ((pend (((dec w cal x up day).1))))))) rfl (oy rfl rfl rfl rfl (op_call rfl Tryd.func17 nm17 rfl (.cons rfl (.d _) .nil) (pend17 (((dec w cal x up day).1))) rfl)) ?_
      refine rg_put (d := 69) (v := .d (.fl (.bool ((!((pend (((dec w cal x up day).1))))))))) rfl (oy rfl rfl rfl rfl (op_un rfl rfl (u_not _) rfl)) ?_
      refine rg_put (d := 70) (v := .d (.fl (.bool ((!((pend (((dec w cal x up day).1))))))))) rfl (og rfl (op_pick rfl rfl rfl rfl)) ?_
      refine rg_put (d := 71) (v := .d (.fl (.bool ((!((pend (((dec w cal x up day).1))))))))) rfl (og rfl (op_move rfl rfl rfl)) ?_
      refine rg_put (d := 72) (v := .d (.fl (.bool true))) rfl (oy rfl rfl rfl (not_t' de2) (op_callG hG rfl Tryd.func12 nm12 rfl .nil alive12 rfl)) ?_
      refine rg_put (d := 73) (v := .d (.fl (.bool true))) rfl (og rfl (op_pick rfl rfl (by rw [(not_t' de2)]; rfl) rfl)) ?_
      refine rg_put (d := 12) (v := .d (.fl (.bool true))) rfl (og rfl (op_assign rfl rfl rfl)) ?_
      refine rg_done rfl ?_
      refine a_ret ?_
      show ∃ ds, ResL _ _ _ ds ∧ RV.of ds = _
      refine ⟨[.fl (.bool true)], (.cons (.tmp rfl (.d _)) .nil), ?_⟩
      rfl
set_option maxHeartbeats 4000000 in
set_option maxRecDepth 100000 in
theorem law8 (w : Lw) (cal : List Int) (x : Cs) (day : Int) : CtrG Tryd.prog 0 GS 8 [.ag (eLw w), .sl 1 (List.map (rI .i64) cal), .ag (eCs x), .fl (.int .i64 day)] (.d (.fl (.bool true))) := by
  refine ctrG (n := 109) (rs := #[.tmp 8]) (L := [(0, .d (.ag (eLw w))), (1, .d (.sl 1 (List.map (rI .i64) cal))), (2, .d (.ag (eCs x))), (3, .d (.fl (.int .i64 day)))]) Tryd.func8 rfl rfl rfl rfl rfl (fun w0 U0 hG => ?_)
  refine a_rseq ?_
  refine rg_nam (d := 4) (v := .pt 101 0) (m := 101) (nw := [(101, .bx 24 (eLw w))]) rfl (og rfl (of_eff (op_box 101 rfl rfl rfl rfl) rfl)) rfl ?_
  refine rg_nam (d := 6) (v := .pt 102 0) (m := 102) (nw := [(102, .bx 28 (eCs x))]) rfl (og rfl (of_eff (op_box 102 rfl rfl rfl rfl) rfl)) rfl ?_
  refine rg_put (d := 8) (v := .d (.fl (.bool false))) rfl (og rfl (op_assign rfl rfl rfl)) ?_
  refine rg_done rfl ?_
  refine a_seq ?_
  refine a_rseq ?_
  refine rg_put (d := 16) (v := .d (.ag (eLw w))) rfl (og rfl (of_eff (s_load_pts rfl Tryd.underlying24 rfl ti24 rfl rfl rfl rfl) rfl)) ?_
  refine rg_put (d := 17) (v := .d (.sl 1 (List.map (rI .i64) cal))) rfl (og rfl (op_move rfl rfl rfl)) ?_
  refine rg_put (d := 18) (v := .d (.fl (.bool (small w cal)))) rfl (og rfl (op_call rfl Tryd.func9 nm9 rfl (.cons rfl (.d _) (.cons rfl (.d _) .nil)) (small9 w cal) rfl)) ?_
  refine rg_put (d := 19) (v := .d (.fl (.bool ((!(small w cal)))))) rfl (og rfl (op_un rfl rfl (u_not _) rfl)) ?_
  refine rg_done rfl ?_
  refine a_cond rfl (fun h1 => ?_) (fun h1 => ?_)
  · skip
    have h2 := t_not h1
    refine a_rseq ?_
    refine rg_put (d := 8) (v := .d (.fl (.bool true))) rfl (og rfl (op_assign rfl rfl rfl)) ?_
    refine rg_done rfl ?_
    refine a_ret ?_
    show ∃ ds, ResL _ _ _ ds ∧ RV.of ds = _
    refine ⟨[.fl (.bool true)], (.cons (.tmp rfl (.d _)) .nil), ?_⟩
    rfl
  · skip
    have h3 := f_not h1
    have hcl := small_t h3
    refine a_skip ?_
    show A _ _ _ _ _ _ _
    refine a_rseq ?_
    refine rg_put (d := 21) (v := .d (.ag (eLw w))) rfl (og rfl (of_eff (s_load_pts rfl Tryd.underlying24 rfl ti24 rfl rfl rfl rfl) rfl)) ?_
    refine rg_put (d := 22) (v := .d (.sl 1 (List.map (rI .i64) cal))) rfl (og rfl (op_move rfl rfl rfl)) ?_
    refine rg_put (d := 23) (v := .d (.ag (eCs x))) rfl (og rfl (of_eff (s_load_pts rfl Tryd.underlying28 rfl ti28 rfl rfl rfl rfl) rfl)) ?_
    refine rg_put (d := 24) (v := .d (.fl (.int .i64 day))) rfl (og rfl (op_move rfl rfl rfl)) ?_
    rcases fot (((dec w cal x true day).2 != 0)) with h4 | h4
    · skip
      obtain ⟨dt1, dt2, dt3⟩ := dec_err (f_bne h4)
      obtain ⟨e1, e2, e3, e4, e5, e6, e7, e8⟩ := chD_ok dt1
      have h5 := f_bne h4
      refine rg_put (d := 25) (v := .tu [.ag (eCs (uv x day)), .fl (.int .i64 0)]) rfl (og rfl (op_call rfl Tryd.func13 nm13 rfl (.cons rfl (.d _) (.cons rfl (.d _) (.cons rfl (.d _) (.cons rfl (.d _) (.cons rfl (.d _) .nil))))) (dec13_as dt2 (by omega)) rfl)) ?_
      refine rg_put (d := 20) (v := .tu [.ag (eCs (uv x day)), .fl (.int .i64 0)]) rfl (og rfl (op_move rfl rfl rfl)) ?_
      refine rg_put (d := 26) (v := .d (.ag (eCs (uv x day)))) rfl (og rfl (op_extract rfl rfl rfl rfl)) ?_
      refine rg_put (d := 27) (v := .d (.fl (.int .i64 0))) rfl (og rfl (op_extract rfl rfl rfl rfl)) ?_
      refine rg_nam (d := 9) (v := .pt 103 0) (m := 103) (nw := [(103, .bx 28 ([.fl (.string (⟨#[]⟩)), .fl (.string (⟨#[]⟩)), .fl (.string (⟨#[]⟩)), .fl (.int .i64 0), .fl (.int .i64 0), .fl (.int .i64 0), .fl (.int .i64 0), .fl (.int .i64 0), .fl (.int .i64 0), .fl (.int .i64 0), .fl (.int .i64 0), .fl (.int .i64 0)]))]) rfl (og rfl (of_eff (s_alloc 103 rfl ti28 (by kernel_rfl) rfl) rfl)) rfl ?_
      refine rg_sto (nw := [(103, .bx 28 ((eCs (uv x day))))]) rfl (og rfl (of_eff (s_store rfl rfl ti28 rfl rfl rfl rfl rfl rfl) rfl)) ?_
      refine rg_put (d := 10) (v := .d (.fl (.int .i64 0))) rfl (og rfl (op_assign rfl rfl rfl)) ?_
      refine rg_done rfl ?_
      refine a_seq ?_
      refine a_rseq ?_
      refine rg_put (d := 28) (v := .d (.fl (.int .i64 0))) rfl (og rfl (op_move rfl rfl rfl)) ?_
      refine rg_put (d := 29) (v := .d (.fl (.bool (0 != 0)))) rfl (og rfl (op_bin rfl rfl rfl (b_neq _ _ _ _) rfl)) ?_
      refine rg_done rfl ?_
      refine a_condF rfl (ne_self_b _) ?_
      refine a_skip ?_
      show A _ _ _ _ _ _ _
      refine a_seq ?_
      refine a_rseq ?_
      refine rg_put (d := 30) (v := .d (.ag (eCs (uv x day)))) rfl (og rfl (of_eff (s_load_pts rfl Tryd.underlying28 rfl ti28 rfl rfl rfl rfl) rfl)) ?_
      refine rg_put (d := 31) (v := .d (.fl (.bool false))) rfl (og rfl (op_call rfl Tryd.func23 nm23 rfl (.cons rfl (.d _) .nil) (opn21 (uv x day)) rfl)) ?_
      refine rg_put (d := 32) (v := .d (.fl (.bool false))) rfl (og rfl (op_move rfl rfl rfl)) ?_
      refine rg_put (d := 33) (v := .pt 103 5) rfl (oy rfl rfl rfl rfl (of_eff (s_field_pt rfl Tryd.underlying28 rfl ti3 rfl rfl rfl) rfl)) ?_
      refine rg_put (d := 34) (v := .d (.fl (.int .i64 ((uv x day).stage)))) rfl (oy rfl rfl rfl rfl (op_load_pt rfl Tryd.underlying3 rfl rfl rfl rfl rfl)) ?_
      refine rg_put (d := 35) (v := .d (.fl (.bool (((uv x day).stage != 7))))) rfl (oy rfl rfl rfl rfl (op_bin rfl rfl rfl (b_neq _ _ _ _) rfl)) ?_
      refine rg_put (d := 36) (v := .d (.fl (.bool (((uv x day).stage != 7))))) rfl (og rfl (op_pick rfl rfl rfl rfl)) ?_
      refine rg_put (d := 37) (v := .d (.fl (.bool (((uv x day).stage != 7))))) rfl (og rfl (op_move rfl rfl rfl)) ?_
      refine rg_put (d := 38) (v := .pt 103 9) rfl (oy rfl rfl rfl (show ((uv x day).stage != 7) = false from ne_self_b 7) (of_eff (s_field_pt rfl Tryd.underlying28 rfl ti26 rfl rfl rfl) rfl)) ?_
      refine rg_put (d := 39) (v := .d (.ag (eAp ((Ap.mk (((uv x day).ap).state) (((uv x day).ap).ground) (((uv x day).ap).day)))))) rfl (oy rfl rfl rfl (show ((uv x day).stage != 7) = false from ne_self_b 7) (of_eff (s_load_pts rfl Tryd.underlying26 rfl ti26 rfl rfl rfl rfl) rfl)) ?_
      refine rg_put (d := 40) (v := .pt 102 9) rfl (oy rfl rfl rfl (show ((uv x day).stage != 7) = false from ne_self_b 7) (of_eff (s_field_pt rfl Tryd.underlying28 rfl ti26 rfl rfl rfl) rfl)) ?_
      refine rg_put (d := 41) (v := .pt 102 10) rfl (oy rfl rfl rfl (show ((uv x day).stage != 7) = false from ne_self_b 7) (of_eff (s_field_pt rfl Tryd.underlying26 rfl ti3 rfl rfl rfl) rfl)) ?_
      refine rg_put (d := 42) (v := .d (.fl (.int .i64 x.ap.ground))) rfl (oy rfl rfl rfl (show ((uv x day).stage != 7) = false from ne_self_b 7) (op_load_pt rfl Tryd.underlying3 rfl rfl rfl rfl rfl)) ?_
      refine rg_put (d := 43) (v := .d (.fl (.int .i64 day))) rfl (oy rfl rfl rfl (show ((uv x day).stage != 7) = false from ne_self_b 7) (op_move rfl rfl rfl)) ?_
      refine rg_put (d := 44) (v := .d (.ag (eAp (Ap.mk 2 x.ap.ground day)))) rfl (oy rfl rfl rfl (show ((uv x day).stage != 7) = false from ne_self_b 7) (of_eff (op_build rfl Tryd.underlying26 ti26 rfl (by kernel_rfl) (by kernel_rfl) (pl := #[(0, 1), (1, 1), (2, 1)]) (by kernel_rfl) (.cons rfl rfl (.d _) rfl rfl rfl (.cons rfl rfl (.d _) rfl rfl rfl (.cons rfl rfl (.d _) rfl rfl rfl .nil))) rfl) rfl)) ?_
      refine rg_put (d := 45) (v := .d (.fl (.bool false))) rfl (oy rfl rfl rfl (show ((uv x day).stage != 7) = false from ne_self_b 7) (op_eqS [.int .i64 (((Ap.mk (((uv x day).ap).state) (((uv x day).ap).ground) (((uv x day).ap).day))).state), .int .i64 (((Ap.mk (((uv x day).ap).state) (((uv x day).ap).ground) (((uv x day).ap).day))).ground), .int .i64 (((Ap.mk (((uv x day).ap).state) (((uv x day).ap).ground) (((uv x day).ap).day))).day)] [.int .i64 ((Ap.mk 2 x.ap.ground day).state), .int .i64 ((Ap.mk 2 x.ap.ground day).ground), .int .i64 ((Ap.mk 2 x.ap.ground day).day)] rfl rfl rfl (b := false) (fun ww => neq26 (Ap.mk 2 x.ap.ground day) _ _ ww) rfl)) ?_
      refine rg_put (d := 46) (v := .d (.fl (.bool false))) rfl (og rfl (op_pick rfl rfl (by rw [(show ((uv x day).stage != 7) = false from ne_self_b 7)]; rfl) rfl)) ?_
      refine rg_done rfl ?_
      refine a_condF rfl rfl ?_
      refine a_skip ?_
      show A _ _ _ _ _ _ _
      refine a_rseq ?_
      refine rg_put (d := 47) (v := .pt 102 5) rfl (og rfl (of_eff (s_field_pt rfl Tryd.underlying28 rfl ti3 rfl rfl rfl) rfl)) ?_
      refine rg_put (d := 48) (v := .d (.fl (.int .i64 x.stage))) rfl (og rfl (op_load_pt rfl Tryd.underlying3 rfl rfl rfl rfl rfl)) ?_
      refine rg_put (d := 49) (v := .pt 103 5) rfl (og rfl (of_eff (s_field_pt rfl Tryd.underlying28 rfl ti3 rfl rfl rfl) rfl)) ?_
      refine rg_sto (nw := [(103, .bx 28 [.fl (.string ((uv x day).id)), .fl (.string ((uv x day).plate)), .fl (.string ((uv x day).key)), .fl (.int .i64 ((uv x day).begun)), .fl (.int .i64 ((uv x day).since)), .fl (.int .i64 x.stage), .fl (.int .i64 ((uv x day).owed)), .fl (.int .i64 ((uv x day).paid)), .fl (.int .i64 ((uv x day).paused)), .fl (.int .i64 (((uv x day).ap).state)), .fl (.int .i64 (((uv x day).ap).ground)), .fl (.int .i64 (((uv x day).ap).day))])]) rfl (og rfl (of_eff (s_store rfl rfl ti3 rfl rfl rfl rfl rfl rfl) rfl)) ?_
      refine rg_done rfl ?_
      refine a_rseq ?_
      refine rg_put (d := 50) (v := .pt 102 9) rfl (og rfl (of_eff (s_field_pt rfl Tryd.underlying28 rfl ti26 rfl rfl rfl) rfl)) ?_
      refine rg_put (d := 51) (v := .d (.ag (eAp x.ap))) rfl (og rfl (of_eff (s_load_pts rfl Tryd.underlying26 rfl ti26 rfl rfl rfl rfl) rfl)) ?_
      refine rg_put (d := 52) (v := .pt 103 9) rfl (og rfl (of_eff (s_field_pt rfl Tryd.underlying28 rfl ti26 rfl rfl rfl) rfl)) ?_
      refine rg_sto (nw := [(103, .bx 28 [.fl (.string ((uv x day).id)), .fl (.string ((uv x day).plate)), .fl (.string ((uv x day).key)), .fl (.int .i64 ((uv x day).begun)), .fl (.int .i64 ((uv x day).since)), .fl (.int .i64 x.stage), .fl (.int .i64 ((uv x day).owed)), .fl (.int .i64 ((uv x day).paid)), .fl (.int .i64 ((uv x day).paused)), .fl (.int .i64 x.ap.state), .fl (.int .i64 x.ap.ground), .fl (.int .i64 x.ap.day)])]) rfl (og rfl (of_eff (s_store rfl rfl ti26 rfl rfl rfl rfl rfl rfl) rfl)) ?_
      refine rg_done rfl ?_
      refine a_seq ?_
      refine a_rseq ?_
      refine rg_put (d := 53) (v := .d (.ag (eCs ((Cs.mk ((uv x day).id) ((uv x day).plate) ((uv x day).key) ((uv x day).begun) ((uv x day).since) x.stage ((uv x day).owed) ((uv x day).paid) ((uv x day).paused) x.ap))))) rfl (og rfl (of_eff (s_load_pts rfl Tryd.underlying28 rfl ti28 rfl rfl rfl rfl) rfl)) ?_
      refine rg_put (d := 54) (v := .d (.ag (eCs x))) rfl (og rfl (of_eff (s_load_pts rfl Tryd.underlying28 rfl ti28 rfl rfl rfl rfl) rfl)) ?_
      refine rg_put (d := 55) (v := .d (.fl (.bool false))) rfl (og rfl (op_eqS [.string (((Cs.mk ((uv x day).id) ((uv x day).plate) ((uv x day).key) ((uv x day).begun) ((uv x day).since) x.stage ((uv x day).owed) ((uv x day).paid) ((uv x day).paused) x.ap)).id), .string (((Cs.mk ((uv x day).id) ((uv x day).plate) ((uv x day).key) ((uv x day).begun) ((uv x day).since) x.stage ((uv x day).owed) ((uv x day).paid) ((uv x day).paused) x.ap)).plate), .string (((Cs.mk ((uv x day).id) ((uv x day).plate) ((uv x day).key) ((uv x day).begun) ((uv x day).since) x.stage ((uv x day).owed) ((uv x day).paid) ((uv x day).paused) x.ap)).key), .int .i64 (((Cs.mk ((uv x day).id) ((uv x day).plate) ((uv x day).key) ((uv x day).begun) ((uv x day).since) x.stage ((uv x day).owed) ((uv x day).paid) ((uv x day).paused) x.ap)).begun), .int .i64 (((Cs.mk ((uv x day).id) ((uv x day).plate) ((uv x day).key) ((uv x day).begun) ((uv x day).since) x.stage ((uv x day).owed) ((uv x day).paid) ((uv x day).paused) x.ap)).since), .int .i64 (((Cs.mk ((uv x day).id) ((uv x day).plate) ((uv x day).key) ((uv x day).begun) ((uv x day).since) x.stage ((uv x day).owed) ((uv x day).paid) ((uv x day).paused) x.ap)).stage), .int .i64 (((Cs.mk ((uv x day).id) ((uv x day).plate) ((uv x day).key) ((uv x day).begun) ((uv x day).since) x.stage ((uv x day).owed) ((uv x day).paid) ((uv x day).paused) x.ap)).owed), .int .i64 (((Cs.mk ((uv x day).id) ((uv x day).plate) ((uv x day).key) ((uv x day).begun) ((uv x day).since) x.stage ((uv x day).owed) ((uv x day).paid) ((uv x day).paused) x.ap)).paid), .int .i64 (((Cs.mk ((uv x day).id) ((uv x day).plate) ((uv x day).key) ((uv x day).begun) ((uv x day).since) x.stage ((uv x day).owed) ((uv x day).paid) ((uv x day).paused) x.ap)).paused), .int .i64 ((((Cs.mk ((uv x day).id) ((uv x day).plate) ((uv x day).key) ((uv x day).begun) ((uv x day).since) x.stage ((uv x day).owed) ((uv x day).paid) ((uv x day).paused) x.ap)).ap).state), .int .i64 ((((Cs.mk ((uv x day).id) ((uv x day).plate) ((uv x day).key) ((uv x day).begun) ((uv x day).since) x.stage ((uv x day).owed) ((uv x day).paid) ((uv x day).paused) x.ap)).ap).ground), .int .i64 ((((Cs.mk ((uv x day).id) ((uv x day).plate) ((uv x day).key) ((uv x day).begun) ((uv x day).since) x.stage ((uv x day).owed) ((uv x day).paid) ((uv x day).paused) x.ap)).ap).day)] [.string x.id, .string x.plate, .string x.key, .int .i64 x.begun, .int .i64 x.since, .int .i64 x.stage, .int .i64 x.owed, .int .i64 x.paid, .int .i64 x.paused, .int .i64 x.ap.state, .int .i64 x.ap.ground, .int .i64 x.ap.day] rfl rfl rfl (b := false) (fun ww => neq28 x _ _ ww) rfl)) ?_
      refine rg_done rfl ?_
      refine a_condF rfl rfl ?_
      refine a_skip ?_
      show A _ _ _ _ _ _ _
      refine a_rseq ?_
      refine rg_put (d := 57) (v := .d (.ag (eLw w))) rfl (og rfl (of_eff (s_load_pts rfl Tryd.underlying24 rfl ti24 rfl rfl rfl rfl) rfl)) ?_
      refine rg_put (d := 58) (v := .d (.sl 1 (List.map (rI .i64) cal))) rfl (og rfl (op_move rfl rfl rfl)) ?_
      refine rg_put (d := 59) (v := .d (.ag (eCs x))) rfl (og rfl (of_eff (s_load_pts rfl Tryd.underlying28 rfl ti28 rfl rfl rfl rfl) rfl)) ?_
      refine rg_put (d := 60) (v := .d (.fl (.int .i64 day))) rfl (og rfl (op_move rfl rfl rfl)) ?_
      refine rg_put (d := 61) (v := .tu [.ag (eCs ((adv w cal (dn x day) day).1)), .fl (.int .i64 ((adv w cal (dn x day) day).2))]) rfl (og rfl (op_call rfl Tryd.func13 nm13 rfl (.cons rfl (.d _) (.cons rfl (.d _) (.cons rfl (.d _) (.cons rfl (.d _) (.cons rfl (.d _) .nil))))) (dec13_as dt3 (by omega)) rfl)) ?_
      refine rg_put (d := 56) (v := .tu [.ag (eCs ((adv w cal (dn x day) day).1)), .fl (.int .i64 ((adv w cal (dn x day) day).2))]) rfl (og rfl (op_move rfl rfl rfl)) ?_
      refine rg_put (d := 62) (v := .d (.ag (eCs ((adv w cal (dn x day) day).1)))) rfl (og rfl (op_extract rfl rfl rfl rfl)) ?_
      refine rg_put (d := 63) (v := .d (.fl (.int .i64 ((adv w cal (dn x day) day).2)))) rfl (og rfl (op_extract rfl rfl rfl rfl)) ?_
      refine rg_nam (d := 11) (v := .pt 104 0) (m := 104) (nw := [(104, .bx 28 ([.fl (.string (⟨#[]⟩)), .fl (.string (⟨#[]⟩)), .fl (.string (⟨#[]⟩)), .fl (.int .i64 0), .fl (.int .i64 0), .fl (.int .i64 0), .fl (.int .i64 0), .fl (.int .i64 0), .fl (.int .i64 0), .fl (.int .i64 0), .fl (.int .i64 0), .fl (.int .i64 0)]))]) rfl (og rfl (of_eff (s_alloc 104 rfl ti28 (by kernel_rfl) rfl) rfl)) rfl ?_
      refine rg_sto (nw := [(104, .bx 28 ((eCs ((adv w cal (dn x day) day).1))))]) rfl (og rfl (of_eff (s_store rfl rfl ti28 rfl rfl rfl rfl rfl rfl) rfl)) ?_
      refine rg_put (d := 12) (v := .d (.fl (.int .i64 ((adv w cal (dn x day) day).2)))) rfl (og rfl (op_assign rfl rfl rfl)) ?_
      refine rg_done rfl ?_
      refine a_rseq ?_
      refine rg_put (d := 64) (v := .d (.fl (.int .i64 day))) rfl (og rfl (op_move rfl rfl rfl)) ?_
      refine rg_put (d := 65) (v := .pt 102 9) rfl (og rfl (of_eff (s_field_pt rfl Tryd.underlying28 rfl ti26 rfl rfl rfl) rfl)) ?_
      refine rg_put (d := 66) (v := .pt 102 11) rfl (og rfl (of_eff (s_field_pt rfl Tryd.underlying26 rfl ti3 rfl rfl rfl) rfl)) ?_
      refine rg_put (d := 67) (v := .d (.fl (.int .i64 x.ap.day))) rfl (og rfl (op_load_pt rfl Tryd.underlying3 rfl rfl rfl rfl rfl)) ?_
      refine rg_put (d := 68) (v := .d (.fl (.int .i64 (day - x.ap.day)))) rfl (og rfl (op_bin rfl rfl rfl (fun x y w => b_sub64 _ _ _ x y w (by omega)) rfl)) ?_
      refine rg_put (d := 13) (v := .d (.fl (.int .i64 (day - x.ap.day)))) rfl (og rfl (op_assign rfl rfl rfl)) ?_
      refine rg_done rfl ?_
      refine a_rseq ?_
      refine rg_put (d := 69) (v := .pt 102 9) rfl (og rfl (of_eff (s_field_pt rfl Tryd.underlying28 rfl ti26 rfl rfl rfl) rfl)) ?_
      refine rg_put (d := 70) (v := .pt 102 10) rfl (og rfl (of_eff (s_field_pt rfl Tryd.underlying26 rfl ti3 rfl rfl rfl) rfl)) ?_
      refine rg_put (d := 71) (v := .d (.fl (.int .i64 x.ap.ground))) rfl (og rfl (op_load_pt rfl Tryd.underlying3 rfl rfl rfl rfl rfl)) ?_
      refine rg_put (d := 72) (v := .d (.fl (.int .i64 day))) rfl (og rfl (op_move rfl rfl rfl)) ?_
      refine rg_put (d := 73) (v := .d (.ag (eAp (Ap.mk 3 x.ap.ground day)))) rfl (og rfl (of_eff (op_build rfl Tryd.underlying26 ti26 rfl (by kernel_rfl) (by kernel_rfl) (pl := #[(0, 1), (1, 1), (2, 1)]) (by kernel_rfl) (.cons rfl rfl (.d _) rfl rfl rfl (.cons rfl rfl (.d _) rfl rfl rfl (.cons rfl rfl (.d _) rfl rfl rfl .nil))) rfl) rfl)) ?_
      refine rg_put (d := 74) (v := .pt 102 9) rfl (og rfl (of_eff (s_field_pt rfl Tryd.underlying28 rfl ti26 rfl rfl rfl) rfl)) ?_
      refine rg_sto (nw := [(102, .bx 28 [.fl (.string x.id), .fl (.string x.plate), .fl (.string x.key), .fl (.int .i64 x.begun), .fl (.int .i64 x.since), .fl (.int .i64 x.stage), .fl (.int .i64 x.owed), .fl (.int .i64 x.paid), .fl (.int .i64 x.paused), .fl (.int .i64 ((Ap.mk 3 x.ap.ground day).state)), .fl (.int .i64 ((Ap.mk 3 x.ap.ground day).ground)), .fl (.int .i64 ((Ap.mk 3 x.ap.ground day).day))])]) rfl (og rfl (of_eff (s_store rfl rfl ti26 rfl rfl rfl rfl rfl rfl) rfl)) ?_
      refine rg_done rfl ?_
      refine a_rseq ?_
      refine rg_put (d := 75) (v := .pt 102 4) rfl (og rfl (of_eff (s_field_pt rfl Tryd.underlying28 rfl ti3 rfl rfl rfl) rfl)) ?_
      refine rg_put (d := 76) (v := .d (.fl (.int .i64 x.since))) rfl (og rfl (op_load_pt rfl Tryd.underlying3 rfl rfl rfl rfl rfl)) ?_
      refine rg_put (d := 77) (v := .d (.fl (.int .i64 (day - x.ap.day)))) rfl (og rfl (op_move rfl rfl rfl)) ?_
      refine rg_put (d := 78) (v := .d (.fl (.int .i64 ((x.since + (day - x.ap.day)))))) rfl (og rfl (op_bin rfl rfl rfl (fun x y w => b_add64 _ _ _ x y w (by omega)) rfl)) ?_
      refine rg_put (d := 79) (v := .pt 102 4) rfl (og rfl (of_eff (s_field_pt rfl Tryd.underlying28 rfl ti3 rfl rfl rfl) rfl)) ?_
      refine rg_sto (nw := [(102, .bx 28 [.fl (.string x.id), .fl (.string x.plate), .fl (.string x.key), .fl (.int .i64 x.begun), .fl (.int .i64 ((x.since + (day - x.ap.day)))), .fl (.int .i64 x.stage), .fl (.int .i64 x.owed), .fl (.int .i64 x.paid), .fl (.int .i64 x.paused), .fl (.int .i64 ((Ap.mk 3 x.ap.ground day).state)), .fl (.int .i64 ((Ap.mk 3 x.ap.ground day).ground)), .fl (.int .i64 ((Ap.mk 3 x.ap.ground day).day))])]) rfl (og rfl (of_eff (s_store rfl rfl ti3 rfl rfl rfl rfl rfl rfl) rfl)) ?_
      refine rg_done rfl ?_
      refine a_rseq ?_
      refine rg_put (d := 80) (v := .pt 102 8) rfl (og rfl (of_eff (s_field_pt rfl Tryd.underlying28 rfl ti3 rfl rfl rfl) rfl)) ?_
      refine rg_put (d := 81) (v := .d (.fl (.int .i64 x.paused))) rfl (og rfl (op_load_pt rfl Tryd.underlying3 rfl rfl rfl rfl rfl)) ?_
      refine rg_put (d := 82) (v := .d (.fl (.int .i64 (day - x.ap.day)))) rfl (og rfl (op_move rfl rfl rfl)) ?_
      refine rg_put (d := 83) (v := .d (.fl (.int .i64 ((x.paused + (day - x.ap.day)))))) rfl (og rfl (op_bin rfl rfl rfl (fun x y w => b_add64 _ _ _ x y w (by omega)) rfl)) ?_
      refine rg_put (d := 84) (v := .d (.fl (.int .i64 ((min ((x.paused + (day - x.ap.day))) 795364))))) rfl (og rfl (op_min rfl rfl rfl rfl)) ?_
      refine rg_put (d := 85) (v := .pt 102 8) rfl (og rfl (of_eff (s_field_pt rfl Tryd.underlying28 rfl ti3 rfl rfl rfl) rfl)) ?_
      refine rg_sto (nw := [(102, .bx 28 [.fl (.string x.id), .fl (.string x.plate), .fl (.string x.key), .fl (.int .i64 x.begun), .fl (.int .i64 ((x.since + (day - x.ap.day)))), .fl (.int .i64 x.stage), .fl (.int .i64 x.owed), .fl (.int .i64 x.paid), .fl (.int .i64 ((min ((x.paused + (day - x.ap.day))) 795364))), .fl (.int .i64 ((Ap.mk 3 x.ap.ground day).state)), .fl (.int .i64 ((Ap.mk 3 x.ap.ground day).ground)), .fl (.int .i64 ((Ap.mk 3 x.ap.ground day).day))])]) rfl (og rfl (of_eff (s_store rfl rfl ti3 rfl rfl rfl rfl rfl rfl) rfl)) ?_
      refine rg_done rfl ?_
      refine a_rseq ?_
      refine rg_put (d := 87) (v := .d (.ag (eLw w))) rfl (og rfl (of_eff (s_load_pts rfl Tryd.underlying24 rfl ti24 rfl rfl rfl rfl) rfl)) ?_
      refine rg_put (d := 88) (v := .d (.sl 1 (List.map (rI .i64) cal))) rfl (og rfl (op_move rfl rfl rfl)) ?_
      refine rg_put (d := 89) (v := .d (.ag (eCs ((Cs.mk x.id x.plate x.key x.begun ((x.since + (day - x.ap.day))) x.stage x.owed x.paid ((min ((x.paused + (day - x.ap.day))) 795364)) (Ap.mk 3 x.ap.ground day)))))) rfl (og rfl (of_eff (s_load_pts rfl Tryd.underlying28 rfl ti28 rfl rfl rfl rfl) rfl)) ?_
      refine rg_put (d := 90) (v := .d (.fl (.int .i64 day))) rfl (og rfl (op_move rfl rfl rfl)) ?_
      refine rg_put (d := 91) (v := .tu [.ag (eCs ((adv w cal (dn x day) day).1)), .fl (.int .i64 ((adv w cal (dn x day) day).2))]) rfl (og rfl (op_call rfl Tryd.func21 nm21 rfl (.cons rfl (.d _) (.cons rfl (.d _) (.cons rfl (.d _) (.cons rfl (.d _) .nil)))) (adv17_at (w := w) (cal := cal) (x := x) (X := (Cs.mk x.id x.plate x.key x.begun ((x.since + (day - x.ap.day))) x.stage x.owed x.paid ((min ((x.paused + (day - x.ap.day))) 795364)) (Ap.mk 3 x.ap.ground day))) (day := day) (by unfold dn; first | rfl | (congr 1 <;> omega)) (by omega)) rfl)) ?_
      refine rg_put (d := 86) (v := .tu [.ag (eCs ((adv w cal (dn x day) day).1)), .fl (.int .i64 ((adv w cal (dn x day) day).2))]) rfl (og rfl (op_move rfl rfl rfl)) ?_
      refine rg_put (d := 92) (v := .d (.ag (eCs ((adv w cal (dn x day) day).1)))) rfl (og rfl (op_extract rfl rfl rfl rfl)) ?_
      refine rg_put (d := 93) (v := .d (.fl (.int .i64 ((adv w cal (dn x day) day).2)))) rfl (og rfl (op_extract rfl rfl rfl rfl)) ?_
      refine rg_nam (d := 14) (v := .pt 105 0) (m := 105) (nw := [(105, .bx 28 ([.fl (.string (⟨#[]⟩)), .fl (.string (⟨#[]⟩)), .fl (.string (⟨#[]⟩)), .fl (.int .i64 0), .fl (.int .i64 0), .fl (.int .i64 0), .fl (.int .i64 0), .fl (.int .i64 0), .fl (.int .i64 0), .fl (.int .i64 0), .fl (.int .i64 0), .fl (.int .i64 0)]))]) rfl (og rfl (of_eff (s_alloc 105 rfl ti28 (by kernel_rfl) rfl) rfl)) rfl ?_
      refine rg_sto (nw := [(105, .bx 28 ((eCs ((adv w cal (dn x day) day).1))))]) rfl (og rfl (of_eff (s_store rfl rfl ti28 rfl rfl rfl rfl rfl rfl) rfl)) ?_
      refine rg_put (d := 15) (v := .d (.fl (.int .i64 ((adv w cal (dn x day) day).2)))) rfl (og rfl (op_assign rfl rfl rfl)) ?_
      refine rg_done rfl ?_
      refine a_rseq ?_
      refine rg_put (d := 94) (v := .d (.fl (.int .i64 ((adv w cal (dn x day) day).2)))) rfl (og rfl (op_move rfl rfl rfl)) ?_
      refine rg_put (d := 95) (v := .d (.fl (.int .i64 ((adv w cal (dn x day) day).2)))) rfl (og rfl (op_move rfl rfl rfl)) ?_
      refine rg_put (d := 96) (v := .d (.fl (.bool (((adv w cal (dn x day) day).2 == (adv w cal (dn x day) day).2))))) rfl (og rfl (op_bin rfl rfl rfl (b_eql _ _ _ _) rfl)) ?_
      refine rg_put (d := 97) (v := .d (.fl (.bool (((adv w cal (dn x day) day).2 == (adv w cal (dn x day) day).2))))) rfl (og rfl (op_move rfl rfl rfl)) ?_
      refine rg_put (d := 98) (v := .d (.fl (.int .i64 ((adv w cal (dn x day) day).2)))) rfl (oy rfl rfl rfl (eq_self_b _) (op_move rfl rfl rfl)) ?_
      refine rg_put (d := 99) (v := .d (.fl (.bool (((adv w cal (dn x day) day).2 != 0))))) rfl (oy rfl rfl rfl (eq_self_b _) (op_bin rfl rfl rfl (b_neq _ _ _ _) rfl)) ?_
      refine rg_put (d := 100) (v := .d (.fl (.bool (((adv w cal (dn x day) day).2 != 0))))) rfl (oy rfl rfl rfl (eq_self_b _) (op_move rfl rfl rfl)) ?_
      rcases fot (((adv w cal (dn x day) day).2 != 0)) with h6 | h6
      · skip
        have h7 := f_bne h6
        refine rg_put (d := 101) (v := .d (.ag (eCs (((adv w cal (dn x day) day).1))))) rfl (oy rfl rfl rfl h6 (of_eff (s_load_pts rfl Tryd.underlying28 rfl ti28 rfl rfl rfl rfl) rfl)) ?_
        refine rg_put (d := 102) (v := .d (.ag (eCs (((adv w cal (dn x day) day).1))))) rfl (oy rfl rfl rfl h6 (of_eff (s_load_pts rfl Tryd.underlying28 rfl ti28 rfl rfl rfl rfl) rfl)) ?_
        refine rg_put (d := 103) (v := .d (.fl (.bool true))) rfl (oy rfl rfl rfl h6 (op_eqS [.string ((((adv w cal (dn x day) day).1)).id), .string ((((adv w cal (dn x day) day).1)).plate), .string ((((adv w cal (dn x day) day).1)).key), .int .i64 ((((adv w cal (dn x day) day).1)).begun), .int .i64 ((((adv w cal (dn x day) day).1)).since), .int .i64 ((((adv w cal (dn x day) day).1)).stage), .int .i64 ((((adv w cal (dn x day) day).1)).owed), .int .i64 ((((adv w cal (dn x day) day).1)).paid), .int .i64 ((((adv w cal (dn x day) day).1)).paused), .int .i64 (((((adv w cal (dn x day) day).1)).ap).state), .int .i64 (((((adv w cal (dn x day) day).1)).ap).ground), .int .i64 (((((adv w cal (dn x day) day).1)).ap).day)] [.string ((((adv w cal (dn x day) day).1)).id), .string ((((adv w cal (dn x day) day).1)).plate), .string ((((adv w cal (dn x day) day).1)).key), .int .i64 ((((adv w cal (dn x day) day).1)).begun), .int .i64 ((((adv w cal (dn x day) day).1)).since), .int .i64 ((((adv w cal (dn x day) day).1)).stage), .int .i64 ((((adv w cal (dn x day) day).1)).owed), .int .i64 ((((adv w cal (dn x day) day).1)).paid), .int .i64 ((((adv w cal (dn x day) day).1)).paused), .int .i64 (((((adv w cal (dn x day) day).1)).ap).state), .int .i64 (((((adv w cal (dn x day) day).1)).ap).ground), .int .i64 (((((adv w cal (dn x day) day).1)).ap).day)] rfl rfl rfl (b := true) (fun ww => eql28 (((adv w cal (dn x day) day).1)) _ _ ww) rfl)) ?_
        refine rg_put (d := 104) (v := .d (.fl (.bool true))) rfl (oy rfl rfl rfl (eq_self_b _) (op_pick rfl rfl (by rw [h6]; rfl) rfl)) ?_
        refine rg_put (d := 105) (v := .d (.fl (.bool true))) rfl (og rfl (op_pick rfl rfl (by rw [(eq_self_b _)]; rfl) rfl)) ?_
        refine rg_put (d := 106) (v := .d (.fl (.bool true))) rfl (og rfl (op_move rfl rfl rfl)) ?_
        refine rg_put (d := 107) (v := .d (.fl (.bool true))) rfl (oy rfl rfl rfl rfl (op_callG hG rfl Tryd.func12 nm12 rfl .nil alive12 rfl)) ?_
        refine rg_put (d := 108) (v := .d (.fl (.bool true))) rfl (og rfl (op_pick rfl rfl rfl rfl)) ?_
        refine rg_put (d := 8) (v := .d (.fl (.bool true))) rfl (og rfl (op_assign rfl rfl rfl)) ?_
        refine rg_done rfl ?_
        refine a_ret ?_
        show ∃ ds, ResL _ _ _ ds ∧ RV.of ds = _
        refine ⟨[.fl (.bool true)], (.cons (.tmp rfl (.d _)) .nil), ?_⟩
        rfl
      · skip
        have h8 := t_bne h6
        refine rg_put (d := 101) (v := .d (.fl undef)) rfl (on rfl rfl rfl h6) ?_
        refine rg_put (d := 102) (v := .d (.fl undef)) rfl (on rfl rfl rfl h6) ?_
        refine rg_put (d := 103) (v := .d (.fl undef)) rfl (on rfl rfl rfl h6) ?_
        refine rg_put (d := 104) (v := .d (.fl (.bool true))) rfl (oy rfl rfl rfl (eq_self_b _) (op_pick rfl rfl (by rw [h6]; rfl) rfl)) ?_
        refine rg_put (d := 105) (v := .d (.fl (.bool true))) rfl (og rfl (op_pick rfl rfl (by rw [(eq_self_b _)]; rfl) rfl)) ?_
        refine rg_put (d := 106) (v := .d (.fl (.bool true))) rfl (og rfl (op_move rfl rfl rfl)) ?_
        refine rg_put (d := 107) (v := .d (.fl (.bool true))) rfl (oy rfl rfl rfl rfl (op_callG hG rfl Tryd.func12 nm12 rfl .nil alive12 rfl)) ?_
        refine rg_put (d := 108) (v := .d (.fl (.bool true))) rfl (og rfl (op_pick rfl rfl rfl rfl)) ?_
        refine rg_put (d := 8) (v := .d (.fl (.bool true))) rfl (og rfl (op_assign rfl rfl rfl)) ?_
        refine rg_done rfl ?_
        refine a_ret ?_
        show ∃ ds, ResL _ _ _ ds ∧ RV.of ds = _
        refine ⟨[.fl (.bool true)], (.cons (.tmp rfl (.d _)) .nil), ?_⟩
        rfl
    · skip
      have h9 := t_bne h4
      refine rg_put (d := 25) (v := .tu [.ag (eCs ((dec w cal x true day).1)), .fl (.int .i64 ((dec w cal x true day).2))]) rfl (og rfl (op_call rfl Tryd.func13 nm13 rfl (.cons rfl (.d _) (.cons rfl (.d _) (.cons rfl (.d _) (.cons rfl (.d _) (.cons rfl (.d _) .nil))))) (dec13 w cal x true day (by omega)) rfl)) ?_
      refine rg_put (d := 20) (v := .tu [.ag (eCs ((dec w cal x true day).1)), .fl (.int .i64 ((dec w cal x true day).2))]) rfl (og rfl (op_move rfl rfl rfl)) ?_
      refine rg_put (d := 26) (v := .d (.ag (eCs ((dec w cal x true day).1)))) rfl (og rfl (op_extract rfl rfl rfl rfl)) ?_
      refine rg_put (d := 27) (v := .d (.fl (.int .i64 ((dec w cal x true day).2)))) rfl (og rfl (op_extract rfl rfl rfl rfl)) ?_
      refine rg_nam (d := 9) (v := .pt 106 0) (m := 106) (nw := [(106, .bx 28 ([.fl (.string (⟨#[]⟩)), .fl (.string (⟨#[]⟩)), .fl (.string (⟨#[]⟩)), .fl (.int .i64 0), .fl (.int .i64 0), .fl (.int .i64 0), .fl (.int .i64 0), .fl (.int .i64 0), .fl (.int .i64 0), .fl (.int .i64 0), .fl (.int .i64 0), .fl (.int .i64 0)]))]) rfl (og rfl (of_eff (s_alloc 106 rfl ti28 (by kernel_rfl) rfl) rfl)) rfl ?_
      refine rg_sto (nw := [(106, .bx 28 ((eCs ((dec w cal x true day).1))))]) rfl (og rfl (of_eff (s_store rfl rfl ti28 rfl rfl rfl rfl rfl rfl) rfl)) ?_
      refine rg_put (d := 10) (v := .d (.fl (.int .i64 ((dec w cal x true day).2)))) rfl (og rfl (op_assign rfl rfl rfl)) ?_
      refine rg_done rfl ?_
      refine a_seq ?_
      refine a_rseq ?_
      refine rg_put (d := 28) (v := .d (.fl (.int .i64 ((dec w cal x true day).2)))) rfl (og rfl (op_move rfl rfl rfl)) ?_
      refine rg_put (d := 29) (v := .d (.fl (.bool (((dec w cal x true day).2 != 0))))) rfl (og rfl (op_bin rfl rfl rfl (b_neq _ _ _ _) rfl)) ?_
      refine rg_done rfl ?_
      refine a_condK rfl h4 ?_
      refine a_rseq ?_
      refine rg_put (d := 8) (v := .d (.fl (.bool true))) rfl (og rfl (op_assign rfl rfl rfl)) ?_
      refine rg_done rfl ?_
      refine a_ret ?_
      show ∃ ds, ResL _ _ _ ds ∧ RV.of ds = _
      refine ⟨[.fl (.bool true)], (.cons (.tmp rfl (.d _)) .nil), ?_⟩
      rfl
end Go.Proofs.YtadfkfgachlgeaaDoor.Wk
