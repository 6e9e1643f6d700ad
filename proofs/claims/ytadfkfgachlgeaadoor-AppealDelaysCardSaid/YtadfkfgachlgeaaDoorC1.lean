/- The laws of filing, of deciding, of asking. No condition. -/
import Derived.Test.YtadfkfgachlgeaaDoorB13
set_option linter.unusedSimpArgs false
set_option linter.unusedVariables false
namespace Go.Proofs.YtadfkfgachlgeaaDoor.Wk
open Go Go.RowKit Go.Proofs.YtadfkfgachlgeaaDoor.Av
def small (w : Lw) (cal : List Int) : Bool := decide ((w.days.length : Int) ≤ 10) && decide ((w.fees.length : Int) ≤ 10) && decide ((cal.length : Int) ≤ 60)
theorem small_t {w : Lw} {cal : List Int} (h : small w cal = true) : cal.length ≤ 60 := by
  unfold small at h
  simp only [Bool.and_eq_true, decide_eq_true_eq] at h
  omega

set_option maxHeartbeats 4000000 in
set_option maxRecDepth 100000 in
theorem small9 (w : Lw) (cal : List Int) : Ctr Tryd.prog 9 [.ag (eLw w), .sl 1 (List.map (rI .i64) cal)] (.d (.fl (.bool (small w cal)))) := by
  refine ctr (n := 20) (rs := #[.tmp 4]) (L := [(0, .d (.ag (eLw w))), (1, .d (.sl 1 (List.map (rI .i64) cal)))]) Tryd.func9 rfl rfl rfl rfl rfl (fun w0 U0 => ?_)
  refine a_rseq ?_
  refine rg_nam (d := 2) (v := .pt 101 0) (m := 101) (nw := [(101, .bx 24 (eLw w))]) rfl (og rfl (of_eff (op_box 101 rfl rfl rfl rfl) rfl)) rfl ?_
  refine rg_put (d := 4) (v := .d (.fl (.bool false))) rfl (og rfl (op_assign rfl rfl rfl)) ?_
  refine rg_done rfl ?_
  refine a_rseq ?_
  refine rg_put (d := 5) (v := .pt 101 0) rfl (og rfl (of_eff (s_field_pt rfl Tryd.underlying24 rfl ti22 rfl rfl rfl) rfl)) ?_
  refine rg_put (d := 6) (v := .d (.sl 1 (List.map (rI .i64) w.days))) rfl (og rfl (op_load_pt rfl Tryd.underlying22 rfl rfl rfl rfl rfl)) ?_
  refine rg_put (d := 7) (v := .d (.fl (.int .i64 (w.days.length : Int)))) rfl (og rfl (s_len rfl Tryd.underlying22 rfl rfl)) ?_
  refine rg_put (d := 8) (v := .d (.fl (.bool ((decide ((w.days.length : Int) ≤ 10)))))) rfl (og rfl (op_bin rfl rfl rfl (b_leq _ _ _ _) rfl)) ?_
  refine rg_put (d := 9) (v := .d (.fl (.bool ((decide ((w.days.length : Int) ≤ 10)))))) rfl (og rfl (op_move rfl rfl rfl)) ?_
  rcases fot ((decide ((w.days.length : Int) ≤ 10))) with h1 | h1
  · skip
    have h2 := f_dec h1
    refine rg_put (d := 10) (v := .d (.fl undef)) rfl (on rfl rfl rfl h1) ?_
    refine rg_put (d := 11) (v := .d (.fl undef)) rfl (on rfl rfl rfl h1) ?_
    refine rg_put (d := 12) (v := .d (.fl undef)) rfl (on rfl rfl rfl h1) ?_
    refine rg_put (d := 13) (v := .d (.fl undef)) rfl (on rfl rfl rfl h1) ?_
    refine rg_put (d := 14) (v := .d (.fl (.bool false))) rfl (og rfl (op_pick rfl rfl (by rw [h1]; rfl) rfl)) ?_
    refine rg_put (d := 15) (v := .d (.fl (.bool false))) rfl (og rfl (op_move rfl rfl rfl)) ?_
    refine rg_put (d := 16) (v := .d (.fl undef)) rfl (on rfl rfl rfl rfl) ?_
    refine rg_put (d := 17) (v := .d (.fl undef)) rfl (on rfl rfl rfl rfl) ?_
    refine rg_put (d := 18) (v := .d (.fl undef)) rfl (on rfl rfl rfl rfl) ?_
    refine rg_put (d := 19) (v := .d (.fl (.bool false))) rfl (og rfl (op_pick rfl rfl rfl rfl)) ?_
    refine rg_put (d := 4) (v := .d (.fl (.bool false))) rfl (og rfl (op_assign rfl rfl rfl)) ?_
    refine rg_done rfl ?_
    refine a_ret ?_
    show ∃ ds, ResL _ _ _ ds ∧ RV.of ds = _
    refine ⟨[.fl (.bool false)], (.cons (.tmp rfl (.d _)) .nil), ?_⟩
    have hu : small w cal = false := by
      unfold small; simp only [h1]; rfl
    rw [hu]; rfl
  · skip
    have h3 := t_dec h1
    refine rg_put (d := 10) (v := .pt 101 1) rfl (oy rfl rfl rfl h1 (of_eff (s_field_pt rfl Tryd.underlying24 rfl ti22 rfl rfl rfl) rfl)) ?_
    refine rg_put (d := 11) (v := .d (.sl 1 (List.map (rI .i64) w.fees))) rfl (oy rfl rfl rfl h1 (op_load_pt rfl Tryd.underlying22 rfl rfl rfl rfl rfl)) ?_
    refine rg_put (d := 12) (v := .d (.fl (.int .i64 (w.fees.length : Int)))) rfl (oy rfl rfl rfl h1 (s_len rfl Tryd.underlying22 rfl rfl)) ?_
    refine rg_put (d := 13) (v := .d (.fl (.bool ((decide ((w.fees.length : Int) ≤ 10)))))) rfl (oy rfl rfl rfl h1 (op_bin rfl rfl rfl (b_leq _ _ _ _) rfl)) ?_
    refine rg_put (d := 14) (v := .d (.fl (.bool ((decide ((w.fees.length : Int) ≤ 10)))))) rfl (og rfl (op_pick rfl rfl (by rw [h1]; rfl) rfl)) ?_
    refine rg_put (d := 15) (v := .d (.fl (.bool ((decide ((w.fees.length : Int) ≤ 10)))))) rfl (og rfl (op_move rfl rfl rfl)) ?_
    rcases fot ((decide ((w.fees.length : Int) ≤ 10))) with h4 | h4
    · skip
      have h5 := f_dec h4
      refine rg_put (d := 16) (v := .d (.fl undef)) rfl (on rfl rfl rfl h4) ?_
      refine rg_put (d := 17) (v := .d (.fl undef)) rfl (on rfl rfl rfl h4) ?_
      refine rg_put (d := 18) (v := .d (.fl undef)) rfl (on rfl rfl rfl h4) ?_
      refine rg_put (d := 19) (v := .d (.fl (.bool false))) rfl (og rfl (op_pick rfl rfl (by rw [h4]; rfl) rfl)) ?_
      refine rg_put (d := 4) (v := .d (.fl (.bool false))) rfl (og rfl (op_assign rfl rfl rfl)) ?_
      refine rg_done rfl ?_
      refine a_ret ?_
      show ∃ ds, ResL _ _ _ ds ∧ RV.of ds = _
      refine ⟨[.fl (.bool false)], (.cons (.tmp rfl (.d _)) .nil), ?_⟩
      have hu : small w cal = false := by
        unfold small; simp only [h1, h4]; rfl
      rw [hu]; rfl
    · skip
      have h6 := t_dec h4
      refine rg_put (d := 16) (v := .d (.sl 1 (List.map (rI .i64) cal))) rfl (oy rfl rfl rfl h4 (op_move rfl rfl rfl)) ?_
      refine rg_put (d := 17) (v := .d (.fl (.int .i64 (cal.length : Int)))) rfl (oy rfl rfl rfl h4 (s_len rfl Tryd.underlying22 rfl rfl)) ?_
      refine rg_put (d := 18) (v := .d (.fl (.bool ((decide ((cal.length : Int) ≤ 60)))))) rfl (oy rfl rfl rfl h4 (op_bin rfl rfl rfl (b_leq _ _ _ _) rfl)) ?_
      refine rg_put (d := 19) (v := .d (.fl (.bool ((decide ((cal.length : Int) ≤ 60)))))) rfl (og rfl (op_pick rfl rfl (by rw [h4]; rfl) rfl)) ?_
      refine rg_put (d := 4) (v := .d (.fl (.bool ((decide ((cal.length : Int) ≤ 60)))))) rfl (og rfl (op_assign rfl rfl rfl)) ?_
      refine rg_done rfl ?_
      refine a_ret ?_
      show ∃ ds, ResL _ _ _ ds ∧ RV.of ds = _
      refine ⟨[.fl (.bool ((decide ((cal.length : Int) ≤ 60))))], (.cons (.tmp rfl (.d _)) .nil), ?_⟩
      have hu : small w cal = (decide ((cal.length : Int) ≤ 60)) := by
        unfold small; simp only [h1, h4]; rfl
      rw [hu]; rfl
set_option maxHeartbeats 4000000 in
set_option maxRecDepth 100000 in
theorem law3 (w : Lw) (cal : List Int) (x : Cs) (g day : Int) : CtrG Tryd.prog 0 GS 3 [.ag (eLw w), .sl 1 (List.map (rI .i64) cal), .ag (eCs x), .fl (.int .i64 g), .fl (.int .i64 day)] (.d (.fl (.bool true))) := by
  refine ctrG (n := 48) (rs := #[.tmp 10]) (L := [(0, .d (.ag (eLw w))), (1, .d (.sl 1 (List.map (rI .i64) cal))), (2, .d (.ag (eCs x))), (3, .d (.fl (.int .i64 g))), (4, .d (.fl (.int .i64 day)))]) Tryd.func3 rfl rfl rfl rfl rfl (fun w0 U0 hG => ?_)
  refine a_rseq ?_
  refine rg_nam (d := 5) (v := .pt 101 0) (m := 101) (nw := [(101, .bx 24 (eLw w))]) rfl (og rfl (of_eff (op_box 101 rfl rfl rfl rfl) rfl)) rfl ?_
  refine rg_nam (d := 7) (v := .pt 102 0) (m := 102) (nw := [(102, .bx 28 (eCs x))]) rfl (og rfl (of_eff (op_box 102 rfl rfl rfl rfl) rfl)) rfl ?_
  refine rg_put (d := 10) (v := .d (.fl (.bool false))) rfl (og rfl (op_assign rfl rfl rfl)) ?_
  refine rg_done rfl ?_
  refine a_seq ?_
  refine a_rseq ?_
  refine rg_put (d := 15) (v := .d (.ag (eLw w))) rfl (og rfl (of_eff (s_load_pts rfl Tryd.underlying24 rfl ti24 rfl rfl rfl rfl) rfl)) ?_
  refine rg_put (d := 16) (v := .d (.sl 1 (List.map (rI .i64) cal))) rfl (og rfl (op_move rfl rfl rfl)) ?_
  refine rg_put (d := 17) (v := .d (.fl (.bool (small w cal)))) rfl (og rfl (op_call rfl Tryd.func9 nm9 rfl (.cons rfl (.d _) (.cons rfl (.d _) .nil)) (small9 w cal) rfl)) ?_
  refine rg_put (d := 18) (v := .d (.fl (.bool ((!(small w cal)))))) rfl (og rfl (op_un rfl rfl (u_not _) rfl)) ?_
  refine rg_done rfl ?_
  refine a_cond rfl (fun h1 => ?_) (fun h1 => ?_)
  · skip
    have h2 := t_not h1
    refine a_rseq ?_
    refine rg_put (d := 10) (v := .d (.fl (.bool true))) rfl (og rfl (op_assign rfl rfl rfl)) ?_
    refine rg_done rfl ?_
    refine a_ret ?_
    show ∃ ds, ResL _ _ _ ds ∧ RV.of ds = _
    refine ⟨[.fl (.bool true)], (.cons (.tmp rfl (.d _)) .nil), ?_⟩
    rfl
  · skip
    have h3 := f_not h1
    have hcl := small_t h3
    refine a_skip ?_
    show A _ _ _ _ _ _ _
    refine a_rseq ?_
    refine rg_put (d := 20) (v := .d (.ag (eLw w))) rfl (og rfl (of_eff (s_load_pts rfl Tryd.underlying24 rfl ti24 rfl rfl rfl rfl) rfl)) ?_
    refine rg_put (d := 21) (v := .d (.sl 1 (List.map (rI .i64) cal))) rfl (og rfl (op_move rfl rfl rfl)) ?_
    refine rg_put (d := 22) (v := .d (.ag (eCs x))) rfl (og rfl (of_eff (s_load_pts rfl Tryd.underlying28 rfl ti28 rfl rfl rfl rfl) rfl)) ?_
    refine rg_put (d := 23) (v := .d (.fl (.int .i64 g))) rfl (og rfl (op_move rfl rfl rfl)) ?_
    refine rg_put (d := 24) (v := .d (.fl (.int .i64 day))) rfl (og rfl (op_move rfl rfl rfl)) ?_
    refine rg_put (d := 25) (v := .tu [.ag (eCs ((fil w cal x g day).1)), .fl (.int .i64 ((fil w cal x g day).2))]) rfl (og rfl (op_call rfl Tryd.func10 nm10 rfl (.cons rfl (.d _) (.cons rfl (.d _) (.cons rfl (.d _) (.cons rfl (.d _) (.cons rfl (.d _) .nil))))) (fil10 w cal x g day (by omega)) rfl)) ?_
    refine rg_put (d := 19) (v := .tu [.ag (eCs ((fil w cal x g day).1)), .fl (.int .i64 ((fil w cal x g day).2))]) rfl (og rfl (op_move rfl rfl rfl)) ?_
    refine rg_put (d := 26) (v := .d (.ag (eCs ((fil w cal x g day).1)))) rfl (og rfl (op_extract rfl rfl rfl rfl)) ?_
    refine rg_put (d := 27) (v := .d (.fl (.int .i64 ((fil w cal x g day).2)))) rfl (og rfl (op_extract rfl rfl rfl rfl)) ?_
    refine rg_nam (d := 11) (v := .pt 103 0) (m := 103) (nw := [(103, .bx 28 ([.fl (.string (⟨#[]⟩)), .fl (.string (⟨#[]⟩)), .fl (.string (⟨#[]⟩)), .fl (.int .i64 0), .fl (.int .i64 0), .fl (.int .i64 0), .fl (.int .i64 0), .fl (.int .i64 0), .fl (.int .i64 0), .fl (.int .i64 0), .fl (.int .i64 0), .fl (.int .i64 0)]))]) rfl (og rfl (of_eff (s_alloc 103 rfl ti28 (by kernel_rfl) rfl) rfl)) rfl ?_
    refine rg_sto (nw := [(103, .bx 28 ((eCs ((fil w cal x g day).1))))]) rfl (og rfl (of_eff (s_store rfl rfl ti28 rfl rfl rfl rfl rfl rfl) rfl)) ?_
    refine rg_put (d := 12) (v := .d (.fl (.int .i64 ((fil w cal x g day).2)))) rfl (og rfl (op_assign rfl rfl rfl)) ?_
    refine rg_done rfl ?_
    refine a_rseq ?_
    refine rg_put (d := 29) (v := .d (.ag (eLw w))) rfl (og rfl (of_eff (s_load_pts rfl Tryd.underlying24 rfl ti24 rfl rfl rfl rfl) rfl)) ?_
    refine rg_put (d := 30) (v := .d (.sl 1 (List.map (rI .i64) cal))) rfl (og rfl (op_move rfl rfl rfl)) ?_
    refine rg_put (d := 31) (v := .d (.ag (eCs x))) rfl (og rfl (of_eff (s_load_pts rfl Tryd.underlying28 rfl ti28 rfl rfl rfl rfl) rfl)) ?_
    refine rg_put (d := 32) (v := .d (.fl (.int .i64 g))) rfl (og rfl (op_move rfl rfl rfl)) ?_
    refine rg_put (d := 33) (v := .d (.fl (.int .i64 day))) rfl (og rfl (op_move rfl rfl rfl)) ?_
    refine rg_put (d := 34) (v := .tu [.ag (eCs ((fil w cal x g day).1)), .fl (.int .i64 ((fil w cal x g day).2))]) rfl (og rfl (op_call rfl Tryd.func11 nm11 rfl (.cons rfl (.d _) (.cons rfl (.d _) (.cons rfl (.d _) (.cons rfl (.d _) (.cons rfl (.d _) .nil))))) (fil11 w cal x g day (by omega)) rfl)) ?_
    refine rg_put (d := 28) (v := .tu [.ag (eCs ((fil w cal x g day).1)), .fl (.int .i64 ((fil w cal x g day).2))]) rfl (og rfl (op_move rfl rfl rfl)) ?_
    refine rg_put (d := 35) (v := .d (.ag (eCs ((fil w cal x g day).1)))) rfl (og rfl (op_extract rfl rfl rfl rfl)) ?_
    refine rg_put (d := 36) (v := .d (.fl (.int .i64 ((fil w cal x g day).2)))) rfl (og rfl (op_extract rfl rfl rfl rfl)) ?_
    refine rg_nam (d := 13) (v := .pt 104 0) (m := 104) (nw := [(104, .bx 28 ([.fl (.string (⟨#[]⟩)), .fl (.string (⟨#[]⟩)), .fl (.string (⟨#[]⟩)), .fl (.int .i64 0), .fl (.int .i64 0), .fl (.int .i64 0), .fl (.int .i64 0), .fl (.int .i64 0), .fl (.int .i64 0), .fl (.int .i64 0), .fl (.int .i64 0), .fl (.int .i64 0)]))]) rfl (og rfl (of_eff (s_alloc 104 rfl ti28 (by kernel_rfl) rfl) rfl)) rfl ?_
    refine rg_sto (nw := [(104, .bx 28 ((eCs ((fil w cal x g day).1))))]) rfl (og rfl (of_eff (s_store rfl rfl ti28 rfl rfl rfl rfl rfl rfl) rfl)) ?_
    refine rg_put (d := 14) (v := .d (.fl (.int .i64 ((fil w cal x g day).2)))) rfl (og rfl (op_assign rfl rfl rfl)) ?_
    refine rg_done rfl ?_
    refine a_rseq ?_
    refine rg_put (d := 37) (v := .d (.ag (eCs (((fil w cal x g day).1))))) rfl (og rfl (of_eff (s_load_pts rfl Tryd.underlying28 rfl ti28 rfl rfl rfl rfl) rfl)) ?_
    refine rg_put (d := 38) (v := .d (.ag (eCs (((fil w cal x g day).1))))) rfl (og rfl (of_eff (s_load_pts rfl Tryd.underlying28 rfl ti28 rfl rfl rfl rfl) rfl)) ?_
    refine rg_put (d := 39) (v := .d (.fl (.bool true))) rfl (og rfl (op_eqS [.string ((((fil w cal x g day).1)).id), .string ((((fil w cal x g day).1)).plate), .string ((((fil w cal x g day).1)).key), .int .i64 ((((fil w cal x g day).1)).begun), .int .i64 ((((fil w cal x g day).1)).since), .int .i64 ((((fil w cal x g day).1)).stage), .int .i64 ((((fil w cal x g day).1)).owed), .int .i64 ((((fil w cal x g day).1)).paid), .int .i64 ((((fil w cal x g day).1)).paused), .int .i64 (((((fil w cal x g day).1)).ap).state), .int .i64 (((((fil w cal x g day).1)).ap).ground), .int .i64 (((((fil w cal x g day).1)).ap).day)] [.string ((((fil w cal x g day).1)).id), .string ((((fil w cal x g day).1)).plate), .string ((((fil w cal x g day).1)).key), .int .i64 ((((fil w cal x g day).1)).begun), .int .i64 ((((fil w cal x g day).1)).since), .int .i64 ((((fil w cal x g day).1)).stage), .int .i64 ((((fil w cal x g day).1)).owed), .int .i64 ((((fil w cal x g day).1)).paid), .int .i64 ((((fil w cal x g day).1)).paused), .int .i64 (((((fil w cal x g day).1)).ap).state), .int .i64 (((((fil w cal x g day).1)).ap).ground), .int .i64 (((((fil w cal x g day).1)).ap).day)] rfl rfl rfl (b := true) (fun ww => eql28 (((fil w cal x g day).1)) _ _ ww) rfl)) ?_
    refine rg_put (d := 40) (v := .d (.fl (.bool true))) rfl (og rfl (op_move rfl rfl rfl)) ?_
    refine rg_put (d := 41) (v := .d (.fl (.int .i64 ((fil w cal x g day).2)))) rfl (oy rfl rfl rfl rfl (op_move rfl rfl rfl)) ?_
    refine rg_put (d := 42) (v := .d (.fl (.int .i64 ((fil w cal x g day).2)))) rfl (oy rfl rfl rfl rfl (op_move rfl rfl rfl)) ?_
    refine rg_put (d := 43) (v := .d (.fl (.bool (((fil w cal x g day).2 == (fil w cal x g day).2))))) rfl (oy rfl rfl rfl rfl (op_bin rfl rfl rfl (b_eql _ _ _ _) rfl)) ?_
    refine rg_put (d := 44) (v := .d (.fl (.bool (((fil w cal x g day).2 == (fil w cal x g day).2))))) rfl (og rfl (op_pick rfl rfl rfl rfl)) ?_
    refine rg_put (d := 45) (v := .d (.fl (.bool (((fil w cal x g day).2 == (fil w cal x g day).2))))) rfl (og rfl (op_move rfl rfl rfl)) ?_
    refine rg_put (d := 46) (v := .d (.fl (.bool true))) rfl (oy rfl rfl rfl (eq_self_b _) (op_callG hG rfl Tryd.func12 nm12 rfl .nil alive12 rfl)) ?_
    refine rg_put (d := 47) (v := .d (.fl (.bool true))) rfl (og rfl (op_pick rfl rfl (by rw [(eq_self_b _)]; rfl) rfl)) ?_
    refine rg_put (d := 10) (v := .d (.fl (.bool true))) rfl (og rfl (op_assign rfl rfl rfl)) ?_
    refine rg_done rfl ?_
    refine a_ret ?_
    show ∃ ds, ResL _ _ _ ds ∧ RV.of ds = _
    refine ⟨[.fl (.bool true)], (.cons (.tmp rfl (.d _)) .nil), ?_⟩
    rfl
set_option maxHeartbeats 4000000 in
set_option maxRecDepth 100000 in
theorem law4 (w : Lw) (cal : List Int) (x : Cs) (up : Bool) (day : Int) : CtrG Tryd.prog 0 GS 4 [.ag (eLw w), .sl 1 (List.map (rI .i64) cal), .ag (eCs x), .fl (.bool up), .fl (.int .i64 day)] (.d (.fl (.bool true))) := by
  refine ctrG (n := 48) (rs := #[.tmp 10]) (L := [(0, .d (.ag (eLw w))), (1, .d (.sl 1 (List.map (rI .i64) cal))), (2, .d (.ag (eCs x))), (3, .d (.fl (.bool up))), (4, .d (.fl (.int .i64 day)))]) Tryd.func4 rfl rfl rfl rfl rfl (fun w0 U0 hG => ?_)
  refine a_rseq ?_
  refine rg_nam (d := 5) (v := .pt 101 0) (m := 101) (nw := [(101, .bx 24 (eLw w))]) rfl (og rfl (of_eff (op_box 101 rfl rfl rfl rfl) rfl)) rfl ?_
  refine rg_nam (d := 7) (v := .pt 102 0) (m := 102) (nw := [(102, .bx 28 (eCs x))]) rfl (og rfl (of_eff (op_box 102 rfl rfl rfl rfl) rfl)) rfl ?_
  refine rg_put (d := 10) (v := .d (.fl (.bool false))) rfl (og rfl (op_assign rfl rfl rfl)) ?_
  refine rg_done rfl ?_
  refine a_seq ?_
  refine a_rseq ?_
  refine rg_put (d := 15) (v := .d (.ag (eLw w))) rfl (og rfl (of_eff (s_load_pts rfl Tryd.underlying24 rfl ti24 rfl rfl rfl rfl) rfl)) ?_
  refine rg_put (d := 16) (v := .d (.sl 1 (List.map (rI .i64) cal))) rfl (og rfl (op_move rfl rfl rfl)) ?_
  refine rg_put (d := 17) (v := .d (.fl (.bool (small w cal)))) rfl (og rfl (op_call rfl Tryd.func9 nm9 rfl (.cons rfl (.d _) (.cons rfl (.d _) .nil)) (small9 w cal) rfl)) ?_
  refine rg_put (d := 18) (v := .d (.fl (.bool ((!(small w cal)))))) rfl (og rfl (op_un rfl rfl (u_not _) rfl)) ?_
  refine rg_done rfl ?_
  refine a_cond rfl (fun h1 => ?_) (fun h1 => ?_)
  · skip
    have h2 := t_not h1
    refine a_rseq ?_
    refine rg_put (d := 10) (v := .d (.fl (.bool true))) rfl (og rfl (op_assign rfl rfl rfl)) ?_
    refine rg_done rfl ?_
    refine a_ret ?_
    show ∃ ds, ResL _ _ _ ds ∧ RV.of ds = _
    refine ⟨[.fl (.bool true)], (.cons (.tmp rfl (.d _)) .nil), ?_⟩
    rfl
  · skip
    have h3 := f_not h1
    have hcl := small_t h3
    refine a_skip ?_
    show A _ _ _ _ _ _ _
    refine a_rseq ?_
    refine rg_put (d := 20) (v := .d (.ag (eLw w))) rfl (og rfl (of_eff (s_load_pts rfl Tryd.underlying24 rfl ti24 rfl rfl rfl rfl) rfl)) ?_
    refine rg_put (d := 21) (v := .d (.sl 1 (List.map (rI .i64) cal))) rfl (og rfl (op_move rfl rfl rfl)) ?_
    refine rg_put (d := 22) (v := .d (.ag (eCs x))) rfl (og rfl (of_eff (s_load_pts rfl Tryd.underlying28 rfl ti28 rfl rfl rfl rfl) rfl)) ?_
    refine rg_put (d := 23) (v := .d (.fl (.bool up))) rfl (og rfl (op_move rfl rfl rfl)) ?_
    refine rg_put (d := 24) (v := .d (.fl (.int .i64 day))) rfl (og rfl (op_move rfl rfl rfl)) ?_
    refine rg_put (d := 25) (v := .tu [.ag (eCs ((dec w cal x up day).1)), .fl (.int .i64 ((dec w cal x up day).2))]) rfl (og rfl (op_call rfl Tryd.func13 nm13 rfl (.cons rfl (.d _) (.cons rfl (.d _) (.cons rfl (.d _) (.cons rfl (.d _) (.cons rfl (.d _) .nil))))) (dec13 w cal x up day (by omega)) rfl)) ?_
    refine rg_put (d := 19) (v := .tu [.ag (eCs ((dec w cal x up day).1)), .fl (.int .i64 ((dec w cal x up day).2))]) rfl (og rfl (op_move rfl rfl rfl)) ?_
    refine rg_put (d := 26) (v := .d (.ag (eCs ((dec w cal x up day).1)))) rfl (og rfl (op_extract rfl rfl rfl rfl)) ?_
    refine rg_put (d := 27) (v := .d (.fl (.int .i64 ((dec w cal x up day).2)))) rfl (og rfl (op_extract rfl rfl rfl rfl)) ?_
    refine rg_nam (d := 11) (v := .pt 103 0) (m := 103) (nw := [(103, .bx 28 ([.fl (.string (⟨#[]⟩)), .fl (.string (⟨#[]⟩)), .fl (.string (⟨#[]⟩)), .fl (.int .i64 0), .fl (.int .i64 0), .fl (.int .i64 0), .fl (.int .i64 0), .fl (.int .i64 0), .fl (.int .i64 0), .fl (.int .i64 0), .fl (.int .i64 0), .fl (.int .i64 0)]))]) rfl (og rfl (of_eff (s_alloc 103 rfl ti28 (by kernel_rfl) rfl) rfl)) rfl ?_
    refine rg_sto (nw := [(103, .bx 28 ((eCs ((dec w cal x up day).1))))]) rfl (og rfl (of_eff (s_store rfl rfl ti28 rfl rfl rfl rfl rfl rfl) rfl)) ?_
    refine rg_put (d := 12) (v := .d (.fl (.int .i64 ((dec w cal x up day).2)))) rfl (og rfl (op_assign rfl rfl rfl)) ?_
    refine rg_done rfl ?_
    refine a_rseq ?_
    refine rg_put (d := 29) (v := .d (.ag (eLw w))) rfl (og rfl (of_eff (s_load_pts rfl Tryd.underlying24 rfl ti24 rfl rfl rfl rfl) rfl)) ?_
    refine rg_put (d := 30) (v := .d (.sl 1 (List.map (rI .i64) cal))) rfl (og rfl (op_move rfl rfl rfl)) ?_
    refine rg_put (d := 31) (v := .d (.ag (eCs x))) rfl (og rfl (of_eff (s_load_pts rfl Tryd.underlying28 rfl ti28 rfl rfl rfl rfl) rfl)) ?_
    refine rg_put (d := 32) (v := .d (.fl (.bool up))) rfl (og rfl (op_move rfl rfl rfl)) ?_
    refine rg_put (d := 33) (v := .d (.fl (.int .i64 day))) rfl (og rfl (op_move rfl rfl rfl)) ?_
    refine rg_put (d := 34) (v := .tu [.ag (eCs ((dec w cal x up day).1)), .fl (.int .i64 ((dec w cal x up day).2))]) rfl (og rfl (op_call rfl Tryd.func14 nm14 rfl (.cons rfl (.d _) (.cons rfl (.d _) (.cons rfl (.d _) (.cons rfl (.d _) (.cons rfl (.d _) .nil))))) (dec14 w cal x up day (by omega)) rfl)) ?_
    refine rg_put (d := 28) (v := .tu [.ag (eCs ((dec w cal x up day).1)), .fl (.int .i64 ((dec w cal x up day).2))]) rfl (og rfl (op_move rfl rfl rfl)) ?_
    refine rg_put (d := 35) (v := .d (.ag (eCs ((dec w cal x up day).1)))) rfl (og rfl (op_extract rfl rfl rfl rfl)) ?_
    refine rg_put (d := 36) (v := .d (.fl (.int .i64 ((dec w cal x up day).2)))) rfl (og rfl (op_extract rfl rfl rfl rfl)) ?_
    refine rg_nam (d := 13) (v := .pt 104 0) (m := 104) (nw := [(104, .bx 28 ([.fl (.string (⟨#[]⟩)), .fl (.string (⟨#[]⟩)), .fl (.string (⟨#[]⟩)), .fl (.int .i64 0), .fl (.int .i64 0), .fl (.int .i64 0), .fl (.int .i64 0), .fl (.int .i64 0), .fl (.int .i64 0), .fl (.int .i64 0), .fl (.int .i64 0), .fl (.int .i64 0)]))]) rfl (og rfl (of_eff (s_alloc 104 rfl ti28 (by kernel_rfl) rfl) rfl)) rfl ?_
    refine rg_sto (nw := [(104, .bx 28 ((eCs ((dec w cal x up day).1))))]) rfl (og rfl (of_eff (s_store rfl rfl ti28 rfl rfl rfl rfl rfl rfl) rfl)) ?_
    refine rg_put (d := 14) (v := .d (.fl (.int .i64 ((dec w cal x up day).2)))) rfl (og rfl (op_assign rfl rfl rfl)) ?_
    refine rg_done rfl ?_
    refine a_rseq ?_
    refine rg_put (d := 37) (v := .d (.ag (eCs (((dec w cal x up day).1))))) rfl (og rfl (of_eff (s_load_pts rfl Tryd.underlying28 rfl ti28 rfl rfl rfl rfl) rfl)) ?_
    refine rg_put (d := 38) (v := .d (.ag (eCs (((dec w cal x up day).1))))) rfl (og rfl (of_eff (s_load_pts rfl Tryd.underlying28 rfl ti28 rfl rfl rfl rfl) rfl)) ?_
    refine rg_put (d := 39) (v := .d (.fl (.bool true))) rfl (og rfl (op_eqS [.string ((((dec w cal x up day).1)).id), .string ((((dec w cal x up day).1)).plate), .string ((((dec w cal x up day).1)).key), .int .i64 ((((dec w cal x up day).1)).begun), .int .i64 ((((dec w cal x up day).1)).since), .int .i64 ((((dec w cal x up day).1)).stage), .int .i64 ((((dec w cal x up day).1)).owed), .int .i64 ((((dec w cal x up day).1)).paid), .int .i64 ((((dec w cal x up day).1)).paused), .int .i64 (((((dec w cal x up day).1)).ap).state), .int .i64 (((((dec w cal x up day).1)).ap).ground), .int .i64 (((((dec w cal x up day).1)).ap).day)] [.string ((((dec w cal x up day).1)).id), .string ((((dec w cal x up day).1)).plate), .string ((((dec w cal x up day).1)).key), .int .i64 ((((dec w cal x up day).1)).begun), .int .i64 ((((dec w cal x up day).1)).since), .int .i64 ((((dec w cal x up day).1)).stage), .int .i64 ((((dec w cal x up day).1)).owed), .int .i64 ((((dec w cal x up day).1)).paid), .int .i64 ((((dec w cal x up day).1)).paused), .int .i64 (((((dec w cal x up day).1)).ap).state), .int .i64 (((((dec w cal x up day).1)).ap).ground), .int .i64 (((((dec w cal x up day).1)).ap).day)] rfl rfl rfl (b := true) (fun ww => eql28 (((dec w cal x up day).1)) _ _ ww) rfl)) ?_
    refine rg_put (d := 40) (v := .d (.fl (.bool true))) rfl (og rfl (op_move rfl rfl rfl)) ?_
    refine rg_put (d := 41) (v := .d (.fl (.int .i64 ((dec w cal x up day).2)))) rfl (oy rfl rfl rfl rfl (op_move rfl rfl rfl)) ?_
    refine rg_put (d := 42) (v := .d (.fl (.int .i64 ((dec w cal x up day).2)))) rfl (oy rfl rfl rfl rfl (op_move rfl rfl rfl)) ?_
    refine rg_put (d := 43) (v := .d (.fl (.bool (((dec w cal x up day).2 == (dec w cal x up day).2))))) rfl (oy rfl rfl rfl rfl (op_bin rfl rfl rfl (b_eql _ _ _ _) rfl)) ?_
    refine rg_put (d := 44) (v := .d (.fl (.bool (((dec w cal x up day).2 == (dec w cal x up day).2))))) rfl (og rfl (op_pick rfl rfl rfl rfl)) ?_
    refine rg_put (d := 45) (v := .d (.fl (.bool (((dec w cal x up day).2 == (dec w cal x up day).2))))) rfl (og rfl (op_move rfl rfl rfl)) ?_
    refine rg_put (d := 46) (v := .d (.fl (.bool true))) rfl (oy rfl rfl rfl (eq_self_b _) (op_callG hG rfl Tryd.func12 nm12 rfl .nil alive12 rfl)) ?_
    refine rg_put (d := 47) (v := .d (.fl (.bool true))) rfl (og rfl (op_pick rfl rfl (by rw [(eq_self_b _)]; rfl) rfl)) ?_
    refine rg_put (d := 10) (v := .d (.fl (.bool true))) rfl (og rfl (op_assign rfl rfl rfl)) ?_
    refine rg_done rfl ?_
    refine a_ret ?_
    show ∃ ds, ResL _ _ _ ds ∧ RV.of ds = _
    refine ⟨[.fl (.bool true)], (.cons (.tmp rfl (.d _)) .nil), ?_⟩
    rfl
set_option maxHeartbeats 4000000 in
set_option maxRecDepth 100000 in
theorem law5 (w : Lw) (cal : List Int) (x : Cs) (g : Int) : CtrG Tryd.prog 0 GS 5 [.ag (eLw w), .sl 1 (List.map (rI .i64) cal), .ag (eCs x), .fl (.int .i64 g)] (.d (.fl (.bool true))) := by
  refine ctrG (n := 56) (rs := #[.tmp 8]) (L := [(0, .d (.ag (eLw w))), (1, .d (.sl 1 (List.map (rI .i64) cal))), (2, .d (.ag (eCs x))), (3, .d (.fl (.int .i64 g)))]) Tryd.func5 rfl rfl rfl rfl rfl (fun w0 U0 hG => ?_)
  refine a_rseq ?_
  refine rg_nam (d := 4) (v := .pt 101 0) (m := 101) (nw := [(101, .bx 24 (eLw w))]) rfl (og rfl (of_eff (op_box 101 rfl rfl rfl rfl) rfl)) rfl ?_
  refine rg_nam (d := 6) (v := .pt 102 0) (m := 102) (nw := [(102, .bx 28 (eCs x))]) rfl (og rfl (of_eff (op_box 102 rfl rfl rfl rfl) rfl)) rfl ?_
  refine rg_put (d := 8) (v := .d (.fl (.bool false))) rfl (og rfl (op_assign rfl rfl rfl)) ?_
  refine rg_done rfl ?_
  refine a_seq ?_
  refine a_rseq ?_
  refine rg_put (d := 13) (v := .d (.ag (eLw w))) rfl (og rfl (of_eff (s_load_pts rfl Tryd.underlying24 rfl ti24 rfl rfl rfl rfl) rfl)) ?_
  refine rg_put (d := 14) (v := .d (.sl 1 (List.map (rI .i64) cal))) rfl (og rfl (op_move rfl rfl rfl)) ?_
  refine rg_put (d := 15) (v := .d (.fl (.bool (small w cal)))) rfl (og rfl (op_call rfl Tryd.func9 nm9 rfl (.cons rfl (.d _) (.cons rfl (.d _) .nil)) (small9 w cal) rfl)) ?_
  refine rg_put (d := 16) (v := .d (.fl (.bool ((!(small w cal)))))) rfl (og rfl (op_un rfl rfl (u_not _) rfl)) ?_
  refine rg_done rfl ?_
  refine a_cond rfl (fun h1 => ?_) (fun h1 => ?_)
  · skip
    have h2 := t_not h1
    refine a_rseq ?_
    refine rg_put (d := 8) (v := .d (.fl (.bool true))) rfl (og rfl (op_assign rfl rfl rfl)) ?_
    refine rg_done rfl ?_
    refine a_ret ?_
    show ∃ ds, ResL _ _ _ ds ∧ RV.of ds = _
    refine ⟨[.fl (.bool true)], (.cons (.tmp rfl (.d _)) .nil), ?_⟩
    rfl
  · skip
    have h3 := f_not h1
    have hcl := small_t h3
    refine a_skip ?_
    show A _ _ _ _ _ _ _
    refine a_rseq ?_
    refine rg_put (d := 18) (v := .d (.ag (eLw w))) rfl (og rfl (of_eff (s_load_pts rfl Tryd.underlying24 rfl ti24 rfl rfl rfl rfl) rfl)) ?_
    refine rg_put (d := 19) (v := .d (.sl 1 (List.map (rI .i64) cal))) rfl (og rfl (op_move rfl rfl rfl)) ?_
    refine rg_put (d := 20) (v := .d (.ag (eCs x))) rfl (og rfl (of_eff (s_load_pts rfl Tryd.underlying28 rfl ti28 rfl rfl rfl rfl) rfl)) ?_
    refine rg_put (d := 21) (v := .tu [.fl (.int .i64 ((last w cal x).1)), .fl (.bool ((last w cal x).2))]) rfl (og rfl (op_call rfl Tryd.func15 nm15 rfl (.cons rfl (.d _) (.cons rfl (.d _) (.cons rfl (.d _) .nil))) (last15 w cal x (by omega)) rfl)) ?_
    refine rg_put (d := 17) (v := .tu [.fl (.int .i64 ((last w cal x).1)), .fl (.bool ((last w cal x).2))]) rfl (og rfl (op_move rfl rfl rfl)) ?_
    refine rg_put (d := 22) (v := .d (.fl (.int .i64 ((last w cal x).1)))) rfl (og rfl (op_extract rfl rfl rfl rfl)) ?_
    refine rg_put (d := 23) (v := .d (.fl (.bool ((last w cal x).2)))) rfl (og rfl (op_extract rfl rfl rfl rfl)) ?_
    refine rg_put (d := 9) (v := .d (.fl (.int .i64 ((last w cal x).1)))) rfl (og rfl (op_assign rfl rfl rfl)) ?_
    refine rg_put (d := 10) (v := .d (.fl (.bool ((last w cal x).2)))) rfl (og rfl (op_assign rfl rfl rfl)) ?_
    refine rg_done rfl ?_
    refine a_rseq ?_
    refine rg_put (d := 25) (v := .d (.ag (eLw w))) rfl (og rfl (of_eff (s_load_pts rfl Tryd.underlying24 rfl ti24 rfl rfl rfl rfl) rfl)) ?_
    refine rg_put (d := 26) (v := .d (.sl 1 (List.map (rI .i64) cal))) rfl (og rfl (op_move rfl rfl rfl)) ?_
    refine rg_put (d := 27) (v := .d (.ag (eCs x))) rfl (og rfl (of_eff (s_load_pts rfl Tryd.underlying28 rfl ti28 rfl rfl rfl rfl) rfl)) ?_
    refine rg_put (d := 28) (v := .tu [.fl (.int .i64 ((last w cal x).1)), .fl (.bool ((last w cal x).2))]) rfl (og rfl (op_call rfl Tryd.func16 nm16 rfl (.cons rfl (.d _) (.cons rfl (.d _) (.cons rfl (.d _) .nil))) (last16 w cal x (by omega)) rfl)) ?_
    refine rg_put (d := 24) (v := .tu [.fl (.int .i64 ((last w cal x).1)), .fl (.bool ((last w cal x).2))]) rfl (og rfl (op_move rfl rfl rfl)) ?_
    refine rg_put (d := 29) (v := .d (.fl (.int .i64 ((last w cal x).1)))) rfl (og rfl (op_extract rfl rfl rfl rfl)) ?_
    refine rg_put (d := 30) (v := .d (.fl (.bool ((last w cal x).2)))) rfl (og rfl (op_extract rfl rfl rfl rfl)) ?_
    refine rg_put (d := 11) (v := .d (.fl (.int .i64 ((last w cal x).1)))) rfl (og rfl (op_assign rfl rfl rfl)) ?_
    refine rg_put (d := 12) (v := .d (.fl (.bool ((last w cal x).2)))) rfl (og rfl (op_assign rfl rfl rfl)) ?_
    refine rg_done rfl ?_
    refine a_dseq (by kernel_rfl) ?_
    refine dr_put (d := 31) (v := .d (.fl (.int .i64 ((last w cal x).1)))) rfl (og rfl (op_move rfl rfl rfl)) ?_
    refine dr_put (d := 32) (v := .d (.fl (.int .i64 ((last w cal x).1)))) rfl (og rfl (op_move rfl rfl rfl)) ?_
    refine dr_put (d := 33) (v := .d (.fl (.bool (((last w cal x).1 == (last w cal x).1))))) rfl (og rfl (op_bin rfl rfl rfl (b_eql _ _ _ _) rfl)) ?_
    refine dr_put (d := 34) (v := .d (.fl (.bool (((last w cal x).1 == (last w cal x).1))))) rfl (og rfl (op_move rfl rfl rfl)) ?_
    refine dr_put (d := 35) (v := .d (.fl (.bool ((last w cal x).2)))) rfl (oy rfl rfl rfl (eq_self_b _) (op_move rfl rfl rfl)) ?_
    refine dr_put (d := 36) (v := .d (.fl (.bool ((last w cal x).2)))) rfl (oy rfl rfl rfl (eq_self_b _) (op_move rfl rfl rfl)) ?_
    refine dr_put (d := 37) (v := .d (.fl (.bool (((last w cal x).2 == (last w cal x).2))))) rfl (oy rfl rfl rfl (eq_self_b _) (op_bin rfl rfl rfl (fun x y w => b_beq _ _ _ x y w Tryd.underlying4) rfl)) ?_
    refine dr_put (d := 38) (v := .d (.fl (.bool (((last w cal x).2 == (last w cal x).2))))) rfl (og rfl (op_pick rfl rfl (by rw [(eq_self_b _)]; rfl) rfl)) ?_
    refine dr_put (d := 39) (v := .d (.fl (.bool (((last w cal x).2 == (last w cal x).2))))) rfl (og rfl (op_move rfl rfl rfl)) ?_
    refine dr_put (d := 40) (v := .d (.ag (eCs x))) rfl (oy rfl rfl rfl (eq_self_bb _) (of_eff (s_load_pts rfl Tryd.underlying28 rfl ti28 rfl rfl rfl rfl) rfl)) ?_
    refine dr_put (d := 41) (v := .d (.fl (.bool (pend x)))) rfl (oy rfl rfl rfl (eq_self_bb _) (op_call rfl Tryd.func17 nm17 rfl (.cons rfl (.d _) .nil) (pend17 x) rfl)) ?_
    refine dr_put (d := 42) (v := .d (.ag (eCs x))) rfl (oy rfl rfl rfl (eq_self_bb _) (of_eff (s_load_pts rfl Tryd.underlying28 rfl ti28 rfl rfl rfl rfl) rfl)) ?_
    refine dr_put (d := 43) (v := .d (.fl (.bool (pend x)))) rfl (oy rfl rfl rfl (eq_self_bb _) (op_call rfl Tryd.func18 nm18 rfl (.cons rfl (.d _) .nil) (pend18 x) rfl)) ?_
    refine dr_put (d := 44) (v := .d (.fl (.bool (((pend x) == (pend x)))))) rfl (oy rfl rfl rfl (eq_self_bb _) (op_bin rfl rfl rfl (fun x y w => b_beq _ _ _ x y w Tryd.underlying4) rfl)) ?_
    refine dr_put (d := 45) (v := .d (.fl (.bool (((pend x) == (pend x)))))) rfl (og rfl (op_pick rfl rfl (by rw [(eq_self_bb _)]; rfl) rfl)) ?_
    refine dr_put (d := 46) (v := .d (.fl (.bool (((pend x) == (pend x)))))) rfl (og rfl (op_move rfl rfl rfl)) ?_
    refine dr_put (d := 47) (v := .d (.fl (.int .i64 g))) rfl (oy rfl rfl rfl (eq_self_bb _) (op_move rfl rfl rfl)) ?_
    refine dr_put (d := 48) (v := .d (.fl (.string (grd g)))) rfl (oy rfl rfl rfl (eq_self_bb _) (op_callG hG rfl Tryd.func19 nm19 rfl (.cons rfl (.d _) .nil) (grd19 g) rfl)) ?_
    refine dr_put (d := 49) (v := .d (.fl (.int .i64 g))) rfl (oy rfl rfl rfl (eq_self_bb _) (op_move rfl rfl rfl)) ?_
    refine dr_put (d := 50) (v := .d (.fl (.string (grd g)))) rfl (oy rfl rfl rfl (eq_self_bb _) (op_call rfl Tryd.func20 nm20 rfl (.cons rfl (.d _) .nil) (grd20 g) rfl)) ?_
    refine dr_put (d := 51) (v := .d (.fl (.bool ((sEq (grd g) (grd g)))))) rfl (oy rfl rfl rfl (eq_self_bb _) (op_bin rfl rfl rfl (b_seq _ _ _) rfl)) ?_
    refine dr_put (d := 52) (v := .d (.fl (.bool ((sEq (grd g) (grd g)))))) rfl (og rfl (op_pick rfl rfl (by rw [(eq_self_bb _)]; rfl) rfl)) ?_
    refine dr_put (d := 53) (v := .d (.fl (.bool ((sEq (grd g) (grd g)))))) rfl (og rfl (op_move rfl rfl rfl)) ?_
    refine dr_put (d := 54) (v := .d (.fl (.bool true))) rfl (oy rfl rfl rfl (eq_self_s _) (op_callG hG rfl Tryd.func12 nm12 rfl .nil alive12 rfl)) ?_
    refine dr_put (d := 55) (v := .d (.fl (.bool true))) rfl (og rfl (op_pick rfl rfl (by rw [(eq_self_s _)]; rfl) rfl)) ?_
    refine dr_put (d := 8) (v := .d (.fl (.bool true))) rfl (og rfl (op_assign rfl rfl rfl)) ?_
    refine dr_done rfl (sepB_of [0, 0, 3, 7, 15, 15, 63, 127, 255, 511, 1023, 511, 4095, 8191, 16383, 32767, 65535, 131071, 65535, 524287, 1048575, 2097151, 4194303, 8388607, 16777215, 33554431] (by kernel_rfl)) (by kernel_rfl) ?_
    refine a_ret ?_
    show ∃ ds, ResL _ _ _ ds ∧ RV.of ds = _
    refine ⟨[.fl (.bool true)], (.cons (.tmp rfl (.d _)) .nil), ?_⟩
    rfl
end Go.Proofs.YtadfkfgachlgeaaDoor.Wk
