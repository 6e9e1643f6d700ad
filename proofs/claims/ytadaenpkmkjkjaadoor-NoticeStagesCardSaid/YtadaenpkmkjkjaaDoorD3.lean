/- The law of the stages. No condition. -/
import Derived.Test.YtadaenpkmkjkjaaDoorD2
set_option linter.unusedSimpArgs false
set_option linter.unusedVariables false
namespace Go.Proofs.YtadaenpkmkjkjaaDoor.Wk
open Go Go.RowKit Go.Proofs.YtadaenpkmkjkjaaDoor.Av
theorem adv_err {w : Lw} {cal : List Int} {x : Cs} {day : Int} (h : (adv w cal x day).2 ≠ 0) : (adv w cal x day).1 = z0 := by
  by_cases hc : chA w x day = 0
  · exfalso
    apply h
    unfold adv
    rw [if_neg (by rw [hc]; simp)]
    split <;> rfl
  · rw [adv_bad hc]
theorem dec_no {a b : Int} (h : b < a) : decide (a ≤ b) = false := decide_eq_false (by omega)
theorem bne_no {a b : Int} (h : a = b) : (a != b) = false := by rw [h]; simp
theorem bne_yes {a b : Int} (h : a ≠ b) : (a != b) = true := by simpa using h
set_option maxHeartbeats 4000000 in
set_option maxRecDepth 100000 in
theorem law8 (m : Mv) (day : Int) : Ctr Tryd.prog 8 [.ag (eMv m), .fl (.int .i64 day)] (.d (.fl (.bool true))) := by
  refine ctr (n := 179) (rs := #[.tmp 4]) (L := [(0, .d (.ag (eMv m))), (1, .d (.fl (.int .i64 day)))]) Tryd.func8 rfl rfl rfl rfl rfl (fun w0 U0 => ?_)
  refine a_rseq ?_
  refine rg_nam (d := 2) (v := .pt 101 0) (m := 101) (nw := [(101, .bx 44 (eMv m))]) rfl (og rfl (of_eff (op_box 101 rfl rfl rfl rfl) rfl)) rfl ?_
  refine rg_put (d := 4) (v := .d (.fl (.bool false))) rfl (og rfl (op_assign rfl rfl rfl)) ?_
  refine rg_done rfl ?_
  refine a_seq ?_
  refine a_rseq ?_
  refine rg_put (d := 12) (v := .pt 101 0) rfl (og rfl (of_eff (s_field_pt rfl Tryd.underlying44 rfl ti24 rfl rfl rfl) rfl)) ?_
  refine rg_put (d := 13) (v := .d (.ag (eLw m.law))) rfl (og rfl (of_eff (s_load_pts rfl Tryd.underlying24 rfl ti24 rfl rfl rfl rfl) rfl)) ?_
  refine rg_put (d := 14) (v := .pt 101 3) rfl (og rfl (of_eff (s_field_pt rfl Tryd.underlying44 rfl ti22 rfl rfl rfl) rfl)) ?_
  refine rg_put (d := 15) (v := .d (.sl 1 (List.map (rI .i64) m.cal))) rfl (og rfl (op_load_pt rfl Tryd.underlying22 rfl rfl rfl rfl rfl)) ?_
  refine rg_put (d := 16) (v := .pt 101 4) rfl (og rfl (of_eff (s_field_pt rfl Tryd.underlying44 rfl ti29 rfl rfl rfl) rfl)) ?_
  refine rg_put (d := 17) (v := .d (.ag (eCs m.x))) rfl (og rfl (of_eff (s_load_pts rfl Tryd.underlying29 rfl ti29 rfl rfl rfl rfl) rfl)) ?_
  refine rg_put (d := 18) (v := .d (.fl (.bool (fw m.law m.cal m.x)))) rfl (og rfl (op_call rfl Tryd.func10 nm10 rfl (.cons rfl (.d _) (.cons rfl (.d _) (.cons rfl (.d _) .nil))) (fw10 m.law m.cal m.x) rfl)) ?_
  refine rg_put (d := 19) (v := .d (.fl (.bool ((!(fw m.law m.cal m.x)))))) rfl (og rfl (op_un rfl rfl (u_not _) rfl)) ?_
  refine rg_done rfl ?_
  refine a_cond rfl (fun h1 => ?_) (fun h1 => ?_)
  · skip
    have h2 := t_not h1
    refine a_rseq ?_
    refine rg_put (d := 20) (v := .d (.fl (.bool true))) rfl (og rfl (op_call rfl Tryd.func11 nm11 rfl .nil awake11 rfl)) ?_
    refine rg_put (d := 4) (v := .d (.fl (.bool true))) rfl (og rfl (op_assign rfl rfl rfl)) ?_
    refine rg_done rfl ?_
    refine a_ret ?_
    show ∃ ds, ResL _ _ _ ds ∧ RV.of ds = _
    refine ⟨[.fl (.bool true)], (.cons (.tmp rfl (.d _)) .nil), ?_⟩
    rfl
  · skip
    have h3 := f_not h1
    have hcl := fw_t h3
    refine a_skip ?_
    show A _ _ _ _ _ _ _
    refine a_rseq ?_
    refine rg_put (d := 21) (v := .pt 101 4) rfl (og rfl (of_eff (s_field_pt rfl Tryd.underlying44 rfl ti29 rfl rfl rfl) rfl)) ?_
    refine rg_put (d := 22) (v := .d (.ag (eCs m.x))) rfl (og rfl (of_eff (s_load_pts rfl Tryd.underlying29 rfl ti29 rfl rfl rfl rfl) rfl)) ?_
    refine rg_nam (d := 5) (v := .pt 102 0) (m := 102) (nw := [(102, .bx 29 ([.fl (.string (⟨#[]⟩)), .fl (.string (⟨#[]⟩)), .fl (.string (⟨#[]⟩)), .fl (.int .i64 0), .fl (.int .i64 0), .fl (.int .i64 0), .fl (.int .i64 0), .fl (.int .i64 0), .fl (.int .i64 0), .fl (.int .i64 0), .fl (.int .i64 0), .fl (.int .i64 0)]))]) rfl (og rfl (of_eff (s_alloc 102 rfl ti29 (by kernel_rfl) rfl) rfl)) rfl ?_
    refine rg_sto (nw := [(102, .bx 29 (eCs m.x))]) rfl (og rfl (of_eff (s_store rfl rfl ti29 rfl rfl rfl rfl rfl rfl) rfl)) ?_
    refine rg_done rfl ?_
    refine a_rseq ?_
    refine rg_put (d := 24) (v := .pt 101 0) rfl (og rfl (of_eff (s_field_pt rfl Tryd.underlying44 rfl ti24 rfl rfl rfl) rfl)) ?_
    refine rg_put (d := 25) (v := .d (.ag (eLw m.law))) rfl (og rfl (of_eff (s_load_pts rfl Tryd.underlying24 rfl ti24 rfl rfl rfl rfl) rfl)) ?_
    refine rg_put (d := 26) (v := .pt 101 3) rfl (og rfl (of_eff (s_field_pt rfl Tryd.underlying44 rfl ti22 rfl rfl rfl) rfl)) ?_
    refine rg_put (d := 27) (v := .d (.sl 1 (List.map (rI .i64) m.cal))) rfl (og rfl (op_load_pt rfl Tryd.underlying22 rfl rfl rfl rfl rfl)) ?_
    refine rg_put (d := 28) (v := .d (.ag (eCs m.x))) rfl (og rfl (of_eff (s_load_pts rfl Tryd.underlying29 rfl ti29 rfl rfl rfl rfl) rfl)) ?_
    refine rg_put (d := 29) (v := .d (.fl (.int .i64 day))) rfl (og rfl (op_move rfl rfl rfl)) ?_
    refine rg_put (d := 30) (v := .tu [.ag (eCs ((adv m.law m.cal m.x day).1)), .fl (.int .i64 ((adv m.law m.cal m.x day).2))]) rfl (og rfl (op_call rfl Tryd.func17 nm17 rfl (.cons rfl (.d _) (.cons rfl (.d _) (.cons rfl (.d _) (.cons rfl (.d _) .nil)))) (adv17 m.law m.cal m.x day (by omega)) rfl)) ?_
    refine rg_put (d := 23) (v := .tu [.ag (eCs ((adv m.law m.cal m.x day).1)), .fl (.int .i64 ((adv m.law m.cal m.x day).2))]) rfl (og rfl (op_move rfl rfl rfl)) ?_
    refine rg_put (d := 31) (v := .d (.ag (eCs ((adv m.law m.cal m.x day).1)))) rfl (og rfl (op_extract rfl rfl rfl rfl)) ?_
    refine rg_put (d := 32) (v := .d (.fl (.int .i64 ((adv m.law m.cal m.x day).2)))) rfl (og rfl (op_extract rfl rfl rfl rfl)) ?_
    refine rg_nam (d := 6) (v := .pt 103 0) (m := 103) (nw := [(103, .bx 29 ([.fl (.string (⟨#[]⟩)), .fl (.string (⟨#[]⟩)), .fl (.string (⟨#[]⟩)), .fl (.int .i64 0), .fl (.int .i64 0), .fl (.int .i64 0), .fl (.int .i64 0), .fl (.int .i64 0), .fl (.int .i64 0), .fl (.int .i64 0), .fl (.int .i64 0), .fl (.int .i64 0)]))]) rfl (og rfl (of_eff (s_alloc 103 rfl ti29 (by kernel_rfl) rfl) rfl)) rfl ?_
    refine rg_sto (nw := [(103, .bx 29 ((eCs ((adv m.law m.cal m.x day).1))))]) rfl (og rfl (of_eff (s_store rfl rfl ti29 rfl rfl rfl rfl rfl rfl) rfl)) ?_
    refine rg_put (d := 7) (v := .d (.fl (.int .i64 ((adv m.law m.cal m.x day).2)))) rfl (og rfl (op_assign rfl rfl rfl)) ?_
    refine rg_done rfl ?_
    refine a_seq ?_
    refine a_rseq ?_
    refine rg_put (d := 33) (v := .d (.fl (.int .i64 ((adv m.law m.cal m.x day).2)))) rfl (og rfl (op_move rfl rfl rfl)) ?_
    refine rg_put (d := 34) (v := .d (.fl (.bool (((adv m.law m.cal m.x day).2 != 0))))) rfl (og rfl (op_bin rfl rfl rfl (b_neq _ _ _ _) rfl)) ?_
    refine rg_done rfl ?_
    refine a_cond rfl (fun h4 => ?_) (fun h4 => ?_)
    · skip
      have hbad : (adv m.law m.cal m.x day).1 = z0 := adv_err (t_bne h4)
      have h5 := t_bne h4
      refine a_rseq ?_
      refine rg_put (d := 35) (v := .d (.ag (eCs (((adv m.law m.cal m.x day).1))))) rfl (og rfl (of_eff (s_load_pts rfl Tryd.underlying29 rfl ti29 rfl rfl rfl rfl) rfl)) ?_
      refine rg_put (d := 36) (v := .d (.ag (eCs ((Cs.mk (⟨#[]⟩) (⟨#[]⟩) (⟨#[]⟩) 0 0 0 0 0 0 (Ap.mk 0 0 0)))))) rfl (og rfl (of_eff (op_build rfl Tryd.underlying29 ti29 rfl (by kernel_rfl) (by kernel_rfl) (pl := #[(0, 1), (1, 1), (2, 1), (3, 1), (4, 1), (5, 1), (6, 1), (7, 1), (8, 1), (9, 3)]) (by kernel_rfl) .nil rfl) rfl)) ?_
      refine rg_put (d := 37) (v := .d (.fl (.bool true))) rfl (og rfl (op_call rfl Tryd.func16 nm16 rfl (.cons rfl (.d _) (.cons rfl (.d _) .nil)) (same_eq hbad) rfl)) ?_
      refine rg_put (d := 38) (v := .d (.fl (.bool true))) rfl (og rfl (op_move rfl rfl rfl)) ?_
      refine rg_put (d := 39) (v := .d (.fl (.bool true))) rfl (oy rfl rfl rfl rfl (op_call rfl Tryd.func11 nm11 rfl .nil awake11 rfl)) ?_
      refine rg_put (d := 40) (v := .d (.fl (.bool true))) rfl (og rfl (op_pick rfl rfl rfl rfl)) ?_
      refine rg_put (d := 4) (v := .d (.fl (.bool true))) rfl (og rfl (op_assign rfl rfl rfl)) ?_
      refine rg_done rfl ?_
      refine a_ret ?_
      show ∃ ds, ResL _ _ _ ds ∧ RV.of ds = _
      refine ⟨[.fl (.bool true)], (.cons (.tmp rfl (.d _)) .nil), ?_⟩
      rfl
    · skip
      obtain ⟨hch, hae⟩ := adv_eq (f_bne h4)
      obtain ⟨hokx, hday, hsin⟩ := chA_ok hch
      have h6 := f_bne h4
      refine a_skip ?_
      show A _ _ _ _ _ _ _
      refine a_seq ?_
      refine a_rseq ?_
      refine rg_put (d := 41) (v := .d (.ag (eCs m.x))) rfl (og rfl (of_eff (s_load_pts rfl Tryd.underlying29 rfl ti29 rfl rfl rfl rfl) rfl)) ?_
      refine rg_put (d := 42) (v := .d (.fl (.bool (opn m.x)))) rfl (og rfl (op_call rfl Tryd.func21 nm21 rfl (.cons rfl (.d _) .nil) (opn21 m.x) rfl)) ?_
      refine rg_put (d := 43) (v := .d (.fl (.bool ((!(opn m.x)))))) rfl (og rfl (op_un rfl rfl (u_not _) rfl)) ?_
      refine rg_put (d := 44) (v := .d (.fl (.bool ((!(opn m.x)))))) rfl (og rfl (op_move rfl rfl rfl)) ?_
      rcases fot ((!(opn m.x))) with h7 | h7
      · skip
        have h8 := f_not h7
        have hop := opn_t h8
        refine rg_put (d := 45) (v := .pt 102 9) rfl (oy rfl rfl rfl h7 (of_eff (s_field_pt rfl Tryd.underlying29 rfl ti27 rfl rfl rfl) rfl)) ?_
        refine rg_put (d := 46) (v := .pt 102 9) rfl (oy rfl rfl rfl h7 (of_eff (s_field_pt rfl Tryd.underlying27 rfl ti3 rfl rfl rfl) rfl)) ?_
        refine rg_put (d := 47) (v := .d (.fl (.int .i64 m.x.ap.state))) rfl (oy rfl rfl rfl h7 (op_load_pt rfl Tryd.underlying3 rfl rfl rfl rfl rfl)) ?_
        refine rg_put (d := 48) (v := .d (.fl (.bool (m.x.ap.state == 1)))) rfl (oy rfl rfl rfl h7 (op_bin rfl rfl rfl (b_eql _ _ _ _) rfl)) ?_
        refine rg_put (d := 49) (v := .d (.fl (.bool (m.x.ap.state == 1)))) rfl (og rfl (op_pick rfl rfl (by rw [h7]; rfl) rfl)) ?_
        refine rg_done rfl ?_
        refine a_cond rfl (fun h9 => ?_) (fun h9 => ?_)
        · skip
          have hsame : m.x = (adv m.law m.cal m.x day).1 := by
            rcases hae with ⟨_, e⟩ | ⟨e, _⟩
            · exact e.symm
            · exact absurd (t_beq h9) e
          have h10 := t_beq h9
          refine a_rseq ?_
          refine rg_put (d := 50) (v := .d (.ag (eCs m.x))) rfl (og rfl (of_eff (s_load_pts rfl Tryd.underlying29 rfl ti29 rfl rfl rfl rfl) rfl)) ?_
          refine rg_put (d := 51) (v := .d (.ag (eCs (((adv m.law m.cal m.x day).1))))) rfl (og rfl (of_eff (s_load_pts rfl Tryd.underlying29 rfl ti29 rfl rfl rfl rfl) rfl)) ?_
          refine rg_put (d := 52) (v := .d (.fl (.bool true))) rfl (og rfl (op_call rfl Tryd.func16 nm16 rfl (.cons rfl (.d _) (.cons rfl (.d _) .nil)) (same_eq hsame) rfl)) ?_
          refine rg_put (d := 53) (v := .d (.fl (.bool true))) rfl (og rfl (op_move rfl rfl rfl)) ?_
          refine rg_put (d := 54) (v := .d (.fl (.bool true))) rfl (oy rfl rfl rfl rfl (op_call rfl Tryd.func11 nm11 rfl .nil awake11 rfl)) ?_
          refine rg_put (d := 55) (v := .d (.fl (.bool true))) rfl (og rfl (op_pick rfl rfl rfl rfl)) ?_
          refine rg_put (d := 4) (v := .d (.fl (.bool true))) rfl (og rfl (op_assign rfl rfl rfl)) ?_
          refine rg_done rfl ?_
          refine a_ret ?_
          show ∃ ds, ResL _ _ _ ds ∧ RV.of ds = _
          refine ⟨[.fl (.bool true)], (.cons (.tmp rfl (.d _)) .nil), ?_⟩
          rfl
        · skip
          have h11 := f_beq h9
          refine a_skip ?_
          show A _ _ _ _ _ _ _
          refine a_rseq ?_
          have hye : (adv m.law m.cal m.x day).1 = itR m.law m.cal day 5 m.x := by
            rcases hae with ⟨e, _⟩ | ⟨_, e⟩
            · exact absurd e (f_beq h9)
            · exact e
          have hrr := itR_rr (w := m.law) (cal := m.cal) (day := day) 5 m.x hokx hsin.2 hop.1 hop.2
          rw [← hye] at hrr
          have hend := itR_end m.law m.cal day m.x
          rw [← hye] at hend
          have hdue : (due m.law m.cal (adv m.law m.cal m.x day).1).2 = true → day < (due m.law m.cal (adv m.law m.cal m.x day).1).1 := by
            rcases sp_cases m.law m.cal (adv m.law m.cal m.x day).1 day with ⟨e, _⟩ | ⟨e, _⟩ | ⟨_, e⟩
            · rw [e] at hend; cases hend
            · rw [e] at hend; cases hend
            · exact e
          obtain ⟨r1, r2, r3, r4, r5, r6, r7⟩ := hrr
          have c5 := (ckL_ok hokx.c).2.2.2.2
          have hlf := (ckL_ok hokx.c).2.1
          have hbx := hokx.b
          have hpx := hokx.p
          have hox := hokx.o
          have w1 : decide ((adv m.law m.cal m.x day).1.since < m.x.since) = false := decide_eq_false (by omega)
          have w2 : decide (day < (adv m.law m.cal m.x day).1.since) = false := decide_eq_false (by omega)
          have w3 : ((adv m.law m.cal m.x day).1.paid != m.x.paid) = false := by rw [r4]; simp
          have w4 : ((adv m.law m.cal m.x day).1.begun != m.x.begun) = false := by rw [r1]; simp
          have w5 : ((adv m.law m.cal m.x day).1.paused != m.x.paused) = false := by rw [r2]; simp
          have w6 : decide ((adv m.law m.cal m.x day).1.stage < m.x.stage) = false := decide_eq_false (by omega)
          refine rg_put (d := 57) (v := .pt 101 0) rfl (og rfl (of_eff (s_field_pt rfl Tryd.underlying44 rfl ti24 rfl rfl rfl) rfl)) ?_
          refine rg_put (d := 58) (v := .d (.ag (eLw m.law))) rfl (og rfl (of_eff (s_load_pts rfl Tryd.underlying24 rfl ti24 rfl rfl rfl rfl) rfl)) ?_
          refine rg_put (d := 59) (v := .pt 101 3) rfl (og rfl (of_eff (s_field_pt rfl Tryd.underlying44 rfl ti22 rfl rfl rfl) rfl)) ?_
          refine rg_put (d := 60) (v := .d (.sl 1 (List.map (rI .i64) m.cal))) rfl (og rfl (op_load_pt rfl Tryd.underlying22 rfl rfl rfl rfl rfl)) ?_
          refine rg_put (d := 61) (v := .d (.ag (eCs (((adv m.law m.cal m.x day).1))))) rfl (og rfl (of_eff (s_load_pts rfl Tryd.underlying29 rfl ti29 rfl rfl rfl rfl) rfl)) ?_
          refine rg_put (d := 62) (v := .tu [.fl (.int .i64 ((due m.law m.cal (((adv m.law m.cal m.x day).1))).1)), .fl (.bool ((due m.law m.cal (((adv m.law m.cal m.x day).1))).2))]) rfl (og rfl (op_call rfl Tryd.func19 nm19 rfl (.cons rfl (.d _) (.cons rfl (.d _) (.cons rfl (.d _) .nil))) (due19 m.law m.cal (((adv m.law m.cal m.x day).1)) (by omega)) rfl)) ?_
          refine rg_put (d := 56) (v := .tu [.fl (.int .i64 ((due m.law m.cal (((adv m.law m.cal m.x day).1))).1)), .fl (.bool ((due m.law m.cal (((adv m.law m.cal m.x day).1))).2))]) rfl (og rfl (op_move rfl rfl rfl)) ?_
          refine rg_put (d := 63) (v := .d (.fl (.int .i64 ((due m.law m.cal (((adv m.law m.cal m.x day).1))).1)))) rfl (og rfl (op_extract rfl rfl rfl rfl)) ?_
          refine rg_put (d := 64) (v := .d (.fl (.bool ((due m.law m.cal (((adv m.law m.cal m.x day).1))).2)))) rfl (og rfl (op_extract rfl rfl rfl rfl)) ?_
          refine rg_put (d := 8) (v := .d (.fl (.int .i64 ((due m.law m.cal (((adv m.law m.cal m.x day).1))).1)))) rfl (og rfl (op_assign rfl rfl rfl)) ?_
          refine rg_put (d := 9) (v := .d (.fl (.bool ((due m.law m.cal (((adv m.law m.cal m.x day).1))).2)))) rfl (og rfl (op_assign rfl rfl rfl)) ?_
          refine rg_done rfl ?_
          refine a_seq ?_
          refine a_rseq ?_
          refine rg_put (d := 65) (v := .d (.fl (.bool ((due m.law m.cal (((adv m.law m.cal m.x day).1))).2)))) rfl (og rfl (op_move rfl rfl rfl)) ?_
          refine rg_put (d := 66) (v := .d (.fl (.bool ((due m.law m.cal (((adv m.law m.cal m.x day).1))).2)))) rfl (og rfl (op_move rfl rfl rfl)) ?_
          rcases fot ((due m.law m.cal (((adv m.law m.cal m.x day).1))).2) with h12 | h12
          · skip
            refine rg_put (d := 67) (v := .d (.fl undef)) rfl (on rfl rfl rfl h12) ?_
            refine rg_put (d := 68) (v := .d (.fl undef)) rfl (on rfl rfl rfl h12) ?_
            refine rg_put (d := 69) (v := .d (.fl undef)) rfl (on rfl rfl rfl h12) ?_
            refine rg_put (d := 70) (v := .d (.fl (.bool false))) rfl (og rfl (op_pick rfl rfl (by rw [h12]; rfl) rfl)) ?_
            refine rg_put (d := 71) (v := .d (.fl (.bool false))) rfl (og rfl (op_move rfl rfl rfl)) ?_
            refine rg_put (d := 72) (v := .pt 103 4) rfl (oy rfl rfl rfl rfl (of_eff (s_field_pt rfl Tryd.underlying29 rfl ti3 rfl rfl rfl) rfl)) ?_
            refine rg_put (d := 73) (v := .d (.fl (.int .i64 (((adv m.law m.cal m.x day).1).since)))) rfl (oy rfl rfl rfl rfl (op_load_pt rfl Tryd.underlying3 rfl rfl rfl rfl rfl)) ?_
            refine rg_put (d := 74) (v := .pt 102 4) rfl (oy rfl rfl rfl rfl (of_eff (s_field_pt rfl Tryd.underlying29 rfl ti3 rfl rfl rfl) rfl)) ?_
            refine rg_put (d := 75) (v := .d (.fl (.int .i64 m.x.since))) rfl (oy rfl rfl rfl rfl (op_load_pt rfl Tryd.underlying3 rfl rfl rfl rfl rfl)) ?_
            refine rg_put (d := 76) (v := .d (.fl (.bool ((decide (((adv m.law m.cal m.x day).1).since < m.x.since)))))) rfl (oy rfl rfl rfl rfl (op_bin rfl rfl rfl (b_lss _ _ _ _) rfl)) ?_
            refine rg_put (d := 77) (v := .d (.fl (.bool ((decide (((adv m.law m.cal m.x day).1).since < m.x.since)))))) rfl (og rfl (op_pick rfl rfl rfl rfl)) ?_
            refine rg_put (d := 78) (v := .d (.fl (.bool ((decide (((adv m.law m.cal m.x day).1).since < m.x.since)))))) rfl (og rfl (op_move rfl rfl rfl)) ?_
            refine rg_put (d := 79) (v := .pt 103 4) rfl (oy rfl rfl rfl w1 (of_eff (s_field_pt rfl Tryd.underlying29 rfl ti3 rfl rfl rfl) rfl)) ?_
            refine rg_put (d := 80) (v := .d (.fl (.int .i64 (((adv m.law m.cal m.x day).1).since)))) rfl (oy rfl rfl rfl w1 (op_load_pt rfl Tryd.underlying3 rfl rfl rfl rfl rfl)) ?_
            refine rg_put (d := 81) (v := .d (.fl (.int .i64 day))) rfl (oy rfl rfl rfl w1 (op_move rfl rfl rfl)) ?_
            refine rg_put (d := 82) (v := .d (.fl (.bool ((decide (day < ((adv m.law m.cal m.x day).1).since)))))) rfl (oy rfl rfl rfl w1 (op_bin rfl rfl rfl (b_gtr _ _ _ _) rfl)) ?_
            refine rg_put (d := 83) (v := .d (.fl (.bool ((decide (day < ((adv m.law m.cal m.x day).1).since)))))) rfl (og rfl (op_pick rfl rfl (by rw [w1]; rfl) rfl)) ?_
            refine rg_put (d := 84) (v := .d (.fl (.bool ((decide (day < ((adv m.law m.cal m.x day).1).since)))))) rfl (og rfl (op_move rfl rfl rfl)) ?_
            refine rg_put (d := 85) (v := .pt 103 7) rfl (oy rfl rfl rfl w2 (of_eff (s_field_pt rfl Tryd.underlying29 rfl ti3 rfl rfl rfl) rfl)) ?_
            refine rg_put (d := 86) (v := .d (.fl (.int .i64 (((adv m.law m.cal m.x day).1).paid)))) rfl (oy rfl rfl rfl w2 (op_load_pt rfl Tryd.underlying3 rfl rfl rfl rfl rfl)) ?_
            refine rg_put (d := 87) (v := .pt 102 7) rfl (oy rfl rfl rfl w2 (of_eff (s_field_pt rfl Tryd.underlying29 rfl ti3 rfl rfl rfl) rfl)) ?_
            refine rg_put (d := 88) (v := .d (.fl (.int .i64 m.x.paid))) rfl (oy rfl rfl rfl w2 (op_load_pt rfl Tryd.underlying3 rfl rfl rfl rfl rfl)) ?_
            refine rg_put (d := 89) (v := .d (.fl (.bool ((((adv m.law m.cal m.x day).1).paid != m.x.paid))))) rfl (oy rfl rfl rfl w2 (op_bin rfl rfl rfl (b_neq _ _ _ _) rfl)) ?_
            refine rg_put (d := 90) (v := .d (.fl (.bool ((((adv m.law m.cal m.x day).1).paid != m.x.paid))))) rfl (og rfl (op_pick rfl rfl (by rw [w2]; rfl) rfl)) ?_
            refine rg_put (d := 91) (v := .d (.fl (.bool ((((adv m.law m.cal m.x day).1).paid != m.x.paid))))) rfl (og rfl (op_move rfl rfl rfl)) ?_
            refine rg_put (d := 92) (v := .pt 103 3) rfl (oy rfl rfl rfl w3 (of_eff (s_field_pt rfl Tryd.underlying29 rfl ti3 rfl rfl rfl) rfl)) ?_
            refine rg_put (d := 93) (v := .d (.fl (.int .i64 (((adv m.law m.cal m.x day).1).begun)))) rfl (oy rfl rfl rfl w3 (op_load_pt rfl Tryd.underlying3 rfl rfl rfl rfl rfl)) ?_
            refine rg_put (d := 94) (v := .pt 102 3) rfl (oy rfl rfl rfl w3 (of_eff (s_field_pt rfl Tryd.underlying29 rfl ti3 rfl rfl rfl) rfl)) ?_
            refine rg_put (d := 95) (v := .d (.fl (.int .i64 m.x.begun))) rfl (oy rfl rfl rfl w3 (op_load_pt rfl Tryd.underlying3 rfl rfl rfl rfl rfl)) ?_
            refine rg_put (d := 96) (v := .d (.fl (.bool ((((adv m.law m.cal m.x day).1).begun != m.x.begun))))) rfl (oy rfl rfl rfl w3 (op_bin rfl rfl rfl (b_neq _ _ _ _) rfl)) ?_
            refine rg_put (d := 97) (v := .d (.fl (.bool ((((adv m.law m.cal m.x day).1).begun != m.x.begun))))) rfl (og rfl (op_pick rfl rfl (by rw [w3]; rfl) rfl)) ?_
            refine rg_put (d := 98) (v := .d (.fl (.bool ((((adv m.law m.cal m.x day).1).begun != m.x.begun))))) rfl (og rfl (op_move rfl rfl rfl)) ?_
            refine rg_put (d := 99) (v := .pt 103 8) rfl (oy rfl rfl rfl w4 (of_eff (s_field_pt rfl Tryd.underlying29 rfl ti3 rfl rfl rfl) rfl)) ?_
            refine rg_put (d := 100) (v := .d (.fl (.int .i64 (((adv m.law m.cal m.x day).1).paused)))) rfl (oy rfl rfl rfl w4 (op_load_pt rfl Tryd.underlying3 rfl rfl rfl rfl rfl)) ?_
            refine rg_put (d := 101) (v := .pt 102 8) rfl (oy rfl rfl rfl w4 (of_eff (s_field_pt rfl Tryd.underlying29 rfl ti3 rfl rfl rfl) rfl)) ?_
            refine rg_put (d := 102) (v := .d (.fl (.int .i64 m.x.paused))) rfl (oy rfl rfl rfl w4 (op_load_pt rfl Tryd.underlying3 rfl rfl rfl rfl rfl)) ?_
            refine rg_put (d := 103) (v := .d (.fl (.bool ((((adv m.law m.cal m.x day).1).paused != m.x.paused))))) rfl (oy rfl rfl rfl w4 (op_bin rfl rfl rfl (b_neq _ _ _ _) rfl)) ?_
            refine rg_put (d := 104) (v := .d (.fl (.bool ((((adv m.law m.cal m.x day).1).paused != m.x.paused))))) rfl (og rfl (op_pick rfl rfl (by rw [w4]; rfl) rfl)) ?_
            refine rg_put (d := 105) (v := .d (.fl (.bool ((((adv m.law m.cal m.x day).1).paused != m.x.paused))))) rfl (og rfl (op_move rfl rfl rfl)) ?_
            refine rg_put (d := 106) (v := .pt 103 5) rfl (oy rfl rfl rfl w5 (of_eff (s_field_pt rfl Tryd.underlying29 rfl ti3 rfl rfl rfl) rfl)) ?_
            refine rg_put (d := 107) (v := .d (.fl (.int .i64 (((adv m.law m.cal m.x day).1).stage)))) rfl (oy rfl rfl rfl w5 (op_load_pt rfl Tryd.underlying3 rfl rfl rfl rfl rfl)) ?_
            refine rg_put (d := 108) (v := .pt 102 5) rfl (oy rfl rfl rfl w5 (of_eff (s_field_pt rfl Tryd.underlying29 rfl ti3 rfl rfl rfl) rfl)) ?_
            refine rg_put (d := 109) (v := .d (.fl (.int .i64 m.x.stage))) rfl (oy rfl rfl rfl w5 (op_load_pt rfl Tryd.underlying3 rfl rfl rfl rfl rfl)) ?_
            refine rg_put (d := 110) (v := .d (.fl (.bool ((decide (((adv m.law m.cal m.x day).1).stage < m.x.stage)))))) rfl (oy rfl rfl rfl w5 (op_bin rfl rfl rfl (b_lss _ _ _ _) rfl)) ?_
            refine rg_put (d := 111) (v := .d (.fl (.bool ((decide (((adv m.law m.cal m.x day).1).stage < m.x.stage)))))) rfl (og rfl (op_pick rfl rfl (by rw [w5]; rfl) rfl)) ?_
            refine rg_put (d := 112) (v := .d (.fl (.bool ((decide (((adv m.law m.cal m.x day).1).stage < m.x.stage)))))) rfl (og rfl (op_move rfl rfl rfl)) ?_
            refine rg_put (d := 113) (v := .pt 103 5) rfl (oy rfl rfl rfl w6 (of_eff (s_field_pt rfl Tryd.underlying29 rfl ti3 rfl rfl rfl) rfl)) ?_
            refine rg_put (d := 114) (v := .d (.fl (.int .i64 (((adv m.law m.cal m.x day).1).stage)))) rfl (oy rfl rfl rfl w6 (op_load_pt rfl Tryd.underlying3 rfl rfl rfl rfl rfl)) ?_
            refine rg_put (d := 115) (v := .d (.fl (.bool ((decide (5 < ((adv m.law m.cal m.x day).1).stage)))))) rfl (oy rfl rfl rfl w6 (op_bin rfl rfl rfl (b_gtr _ _ _ _) rfl)) ?_
            refine rg_put (d := 116) (v := .d (.fl (.bool ((decide (5 < ((adv m.law m.cal m.x day).1).stage)))))) rfl (oy rfl rfl rfl w6 (op_move rfl rfl rfl)) ?_
            rcases fot ((decide (5 < ((adv m.law m.cal m.x day).1).stage))) with h13 | h13
            · skip
              have h14 := f_dec h13
              refine rg_put (d := 117) (v := .d (.fl undef)) rfl (on rfl rfl rfl h13) ?_
              refine rg_put (d := 118) (v := .d (.fl undef)) rfl (on rfl rfl rfl h13) ?_
              refine rg_put (d := 119) (v := .d (.fl undef)) rfl (on rfl rfl rfl h13) ?_
              refine rg_put (d := 120) (v := .d (.fl (.bool false))) rfl (oy rfl rfl rfl w6 (op_pick rfl rfl (by rw [h13]; rfl) rfl)) ?_
              refine rg_put (d := 121) (v := .d (.fl (.bool false))) rfl (og rfl (op_pick rfl rfl (by rw [w6]; rfl) rfl)) ?_
              refine rg_done rfl ?_
              refine a_condF rfl rfl ?_
              refine a_skip ?_
              show A _ _ _ _ _ _ _
              refine a_seq ?_
              refine a_rseq ?_
              refine rg_put (d := 122) (v := .pt 103 5) rfl (og rfl (of_eff (s_field_pt rfl Tryd.underlying29 rfl ti3 rfl rfl rfl) rfl)) ?_
              refine rg_put (d := 123) (v := .d (.fl (.int .i64 (((adv m.law m.cal m.x day).1).stage)))) rfl (og rfl (op_load_pt rfl Tryd.underlying3 rfl rfl rfl rfl rfl)) ?_
              refine rg_put (d := 124) (v := .d (.fl (.bool ((((adv m.law m.cal m.x day).1).stage == 8))))) rfl (og rfl (op_bin rfl rfl rfl (b_eql _ _ _ _) rfl)) ?_
              refine rg_done rfl ?_
              refine a_cond rfl (fun h15 => ?_) (fun h15 => ?_)
              · skip
                have h16 := t_beq h15
                refine a_rseq ?_
                refine rg_put (d := 125) (v := .pt 102 3) rfl (og rfl (of_eff (s_field_pt rfl Tryd.underlying29 rfl ti3 rfl rfl rfl) rfl)) ?_
                refine rg_put (d := 126) (v := .d (.fl (.int .i64 m.x.begun))) rfl (og rfl (op_load_pt rfl Tryd.underlying3 rfl rfl rfl rfl rfl)) ?_
                refine rg_put (d := 127) (v := .pt 101 0) rfl (og rfl (of_eff (s_field_pt rfl Tryd.underlying44 rfl ti24 rfl rfl rfl) rfl)) ?_
                refine rg_put (d := 128) (v := .pt 101 2) rfl (og rfl (of_eff (s_field_pt rfl Tryd.underlying24 rfl ti3 rfl rfl rfl) rfl)) ?_
                refine rg_put (d := 129) (v := .d (.fl (.int .i64 m.law.limit))) rfl (og rfl (op_load_pt rfl Tryd.underlying3 rfl rfl rfl rfl rfl)) ?_
                refine rg_put (d := 130) (v := .d (.fl (.int .i64 (m.x.begun + m.law.limit)))) rfl (og rfl (op_bin rfl rfl rfl (fun x y w => b_add64 _ _ _ x y w (by omega)) rfl)) ?_
                refine rg_put (d := 131) (v := .pt 102 8) rfl (og rfl (of_eff (s_field_pt rfl Tryd.underlying29 rfl ti3 rfl rfl rfl) rfl)) ?_
                refine rg_put (d := 132) (v := .d (.fl (.int .i64 m.x.paused))) rfl (og rfl (op_load_pt rfl Tryd.underlying3 rfl rfl rfl rfl rfl)) ?_
                refine rg_put (d := 133) (v := .d (.fl (.int .i64 (((m.x.begun + m.law.limit) + m.x.paused))))) rfl (og rfl (op_bin rfl rfl rfl (fun x y w => b_add64 _ _ _ x y w (by omega)) rfl)) ?_
                refine rg_put (d := 134) (v := .d (.fl (.int .i64 day))) rfl (og rfl (op_move rfl rfl rfl)) ?_
                refine rg_put (d := 135) (v := .d (.fl (.bool ((decide (((m.x.begun + m.law.limit) + m.x.paused) ≤ day)))))) rfl (og rfl (op_bin rfl rfl rfl (b_leq _ _ _ _) rfl)) ?_
                refine rg_put (d := 136) (v := .d (.fl (.bool ((decide (((m.x.begun + m.law.limit) + m.x.paused) ≤ day)))))) rfl (og rfl (op_move rfl rfl rfl)) ?_
                refine rg_put (d := 137) (v := .pt 103 6) rfl (oy rfl rfl rfl (decide_eq_true (by unfold nxE at r7; omega)) (of_eff (s_field_pt rfl Tryd.underlying29 rfl ti3 rfl rfl rfl) rfl)) ?_
                refine rg_put (d := 138) (v := .d (.fl (.int .i64 (((adv m.law m.cal m.x day).1).owed)))) rfl (oy rfl rfl rfl (decide_eq_true (by unfold nxE at r7; omega)) (op_load_pt rfl Tryd.underlying3 rfl rfl rfl rfl rfl)) ?_
                refine rg_put (d := 139) (v := .pt 102 6) rfl (oy rfl rfl rfl (decide_eq_true (by unfold nxE at r7; omega)) (of_eff (s_field_pt rfl Tryd.underlying29 rfl ti3 rfl rfl rfl) rfl)) ?_
                refine rg_put (d := 140) (v := .d (.fl (.int .i64 m.x.owed))) rfl (oy rfl rfl rfl (decide_eq_true (by unfold nxE at r7; omega)) (op_load_pt rfl Tryd.underlying3 rfl rfl rfl rfl rfl)) ?_
                refine rg_put (d := 141) (v := .d (.fl (.bool ((decide (m.x.owed ≤ ((adv m.law m.cal m.x day).1).owed)))))) rfl (oy rfl rfl rfl (decide_eq_true (by unfold nxE at r7; omega)) (op_bin rfl rfl rfl (b_geq _ _ _ _) rfl)) ?_
                refine rg_put (d := 142) (v := .d (.fl (.bool ((decide (m.x.owed ≤ ((adv m.law m.cal m.x day).1).owed)))))) rfl (og rfl (op_pick rfl rfl (by rw [(decide_eq_true (by unfold nxE at r7; omega))]; rfl) rfl)) ?_
                refine rg_put (d := 143) (v := .d (.fl (.bool ((decide (m.x.owed ≤ ((adv m.law m.cal m.x day).1).owed)))))) rfl (og rfl (op_move rfl rfl rfl)) ?_
                refine rg_put (d := 144) (v := .pt 102 5) rfl (oy rfl rfl rfl (decide_eq_true (by omega)) (of_eff (s_field_pt rfl Tryd.underlying29 rfl ti3 rfl rfl rfl) rfl)) ?_
                refine rg_put (d := 145) (v := .d (.fl (.int .i64 m.x.stage))) rfl (oy rfl rfl rfl (decide_eq_true (by omega)) (op_load_pt rfl Tryd.underlying3 rfl rfl rfl rfl rfl)) ?_
                refine rg_put (d := 146) (v := .d (.fl (.bool (m.x.stage != 5)))) rfl (oy rfl rfl rfl (decide_eq_true (by omega)) (op_bin rfl rfl rfl (b_neq _ _ _ _) rfl)) ?_
                refine rg_put (d := 147) (v := .d (.fl (.bool (m.x.stage != 5)))) rfl (og rfl (op_pick rfl rfl (by rw [(decide_eq_true (by omega))]; rfl) rfl)) ?_
                refine rg_put (d := 148) (v := .d (.fl (.bool (m.x.stage != 5)))) rfl (og rfl (op_move rfl rfl rfl)) ?_
                refine rg_put (d := 149) (v := .d (.fl (.bool true))) rfl (oy rfl rfl rfl (bne_yes (by omega)) (op_call rfl Tryd.func11 nm11 rfl .nil awake11 rfl)) ?_
                refine rg_put (d := 150) (v := .d (.fl (.bool true))) rfl (og rfl (op_pick rfl rfl (by rw [(bne_yes (by omega))]; rfl) rfl)) ?_
                refine rg_put (d := 4) (v := .d (.fl (.bool true))) rfl (og rfl (op_assign rfl rfl rfl)) ?_
                refine rg_done rfl ?_
                refine a_ret ?_
                show ∃ ds, ResL _ _ _ ds ∧ RV.of ds = _
                refine ⟨[.fl (.bool true)], (.cons (.tmp rfl (.d _)) .nil), ?_⟩
                rfl
              · skip
                have h17 := f_beq h15
                refine a_skip ?_
                show A _ _ _ _ _ _ _
                refine a_rseq ?_
                refine rg_put (d := 151) (v := .pt 102 6) rfl (og rfl (of_eff (s_field_pt rfl Tryd.underlying29 rfl ti3 rfl rfl rfl) rfl)) ?_
                refine rg_put (d := 152) (v := .d (.fl (.int .i64 m.x.owed))) rfl (og rfl (op_load_pt rfl Tryd.underlying3 rfl rfl rfl rfl rfl)) ?_
                refine rg_put (d := 10) (v := .d (.fl (.int .i64 m.x.owed))) rfl (og rfl (op_assign rfl rfl rfl)) ?_
                refine rg_done rfl ?_
                refine a_seq ?_
                refine a_rseq ?_
                refine rg_put (d := 153) (v := .pt 102 5) rfl (og rfl (of_eff (s_field_pt rfl Tryd.underlying29 rfl ti3 rfl rfl rfl) rfl)) ?_
                refine rg_put (d := 154) (v := .d (.fl (.int .i64 m.x.stage))) rfl (og rfl (op_load_pt rfl Tryd.underlying3 rfl rfl rfl rfl rfl)) ?_
                refine rg_put (d := 11) (v := .d (.fl (.int .i64 m.x.stage))) rfl (og rfl (op_assign rfl rfl rfl)) ?_
                refine rg_done rfl ?_
                refine a_block ?_
                refine a_loop (ι := Nat) (fun j => SS [(0, .d (.ag (eMv m))), (1, .d (.fl (.int .i64 day))), (2, .pt 101 0), (4, .d (.fl (.bool false))), (5, .pt 102 0), (6, .pt 103 0), (7, .d (.fl (.int .i64 ((adv m.law m.cal m.x day).2)))), (8, .d (.fl (.int .i64 ((due m.law m.cal (((adv m.law m.cal m.x day).1))).1)))), (9, .d (.fl (.bool ((due m.law m.cal (((adv m.law m.cal m.x day).1))).2)))), (19, .d (.fl (.bool ((!(fw m.law m.cal m.x)))))), (34, .d (.fl (.bool (((adv m.law m.cal m.x day).2 != 0))))), (49, .d (.fl (.bool (m.x.ap.state == 1)))), (121, .d (.fl (.bool false))), (124, .d (.fl (.bool ((((adv m.law m.cal m.x day).1).stage == 8))))), (10, .d (.fl (.int .i64 (m.x.owed + sumF m.law m.x.stage j)))), (11, .d (.fl (.int .i64 ((m.x.stage + (j : Int))))))] [(101, .bx 44 (eMv m)), (102, .bx 29 (eCs m.x)), (103, .bx 29 ((eCs ((adv m.law m.cal m.x day).1))))]) (fun j => (j : Int) ≤ (adv m.law m.cal m.x day).1.stage - m.x.stage) (fun j => ((adv m.law m.cal m.x day).1.stage - m.x.stage).toNat - j) 0 (by omega) (imp_forget rfl ⟨rfl, rfl, rfl, rfl, rfl, rfl, rfl, rfl, rfl, rfl, rfl, rfl, rfl, rfl, (ci (by show m.x.owed = m.x.owed + 0; omega)), (ci (by omega)), trivial⟩ ⟨rfl, rfl, rfl, trivial⟩) (fun j hok => ?_)
                have hj := hok
                have hsl := sumF_le hokx.c (s := m.x.stage) hop.1 j (by omega)
                have hsl2 : m.x.stage + (j : Int) < (adv m.law m.cal m.x day).1.stage → 0 ≤ ix m.law.fees (m.x.stage + (j : Int) - 1).toNat ∧ ix m.law.fees (m.x.stage + (j : Int) - 1).toNat ≤ 2147483648 := fun h => fee_ok hokx.c (by omega) (by omega)
                refine a_seq ?_
                refine a_rseq ?_
                refine rg_put (d := 155) (v := .d (.fl (.int .i64 ((m.x.stage + (j : Int)))))) rfl (og rfl (op_move rfl rfl rfl)) ?_
                refine rg_put (d := 156) (v := .pt 103 5) rfl (og rfl (of_eff (s_field_pt rfl Tryd.underlying29 rfl ti3 rfl rfl rfl) rfl)) ?_
                refine rg_put (d := 157) (v := .d (.fl (.int .i64 (((adv m.law m.cal m.x day).1).stage)))) rfl (og rfl (op_load_pt rfl Tryd.underlying3 rfl rfl rfl rfl rfl)) ?_
                refine rg_put (d := 158) (v := .d (.fl (.bool ((decide ((m.x.stage + (j : Int)) < ((adv m.law m.cal m.x day).1).stage)))))) rfl (og rfl (op_bin rfl rfl rfl (b_lss _ _ _ _) rfl)) ?_
                refine rg_done rfl ?_
                refine a_cond rfl (fun h18 => ?_) (fun h18 => ?_)
                · skip
                  have h19 := t_dec h18
                  refine a_skip ?_
                  show A _ _ _ _ _ _ _
                  refine a_seq ?_
                  refine a_block ?_
                  refine a_region ?_
                  have hsl3 := hsl2 (by omega)
                  refine rg_put (d := 161) (v := .d (.fl (.int .i64 (m.x.owed + sumF m.law m.x.stage j)))) rfl (og rfl (op_move rfl rfl rfl)) ?_
                  refine rg_put (d := 162) (v := .pt 101 0) rfl (og rfl (of_eff (s_field_pt rfl Tryd.underlying44 rfl ti24 rfl rfl rfl) rfl)) ?_
                  refine rg_put (d := 163) (v := .pt 101 1) rfl (og rfl (of_eff (s_field_pt rfl Tryd.underlying24 rfl ti22 rfl rfl rfl) rfl)) ?_
                  refine rg_put (d := 164) (v := .d (.sl 1 (List.map (rI .i64) m.law.fees))) rfl (og rfl (op_load_pt rfl Tryd.underlying22 rfl rfl rfl rfl rfl)) ?_
                  refine rg_put (d := 165) (v := .d (.fl (.int .i64 ((m.x.stage + (j : Int)))))) rfl (og rfl (op_move rfl rfl rfl)) ?_
                  refine rg_put (d := 166) (v := .d (.fl (.int .i64 (((m.x.stage + (j : Int)) - 1))))) rfl (og rfl (op_bin rfl rfl rfl (fun x y w => b_sub64 _ _ _ x y w (by omega)) rfl)) ?_
                  refine rg_put (d := 167) (v := .el ((rI .i64 ((ix m.law.fees (((m.x.stage + (j : Int)) - 1)).toNat))))) rfl (og rfl (s_index rfl Tryd.underlying22 ti3 rfl rfl (by omega) (row_atI (by omega) (by omega)) rfl)) ?_
                  refine rg_put (d := 168) (v := .d (.fl (.int .i64 ((ix m.law.fees (((m.x.stage + (j : Int)) - 1)).toNat))))) rfl (og rfl (op_load_el rfl Tryd.underlying3 rfl rfl rfl rfl)) ?_
                  refine rg_put (d := 169) (v := .d (.fl (.int .i64 (((m.x.owed + sumF m.law m.x.stage j) + (ix m.law.fees (((m.x.stage + (j : Int)) - 1)).toNat)))))) rfl (og rfl (op_bin rfl rfl rfl (fun x y w => b_add64 _ _ _ x y w (by omega)) rfl)) ?_
                  refine rg_put (d := 10) (v := .d (.fl (.int .i64 (((m.x.owed + sumF m.law m.x.stage j) + (ix m.law.fees (((m.x.stage + (j : Int)) - 1)).toNat)))))) rfl (og rfl (op_assign rfl rfl rfl)) ?_
                  refine rg_done rfl ?_
                  show A _ _ _ _ _ _ _
                  refine a_region ?_
                  refine rg_put (d := 159) (v := .d (.fl (.int .i64 ((m.x.stage + (j : Int)))))) rfl (og rfl (op_move rfl rfl rfl)) ?_
                  refine rg_put (d := 160) (v := .d (.fl (.int .i64 (((m.x.stage + (j : Int)) + 1))))) rfl (og rfl (op_bin rfl rfl rfl (fun x y w => b_add64 _ _ _ x y w (by omega)) rfl)) ?_
                  refine rg_put (d := 11) (v := .d (.fl (.int .i64 (((m.x.stage + (j : Int)) + 1))))) rfl (og rfl (op_assign rfl rfl rfl)) ?_
                  refine rg_done rfl ?_
                  show ∃ i, _ ∧ _ ∧ Imp _ _ _ _ _
                  refine ⟨j + 1, (by omega), by omega, imp_forget rfl ⟨rfl, rfl, rfl, rfl, rfl, rfl, rfl, rfl, rfl, rfl, rfl, rfl, rfl, rfl, (ci (by rw [sumF_succ]; omega)), (ci (by omega)), trivial⟩ ⟨rfl, rfl, rfl, trivial⟩⟩
                · skip
                  have h20 := f_dec h18
                  refine a_exit ?_
                  show A _ _ _ _ _ _ _
                  refine a_seq ?_
                  refine a_rseq ?_
                  refine rg_put (d := 170) (v := .d (.fl (.int .i64 (m.x.owed + sumF m.law m.x.stage j)))) rfl (og rfl (op_move rfl rfl rfl)) ?_
                  refine rg_put (d := 171) (v := .d (.fl (.bool ((decide (1125899906842624 < (m.x.owed + sumF m.law m.x.stage j))))))) rfl (og rfl (op_bin rfl rfl rfl (b_gtr _ _ _ _) rfl)) ?_
                  refine rg_done rfl ?_
                  refine a_cond rfl (fun h21 => ?_) (fun h21 => ?_)
                  · skip
                    have h22 := t_dec h21
                    refine a_region ?_
                    refine rg_put (d := 10) (v := .d (.fl (.int .i64 1125899906842624))) rfl (og rfl (op_assign rfl rfl rfl)) ?_
                    refine rg_done rfl ?_
                    show A _ _ _ _ _ _ _
                    refine a_rseq ?_
                    have hfin : ((adv m.law m.cal m.x day).1.owed == 1125899906842624) = true := by
                      have h8 : (adv m.law m.cal m.x day).1.stage ≠ 8 := by omega
                      rcases r7 with ⟨q, _⟩ | ⟨q1, q2, q3⟩
                      · exact absurd q h8
                      · rw [q3, show ((adv m.law m.cal m.x day).1.stage - m.x.stage).toNat = j by omega]; simp; omega
                    refine rg_put (d := 172) (v := .pt 103 6) rfl (og rfl (of_eff (s_field_pt rfl Tryd.underlying29 rfl ti3 rfl rfl rfl) rfl)) ?_
                    refine rg_put (d := 173) (v := .d (.fl (.int .i64 (((adv m.law m.cal m.x day).1).owed)))) rfl (og rfl (op_load_pt rfl Tryd.underlying3 rfl rfl rfl rfl rfl)) ?_
                    refine rg_put (d := 174) (v := .d (.fl (.int .i64 1125899906842624))) rfl (og rfl (op_move rfl rfl rfl)) ?_
                    refine rg_put (d := 175) (v := .d (.fl (.bool ((((adv m.law m.cal m.x day).1).owed == 1125899906842624))))) rfl (og rfl (op_bin rfl rfl rfl (b_eql _ _ _ _) rfl)) ?_
                    refine rg_put (d := 176) (v := .d (.fl (.bool ((((adv m.law m.cal m.x day).1).owed == 1125899906842624))))) rfl (og rfl (op_move rfl rfl rfl)) ?_
                    refine rg_put (d := 177) (v := .d (.fl (.bool true))) rfl (oy rfl rfl rfl hfin (op_call rfl Tryd.func11 nm11 rfl .nil awake11 rfl)) ?_
                    refine rg_put (d := 178) (v := .d (.fl (.bool true))) rfl (og rfl (op_pick rfl rfl (by rw [hfin]; rfl) rfl)) ?_
                    refine rg_put (d := 4) (v := .d (.fl (.bool true))) rfl (og rfl (op_assign rfl rfl rfl)) ?_
                    refine rg_done rfl ?_
                    refine a_ret ?_
                    show ∃ ds, ResL _ _ _ ds ∧ RV.of ds = _
                    refine ⟨[.fl (.bool true)], (.cons (.tmp rfl (.d _)) .nil), ?_⟩
                    rfl
                  · skip
                    have h23 := f_dec h21
                    refine a_skip ?_
                    show A _ _ _ _ _ _ _
                    refine a_rseq ?_
                    have hfin : ((adv m.law m.cal m.x day).1.owed == (m.x.owed + sumF m.law m.x.stage j)) = true := by
                      have h8 : (adv m.law m.cal m.x day).1.stage ≠ 8 := by omega
                      rcases r7 with ⟨q, _⟩ | ⟨q1, q2, q3⟩
                      · exact absurd q h8
                      · rw [q3, show ((adv m.law m.cal m.x day).1.stage - m.x.stage).toNat = j by omega]; simp; omega
                    refine rg_put (d := 172) (v := .pt 103 6) rfl (og rfl (of_eff (s_field_pt rfl Tryd.underlying29 rfl ti3 rfl rfl rfl) rfl)) ?_
                    refine rg_put (d := 173) (v := .d (.fl (.int .i64 (((adv m.law m.cal m.x day).1).owed)))) rfl (og rfl (op_load_pt rfl Tryd.underlying3 rfl rfl rfl rfl rfl)) ?_
                    refine rg_put (d := 174) (v := .d (.fl (.int .i64 (m.x.owed + sumF m.law m.x.stage j)))) rfl (og rfl (op_move rfl rfl rfl)) ?_
                    refine rg_put (d := 175) (v := .d (.fl (.bool ((((adv m.law m.cal m.x day).1).owed == (m.x.owed + sumF m.law m.x.stage j)))))) rfl (og rfl (op_bin rfl rfl rfl (b_eql _ _ _ _) rfl)) ?_
                    refine rg_put (d := 176) (v := .d (.fl (.bool ((((adv m.law m.cal m.x day).1).owed == (m.x.owed + sumF m.law m.x.stage j)))))) rfl (og rfl (op_move rfl rfl rfl)) ?_
                    refine rg_put (d := 177) (v := .d (.fl (.bool true))) rfl (oy rfl rfl rfl hfin (op_call rfl Tryd.func11 nm11 rfl .nil awake11 rfl)) ?_
                    refine rg_put (d := 178) (v := .d (.fl (.bool true))) rfl (og rfl (op_pick rfl rfl (by rw [hfin]; rfl) rfl)) ?_
                    refine rg_put (d := 4) (v := .d (.fl (.bool true))) rfl (og rfl (op_assign rfl rfl rfl)) ?_
                    refine rg_done rfl ?_
                    refine a_ret ?_
                    show ∃ ds, ResL _ _ _ ds ∧ RV.of ds = _
                    refine ⟨[.fl (.bool true)], (.cons (.tmp rfl (.d _)) .nil), ?_⟩
                    rfl
            · skip
              have h24 := t_dec h13
              refine rg_put (d := 117) (v := .pt 103 5) rfl (oy rfl rfl rfl h13 (of_eff (s_field_pt rfl Tryd.underlying29 rfl ti3 rfl rfl rfl) rfl)) ?_
              refine rg_put (d := 118) (v := .d (.fl (.int .i64 (((adv m.law m.cal m.x day).1).stage)))) rfl (oy rfl rfl rfl h13 (op_load_pt rfl Tryd.underlying3 rfl rfl rfl rfl rfl)) ?_
              refine rg_put (d := 119) (v := .d (.fl (.bool ((((adv m.law m.cal m.x day).1).stage != 8))))) rfl (oy rfl rfl rfl h13 (op_bin rfl rfl rfl (b_neq _ _ _ _) rfl)) ?_
              refine rg_put (d := 120) (v := .d (.fl (.bool ((((adv m.law m.cal m.x day).1).stage != 8))))) rfl (oy rfl rfl rfl w6 (op_pick rfl rfl (by rw [h13]; rfl) rfl)) ?_
              refine rg_put (d := 121) (v := .d (.fl (.bool ((((adv m.law m.cal m.x day).1).stage != 8))))) rfl (og rfl (op_pick rfl rfl (by rw [w6]; rfl) rfl)) ?_
              refine rg_done rfl ?_
              refine a_condF rfl (bne_no (by omega)) ?_
              refine a_skip ?_
              show A _ _ _ _ _ _ _
              refine a_seq ?_
              refine a_rseq ?_
              refine rg_put (d := 122) (v := .pt 103 5) rfl (og rfl (of_eff (s_field_pt rfl Tryd.underlying29 rfl ti3 rfl rfl rfl) rfl)) ?_
              refine rg_put (d := 123) (v := .d (.fl (.int .i64 (((adv m.law m.cal m.x day).1).stage)))) rfl (og rfl (op_load_pt rfl Tryd.underlying3 rfl rfl rfl rfl rfl)) ?_
              refine rg_put (d := 124) (v := .d (.fl (.bool ((((adv m.law m.cal m.x day).1).stage == 8))))) rfl (og rfl (op_bin rfl rfl rfl (b_eql _ _ _ _) rfl)) ?_
              refine rg_done rfl ?_
              refine a_cond rfl (fun h25 => ?_) (fun h25 => ?_)
              · skip
                have h26 := t_beq h25
                refine a_rseq ?_
                refine rg_put (d := 125) (v := .pt 102 3) rfl (og rfl (of_eff (s_field_pt rfl Tryd.underlying29 rfl ti3 rfl rfl rfl) rfl)) ?_
                refine rg_put (d := 126) (v := .d (.fl (.int .i64 m.x.begun))) rfl (og rfl (op_load_pt rfl Tryd.underlying3 rfl rfl rfl rfl rfl)) ?_
                refine rg_put (d := 127) (v := .pt 101 0) rfl (og rfl (of_eff (s_field_pt rfl Tryd.underlying44 rfl ti24 rfl rfl rfl) rfl)) ?_
                refine rg_put (d := 128) (v := .pt 101 2) rfl (og rfl (of_eff (s_field_pt rfl Tryd.underlying24 rfl ti3 rfl rfl rfl) rfl)) ?_
                refine rg_put (d := 129) (v := .d (.fl (.int .i64 m.law.limit))) rfl (og rfl (op_load_pt rfl Tryd.underlying3 rfl rfl rfl rfl rfl)) ?_
                refine rg_put (d := 130) (v := .d (.fl (.int .i64 (m.x.begun + m.law.limit)))) rfl (og rfl (op_bin rfl rfl rfl (fun x y w => b_add64 _ _ _ x y w (by omega)) rfl)) ?_
                refine rg_put (d := 131) (v := .pt 102 8) rfl (og rfl (of_eff (s_field_pt rfl Tryd.underlying29 rfl ti3 rfl rfl rfl) rfl)) ?_
                refine rg_put (d := 132) (v := .d (.fl (.int .i64 m.x.paused))) rfl (og rfl (op_load_pt rfl Tryd.underlying3 rfl rfl rfl rfl rfl)) ?_
                refine rg_put (d := 133) (v := .d (.fl (.int .i64 (((m.x.begun + m.law.limit) + m.x.paused))))) rfl (og rfl (op_bin rfl rfl rfl (fun x y w => b_add64 _ _ _ x y w (by omega)) rfl)) ?_
                refine rg_put (d := 134) (v := .d (.fl (.int .i64 day))) rfl (og rfl (op_move rfl rfl rfl)) ?_
                refine rg_put (d := 135) (v := .d (.fl (.bool ((decide (((m.x.begun + m.law.limit) + m.x.paused) ≤ day)))))) rfl (og rfl (op_bin rfl rfl rfl (b_leq _ _ _ _) rfl)) ?_
                refine rg_put (d := 136) (v := .d (.fl (.bool ((decide (((m.x.begun + m.law.limit) + m.x.paused) ≤ day)))))) rfl (og rfl (op_move rfl rfl rfl)) ?_
                refine rg_put (d := 137) (v := .pt 103 6) rfl (oy rfl rfl rfl (decide_eq_true (by unfold nxE at r7; omega)) (of_eff (s_field_pt rfl Tryd.underlying29 rfl ti3 rfl rfl rfl) rfl)) ?_
                refine rg_put (d := 138) (v := .d (.fl (.int .i64 (((adv m.law m.cal m.x day).1).owed)))) rfl (oy rfl rfl rfl (decide_eq_true (by unfold nxE at r7; omega)) (op_load_pt rfl Tryd.underlying3 rfl rfl rfl rfl rfl)) ?_
                refine rg_put (d := 139) (v := .pt 102 6) rfl (oy rfl rfl rfl (decide_eq_true (by unfold nxE at r7; omega)) (of_eff (s_field_pt rfl Tryd.underlying29 rfl ti3 rfl rfl rfl) rfl)) ?_
                refine rg_put (d := 140) (v := .d (.fl (.int .i64 m.x.owed))) rfl (oy rfl rfl rfl (decide_eq_true (by unfold nxE at r7; omega)) (op_load_pt rfl Tryd.underlying3 rfl rfl rfl rfl rfl)) ?_
                refine rg_put (d := 141) (v := .d (.fl (.bool ((decide (m.x.owed ≤ ((adv m.law m.cal m.x day).1).owed)))))) rfl (oy rfl rfl rfl (decide_eq_true (by unfold nxE at r7; omega)) (op_bin rfl rfl rfl (b_geq _ _ _ _) rfl)) ?_
                refine rg_put (d := 142) (v := .d (.fl (.bool ((decide (m.x.owed ≤ ((adv m.law m.cal m.x day).1).owed)))))) rfl (og rfl (op_pick rfl rfl (by rw [(decide_eq_true (by unfold nxE at r7; omega))]; rfl) rfl)) ?_
                refine rg_put (d := 143) (v := .d (.fl (.bool ((decide (m.x.owed ≤ ((adv m.law m.cal m.x day).1).owed)))))) rfl (og rfl (op_move rfl rfl rfl)) ?_
                refine rg_put (d := 144) (v := .pt 102 5) rfl (oy rfl rfl rfl (decide_eq_true (by omega)) (of_eff (s_field_pt rfl Tryd.underlying29 rfl ti3 rfl rfl rfl) rfl)) ?_
                refine rg_put (d := 145) (v := .d (.fl (.int .i64 m.x.stage))) rfl (oy rfl rfl rfl (decide_eq_true (by omega)) (op_load_pt rfl Tryd.underlying3 rfl rfl rfl rfl rfl)) ?_
                refine rg_put (d := 146) (v := .d (.fl (.bool (m.x.stage != 5)))) rfl (oy rfl rfl rfl (decide_eq_true (by omega)) (op_bin rfl rfl rfl (b_neq _ _ _ _) rfl)) ?_
                refine rg_put (d := 147) (v := .d (.fl (.bool (m.x.stage != 5)))) rfl (og rfl (op_pick rfl rfl (by rw [(decide_eq_true (by omega))]; rfl) rfl)) ?_
                refine rg_put (d := 148) (v := .d (.fl (.bool (m.x.stage != 5)))) rfl (og rfl (op_move rfl rfl rfl)) ?_
                refine rg_put (d := 149) (v := .d (.fl (.bool true))) rfl (oy rfl rfl rfl (bne_yes (by omega)) (op_call rfl Tryd.func11 nm11 rfl .nil awake11 rfl)) ?_
                refine rg_put (d := 150) (v := .d (.fl (.bool true))) rfl (og rfl (op_pick rfl rfl (by rw [(bne_yes (by omega))]; rfl) rfl)) ?_
                refine rg_put (d := 4) (v := .d (.fl (.bool true))) rfl (og rfl (op_assign rfl rfl rfl)) ?_
                refine rg_done rfl ?_
                refine a_ret ?_
                show ∃ ds, ResL _ _ _ ds ∧ RV.of ds = _
                refine ⟨[.fl (.bool true)], (.cons (.tmp rfl (.d _)) .nil), ?_⟩
                rfl
              · skip
                have h27 := f_beq h25
                refine a_skip ?_
                show A _ _ _ _ _ _ _
                refine a_rseq ?_
                refine rg_put (d := 151) (v := .pt 102 6) rfl (og rfl (of_eff (s_field_pt rfl Tryd.underlying29 rfl ti3 rfl rfl rfl) rfl)) ?_
                refine rg_put (d := 152) (v := .d (.fl (.int .i64 m.x.owed))) rfl (og rfl (op_load_pt rfl Tryd.underlying3 rfl rfl rfl rfl rfl)) ?_
                refine rg_put (d := 10) (v := .d (.fl (.int .i64 m.x.owed))) rfl (og rfl (op_assign rfl rfl rfl)) ?_
                refine rg_done rfl ?_
                refine a_seq ?_
                refine a_rseq ?_
                refine rg_put (d := 153) (v := .pt 102 5) rfl (og rfl (of_eff (s_field_pt rfl Tryd.underlying29 rfl ti3 rfl rfl rfl) rfl)) ?_
                refine rg_put (d := 154) (v := .d (.fl (.int .i64 m.x.stage))) rfl (og rfl (op_load_pt rfl Tryd.underlying3 rfl rfl rfl rfl rfl)) ?_
                refine rg_put (d := 11) (v := .d (.fl (.int .i64 m.x.stage))) rfl (og rfl (op_assign rfl rfl rfl)) ?_
                refine rg_done rfl ?_
                refine a_block ?_
                refine a_loop (ι := Nat) (fun j => SS [(0, .d (.ag (eMv m))), (1, .d (.fl (.int .i64 day))), (2, .pt 101 0), (4, .d (.fl (.bool false))), (5, .pt 102 0), (6, .pt 103 0), (7, .d (.fl (.int .i64 ((adv m.law m.cal m.x day).2)))), (8, .d (.fl (.int .i64 ((due m.law m.cal (((adv m.law m.cal m.x day).1))).1)))), (9, .d (.fl (.bool ((due m.law m.cal (((adv m.law m.cal m.x day).1))).2)))), (19, .d (.fl (.bool ((!(fw m.law m.cal m.x)))))), (34, .d (.fl (.bool (((adv m.law m.cal m.x day).2 != 0))))), (49, .d (.fl (.bool (m.x.ap.state == 1)))), (121, .d (.fl (.bool ((((adv m.law m.cal m.x day).1).stage != 8))))), (124, .d (.fl (.bool ((((adv m.law m.cal m.x day).1).stage == 8))))), (10, .d (.fl (.int .i64 (m.x.owed + sumF m.law m.x.stage j)))), (11, .d (.fl (.int .i64 ((m.x.stage + (j : Int))))))] [(101, .bx 44 (eMv m)), (102, .bx 29 (eCs m.x)), (103, .bx 29 ((eCs ((adv m.law m.cal m.x day).1))))]) (fun j => (j : Int) ≤ (adv m.law m.cal m.x day).1.stage - m.x.stage) (fun j => ((adv m.law m.cal m.x day).1.stage - m.x.stage).toNat - j) 0 (by omega) (imp_forget rfl ⟨rfl, rfl, rfl, rfl, rfl, rfl, rfl, rfl, rfl, rfl, rfl, rfl, rfl, rfl, (ci (by show m.x.owed = m.x.owed + 0; omega)), (ci (by omega)), trivial⟩ ⟨rfl, rfl, rfl, trivial⟩) (fun j hok => ?_)
                have hj := hok
                have hsl := sumF_le hokx.c (s := m.x.stage) hop.1 j (by omega)
                have hsl2 : m.x.stage + (j : Int) < (adv m.law m.cal m.x day).1.stage → 0 ≤ ix m.law.fees (m.x.stage + (j : Int) - 1).toNat ∧ ix m.law.fees (m.x.stage + (j : Int) - 1).toNat ≤ 2147483648 := fun h => fee_ok hokx.c (by omega) (by omega)
                refine a_seq ?_
                refine a_rseq ?_
                refine rg_put (d := 155) (v := .d (.fl (.int .i64 ((m.x.stage + (j : Int)))))) rfl (og rfl (op_move rfl rfl rfl)) ?_
                refine rg_put (d := 156) (v := .pt 103 5) rfl (og rfl (of_eff (s_field_pt rfl Tryd.underlying29 rfl ti3 rfl rfl rfl) rfl)) ?_
                refine rg_put (d := 157) (v := .d (.fl (.int .i64 (((adv m.law m.cal m.x day).1).stage)))) rfl (og rfl (op_load_pt rfl Tryd.underlying3 rfl rfl rfl rfl rfl)) ?_
                refine rg_put (d := 158) (v := .d (.fl (.bool ((decide ((m.x.stage + (j : Int)) < ((adv m.law m.cal m.x day).1).stage)))))) rfl (og rfl (op_bin rfl rfl rfl (b_lss _ _ _ _) rfl)) ?_
                refine rg_done rfl ?_
                refine a_cond rfl (fun h28 => ?_) (fun h28 => ?_)
                · skip
                  have h29 := t_dec h28
                  refine a_skip ?_
                  show A _ _ _ _ _ _ _
                  refine a_seq ?_
                  refine a_block ?_
                  refine a_region ?_
                  have hsl3 := hsl2 (by omega)
                  refine rg_put (d := 161) (v := .d (.fl (.int .i64 (m.x.owed + sumF m.law m.x.stage j)))) rfl (og rfl (op_move rfl rfl rfl)) ?_
                  refine rg_put (d := 162) (v := .pt 101 0) rfl (og rfl (of_eff (s_field_pt rfl Tryd.underlying44 rfl ti24 rfl rfl rfl) rfl)) ?_
                  refine rg_put (d := 163) (v := .pt 101 1) rfl (og rfl (of_eff (s_field_pt rfl Tryd.underlying24 rfl ti22 rfl rfl rfl) rfl)) ?_
                  refine rg_put (d := 164) (v := .d (.sl 1 (List.map (rI .i64) m.law.fees))) rfl (og rfl (op_load_pt rfl Tryd.underlying22 rfl rfl rfl rfl rfl)) ?_
                  refine rg_put (d := 165) (v := .d (.fl (.int .i64 ((m.x.stage + (j : Int)))))) rfl (og rfl (op_move rfl rfl rfl)) ?_
                  refine rg_put (d := 166) (v := .d (.fl (.int .i64 (((m.x.stage + (j : Int)) - 1))))) rfl (og rfl (op_bin rfl rfl rfl (fun x y w => b_sub64 _ _ _ x y w (by omega)) rfl)) ?_
                  refine rg_put (d := 167) (v := .el ((rI .i64 ((ix m.law.fees (((m.x.stage + (j : Int)) - 1)).toNat))))) rfl (og rfl (s_index rfl Tryd.underlying22 ti3 rfl rfl (by omega) (row_atI (by omega) (by omega)) rfl)) ?_
                  refine rg_put (d := 168) (v := .d (.fl (.int .i64 ((ix m.law.fees (((m.x.stage + (j : Int)) - 1)).toNat))))) rfl (og rfl (op_load_el rfl Tryd.underlying3 rfl rfl rfl rfl)) ?_
                  refine rg_put (d := 169) (v := .d (.fl (.int .i64 (((m.x.owed + sumF m.law m.x.stage j) + (ix m.law.fees (((m.x.stage + (j : Int)) - 1)).toNat)))))) rfl (og rfl (op_bin rfl rfl rfl (fun x y w => b_add64 _ _ _ x y w (by omega)) rfl)) ?_
                  refine rg_put (d := 10) (v := .d (.fl (.int .i64 (((m.x.owed + sumF m.law m.x.stage j) + (ix m.law.fees (((m.x.stage + (j : Int)) - 1)).toNat)))))) rfl (og rfl (op_assign rfl rfl rfl)) ?_
                  refine rg_done rfl ?_
                  show A _ _ _ _ _ _ _
                  refine a_region ?_
                  refine rg_put (d := 159) (v := .d (.fl (.int .i64 ((m.x.stage + (j : Int)))))) rfl (og rfl (op_move rfl rfl rfl)) ?_
                  refine rg_put (d := 160) (v := .d (.fl (.int .i64 (((m.x.stage + (j : Int)) + 1))))) rfl (og rfl (op_bin rfl rfl rfl (fun x y w => b_add64 _ _ _ x y w (by omega)) rfl)) ?_
                  refine rg_put (d := 11) (v := .d (.fl (.int .i64 (((m.x.stage + (j : Int)) + 1))))) rfl (og rfl (op_assign rfl rfl rfl)) ?_
                  refine rg_done rfl ?_
                  show ∃ i, _ ∧ _ ∧ Imp _ _ _ _ _
                  refine ⟨j + 1, (by omega), by omega, imp_forget rfl ⟨rfl, rfl, rfl, rfl, rfl, rfl, rfl, rfl, rfl, rfl, rfl, rfl, rfl, rfl, (ci (by rw [sumF_succ]; omega)), (ci (by omega)), trivial⟩ ⟨rfl, rfl, rfl, trivial⟩⟩
                · skip
                  have h30 := f_dec h28
                  refine a_exit ?_
                  show A _ _ _ _ _ _ _
                  refine a_seq ?_
                  refine a_rseq ?_
                  refine rg_put (d := 170) (v := .d (.fl (.int .i64 (m.x.owed + sumF m.law m.x.stage j)))) rfl (og rfl (op_move rfl rfl rfl)) ?_
                  refine rg_put (d := 171) (v := .d (.fl (.bool ((decide (1125899906842624 < (m.x.owed + sumF m.law m.x.stage j))))))) rfl (og rfl (op_bin rfl rfl rfl (b_gtr _ _ _ _) rfl)) ?_
                  refine rg_done rfl ?_
                  refine a_cond rfl (fun h31 => ?_) (fun h31 => ?_)
                  · skip
                    have h32 := t_dec h31
                    refine a_region ?_
                    refine rg_put (d := 10) (v := .d (.fl (.int .i64 1125899906842624))) rfl (og rfl (op_assign rfl rfl rfl)) ?_
                    refine rg_done rfl ?_
                    show A _ _ _ _ _ _ _
                    refine a_rseq ?_
                    have hfin : ((adv m.law m.cal m.x day).1.owed == 1125899906842624) = true := by
                      have h8 : (adv m.law m.cal m.x day).1.stage ≠ 8 := by omega
                      rcases r7 with ⟨q, _⟩ | ⟨q1, q2, q3⟩
                      · exact absurd q h8
                      · rw [q3, show ((adv m.law m.cal m.x day).1.stage - m.x.stage).toNat = j by omega]; simp; omega
                    refine rg_put (d := 172) (v := .pt 103 6) rfl (og rfl (of_eff (s_field_pt rfl Tryd.underlying29 rfl ti3 rfl rfl rfl) rfl)) ?_
                    refine rg_put (d := 173) (v := .d (.fl (.int .i64 (((adv m.law m.cal m.x day).1).owed)))) rfl (og rfl (op_load_pt rfl Tryd.underlying3 rfl rfl rfl rfl rfl)) ?_
                    refine rg_put (d := 174) (v := .d (.fl (.int .i64 1125899906842624))) rfl (og rfl (op_move rfl rfl rfl)) ?_
                    refine rg_put (d := 175) (v := .d (.fl (.bool ((((adv m.law m.cal m.x day).1).owed == 1125899906842624))))) rfl (og rfl (op_bin rfl rfl rfl (b_eql _ _ _ _) rfl)) ?_
                    refine rg_put (d := 176) (v := .d (.fl (.bool ((((adv m.law m.cal m.x day).1).owed == 1125899906842624))))) rfl (og rfl (op_move rfl rfl rfl)) ?_
                    refine rg_put (d := 177) (v := .d (.fl (.bool true))) rfl (oy rfl rfl rfl hfin (op_call rfl Tryd.func11 nm11 rfl .nil awake11 rfl)) ?_
                    refine rg_put (d := 178) (v := .d (.fl (.bool true))) rfl (og rfl (op_pick rfl rfl (by rw [hfin]; rfl) rfl)) ?_
                    refine rg_put (d := 4) (v := .d (.fl (.bool true))) rfl (og rfl (op_assign rfl rfl rfl)) ?_
                    refine rg_done rfl ?_
                    refine a_ret ?_
                    show ∃ ds, ResL _ _ _ ds ∧ RV.of ds = _
                    refine ⟨[.fl (.bool true)], (.cons (.tmp rfl (.d _)) .nil), ?_⟩
                    rfl
                  · skip
                    have h33 := f_dec h31
                    refine a_skip ?_
                    show A _ _ _ _ _ _ _
                    refine a_rseq ?_
                    have hfin : ((adv m.law m.cal m.x day).1.owed == (m.x.owed + sumF m.law m.x.stage j)) = true := by
                      have h8 : (adv m.law m.cal m.x day).1.stage ≠ 8 := by omega
                      rcases r7 with ⟨q, _⟩ | ⟨q1, q2, q3⟩
                      · exact absurd q h8
                      · rw [q3, show ((adv m.law m.cal m.x day).1.stage - m.x.stage).toNat = j by omega]; simp; omega
                    refine rg_put (d := 172) (v := .pt 103 6) rfl (og rfl (of_eff (s_field_pt rfl Tryd.underlying29 rfl ti3 rfl rfl rfl) rfl)) ?_
                    refine rg_put (d := 173) (v := .d (.fl (.int .i64 (((adv m.law m.cal m.x day).1).owed)))) rfl (og rfl (op_load_pt rfl Tryd.underlying3 rfl rfl rfl rfl rfl)) ?_
                    refine rg_put (d := 174) (v := .d (.fl (.int .i64 (m.x.owed + sumF m.law m.x.stage j)))) rfl (og rfl (op_move rfl rfl rfl)) ?_
                    refine rg_put (d := 175) (v := .d (.fl (.bool ((((adv m.law m.cal m.x day).1).owed == (m.x.owed + sumF m.law m.x.stage j)))))) rfl (og rfl (op_bin rfl rfl rfl (b_eql _ _ _ _) rfl)) ?_
                    refine rg_put (d := 176) (v := .d (.fl (.bool ((((adv m.law m.cal m.x day).1).owed == (m.x.owed + sumF m.law m.x.stage j)))))) rfl (og rfl (op_move rfl rfl rfl)) ?_
                    refine rg_put (d := 177) (v := .d (.fl (.bool true))) rfl (oy rfl rfl rfl hfin (op_call rfl Tryd.func11 nm11 rfl .nil awake11 rfl)) ?_
                    refine rg_put (d := 178) (v := .d (.fl (.bool true))) rfl (og rfl (op_pick rfl rfl (by rw [hfin]; rfl) rfl)) ?_
                    refine rg_put (d := 4) (v := .d (.fl (.bool true))) rfl (og rfl (op_assign rfl rfl rfl)) ?_
                    refine rg_done rfl ?_
                    refine a_ret ?_
                    show ∃ ds, ResL _ _ _ ds ∧ RV.of ds = _
                    refine ⟨[.fl (.bool true)], (.cons (.tmp rfl (.d _)) .nil), ?_⟩
                    rfl
          · skip
            refine rg_put (d := 67) (v := .d (.fl (.int .i64 ((due m.law m.cal (((adv m.law m.cal m.x day).1))).1)))) rfl (oy rfl rfl rfl h12 (op_move rfl rfl rfl)) ?_
            refine rg_put (d := 68) (v := .d (.fl (.int .i64 day))) rfl (oy rfl rfl rfl h12 (op_move rfl rfl rfl)) ?_
            refine rg_put (d := 69) (v := .d (.fl (.bool ((decide ((due m.law m.cal (((adv m.law m.cal m.x day).1))).1 ≤ day)))))) rfl (oy rfl rfl rfl h12 (op_bin rfl rfl rfl (b_leq _ _ _ _) rfl)) ?_
            refine rg_put (d := 70) (v := .d (.fl (.bool ((decide ((due m.law m.cal (((adv m.law m.cal m.x day).1))).1 ≤ day)))))) rfl (og rfl (op_pick rfl rfl (by rw [h12]; rfl) rfl)) ?_
            refine rg_put (d := 71) (v := .d (.fl (.bool ((decide ((due m.law m.cal (((adv m.law m.cal m.x day).1))).1 ≤ day)))))) rfl (og rfl (op_move rfl rfl rfl)) ?_
            refine rg_put (d := 72) (v := .pt 103 4) rfl (oy rfl rfl rfl (dec_no (hdue h12)) (of_eff (s_field_pt rfl Tryd.underlying29 rfl ti3 rfl rfl rfl) rfl)) ?_
            refine rg_put (d := 73) (v := .d (.fl (.int .i64 (((adv m.law m.cal m.x day).1).since)))) rfl (oy rfl rfl rfl (dec_no (hdue h12)) (op_load_pt rfl Tryd.underlying3 rfl rfl rfl rfl rfl)) ?_
            refine rg_put (d := 74) (v := .pt 102 4) rfl (oy rfl rfl rfl (dec_no (hdue h12)) (of_eff (s_field_pt rfl Tryd.underlying29 rfl ti3 rfl rfl rfl) rfl)) ?_
            refine rg_put (d := 75) (v := .d (.fl (.int .i64 m.x.since))) rfl (oy rfl rfl rfl (dec_no (hdue h12)) (op_load_pt rfl Tryd.underlying3 rfl rfl rfl rfl rfl)) ?_
            refine rg_put (d := 76) (v := .d (.fl (.bool ((decide (((adv m.law m.cal m.x day).1).since < m.x.since)))))) rfl (oy rfl rfl rfl (dec_no (hdue h12)) (op_bin rfl rfl rfl (b_lss _ _ _ _) rfl)) ?_
            refine rg_put (d := 77) (v := .d (.fl (.bool ((decide (((adv m.law m.cal m.x day).1).since < m.x.since)))))) rfl (og rfl (op_pick rfl rfl (by rw [(dec_no (hdue h12))]; rfl) rfl)) ?_
            refine rg_put (d := 78) (v := .d (.fl (.bool ((decide (((adv m.law m.cal m.x day).1).since < m.x.since)))))) rfl (og rfl (op_move rfl rfl rfl)) ?_
            refine rg_put (d := 79) (v := .pt 103 4) rfl (oy rfl rfl rfl w1 (of_eff (s_field_pt rfl Tryd.underlying29 rfl ti3 rfl rfl rfl) rfl)) ?_
            refine rg_put (d := 80) (v := .d (.fl (.int .i64 (((adv m.law m.cal m.x day).1).since)))) rfl (oy rfl rfl rfl w1 (op_load_pt rfl Tryd.underlying3 rfl rfl rfl rfl rfl)) ?_
            refine rg_put (d := 81) (v := .d (.fl (.int .i64 day))) rfl (oy rfl rfl rfl w1 (op_move rfl rfl rfl)) ?_
            refine rg_put (d := 82) (v := .d (.fl (.bool ((decide (day < ((adv m.law m.cal m.x day).1).since)))))) rfl (oy rfl rfl rfl w1 (op_bin rfl rfl rfl (b_gtr _ _ _ _) rfl)) ?_
            refine rg_put (d := 83) (v := .d (.fl (.bool ((decide (day < ((adv m.law m.cal m.x day).1).since)))))) rfl (og rfl (op_pick rfl rfl (by rw [w1]; rfl) rfl)) ?_
            refine rg_put (d := 84) (v := .d (.fl (.bool ((decide (day < ((adv m.law m.cal m.x day).1).since)))))) rfl (og rfl (op_move rfl rfl rfl)) ?_
            refine rg_put (d := 85) (v := .pt 103 7) rfl (oy rfl rfl rfl w2 (of_eff (s_field_pt rfl Tryd.underlying29 rfl ti3 rfl rfl rfl) rfl)) ?_
            refine rg_put (d := 86) (v := .d (.fl (.int .i64 (((adv m.law m.cal m.x day).1).paid)))) rfl (oy rfl rfl rfl w2 (op_load_pt rfl Tryd.underlying3 rfl rfl rfl rfl rfl)) ?_
            refine rg_put (d := 87) (v := .pt 102 7) rfl (oy rfl rfl rfl w2 (of_eff (s_field_pt rfl Tryd.underlying29 rfl ti3 rfl rfl rfl) rfl)) ?_
            refine rg_put (d := 88) (v := .d (.fl (.int .i64 m.x.paid))) rfl (oy rfl rfl rfl w2 (op_load_pt rfl Tryd.underlying3 rfl rfl rfl rfl rfl)) ?_
            refine rg_put (d := 89) (v := .d (.fl (.bool ((((adv m.law m.cal m.x day).1).paid != m.x.paid))))) rfl (oy rfl rfl rfl w2 (op_bin rfl rfl rfl (b_neq _ _ _ _) rfl)) ?_
            refine rg_put (d := 90) (v := .d (.fl (.bool ((((adv m.law m.cal m.x day).1).paid != m.x.paid))))) rfl (og rfl (op_pick rfl rfl (by rw [w2]; rfl) rfl)) ?_
            refine rg_put (d := 91) (v := .d (.fl (.bool ((((adv m.law m.cal m.x day).1).paid != m.x.paid))))) rfl (og rfl (op_move rfl rfl rfl)) ?_
            refine rg_put (d := 92) (v := .pt 103 3) rfl (oy rfl rfl rfl w3 (of_eff (s_field_pt rfl Tryd.underlying29 rfl ti3 rfl rfl rfl) rfl)) ?_
            refine rg_put (d := 93) (v := .d (.fl (.int .i64 (((adv m.law m.cal m.x day).1).begun)))) rfl (oy rfl rfl rfl w3 (op_load_pt rfl Tryd.underlying3 rfl rfl rfl rfl rfl)) ?_
            refine rg_put (d := 94) (v := .pt 102 3) rfl (oy rfl rfl rfl w3 (of_eff (s_field_pt rfl Tryd.underlying29 rfl ti3 rfl rfl rfl) rfl)) ?_
            refine rg_put (d := 95) (v := .d (.fl (.int .i64 m.x.begun))) rfl (oy rfl rfl rfl w3 (op_load_pt rfl Tryd.underlying3 rfl rfl rfl rfl rfl)) ?_
            refine rg_put (d := 96) (v := .d (.fl (.bool ((((adv m.law m.cal m.x day).1).begun != m.x.begun))))) rfl (oy rfl rfl rfl w3 (op_bin rfl rfl rfl (b_neq _ _ _ _) rfl)) ?_
            refine rg_put (d := 97) (v := .d (.fl (.bool ((((adv m.law m.cal m.x day).1).begun != m.x.begun))))) rfl (og rfl (op_pick rfl rfl (by rw [w3]; rfl) rfl)) ?_
            refine rg_put (d := 98) (v := .d (.fl (.bool ((((adv m.law m.cal m.x day).1).begun != m.x.begun))))) rfl (og rfl (op_move rfl rfl rfl)) ?_
            refine rg_put (d := 99) (v := .pt 103 8) rfl (oy rfl rfl rfl w4 (of_eff (s_field_pt rfl Tryd.underlying29 rfl ti3 rfl rfl rfl) rfl)) ?_
            refine rg_put (d := 100) (v := .d (.fl (.int .i64 (((adv m.law m.cal m.x day).1).paused)))) rfl (oy rfl rfl rfl w4 (op_load_pt rfl Tryd.underlying3 rfl rfl rfl rfl rfl)) ?_
            refine rg_put (d := 101) (v := .pt 102 8) rfl (oy rfl rfl rfl w4 (of_eff (s_field_pt rfl Tryd.underlying29 rfl ti3 rfl rfl rfl) rfl)) ?_
            refine rg_put (d := 102) (v := .d (.fl (.int .i64 m.x.paused))) rfl (oy rfl rfl rfl w4 (op_load_pt rfl Tryd.underlying3 rfl rfl rfl rfl rfl)) ?_
            refine rg_put (d := 103) (v := .d (.fl (.bool ((((adv m.law m.cal m.x day).1).paused != m.x.paused))))) rfl (oy rfl rfl rfl w4 (op_bin rfl rfl rfl (b_neq _ _ _ _) rfl)) ?_
            refine rg_put (d := 104) (v := .d (.fl (.bool ((((adv m.law m.cal m.x day).1).paused != m.x.paused))))) rfl (og rfl (op_pick rfl rfl (by rw [w4]; rfl) rfl)) ?_
            refine rg_put (d := 105) (v := .d (.fl (.bool ((((adv m.law m.cal m.x day).1).paused != m.x.paused))))) rfl (og rfl (op_move rfl rfl rfl)) ?_
            refine rg_put (d := 106) (v := .pt 103 5) rfl (oy rfl rfl rfl w5 (of_eff (s_field_pt rfl Tryd.underlying29 rfl ti3 rfl rfl rfl) rfl)) ?_
            refine rg_put (d := 107) (v := .d (.fl (.int .i64 (((adv m.law m.cal m.x day).1).stage)))) rfl (oy rfl rfl rfl w5 (op_load_pt rfl Tryd.underlying3 rfl rfl rfl rfl rfl)) ?_
            refine rg_put (d := 108) (v := .pt 102 5) rfl (oy rfl rfl rfl w5 (of_eff (s_field_pt rfl Tryd.underlying29 rfl ti3 rfl rfl rfl) rfl)) ?_
            refine rg_put (d := 109) (v := .d (.fl (.int .i64 m.x.stage))) rfl (oy rfl rfl rfl w5 (op_load_pt rfl Tryd.underlying3 rfl rfl rfl rfl rfl)) ?_
            refine rg_put (d := 110) (v := .d (.fl (.bool ((decide (((adv m.law m.cal m.x day).1).stage < m.x.stage)))))) rfl (oy rfl rfl rfl w5 (op_bin rfl rfl rfl (b_lss _ _ _ _) rfl)) ?_
            refine rg_put (d := 111) (v := .d (.fl (.bool ((decide (((adv m.law m.cal m.x day).1).stage < m.x.stage)))))) rfl (og rfl (op_pick rfl rfl (by rw [w5]; rfl) rfl)) ?_
            refine rg_put (d := 112) (v := .d (.fl (.bool ((decide (((adv m.law m.cal m.x day).1).stage < m.x.stage)))))) rfl (og rfl (op_move rfl rfl rfl)) ?_
            refine rg_put (d := 113) (v := .pt 103 5) rfl (oy rfl rfl rfl w6 (of_eff (s_field_pt rfl Tryd.underlying29 rfl ti3 rfl rfl rfl) rfl)) ?_
            refine rg_put (d := 114) (v := .d (.fl (.int .i64 (((adv m.law m.cal m.x day).1).stage)))) rfl (oy rfl rfl rfl w6 (op_load_pt rfl Tryd.underlying3 rfl rfl rfl rfl rfl)) ?_
            refine rg_put (d := 115) (v := .d (.fl (.bool ((decide (5 < ((adv m.law m.cal m.x day).1).stage)))))) rfl (oy rfl rfl rfl w6 (op_bin rfl rfl rfl (b_gtr _ _ _ _) rfl)) ?_
            refine rg_put (d := 116) (v := .d (.fl (.bool ((decide (5 < ((adv m.law m.cal m.x day).1).stage)))))) rfl (oy rfl rfl rfl w6 (op_move rfl rfl rfl)) ?_
            rcases fot ((decide (5 < ((adv m.law m.cal m.x day).1).stage))) with h34 | h34
            · skip
              have h35 := f_dec h34
              refine rg_put (d := 117) (v := .d (.fl undef)) rfl (on rfl rfl rfl h34) ?_
              refine rg_put (d := 118) (v := .d (.fl undef)) rfl (on rfl rfl rfl h34) ?_
              refine rg_put (d := 119) (v := .d (.fl undef)) rfl (on rfl rfl rfl h34) ?_
              refine rg_put (d := 120) (v := .d (.fl (.bool false))) rfl (oy rfl rfl rfl w6 (op_pick rfl rfl (by rw [h34]; rfl) rfl)) ?_
              refine rg_put (d := 121) (v := .d (.fl (.bool false))) rfl (og rfl (op_pick rfl rfl (by rw [w6]; rfl) rfl)) ?_
              refine rg_done rfl ?_
              refine a_condF rfl rfl ?_
              refine a_skip ?_
              show A _ _ _ _ _ _ _
              refine a_seq ?_
              refine a_rseq ?_
              refine rg_put (d := 122) (v := .pt 103 5) rfl (og rfl (of_eff (s_field_pt rfl Tryd.underlying29 rfl ti3 rfl rfl rfl) rfl)) ?_
              refine rg_put (d := 123) (v := .d (.fl (.int .i64 (((adv m.law m.cal m.x day).1).stage)))) rfl (og rfl (op_load_pt rfl Tryd.underlying3 rfl rfl rfl rfl rfl)) ?_
              refine rg_put (d := 124) (v := .d (.fl (.bool ((((adv m.law m.cal m.x day).1).stage == 8))))) rfl (og rfl (op_bin rfl rfl rfl (b_eql _ _ _ _) rfl)) ?_
              refine rg_done rfl ?_
              refine a_cond rfl (fun h36 => ?_) (fun h36 => ?_)
              · skip
                have h37 := t_beq h36
                refine a_rseq ?_
                refine rg_put (d := 125) (v := .pt 102 3) rfl (og rfl (of_eff (s_field_pt rfl Tryd.underlying29 rfl ti3 rfl rfl rfl) rfl)) ?_
                refine rg_put (d := 126) (v := .d (.fl (.int .i64 m.x.begun))) rfl (og rfl (op_load_pt rfl Tryd.underlying3 rfl rfl rfl rfl rfl)) ?_
                refine rg_put (d := 127) (v := .pt 101 0) rfl (og rfl (of_eff (s_field_pt rfl Tryd.underlying44 rfl ti24 rfl rfl rfl) rfl)) ?_
                refine rg_put (d := 128) (v := .pt 101 2) rfl (og rfl (of_eff (s_field_pt rfl Tryd.underlying24 rfl ti3 rfl rfl rfl) rfl)) ?_
                refine rg_put (d := 129) (v := .d (.fl (.int .i64 m.law.limit))) rfl (og rfl (op_load_pt rfl Tryd.underlying3 rfl rfl rfl rfl rfl)) ?_
                refine rg_put (d := 130) (v := .d (.fl (.int .i64 (m.x.begun + m.law.limit)))) rfl (og rfl (op_bin rfl rfl rfl (fun x y w => b_add64 _ _ _ x y w (by omega)) rfl)) ?_
                refine rg_put (d := 131) (v := .pt 102 8) rfl (og rfl (of_eff (s_field_pt rfl Tryd.underlying29 rfl ti3 rfl rfl rfl) rfl)) ?_
                refine rg_put (d := 132) (v := .d (.fl (.int .i64 m.x.paused))) rfl (og rfl (op_load_pt rfl Tryd.underlying3 rfl rfl rfl rfl rfl)) ?_
                refine rg_put (d := 133) (v := .d (.fl (.int .i64 (((m.x.begun + m.law.limit) + m.x.paused))))) rfl (og rfl (op_bin rfl rfl rfl (fun x y w => b_add64 _ _ _ x y w (by omega)) rfl)) ?_
                refine rg_put (d := 134) (v := .d (.fl (.int .i64 day))) rfl (og rfl (op_move rfl rfl rfl)) ?_
                refine rg_put (d := 135) (v := .d (.fl (.bool ((decide (((m.x.begun + m.law.limit) + m.x.paused) ≤ day)))))) rfl (og rfl (op_bin rfl rfl rfl (b_leq _ _ _ _) rfl)) ?_
                refine rg_put (d := 136) (v := .d (.fl (.bool ((decide (((m.x.begun + m.law.limit) + m.x.paused) ≤ day)))))) rfl (og rfl (op_move rfl rfl rfl)) ?_
                refine rg_put (d := 137) (v := .pt 103 6) rfl (oy rfl rfl rfl (decide_eq_true (by unfold nxE at r7; omega)) (of_eff (s_field_pt rfl Tryd.underlying29 rfl ti3 rfl rfl rfl) rfl)) ?_
                refine rg_put (d := 138) (v := .d (.fl (.int .i64 (((adv m.law m.cal m.x day).1).owed)))) rfl (oy rfl rfl rfl (decide_eq_true (by unfold nxE at r7; omega)) (op_load_pt rfl Tryd.underlying3 rfl rfl rfl rfl rfl)) ?_
                refine rg_put (d := 139) (v := .pt 102 6) rfl (oy rfl rfl rfl (decide_eq_true (by unfold nxE at r7; omega)) (of_eff (s_field_pt rfl Tryd.underlying29 rfl ti3 rfl rfl rfl) rfl)) ?_
                refine rg_put (d := 140) (v := .d (.fl (.int .i64 m.x.owed))) rfl (oy rfl rfl rfl (decide_eq_true (by unfold nxE at r7; omega)) (op_load_pt rfl Tryd.underlying3 rfl rfl rfl rfl rfl)) ?_
                refine rg_put (d := 141) (v := .d (.fl (.bool ((decide (m.x.owed ≤ ((adv m.law m.cal m.x day).1).owed)))))) rfl (oy rfl rfl rfl (decide_eq_true (by unfold nxE at r7; omega)) (op_bin rfl rfl rfl (b_geq _ _ _ _) rfl)) ?_
                refine rg_put (d := 142) (v := .d (.fl (.bool ((decide (m.x.owed ≤ ((adv m.law m.cal m.x day).1).owed)))))) rfl (og rfl (op_pick rfl rfl (by rw [(decide_eq_true (by unfold nxE at r7; omega))]; rfl) rfl)) ?_
                refine rg_put (d := 143) (v := .d (.fl (.bool ((decide (m.x.owed ≤ ((adv m.law m.cal m.x day).1).owed)))))) rfl (og rfl (op_move rfl rfl rfl)) ?_
                refine rg_put (d := 144) (v := .pt 102 5) rfl (oy rfl rfl rfl (decide_eq_true (by omega)) (of_eff (s_field_pt rfl Tryd.underlying29 rfl ti3 rfl rfl rfl) rfl)) ?_
                refine rg_put (d := 145) (v := .d (.fl (.int .i64 m.x.stage))) rfl (oy rfl rfl rfl (decide_eq_true (by omega)) (op_load_pt rfl Tryd.underlying3 rfl rfl rfl rfl rfl)) ?_
                refine rg_put (d := 146) (v := .d (.fl (.bool (m.x.stage != 5)))) rfl (oy rfl rfl rfl (decide_eq_true (by omega)) (op_bin rfl rfl rfl (b_neq _ _ _ _) rfl)) ?_
                refine rg_put (d := 147) (v := .d (.fl (.bool (m.x.stage != 5)))) rfl (og rfl (op_pick rfl rfl (by rw [(decide_eq_true (by omega))]; rfl) rfl)) ?_
                refine rg_put (d := 148) (v := .d (.fl (.bool (m.x.stage != 5)))) rfl (og rfl (op_move rfl rfl rfl)) ?_
                refine rg_put (d := 149) (v := .d (.fl (.bool true))) rfl (oy rfl rfl rfl (bne_yes (by omega)) (op_call rfl Tryd.func11 nm11 rfl .nil awake11 rfl)) ?_
                refine rg_put (d := 150) (v := .d (.fl (.bool true))) rfl (og rfl (op_pick rfl rfl (by rw [(bne_yes (by omega))]; rfl) rfl)) ?_
                refine rg_put (d := 4) (v := .d (.fl (.bool true))) rfl (og rfl (op_assign rfl rfl rfl)) ?_
                refine rg_done rfl ?_
                refine a_ret ?_
                show ∃ ds, ResL _ _ _ ds ∧ RV.of ds = _
                refine ⟨[.fl (.bool true)], (.cons (.tmp rfl (.d _)) .nil), ?_⟩
                rfl
              · skip
                have h38 := f_beq h36
                refine a_skip ?_
                show A _ _ _ _ _ _ _
                refine a_rseq ?_
                refine rg_put (d := 151) (v := .pt 102 6) rfl (og rfl (of_eff (s_field_pt rfl Tryd.underlying29 rfl ti3 rfl rfl rfl) rfl)) ?_
                refine rg_put (d := 152) (v := .d (.fl (.int .i64 m.x.owed))) rfl (og rfl (op_load_pt rfl Tryd.underlying3 rfl rfl rfl rfl rfl)) ?_
                refine rg_put (d := 10) (v := .d (.fl (.int .i64 m.x.owed))) rfl (og rfl (op_assign rfl rfl rfl)) ?_
                refine rg_done rfl ?_
                refine a_seq ?_
                refine a_rseq ?_
                refine rg_put (d := 153) (v := .pt 102 5) rfl (og rfl (of_eff (s_field_pt rfl Tryd.underlying29 rfl ti3 rfl rfl rfl) rfl)) ?_
                refine rg_put (d := 154) (v := .d (.fl (.int .i64 m.x.stage))) rfl (og rfl (op_load_pt rfl Tryd.underlying3 rfl rfl rfl rfl rfl)) ?_
                refine rg_put (d := 11) (v := .d (.fl (.int .i64 m.x.stage))) rfl (og rfl (op_assign rfl rfl rfl)) ?_
                refine rg_done rfl ?_
                refine a_block ?_
                refine a_loop (ι := Nat) (fun j => SS [(0, .d (.ag (eMv m))), (1, .d (.fl (.int .i64 day))), (2, .pt 101 0), (4, .d (.fl (.bool false))), (5, .pt 102 0), (6, .pt 103 0), (7, .d (.fl (.int .i64 ((adv m.law m.cal m.x day).2)))), (8, .d (.fl (.int .i64 ((due m.law m.cal (((adv m.law m.cal m.x day).1))).1)))), (9, .d (.fl (.bool ((due m.law m.cal (((adv m.law m.cal m.x day).1))).2)))), (19, .d (.fl (.bool ((!(fw m.law m.cal m.x)))))), (34, .d (.fl (.bool (((adv m.law m.cal m.x day).2 != 0))))), (49, .d (.fl (.bool (m.x.ap.state == 1)))), (121, .d (.fl (.bool false))), (124, .d (.fl (.bool ((((adv m.law m.cal m.x day).1).stage == 8))))), (10, .d (.fl (.int .i64 (m.x.owed + sumF m.law m.x.stage j)))), (11, .d (.fl (.int .i64 ((m.x.stage + (j : Int))))))] [(101, .bx 44 (eMv m)), (102, .bx 29 (eCs m.x)), (103, .bx 29 ((eCs ((adv m.law m.cal m.x day).1))))]) (fun j => (j : Int) ≤ (adv m.law m.cal m.x day).1.stage - m.x.stage) (fun j => ((adv m.law m.cal m.x day).1.stage - m.x.stage).toNat - j) 0 (by omega) (imp_forget rfl ⟨rfl, rfl, rfl, rfl, rfl, rfl, rfl, rfl, rfl, rfl, rfl, rfl, rfl, rfl, (ci (by show m.x.owed = m.x.owed + 0; omega)), (ci (by omega)), trivial⟩ ⟨rfl, rfl, rfl, trivial⟩) (fun j hok => ?_)
                have hj := hok
                have hsl := sumF_le hokx.c (s := m.x.stage) hop.1 j (by omega)
                have hsl2 : m.x.stage + (j : Int) < (adv m.law m.cal m.x day).1.stage → 0 ≤ ix m.law.fees (m.x.stage + (j : Int) - 1).toNat ∧ ix m.law.fees (m.x.stage + (j : Int) - 1).toNat ≤ 2147483648 := fun h => fee_ok hokx.c (by omega) (by omega)
                refine a_seq ?_
                refine a_rseq ?_
                refine rg_put (d := 155) (v := .d (.fl (.int .i64 ((m.x.stage + (j : Int)))))) rfl (og rfl (op_move rfl rfl rfl)) ?_
                refine rg_put (d := 156) (v := .pt 103 5) rfl (og rfl (of_eff (s_field_pt rfl Tryd.underlying29 rfl ti3 rfl rfl rfl) rfl)) ?_
                refine rg_put (d := 157) (v := .d (.fl (.int .i64 (((adv m.law m.cal m.x day).1).stage)))) rfl (og rfl (op_load_pt rfl Tryd.underlying3 rfl rfl rfl rfl rfl)) ?_
                refine rg_put (d := 158) (v := .d (.fl (.bool ((decide ((m.x.stage + (j : Int)) < ((adv m.law m.cal m.x day).1).stage)))))) rfl (og rfl (op_bin rfl rfl rfl (b_lss _ _ _ _) rfl)) ?_
                refine rg_done rfl ?_
                refine a_cond rfl (fun h39 => ?_) (fun h39 => ?_)
                · skip
                  have h40 := t_dec h39
                  refine a_skip ?_
                  show A _ _ _ _ _ _ _
                  refine a_seq ?_
                  refine a_block ?_
                  refine a_region ?_
                  have hsl3 := hsl2 (by omega)
                  refine rg_put (d := 161) (v := .d (.fl (.int .i64 (m.x.owed + sumF m.law m.x.stage j)))) rfl (og rfl (op_move rfl rfl rfl)) ?_
                  refine rg_put (d := 162) (v := .pt 101 0) rfl (og rfl (of_eff (s_field_pt rfl Tryd.underlying44 rfl ti24 rfl rfl rfl) rfl)) ?_
                  refine rg_put (d := 163) (v := .pt 101 1) rfl (og rfl (of_eff (s_field_pt rfl Tryd.underlying24 rfl ti22 rfl rfl rfl) rfl)) ?_
                  refine rg_put (d := 164) (v := .d (.sl 1 (List.map (rI .i64) m.law.fees))) rfl (og rfl (op_load_pt rfl Tryd.underlying22 rfl rfl rfl rfl rfl)) ?_
                  refine rg_put (d := 165) (v := .d (.fl (.int .i64 ((m.x.stage + (j : Int)))))) rfl (og rfl (op_move rfl rfl rfl)) ?_
                  refine rg_put (d := 166) (v := .d (.fl (.int .i64 (((m.x.stage + (j : Int)) - 1))))) rfl (og rfl (op_bin rfl rfl rfl (fun x y w => b_sub64 _ _ _ x y w (by omega)) rfl)) ?_
                  refine rg_put (d := 167) (v := .el ((rI .i64 ((ix m.law.fees (((m.x.stage + (j : Int)) - 1)).toNat))))) rfl (og rfl (s_index rfl Tryd.underlying22 ti3 rfl rfl (by omega) (row_atI (by omega) (by omega)) rfl)) ?_
                  refine rg_put (d := 168) (v := .d (.fl (.int .i64 ((ix m.law.fees (((m.x.stage + (j : Int)) - 1)).toNat))))) rfl (og rfl (op_load_el rfl Tryd.underlying3 rfl rfl rfl rfl)) ?_
                  refine rg_put (d := 169) (v := .d (.fl (.int .i64 (((m.x.owed + sumF m.law m.x.stage j) + (ix m.law.fees (((m.x.stage + (j : Int)) - 1)).toNat)))))) rfl (og rfl (op_bin rfl rfl rfl (fun x y w => b_add64 _ _ _ x y w (by omega)) rfl)) ?_
                  refine rg_put (d := 10) (v := .d (.fl (.int .i64 (((m.x.owed + sumF m.law m.x.stage j) + (ix m.law.fees (((m.x.stage + (j : Int)) - 1)).toNat)))))) rfl (og rfl (op_assign rfl rfl rfl)) ?_
                  refine rg_done rfl ?_
                  show A _ _ _ _ _ _ _
                  refine a_region ?_
                  refine rg_put (d := 159) (v := .d (.fl (.int .i64 ((m.x.stage + (j : Int)))))) rfl (og rfl (op_move rfl rfl rfl)) ?_
                  refine rg_put (d := 160) (v := .d (.fl (.int .i64 (((m.x.stage + (j : Int)) + 1))))) rfl (og rfl (op_bin rfl rfl rfl (fun x y w => b_add64 _ _ _ x y w (by omega)) rfl)) ?_
                  refine rg_put (d := 11) (v := .d (.fl (.int .i64 (((m.x.stage + (j : Int)) + 1))))) rfl (og rfl (op_assign rfl rfl rfl)) ?_
                  refine rg_done rfl ?_
                  show ∃ i, _ ∧ _ ∧ Imp _ _ _ _ _
                  refine ⟨j + 1, (by omega), by omega, imp_forget rfl ⟨rfl, rfl, rfl, rfl, rfl, rfl, rfl, rfl, rfl, rfl, rfl, rfl, rfl, rfl, (ci (by rw [sumF_succ]; omega)), (ci (by omega)), trivial⟩ ⟨rfl, rfl, rfl, trivial⟩⟩
                · skip
                  have h41 := f_dec h39
                  refine a_exit ?_
                  show A _ _ _ _ _ _ _
                  refine a_seq ?_
                  refine a_rseq ?_
                  refine rg_put (d := 170) (v := .d (.fl (.int .i64 (m.x.owed + sumF m.law m.x.stage j)))) rfl (og rfl (op_move rfl rfl rfl)) ?_
                  refine rg_put (d := 171) (v := .d (.fl (.bool ((decide (1125899906842624 < (m.x.owed + sumF m.law m.x.stage j))))))) rfl (og rfl (op_bin rfl rfl rfl (b_gtr _ _ _ _) rfl)) ?_
                  refine rg_done rfl ?_
                  refine a_cond rfl (fun h42 => ?_) (fun h42 => ?_)
                  · skip
                    have h43 := t_dec h42
                    refine a_region ?_
                    refine rg_put (d := 10) (v := .d (.fl (.int .i64 1125899906842624))) rfl (og rfl (op_assign rfl rfl rfl)) ?_
                    refine rg_done rfl ?_
                    show A _ _ _ _ _ _ _
                    refine a_rseq ?_
                    have hfin : ((adv m.law m.cal m.x day).1.owed == 1125899906842624) = true := by
                      have h8 : (adv m.law m.cal m.x day).1.stage ≠ 8 := by omega
                      rcases r7 with ⟨q, _⟩ | ⟨q1, q2, q3⟩
                      · exact absurd q h8
                      · rw [q3, show ((adv m.law m.cal m.x day).1.stage - m.x.stage).toNat = j by omega]; simp; omega
                    refine rg_put (d := 172) (v := .pt 103 6) rfl (og rfl (of_eff (s_field_pt rfl Tryd.underlying29 rfl ti3 rfl rfl rfl) rfl)) ?_
                    refine rg_put (d := 173) (v := .d (.fl (.int .i64 (((adv m.law m.cal m.x day).1).owed)))) rfl (og rfl (op_load_pt rfl Tryd.underlying3 rfl rfl rfl rfl rfl)) ?_
                    refine rg_put (d := 174) (v := .d (.fl (.int .i64 1125899906842624))) rfl (og rfl (op_move rfl rfl rfl)) ?_
                    refine rg_put (d := 175) (v := .d (.fl (.bool ((((adv m.law m.cal m.x day).1).owed == 1125899906842624))))) rfl (og rfl (op_bin rfl rfl rfl (b_eql _ _ _ _) rfl)) ?_
                    refine rg_put (d := 176) (v := .d (.fl (.bool ((((adv m.law m.cal m.x day).1).owed == 1125899906842624))))) rfl (og rfl (op_move rfl rfl rfl)) ?_
                    refine rg_put (d := 177) (v := .d (.fl (.bool true))) rfl (oy rfl rfl rfl hfin (op_call rfl Tryd.func11 nm11 rfl .nil awake11 rfl)) ?_
                    refine rg_put (d := 178) (v := .d (.fl (.bool true))) rfl (og rfl (op_pick rfl rfl (by rw [hfin]; rfl) rfl)) ?_
                    refine rg_put (d := 4) (v := .d (.fl (.bool true))) rfl (og rfl (op_assign rfl rfl rfl)) ?_
                    refine rg_done rfl ?_
                    refine a_ret ?_
                    show ∃ ds, ResL _ _ _ ds ∧ RV.of ds = _
                    refine ⟨[.fl (.bool true)], (.cons (.tmp rfl (.d _)) .nil), ?_⟩
                    rfl
                  · skip
                    have h44 := f_dec h42
                    refine a_skip ?_
                    show A _ _ _ _ _ _ _
                    refine a_rseq ?_
                    have hfin : ((adv m.law m.cal m.x day).1.owed == (m.x.owed + sumF m.law m.x.stage j)) = true := by
                      have h8 : (adv m.law m.cal m.x day).1.stage ≠ 8 := by omega
                      rcases r7 with ⟨q, _⟩ | ⟨q1, q2, q3⟩
                      · exact absurd q h8
                      · rw [q3, show ((adv m.law m.cal m.x day).1.stage - m.x.stage).toNat = j by omega]; simp; omega
                    refine rg_put (d := 172) (v := .pt 103 6) rfl (og rfl (of_eff (s_field_pt rfl Tryd.underlying29 rfl ti3 rfl rfl rfl) rfl)) ?_
                    refine rg_put (d := 173) (v := .d (.fl (.int .i64 (((adv m.law m.cal m.x day).1).owed)))) rfl (og rfl (op_load_pt rfl Tryd.underlying3 rfl rfl rfl rfl rfl)) ?_
                    refine rg_put (d := 174) (v := .d (.fl (.int .i64 (m.x.owed + sumF m.law m.x.stage j)))) rfl (og rfl (op_move rfl rfl rfl)) ?_
                    refine rg_put (d := 175) (v := .d (.fl (.bool ((((adv m.law m.cal m.x day).1).owed == (m.x.owed + sumF m.law m.x.stage j)))))) rfl (og rfl (op_bin rfl rfl rfl (b_eql _ _ _ _) rfl)) ?_
                    refine rg_put (d := 176) (v := .d (.fl (.bool ((((adv m.law m.cal m.x day).1).owed == (m.x.owed + sumF m.law m.x.stage j)))))) rfl (og rfl (op_move rfl rfl rfl)) ?_
                    refine rg_put (d := 177) (v := .d (.fl (.bool true))) rfl (oy rfl rfl rfl hfin (op_call rfl Tryd.func11 nm11 rfl .nil awake11 rfl)) ?_
                    refine rg_put (d := 178) (v := .d (.fl (.bool true))) rfl (og rfl (op_pick rfl rfl (by rw [hfin]; rfl) rfl)) ?_
                    refine rg_put (d := 4) (v := .d (.fl (.bool true))) rfl (og rfl (op_assign rfl rfl rfl)) ?_
                    refine rg_done rfl ?_
                    refine a_ret ?_
                    show ∃ ds, ResL _ _ _ ds ∧ RV.of ds = _
                    refine ⟨[.fl (.bool true)], (.cons (.tmp rfl (.d _)) .nil), ?_⟩
                    rfl
            · skip
              have h45 := t_dec h34
              refine rg_put (d := 117) (v := .pt 103 5) rfl (oy rfl rfl rfl h34 (of_eff (s_field_pt rfl Tryd.underlying29 rfl ti3 rfl rfl rfl) rfl)) ?_
              refine rg_put (d := 118) (v := .d (.fl (.int .i64 (((adv m.law m.cal m.x day).1).stage)))) rfl (oy rfl rfl rfl h34 (op_load_pt rfl Tryd.underlying3 rfl rfl rfl rfl rfl)) ?_
              refine rg_put (d := 119) (v := .d (.fl (.bool ((((adv m.law m.cal m.x day).1).stage != 8))))) rfl (oy rfl rfl rfl h34 (op_bin rfl rfl rfl (b_neq _ _ _ _) rfl)) ?_
              refine rg_put (d := 120) (v := .d (.fl (.bool ((((adv m.law m.cal m.x day).1).stage != 8))))) rfl (oy rfl rfl rfl w6 (op_pick rfl rfl (by rw [h34]; rfl) rfl)) ?_
              refine rg_put (d := 121) (v := .d (.fl (.bool ((((adv m.law m.cal m.x day).1).stage != 8))))) rfl (og rfl (op_pick rfl rfl (by rw [w6]; rfl) rfl)) ?_
              refine rg_done rfl ?_
              refine a_condF rfl (bne_no (by omega)) ?_
              refine a_skip ?_
              show A _ _ _ _ _ _ _
              refine a_seq ?_
              refine a_rseq ?_
              refine rg_put (d := 122) (v := .pt 103 5) rfl (og rfl (of_eff (s_field_pt rfl Tryd.underlying29 rfl ti3 rfl rfl rfl) rfl)) ?_
              refine rg_put (d := 123) (v := .d (.fl (.int .i64 (((adv m.law m.cal m.x day).1).stage)))) rfl (og rfl (op_load_pt rfl Tryd.underlying3 rfl rfl rfl rfl rfl)) ?_
              refine rg_put (d := 124) (v := .d (.fl (.bool ((((adv m.law m.cal m.x day).1).stage == 8))))) rfl (og rfl (op_bin rfl rfl rfl (b_eql _ _ _ _) rfl)) ?_
              refine rg_done rfl ?_
              refine a_cond rfl (fun h46 => ?_) (fun h46 => ?_)
              · skip
                have h47 := t_beq h46
                refine a_rseq ?_
                refine rg_put (d := 125) (v := .pt 102 3) rfl (og rfl (of_eff (s_field_pt rfl Tryd.underlying29 rfl ti3 rfl rfl rfl) rfl)) ?_
                refine rg_put (d := 126) (v := .d (.fl (.int .i64 m.x.begun))) rfl (og rfl (op_load_pt rfl Tryd.underlying3 rfl rfl rfl rfl rfl)) ?_
                refine rg_put (d := 127) (v := .pt 101 0) rfl (og rfl (of_eff (s_field_pt rfl Tryd.underlying44 rfl ti24 rfl rfl rfl) rfl)) ?_
                refine rg_put (d := 128) (v := .pt 101 2) rfl (og rfl (of_eff (s_field_pt rfl Tryd.underlying24 rfl ti3 rfl rfl rfl) rfl)) ?_
                refine rg_put (d := 129) (v := .d (.fl (.int .i64 m.law.limit))) rfl (og rfl (op_load_pt rfl Tryd.underlying3 rfl rfl rfl rfl rfl)) ?_
                refine rg_put (d := 130) (v := .d (.fl (.int .i64 (m.x.begun + m.law.limit)))) rfl (og rfl (op_bin rfl rfl rfl (fun x y w => b_add64 _ _ _ x y w (by omega)) rfl)) ?_
                refine rg_put (d := 131) (v := .pt 102 8) rfl (og rfl (of_eff (s_field_pt rfl Tryd.underlying29 rfl ti3 rfl rfl rfl) rfl)) ?_
                refine rg_put (d := 132) (v := .d (.fl (.int .i64 m.x.paused))) rfl (og rfl (op_load_pt rfl Tryd.underlying3 rfl rfl rfl rfl rfl)) ?_
                refine rg_put (d := 133) (v := .d (.fl (.int .i64 (((m.x.begun + m.law.limit) + m.x.paused))))) rfl (og rfl (op_bin rfl rfl rfl (fun x y w => b_add64 _ _ _ x y w (by omega)) rfl)) ?_
                refine rg_put (d := 134) (v := .d (.fl (.int .i64 day))) rfl (og rfl (op_move rfl rfl rfl)) ?_
                refine rg_put (d := 135) (v := .d (.fl (.bool ((decide (((m.x.begun + m.law.limit) + m.x.paused) ≤ day)))))) rfl (og rfl (op_bin rfl rfl rfl (b_leq _ _ _ _) rfl)) ?_
                refine rg_put (d := 136) (v := .d (.fl (.bool ((decide (((m.x.begun + m.law.limit) + m.x.paused) ≤ day)))))) rfl (og rfl (op_move rfl rfl rfl)) ?_
                refine rg_put (d := 137) (v := .pt 103 6) rfl (oy rfl rfl rfl (decide_eq_true (by unfold nxE at r7; omega)) (of_eff (s_field_pt rfl Tryd.underlying29 rfl ti3 rfl rfl rfl) rfl)) ?_
                refine rg_put (d := 138) (v := .d (.fl (.int .i64 (((adv m.law m.cal m.x day).1).owed)))) rfl (oy rfl rfl rfl (decide_eq_true (by unfold nxE at r7; omega)) (op_load_pt rfl Tryd.underlying3 rfl rfl rfl rfl rfl)) ?_
                refine rg_put (d := 139) (v := .pt 102 6) rfl (oy rfl rfl rfl (decide_eq_true (by unfold nxE at r7; omega)) (of_eff (s_field_pt rfl Tryd.underlying29 rfl ti3 rfl rfl rfl) rfl)) ?_
                refine rg_put (d := 140) (v := .d (.fl (.int .i64 m.x.owed))) rfl (oy rfl rfl rfl (decide_eq_true (by unfold nxE at r7; omega)) (op_load_pt rfl Tryd.underlying3 rfl rfl rfl rfl rfl)) ?_
                refine rg_put (d := 141) (v := .d (.fl (.bool ((decide (m.x.owed ≤ ((adv m.law m.cal m.x day).1).owed)))))) rfl (oy rfl rfl rfl (decide_eq_true (by unfold nxE at r7; omega)) (op_bin rfl rfl rfl (b_geq _ _ _ _) rfl)) ?_
                refine rg_put (d := 142) (v := .d (.fl (.bool ((decide (m.x.owed ≤ ((adv m.law m.cal m.x day).1).owed)))))) rfl (og rfl (op_pick rfl rfl (by rw [(decide_eq_true (by unfold nxE at r7; omega))]; rfl) rfl)) ?_
                refine rg_put (d := 143) (v := .d (.fl (.bool ((decide (m.x.owed ≤ ((adv m.law m.cal m.x day).1).owed)))))) rfl (og rfl (op_move rfl rfl rfl)) ?_
                refine rg_put (d := 144) (v := .pt 102 5) rfl (oy rfl rfl rfl (decide_eq_true (by omega)) (of_eff (s_field_pt rfl Tryd.underlying29 rfl ti3 rfl rfl rfl) rfl)) ?_
                refine rg_put (d := 145) (v := .d (.fl (.int .i64 m.x.stage))) rfl (oy rfl rfl rfl (decide_eq_true (by omega)) (op_load_pt rfl Tryd.underlying3 rfl rfl rfl rfl rfl)) ?_
                refine rg_put (d := 146) (v := .d (.fl (.bool (m.x.stage != 5)))) rfl (oy rfl rfl rfl (decide_eq_true (by omega)) (op_bin rfl rfl rfl (b_neq _ _ _ _) rfl)) ?_
                refine rg_put (d := 147) (v := .d (.fl (.bool (m.x.stage != 5)))) rfl (og rfl (op_pick rfl rfl (by rw [(decide_eq_true (by omega))]; rfl) rfl)) ?_
                refine rg_put (d := 148) (v := .d (.fl (.bool (m.x.stage != 5)))) rfl (og rfl (op_move rfl rfl rfl)) ?_
                refine rg_put (d := 149) (v := .d (.fl (.bool true))) rfl (oy rfl rfl rfl (bne_yes (by omega)) (op_call rfl Tryd.func11 nm11 rfl .nil awake11 rfl)) ?_
                refine rg_put (d := 150) (v := .d (.fl (.bool true))) rfl (og rfl (op_pick rfl rfl (by rw [(bne_yes (by omega))]; rfl) rfl)) ?_
                refine rg_put (d := 4) (v := .d (.fl (.bool true))) rfl (og rfl (op_assign rfl rfl rfl)) ?_
                refine rg_done rfl ?_
                refine a_ret ?_
                show ∃ ds, ResL _ _ _ ds ∧ RV.of ds = _
                refine ⟨[.fl (.bool true)], (.cons (.tmp rfl (.d _)) .nil), ?_⟩
                rfl
              · skip
                have h48 := f_beq h46
                refine a_skip ?_
                show A _ _ _ _ _ _ _
                refine a_rseq ?_
                refine rg_put (d := 151) (v := .pt 102 6) rfl (og rfl (of_eff (s_field_pt rfl Tryd.underlying29 rfl ti3 rfl rfl rfl) rfl)) ?_
                refine rg_put (d := 152) (v := .d (.fl (.int .i64 m.x.owed))) rfl (og rfl (op_load_pt rfl Tryd.underlying3 rfl rfl rfl rfl rfl)) ?_
                refine rg_put (d := 10) (v := .d (.fl (.int .i64 m.x.owed))) rfl (og rfl (op_assign rfl rfl rfl)) ?_
                refine rg_done rfl ?_
                refine a_seq ?_
                refine a_rseq ?_
                refine rg_put (d := 153) (v := .pt 102 5) rfl (og rfl (of_eff (s_field_pt rfl Tryd.underlying29 rfl ti3 rfl rfl rfl) rfl)) ?_
                refine rg_put (d := 154) (v := .d (.fl (.int .i64 m.x.stage))) rfl (og rfl (op_load_pt rfl Tryd.underlying3 rfl rfl rfl rfl rfl)) ?_
                refine rg_put (d := 11) (v := .d (.fl (.int .i64 m.x.stage))) rfl (og rfl (op_assign rfl rfl rfl)) ?_
                refine rg_done rfl ?_
                refine a_block ?_
                refine a_loop (ι := Nat) (fun j => SS [(0, .d (.ag (eMv m))), (1, .d (.fl (.int .i64 day))), (2, .pt 101 0), (4, .d (.fl (.bool false))), (5, .pt 102 0), (6, .pt 103 0), (7, .d (.fl (.int .i64 ((adv m.law m.cal m.x day).2)))), (8, .d (.fl (.int .i64 ((due m.law m.cal (((adv m.law m.cal m.x day).1))).1)))), (9, .d (.fl (.bool ((due m.law m.cal (((adv m.law m.cal m.x day).1))).2)))), (19, .d (.fl (.bool ((!(fw m.law m.cal m.x)))))), (34, .d (.fl (.bool (((adv m.law m.cal m.x day).2 != 0))))), (49, .d (.fl (.bool (m.x.ap.state == 1)))), (121, .d (.fl (.bool ((((adv m.law m.cal m.x day).1).stage != 8))))), (124, .d (.fl (.bool ((((adv m.law m.cal m.x day).1).stage == 8))))), (10, .d (.fl (.int .i64 (m.x.owed + sumF m.law m.x.stage j)))), (11, .d (.fl (.int .i64 ((m.x.stage + (j : Int))))))] [(101, .bx 44 (eMv m)), (102, .bx 29 (eCs m.x)), (103, .bx 29 ((eCs ((adv m.law m.cal m.x day).1))))]) (fun j => (j : Int) ≤ (adv m.law m.cal m.x day).1.stage - m.x.stage) (fun j => ((adv m.law m.cal m.x day).1.stage - m.x.stage).toNat - j) 0 (by omega) (imp_forget rfl ⟨rfl, rfl, rfl, rfl, rfl, rfl, rfl, rfl, rfl, rfl, rfl, rfl, rfl, rfl, (ci (by show m.x.owed = m.x.owed + 0; omega)), (ci (by omega)), trivial⟩ ⟨rfl, rfl, rfl, trivial⟩) (fun j hok => ?_)
                have hj := hok
                have hsl := sumF_le hokx.c (s := m.x.stage) hop.1 j (by omega)
                have hsl2 : m.x.stage + (j : Int) < (adv m.law m.cal m.x day).1.stage → 0 ≤ ix m.law.fees (m.x.stage + (j : Int) - 1).toNat ∧ ix m.law.fees (m.x.stage + (j : Int) - 1).toNat ≤ 2147483648 := fun h => fee_ok hokx.c (by omega) (by omega)
                refine a_seq ?_
                refine a_rseq ?_
                refine rg_put (d := 155) (v := .d (.fl (.int .i64 ((m.x.stage + (j : Int)))))) rfl (og rfl (op_move rfl rfl rfl)) ?_
                refine rg_put (d := 156) (v := .pt 103 5) rfl (og rfl (of_eff (s_field_pt rfl Tryd.underlying29 rfl ti3 rfl rfl rfl) rfl)) ?_
                refine rg_put (d := 157) (v := .d (.fl (.int .i64 (((adv m.law m.cal m.x day).1).stage)))) rfl (og rfl (op_load_pt rfl Tryd.underlying3 rfl rfl rfl rfl rfl)) ?_
                refine rg_put (d := 158) (v := .d (.fl (.bool ((decide ((m.x.stage + (j : Int)) < ((adv m.law m.cal m.x day).1).stage)))))) rfl (og rfl (op_bin rfl rfl rfl (b_lss _ _ _ _) rfl)) ?_
                refine rg_done rfl ?_
                refine a_cond rfl (fun h49 => ?_) (fun h49 => ?_)
                · skip
                  have h50 := t_dec h49
                  refine a_skip ?_
                  show A _ _ _ _ _ _ _
                  refine a_seq ?_
                  refine a_block ?_
                  refine a_region ?_
                  have hsl3 := hsl2 (by omega)
                  refine rg_put (d := 161) (v := .d (.fl (.int .i64 (m.x.owed + sumF m.law m.x.stage j)))) rfl (og rfl (op_move rfl rfl rfl)) ?_
                  refine rg_put (d := 162) (v := .pt 101 0) rfl (og rfl (of_eff (s_field_pt rfl Tryd.underlying44 rfl ti24 rfl rfl rfl) rfl)) ?_
                  refine rg_put (d := 163) (v := .pt 101 1) rfl (og rfl (of_eff (s_field_pt rfl Tryd.underlying24 rfl ti22 rfl rfl rfl) rfl)) ?_
                  refine rg_put (d := 164) (v := .d (.sl 1 (List.map (rI .i64) m.law.fees))) rfl (og rfl (op_load_pt rfl Tryd.underlying22 rfl rfl rfl rfl rfl)) ?_
                  refine rg_put (d := 165) (v := .d (.fl (.int .i64 ((m.x.stage + (j : Int)))))) rfl (og rfl (op_move rfl rfl rfl)) ?_
                  refine rg_put (d := 166) (v := .d (.fl (.int .i64 (((m.x.stage + (j : Int)) - 1))))) rfl (og rfl (op_bin rfl rfl rfl (fun x y w => b_sub64 _ _ _ x y w (by omega)) rfl)) ?_
                  refine rg_put (d := 167) (v := .el ((rI .i64 ((ix m.law.fees (((m.x.stage + (j : Int)) - 1)).toNat))))) rfl (og rfl (s_index rfl Tryd.underlying22 ti3 rfl rfl (by omega) (row_atI (by omega) (by omega)) rfl)) ?_
                  refine rg_put (d := 168) (v := .d (.fl (.int .i64 ((ix m.law.fees (((m.x.stage + (j : Int)) - 1)).toNat))))) rfl (og rfl (op_load_el rfl Tryd.underlying3 rfl rfl rfl rfl)) ?_
                  refine rg_put (d := 169) (v := .d (.fl (.int .i64 (((m.x.owed + sumF m.law m.x.stage j) + (ix m.law.fees (((m.x.stage + (j : Int)) - 1)).toNat)))))) rfl (og rfl (op_bin rfl rfl rfl (fun x y w => b_add64 _ _ _ x y w (by omega)) rfl)) ?_
                  refine rg_put (d := 10) (v := .d (.fl (.int .i64 (((m.x.owed + sumF m.law m.x.stage j) + (ix m.law.fees (((m.x.stage + (j : Int)) - 1)).toNat)))))) rfl (og rfl (op_assign rfl rfl rfl)) ?_
                  refine rg_done rfl ?_
                  show A _ _ _ _ _ _ _
                  refine a_region ?_
                  refine rg_put (d := 159) (v := .d (.fl (.int .i64 ((m.x.stage + (j : Int)))))) rfl (og rfl (op_move rfl rfl rfl)) ?_
                  refine rg_put (d := 160) (v := .d (.fl (.int .i64 (((m.x.stage + (j : Int)) + 1))))) rfl (og rfl (op_bin rfl rfl rfl (fun x y w => b_add64 _ _ _ x y w (by omega)) rfl)) ?_
                  refine rg_put (d := 11) (v := .d (.fl (.int .i64 (((m.x.stage + (j : Int)) + 1))))) rfl (og rfl (op_assign rfl rfl rfl)) ?_
                  refine rg_done rfl ?_
                  show ∃ i, _ ∧ _ ∧ Imp _ _ _ _ _
                  refine ⟨j + 1, (by omega), by omega, imp_forget rfl ⟨rfl, rfl, rfl, rfl, rfl, rfl, rfl, rfl, rfl, rfl, rfl, rfl, rfl, rfl, (ci (by rw [sumF_succ]; omega)), (ci (by omega)), trivial⟩ ⟨rfl, rfl, rfl, trivial⟩⟩
                · skip
                  have h51 := f_dec h49
                  refine a_exit ?_
                  show A _ _ _ _ _ _ _
                  refine a_seq ?_
                  refine a_rseq ?_
                  refine rg_put (d := 170) (v := .d (.fl (.int .i64 (m.x.owed + sumF m.law m.x.stage j)))) rfl (og rfl (op_move rfl rfl rfl)) ?_
                  refine rg_put (d := 171) (v := .d (.fl (.bool ((decide (1125899906842624 < (m.x.owed + sumF m.law m.x.stage j))))))) rfl (og rfl (op_bin rfl rfl rfl (b_gtr _ _ _ _) rfl)) ?_
                  refine rg_done rfl ?_
                  refine a_cond rfl (fun h52 => ?_) (fun h52 => ?_)
                  · skip
                    have h53 := t_dec h52
                    refine a_region ?_
                    refine rg_put (d := 10) (v := .d (.fl (.int .i64 1125899906842624))) rfl (og rfl (op_assign rfl rfl rfl)) ?_
                    refine rg_done rfl ?_
                    show A _ _ _ _ _ _ _
                    refine a_rseq ?_
                    have hfin : ((adv m.law m.cal m.x day).1.owed == 1125899906842624) = true := by
                      have h8 : (adv m.law m.cal m.x day).1.stage ≠ 8 := by omega
                      rcases r7 with ⟨q, _⟩ | ⟨q1, q2, q3⟩
                      · exact absurd q h8
                      · rw [q3, show ((adv m.law m.cal m.x day).1.stage - m.x.stage).toNat = j by omega]; simp; omega
                    refine rg_put (d := 172) (v := .pt 103 6) rfl (og rfl (of_eff (s_field_pt rfl Tryd.underlying29 rfl ti3 rfl rfl rfl) rfl)) ?_
                    refine rg_put (d := 173) (v := .d (.fl (.int .i64 (((adv m.law m.cal m.x day).1).owed)))) rfl (og rfl (op_load_pt rfl Tryd.underlying3 rfl rfl rfl rfl rfl)) ?_
                    refine rg_put (d := 174) (v := .d (.fl (.int .i64 1125899906842624))) rfl (og rfl (op_move rfl rfl rfl)) ?_
                    refine rg_put (d := 175) (v := .d (.fl (.bool ((((adv m.law m.cal m.x day).1).owed == 1125899906842624))))) rfl (og rfl (op_bin rfl rfl rfl (b_eql _ _ _ _) rfl)) ?_
                    refine rg_put (d := 176) (v := .d (.fl (.bool ((((adv m.law m.cal m.x day).1).owed == 1125899906842624))))) rfl (og rfl (op_move rfl rfl rfl)) ?_
                    refine rg_put (d := 177) (v := .d (.fl (.bool true))) rfl (oy rfl rfl rfl hfin (op_call rfl Tryd.func11 nm11 rfl .nil awake11 rfl)) ?_
                    refine rg_put (d := 178) (v := .d (.fl (.bool true))) rfl (og rfl (op_pick rfl rfl (by rw [hfin]; rfl) rfl)) ?_
                    refine rg_put (d := 4) (v := .d (.fl (.bool true))) rfl (og rfl (op_assign rfl rfl rfl)) ?_
                    refine rg_done rfl ?_
                    refine a_ret ?_
                    show ∃ ds, ResL _ _ _ ds ∧ RV.of ds = _
                    refine ⟨[.fl (.bool true)], (.cons (.tmp rfl (.d _)) .nil), ?_⟩
                    rfl
                  · skip
                    have h54 := f_dec h52
                    refine a_skip ?_
                    show A _ _ _ _ _ _ _
                    refine a_rseq ?_
                    have hfin : ((adv m.law m.cal m.x day).1.owed == (m.x.owed + sumF m.law m.x.stage j)) = true := by
                      have h8 : (adv m.law m.cal m.x day).1.stage ≠ 8 := by omega
                      rcases r7 with ⟨q, _⟩ | ⟨q1, q2, q3⟩
                      · exact absurd q h8
                      · rw [q3, show ((adv m.law m.cal m.x day).1.stage - m.x.stage).toNat = j by omega]; simp; omega
                    refine rg_put (d := 172) (v := .pt 103 6) rfl (og rfl (of_eff (s_field_pt rfl Tryd.underlying29 rfl ti3 rfl rfl rfl) rfl)) ?_
                    refine rg_put (d := 173) (v := .d (.fl (.int .i64 (((adv m.law m.cal m.x day).1).owed)))) rfl (og rfl (op_load_pt rfl Tryd.underlying3 rfl rfl rfl rfl rfl)) ?_
                    refine rg_put (d := 174) (v := .d (.fl (.int .i64 (m.x.owed + sumF m.law m.x.stage j)))) rfl (og rfl (op_move rfl rfl rfl)) ?_
                    refine rg_put (d := 175) (v := .d (.fl (.bool ((((adv m.law m.cal m.x day).1).owed == (m.x.owed + sumF m.law m.x.stage j)))))) rfl (og rfl (op_bin rfl rfl rfl (b_eql _ _ _ _) rfl)) ?_
                    refine rg_put (d := 176) (v := .d (.fl (.bool ((((adv m.law m.cal m.x day).1).owed == (m.x.owed + sumF m.law m.x.stage j)))))) rfl (og rfl (op_move rfl rfl rfl)) ?_
                    refine rg_put (d := 177) (v := .d (.fl (.bool true))) rfl (oy rfl rfl rfl hfin (op_call rfl Tryd.func11 nm11 rfl .nil awake11 rfl)) ?_
                    refine rg_put (d := 178) (v := .d (.fl (.bool true))) rfl (og rfl (op_pick rfl rfl (by rw [hfin]; rfl) rfl)) ?_
                    refine rg_put (d := 4) (v := .d (.fl (.bool true))) rfl (og rfl (op_assign rfl rfl rfl)) ?_
                    refine rg_done rfl ?_
                    refine a_ret ?_
                    show ∃ ds, ResL _ _ _ ds ∧ RV.of ds = _
                    refine ⟨[.fl (.bool true)], (.cons (.tmp rfl (.d _)) .nil), ?_⟩
                    rfl
      · skip
        have h55 := t_not h7
        have hsame : m.x = (adv m.law m.cal m.x day).1 := by
          rcases hae with ⟨_, e⟩ | ⟨_, e⟩
          · exact e.symm
          · rw [e, itR_no (by have h0 := h55; simp [opn] at h0; omega)]
        refine rg_put (d := 45) (v := .d (.fl undef)) rfl (on rfl rfl rfl h7) ?_
        refine rg_put (d := 46) (v := .d (.fl undef)) rfl (on rfl rfl rfl h7) ?_
        refine rg_put (d := 47) (v := .d (.fl undef)) rfl (on rfl rfl rfl h7) ?_
        refine rg_put (d := 48) (v := .d (.fl undef)) rfl (on rfl rfl rfl h7) ?_
        refine rg_put (d := 49) (v := .d (.fl (.bool true))) rfl (og rfl (op_pick rfl rfl (by rw [h7]; rfl) rfl)) ?_
        refine rg_done rfl ?_
        refine a_condK rfl rfl ?_
        refine a_rseq ?_
        refine rg_put (d := 50) (v := .d (.ag (eCs m.x))) rfl (og rfl (of_eff (s_load_pts rfl Tryd.underlying29 rfl ti29 rfl rfl rfl rfl) rfl)) ?_
        refine rg_put (d := 51) (v := .d (.ag (eCs (((adv m.law m.cal m.x day).1))))) rfl (og rfl (of_eff (s_load_pts rfl Tryd.underlying29 rfl ti29 rfl rfl rfl rfl) rfl)) ?_
        refine rg_put (d := 52) (v := .d (.fl (.bool true))) rfl (og rfl (op_call rfl Tryd.func16 nm16 rfl (.cons rfl (.d _) (.cons rfl (.d _) .nil)) (same_eq hsame) rfl)) ?_
        refine rg_put (d := 53) (v := .d (.fl (.bool true))) rfl (og rfl (op_move rfl rfl rfl)) ?_
        refine rg_put (d := 54) (v := .d (.fl (.bool true))) rfl (oy rfl rfl rfl rfl (op_call rfl Tryd.func11 nm11 rfl .nil awake11 rfl)) ?_
        refine rg_put (d := 55) (v := .d (.fl (.bool true))) rfl (og rfl (op_pick rfl rfl rfl rfl)) ?_
        refine rg_put (d := 4) (v := .d (.fl (.bool true))) rfl (og rfl (op_assign rfl rfl rfl)) ?_
        refine rg_done rfl ?_
        refine a_ret ?_
        show ∃ ds, ResL _ _ _ ds ∧ RV.of ds = _
        refine ⟨[.fl (.bool true)], (.cons (.tmp rfl (.d _)) .nil), ?_⟩
        rfl
end Go.Proofs.YtadaenpkmkjkjaaDoor.Wk
