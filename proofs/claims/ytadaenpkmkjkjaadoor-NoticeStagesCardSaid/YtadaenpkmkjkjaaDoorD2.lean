/- The laws of advancing twice and of whole payments. Condition: a payment that is a number of the machine. -/
import Derived.Test.YtadaenpkmkjkjaaDoorD1
set_option linter.unusedSimpArgs false
set_option linter.unusedVariables false
namespace Go.Proofs.YtadaenpkmkjkjaaDoor.Wk
open Go Go.RowKit Go.Proofs.YtadaenpkmkjkjaaDoor.Av
set_option maxHeartbeats 4000000 in
set_option maxRecDepth 100000 in
theorem law7 (m : Mv) (a b : Int) : Ctr Tryd.prog 7 [.ag (eMv m), .fl (.int .i64 a), .fl (.int .i64 b)] (.d (.fl (.bool true))) := by
  refine ctr (n := 73) (rs := #[.tmp 6]) (L := [(0, .d (.ag (eMv m))), (1, .d (.fl (.int .i64 a))), (2, .d (.fl (.int .i64 b)))]) Tryd.func7 rfl rfl rfl rfl rfl (fun w0 U0 => ?_)
  refine a_rseq ?_
  refine rg_nam (d := 3) (v := .pt 101 0) (m := 101) (nw := [(101, .bx 44 (eMv m))]) rfl (og rfl (of_eff (op_box 101 rfl rfl rfl rfl) rfl)) rfl ?_
  refine rg_put (d := 6) (v := .d (.fl (.bool false))) rfl (og rfl (op_assign rfl rfl rfl)) ?_
  refine rg_done rfl ?_
  refine a_seq ?_
  refine a_rseq ?_
  refine rg_put (d := 13) (v := .pt 101 0) rfl (og rfl (of_eff (s_field_pt rfl Tryd.underlying44 rfl ti24 rfl rfl rfl) rfl)) ?_
  refine rg_put (d := 14) (v := .d (.ag (eLw m.law))) rfl (og rfl (of_eff (s_load_pts rfl Tryd.underlying24 rfl ti24 rfl rfl rfl rfl) rfl)) ?_
  refine rg_put (d := 15) (v := .pt 101 3) rfl (og rfl (of_eff (s_field_pt rfl Tryd.underlying44 rfl ti22 rfl rfl rfl) rfl)) ?_
  refine rg_put (d := 16) (v := .d (.sl 1 (List.map (rI .i64) m.cal))) rfl (og rfl (op_load_pt rfl Tryd.underlying22 rfl rfl rfl rfl rfl)) ?_
  refine rg_put (d := 17) (v := .pt 101 4) rfl (og rfl (of_eff (s_field_pt rfl Tryd.underlying44 rfl ti29 rfl rfl rfl) rfl)) ?_
  refine rg_put (d := 18) (v := .d (.ag (eCs m.x))) rfl (og rfl (of_eff (s_load_pts rfl Tryd.underlying29 rfl ti29 rfl rfl rfl rfl) rfl)) ?_
  refine rg_put (d := 19) (v := .d (.fl (.bool (fw m.law m.cal m.x)))) rfl (og rfl (op_call rfl Tryd.func10 nm10 rfl (.cons rfl (.d _) (.cons rfl (.d _) (.cons rfl (.d _) .nil))) (fw10 m.law m.cal m.x) rfl)) ?_
  refine rg_put (d := 20) (v := .d (.fl (.bool ((!(fw m.law m.cal m.x)))))) rfl (og rfl (op_un rfl rfl (u_not _) rfl)) ?_
  refine rg_put (d := 21) (v := .d (.fl (.bool ((!(fw m.law m.cal m.x)))))) rfl (og rfl (op_move rfl rfl rfl)) ?_
  rcases fot ((!(fw m.law m.cal m.x))) with h1 | h1
  · skip
    have h2 := f_not h1
    have hcl := fw_t h2
    refine rg_put (d := 22) (v := .d (.fl (.int .i64 a))) rfl (oy rfl rfl rfl h1 (op_move rfl rfl rfl)) ?_
    refine rg_put (d := 23) (v := .d (.fl (.int .i64 b))) rfl (oy rfl rfl rfl h1 (op_move rfl rfl rfl)) ?_
    refine rg_put (d := 24) (v := .d (.fl (.bool ((decide (b < a)))))) rfl (oy rfl rfl rfl h1 (op_bin rfl rfl rfl (b_gtr _ _ _ _) rfl)) ?_
    refine rg_put (d := 25) (v := .d (.fl (.bool ((decide (b < a)))))) rfl (og rfl (op_pick rfl rfl (by rw [h1]; rfl) rfl)) ?_
    refine rg_done rfl ?_
    refine a_cond rfl (fun h3 => ?_) (fun h3 => ?_)
    · skip
      have h4 := t_dec h3
      refine a_rseq ?_
      refine rg_put (d := 26) (v := .d (.fl (.bool true))) rfl (og rfl (op_call rfl Tryd.func11 nm11 rfl .nil awake11 rfl)) ?_
      refine rg_put (d := 6) (v := .d (.fl (.bool true))) rfl (og rfl (op_assign rfl rfl rfl)) ?_
      refine rg_done rfl ?_
      refine a_ret ?_
      show ∃ ds, ResL _ _ _ ds ∧ RV.of ds = _
      refine ⟨[.fl (.bool true)], (.cons (.tmp rfl (.d _)) .nil), ?_⟩
      rfl
    · skip
      have h5 := f_dec h3
      refine a_skip ?_
      show A _ _ _ _ _ _ _
      refine a_rseq ?_
      refine rg_put (d := 28) (v := .pt 101 0) rfl (og rfl (of_eff (s_field_pt rfl Tryd.underlying44 rfl ti24 rfl rfl rfl) rfl)) ?_
      refine rg_put (d := 29) (v := .d (.ag (eLw m.law))) rfl (og rfl (of_eff (s_load_pts rfl Tryd.underlying24 rfl ti24 rfl rfl rfl rfl) rfl)) ?_
      refine rg_put (d := 30) (v := .pt 101 3) rfl (og rfl (of_eff (s_field_pt rfl Tryd.underlying44 rfl ti22 rfl rfl rfl) rfl)) ?_
      refine rg_put (d := 31) (v := .d (.sl 1 (List.map (rI .i64) m.cal))) rfl (og rfl (op_load_pt rfl Tryd.underlying22 rfl rfl rfl rfl rfl)) ?_
      refine rg_put (d := 32) (v := .pt 101 4) rfl (og rfl (of_eff (s_field_pt rfl Tryd.underlying44 rfl ti29 rfl rfl rfl) rfl)) ?_
      refine rg_put (d := 33) (v := .d (.ag (eCs m.x))) rfl (og rfl (of_eff (s_load_pts rfl Tryd.underlying29 rfl ti29 rfl rfl rfl rfl) rfl)) ?_
      refine rg_put (d := 34) (v := .d (.fl (.int .i64 a))) rfl (og rfl (op_move rfl rfl rfl)) ?_
      refine rg_put (d := 35) (v := .tu [.ag (eCs ((adv m.law m.cal m.x a).1)), .fl (.int .i64 ((adv m.law m.cal m.x a).2))]) rfl (og rfl (op_call rfl Tryd.func17 nm17 rfl (.cons rfl (.d _) (.cons rfl (.d _) (.cons rfl (.d _) (.cons rfl (.d _) .nil)))) (adv17 m.law m.cal m.x a (by omega)) rfl)) ?_
      refine rg_put (d := 27) (v := .tu [.ag (eCs ((adv m.law m.cal m.x a).1)), .fl (.int .i64 ((adv m.law m.cal m.x a).2))]) rfl (og rfl (op_move rfl rfl rfl)) ?_
      refine rg_put (d := 36) (v := .d (.ag (eCs ((adv m.law m.cal m.x a).1)))) rfl (og rfl (op_extract rfl rfl rfl rfl)) ?_
      refine rg_put (d := 37) (v := .d (.fl (.int .i64 ((adv m.law m.cal m.x a).2)))) rfl (og rfl (op_extract rfl rfl rfl rfl)) ?_
      refine rg_nam (d := 7) (v := .pt 102 0) (m := 102) (nw := [(102, .bx 29 ([.fl (.string (⟨#[]⟩)), .fl (.string (⟨#[]⟩)), .fl (.string (⟨#[]⟩)), .fl (.int .i64 0), .fl (.int .i64 0), .fl (.int .i64 0), .fl (.int .i64 0), .fl (.int .i64 0), .fl (.int .i64 0), .fl (.int .i64 0), .fl (.int .i64 0), .fl (.int .i64 0)]))]) rfl (og rfl (of_eff (s_alloc 102 rfl ti29 (by kernel_rfl) rfl) rfl)) rfl ?_
      refine rg_sto (nw := [(102, .bx 29 ((eCs ((adv m.law m.cal m.x a).1))))]) rfl (og rfl (of_eff (s_store rfl rfl ti29 rfl rfl rfl rfl rfl rfl) rfl)) ?_
      refine rg_put (d := 8) (v := .d (.fl (.int .i64 ((adv m.law m.cal m.x a).2)))) rfl (og rfl (op_assign rfl rfl rfl)) ?_
      refine rg_done rfl ?_
      refine a_seq ?_
      refine a_rseq ?_
      refine rg_put (d := 38) (v := .d (.fl (.int .i64 ((adv m.law m.cal m.x a).2)))) rfl (og rfl (op_move rfl rfl rfl)) ?_
      refine rg_put (d := 39) (v := .d (.fl (.bool (((adv m.law m.cal m.x a).2 != 0))))) rfl (og rfl (op_bin rfl rfl rfl (b_neq _ _ _ _) rfl)) ?_
      refine rg_done rfl ?_
      refine a_cond rfl (fun h6 => ?_) (fun h6 => ?_)
      · skip
        have h7 := t_bne h6
        refine a_rseq ?_
        refine rg_put (d := 40) (v := .d (.fl (.bool true))) rfl (og rfl (op_call rfl Tryd.func11 nm11 rfl .nil awake11 rfl)) ?_
        refine rg_put (d := 6) (v := .d (.fl (.bool true))) rfl (og rfl (op_assign rfl rfl rfl)) ?_
        refine rg_done rfl ?_
        refine a_ret ?_
        show ∃ ds, ResL _ _ _ ds ∧ RV.of ds = _
        refine ⟨[.fl (.bool true)], (.cons (.tmp rfl (.d _)) .nil), ?_⟩
        rfl
      · skip
        have h8 := f_bne h6
        refine a_skip ?_
        show A _ _ _ _ _ _ _
        refine a_rseq ?_
        refine rg_put (d := 42) (v := .pt 101 0) rfl (og rfl (of_eff (s_field_pt rfl Tryd.underlying44 rfl ti24 rfl rfl rfl) rfl)) ?_
        refine rg_put (d := 43) (v := .d (.ag (eLw m.law))) rfl (og rfl (of_eff (s_load_pts rfl Tryd.underlying24 rfl ti24 rfl rfl rfl rfl) rfl)) ?_
        refine rg_put (d := 44) (v := .pt 101 3) rfl (og rfl (of_eff (s_field_pt rfl Tryd.underlying44 rfl ti22 rfl rfl rfl) rfl)) ?_
        refine rg_put (d := 45) (v := .d (.sl 1 (List.map (rI .i64) m.cal))) rfl (og rfl (op_load_pt rfl Tryd.underlying22 rfl rfl rfl rfl rfl)) ?_
        refine rg_put (d := 46) (v := .d (.ag (eCs (((adv m.law m.cal m.x a).1))))) rfl (og rfl (of_eff (s_load_pts rfl Tryd.underlying29 rfl ti29 rfl rfl rfl rfl) rfl)) ?_
        refine rg_put (d := 47) (v := .d (.fl (.int .i64 b))) rfl (og rfl (op_move rfl rfl rfl)) ?_
        refine rg_put (d := 48) (v := .tu [.ag (eCs ((adv m.law m.cal m.x b).1)), .fl (.int .i64 ((adv m.law m.cal m.x b).2))]) rfl (og rfl (op_call rfl Tryd.func17 nm17 rfl (.cons rfl (.d _) (.cons rfl (.d _) (.cons rfl (.d _) (.cons rfl (.d _) .nil)))) ((by have hq := adv17 m.law m.cal (adv m.law m.cal m.x a).1 b (by omega); rwa [adv_twice (f_bne h6) (by omega)] at hq)) rfl)) ?_
        refine rg_put (d := 41) (v := .tu [.ag (eCs ((adv m.law m.cal m.x b).1)), .fl (.int .i64 ((adv m.law m.cal m.x b).2))]) rfl (og rfl (op_move rfl rfl rfl)) ?_
        refine rg_put (d := 49) (v := .d (.ag (eCs ((adv m.law m.cal m.x b).1)))) rfl (og rfl (op_extract rfl rfl rfl rfl)) ?_
        refine rg_put (d := 50) (v := .d (.fl (.int .i64 ((adv m.law m.cal m.x b).2)))) rfl (og rfl (op_extract rfl rfl rfl rfl)) ?_
        refine rg_nam (d := 9) (v := .pt 103 0) (m := 103) (nw := [(103, .bx 29 ([.fl (.string (⟨#[]⟩)), .fl (.string (⟨#[]⟩)), .fl (.string (⟨#[]⟩)), .fl (.int .i64 0), .fl (.int .i64 0), .fl (.int .i64 0), .fl (.int .i64 0), .fl (.int .i64 0), .fl (.int .i64 0), .fl (.int .i64 0), .fl (.int .i64 0), .fl (.int .i64 0)]))]) rfl (og rfl (of_eff (s_alloc 103 rfl ti29 (by kernel_rfl) rfl) rfl)) rfl ?_
        refine rg_sto (nw := [(103, .bx 29 ((eCs ((adv m.law m.cal m.x b).1))))]) rfl (og rfl (of_eff (s_store rfl rfl ti29 rfl rfl rfl rfl rfl rfl) rfl)) ?_
        refine rg_put (d := 10) (v := .d (.fl (.int .i64 ((adv m.law m.cal m.x b).2)))) rfl (og rfl (op_assign rfl rfl rfl)) ?_
        refine rg_done rfl ?_
        refine a_rseq ?_
        refine rg_put (d := 52) (v := .pt 101 0) rfl (og rfl (of_eff (s_field_pt rfl Tryd.underlying44 rfl ti24 rfl rfl rfl) rfl)) ?_
        refine rg_put (d := 53) (v := .d (.ag (eLw m.law))) rfl (og rfl (of_eff (s_load_pts rfl Tryd.underlying24 rfl ti24 rfl rfl rfl rfl) rfl)) ?_
        refine rg_put (d := 54) (v := .pt 101 3) rfl (og rfl (of_eff (s_field_pt rfl Tryd.underlying44 rfl ti22 rfl rfl rfl) rfl)) ?_
        refine rg_put (d := 55) (v := .d (.sl 1 (List.map (rI .i64) m.cal))) rfl (og rfl (op_load_pt rfl Tryd.underlying22 rfl rfl rfl rfl rfl)) ?_
        refine rg_put (d := 56) (v := .pt 101 4) rfl (og rfl (of_eff (s_field_pt rfl Tryd.underlying44 rfl ti29 rfl rfl rfl) rfl)) ?_
        refine rg_put (d := 57) (v := .d (.ag (eCs m.x))) rfl (og rfl (of_eff (s_load_pts rfl Tryd.underlying29 rfl ti29 rfl rfl rfl rfl) rfl)) ?_
        refine rg_put (d := 58) (v := .d (.fl (.int .i64 b))) rfl (og rfl (op_move rfl rfl rfl)) ?_
        refine rg_put (d := 59) (v := .tu [.ag (eCs ((adv m.law m.cal m.x b).1)), .fl (.int .i64 ((adv m.law m.cal m.x b).2))]) rfl (og rfl (op_call rfl Tryd.func17 nm17 rfl (.cons rfl (.d _) (.cons rfl (.d _) (.cons rfl (.d _) (.cons rfl (.d _) .nil)))) (adv17 m.law m.cal m.x b (by omega)) rfl)) ?_
        refine rg_put (d := 51) (v := .tu [.ag (eCs ((adv m.law m.cal m.x b).1)), .fl (.int .i64 ((adv m.law m.cal m.x b).2))]) rfl (og rfl (op_move rfl rfl rfl)) ?_
        refine rg_put (d := 60) (v := .d (.ag (eCs ((adv m.law m.cal m.x b).1)))) rfl (og rfl (op_extract rfl rfl rfl rfl)) ?_
        refine rg_put (d := 61) (v := .d (.fl (.int .i64 ((adv m.law m.cal m.x b).2)))) rfl (og rfl (op_extract rfl rfl rfl rfl)) ?_
        refine rg_nam (d := 11) (v := .pt 104 0) (m := 104) (nw := [(104, .bx 29 ([.fl (.string (⟨#[]⟩)), .fl (.string (⟨#[]⟩)), .fl (.string (⟨#[]⟩)), .fl (.int .i64 0), .fl (.int .i64 0), .fl (.int .i64 0), .fl (.int .i64 0), .fl (.int .i64 0), .fl (.int .i64 0), .fl (.int .i64 0), .fl (.int .i64 0), .fl (.int .i64 0)]))]) rfl (og rfl (of_eff (s_alloc 104 rfl ti29 (by kernel_rfl) rfl) rfl)) rfl ?_
        refine rg_sto (nw := [(104, .bx 29 ((eCs ((adv m.law m.cal m.x b).1))))]) rfl (og rfl (of_eff (s_store rfl rfl ti29 rfl rfl rfl rfl rfl rfl) rfl)) ?_
        refine rg_put (d := 12) (v := .d (.fl (.int .i64 ((adv m.law m.cal m.x b).2)))) rfl (og rfl (op_assign rfl rfl rfl)) ?_
        refine rg_done rfl ?_
        refine a_rseq ?_
        refine rg_put (d := 62) (v := .d (.fl (.int .i64 ((adv m.law m.cal m.x b).2)))) rfl (og rfl (op_move rfl rfl rfl)) ?_
        refine rg_put (d := 63) (v := .d (.fl (.int .i64 ((adv m.law m.cal m.x b).2)))) rfl (og rfl (op_move rfl rfl rfl)) ?_
        refine rg_put (d := 64) (v := .d (.fl (.bool (((adv m.law m.cal m.x b).2 == (adv m.law m.cal m.x b).2))))) rfl (og rfl (op_bin rfl rfl rfl (b_eql _ _ _ _) rfl)) ?_
        refine rg_put (d := 65) (v := .d (.fl (.bool (((adv m.law m.cal m.x b).2 == (adv m.law m.cal m.x b).2))))) rfl (og rfl (op_move rfl rfl rfl)) ?_
        refine rg_put (d := 66) (v := .d (.ag (eCs (((adv m.law m.cal m.x b).1))))) rfl (oy rfl rfl rfl (eq_self_b _) (of_eff (s_load_pts rfl Tryd.underlying29 rfl ti29 rfl rfl rfl rfl) rfl)) ?_
        refine rg_put (d := 67) (v := .d (.ag (eCs (((adv m.law m.cal m.x b).1))))) rfl (oy rfl rfl rfl (eq_self_b _) (of_eff (s_load_pts rfl Tryd.underlying29 rfl ti29 rfl rfl rfl rfl) rfl)) ?_
        refine rg_put (d := 68) (v := .d (.fl (.bool true))) rfl (oy rfl rfl rfl (eq_self_b _) (op_call rfl Tryd.func16 nm16 rfl (.cons rfl (.d _) (.cons rfl (.d _) .nil)) (same_self (((adv m.law m.cal m.x b).1))) rfl)) ?_
        refine rg_put (d := 69) (v := .d (.fl (.bool true))) rfl (og rfl (op_pick rfl rfl (by rw [(eq_self_b _)]; rfl) rfl)) ?_
        refine rg_put (d := 70) (v := .d (.fl (.bool true))) rfl (og rfl (op_move rfl rfl rfl)) ?_
        refine rg_put (d := 71) (v := .d (.fl (.bool true))) rfl (oy rfl rfl rfl rfl (op_call rfl Tryd.func11 nm11 rfl .nil awake11 rfl)) ?_
        refine rg_put (d := 72) (v := .d (.fl (.bool true))) rfl (og rfl (op_pick rfl rfl rfl rfl)) ?_
        refine rg_put (d := 6) (v := .d (.fl (.bool true))) rfl (og rfl (op_assign rfl rfl rfl)) ?_
        refine rg_done rfl ?_
        refine a_ret ?_
        show ∃ ds, ResL _ _ _ ds ∧ RV.of ds = _
        refine ⟨[.fl (.bool true)], (.cons (.tmp rfl (.d _)) .nil), ?_⟩
        rfl
  · skip
    have h9 := t_not h1
    refine rg_put (d := 22) (v := .d (.fl undef)) rfl (on rfl rfl rfl h1) ?_
    refine rg_put (d := 23) (v := .d (.fl undef)) rfl (on rfl rfl rfl h1) ?_
    refine rg_put (d := 24) (v := .d (.fl undef)) rfl (on rfl rfl rfl h1) ?_
    refine rg_put (d := 25) (v := .d (.fl (.bool true))) rfl (og rfl (op_pick rfl rfl (by rw [h1]; rfl) rfl)) ?_
    refine rg_done rfl ?_
    refine a_condK rfl rfl ?_
    refine a_rseq ?_
    refine rg_put (d := 26) (v := .d (.fl (.bool true))) rfl (og rfl (op_call rfl Tryd.func11 nm11 rfl .nil awake11 rfl)) ?_
    refine rg_put (d := 6) (v := .d (.fl (.bool true))) rfl (og rfl (op_assign rfl rfl rfl)) ?_
    refine rg_done rfl ?_
    refine a_ret ?_
    show ∃ ds, ResL _ _ _ ds ∧ RV.of ds = _
    refine ⟨[.fl (.bool true)], (.cons (.tmp rfl (.d _)) .nil), ?_⟩
    rfl
set_option maxHeartbeats 4000000 in
set_option maxRecDepth 100000 in
theorem law9 (x : Cs) (c : Int) (hc1 : -9223372036854775808 ≤ c) (hc2 : c ≤ 9223372036854775807) : Ctr Tryd.prog 9 [.ag (eCs x), .fl (.int .i64 c)] (.d (.fl (.bool true))) := by
  refine ctr (n := 98) (rs := #[.tmp 4]) (L := [(0, .d (.ag (eCs x))), (1, .d (.fl (.int .i64 c)))]) Tryd.func9 rfl rfl rfl rfl rfl (fun w0 U0 => ?_)
  refine a_rseq ?_
  refine rg_nam (d := 2) (v := .pt 101 0) (m := 101) (nw := [(101, .bx 29 (eCs x))]) rfl (og rfl (of_eff (op_box 101 rfl rfl rfl rfl) rfl)) rfl ?_
  refine rg_put (d := 4) (v := .d (.fl (.bool false))) rfl (og rfl (op_assign rfl rfl rfl)) ?_
  refine rg_done rfl ?_
  refine a_seq ?_
  refine a_rseq ?_
  refine rg_put (d := 8) (v := .d (.ag [.fl (.slice none 0 0), .fl (.slice none 0 0), .fl (.int .i64 0)])) rfl (og rfl (of_eff (op_build rfl Tryd.underlying24 ti24 rfl (by kernel_rfl) (by kernel_rfl) (pl := #[(0, 1), (1, 1), (2, 1)]) (by kernel_rfl) .nil rfl) rfl)) ?_
  refine rg_put (d := 9) (v := .d (.ag (eCs x))) rfl (og rfl (of_eff (s_load_pts rfl Tryd.underlying29 rfl ti29 rfl rfl rfl rfl) rfl)) ?_
  refine rg_put (d := 10) (v := .d (.fl (.bool ((fw (Lw.mk [] [] 0) [] x))))) rfl (og rfl (op_call rfl Tryd.func10 nm10 rfl (.cons rfl (.cv (Cv.ag (xs := [.fl (.slice none 0 0), .fl (.slice none 0 0), .fl (.int .i64 0)]) (ys := [.sl 1 (List.map (rI .i64) []), .sl 1 (List.map (rI .i64) []), .fl (.int .i64 0)]) ⟨Cv.nil _, Cv.nil _, Cv.refl _, trivial⟩)) (.cons rfl (.cv (Cv.nil _)) (.cons rfl (.d _) .nil))) (fw10 (Lw.mk [] [] 0) [] x) rfl)) ?_
  refine rg_put (d := 11) (v := .d (.fl (.bool ((!((fw (Lw.mk [] [] 0) [] x))))))) rfl (og rfl (op_un rfl rfl (u_not _) rfl)) ?_
  refine rg_done rfl ?_
  refine a_cond rfl (fun h1 => ?_) (fun h1 => ?_)
  · skip
    have h2 := t_not h1
    refine a_rseq ?_
    refine rg_put (d := 12) (v := .d (.fl (.bool true))) rfl (og rfl (op_call rfl Tryd.func11 nm11 rfl .nil awake11 rfl)) ?_
    refine rg_put (d := 4) (v := .d (.fl (.bool true))) rfl (og rfl (op_assign rfl rfl rfl)) ?_
    refine rg_done rfl ?_
    refine a_ret ?_
    show ∃ ds, ResL _ _ _ ds ∧ RV.of ds = _
    refine ⟨[.fl (.bool true)], (.cons (.tmp rfl (.d _)) .nil), ?_⟩
    rfl
  · skip
    have h3 := f_not h1
    have hcl := fw_t h3
    refine a_skip ?_
    show A _ _ _ _ _ _ _
    refine a_rseq ?_
    refine rg_put (d := 14) (v := .d (.ag (eCs x))) rfl (og rfl (of_eff (s_load_pts rfl Tryd.underlying29 rfl ti29 rfl rfl rfl rfl) rfl)) ?_
    refine rg_put (d := 15) (v := .d (.fl (.int .i64 c))) rfl (og rfl (op_move rfl rfl rfl)) ?_
    refine rg_put (d := 16) (v := .tu [.ag (eCs ((pay x c).1.1)), .fl (.int .i64 ((pay x c).1.2)), .fl (.int .i64 ((pay x c).2))]) rfl (og rfl (op_call rfl Tryd.func23 nm23 rfl (.cons rfl (.d _) (.cons rfl (.d _) .nil)) (pay23 x c hc1 hc2) rfl)) ?_
    refine rg_put (d := 13) (v := .tu [.ag (eCs ((pay x c).1.1)), .fl (.int .i64 ((pay x c).1.2)), .fl (.int .i64 ((pay x c).2))]) rfl (og rfl (op_move rfl rfl rfl)) ?_
    refine rg_put (d := 17) (v := .d (.ag (eCs ((pay x c).1.1)))) rfl (og rfl (op_extract rfl rfl rfl rfl)) ?_
    refine rg_put (d := 18) (v := .d (.fl (.int .i64 ((pay x c).1.2)))) rfl (og rfl (op_extract rfl rfl rfl rfl)) ?_
    refine rg_put (d := 19) (v := .d (.fl (.int .i64 ((pay x c).2)))) rfl (og rfl (op_extract rfl rfl rfl rfl)) ?_
    refine rg_nam (d := 5) (v := .pt 102 0) (m := 102) (nw := [(102, .bx 29 ([.fl (.string (⟨#[]⟩)), .fl (.string (⟨#[]⟩)), .fl (.string (⟨#[]⟩)), .fl (.int .i64 0), .fl (.int .i64 0), .fl (.int .i64 0), .fl (.int .i64 0), .fl (.int .i64 0), .fl (.int .i64 0), .fl (.int .i64 0), .fl (.int .i64 0), .fl (.int .i64 0)]))]) rfl (og rfl (of_eff (s_alloc 102 rfl ti29 (by kernel_rfl) rfl) rfl)) rfl ?_
    refine rg_sto (nw := [(102, .bx 29 ((eCs ((pay x c).1.1))))]) rfl (og rfl (of_eff (s_store rfl rfl ti29 rfl rfl rfl rfl rfl rfl) rfl)) ?_
    refine rg_put (d := 6) (v := .d (.fl (.int .i64 ((pay x c).1.2)))) rfl (og rfl (op_assign rfl rfl rfl)) ?_
    refine rg_put (d := 7) (v := .d (.fl (.int .i64 ((pay x c).2)))) rfl (og rfl (op_assign rfl rfl rfl)) ?_
    refine rg_done rfl ?_
    refine a_seq ?_
    refine a_rseq ?_
    refine rg_put (d := 20) (v := .d (.fl (.int .i64 ((pay x c).2)))) rfl (og rfl (op_move rfl rfl rfl)) ?_
    refine rg_put (d := 21) (v := .d (.fl (.bool (((pay x c).2 != 0))))) rfl (og rfl (op_bin rfl rfl rfl (b_neq _ _ _ _) rfl)) ?_
    refine rg_done rfl ?_
    refine a_cond rfl (fun h4 => ?_) (fun h4 => ?_)
    · skip
      obtain ⟨q1, q2, q3⟩ := pay_err (t_bne h4)
      have q2 : ((pay x c).1.2 == 0) = true := by rw [q2]; rfl
      have h5 := t_bne h4
      refine a_rseq ?_
      refine rg_put (d := 22) (v := .d (.ag (eCs x))) rfl (og rfl (of_eff (s_load_pts rfl Tryd.underlying29 rfl ti29 rfl rfl rfl rfl) rfl)) ?_
      refine rg_put (d := 23) (v := .d (.ag (eCs (((pay x c).1.1))))) rfl (og rfl (of_eff (s_load_pts rfl Tryd.underlying29 rfl ti29 rfl rfl rfl rfl) rfl)) ?_
      refine rg_put (d := 24) (v := .d (.fl (.bool true))) rfl (og rfl (op_call rfl Tryd.func16 nm16 rfl (.cons rfl (.d _) (.cons rfl (.d _) .nil)) (same_eq q1.symm) rfl)) ?_
      refine rg_put (d := 25) (v := .d (.fl (.bool true))) rfl (og rfl (op_move rfl rfl rfl)) ?_
      refine rg_put (d := 26) (v := .d (.fl (.int .i64 ((pay x c).1.2)))) rfl (oy rfl rfl rfl rfl (op_move rfl rfl rfl)) ?_
      refine rg_put (d := 27) (v := .d (.fl (.bool (((pay x c).1.2 == 0))))) rfl (oy rfl rfl rfl rfl (op_bin rfl rfl rfl (b_eql _ _ _ _) rfl)) ?_
      refine rg_put (d := 28) (v := .d (.fl (.bool (((pay x c).1.2 == 0))))) rfl (og rfl (op_pick rfl rfl rfl rfl)) ?_
      refine rg_put (d := 29) (v := .d (.fl (.bool (((pay x c).1.2 == 0))))) rfl (og rfl (op_move rfl rfl rfl)) ?_
      refine rg_put (d := 30) (v := .d (.ag (eCs x))) rfl (oy rfl rfl rfl q2 (of_eff (s_load_pts rfl Tryd.underlying29 rfl ti29 rfl rfl rfl rfl) rfl)) ?_
      refine rg_put (d := 31) (v := .d (.fl (.bool (opn x)))) rfl (oy rfl rfl rfl q2 (op_call rfl Tryd.func21 nm21 rfl (.cons rfl (.d _) .nil) (opn21 x) rfl)) ?_
      refine rg_put (d := 32) (v := .d (.fl (.bool (opn x)))) rfl (oy rfl rfl rfl q2 (op_move rfl rfl rfl)) ?_
      rcases fot (opn x) with h6 | h6
      · skip
        have q4 : ((pay x c).2 == 28) = true := by
          rcases q3 with q | q
          · rw [h6] at q; cases q
          · rw [q]; rfl
        refine rg_put (d := 33) (v := .d (.fl (.int .i64 ((pay x c).2)))) rfl (oy rfl rfl rfl h6 (op_move rfl rfl rfl)) ?_
        refine rg_put (d := 34) (v := .d (.fl (.bool (((pay x c).2 == 28))))) rfl (oy rfl rfl rfl h6 (op_bin rfl rfl rfl (b_eql _ _ _ _) rfl)) ?_
        refine rg_put (d := 35) (v := .d (.fl (.bool (((pay x c).2 == 28))))) rfl (oy rfl rfl rfl q2 (op_pick rfl rfl (by rw [h6]; rfl) rfl)) ?_
        refine rg_put (d := 36) (v := .d (.fl (.bool (((pay x c).2 == 28))))) rfl (og rfl (op_pick rfl rfl (by rw [q2]; rfl) rfl)) ?_
        refine rg_put (d := 37) (v := .d (.fl (.bool (((pay x c).2 == 28))))) rfl (og rfl (op_move rfl rfl rfl)) ?_
        refine rg_put (d := 38) (v := .d (.fl (.bool true))) rfl (oy rfl rfl rfl q4 (op_call rfl Tryd.func11 nm11 rfl .nil awake11 rfl)) ?_
        refine rg_put (d := 39) (v := .d (.fl (.bool true))) rfl (og rfl (op_pick rfl rfl (by rw [q4]; rfl) rfl)) ?_
        refine rg_put (d := 4) (v := .d (.fl (.bool true))) rfl (og rfl (op_assign rfl rfl rfl)) ?_
        refine rg_done rfl ?_
        refine a_ret ?_
        show ∃ ds, ResL _ _ _ ds ∧ RV.of ds = _
        refine ⟨[.fl (.bool true)], (.cons (.tmp rfl (.d _)) .nil), ?_⟩
        rfl
      · skip
        refine rg_put (d := 33) (v := .d (.fl undef)) rfl (on rfl rfl rfl h6) ?_
        refine rg_put (d := 34) (v := .d (.fl undef)) rfl (on rfl rfl rfl h6) ?_
        refine rg_put (d := 35) (v := .d (.fl (.bool true))) rfl (oy rfl rfl rfl q2 (op_pick rfl rfl (by rw [h6]; rfl) rfl)) ?_
        refine rg_put (d := 36) (v := .d (.fl (.bool true))) rfl (og rfl (op_pick rfl rfl (by rw [q2]; rfl) rfl)) ?_
        refine rg_put (d := 37) (v := .d (.fl (.bool true))) rfl (og rfl (op_move rfl rfl rfl)) ?_
        refine rg_put (d := 38) (v := .d (.fl (.bool true))) rfl (oy rfl rfl rfl rfl (op_call rfl Tryd.func11 nm11 rfl .nil awake11 rfl)) ?_
        refine rg_put (d := 39) (v := .d (.fl (.bool true))) rfl (og rfl (op_pick rfl rfl rfl rfl)) ?_
        refine rg_put (d := 4) (v := .d (.fl (.bool true))) rfl (og rfl (op_assign rfl rfl rfl)) ?_
        refine rg_done rfl ?_
        refine a_ret ?_
        show ∃ ds, ResL _ _ _ ds ∧ RV.of ds = _
        refine ⟨[.fl (.bool true)], (.cons (.tmp rfl (.d _)) .nil), ?_⟩
        rfl
    · skip
      obtain ⟨p1, p2, p3, p4, p5, p6, p7, p8, p9⟩ := pay_ok (f_bne h4)
      have w1 : ((pay x c).1.1.paid - x.paid + (pay x c).1.2 != c) = false := by rw [p1]; simp
      have w2 : decide ((pay x c).1.2 < 0) = false := decide_eq_false (by omega)
      have w3 : decide ((pay x c).1.1.paid < x.paid) = false := decide_eq_false (by omega)
      have w4 : ((pay x c).1.1.owed != x.owed) = false := by rw [p4]; simp
      have w5 : (opn (pay x c).1.1 == decide ((pay x c).1.1.paid < (pay x c).1.1.owed)) = true := by rw [p5]; simp
      have h7 := f_bne h4
      refine a_skip ?_
      show A _ _ _ _ _ _ _
      refine a_seq ?_
      refine a_dseq (by kernel_rfl) ?_
      refine dr_put (d := 40) (v := .pt 102 7) rfl (og rfl (of_eff (s_field_pt rfl Tryd.underlying29 rfl ti3 rfl rfl rfl) rfl)) ?_
      refine dr_put (d := 41) (v := .d (.fl (.int .i64 (((pay x c).1.1).paid)))) rfl (og rfl (op_load_pt rfl Tryd.underlying3 rfl rfl rfl rfl rfl)) ?_
      refine dr_put (d := 42) (v := .pt 101 7) rfl (og rfl (of_eff (s_field_pt rfl Tryd.underlying29 rfl ti3 rfl rfl rfl) rfl)) ?_
      refine dr_put (d := 43) (v := .d (.fl (.int .i64 x.paid))) rfl (og rfl (op_load_pt rfl Tryd.underlying3 rfl rfl rfl rfl rfl)) ?_
      refine dr_put (d := 44) (v := .d (.fl (.int .i64 ((((pay x c).1.1).paid - x.paid))))) rfl (og rfl (op_bin rfl rfl rfl (fun x y w => b_sub64 _ _ _ x y w (by omega)) rfl)) ?_
      refine dr_put (d := 45) (v := .d (.fl (.int .i64 ((pay x c).1.2)))) rfl (og rfl (op_move rfl rfl rfl)) ?_
      refine dr_put (d := 46) (v := .d (.fl (.int .i64 (((((pay x c).1.1).paid - x.paid) + (pay x c).1.2))))) rfl (og rfl (op_bin rfl rfl rfl (fun x y w => b_add64 _ _ _ x y w (by omega)) rfl)) ?_
      refine dr_put (d := 47) (v := .d (.fl (.int .i64 c))) rfl (og rfl (op_move rfl rfl rfl)) ?_
      refine dr_put (d := 48) (v := .d (.fl (.bool ((((((pay x c).1.1).paid - x.paid) + (pay x c).1.2) != c))))) rfl (og rfl (op_bin rfl rfl rfl (b_neq _ _ _ _) rfl)) ?_
      refine dr_put (d := 49) (v := .d (.fl (.bool ((((((pay x c).1.1).paid - x.paid) + (pay x c).1.2) != c))))) rfl (og rfl (op_move rfl rfl rfl)) ?_
      refine dr_put (d := 50) (v := .d (.fl (.int .i64 ((pay x c).1.2)))) rfl (oy rfl rfl rfl w1 (op_move rfl rfl rfl)) ?_
      refine dr_put (d := 51) (v := .d (.fl (.bool ((decide ((pay x c).1.2 < 0)))))) rfl (oy rfl rfl rfl w1 (op_bin rfl rfl rfl (b_lss _ _ _ _) rfl)) ?_
      refine dr_put (d := 52) (v := .d (.fl (.bool ((decide ((pay x c).1.2 < 0)))))) rfl (og rfl (op_pick rfl rfl (by rw [w1]; rfl) rfl)) ?_
      refine dr_put (d := 53) (v := .d (.fl (.bool ((decide ((pay x c).1.2 < 0)))))) rfl (og rfl (op_move rfl rfl rfl)) ?_
      refine dr_put (d := 54) (v := .pt 102 7) rfl (oy rfl rfl rfl w2 (of_eff (s_field_pt rfl Tryd.underlying29 rfl ti3 rfl rfl rfl) rfl)) ?_
      refine dr_put (d := 55) (v := .d (.fl (.int .i64 (((pay x c).1.1).paid)))) rfl (oy rfl rfl rfl w2 (op_load_pt rfl Tryd.underlying3 rfl rfl rfl rfl rfl)) ?_
      refine dr_put (d := 56) (v := .pt 101 7) rfl (oy rfl rfl rfl w2 (of_eff (s_field_pt rfl Tryd.underlying29 rfl ti3 rfl rfl rfl) rfl)) ?_
      refine dr_put (d := 57) (v := .d (.fl (.int .i64 x.paid))) rfl (oy rfl rfl rfl w2 (op_load_pt rfl Tryd.underlying3 rfl rfl rfl rfl rfl)) ?_
      refine dr_put (d := 58) (v := .d (.fl (.bool ((decide (((pay x c).1.1).paid < x.paid)))))) rfl (oy rfl rfl rfl w2 (op_bin rfl rfl rfl (b_lss _ _ _ _) rfl)) ?_
      refine dr_put (d := 59) (v := .d (.fl (.bool ((decide (((pay x c).1.1).paid < x.paid)))))) rfl (og rfl (op_pick rfl rfl (by rw [w2]; rfl) rfl)) ?_
      refine dr_put (d := 60) (v := .d (.fl (.bool ((decide (((pay x c).1.1).paid < x.paid)))))) rfl (og rfl (op_move rfl rfl rfl)) ?_
      refine dr_put (d := 61) (v := .pt 102 6) rfl (oy rfl rfl rfl w3 (of_eff (s_field_pt rfl Tryd.underlying29 rfl ti3 rfl rfl rfl) rfl)) ?_
      refine dr_put (d := 62) (v := .d (.fl (.int .i64 (((pay x c).1.1).owed)))) rfl (oy rfl rfl rfl w3 (op_load_pt rfl Tryd.underlying3 rfl rfl rfl rfl rfl)) ?_
      refine dr_put (d := 63) (v := .pt 101 6) rfl (oy rfl rfl rfl w3 (of_eff (s_field_pt rfl Tryd.underlying29 rfl ti3 rfl rfl rfl) rfl)) ?_
      refine dr_put (d := 64) (v := .d (.fl (.int .i64 x.owed))) rfl (oy rfl rfl rfl w3 (op_load_pt rfl Tryd.underlying3 rfl rfl rfl rfl rfl)) ?_
      refine dr_put (d := 65) (v := .d (.fl (.bool ((((pay x c).1.1).owed != x.owed))))) rfl (oy rfl rfl rfl w3 (op_bin rfl rfl rfl (b_neq _ _ _ _) rfl)) ?_
      refine dr_put (d := 66) (v := .d (.fl (.bool ((((pay x c).1.1).owed != x.owed))))) rfl (og rfl (op_pick rfl rfl (by rw [w3]; rfl) rfl)) ?_
      refine dr_put (d := 67) (v := .d (.fl (.bool ((((pay x c).1.1).owed != x.owed))))) rfl (og rfl (op_move rfl rfl rfl)) ?_
      refine dr_put (d := 68) (v := .d (.ag (eCs (((pay x c).1.1))))) rfl (oy rfl rfl rfl w4 (of_eff (s_load_pts rfl Tryd.underlying29 rfl ti29 rfl rfl rfl rfl) rfl)) ?_
      refine dr_put (d := 69) (v := .d (.fl (.bool ((opn (((pay x c).1.1))))))) rfl (oy rfl rfl rfl w4 (op_call rfl Tryd.func21 nm21 rfl (.cons rfl (.d _) .nil) (opn21 (((pay x c).1.1))) rfl)) ?_
      refine dr_put (d := 70) (v := .pt 102 7) rfl (oy rfl rfl rfl w4 (of_eff (s_field_pt rfl Tryd.underlying29 rfl ti3 rfl rfl rfl) rfl)) ?_
      refine dr_put (d := 71) (v := .d (.fl (.int .i64 (((pay x c).1.1).paid)))) rfl (oy rfl rfl rfl w4 (op_load_pt rfl Tryd.underlying3 rfl rfl rfl rfl rfl)) ?_
      refine dr_put (d := 72) (v := .pt 102 6) rfl (oy rfl rfl rfl w4 (of_eff (s_field_pt rfl Tryd.underlying29 rfl ti3 rfl rfl rfl) rfl)) ?_
      refine dr_put (d := 73) (v := .d (.fl (.int .i64 (((pay x c).1.1).owed)))) rfl (oy rfl rfl rfl w4 (op_load_pt rfl Tryd.underlying3 rfl rfl rfl rfl rfl)) ?_
      refine dr_put (d := 74) (v := .d (.fl (.bool ((decide (((pay x c).1.1).paid < ((pay x c).1.1).owed)))))) rfl (oy rfl rfl rfl w4 (op_bin rfl rfl rfl (b_lss _ _ _ _) rfl)) ?_
      refine dr_put (d := 75) (v := .d (.fl (.bool ((!((opn (((pay x c).1.1))) == (decide (((pay x c).1.1).paid < ((pay x c).1.1).owed)))))))) rfl (oy rfl rfl rfl w4 (op_bin rfl rfl rfl (fun x y w => b_bne _ _ _ x y w Tryd.underlying4) rfl)) ?_
      refine dr_put (d := 76) (v := .d (.fl (.bool ((!((opn (((pay x c).1.1))) == (decide (((pay x c).1.1).paid < ((pay x c).1.1).owed)))))))) rfl (og rfl (op_pick rfl rfl (by rw [w4]; rfl) rfl)) ?_
      refine dr_done rfl (sepB_of [0, 1, 0, 4, 15, 0, 63, 0, 255, 511, 1023, 2047, 4095, 8191, 16383, 32767, 16383, 81919, 262143, 524287, 1048575, 2097151, 4194303, 2097151, 10485759, 33554431, 67108863, 134217727, 268435455, 536870911, 268435455, 1342177279, 268435455, 4563402751, 16374562815, 34359738367, 68719476735] (by kernel_rfl)) (by kernel_rfl) ?_
      refine a_condF rfl (not_f w5) ?_
      refine a_skip ?_
      show A _ _ _ _ _ _ _
      refine a_rseq ?_
      refine rg_put (d := 77) (v := .d (.ag (eCs (((pay x c).1.1))))) rfl (og rfl (of_eff (s_load_pts rfl Tryd.underlying29 rfl ti29 rfl rfl rfl rfl) rfl)) ?_
      refine rg_put (d := 78) (v := .d (.fl (.bool ((opn (((pay x c).1.1))))))) rfl (og rfl (op_call rfl Tryd.func21 nm21 rfl (.cons rfl (.d _) .nil) (opn21 (((pay x c).1.1))) rfl)) ?_
      refine rg_put (d := 79) (v := .d (.fl (.bool ((opn (((pay x c).1.1))))))) rfl (og rfl (op_move rfl rfl rfl)) ?_
      rcases fot ((opn (((pay x c).1.1)))) with h8 | h8
      · skip
        have w8 : ((pay x c).1.1.stage == 6) = true := by
          rcases p6 with ⟨q, _⟩ | ⟨_, q⟩
          · rw [h8] at q; cases q
          · rw [q]; rfl
        refine rg_put (d := 80) (v := .d (.fl undef)) rfl (on rfl rfl rfl h8) ?_
        refine rg_put (d := 81) (v := .d (.fl undef)) rfl (on rfl rfl rfl h8) ?_
        refine rg_put (d := 82) (v := .d (.fl undef)) rfl (on rfl rfl rfl h8) ?_
        refine rg_put (d := 83) (v := .d (.fl undef)) rfl (on rfl rfl rfl h8) ?_
        refine rg_put (d := 84) (v := .d (.fl undef)) rfl (on rfl rfl rfl h8) ?_
        refine rg_put (d := 85) (v := .d (.fl (.bool false))) rfl (og rfl (op_pick rfl rfl (by rw [h8]; rfl) rfl)) ?_
        refine rg_put (d := 86) (v := .d (.fl (.bool false))) rfl (og rfl (op_move rfl rfl rfl)) ?_
        refine rg_put (d := 87) (v := .d (.fl undef)) rfl (on rfl rfl rfl rfl) ?_
        refine rg_put (d := 88) (v := .d (.fl undef)) rfl (on rfl rfl rfl rfl) ?_
        refine rg_put (d := 89) (v := .d (.fl (.bool false))) rfl (og rfl (op_pick rfl rfl rfl rfl)) ?_
        refine rg_put (d := 90) (v := .d (.fl (.bool false))) rfl (og rfl (op_move rfl rfl rfl)) ?_
        refine rg_put (d := 91) (v := .pt 102 5) rfl (oy rfl rfl rfl rfl (of_eff (s_field_pt rfl Tryd.underlying29 rfl ti3 rfl rfl rfl) rfl)) ?_
        refine rg_put (d := 92) (v := .d (.fl (.int .i64 (((pay x c).1.1).stage)))) rfl (oy rfl rfl rfl rfl (op_load_pt rfl Tryd.underlying3 rfl rfl rfl rfl rfl)) ?_
        refine rg_put (d := 93) (v := .d (.fl (.bool ((((pay x c).1.1).stage == 6))))) rfl (oy rfl rfl rfl rfl (op_bin rfl rfl rfl (b_eql _ _ _ _) rfl)) ?_
        refine rg_put (d := 94) (v := .d (.fl (.bool ((((pay x c).1.1).stage == 6))))) rfl (og rfl (op_pick rfl rfl rfl rfl)) ?_
        refine rg_put (d := 95) (v := .d (.fl (.bool ((((pay x c).1.1).stage == 6))))) rfl (og rfl (op_move rfl rfl rfl)) ?_
        refine rg_put (d := 96) (v := .d (.fl (.bool true))) rfl (oy rfl rfl rfl w8 (op_call rfl Tryd.func11 nm11 rfl .nil awake11 rfl)) ?_
        refine rg_put (d := 97) (v := .d (.fl (.bool true))) rfl (og rfl (op_pick rfl rfl (by rw [w8]; rfl) rfl)) ?_
        refine rg_put (d := 4) (v := .d (.fl (.bool true))) rfl (og rfl (op_assign rfl rfl rfl)) ?_
        refine rg_done rfl ?_
        refine a_ret ?_
        show ∃ ds, ResL _ _ _ ds ∧ RV.of ds = _
        refine ⟨[.fl (.bool true)], (.cons (.tmp rfl (.d _)) .nil), ?_⟩
        rfl
      · skip
        have p10 : (pay x c).1.1.stage = x.stage ∧ (pay x c).1.2 = 0 := by
          rcases p6 with ⟨_, q, r⟩ | ⟨q, _⟩
          · exact ⟨q, r⟩
          · rw [h8] at q; cases q
        have w6 : ((pay x c).1.1.stage == x.stage) = true := by rw [p10.1]; simp
        have w7 : ((pay x c).1.2 == 0) = true := by rw [p10.2]; rfl
        refine rg_put (d := 80) (v := .pt 102 5) rfl (oy rfl rfl rfl h8 (of_eff (s_field_pt rfl Tryd.underlying29 rfl ti3 rfl rfl rfl) rfl)) ?_
        refine rg_put (d := 81) (v := .d (.fl (.int .i64 (((pay x c).1.1).stage)))) rfl (oy rfl rfl rfl h8 (op_load_pt rfl Tryd.underlying3 rfl rfl rfl rfl rfl)) ?_
        refine rg_put (d := 82) (v := .pt 101 5) rfl (oy rfl rfl rfl h8 (of_eff (s_field_pt rfl Tryd.underlying29 rfl ti3 rfl rfl rfl) rfl)) ?_
        refine rg_put (d := 83) (v := .d (.fl (.int .i64 x.stage))) rfl (oy rfl rfl rfl h8 (op_load_pt rfl Tryd.underlying3 rfl rfl rfl rfl rfl)) ?_
        refine rg_put (d := 84) (v := .d (.fl (.bool ((((pay x c).1.1).stage == x.stage))))) rfl (oy rfl rfl rfl h8 (op_bin rfl rfl rfl (b_eql _ _ _ _) rfl)) ?_
        refine rg_put (d := 85) (v := .d (.fl (.bool ((((pay x c).1.1).stage == x.stage))))) rfl (og rfl (op_pick rfl rfl (by rw [h8]; rfl) rfl)) ?_
        refine rg_put (d := 86) (v := .d (.fl (.bool ((((pay x c).1.1).stage == x.stage))))) rfl (og rfl (op_move rfl rfl rfl)) ?_
        refine rg_put (d := 87) (v := .d (.fl (.int .i64 ((pay x c).1.2)))) rfl (oy rfl rfl rfl w6 (op_move rfl rfl rfl)) ?_
        refine rg_put (d := 88) (v := .d (.fl (.bool (((pay x c).1.2 == 0))))) rfl (oy rfl rfl rfl w6 (op_bin rfl rfl rfl (b_eql _ _ _ _) rfl)) ?_
        refine rg_put (d := 89) (v := .d (.fl (.bool (((pay x c).1.2 == 0))))) rfl (og rfl (op_pick rfl rfl (by rw [w6]; rfl) rfl)) ?_
        refine rg_put (d := 90) (v := .d (.fl (.bool (((pay x c).1.2 == 0))))) rfl (og rfl (op_move rfl rfl rfl)) ?_
        refine rg_put (d := 91) (v := .d (.fl undef)) rfl (on rfl rfl rfl w7) ?_
        refine rg_put (d := 92) (v := .d (.fl undef)) rfl (on rfl rfl rfl w7) ?_
        refine rg_put (d := 93) (v := .d (.fl undef)) rfl (on rfl rfl rfl w7) ?_
        refine rg_put (d := 94) (v := .d (.fl (.bool true))) rfl (og rfl (op_pick rfl rfl (by rw [w7]; rfl) rfl)) ?_
        refine rg_put (d := 95) (v := .d (.fl (.bool true))) rfl (og rfl (op_move rfl rfl rfl)) ?_
        refine rg_put (d := 96) (v := .d (.fl (.bool true))) rfl (oy rfl rfl rfl rfl (op_call rfl Tryd.func11 nm11 rfl .nil awake11 rfl)) ?_
        refine rg_put (d := 97) (v := .d (.fl (.bool true))) rfl (og rfl (op_pick rfl rfl rfl rfl)) ?_
        refine rg_put (d := 4) (v := .d (.fl (.bool true))) rfl (og rfl (op_assign rfl rfl rfl)) ?_
        refine rg_done rfl ?_
        refine a_ret ?_
        show ∃ ds, ResL _ _ _ ds ∧ RV.of ds = _
        refine ⟨[.fl (.bool true)], (.cons (.tmp rfl (.d _)) .nil), ?_⟩
        rfl
end Go.Proofs.YtadaenpkmkjkjaaDoor.Wk
