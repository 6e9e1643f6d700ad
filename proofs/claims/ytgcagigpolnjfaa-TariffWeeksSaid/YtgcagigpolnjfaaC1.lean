/- Tariffs of a time, bands of other weeks. Condition: a number of eight bits. -/
import Derived.Test.YtgcagigpolnjfaaB5
set_option linter.unusedSimpArgs false
set_option linter.unusedVariables false
namespace Go.Proofs.Ytgcagigpolnjfaa.Wk
open Go Go.RowKit Go.Proofs.Ytgcagigpolnjfaa.Av
theorem att_len {l : List Ta} {t : Int} (h : ∀ q, q < l.length → (ix l q).bands.length ≤ 1000 ∧ (ix l q).rates.length ≤ 1000) : (att l t).1.bands.length ≤ 1000 ∧ (att l t).1.rates.length ≤ 1000 := by
  unfold att
  cases hf : l.find? (fun x => hasI x.val t) with
  | none => exact ⟨by decide, by decide⟩
  | some x =>
    obtain ⟨k, hk, he⟩ := mem_ix (List.mem_of_find?_eq_some hf)
    have := h k hk
    rw [he] at this; exact this
theorem inW_week {t u : Int} {n : Int} (h1 : 0 ≤ t ∧ t < 68719449600) (h2 : 0 ≤ u ∧ u < 68719449600) (h : u = t + n * 7 * 86400) (w : Wd) : inW w t = inW w u := by
  unfold inW
  rw [isT_of (by omega), isT_of (by omega), show t / 86400 % 7 = u / 86400 % 7 by omega, show t % 86400 = u % 86400 by omega]
theorem bnd_week {t u : Int} {n : Int} (h1 : 0 ≤ t ∧ t < 68719449600) (h2 : 0 ≤ u ∧ u < 68719449600) (h : u = t + n * 7 * 86400) (l : List Bd) : bnd l t = bnd l u := by
  unfold bnd
  rw [show (fun b : Bd => inW b.win t) = (fun b : Bd => inW b.win u) from funext fun b => inW_week h1 h2 h b.win]
theorem u8_r {n : Int} (h : (Lit.int .u8 n).wf = true) : 0 ≤ n ∧ n ≤ 255 := by simpa [Lit.wf, IntKind.min, IntKind.max, IntKind.signed, IntKind.bits] using h

set_option maxHeartbeats 4000000 in
set_option maxRecDepth 100000 in
theorem law3 (l : List Ta) (x : Ta) (t : Int) : Ctr Try.prog 3 [.sl 4 (List.map eTa l), .ag (eTa x), .fl (.int .i64 t)] (.d (.fl (.bool true))) := by
  refine ctr (n := 51) (rs := #[.tmp 6]) (L := [(0, .d (.sl 4 (List.map eTa l))), (1, .d (.ag (eTa x))), (2, .d (.fl (.int .i64 t)))]) Try.func3 rfl rfl rfl rfl rfl (fun w0 U0 => ?_)
  refine a_rseq ?_
  refine rg_nam (d := 4) (v := .pt 101 0) (m := 101) (nw := [(101, .bx 28 (eTa x))]) rfl (og rfl (of_eff (op_box 101 rfl rfl rfl rfl) rfl)) rfl ?_
  refine rg_put (d := 6) (v := .d (.fl (.bool false))) rfl (og rfl (op_assign rfl rfl rfl)) ?_
  refine rg_done rfl ?_
  refine a_seq ?_
  refine a_rseq ?_
  refine rg_put (d := 11) (v := .d (.sl 4 (List.map eTa l))) rfl (og rfl (op_move rfl rfl rfl)) ?_
  refine rg_put (d := 12) (v := .d (.fl (.bool (fewB l)))) rfl (og rfl (op_call rfl Try.func6 nm6 rfl (.cons rfl (.d _) .nil) (few6 l) rfl)) ?_
  refine rg_put (d := 13) (v := .d (.fl (.bool ((!(fewB l)))))) rfl (og rfl (op_un rfl rfl (u_not _) rfl)) ?_
  refine rg_put (d := 14) (v := .d (.fl (.bool ((!(fewB l)))))) rfl (og rfl (op_move rfl rfl rfl)) ?_
  rcases fot ((!(fewB l))) with h1 | h1
  · skip
    have h2 := f_not h1
    refine rg_put (d := 15) (v := .d (.ag (eTa x))) rfl (oy rfl rfl rfl h1 (of_eff (s_load_pts rfl Try.underlying28 rfl ti28 rfl rfl rfl rfl) rfl)) ?_
    refine rg_put (d := 16) (v := .d (.fl (.bool (shortB x)))) rfl (oy rfl rfl rfl h1 (op_call rfl Try.func7 nm7 rfl (.cons rfl (.d _) .nil) (short7 x) rfl)) ?_
    refine rg_put (d := 17) (v := .d (.fl (.bool ((!(shortB x)))))) rfl (oy rfl rfl rfl h1 (op_un rfl rfl (u_not _) rfl)) ?_
    refine rg_put (d := 18) (v := .d (.fl (.bool ((!(shortB x)))))) rfl (og rfl (op_pick rfl rfl (by rw [h1]; rfl) rfl)) ?_
    refine rg_done rfl ?_
    refine a_cond rfl (fun h3 => ?_) (fun h3 => ?_)
    · skip
      have h4 := t_not h3
      refine a_rseq ?_
      refine rg_put (d := 6) (v := .d (.fl (.bool true))) rfl (og rfl (op_assign rfl rfl rfl)) ?_
      refine rg_done rfl ?_
      refine a_ret ?_
      show ∃ ds, ResL _ _ _ ds ∧ RV.of ds = _
      refine ⟨[.fl (.bool true)], (.cons (.tmp rfl (.d _)) .nil), ?_⟩
      rfl
    · skip
      have h5 := f_not h3
      refine a_skip ?_
      show A _ _ _ _ _ _ _
      refine a_rseq ?_
      have hz := few_len h2
      have hs := short_len h5
      have hy : ∀ q, q < l.length → (ix l q).bands.length ≤ 1000 ∧ (ix l q).rates.length ≤ 1000 := fun q hq => by have := hz.2 q hq; omega
      have hl := hz.1
      refine rg_put (d := 20) (v := .d (.sl 4 (List.map eTa l))) rfl (og rfl (op_move rfl rfl rfl)) ?_
      refine rg_put (d := 21) (v := .d (.fl (.int .i64 t))) rfl (og rfl (op_move rfl rfl rfl)) ?_
      refine rg_put (d := 22) (v := .tu [.ag (eTa ((att l t).1)), .fl (.int .i64 ((att l t).2))]) rfl (og rfl (op_call rfl Try.func8 nm8 rfl (.cons rfl (.d _) (.cons rfl (.d _) .nil)) (at8 l t (by omega) hy) rfl)) ?_
      refine rg_put (d := 19) (v := .tu [.ag (eTa ((att l t).1)), .fl (.int .i64 ((att l t).2))]) rfl (og rfl (op_move rfl rfl rfl)) ?_
      refine rg_put (d := 23) (v := .d (.ag (eTa ((att l t).1)))) rfl (og rfl (op_extract rfl rfl rfl rfl)) ?_
      refine rg_put (d := 24) (v := .d (.fl (.int .i64 ((att l t).2)))) rfl (og rfl (op_extract rfl rfl rfl rfl)) ?_
      refine rg_nam (d := 7) (v := .pt 102 0) (m := 102) (nw := [(102, .bx 28 [.fl (.int .i64 0), .fl (.int .i64 0), .fl (.slice none 0 0), .fl (.slice none 0 0)])]) rfl (og rfl (of_eff (s_alloc 102 rfl ti28 (by kernel_rfl) rfl) rfl)) rfl ?_
      refine rg_sto (nw := [(102, .bx 28 ((eTa ((att l t).1))))]) rfl (og rfl (of_eff (s_store rfl rfl ti28 rfl rfl rfl rfl rfl rfl) rfl)) ?_
      refine rg_put (d := 8) (v := .d (.fl (.int .i64 ((att l t).2)))) rfl (og rfl (op_assign rfl rfl rfl)) ?_
      refine rg_done rfl ?_
      refine a_rseq ?_
      refine rg_put (d := 26) (v := .d (.sl 4 (List.map eTa l))) rfl (og rfl (op_move rfl rfl rfl)) ?_
      refine rg_put (d := 27) (v := .d (.fl (.int .i64 t))) rfl (og rfl (op_move rfl rfl rfl)) ?_
      refine rg_put (d := 28) (v := .tu [.ag (eTa ((att l t).1)), .fl (.int .i64 ((att l t).2))]) rfl (og rfl (op_call rfl Try.func9 nm9 rfl (.cons rfl (.d _) (.cons rfl (.d _) .nil)) (at9 l t (by omega) hy) rfl)) ?_
      refine rg_put (d := 25) (v := .tu [.ag (eTa ((att l t).1)), .fl (.int .i64 ((att l t).2))]) rfl (og rfl (op_move rfl rfl rfl)) ?_
      refine rg_put (d := 29) (v := .d (.ag (eTa ((att l t).1)))) rfl (og rfl (op_extract rfl rfl rfl rfl)) ?_
      refine rg_put (d := 30) (v := .d (.fl (.int .i64 ((att l t).2)))) rfl (og rfl (op_extract rfl rfl rfl rfl)) ?_
      refine rg_nam (d := 9) (v := .pt 103 0) (m := 103) (nw := [(103, .bx 28 [.fl (.int .i64 0), .fl (.int .i64 0), .fl (.slice none 0 0), .fl (.slice none 0 0)])]) rfl (og rfl (of_eff (s_alloc 103 rfl ti28 (by kernel_rfl) rfl) rfl)) rfl ?_
      refine rg_sto (nw := [(103, .bx 28 ((eTa ((att l t).1))))]) rfl (og rfl (of_eff (s_store rfl rfl ti28 rfl rfl rfl rfl rfl rfl) rfl)) ?_
      refine rg_put (d := 10) (v := .d (.fl (.int .i64 ((att l t).2)))) rfl (og rfl (op_assign rfl rfl rfl)) ?_
      refine rg_done rfl ?_
      refine a_dseq (by kernel_rfl) ?_
      refine dr_put (d := 31) (v := .d (.ag (eTa (((att l t).1))))) rfl (og rfl (of_eff (s_load_pts rfl Try.underlying28 rfl ti28 rfl rfl rfl rfl) rfl)) ?_
      refine dr_put (d := 32) (v := .d (.ag (eTa (((att l t).1))))) rfl (og rfl (of_eff (s_load_pts rfl Try.underlying28 rfl ti28 rfl rfl rfl rfl) rfl)) ?_
      refine dr_put (d := 33) (v := .d (.fl (.bool true))) rfl (og rfl (op_call rfl Try.func10 nm10 rfl (.cons rfl (.d _) (.cons rfl (.d _) .nil)) (same10 (att l t).1 (att_len hy).1 (att_len hy).2) rfl)) ?_
      refine dr_put (d := 34) (v := .d (.fl (.bool true))) rfl (og rfl (op_move rfl rfl rfl)) ?_
      refine dr_put (d := 35) (v := .d (.fl (.int .i64 ((att l t).2)))) rfl (oy rfl rfl rfl rfl (op_move rfl rfl rfl)) ?_
      refine dr_put (d := 36) (v := .d (.fl (.int .i64 ((att l t).2)))) rfl (oy rfl rfl rfl rfl (op_move rfl rfl rfl)) ?_
      refine dr_put (d := 37) (v := .d (.fl (.bool (((att l t).2 == (att l t).2))))) rfl (oy rfl rfl rfl rfl (op_bin rfl rfl rfl (b_eql _ _ _ _) rfl)) ?_
      refine dr_put (d := 38) (v := .d (.fl (.bool (((att l t).2 == (att l t).2))))) rfl (og rfl (op_pick rfl rfl rfl rfl)) ?_
      refine dr_put (d := 39) (v := .d (.fl (.bool (((att l t).2 == (att l t).2))))) rfl (og rfl (op_move rfl rfl rfl)) ?_
      refine dr_put (d := 40) (v := .d (.ag (eTa x))) rfl (oy rfl rfl rfl (eq_self_b _) (of_eff (s_load_pts rfl Try.underlying28 rfl ti28 rfl rfl rfl rfl) rfl)) ?_
      refine dr_put (d := 41) (v := .d (.fl (.int .i64 t))) rfl (oy rfl rfl rfl (eq_self_b _) (op_move rfl rfl rfl)) ?_
      refine dr_put (d := 42) (v := .d (.fl (.string (bnd x.bands t)))) rfl (oy rfl rfl rfl (eq_self_b _) (op_call rfl Try.func11 nm11 rfl (.cons rfl (.d _) (.cons rfl (.d _) .nil)) (band11 x t (by omega)) rfl)) ?_
      refine dr_put (d := 43) (v := .d (.ag (eTa x))) rfl (oy rfl rfl rfl (eq_self_b _) (of_eff (s_load_pts rfl Try.underlying28 rfl ti28 rfl rfl rfl rfl) rfl)) ?_
      refine dr_put (d := 44) (v := .d (.fl (.int .i64 t))) rfl (oy rfl rfl rfl (eq_self_b _) (op_move rfl rfl rfl)) ?_
      refine dr_put (d := 45) (v := .d (.fl (.string (bnd x.bands t)))) rfl (oy rfl rfl rfl (eq_self_b _) (op_call rfl Try.func12 nm12 rfl (.cons rfl (.d _) (.cons rfl (.d _) .nil)) (band12 x t (by omega)) rfl)) ?_
      refine dr_put (d := 46) (v := .d (.fl (.bool ((sEq (bnd x.bands t) (bnd x.bands t)))))) rfl (oy rfl rfl rfl (eq_self_b _) (op_bin rfl rfl rfl (b_seq _ _ _) rfl)) ?_
      refine dr_put (d := 47) (v := .d (.fl (.bool ((sEq (bnd x.bands t) (bnd x.bands t)))))) rfl (og rfl (op_pick rfl rfl (by rw [(eq_self_b _)]; rfl) rfl)) ?_
      refine dr_put (d := 48) (v := .d (.fl (.bool ((sEq (bnd x.bands t) (bnd x.bands t)))))) rfl (og rfl (op_move rfl rfl rfl)) ?_
      refine dr_put (d := 49) (v := .d (.fl (.bool true))) rfl (oy rfl rfl rfl (eq_self_s _) (op_call rfl Try.func13 nm13 rfl .nil alive13 rfl)) ?_
      refine dr_put (d := 50) (v := .d (.fl (.bool true))) rfl (og rfl (op_pick rfl rfl (by rw [(eq_self_s _)]; rfl) rfl)) ?_
      refine dr_put (d := 6) (v := .d (.fl (.bool true))) rfl (og rfl (op_assign rfl rfl rfl)) ?_
      refine dr_done rfl (sepB_of [0, 0, 3, 7, 15, 15, 63, 127, 255, 511, 511, 2047, 511, 511, 16383, 32767, 65535, 131071, 262143, 524287, 1048575] (by kernel_rfl)) (by kernel_rfl) ?_
      refine a_ret ?_
      show ∃ ds, ResL _ _ _ ds ∧ RV.of ds = _
      refine ⟨[.fl (.bool true)], (.cons (.tmp rfl (.d _)) .nil), ?_⟩
      rfl
  · skip
    have h6 := t_not h1
    refine rg_put (d := 15) (v := .d (.fl undef)) rfl (on rfl rfl rfl h1) ?_
    refine rg_put (d := 16) (v := .d (.fl undef)) rfl (on rfl rfl rfl h1) ?_
    refine rg_put (d := 17) (v := .d (.fl undef)) rfl (on rfl rfl rfl h1) ?_
    refine rg_put (d := 18) (v := .d (.fl (.bool true))) rfl (og rfl (op_pick rfl rfl (by rw [h1]; rfl) rfl)) ?_
    refine rg_done rfl ?_
    refine a_condK rfl rfl ?_
    refine a_rseq ?_
    refine rg_put (d := 6) (v := .d (.fl (.bool true))) rfl (og rfl (op_assign rfl rfl rfl)) ?_
    refine rg_done rfl ?_
    refine a_ret ?_
    show ∃ ds, ResL _ _ _ ds ∧ RV.of ds = _
    refine ⟨[.fl (.bool true)], (.cons (.tmp rfl (.d _)) .nil), ?_⟩
    rfl
set_option maxHeartbeats 4000000 in
set_option maxRecDepth 100000 in
theorem law4 (x : Ta) (t n : Int) (hn : 0 ≤ n ∧ n ≤ 255) : Ctr Try.prog 4 [.ag (eTa x), .fl (.int .i64 t), .fl (.int .u8 n)] (.d (.fl (.bool true))) := by
  refine ctr (n := 39) (rs := #[.tmp 6]) (L := [(0, .d (.ag (eTa x))), (1, .d (.fl (.int .i64 t))), (2, .d (.fl (.int .u8 n)))]) Try.func4 rfl rfl rfl rfl rfl (fun w0 U0 => ?_)
  refine a_rseq ?_
  refine rg_nam (d := 3) (v := .pt 101 0) (m := 101) (nw := [(101, .bx 28 (eTa x))]) rfl (og rfl (of_eff (op_box 101 rfl rfl rfl rfl) rfl)) rfl ?_
  refine rg_put (d := 6) (v := .d (.fl (.bool false))) rfl (og rfl (op_assign rfl rfl rfl)) ?_
  refine rg_done rfl ?_
  refine a_rseq ?_
  refine rg_put (d := 8) (v := .d (.fl (.int .i64 t))) rfl (og rfl (op_move rfl rfl rfl)) ?_
  refine rg_put (d := 9) (v := .d (.fl (.int .u8 n))) rfl (og rfl (op_move rfl rfl rfl)) ?_
  refine rg_put (d := 10) (v := .d (.fl (.int .i64 n))) rfl (og rfl (op_conv rfl Try.underlying5 Try.underlying3 rfl (w64 (by omega)) rfl)) ?_
  refine rg_put (d := 11) (v := .d (.fl (.int .i64 (n * 7)))) rfl (og rfl (op_bin rfl rfl rfl (fun x y w => b_mul64 _ _ _ x y w (by omega)) rfl)) ?_
  refine rg_put (d := 12) (v := .d (.fl (.int .i64 (((n * 7) * 86400))))) rfl (og rfl (op_bin rfl rfl rfl (fun x y w => b_mul64 _ _ _ x y w (by omega)) rfl)) ?_
  refine rg_put (d := 13) (v := .d (.fl (.int .i64 ((IntKind.i64.wrap (t + ((n * 7) * 86400))))))) rfl (og rfl (op_bin rfl rfl rfl (b_add _ _ _ _) rfl)) ?_
  refine rg_put (d := 7) (v := .d (.fl (.int .i64 ((IntKind.i64.wrap (t + ((n * 7) * 86400))))))) rfl (og rfl (op_assign rfl rfl rfl)) ?_
  refine rg_done rfl ?_
  refine a_seq ?_
  refine a_rseq ?_
  refine rg_put (d := 14) (v := .d (.ag (eTa x))) rfl (og rfl (of_eff (s_load_pts rfl Try.underlying28 rfl ti28 rfl rfl rfl rfl) rfl)) ?_
  refine rg_put (d := 15) (v := .d (.fl (.bool (shortB x)))) rfl (og rfl (op_call rfl Try.func7 nm7 rfl (.cons rfl (.d _) .nil) (short7 x) rfl)) ?_
  refine rg_put (d := 16) (v := .d (.fl (.bool ((!(shortB x)))))) rfl (og rfl (op_un rfl rfl (u_not _) rfl)) ?_
  refine rg_put (d := 17) (v := .d (.fl (.bool ((!(shortB x)))))) rfl (og rfl (op_move rfl rfl rfl)) ?_
  rcases fot ((!(shortB x))) with h1 | h1
  · skip
    have h2 := f_not h1
    refine rg_put (d := 18) (v := .d (.fl (.int .i64 t))) rfl (oy rfl rfl rfl h1 (op_move rfl rfl rfl)) ?_
    refine rg_put (d := 19) (v := .d (.fl (.bool ((decide (t < 0)))))) rfl (oy rfl rfl rfl h1 (op_bin rfl rfl rfl (b_lss _ _ _ _) rfl)) ?_
    refine rg_put (d := 20) (v := .d (.fl (.bool ((decide (t < 0)))))) rfl (og rfl (op_pick rfl rfl (by rw [h1]; rfl) rfl)) ?_
    refine rg_put (d := 21) (v := .d (.fl (.bool ((decide (t < 0)))))) rfl (og rfl (op_move rfl rfl rfl)) ?_
    rcases fot ((decide (t < 0))) with h3 | h3
    · skip
      have h4 := f_dec h3
      refine rg_put (d := 22) (v := .d (.fl (.int .i64 t))) rfl (oy rfl rfl rfl h3 (op_move rfl rfl rfl)) ?_
      refine rg_put (d := 23) (v := .d (.fl (.bool ((decide (68719449600 ≤ t)))))) rfl (oy rfl rfl rfl h3 (op_bin rfl rfl rfl (b_geq _ _ _ _) rfl)) ?_
      refine rg_put (d := 24) (v := .d (.fl (.bool ((decide (68719449600 ≤ t)))))) rfl (og rfl (op_pick rfl rfl (by rw [h3]; rfl) rfl)) ?_
      refine rg_put (d := 25) (v := .d (.fl (.bool ((decide (68719449600 ≤ t)))))) rfl (og rfl (op_move rfl rfl rfl)) ?_
      rcases fot ((decide (68719449600 ≤ t))) with h5 | h5
      · skip
        have h6 := f_dec h5
        refine rg_put (d := 26) (v := .d (.fl (.int .i64 ((IntKind.i64.wrap (t + ((n * 7) * 86400))))))) rfl (oy rfl rfl rfl h5 (op_move rfl rfl rfl)) ?_
        refine rg_put (d := 27) (v := .d (.fl (.bool ((decide (68719449600 ≤ (IntKind.i64.wrap (t + ((n * 7) * 86400))))))))) rfl (oy rfl rfl rfl h5 (op_bin rfl rfl rfl (b_geq _ _ _ _) rfl)) ?_
        refine rg_put (d := 28) (v := .d (.fl (.bool ((decide (68719449600 ≤ (IntKind.i64.wrap (t + ((n * 7) * 86400))))))))) rfl (og rfl (op_pick rfl rfl (by rw [h5]; rfl) rfl)) ?_
        refine rg_done rfl ?_
        refine a_cond rfl (fun h7 => ?_) (fun h7 => ?_)
        · skip
          have h8 := t_dec h7
          refine a_rseq ?_
          refine rg_put (d := 6) (v := .d (.fl (.bool true))) rfl (og rfl (op_assign rfl rfl rfl)) ?_
          refine rg_done rfl ?_
          refine a_ret ?_
          show ∃ ds, ResL _ _ _ ds ∧ RV.of ds = _
          refine ⟨[.fl (.bool true)], (.cons (.tmp rfl (.d _)) .nil), ?_⟩
          rfl
        · skip
          have h9 := f_dec h7
          refine a_skip ?_
          show A _ _ _ _ _ _ _
          refine a_dseq (by kernel_rfl) ?_
          have hs := short_len h2
          have hw : (IntKind.i64.wrap (t + ((n * 7) * 86400))) = t + n * 7 * 86400 := w64 (by omega)
          rw [hw] at h7
          rw [show (IntKind.i64.wrap (t + ((n * 7) * 86400))) = (t + n * 7 * 86400) from hw]
          refine dr_put (d := 29) (v := .d (.ag (eTa x))) rfl (og rfl (of_eff (s_load_pts rfl Try.underlying28 rfl ti28 rfl rfl rfl rfl) rfl)) ?_
          refine dr_put (d := 30) (v := .d (.fl (.int .i64 t))) rfl (og rfl (op_move rfl rfl rfl)) ?_
          refine dr_put (d := 31) (v := .d (.fl (.string (bnd x.bands t)))) rfl (og rfl (op_call rfl Try.func11 nm11 rfl (.cons rfl (.d _) (.cons rfl (.d _) .nil)) (band11 x t (by omega)) rfl)) ?_
          refine dr_put (d := 32) (v := .d (.ag (eTa x))) rfl (og rfl (of_eff (s_load_pts rfl Try.underlying28 rfl ti28 rfl rfl rfl rfl) rfl)) ?_
          refine dr_put (d := 33) (v := .d (.fl (.int .i64 (t + n * 7 * 86400)))) rfl (og rfl (op_move rfl rfl rfl)) ?_
          refine dr_put (d := 34) (v := .d (.fl (.string ((bnd x.bands (t + n * 7 * 86400)))))) rfl (og rfl (op_call rfl Try.func11 nm11 rfl (.cons rfl (.d _) (.cons rfl (.d _) .nil)) (band11 x (t + n * 7 * 86400) (by omega)) rfl)) ?_
          refine dr_put (d := 35) (v := .d (.fl (.bool ((sEq (bnd x.bands t) ((bnd x.bands (t + n * 7 * 86400)))))))) rfl (og rfl (op_bin rfl rfl rfl (b_seq _ _ _) rfl)) ?_
          refine dr_put (d := 36) (v := .d (.fl (.bool ((sEq (bnd x.bands t) ((bnd x.bands (t + n * 7 * 86400)))))))) rfl (og rfl (op_move rfl rfl rfl)) ?_
          refine dr_put (d := 37) (v := .d (.fl (.bool true))) rfl (oy rfl rfl rfl (show ((sEq (bnd x.bands t) ((bnd x.bands (t + n * 7 * 86400))))) = true by rw [bnd_week (t := t) (u := t + n * 7 * 86400) (n := n) (by omega) (by omega) rfl x.bands]; exact eq_self_s _) (op_call rfl Try.func13 nm13 rfl .nil alive13 rfl)) ?_
          refine dr_put (d := 38) (v := .d (.fl (.bool true))) rfl (og rfl (op_pick rfl rfl (by rw [(show ((sEq (bnd x.bands t) ((bnd x.bands (t + n * 7 * 86400))))) = true by rw [bnd_week (t := t) (u := t + n * 7 * 86400) (n := n) (by omega) (by omega) rfl x.bands]; exact eq_self_s _)]; rfl) rfl)) ?_
          refine dr_put (d := 6) (v := .d (.fl (.bool true))) rfl (og rfl (op_assign rfl rfl rfl)) ?_
          refine dr_done rfl (by kernel_rfl) (by kernel_rfl) ?_
          refine a_ret ?_
          show ∃ ds, ResL _ _ _ ds ∧ RV.of ds = _
          refine ⟨[.fl (.bool true)], (.cons (.tmp rfl (.d _)) .nil), ?_⟩
          rfl
      · skip
        have h10 := t_dec h5
        refine rg_put (d := 26) (v := .d (.fl undef)) rfl (on rfl rfl rfl h5) ?_
        refine rg_put (d := 27) (v := .d (.fl undef)) rfl (on rfl rfl rfl h5) ?_
        refine rg_put (d := 28) (v := .d (.fl (.bool true))) rfl (og rfl (op_pick rfl rfl (by rw [h5]; rfl) rfl)) ?_
        refine rg_done rfl ?_
        refine a_condK rfl rfl ?_
        refine a_rseq ?_
        refine rg_put (d := 6) (v := .d (.fl (.bool true))) rfl (og rfl (op_assign rfl rfl rfl)) ?_
        refine rg_done rfl ?_
        refine a_ret ?_
        show ∃ ds, ResL _ _ _ ds ∧ RV.of ds = _
        refine ⟨[.fl (.bool true)], (.cons (.tmp rfl (.d _)) .nil), ?_⟩
        rfl
    · skip
      have h11 := t_dec h3
      refine rg_put (d := 22) (v := .d (.fl undef)) rfl (on rfl rfl rfl h3) ?_
      refine rg_put (d := 23) (v := .d (.fl undef)) rfl (on rfl rfl rfl h3) ?_
      refine rg_put (d := 24) (v := .d (.fl (.bool true))) rfl (og rfl (op_pick rfl rfl (by rw [h3]; rfl) rfl)) ?_
      refine rg_put (d := 25) (v := .d (.fl (.bool true))) rfl (og rfl (op_move rfl rfl rfl)) ?_
      refine rg_put (d := 26) (v := .d (.fl undef)) rfl (on rfl rfl rfl rfl) ?_
      refine rg_put (d := 27) (v := .d (.fl undef)) rfl (on rfl rfl rfl rfl) ?_
      refine rg_put (d := 28) (v := .d (.fl (.bool true))) rfl (og rfl (op_pick rfl rfl rfl rfl)) ?_
      refine rg_done rfl ?_
      refine a_condK rfl rfl ?_
      refine a_rseq ?_
      refine rg_put (d := 6) (v := .d (.fl (.bool true))) rfl (og rfl (op_assign rfl rfl rfl)) ?_
      refine rg_done rfl ?_
      refine a_ret ?_
      show ∃ ds, ResL _ _ _ ds ∧ RV.of ds = _
      refine ⟨[.fl (.bool true)], (.cons (.tmp rfl (.d _)) .nil), ?_⟩
      rfl
  · skip
    have h12 := t_not h1
    refine rg_put (d := 18) (v := .d (.fl undef)) rfl (on rfl rfl rfl h1) ?_
    refine rg_put (d := 19) (v := .d (.fl undef)) rfl (on rfl rfl rfl h1) ?_
    refine rg_put (d := 20) (v := .d (.fl (.bool true))) rfl (og rfl (op_pick rfl rfl (by rw [h1]; rfl) rfl)) ?_
    refine rg_put (d := 21) (v := .d (.fl (.bool true))) rfl (og rfl (op_move rfl rfl rfl)) ?_
    refine rg_put (d := 22) (v := .d (.fl undef)) rfl (on rfl rfl rfl rfl) ?_
    refine rg_put (d := 23) (v := .d (.fl undef)) rfl (on rfl rfl rfl rfl) ?_
    refine rg_put (d := 24) (v := .d (.fl (.bool true))) rfl (og rfl (op_pick rfl rfl rfl rfl)) ?_
    refine rg_put (d := 25) (v := .d (.fl (.bool true))) rfl (og rfl (op_move rfl rfl rfl)) ?_
    refine rg_put (d := 26) (v := .d (.fl undef)) rfl (on rfl rfl rfl rfl) ?_
    refine rg_put (d := 27) (v := .d (.fl undef)) rfl (on rfl rfl rfl rfl) ?_
    refine rg_put (d := 28) (v := .d (.fl (.bool true))) rfl (og rfl (op_pick rfl rfl rfl rfl)) ?_
    refine rg_done rfl ?_
    refine a_condK rfl rfl ?_
    refine a_rseq ?_
    refine rg_put (d := 6) (v := .d (.fl (.bool true))) rfl (og rfl (op_assign rfl rfl rfl)) ?_
    refine rg_done rfl ?_
    refine a_ret ?_
    show ∃ ds, ResL _ _ _ ds ∧ RV.of ds = _
    refine ⟨[.fl (.bool true)], (.cons (.tmp rfl (.d _)) .nil), ?_⟩
    rfl
end Go.Proofs.Ytgcagigpolnjfaa.Wk
