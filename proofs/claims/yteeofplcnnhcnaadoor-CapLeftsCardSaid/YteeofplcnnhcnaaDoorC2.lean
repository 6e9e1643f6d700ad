/- The law of what is left. Conditions: the table of months reads as it is laid; the list reads as data. -/
import Derived.Test.YteeofplcnnhcnaaDoorC1
set_option linter.unusedSimpArgs false
set_option linter.unusedVariables false
namespace Go.Proofs.YteeofplcnnhcnaaDoor.Wk
open Go Go.RowKit Go.Proofs.YteeofplcnnhcnaaDoor.Av
set_option maxHeartbeats 4000000 in
set_option maxRecDepth 100000 in
theorem fits12 (l : List Cg) (hl : l.length ≤ 9223372036854775807) : Ctr Tryd.prog 12 [.sl 7 (List.map eCg l)] (.d (.fl (.bool (fitL l)))) := by
  refine ctr (n := 27) (rs := #[.tmp 2]) (L := [(0, .d (.sl 7 (List.map eCg l)))]) Tryd.func12 rfl rfl rfl rfl rfl (fun w0 U0 => ?_)
  refine a_rseq ?_
  refine rg_put (d := 2) (v := .d (.fl (.bool false))) rfl (og rfl (op_assign rfl rfl rfl)) ?_
  refine rg_done rfl ?_
  refine a_seq ?_
  refine a_rseq ?_
  refine rg_put (d := 4) (v := .d (.sl 7 (List.map eCg l))) rfl (og rfl (op_move rfl rfl rfl)) ?_
  refine rg_put (d := 5) (v := .d (.fl (.int .i64 (l.length : Int)))) rfl (og rfl (s_len rfl Tryd.underlying34 rfl rfl)) ?_
  refine rg_put (d := 6) (v := .d (.fl (.bool ((decide (60 < (l.length : Int))))))) rfl (og rfl (op_bin rfl rfl rfl (b_gtr _ _ _ _) rfl)) ?_
  refine rg_done rfl ?_
  refine a_cond rfl (fun h1 => ?_) (fun h1 => ?_)
  · skip
    have h2 := t_dec h1
    refine a_rseq ?_
    refine rg_put (d := 2) (v := .d (.fl (.bool false))) rfl (og rfl (op_assign rfl rfl rfl)) ?_
    refine rg_done rfl ?_
    refine a_ret ?_
    show ∃ ds, ResL _ _ _ ds ∧ RV.of ds = _
    refine ⟨[.fl (.bool false)], (.cons (.tmp rfl (.d _)) .nil), ?_⟩
    rw [fitL_lim h1]; rfl
  · skip
    have h3 := f_dec h1
    refine a_skip ?_
    show A _ _ _ _ _ _ _
    refine a_seq ?_
    refine a_rseq ?_
    refine rg_put (d := 3) (v := .d (.fl (.int .i64 0))) rfl (og rfl (op_assign rfl rfl rfl)) ?_
    refine rg_done rfl ?_
    refine a_block ?_
    refine a_loop (ι := Nat) (fun k => SS [(0, .d (.sl 7 (List.map eCg l))), (6, .d (.fl (.bool ((decide (60 < (l.length : Int))))))), (3, .d (.fl (.int .i64 (k : Int))))] []) (fun k => k ≤ l.length ∧ ∀ q, q < k → amo (ix l q).cents = true) (fun k => l.length - k) 0 (⟨by omega, fun q h => by omega⟩) (imp_forget rfl ⟨rfl, rfl, (by first | rfl | exact ci (by omega) | exact ci (by simp) | exact cd (by simp) | simp), trivial⟩ trivial) (fun k hok => ?_)
    obtain ⟨hk, hq⟩ := hok
    refine a_seq ?_
    refine a_rseq ?_
    refine rg_put (d := 7) (v := .d (.fl (.int .i64 (k : Int)))) rfl (og rfl (op_move rfl rfl rfl)) ?_
    refine rg_put (d := 8) (v := .d (.sl 7 (List.map eCg l))) rfl (og rfl (op_move rfl rfl rfl)) ?_
    refine rg_put (d := 9) (v := .d (.fl (.int .i64 (l.length : Int)))) rfl (og rfl (s_len rfl Tryd.underlying34 rfl rfl)) ?_
    refine rg_put (d := 10) (v := .d (.fl (.bool ((decide ((k : Int) < (l.length : Int))))))) rfl (og rfl (op_bin rfl rfl rfl (b_lss _ _ _ _) rfl)) ?_
    refine rg_done rfl ?_
    refine a_cond rfl (fun h4 => ?_) (fun h4 => ?_)
    · skip
      have h5 := t_dec h4
      refine a_skip ?_
      show A _ _ _ _ _ _ _
      refine a_seq ?_
      refine a_block ?_
      refine a_rseq ?_
      refine rg_put (d := 13) (v := .d (.sl 7 (List.map eCg l))) rfl (og rfl (op_move rfl rfl rfl)) ?_
      refine rg_put (d := 14) (v := .d (.fl (.int .i64 (k : Int)))) rfl (og rfl (op_move rfl rfl rfl)) ?_
      refine rg_put (d := 15) (v := .el ((eCg (ix l k)))) rfl (og rfl (s_index rfl Tryd.underlying34 ti26 rfl rfl (by omega) (row_at (by omega)) rfl)) ?_
      refine rg_put (d := 16) (v := .el ((List.drop 6 ((eCg (ix l k)))))) rfl (og rfl (of_eff (s_field_el rfl Tryd.underlying26 rfl ti3 rfl rfl rfl) rfl)) ?_
      refine rg_put (d := 17) (v := .d (.fl (.int .i64 ((ix l k).cents)))) rfl (og rfl (op_load_el rfl Tryd.underlying3 rfl rfl rfl rfl)) ?_
      refine rg_put (d := 18) (v := .d (.fl (.bool ((decide ((ix l k).cents < 0)))))) rfl (og rfl (op_bin rfl rfl rfl (b_lss _ _ _ _) rfl)) ?_
      refine rg_put (d := 19) (v := .d (.fl (.bool ((decide ((ix l k).cents < 0)))))) rfl (og rfl (op_move rfl rfl rfl)) ?_
      rcases fot ((decide ((ix l k).cents < 0))) with h6 | h6
      · skip
        have h7 := f_dec h6
        refine rg_put (d := 20) (v := .d (.sl 7 (List.map eCg l))) rfl (oy rfl rfl rfl h6 (op_move rfl rfl rfl)) ?_
        refine rg_put (d := 21) (v := .d (.fl (.int .i64 (k : Int)))) rfl (oy rfl rfl rfl h6 (op_move rfl rfl rfl)) ?_
        refine rg_put (d := 22) (v := .el ((eCg (ix l k)))) rfl (oy rfl rfl rfl h6 (s_index rfl Tryd.underlying34 ti26 rfl rfl (by omega) (row_at (by omega)) rfl)) ?_
        refine rg_put (d := 23) (v := .el ((List.drop 6 ((eCg (ix l k)))))) rfl (oy rfl rfl rfl h6 (of_eff (s_field_el rfl Tryd.underlying26 rfl ti3 rfl rfl rfl) rfl)) ?_
        refine rg_put (d := 24) (v := .d (.fl (.int .i64 ((ix l k).cents)))) rfl (oy rfl rfl rfl h6 (op_load_el rfl Tryd.underlying3 rfl rfl rfl rfl)) ?_
        refine rg_put (d := 25) (v := .d (.fl (.bool ((decide (1125899906842624 < (ix l k).cents)))))) rfl (oy rfl rfl rfl h6 (op_bin rfl rfl rfl (b_gtr _ _ _ _) rfl)) ?_
        refine rg_put (d := 26) (v := .d (.fl (.bool ((decide (1125899906842624 < (ix l k).cents)))))) rfl (og rfl (op_pick rfl rfl (by rw [h6]; rfl) rfl)) ?_
        refine rg_done rfl ?_
        refine a_cond rfl (fun h8 => ?_) (fun h8 => ?_)
        · skip
          have h9 := t_dec h8
          refine a_rseq ?_
          refine rg_put (d := 2) (v := .d (.fl (.bool false))) rfl (og rfl (op_assign rfl rfl rfl)) ?_
          refine rg_done rfl ?_
          refine a_ret ?_
          show ∃ ds, ResL _ _ _ ds ∧ RV.of ds = _
          refine ⟨[.fl (.bool false)], (.cons (.tmp rfl (.d _)) .nil), ?_⟩
          have hx : amo (ix l k).cents = false := by rw [Bool.eq_false_iff]; intro h; have := amo_t h; omega
          rw [fitL_no (by omega) hx]; rfl
        · skip
          have h10 := f_dec h8
          refine a_skip ?_
          show A _ _ _ _ _ _ _
          refine a_region ?_
          refine rg_put (d := 11) (v := .d (.fl (.int .i64 (k : Int)))) rfl (og rfl (op_move rfl rfl rfl)) ?_
          refine rg_put (d := 12) (v := .d (.fl (.int .i64 (((k : Int) + 1))))) rfl (og rfl (op_bin rfl rfl rfl (fun x y w => b_add64 _ _ _ x y w (by omega)) rfl)) ?_
          refine rg_put (d := 3) (v := .d (.fl (.int .i64 (((k : Int) + 1))))) rfl (og rfl (op_assign rfl rfl rfl)) ?_
          refine rg_done rfl ?_
          have hx : amo (ix l k).cents = true := by simp [amo]; omega
          show ∃ i, _ ∧ _ ∧ Imp _ _ _ _ _
          refine ⟨k + 1, ⟨by omega, fun q h => (Nat.lt_succ_iff_lt_or_eq.1 h).elim (hq q) (fun e => by rw [e]; exact hx)⟩, by omega, imp_forget rfl ⟨rfl, rfl, (by first | rfl | exact ci (by omega) | exact ci (by simp) | exact cd (by simp) | simp), trivial⟩ trivial⟩
      · skip
        have h11 := t_dec h6
        refine rg_put (d := 20) (v := .d (.fl undef)) rfl (on rfl rfl rfl h6) ?_
        refine rg_put (d := 21) (v := .d (.fl undef)) rfl (on rfl rfl rfl h6) ?_
        refine rg_put (d := 22) (v := .d (.fl undef)) rfl (on rfl rfl rfl h6) ?_
        refine rg_put (d := 23) (v := .d (.fl undef)) rfl (on rfl rfl rfl h6) ?_
        refine rg_put (d := 24) (v := .d (.fl undef)) rfl (on rfl rfl rfl h6) ?_
        refine rg_put (d := 25) (v := .d (.fl undef)) rfl (on rfl rfl rfl h6) ?_
        refine rg_put (d := 26) (v := .d (.fl (.bool true))) rfl (og rfl (op_pick rfl rfl (by rw [h6]; rfl) rfl)) ?_
        refine rg_done rfl ?_
        refine a_condK rfl rfl ?_
        refine a_rseq ?_
        refine rg_put (d := 2) (v := .d (.fl (.bool false))) rfl (og rfl (op_assign rfl rfl rfl)) ?_
        refine rg_done rfl ?_
        refine a_ret ?_
        show ∃ ds, ResL _ _ _ ds ∧ RV.of ds = _
        refine ⟨[.fl (.bool false)], (.cons (.tmp rfl (.d _)) .nil), ?_⟩
        have hx : amo (ix l k).cents = false := by rw [Bool.eq_false_iff]; intro h; have := amo_t h; omega
        rw [fitL_no (by omega) hx]; rfl
    · skip
      have h12 := f_dec h4
      refine a_exit ?_
      show A _ _ _ _ _ _ _
      refine a_rseq ?_
      refine rg_put (d := 2) (v := .d (.fl (.bool true))) rfl (og rfl (op_assign rfl rfl rfl)) ?_
      refine rg_done rfl ?_
      refine a_ret ?_
      show ∃ ds, ResL _ _ _ ds ∧ RV.of ds = _
      refine ⟨[.fl (.bool true)], (.cons (.tmp rfl (.d _)) .nil), ?_⟩
      rw [fitL_yes h1 (fun q h => hq q (by omega))]; rfl
set_option maxHeartbeats 4000000 in
set_option maxRecDepth 100000 in
theorem lft13 (c : Ca) (l : List Cg) (t : Int) (hl : l.length ≤ 60) (hf : ∀ q, q < l.length → 0 ≤ (ix l q).cents ∧ (ix l q).cents ≤ 1125899906842624) (hc : 0 ≤ c.cents ∧ c.cents ≤ 1125899906842624) : CtrK Tryd.prog KK 13 [.ag (eCa c), .sl 7 (List.map eCg l), .fl (.int .i64 t)] (.d (.fl (.int .i64 (lft c l t)))) := by
  refine ctrK (n := 43) (rs := #[.tmp 6]) (L := [(0, .d (.ag (eCa c))), (1, .d (.sl 7 (List.map eCg l))), (2, .d (.fl (.int .i64 t)))]) Tryd.func13 rfl rfl rfl rfl rfl (fun w0 U0 hG => ?_)
  refine a_rseq ?_
  refine rg_nam (d := 3) (v := .pt 101 0) (m := 101) (nw := [(101, .bx 23 (eCa c))]) rfl (og rfl (of_eff (op_box 101 rfl rfl rfl rfl) rfl)) rfl ?_
  refine rg_put (d := 6) (v := .d (.fl (.int .i64 0))) rfl (og rfl (op_assign rfl rfl rfl)) ?_
  refine rg_done rfl ?_
  refine a_rseq ?_
  refine rg_put (d := 11) (v := .d (.ag (eCa c))) rfl (og rfl (of_eff (s_load_pts rfl Tryd.underlying23 rfl ti23 rfl rfl rfl rfl) rfl)) ?_
  refine rg_put (d := 12) (v := .d (.fl (.int .i64 t))) rfl (og rfl (op_move rfl rfl rfl)) ?_
  refine rg_put (d := 13) (v := .d (.fl (.int .i64 (per c t)))) rfl (og rfl (op_callK kkst hG rfl Tryd.func9 nm9 rfl (.cons rfl (.d _) (.cons rfl (.d _) .nil)) (per9 c t) rfl)) ?_
  refine rg_put (d := 7) (v := .d (.fl (.int .i64 (per c t)))) rfl (og rfl (op_assign rfl rfl rfl)) ?_
  refine rg_done rfl ?_
  refine a_seq ?_
  refine a_rseq ?_
  refine rg_put (d := 14) (v := .d (.fl (.int .i64 (per c t)))) rfl (og rfl (op_move rfl rfl rfl)) ?_
  refine rg_put (d := 15) (v := .d (.fl (.bool (((per c t) == (-1)))))) rfl (og rfl (op_bin rfl rfl rfl (b_eql _ _ _ _) rfl)) ?_
  refine rg_done rfl ?_
  refine a_cond rfl (fun h1 => ?_) (fun h1 => ?_)
  · skip
    have h2 := t_beq h1
    refine a_rseq ?_
    refine rg_put (d := 6) (v := .d (.fl (.int .i64 0))) rfl (og rfl (op_assign rfl rfl rfl)) ?_
    refine rg_done rfl ?_
    refine a_ret ?_
    show ∃ ds, ResL _ _ _ ds ∧ RV.of ds = _
    refine ⟨[.fl (.int .i64 0)], (.cons (.tmp rfl (.d _)) .nil), ?_⟩
    have hu : lft c l t = 0 := by unfold lft; rw [h1]; rfl
    rw [hu]; rfl
  · skip
    have h3 := f_beq h1
    refine a_skip ?_
    show A _ _ _ _ _ _ _
    refine a_rseq ?_
    refine rg_put (d := 16) (v := .pt 101 3) rfl (og rfl (of_eff (s_field_pt rfl Tryd.underlying23 rfl ti3 rfl rfl rfl) rfl)) ?_
    refine rg_put (d := 17) (v := .d (.fl (.int .i64 c.cents))) rfl (og rfl (op_load_pt rfl Tryd.underlying3 rfl rfl rfl rfl rfl)) ?_
    refine rg_put (d := 18) (v := .d (.fl (.int .i64 (max c.cents 0)))) rfl (og rfl (op_max rfl rfl rfl rfl)) ?_
    refine rg_put (d := 8) (v := .d (.fl (.int .i64 (max c.cents 0)))) rfl (og rfl (op_assign rfl rfl rfl)) ?_
    refine rg_done rfl ?_
    refine a_seq ?_
    refine a_rseq ?_
    refine rg_put (d := 19) (v := .d (.sl 7 (List.map eCg l))) rfl (og rfl (op_move rfl rfl rfl)) ?_
    refine rg_put (d := 20) (v := .d (.fl (.int .i64 (l.length : Int)))) rfl (og rfl (s_len rfl Tryd.underlying34 rfl rfl)) ?_
    refine rg_put (d := 21) (v := .d (.fl (.int .i64 0))) rfl (og rfl (op_move rfl rfl rfl)) ?_
    refine rg_done rfl ?_
    refine a_block ?_
    refine a_loop (ι := Nat) (fun k => SS [(0, .d (.ag (eCa c))), (1, .d (.sl 7 (List.map eCg l))), (2, .d (.fl (.int .i64 t))), (3, .pt 101 0), (6, .d (.fl (.int .i64 0))), (7, .d (.fl (.int .i64 (per c t)))), (15, .d (.fl (.bool (((per c t) == (-1)))))), (19, .d (.sl 7 (List.map eCg l))), (20, .d (.fl (.int .i64 (l.length : Int)))), (21, .d (.fl (.int .i64 (k : Int)))), (8, .d (.fl (.int .i64 ((max (c.cents - (sl c l (per c t) k)) 0)))))] [(101, .bx 23 (eCa c))]) (fun k => k ≤ l.length) (fun k => l.length - k) 0 (by omega) (imp_forget rfl ⟨rfl, rfl, rfl, rfl, rfl, rfl, rfl, rfl, rfl, (by first | rfl | exact ci (by omega) | exact ci (by simp) | exact cd (by simp) | simp), (congrArg (fun z => AV.d (.fl (.int .i64 z))) (by simp [sl])), trivial⟩ ⟨rfl, trivial⟩) (fun k hok => ?_)
    have hk := hok
    refine a_rseq ?_
    refine rg_put (d := 22) (v := .d (.fl (.bool ((decide ((k : Int) < (l.length : Int))))))) rfl (og rfl (op_bin rfl rfl rfl (b_lss _ _ _ _) rfl)) ?_
    refine rg_done rfl ?_
    refine a_seq ?_
    refine a_cond rfl (fun h4 => ?_) (fun h4 => ?_)
    · skip
      have h5 := t_dec h4
      refine a_skip ?_
      show A _ _ _ _ _ _ _
      refine a_seq ?_
      refine a_block ?_
      refine a_rseq ?_
      refine rg_put (d := 23) (v := .el ((eCg (ix l k)))) rfl (og rfl (s_index rfl Tryd.underlying34 ti26 rfl rfl (by omega) (row_at (by omega)) rfl)) ?_
      refine rg_put (d := 24) (v := .d (.ag (eCg (ix l k)))) rfl (og rfl (of_eff (s_load_els rfl Tryd.underlying26 rfl ti26 rfl rfl rfl) rfl)) ?_
      refine rg_nam (d := 10) (v := .pt 102 0) (m := 102) (nw := [(102, .bx 26 ([.fl (.string (⟨#[]⟩)), .fl (.string (⟨#[]⟩)), .fl (.string (⟨#[]⟩)), .fl (.int .i64 0), .fl (.int .i64 0), .fl (.slice none 0 0), .fl (.int .i64 0)]))]) rfl (og rfl (of_eff (s_alloc 102 rfl ti26 (by kernel_rfl) rfl) rfl)) rfl ?_
      refine rg_sto (nw := [(102, .bx 26 ((eCg (ix l k))))]) rfl (og rfl (of_eff (s_store rfl rfl ti26 rfl rfl rfl rfl rfl rfl) rfl)) ?_
      refine rg_done rfl ?_
      refine a_rseq ?_
      have hin := sl_in (c := c) (p := per c t) hf k hk
      have hfk := hf k (by omega)
      refine rg_put (d := 25) (v := .d (.ag (eCa c))) rfl (og rfl (of_eff (s_load_pts rfl Tryd.underlying23 rfl ti23 rfl rfl rfl rfl) rfl)) ?_
      refine rg_put (d := 26) (v := .d (.ag (eCg (ix l k)))) rfl (og rfl (of_eff (s_load_pts rfl Tryd.underlying26 rfl ti26 rfl rfl rfl rfl) rfl)) ?_
      refine rg_put (d := 27) (v := .d (.fl (.bool ((mt c (ix l k)))))) rfl (og rfl (op_call rfl Tryd.func7 nm7 rfl (.cons rfl (.d _) (.cons rfl (.d _) .nil)) (mt7 c (ix l k)) rfl)) ?_
      refine rg_put (d := 28) (v := .d (.fl (.bool ((mt c (ix l k)))))) rfl (og rfl (op_move rfl rfl rfl)) ?_
      rcases fot ((mt c (ix l k))) with h6 | h6
      · skip
        refine rg_put (d := 29) (v := .d (.fl undef)) rfl (on rfl rfl rfl h6) ?_
        refine rg_put (d := 30) (v := .d (.fl undef)) rfl (on rfl rfl rfl h6) ?_
        refine rg_put (d := 31) (v := .d (.fl undef)) rfl (on rfl rfl rfl h6) ?_
        refine rg_put (d := 32) (v := .d (.fl undef)) rfl (on rfl rfl rfl h6) ?_
        refine rg_put (d := 33) (v := .d (.fl undef)) rfl (on rfl rfl rfl h6) ?_
        refine rg_put (d := 34) (v := .d (.fl undef)) rfl (on rfl rfl rfl h6) ?_
        refine rg_put (d := 35) (v := .d (.fl (.bool false))) rfl (og rfl (op_pick rfl rfl (by rw [h6]; rfl) rfl)) ?_
        refine rg_done rfl ?_
        refine a_condF rfl rfl ?_
        refine a_skip ?_
        show A _ _ _ _ _ _ _
        refine a_region ?_
        refine rg_put (d := 41) (v := .d (.fl (.int .i64 (((k : Int) + 1))))) rfl (og rfl (op_bin rfl rfl rfl (fun x y w => b_add64 _ _ _ x y w (by omega)) rfl)) ?_
        refine rg_put (d := 21) (v := .d (.fl (.int .i64 (((k : Int) + 1))))) rfl (og rfl (op_move rfl rfl rfl)) ?_
        refine rg_done rfl ?_
        show ∃ i, _ ∧ _ ∧ Imp _ _ _ _ _
        refine ⟨k + 1, (by omega), by omega, imp_forget rfl ⟨rfl, rfl, rfl, rfl, rfl, rfl, rfl, rfl, rfl, (by first | rfl | exact ci (by omega) | exact ci (by simp) | exact cd (by simp) | simp), (congrArg (fun z => AV.d (.fl (.int .i64 z))) (by rw [sl_no (.inl h6)] <;> omega)), trivial⟩ ⟨rfl, trivial⟩⟩
      · skip
        refine rg_put (d := 29) (v := .d (.ag (eCa c))) rfl (oy rfl rfl rfl h6 (of_eff (s_load_pts rfl Tryd.underlying23 rfl ti23 rfl rfl rfl rfl) rfl)) ?_
        refine rg_put (d := 30) (v := .pt 102 4) rfl (oy rfl rfl rfl h6 (of_eff (s_field_pt rfl Tryd.underlying26 rfl ti3 rfl rfl rfl) rfl)) ?_
        refine rg_put (d := 31) (v := .d (.fl (.int .i64 ((ix l k).time)))) rfl (oy rfl rfl rfl h6 (op_load_pt rfl Tryd.underlying3 rfl rfl rfl rfl rfl)) ?_
        refine rg_put (d := 32) (v := .d (.fl (.int .i64 ((per c ((ix l k).time)))))) rfl (oy rfl rfl rfl h6 (op_callK kkst hG rfl Tryd.func9 nm9 rfl (.cons rfl (.d _) (.cons rfl (.d _) .nil)) (per9 c ((ix l k).time)) rfl)) ?_
        refine rg_put (d := 33) (v := .d (.fl (.int .i64 (per c t)))) rfl (oy rfl rfl rfl h6 (op_move rfl rfl rfl)) ?_
        refine rg_put (d := 34) (v := .d (.fl (.bool (((per c ((ix l k).time)) == (per c t)))))) rfl (oy rfl rfl rfl h6 (op_bin rfl rfl rfl (b_eql _ _ _ _) rfl)) ?_
        refine rg_put (d := 35) (v := .d (.fl (.bool (((per c ((ix l k).time)) == (per c t)))))) rfl (og rfl (op_pick rfl rfl (by rw [h6]; rfl) rfl)) ?_
        refine rg_done rfl ?_
        refine a_cond rfl (fun h7 => ?_) (fun h7 => ?_)
        · skip
          have h8 := t_beq h7
          refine a_region ?_
          refine rg_put (d := 36) (v := .d (.fl (.int .i64 ((max (c.cents - (sl c l (per c t) k)) 0))))) rfl (og rfl (op_move rfl rfl rfl)) ?_
          refine rg_put (d := 37) (v := .pt 102 6) rfl (og rfl (of_eff (s_field_pt rfl Tryd.underlying26 rfl ti3 rfl rfl rfl) rfl)) ?_
          refine rg_put (d := 38) (v := .d (.fl (.int .i64 ((ix l k).cents)))) rfl (og rfl (op_load_pt rfl Tryd.underlying3 rfl rfl rfl rfl rfl)) ?_
          refine rg_put (d := 39) (v := .d (.fl (.int .i64 (((max (c.cents - (sl c l (per c t) k)) 0) - (ix l k).cents))))) rfl (og rfl (op_bin rfl rfl rfl (fun x y w => b_sub64 _ _ _ x y w (by omega)) rfl)) ?_
          refine rg_put (d := 40) (v := .d (.fl (.int .i64 ((max (((max (c.cents - (sl c l (per c t) k)) 0) - (ix l k).cents)) 0))))) rfl (og rfl (op_max rfl rfl rfl rfl)) ?_
          refine rg_put (d := 8) (v := .d (.fl (.int .i64 ((max (((max (c.cents - (sl c l (per c t) k)) 0) - (ix l k).cents)) 0))))) rfl (og rfl (op_assign rfl rfl rfl)) ?_
          refine rg_done rfl ?_
          show A _ _ _ _ _ _ _
          refine a_region ?_
          refine rg_put (d := 41) (v := .d (.fl (.int .i64 (((k : Int) + 1))))) rfl (og rfl (op_bin rfl rfl rfl (fun x y w => b_add64 _ _ _ x y w (by omega)) rfl)) ?_
          refine rg_put (d := 21) (v := .d (.fl (.int .i64 (((k : Int) + 1))))) rfl (og rfl (op_move rfl rfl rfl)) ?_
          refine rg_done rfl ?_
          show ∃ i, _ ∧ _ ∧ Imp _ _ _ _ _
          refine ⟨k + 1, (by omega), by omega, imp_forget rfl ⟨rfl, rfl, rfl, rfl, rfl, rfl, rfl, rfl, rfl, (by first | rfl | exact ci (by omega) | exact ci (by simp) | exact cd (by simp) | simp), (congrArg (fun z => AV.d (.fl (.int .i64 z))) (by rw [sl_yes h6 h7] <;> omega)), trivial⟩ ⟨rfl, trivial⟩⟩
        · skip
          have h9 := f_beq h7
          refine a_skip ?_
          show A _ _ _ _ _ _ _
          refine a_region ?_
          refine rg_put (d := 41) (v := .d (.fl (.int .i64 (((k : Int) + 1))))) rfl (og rfl (op_bin rfl rfl rfl (fun x y w => b_add64 _ _ _ x y w (by omega)) rfl)) ?_
          refine rg_put (d := 21) (v := .d (.fl (.int .i64 (((k : Int) + 1))))) rfl (og rfl (op_move rfl rfl rfl)) ?_
          refine rg_done rfl ?_
          show ∃ i, _ ∧ _ ∧ Imp _ _ _ _ _
          refine ⟨k + 1, (by omega), by omega, imp_forget rfl ⟨rfl, rfl, rfl, rfl, rfl, rfl, rfl, rfl, rfl, (by first | rfl | exact ci (by omega) | exact ci (by simp) | exact cd (by simp) | simp), (congrArg (fun z => AV.d (.fl (.int .i64 z))) (by rw [sl_no (.inr h7)] <;> omega)), trivial⟩ ⟨rfl, trivial⟩⟩
    · skip
      have h10 := f_dec h4
      refine a_exit ?_
      show A _ _ _ _ _ _ _
      refine a_rseq ?_
      refine rg_put (d := 42) (v := .d (.fl (.int .i64 ((max (c.cents - (sl c l (per c t) k)) 0))))) rfl (og rfl (op_move rfl rfl rfl)) ?_
      refine rg_put (d := 6) (v := .d (.fl (.int .i64 ((max (c.cents - (sl c l (per c t) k)) 0))))) rfl (og rfl (op_assign rfl rfl rfl)) ?_
      refine rg_done rfl ?_
      refine a_ret ?_
      show ∃ ds, ResL _ _ _ ds ∧ RV.of ds = _
      refine ⟨[.fl (.int .i64 ((max (c.cents - (sl c l (per c t) k)) 0)))], (.cons (.tmp rfl (.d _)) .nil), ?_⟩
      have hkl : k = l.length := by omega
      have hu : lft c l t = max (c.cents - (sl c l (per c t) k)) 0 := by unfold lft; rw [h1, hkl]; rfl
      rw [hu]; rfl
set_option maxHeartbeats 4000000 in
set_option maxRecDepth 100000 in
theorem lft14 (c : Ca) (l : List Cg) (t : Int) (hl : l.length ≤ 60) (hf : ∀ q, q < l.length → 0 ≤ (ix l q).cents ∧ (ix l q).cents ≤ 1125899906842624) (hc : 0 ≤ c.cents ∧ c.cents ≤ 1125899906842624) : Ctr Tryd.prog 14 [.ag (eCa c), .sl 7 (List.map eCg l), .fl (.int .i64 t)] (.d (.fl (.int .i64 (lft c l t)))) := by
  refine ctr (n := 49) (rs := #[.tmp 6]) (L := [(0, .d (.ag (eCa c))), (1, .d (.sl 7 (List.map eCg l))), (2, .d (.fl (.int .i64 t)))]) Tryd.func14 rfl rfl rfl rfl rfl (fun w0 U0 => ?_)
  refine a_rseq ?_
  refine rg_nam (d := 3) (v := .pt 101 0) (m := 101) (nw := [(101, .bx 23 (eCa c))]) rfl (og rfl (of_eff (op_box 101 rfl rfl rfl rfl) rfl)) rfl ?_
  refine rg_put (d := 6) (v := .d (.fl (.int .i64 0))) rfl (og rfl (op_assign rfl rfl rfl)) ?_
  refine rg_done rfl ?_
  refine a_rseq ?_
  refine rg_put (d := 10) (v := .d (.ag (eCa c))) rfl (og rfl (of_eff (s_load_pts rfl Tryd.underlying23 rfl ti23 rfl rfl rfl rfl) rfl)) ?_
  refine rg_put (d := 11) (v := .d (.fl (.int .i64 t))) rfl (og rfl (op_move rfl rfl rfl)) ?_
  refine rg_put (d := 12) (v := .d (.fl (.int .i64 (per c t)))) rfl (og rfl (op_call rfl Tryd.func10 nm10 rfl (.cons rfl (.d _) (.cons rfl (.d _) .nil)) (per10 c t) rfl)) ?_
  refine rg_put (d := 7) (v := .d (.fl (.int .i64 (per c t)))) rfl (og rfl (op_assign rfl rfl rfl)) ?_
  refine rg_done rfl ?_
  refine a_seq ?_
  refine a_rseq ?_
  refine rg_put (d := 13) (v := .d (.fl (.int .i64 (per c t)))) rfl (og rfl (op_move rfl rfl rfl)) ?_
  refine rg_put (d := 14) (v := .d (.fl (.bool ((decide ((per c t) < 0)))))) rfl (og rfl (op_bin rfl rfl rfl (b_lss _ _ _ _) rfl)) ?_
  refine rg_done rfl ?_
  refine a_cond rfl (fun h1 => ?_) (fun h1 => ?_)
  · skip
    have h2 := t_dec h1
    refine a_rseq ?_
    refine rg_put (d := 6) (v := .d (.fl (.int .i64 0))) rfl (og rfl (op_assign rfl rfl rfl)) ?_
    refine rg_done rfl ?_
    refine a_ret ?_
    show ∃ ds, ResL _ _ _ ds ∧ RV.of ds = _
    refine ⟨[.fl (.int .i64 0)], (.cons (.tmp rfl (.d _)) .nil), ?_⟩
    have hpg := per_ge c t
    have hpm : (per c t == -1) = true := by simp; omega
    have hu : lft c l t = 0 := by unfold lft; rw [hpm]; rfl
    rw [hu]; rfl
  · skip
    have h3 := f_dec h1
    refine a_skip ?_
    show A _ _ _ _ _ _ _
    refine a_rseq ?_
    refine rg_put (d := 15) (v := .pt 101 3) rfl (og rfl (of_eff (s_field_pt rfl Tryd.underlying23 rfl ti3 rfl rfl rfl) rfl)) ?_
    refine rg_put (d := 16) (v := .d (.fl (.int .i64 c.cents))) rfl (og rfl (op_load_pt rfl Tryd.underlying3 rfl rfl rfl rfl rfl)) ?_
    refine rg_put (d := 8) (v := .d (.fl (.int .i64 c.cents))) rfl (og rfl (op_assign rfl rfl rfl)) ?_
    refine rg_done rfl ?_
    refine a_seq ?_
    refine a_rseq ?_
    refine rg_put (d := 9) (v := .d (.fl (.int .i64 0))) rfl (og rfl (op_assign rfl rfl rfl)) ?_
    refine rg_done rfl ?_
    refine a_block ?_
    refine a_loop (ι := Nat) (fun k => SS [(0, .d (.ag (eCa c))), (1, .d (.sl 7 (List.map eCg l))), (2, .d (.fl (.int .i64 t))), (3, .pt 101 0), (6, .d (.fl (.int .i64 0))), (7, .d (.fl (.int .i64 (per c t)))), (14, .d (.fl (.bool ((decide ((per c t) < 0)))))), (9, .d (.fl (.int .i64 (k : Int)))), (8, .d (.fl (.int .i64 ((c.cents - (sl c l (per c t) k))))))] [(101, .bx 23 (eCa c))]) (fun k => k ≤ l.length) (fun k => l.length - k) 0 (by omega) (imp_forget rfl ⟨rfl, rfl, rfl, rfl, rfl, rfl, rfl, (by first | rfl | exact ci (by omega) | exact ci (by simp) | exact cd (by simp) | simp), (congrArg (fun z => AV.d (.fl (.int .i64 z))) (by simp [sl])), trivial⟩ ⟨rfl, trivial⟩) (fun k hok => ?_)
    have hk := hok
    refine a_seq ?_
    refine a_rseq ?_
    refine rg_put (d := 17) (v := .d (.fl (.int .i64 (k : Int)))) rfl (og rfl (op_move rfl rfl rfl)) ?_
    refine rg_put (d := 18) (v := .d (.sl 7 (List.map eCg l))) rfl (og rfl (op_move rfl rfl rfl)) ?_
    refine rg_put (d := 19) (v := .d (.fl (.int .i64 (l.length : Int)))) rfl (og rfl (s_len rfl Tryd.underlying34 rfl rfl)) ?_
    refine rg_put (d := 20) (v := .d (.fl (.bool ((decide ((k : Int) < (l.length : Int))))))) rfl (og rfl (op_bin rfl rfl rfl (b_lss _ _ _ _) rfl)) ?_
    refine rg_done rfl ?_
    refine a_cond rfl (fun h4 => ?_) (fun h4 => ?_)
    · skip
      have h5 := t_dec h4
      refine a_skip ?_
      show A _ _ _ _ _ _ _
      refine a_seq ?_
      refine a_block ?_
      refine a_dseq (by kernel_rfl) ?_
      have hin := sl_in (c := c) (p := per c t) hf k hk
      have hfk := hf k (by omega)
      refine dr_put (d := 23) (v := .d (.ag (eCa c))) rfl (og rfl (of_eff (s_load_pts rfl Tryd.underlying23 rfl ti23 rfl rfl rfl rfl) rfl)) ?_
      refine dr_put (d := 24) (v := .d (.sl 7 (List.map eCg l))) rfl (og rfl (op_move rfl rfl rfl)) ?_
      refine dr_put (d := 25) (v := .d (.fl (.int .i64 (k : Int)))) rfl (og rfl (op_move rfl rfl rfl)) ?_
      refine dr_put (d := 26) (v := .el ((eCg (ix l k)))) rfl (og rfl (s_index rfl Tryd.underlying34 ti26 rfl rfl (by omega) (row_at (by omega)) rfl)) ?_
      refine dr_put (d := 27) (v := .d (.ag (eCg (ix l k)))) rfl (og rfl (of_eff (s_load_els rfl Tryd.underlying26 rfl ti26 rfl rfl rfl) rfl)) ?_
      refine dr_put (d := 28) (v := .d (.fl (.bool ((mt c (ix l k)))))) rfl (og rfl (op_call rfl Tryd.func8 nm8 rfl (.cons rfl (.d _) (.cons rfl (.d _) .nil)) (mt8 c (ix l k)) rfl)) ?_
      refine dr_put (d := 29) (v := .d (.fl (.bool ((mt c (ix l k)))))) rfl (og rfl (op_move rfl rfl rfl)) ?_
      rcases fot ((mt c (ix l k))) with h6 | h6
      · skip
        refine dr_put (d := 30) (v := .d (.fl undef)) rfl (on rfl rfl rfl h6) ?_
        refine dr_put (d := 31) (v := .d (.fl undef)) rfl (on rfl rfl rfl h6) ?_
        refine dr_put (d := 32) (v := .d (.fl undef)) rfl (on rfl rfl rfl h6) ?_
        refine dr_put (d := 33) (v := .d (.fl undef)) rfl (on rfl rfl rfl h6) ?_
        refine dr_put (d := 34) (v := .d (.fl undef)) rfl (on rfl rfl rfl h6) ?_
        refine dr_put (d := 35) (v := .d (.fl undef)) rfl (on rfl rfl rfl h6) ?_
        refine dr_put (d := 36) (v := .d (.fl undef)) rfl (on rfl rfl rfl h6) ?_
        refine dr_put (d := 37) (v := .d (.fl undef)) rfl (on rfl rfl rfl h6) ?_
        refine dr_put (d := 38) (v := .d (.fl undef)) rfl (on rfl rfl rfl h6) ?_
        refine dr_put (d := 39) (v := .d (.fl (.bool false))) rfl (og rfl (op_pick rfl rfl (by rw [h6]; rfl) rfl)) ?_
        refine dr_done rfl (sepB_of [0, 0, 0, 6, 14, 31, 63, 127, 127, 127, 895, 1919, 3967, 8191, 127, 32767, 65535] (by kernel_rfl)) (by kernel_rfl) ?_
        refine a_condF rfl rfl ?_
        refine a_skip ?_
        show A _ _ _ _ _ _ _
        refine a_region ?_
        refine rg_put (d := 21) (v := .d (.fl (.int .i64 (k : Int)))) rfl (og rfl (op_move rfl rfl rfl)) ?_
        refine rg_put (d := 22) (v := .d (.fl (.int .i64 (((k : Int) + 1))))) rfl (og rfl (op_bin rfl rfl rfl (fun x y w => b_add64 _ _ _ x y w (by omega)) rfl)) ?_
        refine rg_put (d := 9) (v := .d (.fl (.int .i64 (((k : Int) + 1))))) rfl (og rfl (op_assign rfl rfl rfl)) ?_
        refine rg_done rfl ?_
        show ∃ i, _ ∧ _ ∧ Imp _ _ _ _ _
        refine ⟨k + 1, (by omega), by omega, imp_forget rfl ⟨rfl, rfl, rfl, rfl, rfl, rfl, rfl, (by first | rfl | exact ci (by omega) | exact ci (by simp) | exact cd (by simp) | simp), (congrArg (fun z => AV.d (.fl (.int .i64 z))) (by rw [sl_no (.inl h6)] <;> omega)), trivial⟩ ⟨rfl, trivial⟩⟩
      · skip
        refine dr_put (d := 30) (v := .d (.ag (eCa c))) rfl (oy rfl rfl rfl h6 (of_eff (s_load_pts rfl Tryd.underlying23 rfl ti23 rfl rfl rfl rfl) rfl)) ?_
        refine dr_put (d := 31) (v := .d (.sl 7 (List.map eCg l))) rfl (oy rfl rfl rfl h6 (op_move rfl rfl rfl)) ?_
        refine dr_put (d := 32) (v := .d (.fl (.int .i64 (k : Int)))) rfl (oy rfl rfl rfl h6 (op_move rfl rfl rfl)) ?_
        refine dr_put (d := 33) (v := .el ((eCg (ix l k)))) rfl (oy rfl rfl rfl h6 (s_index rfl Tryd.underlying34 ti26 rfl rfl (by omega) (row_at (by omega)) rfl)) ?_
        refine dr_put (d := 34) (v := .el ((List.drop 4 ((eCg (ix l k)))))) rfl (oy rfl rfl rfl h6 (of_eff (s_field_el rfl Tryd.underlying26 rfl ti3 rfl rfl rfl) rfl)) ?_
        refine dr_put (d := 35) (v := .d (.fl (.int .i64 ((ix l k).time)))) rfl (oy rfl rfl rfl h6 (op_load_el rfl Tryd.underlying3 rfl rfl rfl rfl)) ?_
        refine dr_put (d := 36) (v := .d (.fl (.int .i64 ((per c ((ix l k).time)))))) rfl (oy rfl rfl rfl h6 (op_call rfl Tryd.func10 nm10 rfl (.cons rfl (.d _) (.cons rfl (.d _) .nil)) (per10 c ((ix l k).time)) rfl)) ?_
        refine dr_put (d := 37) (v := .d (.fl (.int .i64 (per c t)))) rfl (oy rfl rfl rfl h6 (op_move rfl rfl rfl)) ?_
        refine dr_put (d := 38) (v := .d (.fl (.bool (((per c ((ix l k).time)) == (per c t)))))) rfl (oy rfl rfl rfl h6 (op_bin rfl rfl rfl (b_eql _ _ _ _) rfl)) ?_
        refine dr_put (d := 39) (v := .d (.fl (.bool (((per c ((ix l k).time)) == (per c t)))))) rfl (og rfl (op_pick rfl rfl (by rw [h6]; rfl) rfl)) ?_
        refine dr_done rfl (sepB_of [0, 0, 0, 6, 14, 31, 63, 127, 127, 127, 895, 1919, 3967, 8191, 127, 32767, 65535] (by kernel_rfl)) (by kernel_rfl) ?_
        refine a_cond rfl (fun h7 => ?_) (fun h7 => ?_)
        · skip
          have h8 := t_beq h7
          refine a_region ?_
          refine rg_put (d := 40) (v := .d (.fl (.int .i64 ((c.cents - (sl c l (per c t) k)))))) rfl (og rfl (op_move rfl rfl rfl)) ?_
          refine rg_put (d := 41) (v := .d (.sl 7 (List.map eCg l))) rfl (og rfl (op_move rfl rfl rfl)) ?_
          refine rg_put (d := 42) (v := .d (.fl (.int .i64 (k : Int)))) rfl (og rfl (op_move rfl rfl rfl)) ?_
          refine rg_put (d := 43) (v := .el ((eCg (ix l k)))) rfl (og rfl (s_index rfl Tryd.underlying34 ti26 rfl rfl (by omega) (row_at (by omega)) rfl)) ?_
          refine rg_put (d := 44) (v := .el ((List.drop 6 ((eCg (ix l k)))))) rfl (og rfl (of_eff (s_field_el rfl Tryd.underlying26 rfl ti3 rfl rfl rfl) rfl)) ?_
          refine rg_put (d := 45) (v := .d (.fl (.int .i64 ((ix l k).cents)))) rfl (og rfl (op_load_el rfl Tryd.underlying3 rfl rfl rfl rfl)) ?_
          refine rg_put (d := 46) (v := .d (.fl (.int .i64 (((c.cents - (sl c l (per c t) k)) - (ix l k).cents))))) rfl (og rfl (op_bin rfl rfl rfl (fun x y w => b_sub64 _ _ _ x y w (by omega)) rfl)) ?_
          refine rg_put (d := 8) (v := .d (.fl (.int .i64 (((c.cents - (sl c l (per c t) k)) - (ix l k).cents))))) rfl (og rfl (op_assign rfl rfl rfl)) ?_
          refine rg_done rfl ?_
          show A _ _ _ _ _ _ _
          refine a_region ?_
          refine rg_put (d := 21) (v := .d (.fl (.int .i64 (k : Int)))) rfl (og rfl (op_move rfl rfl rfl)) ?_
          refine rg_put (d := 22) (v := .d (.fl (.int .i64 (((k : Int) + 1))))) rfl (og rfl (op_bin rfl rfl rfl (fun x y w => b_add64 _ _ _ x y w (by omega)) rfl)) ?_
          refine rg_put (d := 9) (v := .d (.fl (.int .i64 (((k : Int) + 1))))) rfl (og rfl (op_assign rfl rfl rfl)) ?_
          refine rg_done rfl ?_
          show ∃ i, _ ∧ _ ∧ Imp _ _ _ _ _
          refine ⟨k + 1, (by omega), by omega, imp_forget rfl ⟨rfl, rfl, rfl, rfl, rfl, rfl, rfl, (by first | rfl | exact ci (by omega) | exact ci (by simp) | exact cd (by simp) | simp), (congrArg (fun z => AV.d (.fl (.int .i64 z))) (by rw [sl_yes h6 h7] <;> omega)), trivial⟩ ⟨rfl, trivial⟩⟩
        · skip
          have h9 := f_beq h7
          refine a_skip ?_
          show A _ _ _ _ _ _ _
          refine a_region ?_
          refine rg_put (d := 21) (v := .d (.fl (.int .i64 (k : Int)))) rfl (og rfl (op_move rfl rfl rfl)) ?_
          refine rg_put (d := 22) (v := .d (.fl (.int .i64 (((k : Int) + 1))))) rfl (og rfl (op_bin rfl rfl rfl (fun x y w => b_add64 _ _ _ x y w (by omega)) rfl)) ?_
          refine rg_put (d := 9) (v := .d (.fl (.int .i64 (((k : Int) + 1))))) rfl (og rfl (op_assign rfl rfl rfl)) ?_
          refine rg_done rfl ?_
          show ∃ i, _ ∧ _ ∧ Imp _ _ _ _ _
          refine ⟨k + 1, (by omega), by omega, imp_forget rfl ⟨rfl, rfl, rfl, rfl, rfl, rfl, rfl, (by first | rfl | exact ci (by omega) | exact ci (by simp) | exact cd (by simp) | simp), (congrArg (fun z => AV.d (.fl (.int .i64 z))) (by rw [sl_no (.inr h7)] <;> omega)), trivial⟩ ⟨rfl, trivial⟩⟩
    · skip
      have h10 := f_dec h4
      refine a_exit ?_
      show A _ _ _ _ _ _ _
      refine a_rseq ?_
      refine rg_put (d := 47) (v := .d (.fl (.int .i64 ((c.cents - (sl c l (per c t) k)))))) rfl (og rfl (op_move rfl rfl rfl)) ?_
      refine rg_put (d := 48) (v := .d (.fl (.int .i64 ((max ((c.cents - (sl c l (per c t) k))) 0))))) rfl (og rfl (op_max rfl rfl rfl rfl)) ?_
      refine rg_put (d := 6) (v := .d (.fl (.int .i64 ((max ((c.cents - (sl c l (per c t) k))) 0))))) rfl (og rfl (op_assign rfl rfl rfl)) ?_
      refine rg_done rfl ?_
      refine a_ret ?_
      show ∃ ds, ResL _ _ _ ds ∧ RV.of ds = _
      refine ⟨[.fl (.int .i64 ((max ((c.cents - (sl c l (per c t) k))) 0)))], (.cons (.tmp rfl (.d _)) .nil), ?_⟩
      have hpg := per_ge c t
      have hpm : (per c t == -1) = false := by simp; omega
      have hkl : k = l.length := by omega
      have hu : lft c l t = max (c.cents - (sl c l (per c t) k)) 0 := by unfold lft; rw [hpm, hkl]; rfl
      rw [hu]; rfl
set_option maxHeartbeats 4000000 in
set_option maxRecDepth 100000 in
theorem law4 (c : Ca) (l : List Cg) (t : Int) (hl : l.length ≤ 9223372036854775807) : CtrK Tryd.prog KK 4 [.ag (eCa c), .sl 7 (List.map eCg l), .fl (.int .i64 t)] (.d (.fl (.bool true))) := by
  refine ctrK (n := 27) (rs := #[.tmp 6]) (L := [(0, .d (.ag (eCa c))), (1, .d (.sl 7 (List.map eCg l))), (2, .d (.fl (.int .i64 t)))]) Tryd.func4 rfl rfl rfl rfl rfl (fun w0 U0 hG => ?_)
  refine a_rseq ?_
  refine rg_nam (d := 3) (v := .pt 101 0) (m := 101) (nw := [(101, .bx 23 (eCa c))]) rfl (og rfl (of_eff (op_box 101 rfl rfl rfl rfl) rfl)) rfl ?_
  refine rg_put (d := 6) (v := .d (.fl (.bool false))) rfl (og rfl (op_assign rfl rfl rfl)) ?_
  refine rg_done rfl ?_
  refine a_seq ?_
  refine a_rseq ?_
  refine rg_put (d := 7) (v := .d (.sl 7 (List.map eCg l))) rfl (og rfl (op_move rfl rfl rfl)) ?_
  refine rg_put (d := 8) (v := .d (.fl (.bool (fitL l)))) rfl (og rfl (op_call rfl Tryd.func12 nm12 rfl (.cons rfl (.d _) .nil) (fits12 l hl) rfl)) ?_
  refine rg_put (d := 9) (v := .d (.fl (.bool ((!(fitL l)))))) rfl (og rfl (op_un rfl rfl (u_not _) rfl)) ?_
  refine rg_put (d := 10) (v := .d (.fl (.bool ((!(fitL l)))))) rfl (og rfl (op_move rfl rfl rfl)) ?_
  rcases fot ((!(fitL l))) with h1 | h1
  · skip
    have h2 := f_not h1
    refine rg_put (d := 11) (v := .d (.ag (eCa c))) rfl (oy rfl rfl rfl h1 (of_eff (s_load_pts rfl Tryd.underlying23 rfl ti23 rfl rfl rfl rfl) rfl)) ?_
    refine rg_put (d := 12) (v := .d (.fl (.int .i64 (ck c)))) rfl (oy rfl rfl rfl h1 (op_call rfl Tryd.func6 nm6 rfl (.cons rfl (.d _) .nil) (ck6 c) rfl)) ?_
    refine rg_put (d := 13) (v := .d (.fl (.bool (((ck c) != 0))))) rfl (oy rfl rfl rfl h1 (op_bin rfl rfl rfl (b_neq _ _ _ _) rfl)) ?_
    refine rg_put (d := 14) (v := .d (.fl (.bool (((ck c) != 0))))) rfl (og rfl (op_pick rfl rfl (by rw [h1]; rfl) rfl)) ?_
    refine rg_done rfl ?_
    refine a_cond rfl (fun h3 => ?_) (fun h3 => ?_)
    · skip
      have h4 := t_bne h3
      refine a_rseq ?_
      refine rg_put (d := 6) (v := .d (.fl (.bool true))) rfl (og rfl (op_assign rfl rfl rfl)) ?_
      refine rg_done rfl ?_
      refine a_ret ?_
      show ∃ ds, ResL _ _ _ ds ∧ RV.of ds = _
      refine ⟨[.fl (.bool true)], (.cons (.tmp rfl (.d _)) .nil), ?_⟩
      rfl
    · skip
      have h5 := f_bne h3
      refine a_skip ?_
      show A _ _ _ _ _ _ _
      refine a_dseq (by kernel_rfl) ?_
      have hfl := fitL_t h2
      have hcc := ck_amo (f_bne h3)
      refine dr_put (d := 15) (v := .d (.ag (eCa c))) rfl (og rfl (of_eff (s_load_pts rfl Tryd.underlying23 rfl ti23 rfl rfl rfl rfl) rfl)) ?_
      refine dr_put (d := 16) (v := .d (.sl 7 (List.map eCg l))) rfl (og rfl (op_move rfl rfl rfl)) ?_
      refine dr_put (d := 17) (v := .d (.fl (.int .i64 t))) rfl (og rfl (op_move rfl rfl rfl)) ?_
      refine dr_put (d := 18) (v := .d (.fl (.int .i64 (lft c l t)))) rfl (og rfl (op_callK kkst hG rfl Tryd.func13 nm13 rfl (.cons rfl (.d _) (.cons rfl (.d _) (.cons rfl (.d _) .nil))) (lft13 c l t hfl.1 hfl.2 hcc) rfl)) ?_
      refine dr_put (d := 19) (v := .d (.ag (eCa c))) rfl (og rfl (of_eff (s_load_pts rfl Tryd.underlying23 rfl ti23 rfl rfl rfl rfl) rfl)) ?_
      refine dr_put (d := 20) (v := .d (.sl 7 (List.map eCg l))) rfl (og rfl (op_move rfl rfl rfl)) ?_
      refine dr_put (d := 21) (v := .d (.fl (.int .i64 t))) rfl (og rfl (op_move rfl rfl rfl)) ?_
      refine dr_put (d := 22) (v := .d (.fl (.int .i64 (lft c l t)))) rfl (og rfl (op_call rfl Tryd.func14 nm14 rfl (.cons rfl (.d _) (.cons rfl (.d _) (.cons rfl (.d _) .nil))) (lft14 c l t hfl.1 hfl.2 hcc) rfl)) ?_
      refine dr_put (d := 23) (v := .d (.fl (.bool (((lft c l t) == (lft c l t)))))) rfl (og rfl (op_bin rfl rfl rfl (b_eql _ _ _ _) rfl)) ?_
      refine dr_put (d := 24) (v := .d (.fl (.bool (((lft c l t) == (lft c l t)))))) rfl (og rfl (op_move rfl rfl rfl)) ?_
      refine dr_put (d := 25) (v := .d (.fl (.bool true))) rfl (oy rfl rfl rfl (eq_self_b _) (op_callK kkst hG rfl Tryd.func11 nm11 rfl .nil alive11 rfl)) ?_
      refine dr_put (d := 26) (v := .d (.fl (.bool true))) rfl (og rfl (op_pick rfl rfl (by rw [(eq_self_b _)]; rfl) rfl)) ?_
      refine dr_put (d := 6) (v := .d (.fl (.bool true))) rfl (og rfl (op_assign rfl rfl rfl)) ?_
      refine dr_done rfl (by kernel_rfl) (by kernel_rfl) ?_
      refine a_ret ?_
      show ∃ ds, ResL _ _ _ ds ∧ RV.of ds = _
      refine ⟨[.fl (.bool true)], (.cons (.tmp rfl (.d _)) .nil), ?_⟩
      rfl
  · skip
    have h6 := t_not h1
    refine rg_put (d := 11) (v := .d (.fl undef)) rfl (on rfl rfl rfl h1) ?_
    refine rg_put (d := 12) (v := .d (.fl undef)) rfl (on rfl rfl rfl h1) ?_
    refine rg_put (d := 13) (v := .d (.fl undef)) rfl (on rfl rfl rfl h1) ?_
    refine rg_put (d := 14) (v := .d (.fl (.bool true))) rfl (og rfl (op_pick rfl rfl (by rw [h1]; rfl) rfl)) ?_
    refine rg_done rfl ?_
    refine a_condK rfl rfl ?_
    refine a_rseq ?_
    refine rg_put (d := 6) (v := .d (.fl (.bool true))) rfl (og rfl (op_assign rfl rfl rfl)) ?_
    refine rg_done rfl ?_
    refine a_ret ?_
    show ∃ ds, ResL _ _ _ ds ∧ RV.of ds = _
    refine ⟨[.fl (.bool true)], (.cons (.tmp rfl (.d _)) .nil), ?_⟩
    rfl
end Go.Proofs.YteeofplcnnhcnaaDoor.Wk
