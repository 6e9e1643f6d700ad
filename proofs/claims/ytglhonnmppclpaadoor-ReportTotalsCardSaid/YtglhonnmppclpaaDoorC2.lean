/- The laws of days, cases and totals. Condition: the arguments read as data. -/
import Derived.Test.YtglhonnmppclpaaDoorC1
set_option linter.unusedSimpArgs false
set_option linter.unusedVariables false
namespace Go.Proofs.YtglhonnmppclpaaDoor.Wk
open Go Go.RowKit Go.Proofs.YtglhonnmppclpaaDoor.Av
theorem sa_lens {s : Sa} (ho : okSa s) : (s.res.chg.length ≤ 9223372036854775807 ∧ s.cfg.acc.length ≤ 9223372036854775807 ∧ s.books.led.e.length ≤ 9223372036854775807 ∧ s.cases.length ≤ 9223372036854775807 ∧ s.cfg.hol.length ≤ 9223372036854775807 ∧ s.cfg.law.days.length ≤ 9223372036854775807 ∧ s.cfg.law.fees.length ≤ 9223372036854775807) ∧ (∀ q, q < s.res.chg.length → okCg (ix s.res.chg q)) ∧ (∀ q, q < s.books.led.e.length → (ix s.books.led.e q).posts.length ≤ 9223372036854775807) ∧ (∀ q, q < s.books.led.e.length → (ix s.books.led.e q).key.size ≤ 140737488351232) ∧ (∀ q, q < s.cases.length → (ix s.cases q).id.size ≤ 140737488351232 ∧ (ix s.cases q).plate.size ≤ 140737488351232 ∧ (ix s.cases q).key.size ≤ 140737488351232) := by
  obtain ⟨hc, _, _, _, _, hr, hb, ⟨l4, oc⟩, _⟩ := ho
  obtain ⟨_, _, _, _, ⟨l1, rc⟩, _⟩ := hr
  obtain ⟨⟨l3, oe⟩, _⟩ := hb
  obtain ⟨_, _, _, _, _, _, _, _, _, _, _, _, ⟨l2, _⟩, _, ⟨l5, _⟩, ⟨⟨l6, _⟩, ⟨l7, _⟩, _⟩, _⟩ := hc
  exact ⟨⟨l1, l2, l3, l4, l5, l6, l7⟩, fun q hq => rc _ (ix_mem hq), fun q hq => (oe _ (ix_mem hq)).2.2.1, fun q hq => (oe _ (ix_mem hq)).1, fun q hq => ⟨(oc _ (ix_mem hq)).1, (oc _ (ix_mem hq)).2.1, (oc _ (ix_mem hq)).2.2.1⟩⟩

set_option maxHeartbeats 4000000 in
set_option maxRecDepth 100000 in
theorem small12 (s : Sa) (ho : okSa s) : Ctr Tryd.prog 12 [.ag (eSa s)] (.d (.fl (.bool (smB s)))) := by
  obtain ⟨⟨g1, g2, g3, g4, g5, g6, g7⟩, okc, oke, okk, okx⟩ := sa_lens ho
  refine ctr (n := 143) (rs := #[.tmp 2]) (L := [(0, .d (.ag (eSa s)))]) Tryd.func12 rfl rfl rfl rfl rfl (fun w0 U0 => ?_)
  refine a_rseq ?_
  refine rg_nam (d := 1) (v := .pt 101 0) (m := 101) (nw := [(101, .bx 70 (eSa s))]) rfl (og rfl (of_eff (op_box 101 rfl rfl rfl rfl) rfl)) rfl ?_
  refine rg_put (d := 2) (v := .d (.fl (.bool false))) rfl (og rfl (op_assign rfl rfl rfl)) ?_
  refine rg_done rfl ?_
  refine a_seq ?_
  refine a_rseq ?_
  refine rg_put (d := 9) (v := .pt 101 29) rfl (og rfl (of_eff (s_field_pt rfl Tryd.underlying70 rfl ti62 rfl rfl rfl) rfl)) ?_
  refine rg_put (d := 10) (v := .pt 101 33) rfl (og rfl (of_eff (s_field_pt rfl Tryd.underlying62 rfl ti59 rfl rfl rfl) rfl)) ?_
  refine rg_put (d := 11) (v := .d (.sl 7 (List.map eCg s.res.chg))) rfl (og rfl (op_load_pt rfl Tryd.underlying59 rfl rfl rfl rfl rfl)) ?_
  refine rg_put (d := 12) (v := .d (.fl (.int .i64 (s.res.chg.length : Int)))) rfl (og rfl (s_len rfl Tryd.underlying59 rfl rfl)) ?_
  refine rg_put (d := 13) (v := .d (.fl (.bool ((decide (40 < (s.res.chg.length : Int))))))) rfl (og rfl (op_bin rfl rfl rfl (b_gtr _ _ _ _) rfl)) ?_
  refine rg_put (d := 14) (v := .d (.fl (.bool ((decide (40 < (s.res.chg.length : Int))))))) rfl (og rfl (op_move rfl rfl rfl)) ?_
  rcases fot ((decide (40 < (s.res.chg.length : Int)))) with h1 | h1
  · skip
    have h2 := f_dec h1
    refine rg_put (d := 15) (v := .pt 101 0) rfl (oy rfl rfl rfl h1 (of_eff (s_field_pt rfl Tryd.underlying70 rfl ti52 rfl rfl rfl) rfl)) ?_
    refine rg_put (d := 16) (v := .pt 101 17) rfl (oy rfl rfl rfl h1 (of_eff (s_field_pt rfl Tryd.underlying52 rfl ti46 rfl rfl rfl) rfl)) ?_
    refine rg_put (d := 17) (v := .d (.sl 9 (List.map eAc s.cfg.acc))) rfl (oy rfl rfl rfl h1 (op_load_pt rfl Tryd.underlying46 rfl rfl rfl rfl rfl)) ?_
    refine rg_put (d := 18) (v := .d (.fl (.int .i64 (s.cfg.acc.length : Int)))) rfl (oy rfl rfl rfl h1 (s_len rfl Tryd.underlying46 rfl rfl)) ?_
    refine rg_put (d := 19) (v := .d (.fl (.bool ((decide (40 < (s.cfg.acc.length : Int))))))) rfl (oy rfl rfl rfl h1 (op_bin rfl rfl rfl (b_gtr _ _ _ _) rfl)) ?_
    refine rg_put (d := 20) (v := .d (.fl (.bool ((decide (40 < (s.cfg.acc.length : Int))))))) rfl (og rfl (op_pick rfl rfl (by rw [h1]; rfl) rfl)) ?_
    refine rg_put (d := 21) (v := .d (.fl (.bool ((decide (40 < (s.cfg.acc.length : Int))))))) rfl (og rfl (op_move rfl rfl rfl)) ?_
    rcases fot ((decide (40 < (s.cfg.acc.length : Int)))) with h3 | h3
    · skip
      have h4 := f_dec h3
      refine rg_put (d := 22) (v := .pt 101 35) rfl (oy rfl rfl rfl h3 (of_eff (s_field_pt rfl Tryd.underlying70 rfl ti67 rfl rfl rfl) rfl)) ?_
      refine rg_put (d := 23) (v := .pt 101 35) rfl (oy rfl rfl rfl h3 (of_eff (s_field_pt rfl Tryd.underlying67 rfl ti65 rfl rfl rfl) rfl)) ?_
      refine rg_put (d := 24) (v := .pt 101 35) rfl (oy rfl rfl rfl h3 (of_eff (s_field_pt rfl Tryd.underlying65 rfl ti63 rfl rfl rfl) rfl)) ?_
      refine rg_put (d := 25) (v := .d (.sl 3 (List.map eEn s.books.led.e))) rfl (oy rfl rfl rfl h3 (op_load_pt rfl Tryd.underlying63 rfl rfl rfl rfl rfl)) ?_
      refine rg_put (d := 26) (v := .d (.fl (.int .i64 (s.books.led.e.length : Int)))) rfl (oy rfl rfl rfl h3 (s_len rfl Tryd.underlying63 rfl rfl)) ?_
      refine rg_put (d := 27) (v := .d (.fl (.bool ((decide (40 < (s.books.led.e.length : Int))))))) rfl (oy rfl rfl rfl h3 (op_bin rfl rfl rfl (b_gtr _ _ _ _) rfl)) ?_
      refine rg_put (d := 28) (v := .d (.fl (.bool ((decide (40 < (s.books.led.e.length : Int))))))) rfl (og rfl (op_pick rfl rfl (by rw [h3]; rfl) rfl)) ?_
      refine rg_put (d := 29) (v := .d (.fl (.bool ((decide (40 < (s.books.led.e.length : Int))))))) rfl (og rfl (op_move rfl rfl rfl)) ?_
      rcases fot ((decide (40 < (s.books.led.e.length : Int)))) with h5 | h5
      · skip
        have h6 := f_dec h5
        refine rg_put (d := 30) (v := .pt 101 37) rfl (oy rfl rfl rfl h5 (of_eff (s_field_pt rfl Tryd.underlying70 rfl ti68 rfl rfl rfl) rfl)) ?_
        refine rg_put (d := 31) (v := .d (.sl 12 (List.map eCs s.cases))) rfl (oy rfl rfl rfl h5 (op_load_pt rfl Tryd.underlying68 rfl rfl rfl rfl rfl)) ?_
        refine rg_put (d := 32) (v := .d (.fl (.int .i64 (s.cases.length : Int)))) rfl (oy rfl rfl rfl h5 (s_len rfl Tryd.underlying68 rfl rfl)) ?_
        refine rg_put (d := 33) (v := .d (.fl (.bool ((decide (40 < (s.cases.length : Int))))))) rfl (oy rfl rfl rfl h5 (op_bin rfl rfl rfl (b_gtr _ _ _ _) rfl)) ?_
        refine rg_put (d := 34) (v := .d (.fl (.bool ((decide (40 < (s.cases.length : Int))))))) rfl (og rfl (op_pick rfl rfl (by rw [h5]; rfl) rfl)) ?_
        refine rg_put (d := 35) (v := .d (.fl (.bool ((decide (40 < (s.cases.length : Int))))))) rfl (og rfl (op_move rfl rfl rfl)) ?_
        rcases fot ((decide (40 < (s.cases.length : Int)))) with h7 | h7
        · skip
          have h8 := f_dec h7
          refine rg_put (d := 36) (v := .pt 101 0) rfl (oy rfl rfl rfl h7 (of_eff (s_field_pt rfl Tryd.underlying70 rfl ti52 rfl rfl rfl) rfl)) ?_
          refine rg_put (d := 37) (v := .pt 101 19) rfl (oy rfl rfl rfl h7 (of_eff (s_field_pt rfl Tryd.underlying52 rfl ti39 rfl rfl rfl) rfl)) ?_
          refine rg_put (d := 38) (v := .d (.sl 1 (List.map (rI .i64) s.cfg.hol))) rfl (oy rfl rfl rfl h7 (op_load_pt rfl Tryd.underlying39 rfl rfl rfl rfl rfl)) ?_
          refine rg_put (d := 39) (v := .d (.fl (.int .i64 (s.cfg.hol.length : Int)))) rfl (oy rfl rfl rfl h7 (s_len rfl Tryd.underlying39 rfl rfl)) ?_
          refine rg_put (d := 40) (v := .d (.fl (.bool ((decide (40 < (s.cfg.hol.length : Int))))))) rfl (oy rfl rfl rfl h7 (op_bin rfl rfl rfl (b_gtr _ _ _ _) rfl)) ?_
          refine rg_put (d := 41) (v := .d (.fl (.bool ((decide (40 < (s.cfg.hol.length : Int))))))) rfl (og rfl (op_pick rfl rfl (by rw [h7]; rfl) rfl)) ?_
          refine rg_put (d := 42) (v := .d (.fl (.bool ((decide (40 < (s.cfg.hol.length : Int))))))) rfl (og rfl (op_move rfl rfl rfl)) ?_
          rcases fot ((decide (40 < (s.cfg.hol.length : Int)))) with h9 | h9
          · skip
            have h10 := f_dec h9
            refine rg_put (d := 43) (v := .pt 101 0) rfl (oy rfl rfl rfl h9 (of_eff (s_field_pt rfl Tryd.underlying70 rfl ti52 rfl rfl rfl) rfl)) ?_
            refine rg_put (d := 44) (v := .pt 101 20) rfl (oy rfl rfl rfl h9 (of_eff (s_field_pt rfl Tryd.underlying52 rfl ti49 rfl rfl rfl) rfl)) ?_
            refine rg_put (d := 45) (v := .pt 101 20) rfl (oy rfl rfl rfl h9 (of_eff (s_field_pt rfl Tryd.underlying49 rfl ti39 rfl rfl rfl) rfl)) ?_
            refine rg_put (d := 46) (v := .d (.sl 1 (List.map (rI .i64) s.cfg.law.days))) rfl (oy rfl rfl rfl h9 (op_load_pt rfl Tryd.underlying39 rfl rfl rfl rfl rfl)) ?_
            refine rg_put (d := 47) (v := .d (.fl (.int .i64 (s.cfg.law.days.length : Int)))) rfl (oy rfl rfl rfl h9 (s_len rfl Tryd.underlying39 rfl rfl)) ?_
            refine rg_put (d := 48) (v := .d (.fl (.bool ((decide (40 < (s.cfg.law.days.length : Int))))))) rfl (oy rfl rfl rfl h9 (op_bin rfl rfl rfl (b_gtr _ _ _ _) rfl)) ?_
            refine rg_put (d := 49) (v := .d (.fl (.bool ((decide (40 < (s.cfg.law.days.length : Int))))))) rfl (og rfl (op_pick rfl rfl (by rw [h9]; rfl) rfl)) ?_
            refine rg_put (d := 50) (v := .d (.fl (.bool ((decide (40 < (s.cfg.law.days.length : Int))))))) rfl (og rfl (op_move rfl rfl rfl)) ?_
            rcases fot ((decide (40 < (s.cfg.law.days.length : Int)))) with h11 | h11
            · skip
              have h12 := f_dec h11
              refine rg_put (d := 51) (v := .pt 101 0) rfl (oy rfl rfl rfl h11 (of_eff (s_field_pt rfl Tryd.underlying70 rfl ti52 rfl rfl rfl) rfl)) ?_
              refine rg_put (d := 52) (v := .pt 101 20) rfl (oy rfl rfl rfl h11 (of_eff (s_field_pt rfl Tryd.underlying52 rfl ti49 rfl rfl rfl) rfl)) ?_
              refine rg_put (d := 53) (v := .pt 101 21) rfl (oy rfl rfl rfl h11 (of_eff (s_field_pt rfl Tryd.underlying49 rfl ti39 rfl rfl rfl) rfl)) ?_
              refine rg_put (d := 54) (v := .d (.sl 1 (List.map (rI .i64) s.cfg.law.fees))) rfl (oy rfl rfl rfl h11 (op_load_pt rfl Tryd.underlying39 rfl rfl rfl rfl rfl)) ?_
              refine rg_put (d := 55) (v := .d (.fl (.int .i64 (s.cfg.law.fees.length : Int)))) rfl (oy rfl rfl rfl h11 (s_len rfl Tryd.underlying39 rfl rfl)) ?_
              refine rg_put (d := 56) (v := .d (.fl (.bool ((decide (40 < (s.cfg.law.fees.length : Int))))))) rfl (oy rfl rfl rfl h11 (op_bin rfl rfl rfl (b_gtr _ _ _ _) rfl)) ?_
              refine rg_put (d := 57) (v := .d (.fl (.bool ((decide (40 < (s.cfg.law.fees.length : Int))))))) rfl (og rfl (op_pick rfl rfl (by rw [h11]; rfl) rfl)) ?_
              refine rg_done rfl ?_
              refine a_cond rfl (fun h13 => ?_) (fun h13 => ?_)
              · skip
                have h14 := t_dec h13
                refine a_rseq ?_
                refine rg_put (d := 2) (v := .d (.fl (.bool false))) rfl (og rfl (op_assign rfl rfl rfl)) ?_
                refine rg_done rfl ?_
                refine a_ret ?_
                show ∃ ds, ResL _ _ _ ds ∧ RV.of ds = _
                refine ⟨[.fl (.bool false)], (.cons (.tmp rfl (.d _)) .nil), ?_⟩
                rw [smB_f (fun hz9 => by have := hz9.fees; have := of_decide_eq_true h13; omega)]; rfl
              · skip
                have h15 := f_dec h13
                refine a_skip ?_
                show A _ _ _ _ _ _ _
                refine a_seq ?_
                refine a_rseq ?_
                refine rg_put (d := 3) (v := .d (.fl (.int .i64 0))) rfl (og rfl (op_assign rfl rfl rfl)) ?_
                refine rg_done rfl ?_
                refine a_block ?_
                refine a_loop (ι := Nat) (fun k => SS [(0, .d (.ag (eSa s))), (1, .pt 101 0), (57, .d (.fl (.bool ((decide (40 < (s.cfg.law.fees.length : Int))))))), (3, .d (.fl (.int .i64 (k : Int))))] [(101, .bx 70 (eSa s))]) (fun k => k ≤ s.res.chg.length ∧ ∀ q, q < k → oneB (ix s.res.chg q) = true) (fun k => s.res.chg.length - k) 0 (⟨by omega, fun q h => by omega⟩) (imp_forget rfl ⟨rfl, rfl, rfl, (by first | rfl | exact ci (by omega) | exact ci (by simp) | exact cd (by simp) | simp), trivial⟩ ⟨rfl, trivial⟩) (fun k hok => ?_)
                obtain ⟨hk, hq⟩ := hok
                refine a_seq ?_
                refine a_rseq ?_
                refine rg_put (d := 58) (v := .d (.fl (.int .i64 (k : Int)))) rfl (og rfl (op_move rfl rfl rfl)) ?_
                refine rg_put (d := 59) (v := .pt 101 29) rfl (og rfl (of_eff (s_field_pt rfl Tryd.underlying70 rfl ti62 rfl rfl rfl) rfl)) ?_
                refine rg_put (d := 60) (v := .pt 101 33) rfl (og rfl (of_eff (s_field_pt rfl Tryd.underlying62 rfl ti59 rfl rfl rfl) rfl)) ?_
                refine rg_put (d := 61) (v := .d (.sl 7 (List.map eCg s.res.chg))) rfl (og rfl (op_load_pt rfl Tryd.underlying59 rfl rfl rfl rfl rfl)) ?_
                refine rg_put (d := 62) (v := .d (.fl (.int .i64 (s.res.chg.length : Int)))) rfl (og rfl (s_len rfl Tryd.underlying59 rfl rfl)) ?_
                refine rg_put (d := 63) (v := .d (.fl (.bool ((decide ((k : Int) < (s.res.chg.length : Int))))))) rfl (og rfl (op_bin rfl rfl rfl (b_lss _ _ _ _) rfl)) ?_
                refine rg_done rfl ?_
                refine a_cond rfl (fun h16 => ?_) (fun h16 => ?_)
                · skip
                  have h17 := t_dec h16
                  refine a_skip ?_
                  show A _ _ _ _ _ _ _
                  refine a_seq ?_
                  refine a_block ?_
                  refine a_rseq ?_
                  refine rg_put (d := 66) (v := .pt 101 29) rfl (og rfl (of_eff (s_field_pt rfl Tryd.underlying70 rfl ti62 rfl rfl rfl) rfl)) ?_
                  refine rg_put (d := 67) (v := .pt 101 33) rfl (og rfl (of_eff (s_field_pt rfl Tryd.underlying62 rfl ti59 rfl rfl rfl) rfl)) ?_
                  refine rg_put (d := 68) (v := .d (.sl 7 (List.map eCg s.res.chg))) rfl (og rfl (op_load_pt rfl Tryd.underlying59 rfl rfl rfl rfl rfl)) ?_
                  refine rg_put (d := 69) (v := .d (.fl (.int .i64 (k : Int)))) rfl (og rfl (op_move rfl rfl rfl)) ?_
                  refine rg_put (d := 70) (v := .el ((eCg (ix s.res.chg k)))) rfl (og rfl (s_index rfl Tryd.underlying59 ti24 rfl rfl (by omega) (row_at (by omega)) rfl)) ?_
                  refine rg_put (d := 71) (v := .d (.ag (eCg (ix s.res.chg k)))) rfl (og rfl (of_eff (s_load_els rfl Tryd.underlying24 rfl ti24 rfl rfl rfl) rfl)) ?_
                  refine rg_put (d := 72) (v := .d (.fl (.bool ((oneB (ix s.res.chg k)))))) rfl (og rfl (op_call rfl Tryd.func8 nm8 rfl (.cons rfl (.d _) .nil) (one_ok (ix s.res.chg k) (okc k (by omega))) rfl)) ?_
                  refine rg_put (d := 73) (v := .d (.fl (.bool ((!((oneB (ix s.res.chg k)))))))) rfl (og rfl (op_un rfl rfl (u_not _) rfl)) ?_
                  refine rg_done rfl ?_
                  refine a_cond rfl (fun h18 => ?_) (fun h18 => ?_)
                  · skip
                    have h19 := t_not h18
                    refine a_rseq ?_
                    refine rg_put (d := 2) (v := .d (.fl (.bool false))) rfl (og rfl (op_assign rfl rfl rfl)) ?_
                    refine rg_done rfl ?_
                    refine a_ret ?_
                    show ∃ ds, ResL _ _ _ ds ∧ RV.of ds = _
                    refine ⟨[.fl (.bool false)], (.cons (.tmp rfl (.d _)) .nil), ?_⟩
                    rw [smB_f (fun hz9 => oneB_n h19 (hz9.c1 k (by omega)))]; rfl
                  · skip
                    have h20 := f_not h18
                    refine a_skip ?_
                    show A _ _ _ _ _ _ _
                    refine a_region ?_
                    refine rg_put (d := 64) (v := .d (.fl (.int .i64 (k : Int)))) rfl (og rfl (op_move rfl rfl rfl)) ?_
                    refine rg_put (d := 65) (v := .d (.fl (.int .i64 (((k : Int) + 1))))) rfl (og rfl (op_bin rfl rfl rfl (fun x y w => b_add64 _ _ _ x y w (by omega)) rfl)) ?_
                    refine rg_put (d := 3) (v := .d (.fl (.int .i64 (((k : Int) + 1))))) rfl (og rfl (op_assign rfl rfl rfl)) ?_
                    refine rg_done rfl ?_
                    have hx : oneB (ix s.res.chg k) = true := h20
                    show ∃ i, _ ∧ _ ∧ Imp _ _ _ _ _
                    refine ⟨k + 1, ⟨by omega, fun q h => (Nat.lt_succ_iff_lt_or_eq.1 h).elim (hq q) (fun e => by rw [e]; exact hx)⟩, by omega, imp_forget rfl ⟨rfl, rfl, rfl, (by first | rfl | exact ci (by omega) | exact ci (by simp) | exact cd (by simp) | simp), trivial⟩ ⟨rfl, trivial⟩⟩
                · skip
                  have h21 := f_dec h16
                  refine a_exit ?_
                  show A _ _ _ _ _ _ _
                  refine a_seq ?_
                  refine a_rseq ?_
                  refine rg_put (d := 4) (v := .d (.fl (.int .i64 0))) rfl (og rfl (op_assign rfl rfl rfl)) ?_
                  refine rg_done rfl ?_
                  refine a_block ?_
                  refine a_loop (ι := Nat) (fun j => SS [(0, .d (.ag (eSa s))), (1, .pt 101 0), (3, .d (.fl (.int .i64 (k : Int)))), (57, .d (.fl (.bool ((decide (40 < (s.cfg.law.fees.length : Int))))))), (63, .d (.fl (.bool ((decide ((k : Int) < (s.res.chg.length : Int))))))), (4, .d (.fl (.int .i64 (j : Int))))] [(101, .bx 70 (eSa s))]) (fun j => j ≤ s.books.led.e.length ∧ ∀ q, q < j → EnP (ix s.books.led.e q)) (fun j => s.books.led.e.length - j) 0 (⟨by omega, fun q h => by omega⟩) (imp_forget rfl ⟨rfl, rfl, rfl, rfl, rfl, (by first | rfl | exact ci (by omega) | exact ci (by simp) | exact cd (by simp) | simp), trivial⟩ ⟨rfl, trivial⟩) (fun j hok => ?_)
                  obtain ⟨hj, hr⟩ := hok
                  refine a_seq ?_
                  refine a_rseq ?_
                  refine rg_put (d := 74) (v := .d (.fl (.int .i64 (j : Int)))) rfl (og rfl (op_move rfl rfl rfl)) ?_
                  refine rg_put (d := 75) (v := .pt 101 35) rfl (og rfl (of_eff (s_field_pt rfl Tryd.underlying70 rfl ti67 rfl rfl rfl) rfl)) ?_
                  refine rg_put (d := 76) (v := .pt 101 35) rfl (og rfl (of_eff (s_field_pt rfl Tryd.underlying67 rfl ti65 rfl rfl rfl) rfl)) ?_
                  refine rg_put (d := 77) (v := .pt 101 35) rfl (og rfl (of_eff (s_field_pt rfl Tryd.underlying65 rfl ti63 rfl rfl rfl) rfl)) ?_
                  refine rg_put (d := 78) (v := .d (.sl 3 (List.map eEn s.books.led.e))) rfl (og rfl (op_load_pt rfl Tryd.underlying63 rfl rfl rfl rfl rfl)) ?_
                  refine rg_put (d := 79) (v := .d (.fl (.int .i64 (s.books.led.e.length : Int)))) rfl (og rfl (s_len rfl Tryd.underlying63 rfl rfl)) ?_
                  refine rg_put (d := 80) (v := .d (.fl (.bool ((decide ((j : Int) < (s.books.led.e.length : Int))))))) rfl (og rfl (op_bin rfl rfl rfl (b_lss _ _ _ _) rfl)) ?_
                  refine rg_done rfl ?_
                  refine a_cond rfl (fun h22 => ?_) (fun h22 => ?_)
                  · skip
                    have h23 := t_dec h22
                    refine a_skip ?_
                    show A _ _ _ _ _ _ _
                    refine a_seq ?_
                    refine a_block ?_
                    refine a_rseq ?_
                    refine rg_put (d := 83) (v := .pt 101 35) rfl (og rfl (of_eff (s_field_pt rfl Tryd.underlying70 rfl ti67 rfl rfl rfl) rfl)) ?_
                    refine rg_put (d := 84) (v := .pt 101 35) rfl (og rfl (of_eff (s_field_pt rfl Tryd.underlying67 rfl ti65 rfl rfl rfl) rfl)) ?_
                    refine rg_put (d := 85) (v := .pt 101 35) rfl (og rfl (of_eff (s_field_pt rfl Tryd.underlying65 rfl ti63 rfl rfl rfl) rfl)) ?_
                    refine rg_put (d := 86) (v := .d (.sl 3 (List.map eEn s.books.led.e))) rfl (og rfl (op_load_pt rfl Tryd.underlying63 rfl rfl rfl rfl rfl)) ?_
                    refine rg_put (d := 87) (v := .d (.fl (.int .i64 (j : Int)))) rfl (og rfl (op_move rfl rfl rfl)) ?_
                    refine rg_put (d := 88) (v := .el ((eEn (ix s.books.led.e j)))) rfl (og rfl (s_index rfl Tryd.underlying63 ti105 rfl rfl (by omega) (row_at (by omega)) rfl)) ?_
                    refine rg_put (d := 89) (v := .d (.ag (eEn (ix s.books.led.e j)))) rfl (og rfl (of_eff (s_load_els rfl Tryd.underlying105 rfl ti105 rfl rfl rfl) rfl)) ?_
                    refine rg_nam (d := 5) (v := .pt 102 0) (m := 102) (nw := [(102, .bx 105 ([.fl (.string (⟨#[]⟩)), .fl (.int .i64 0), .fl (.slice none 0 0)]))]) rfl (og rfl (of_eff (s_alloc 102 rfl ti105 (by kernel_rfl) rfl) rfl)) rfl ?_
                    refine rg_sto (nw := [(102, .bx 105 ((eEn (ix s.books.led.e j))))]) rfl (og rfl (of_eff (s_store rfl rfl ti105 rfl rfl rfl rfl rfl rfl) rfl)) ?_
                    refine rg_done rfl ?_
                    refine a_seq ?_
                    refine a_rseq ?_
                    have hlen := oke j (by omega)
                    have hks := okk j (by omega)
                    refine rg_put (d := 90) (v := .pt 102 2) rfl (og rfl (of_eff (s_field_pt rfl Tryd.underlying105 rfl ti103 rfl rfl rfl) rfl)) ?_
                    refine rg_put (d := 91) (v := .d (.sl 2 (List.map ePo ((ix s.books.led.e j).posts)))) rfl (og rfl (op_load_pt rfl Tryd.underlying103 rfl rfl rfl rfl rfl)) ?_
                    refine rg_put (d := 92) (v := .d (.fl (.int .i64 ((((ix s.books.led.e j).posts).length : Int))))) rfl (og rfl (s_len rfl Tryd.underlying103 rfl rfl)) ?_
                    refine rg_put (d := 93) (v := .d (.fl (.bool ((decide (40 < (((ix s.books.led.e j).posts).length : Int))))))) rfl (og rfl (op_bin rfl rfl rfl (b_gtr _ _ _ _) rfl)) ?_
                    refine rg_put (d := 94) (v := .d (.fl (.bool ((decide (40 < (((ix s.books.led.e j).posts).length : Int))))))) rfl (og rfl (op_move rfl rfl rfl)) ?_
                    rcases fot ((decide (40 < (((ix s.books.led.e j).posts).length : Int)))) with h24 | h24
                    · skip
                      have h25 := f_dec h24
                      refine rg_put (d := 95) (v := .pt 102 0) rfl (oy rfl rfl rfl h24 (of_eff (s_field_pt rfl Tryd.underlying105 rfl ti9 rfl rfl rfl) rfl)) ?_
                      refine rg_put (d := 96) (v := .d (.fl (.string ((ix s.books.led.e j).key)))) rfl (oy rfl rfl rfl h24 (op_load_pt rfl Tryd.underlying9 rfl rfl rfl rfl rfl)) ?_
                      refine rg_put (d := 97) (v := .d (.fl (.int .i64 ((((ix s.books.led.e j).key).size : Int))))) rfl (oy rfl rfl rfl h24 (op_len_str rfl Tryd.underlying9 rfl rfl)) ?_
                      refine rg_put (d := 98) (v := .d (.fl (.bool ((decide (200 < (((ix s.books.led.e j).key).size : Int))))))) rfl (oy rfl rfl rfl h24 (op_bin rfl rfl rfl (b_gtr _ _ _ _) rfl)) ?_
                      refine rg_put (d := 99) (v := .d (.fl (.bool ((decide (200 < (((ix s.books.led.e j).key).size : Int))))))) rfl (og rfl (op_pick rfl rfl (by rw [h24]; rfl) rfl)) ?_
                      refine rg_done rfl ?_
                      refine a_cond rfl (fun h26 => ?_) (fun h26 => ?_)
                      · skip
                        have h27 := t_dec h26
                        refine a_rseq ?_
                        refine rg_put (d := 2) (v := .d (.fl (.bool false))) rfl (og rfl (op_assign rfl rfl rfl)) ?_
                        refine rg_done rfl ?_
                        refine a_ret ?_
                        show ∃ ds, ResL _ _ _ ds ∧ RV.of ds = _
                        refine ⟨[.fl (.bool false)], (.cons (.tmp rfl (.d _)) .nil), ?_⟩
                        rw [smB_f (fun hz9 => by have := (hz9.c2 j (by omega)).key; have := of_decide_eq_true h26; omega)]; rfl
                      · skip
                        have h28 := f_dec h26
                        refine a_skip ?_
                        show A _ _ _ _ _ _ _
                        refine a_rseq ?_
                        refine rg_put (d := 6) (v := .d (.fl (.int .i64 0))) rfl (og rfl (op_assign rfl rfl rfl)) ?_
                        refine rg_done rfl ?_
                        refine a_block ?_
                        refine a_loop (ι := Nat) (fun m => SS [(0, .d (.ag (eSa s))), (1, .pt 101 0), (3, .d (.fl (.int .i64 (k : Int)))), (4, .d (.fl (.int .i64 (j : Int)))), (5, .pt 102 0), (57, .d (.fl (.bool ((decide (40 < (s.cfg.law.fees.length : Int))))))), (63, .d (.fl (.bool ((decide ((k : Int) < (s.res.chg.length : Int))))))), (80, .d (.fl (.bool ((decide ((j : Int) < (s.books.led.e.length : Int))))))), (99, .d (.fl (.bool ((decide (200 < (((ix s.books.led.e j).key).size : Int))))))), (6, .d (.fl (.int .i64 (m : Int))))] [(101, .bx 70 (eSa s)), (102, .bx 105 ((eEn (ix s.books.led.e j))))]) (fun m => m ≤ (ix s.books.led.e j).posts.length ∧ ∀ q, q < m → fit (ix (ix s.books.led.e j).posts q).cents) (fun m => (ix s.books.led.e j).posts.length - m) 0 (⟨by omega, fun q h => by omega⟩) (imp_forget rfl ⟨rfl, rfl, rfl, rfl, rfl, rfl, rfl, rfl, rfl, (by first | rfl | exact ci (by omega) | exact ci (by simp) | exact cd (by simp) | simp), trivial⟩ ⟨rfl, rfl, trivial⟩) (fun m hok => ?_)
                        obtain ⟨hm, hp⟩ := hok
                        refine a_seq ?_
                        refine a_rseq ?_
                        refine rg_put (d := 100) (v := .d (.fl (.int .i64 (m : Int)))) rfl (og rfl (op_move rfl rfl rfl)) ?_
                        refine rg_put (d := 101) (v := .pt 102 2) rfl (og rfl (of_eff (s_field_pt rfl Tryd.underlying105 rfl ti103 rfl rfl rfl) rfl)) ?_
                        refine rg_put (d := 102) (v := .d (.sl 2 (List.map ePo ((ix s.books.led.e j).posts)))) rfl (og rfl (op_load_pt rfl Tryd.underlying103 rfl rfl rfl rfl rfl)) ?_
                        refine rg_put (d := 103) (v := .d (.fl (.int .i64 ((((ix s.books.led.e j).posts).length : Int))))) rfl (og rfl (s_len rfl Tryd.underlying103 rfl rfl)) ?_
                        refine rg_put (d := 104) (v := .d (.fl (.bool ((decide ((m : Int) < (((ix s.books.led.e j).posts).length : Int))))))) rfl (og rfl (op_bin rfl rfl rfl (b_lss _ _ _ _) rfl)) ?_
                        refine rg_done rfl ?_
                        refine a_cond rfl (fun h29 => ?_) (fun h29 => ?_)
                        · skip
                          have h30 := t_dec h29
                          refine a_skip ?_
                          show A _ _ _ _ _ _ _
                          refine a_seq ?_
                          refine a_block ?_
                          refine a_rseq ?_
                          refine rg_put (d := 107) (v := .pt 102 2) rfl (og rfl (of_eff (s_field_pt rfl Tryd.underlying105 rfl ti103 rfl rfl rfl) rfl)) ?_
                          refine rg_put (d := 108) (v := .d (.sl 2 (List.map ePo ((ix s.books.led.e j).posts)))) rfl (og rfl (op_load_pt rfl Tryd.underlying103 rfl rfl rfl rfl rfl)) ?_
                          refine rg_put (d := 109) (v := .d (.fl (.int .i64 (m : Int)))) rfl (og rfl (op_move rfl rfl rfl)) ?_
                          refine rg_put (d := 110) (v := .el ((ePo ((ix ((ix s.books.led.e j).posts) m))))) rfl (og rfl (s_index rfl Tryd.underlying103 ti107 rfl rfl (by omega) (row_at (by omega)) rfl)) ?_
                          refine rg_put (d := 111) (v := .el ((List.drop 1 ((ePo ((ix ((ix s.books.led.e j).posts) m))))))) rfl (og rfl (of_eff (s_field_el rfl Tryd.underlying107 rfl ti3 rfl rfl rfl) rfl)) ?_
                          refine rg_put (d := 112) (v := .d (.fl (.int .i64 (((ix ((ix s.books.led.e j).posts) m)).cents)))) rfl (og rfl (op_load_el rfl Tryd.underlying3 rfl rfl rfl rfl)) ?_
                          refine rg_put (d := 113) (v := .d (.fl (.bool ((ftB (((ix ((ix s.books.led.e j).posts) m)).cents)))))) rfl (og rfl (op_call rfl Tryd.func21 nm21 rfl (.cons rfl (.d _) .nil) (fits21 (((ix ((ix s.books.led.e j).posts) m)).cents)) rfl)) ?_
                          refine rg_put (d := 114) (v := .d (.fl (.bool ((!((ftB (((ix ((ix s.books.led.e j).posts) m)).cents)))))))) rfl (og rfl (op_un rfl rfl (u_not _) rfl)) ?_
                          refine rg_done rfl ?_
                          refine a_cond rfl (fun h31 => ?_) (fun h31 => ?_)
                          · skip
                            have h32 := t_not h31
                            refine a_rseq ?_
                            refine rg_put (d := 2) (v := .d (.fl (.bool false))) rfl (og rfl (op_assign rfl rfl rfl)) ?_
                            refine rg_done rfl ?_
                            refine a_ret ?_
                            show ∃ ds, ResL _ _ _ ds ∧ RV.of ds = _
                            refine ⟨[.fl (.bool false)], (.cons (.tmp rfl (.d _)) .nil), ?_⟩
                            rw [smB_f (fun hz9 => ftB_f h32 ((hz9.c2 j (by omega)).ct m (by omega)))]; rfl
                          · skip
                            have h33 := f_not h31
                            refine a_skip ?_
                            show A _ _ _ _ _ _ _
                            refine a_region ?_
                            refine rg_put (d := 105) (v := .d (.fl (.int .i64 (m : Int)))) rfl (og rfl (op_move rfl rfl rfl)) ?_
                            refine rg_put (d := 106) (v := .d (.fl (.int .i64 (((m : Int) + 1))))) rfl (og rfl (op_bin rfl rfl rfl (fun x y w => b_add64 _ _ _ x y w (by omega)) rfl)) ?_
                            refine rg_put (d := 6) (v := .d (.fl (.int .i64 (((m : Int) + 1))))) rfl (og rfl (op_assign rfl rfl rfl)) ?_
                            refine rg_done rfl ?_
                            have hx : fit (ix (ix s.books.led.e j).posts m).cents := ftB_t h33
                            show ∃ i, _ ∧ _ ∧ Imp _ _ _ _ _
                            refine ⟨m + 1, ⟨by omega, fun q h => (Nat.lt_succ_iff_lt_or_eq.1 h).elim (hp q) (fun e => by rw [e]; exact hx)⟩, by omega, imp_forget rfl ⟨rfl, rfl, rfl, rfl, rfl, rfl, rfl, rfl, rfl, (by first | rfl | exact ci (by omega) | exact ci (by simp) | exact cd (by simp) | simp), trivial⟩ ⟨rfl, rfl, trivial⟩⟩
                        · skip
                          have h34 := f_dec h29
                          refine a_exit ?_
                          show A _ _ _ _ _ _ _
                          refine a_region ?_
                          refine rg_put (d := 81) (v := .d (.fl (.int .i64 (j : Int)))) rfl (og rfl (op_move rfl rfl rfl)) ?_
                          refine rg_put (d := 82) (v := .d (.fl (.int .i64 (((j : Int) + 1))))) rfl (og rfl (op_bin rfl rfl rfl (fun x y w => b_add64 _ _ _ x y w (by omega)) rfl)) ?_
                          refine rg_put (d := 4) (v := .d (.fl (.int .i64 (((j : Int) + 1))))) rfl (og rfl (op_assign rfl rfl rfl)) ?_
                          refine rg_done rfl ?_
                          have hx : EnP (ix s.books.led.e j) := ⟨by have := nl_of h24; omega, by have := nl_of h26; omega, fun u h => hp u (by omega)⟩
                          show ∃ i, _ ∧ _ ∧ Imp _ _ _ _ _
                          refine ⟨j + 1, ⟨by omega, fun q h => (Nat.lt_succ_iff_lt_or_eq.1 h).elim (hr q) (fun e => by rw [e]; exact hx)⟩, by omega, imp_forget rfl ⟨rfl, rfl, rfl, rfl, rfl, (by first | rfl | exact ci (by omega) | exact ci (by simp) | exact cd (by simp) | simp), trivial⟩ ⟨rfl, trivial⟩⟩
                    · skip
                      have h35 := t_dec h24
                      refine rg_put (d := 95) (v := .d (.fl undef)) rfl (on rfl rfl rfl h24) ?_
                      refine rg_put (d := 96) (v := .d (.fl undef)) rfl (on rfl rfl rfl h24) ?_
                      refine rg_put (d := 97) (v := .d (.fl undef)) rfl (on rfl rfl rfl h24) ?_
                      refine rg_put (d := 98) (v := .d (.fl undef)) rfl (on rfl rfl rfl h24) ?_
                      refine rg_put (d := 99) (v := .d (.fl (.bool true))) rfl (og rfl (op_pick rfl rfl (by rw [h24]; rfl) rfl)) ?_
                      refine rg_done rfl ?_
                      refine a_condK rfl rfl ?_
                      refine a_rseq ?_
                      refine rg_put (d := 2) (v := .d (.fl (.bool false))) rfl (og rfl (op_assign rfl rfl rfl)) ?_
                      refine rg_done rfl ?_
                      refine a_ret ?_
                      show ∃ ds, ResL _ _ _ ds ∧ RV.of ds = _
                      refine ⟨[.fl (.bool false)], (.cons (.tmp rfl (.d _)) .nil), ?_⟩
                      rw [smB_f (fun hz9 => by have := (hz9.c2 j (by omega)).ps; have := of_decide_eq_true h24; omega)]; rfl
                  · skip
                    have h36 := f_dec h22
                    refine a_exit ?_
                    show A _ _ _ _ _ _ _
                    refine a_seq ?_
                    refine a_rseq ?_
                    refine rg_put (d := 7) (v := .d (.fl (.int .i64 0))) rfl (og rfl (op_assign rfl rfl rfl)) ?_
                    refine rg_done rfl ?_
                    refine a_block ?_
                    refine a_loop (ι := Nat) (fun w => SS [(0, .d (.ag (eSa s))), (1, .pt 101 0), (3, .d (.fl (.int .i64 (k : Int)))), (4, .d (.fl (.int .i64 (j : Int)))), (57, .d (.fl (.bool ((decide (40 < (s.cfg.law.fees.length : Int))))))), (63, .d (.fl (.bool ((decide ((k : Int) < (s.res.chg.length : Int))))))), (80, .d (.fl (.bool ((decide ((j : Int) < (s.books.led.e.length : Int))))))), (7, .d (.fl (.int .i64 (w : Int))))] [(101, .bx 70 (eSa s))]) (fun w => w ≤ s.cases.length ∧ ∀ q, q < w → CsP (ix s.cases q)) (fun w => s.cases.length - w) 0 (⟨by omega, fun q h => by omega⟩) (imp_forget rfl ⟨rfl, rfl, rfl, rfl, rfl, rfl, rfl, (by first | rfl | exact ci (by omega) | exact ci (by simp) | exact cd (by simp) | simp), trivial⟩ ⟨rfl, trivial⟩) (fun w hok => ?_)
                    obtain ⟨hw, hv⟩ := hok
                    refine a_seq ?_
                    refine a_rseq ?_
                    refine rg_put (d := 115) (v := .d (.fl (.int .i64 (w : Int)))) rfl (og rfl (op_move rfl rfl rfl)) ?_
                    refine rg_put (d := 116) (v := .pt 101 37) rfl (og rfl (of_eff (s_field_pt rfl Tryd.underlying70 rfl ti68 rfl rfl rfl) rfl)) ?_
                    refine rg_put (d := 117) (v := .d (.sl 12 (List.map eCs s.cases))) rfl (og rfl (op_load_pt rfl Tryd.underlying68 rfl rfl rfl rfl rfl)) ?_
                    refine rg_put (d := 118) (v := .d (.fl (.int .i64 (s.cases.length : Int)))) rfl (og rfl (s_len rfl Tryd.underlying68 rfl rfl)) ?_
                    refine rg_put (d := 119) (v := .d (.fl (.bool ((decide ((w : Int) < (s.cases.length : Int))))))) rfl (og rfl (op_bin rfl rfl rfl (b_lss _ _ _ _) rfl)) ?_
                    refine rg_done rfl ?_
                    refine a_cond rfl (fun h37 => ?_) (fun h37 => ?_)
                    · skip
                      have h38 := t_dec h37
                      refine a_skip ?_
                      show A _ _ _ _ _ _ _
                      refine a_seq ?_
                      refine a_block ?_
                      refine a_rseq ?_
                      refine rg_put (d := 122) (v := .pt 101 37) rfl (og rfl (of_eff (s_field_pt rfl Tryd.underlying70 rfl ti68 rfl rfl rfl) rfl)) ?_
                      refine rg_put (d := 123) (v := .d (.sl 12 (List.map eCs s.cases))) rfl (og rfl (op_load_pt rfl Tryd.underlying68 rfl rfl rfl rfl rfl)) ?_
                      refine rg_put (d := 124) (v := .d (.fl (.int .i64 (w : Int)))) rfl (og rfl (op_move rfl rfl rfl)) ?_
                      refine rg_put (d := 125) (v := .el ((eCs (ix s.cases w)))) rfl (og rfl (s_index rfl Tryd.underlying68 ti102 rfl rfl (by omega) (row_at (by omega)) rfl)) ?_
                      refine rg_put (d := 126) (v := .d (.ag (eCs (ix s.cases w)))) rfl (og rfl (of_eff (s_load_els rfl Tryd.underlying102 rfl ti102 rfl rfl rfl) rfl)) ?_
                      refine rg_nam (d := 8) (v := .pt 103 0) (m := 103) (nw := [(103, .bx 102 ([.fl (.string (⟨#[]⟩)), .fl (.string (⟨#[]⟩)), .fl (.string (⟨#[]⟩)), .fl (.int .i64 0), .fl (.int .i64 0), .fl (.int .i64 0), .fl (.int .i64 0), .fl (.int .i64 0), .fl (.int .i64 0), .fl (.int .i64 0), .fl (.int .i64 0), .fl (.int .i64 0)]))]) rfl (og rfl (of_eff (s_alloc 103 rfl ti102 (by kernel_rfl) rfl) rfl)) rfl ?_
                      refine rg_sto (nw := [(103, .bx 102 ((eCs (ix s.cases w))))]) rfl (og rfl (of_eff (s_store rfl rfl ti102 rfl rfl rfl rfl rfl rfl) rfl)) ?_
                      refine rg_done rfl ?_
                      refine a_rseq ?_
                      have hcz := okx w (by omega)
                      obtain ⟨z1, z2, z3⟩ := hcz
                      refine rg_put (d := 127) (v := .pt 103 0) rfl (og rfl (of_eff (s_field_pt rfl Tryd.underlying102 rfl ti9 rfl rfl rfl) rfl)) ?_
                      refine rg_put (d := 128) (v := .d (.fl (.string ((ix s.cases w).id)))) rfl (og rfl (op_load_pt rfl Tryd.underlying9 rfl rfl rfl rfl rfl)) ?_
                      refine rg_put (d := 129) (v := .d (.fl (.int .i64 ((((ix s.cases w).id).size : Int))))) rfl (og rfl (op_len_str rfl Tryd.underlying9 rfl rfl)) ?_
                      refine rg_put (d := 130) (v := .d (.fl (.bool ((decide (200 < (((ix s.cases w).id).size : Int))))))) rfl (og rfl (op_bin rfl rfl rfl (b_gtr _ _ _ _) rfl)) ?_
                      refine rg_put (d := 131) (v := .d (.fl (.bool ((decide (200 < (((ix s.cases w).id).size : Int))))))) rfl (og rfl (op_move rfl rfl rfl)) ?_
                      rcases fot ((decide (200 < (((ix s.cases w).id).size : Int)))) with h39 | h39
                      · skip
                        have h40 := f_dec h39
                        refine rg_put (d := 132) (v := .pt 103 1) rfl (oy rfl rfl rfl h39 (of_eff (s_field_pt rfl Tryd.underlying102 rfl ti9 rfl rfl rfl) rfl)) ?_
                        refine rg_put (d := 133) (v := .d (.fl (.string ((ix s.cases w).plate)))) rfl (oy rfl rfl rfl h39 (op_load_pt rfl Tryd.underlying9 rfl rfl rfl rfl rfl)) ?_
                        refine rg_put (d := 134) (v := .d (.fl (.int .i64 ((((ix s.cases w).plate).size : Int))))) rfl (oy rfl rfl rfl h39 (op_len_str rfl Tryd.underlying9 rfl rfl)) ?_
                        refine rg_put (d := 135) (v := .d (.fl (.bool ((decide (200 < (((ix s.cases w).plate).size : Int))))))) rfl (oy rfl rfl rfl h39 (op_bin rfl rfl rfl (b_gtr _ _ _ _) rfl)) ?_
                        refine rg_put (d := 136) (v := .d (.fl (.bool ((decide (200 < (((ix s.cases w).plate).size : Int))))))) rfl (og rfl (op_pick rfl rfl (by rw [h39]; rfl) rfl)) ?_
                        refine rg_put (d := 137) (v := .d (.fl (.bool ((decide (200 < (((ix s.cases w).plate).size : Int))))))) rfl (og rfl (op_move rfl rfl rfl)) ?_
                        rcases fot ((decide (200 < (((ix s.cases w).plate).size : Int)))) with h41 | h41
                        · skip
                          have h42 := f_dec h41
                          refine rg_put (d := 138) (v := .pt 103 2) rfl (oy rfl rfl rfl h41 (of_eff (s_field_pt rfl Tryd.underlying102 rfl ti9 rfl rfl rfl) rfl)) ?_
                          refine rg_put (d := 139) (v := .d (.fl (.string ((ix s.cases w).key)))) rfl (oy rfl rfl rfl h41 (op_load_pt rfl Tryd.underlying9 rfl rfl rfl rfl rfl)) ?_
                          refine rg_put (d := 140) (v := .d (.fl (.int .i64 ((((ix s.cases w).key).size : Int))))) rfl (oy rfl rfl rfl h41 (op_len_str rfl Tryd.underlying9 rfl rfl)) ?_
                          refine rg_put (d := 141) (v := .d (.fl (.bool ((decide (200 < (((ix s.cases w).key).size : Int))))))) rfl (oy rfl rfl rfl h41 (op_bin rfl rfl rfl (b_gtr _ _ _ _) rfl)) ?_
                          refine rg_put (d := 142) (v := .d (.fl (.bool ((decide (200 < (((ix s.cases w).key).size : Int))))))) rfl (og rfl (op_pick rfl rfl (by rw [h41]; rfl) rfl)) ?_
                          refine rg_done rfl ?_
                          refine a_cond rfl (fun h43 => ?_) (fun h43 => ?_)
                          · skip
                            have h44 := t_dec h43
                            refine a_rseq ?_
                            refine rg_put (d := 2) (v := .d (.fl (.bool false))) rfl (og rfl (op_assign rfl rfl rfl)) ?_
                            refine rg_done rfl ?_
                            refine a_ret ?_
                            show ∃ ds, ResL _ _ _ ds ∧ RV.of ds = _
                            refine ⟨[.fl (.bool false)], (.cons (.tmp rfl (.d _)) .nil), ?_⟩
                            rw [smB_f (fun hz9 => by have := (hz9.c3 w (by omega)).key; have := of_decide_eq_true h43; omega)]; rfl
                          · skip
                            have h45 := f_dec h43
                            refine a_skip ?_
                            show A _ _ _ _ _ _ _
                            refine a_region ?_
                            refine rg_put (d := 120) (v := .d (.fl (.int .i64 (w : Int)))) rfl (og rfl (op_move rfl rfl rfl)) ?_
                            refine rg_put (d := 121) (v := .d (.fl (.int .i64 (((w : Int) + 1))))) rfl (og rfl (op_bin rfl rfl rfl (fun x y w => b_add64 _ _ _ x y w (by omega)) rfl)) ?_
                            refine rg_put (d := 7) (v := .d (.fl (.int .i64 (((w : Int) + 1))))) rfl (og rfl (op_assign rfl rfl rfl)) ?_
                            refine rg_done rfl ?_
                            have hx : CsP (ix s.cases w) := ⟨by have := nl_of h39; omega, by have := nl_of h41; omega, by have := nl_of h43; omega⟩
                            show ∃ i, _ ∧ _ ∧ Imp _ _ _ _ _
                            refine ⟨w + 1, ⟨by omega, fun q h => (Nat.lt_succ_iff_lt_or_eq.1 h).elim (hv q) (fun e => by rw [e]; exact hx)⟩, by omega, imp_forget rfl ⟨rfl, rfl, rfl, rfl, rfl, rfl, rfl, (by first | rfl | exact ci (by omega) | exact ci (by simp) | exact cd (by simp) | simp), trivial⟩ ⟨rfl, trivial⟩⟩
                        · skip
                          have h46 := t_dec h41
                          refine rg_put (d := 138) (v := .d (.fl undef)) rfl (on rfl rfl rfl h41) ?_
                          refine rg_put (d := 139) (v := .d (.fl undef)) rfl (on rfl rfl rfl h41) ?_
                          refine rg_put (d := 140) (v := .d (.fl undef)) rfl (on rfl rfl rfl h41) ?_
                          refine rg_put (d := 141) (v := .d (.fl undef)) rfl (on rfl rfl rfl h41) ?_
                          refine rg_put (d := 142) (v := .d (.fl (.bool true))) rfl (og rfl (op_pick rfl rfl (by rw [h41]; rfl) rfl)) ?_
                          refine rg_done rfl ?_
                          refine a_condK rfl rfl ?_
                          refine a_rseq ?_
                          refine rg_put (d := 2) (v := .d (.fl (.bool false))) rfl (og rfl (op_assign rfl rfl rfl)) ?_
                          refine rg_done rfl ?_
                          refine a_ret ?_
                          show ∃ ds, ResL _ _ _ ds ∧ RV.of ds = _
                          refine ⟨[.fl (.bool false)], (.cons (.tmp rfl (.d _)) .nil), ?_⟩
                          rw [smB_f (fun hz9 => by have := (hz9.c3 w (by omega)).plate; have := of_decide_eq_true h41; omega)]; rfl
                      · skip
                        have h47 := t_dec h39
                        refine rg_put (d := 132) (v := .d (.fl undef)) rfl (on rfl rfl rfl h39) ?_
                        refine rg_put (d := 133) (v := .d (.fl undef)) rfl (on rfl rfl rfl h39) ?_
                        refine rg_put (d := 134) (v := .d (.fl undef)) rfl (on rfl rfl rfl h39) ?_
                        refine rg_put (d := 135) (v := .d (.fl undef)) rfl (on rfl rfl rfl h39) ?_
                        refine rg_put (d := 136) (v := .d (.fl (.bool true))) rfl (og rfl (op_pick rfl rfl (by rw [h39]; rfl) rfl)) ?_
                        refine rg_put (d := 137) (v := .d (.fl (.bool true))) rfl (og rfl (op_move rfl rfl rfl)) ?_
                        refine rg_put (d := 138) (v := .d (.fl undef)) rfl (on rfl rfl rfl rfl) ?_
                        refine rg_put (d := 139) (v := .d (.fl undef)) rfl (on rfl rfl rfl rfl) ?_
                        refine rg_put (d := 140) (v := .d (.fl undef)) rfl (on rfl rfl rfl rfl) ?_
                        refine rg_put (d := 141) (v := .d (.fl undef)) rfl (on rfl rfl rfl rfl) ?_
                        refine rg_put (d := 142) (v := .d (.fl (.bool true))) rfl (og rfl (op_pick rfl rfl rfl rfl)) ?_
                        refine rg_done rfl ?_
                        refine a_condK rfl rfl ?_
                        refine a_rseq ?_
                        refine rg_put (d := 2) (v := .d (.fl (.bool false))) rfl (og rfl (op_assign rfl rfl rfl)) ?_
                        refine rg_done rfl ?_
                        refine a_ret ?_
                        show ∃ ds, ResL _ _ _ ds ∧ RV.of ds = _
                        refine ⟨[.fl (.bool false)], (.cons (.tmp rfl (.d _)) .nil), ?_⟩
                        rw [smB_f (fun hz9 => by have := (hz9.c3 w (by omega)).id; have := of_decide_eq_true h39; omega)]; rfl
                    · skip
                      have h48 := f_dec h37
                      refine a_exit ?_
                      show A _ _ _ _ _ _ _
                      refine a_rseq ?_
                      refine rg_put (d := 2) (v := .d (.fl (.bool true))) rfl (og rfl (op_assign rfl rfl rfl)) ?_
                      refine rg_done rfl ?_
                      refine a_ret ?_
                      show ∃ ds, ResL _ _ _ ds ∧ RV.of ds = _
                      refine ⟨[.fl (.bool true)], (.cons (.tmp rfl (.d _)) .nil), ?_⟩
                      rw [smB_t ⟨(by have := nl_of h1; omega), (by have := nl_of h3; omega), (by have := nl_of h5; omega), (by have := nl_of h7; omega), (by have := nl_of h9; omega), (by have := nl_of h11; omega), (by have := nl_of h13; omega), fun q h => oneB_p (hq q (by omega)), fun q h => hr q (by omega), fun q h => hv q (by omega)⟩]; rfl
            · skip
              have h49 := t_dec h11
              refine rg_put (d := 51) (v := .d (.fl undef)) rfl (on rfl rfl rfl h11) ?_
              refine rg_put (d := 52) (v := .d (.fl undef)) rfl (on rfl rfl rfl h11) ?_
              refine rg_put (d := 53) (v := .d (.fl undef)) rfl (on rfl rfl rfl h11) ?_
              refine rg_put (d := 54) (v := .d (.fl undef)) rfl (on rfl rfl rfl h11) ?_
              refine rg_put (d := 55) (v := .d (.fl undef)) rfl (on rfl rfl rfl h11) ?_
              refine rg_put (d := 56) (v := .d (.fl undef)) rfl (on rfl rfl rfl h11) ?_
              refine rg_put (d := 57) (v := .d (.fl (.bool true))) rfl (og rfl (op_pick rfl rfl (by rw [h11]; rfl) rfl)) ?_
              refine rg_done rfl ?_
              refine a_condK rfl rfl ?_
              refine a_rseq ?_
              refine rg_put (d := 2) (v := .d (.fl (.bool false))) rfl (og rfl (op_assign rfl rfl rfl)) ?_
              refine rg_done rfl ?_
              refine a_ret ?_
              show ∃ ds, ResL _ _ _ ds ∧ RV.of ds = _
              refine ⟨[.fl (.bool false)], (.cons (.tmp rfl (.d _)) .nil), ?_⟩
              rw [smB_f (fun hz9 => by have := hz9.days; have := of_decide_eq_true h11; omega)]; rfl
          · skip
            have h50 := t_dec h9
            refine rg_put (d := 43) (v := .d (.fl undef)) rfl (on rfl rfl rfl h9) ?_
            refine rg_put (d := 44) (v := .d (.fl undef)) rfl (on rfl rfl rfl h9) ?_
            refine rg_put (d := 45) (v := .d (.fl undef)) rfl (on rfl rfl rfl h9) ?_
            refine rg_put (d := 46) (v := .d (.fl undef)) rfl (on rfl rfl rfl h9) ?_
            refine rg_put (d := 47) (v := .d (.fl undef)) rfl (on rfl rfl rfl h9) ?_
            refine rg_put (d := 48) (v := .d (.fl undef)) rfl (on rfl rfl rfl h9) ?_
            refine rg_put (d := 49) (v := .d (.fl (.bool true))) rfl (og rfl (op_pick rfl rfl (by rw [h9]; rfl) rfl)) ?_
            refine rg_put (d := 50) (v := .d (.fl (.bool true))) rfl (og rfl (op_move rfl rfl rfl)) ?_
            refine rg_put (d := 51) (v := .d (.fl undef)) rfl (on rfl rfl rfl rfl) ?_
            refine rg_put (d := 52) (v := .d (.fl undef)) rfl (on rfl rfl rfl rfl) ?_
            refine rg_put (d := 53) (v := .d (.fl undef)) rfl (on rfl rfl rfl rfl) ?_
            refine rg_put (d := 54) (v := .d (.fl undef)) rfl (on rfl rfl rfl rfl) ?_
            refine rg_put (d := 55) (v := .d (.fl undef)) rfl (on rfl rfl rfl rfl) ?_
            refine rg_put (d := 56) (v := .d (.fl undef)) rfl (on rfl rfl rfl rfl) ?_
            refine rg_put (d := 57) (v := .d (.fl (.bool true))) rfl (og rfl (op_pick rfl rfl rfl rfl)) ?_
            refine rg_done rfl ?_
            refine a_condK rfl rfl ?_
            refine a_rseq ?_
            refine rg_put (d := 2) (v := .d (.fl (.bool false))) rfl (og rfl (op_assign rfl rfl rfl)) ?_
            refine rg_done rfl ?_
            refine a_ret ?_
            show ∃ ds, ResL _ _ _ ds ∧ RV.of ds = _
            refine ⟨[.fl (.bool false)], (.cons (.tmp rfl (.d _)) .nil), ?_⟩
            rw [smB_f (fun hz9 => by have := hz9.hol; have := of_decide_eq_true h9; omega)]; rfl
        · skip
          have h51 := t_dec h7
          refine rg_put (d := 36) (v := .d (.fl undef)) rfl (on rfl rfl rfl h7) ?_
          refine rg_put (d := 37) (v := .d (.fl undef)) rfl (on rfl rfl rfl h7) ?_
          refine rg_put (d := 38) (v := .d (.fl undef)) rfl (on rfl rfl rfl h7) ?_
          refine rg_put (d := 39) (v := .d (.fl undef)) rfl (on rfl rfl rfl h7) ?_
          refine rg_put (d := 40) (v := .d (.fl undef)) rfl (on rfl rfl rfl h7) ?_
          refine rg_put (d := 41) (v := .d (.fl (.bool true))) rfl (og rfl (op_pick rfl rfl (by rw [h7]; rfl) rfl)) ?_
          refine rg_put (d := 42) (v := .d (.fl (.bool true))) rfl (og rfl (op_move rfl rfl rfl)) ?_
          refine rg_put (d := 43) (v := .d (.fl undef)) rfl (on rfl rfl rfl rfl) ?_
          refine rg_put (d := 44) (v := .d (.fl undef)) rfl (on rfl rfl rfl rfl) ?_
          refine rg_put (d := 45) (v := .d (.fl undef)) rfl (on rfl rfl rfl rfl) ?_
          refine rg_put (d := 46) (v := .d (.fl undef)) rfl (on rfl rfl rfl rfl) ?_
          refine rg_put (d := 47) (v := .d (.fl undef)) rfl (on rfl rfl rfl rfl) ?_
          refine rg_put (d := 48) (v := .d (.fl undef)) rfl (on rfl rfl rfl rfl) ?_
          refine rg_put (d := 49) (v := .d (.fl (.bool true))) rfl (og rfl (op_pick rfl rfl rfl rfl)) ?_
          refine rg_put (d := 50) (v := .d (.fl (.bool true))) rfl (og rfl (op_move rfl rfl rfl)) ?_
          refine rg_put (d := 51) (v := .d (.fl undef)) rfl (on rfl rfl rfl rfl) ?_
          refine rg_put (d := 52) (v := .d (.fl undef)) rfl (on rfl rfl rfl rfl) ?_
          refine rg_put (d := 53) (v := .d (.fl undef)) rfl (on rfl rfl rfl rfl) ?_
          refine rg_put (d := 54) (v := .d (.fl undef)) rfl (on rfl rfl rfl rfl) ?_
          refine rg_put (d := 55) (v := .d (.fl undef)) rfl (on rfl rfl rfl rfl) ?_
          refine rg_put (d := 56) (v := .d (.fl undef)) rfl (on rfl rfl rfl rfl) ?_
          refine rg_put (d := 57) (v := .d (.fl (.bool true))) rfl (og rfl (op_pick rfl rfl rfl rfl)) ?_
          refine rg_done rfl ?_
          refine a_condK rfl rfl ?_
          refine a_rseq ?_
          refine rg_put (d := 2) (v := .d (.fl (.bool false))) rfl (og rfl (op_assign rfl rfl rfl)) ?_
          refine rg_done rfl ?_
          refine a_ret ?_
          show ∃ ds, ResL _ _ _ ds ∧ RV.of ds = _
          refine ⟨[.fl (.bool false)], (.cons (.tmp rfl (.d _)) .nil), ?_⟩
          rw [smB_f (fun hz9 => by have := hz9.cs; have := of_decide_eq_true h7; omega)]; rfl
      · skip
        have h52 := t_dec h5
        refine rg_put (d := 30) (v := .d (.fl undef)) rfl (on rfl rfl rfl h5) ?_
        refine rg_put (d := 31) (v := .d (.fl undef)) rfl (on rfl rfl rfl h5) ?_
        refine rg_put (d := 32) (v := .d (.fl undef)) rfl (on rfl rfl rfl h5) ?_
        refine rg_put (d := 33) (v := .d (.fl undef)) rfl (on rfl rfl rfl h5) ?_
        refine rg_put (d := 34) (v := .d (.fl (.bool true))) rfl (og rfl (op_pick rfl rfl (by rw [h5]; rfl) rfl)) ?_
        refine rg_put (d := 35) (v := .d (.fl (.bool true))) rfl (og rfl (op_move rfl rfl rfl)) ?_
        refine rg_put (d := 36) (v := .d (.fl undef)) rfl (on rfl rfl rfl rfl) ?_
        refine rg_put (d := 37) (v := .d (.fl undef)) rfl (on rfl rfl rfl rfl) ?_
        refine rg_put (d := 38) (v := .d (.fl undef)) rfl (on rfl rfl rfl rfl) ?_
        refine rg_put (d := 39) (v := .d (.fl undef)) rfl (on rfl rfl rfl rfl) ?_
        refine rg_put (d := 40) (v := .d (.fl undef)) rfl (on rfl rfl rfl rfl) ?_
        refine rg_put (d := 41) (v := .d (.fl (.bool true))) rfl (og rfl (op_pick rfl rfl rfl rfl)) ?_
        refine rg_put (d := 42) (v := .d (.fl (.bool true))) rfl (og rfl (op_move rfl rfl rfl)) ?_
        refine rg_put (d := 43) (v := .d (.fl undef)) rfl (on rfl rfl rfl rfl) ?_
        refine rg_put (d := 44) (v := .d (.fl undef)) rfl (on rfl rfl rfl rfl) ?_
        refine rg_put (d := 45) (v := .d (.fl undef)) rfl (on rfl rfl rfl rfl) ?_
        refine rg_put (d := 46) (v := .d (.fl undef)) rfl (on rfl rfl rfl rfl) ?_
        refine rg_put (d := 47) (v := .d (.fl undef)) rfl (on rfl rfl rfl rfl) ?_
        refine rg_put (d := 48) (v := .d (.fl undef)) rfl (on rfl rfl rfl rfl) ?_
        refine rg_put (d := 49) (v := .d (.fl (.bool true))) rfl (og rfl (op_pick rfl rfl rfl rfl)) ?_
        refine rg_put (d := 50) (v := .d (.fl (.bool true))) rfl (og rfl (op_move rfl rfl rfl)) ?_
        refine rg_put (d := 51) (v := .d (.fl undef)) rfl (on rfl rfl rfl rfl) ?_
        refine rg_put (d := 52) (v := .d (.fl undef)) rfl (on rfl rfl rfl rfl) ?_
        refine rg_put (d := 53) (v := .d (.fl undef)) rfl (on rfl rfl rfl rfl) ?_
        refine rg_put (d := 54) (v := .d (.fl undef)) rfl (on rfl rfl rfl rfl) ?_
        refine rg_put (d := 55) (v := .d (.fl undef)) rfl (on rfl rfl rfl rfl) ?_
        refine rg_put (d := 56) (v := .d (.fl undef)) rfl (on rfl rfl rfl rfl) ?_
        refine rg_put (d := 57) (v := .d (.fl (.bool true))) rfl (og rfl (op_pick rfl rfl rfl rfl)) ?_
        refine rg_done rfl ?_
        refine a_condK rfl rfl ?_
        refine a_rseq ?_
        refine rg_put (d := 2) (v := .d (.fl (.bool false))) rfl (og rfl (op_assign rfl rfl rfl)) ?_
        refine rg_done rfl ?_
        refine a_ret ?_
        show ∃ ds, ResL _ _ _ ds ∧ RV.of ds = _
        refine ⟨[.fl (.bool false)], (.cons (.tmp rfl (.d _)) .nil), ?_⟩
        rw [smB_f (fun hz9 => by have := hz9.en; have := of_decide_eq_true h5; omega)]; rfl
    · skip
      have h53 := t_dec h3
      refine rg_put (d := 22) (v := .d (.fl undef)) rfl (on rfl rfl rfl h3) ?_
      refine rg_put (d := 23) (v := .d (.fl undef)) rfl (on rfl rfl rfl h3) ?_
      refine rg_put (d := 24) (v := .d (.fl undef)) rfl (on rfl rfl rfl h3) ?_
      refine rg_put (d := 25) (v := .d (.fl undef)) rfl (on rfl rfl rfl h3) ?_
      refine rg_put (d := 26) (v := .d (.fl undef)) rfl (on rfl rfl rfl h3) ?_
      refine rg_put (d := 27) (v := .d (.fl undef)) rfl (on rfl rfl rfl h3) ?_
      refine rg_put (d := 28) (v := .d (.fl (.bool true))) rfl (og rfl (op_pick rfl rfl (by rw [h3]; rfl) rfl)) ?_
      refine rg_put (d := 29) (v := .d (.fl (.bool true))) rfl (og rfl (op_move rfl rfl rfl)) ?_
      refine rg_put (d := 30) (v := .d (.fl undef)) rfl (on rfl rfl rfl rfl) ?_
      refine rg_put (d := 31) (v := .d (.fl undef)) rfl (on rfl rfl rfl rfl) ?_
      refine rg_put (d := 32) (v := .d (.fl undef)) rfl (on rfl rfl rfl rfl) ?_
      refine rg_put (d := 33) (v := .d (.fl undef)) rfl (on rfl rfl rfl rfl) ?_
      refine rg_put (d := 34) (v := .d (.fl (.bool true))) rfl (og rfl (op_pick rfl rfl rfl rfl)) ?_
      refine rg_put (d := 35) (v := .d (.fl (.bool true))) rfl (og rfl (op_move rfl rfl rfl)) ?_
      refine rg_put (d := 36) (v := .d (.fl undef)) rfl (on rfl rfl rfl rfl) ?_
      refine rg_put (d := 37) (v := .d (.fl undef)) rfl (on rfl rfl rfl rfl) ?_
      refine rg_put (d := 38) (v := .d (.fl undef)) rfl (on rfl rfl rfl rfl) ?_
      refine rg_put (d := 39) (v := .d (.fl undef)) rfl (on rfl rfl rfl rfl) ?_
      refine rg_put (d := 40) (v := .d (.fl undef)) rfl (on rfl rfl rfl rfl) ?_
      refine rg_put (d := 41) (v := .d (.fl (.bool true))) rfl (og rfl (op_pick rfl rfl rfl rfl)) ?_
      refine rg_put (d := 42) (v := .d (.fl (.bool true))) rfl (og rfl (op_move rfl rfl rfl)) ?_
      refine rg_put (d := 43) (v := .d (.fl undef)) rfl (on rfl rfl rfl rfl) ?_
      refine rg_put (d := 44) (v := .d (.fl undef)) rfl (on rfl rfl rfl rfl) ?_
      refine rg_put (d := 45) (v := .d (.fl undef)) rfl (on rfl rfl rfl rfl) ?_
      refine rg_put (d := 46) (v := .d (.fl undef)) rfl (on rfl rfl rfl rfl) ?_
      refine rg_put (d := 47) (v := .d (.fl undef)) rfl (on rfl rfl rfl rfl) ?_
      refine rg_put (d := 48) (v := .d (.fl undef)) rfl (on rfl rfl rfl rfl) ?_
      refine rg_put (d := 49) (v := .d (.fl (.bool true))) rfl (og rfl (op_pick rfl rfl rfl rfl)) ?_
      refine rg_put (d := 50) (v := .d (.fl (.bool true))) rfl (og rfl (op_move rfl rfl rfl)) ?_
      refine rg_put (d := 51) (v := .d (.fl undef)) rfl (on rfl rfl rfl rfl) ?_
      refine rg_put (d := 52) (v := .d (.fl undef)) rfl (on rfl rfl rfl rfl) ?_
      refine rg_put (d := 53) (v := .d (.fl undef)) rfl (on rfl rfl rfl rfl) ?_
      refine rg_put (d := 54) (v := .d (.fl undef)) rfl (on rfl rfl rfl rfl) ?_
      refine rg_put (d := 55) (v := .d (.fl undef)) rfl (on rfl rfl rfl rfl) ?_
      refine rg_put (d := 56) (v := .d (.fl undef)) rfl (on rfl rfl rfl rfl) ?_
      refine rg_put (d := 57) (v := .d (.fl (.bool true))) rfl (og rfl (op_pick rfl rfl rfl rfl)) ?_
      refine rg_done rfl ?_
      refine a_condK rfl rfl ?_
      refine a_rseq ?_
      refine rg_put (d := 2) (v := .d (.fl (.bool false))) rfl (og rfl (op_assign rfl rfl rfl)) ?_
      refine rg_done rfl ?_
      refine a_ret ?_
      show ∃ ds, ResL _ _ _ ds ∧ RV.of ds = _
      refine ⟨[.fl (.bool false)], (.cons (.tmp rfl (.d _)) .nil), ?_⟩
      rw [smB_f (fun hz9 => by have := hz9.acc; have := of_decide_eq_true h3; omega)]; rfl
  · skip
    have h54 := t_dec h1
    refine rg_put (d := 15) (v := .d (.fl undef)) rfl (on rfl rfl rfl h1) ?_
    refine rg_put (d := 16) (v := .d (.fl undef)) rfl (on rfl rfl rfl h1) ?_
    refine rg_put (d := 17) (v := .d (.fl undef)) rfl (on rfl rfl rfl h1) ?_
    refine rg_put (d := 18) (v := .d (.fl undef)) rfl (on rfl rfl rfl h1) ?_
    refine rg_put (d := 19) (v := .d (.fl undef)) rfl (on rfl rfl rfl h1) ?_
    refine rg_put (d := 20) (v := .d (.fl (.bool true))) rfl (og rfl (op_pick rfl rfl (by rw [h1]; rfl) rfl)) ?_
    refine rg_put (d := 21) (v := .d (.fl (.bool true))) rfl (og rfl (op_move rfl rfl rfl)) ?_
    refine rg_put (d := 22) (v := .d (.fl undef)) rfl (on rfl rfl rfl rfl) ?_
    refine rg_put (d := 23) (v := .d (.fl undef)) rfl (on rfl rfl rfl rfl) ?_
    refine rg_put (d := 24) (v := .d (.fl undef)) rfl (on rfl rfl rfl rfl) ?_
    refine rg_put (d := 25) (v := .d (.fl undef)) rfl (on rfl rfl rfl rfl) ?_
    refine rg_put (d := 26) (v := .d (.fl undef)) rfl (on rfl rfl rfl rfl) ?_
    refine rg_put (d := 27) (v := .d (.fl undef)) rfl (on rfl rfl rfl rfl) ?_
    refine rg_put (d := 28) (v := .d (.fl (.bool true))) rfl (og rfl (op_pick rfl rfl rfl rfl)) ?_
    refine rg_put (d := 29) (v := .d (.fl (.bool true))) rfl (og rfl (op_move rfl rfl rfl)) ?_
    refine rg_put (d := 30) (v := .d (.fl undef)) rfl (on rfl rfl rfl rfl) ?_
    refine rg_put (d := 31) (v := .d (.fl undef)) rfl (on rfl rfl rfl rfl) ?_
    refine rg_put (d := 32) (v := .d (.fl undef)) rfl (on rfl rfl rfl rfl) ?_
    refine rg_put (d := 33) (v := .d (.fl undef)) rfl (on rfl rfl rfl rfl) ?_
    refine rg_put (d := 34) (v := .d (.fl (.bool true))) rfl (og rfl (op_pick rfl rfl rfl rfl)) ?_
    refine rg_put (d := 35) (v := .d (.fl (.bool true))) rfl (og rfl (op_move rfl rfl rfl)) ?_
    refine rg_put (d := 36) (v := .d (.fl undef)) rfl (on rfl rfl rfl rfl) ?_
    refine rg_put (d := 37) (v := .d (.fl undef)) rfl (on rfl rfl rfl rfl) ?_
    refine rg_put (d := 38) (v := .d (.fl undef)) rfl (on rfl rfl rfl rfl) ?_
    refine rg_put (d := 39) (v := .d (.fl undef)) rfl (on rfl rfl rfl rfl) ?_
    refine rg_put (d := 40) (v := .d (.fl undef)) rfl (on rfl rfl rfl rfl) ?_
    refine rg_put (d := 41) (v := .d (.fl (.bool true))) rfl (og rfl (op_pick rfl rfl rfl rfl)) ?_
    refine rg_put (d := 42) (v := .d (.fl (.bool true))) rfl (og rfl (op_move rfl rfl rfl)) ?_
    refine rg_put (d := 43) (v := .d (.fl undef)) rfl (on rfl rfl rfl rfl) ?_
    refine rg_put (d := 44) (v := .d (.fl undef)) rfl (on rfl rfl rfl rfl) ?_
    refine rg_put (d := 45) (v := .d (.fl undef)) rfl (on rfl rfl rfl rfl) ?_
    refine rg_put (d := 46) (v := .d (.fl undef)) rfl (on rfl rfl rfl rfl) ?_
    refine rg_put (d := 47) (v := .d (.fl undef)) rfl (on rfl rfl rfl rfl) ?_
    refine rg_put (d := 48) (v := .d (.fl undef)) rfl (on rfl rfl rfl rfl) ?_
    refine rg_put (d := 49) (v := .d (.fl (.bool true))) rfl (og rfl (op_pick rfl rfl rfl rfl)) ?_
    refine rg_put (d := 50) (v := .d (.fl (.bool true))) rfl (og rfl (op_move rfl rfl rfl)) ?_
    refine rg_put (d := 51) (v := .d (.fl undef)) rfl (on rfl rfl rfl rfl) ?_
    refine rg_put (d := 52) (v := .d (.fl undef)) rfl (on rfl rfl rfl rfl) ?_
    refine rg_put (d := 53) (v := .d (.fl undef)) rfl (on rfl rfl rfl rfl) ?_
    refine rg_put (d := 54) (v := .d (.fl undef)) rfl (on rfl rfl rfl rfl) ?_
    refine rg_put (d := 55) (v := .d (.fl undef)) rfl (on rfl rfl rfl rfl) ?_
    refine rg_put (d := 56) (v := .d (.fl undef)) rfl (on rfl rfl rfl rfl) ?_
    refine rg_put (d := 57) (v := .d (.fl (.bool true))) rfl (og rfl (op_pick rfl rfl rfl rfl)) ?_
    refine rg_done rfl ?_
    refine a_condK rfl rfl ?_
    refine a_rseq ?_
    refine rg_put (d := 2) (v := .d (.fl (.bool false))) rfl (og rfl (op_assign rfl rfl rfl)) ?_
    refine rg_done rfl ?_
    refine a_ret ?_
    show ∃ ds, ResL _ _ _ ds ∧ RV.of ds = _
    refine ⟨[.fl (.bool false)], (.cons (.tmp rfl (.d _)) .nil), ?_⟩
    rw [smB_f (fun hz9 => by have := hz9.chg; have := of_decide_eq_true h1; omega)]; rfl
set_option maxHeartbeats 4000000 in
set_option maxRecDepth 100000 in
theorem law4 (s : Sa) (day : Int) (ho : okSa s) : CtrK Tryd.prog KK 4 [.ag (eSa s), .fl (.int .i64 day)] (.d (.fl (.bool true))) := by
  refine ctrK (n := 35) (rs := #[.tmp 4]) (L := [(0, .d (.ag (eSa s))), (1, .d (.fl (.int .i64 day)))]) Tryd.func4 rfl rfl rfl rfl rfl (fun w0 U0 hG => ?_)
  refine a_rseq ?_
  refine rg_nam (d := 2) (v := .pt 101 0) (m := 101) (nw := [(101, .bx 70 (eSa s))]) rfl (og rfl (of_eff (op_box 101 rfl rfl rfl rfl) rfl)) rfl ?_
  refine rg_put (d := 4) (v := .d (.fl (.bool false))) rfl (og rfl (op_assign rfl rfl rfl)) ?_
  refine rg_done rfl ?_
  refine a_seq ?_
  refine a_rseq ?_
  refine rg_put (d := 9) (v := .d (.ag (eSa s))) rfl (og rfl (of_eff (s_load_pts rfl Tryd.underlying70 rfl ti70 rfl rfl rfl rfl) rfl)) ?_
  refine rg_put (d := 10) (v := .d (.fl (.bool (smB s)))) rfl (og rfl (op_call rfl Tryd.func12 nm12 rfl (.cons rfl (.d _) .nil) (small12 s ho) rfl)) ?_
  refine rg_put (d := 11) (v := .d (.fl (.bool ((!(smB s)))))) rfl (og rfl (op_un rfl rfl (u_not _) rfl)) ?_
  refine rg_done rfl ?_
  refine a_cond rfl (fun h1 => ?_) (fun h1 => ?_)
  · skip
    have h2 := t_not h1
    refine a_rseq ?_
    refine rg_put (d := 4) (v := .d (.fl (.bool true))) rfl (og rfl (op_assign rfl rfl rfl)) ?_
    refine rg_done rfl ?_
    refine a_ret ?_
    show ∃ ds, ResL _ _ _ ds ∧ RV.of ds = _
    refine ⟨[.fl (.bool true)], (.cons (.tmp rfl (.d _)) .nil), ?_⟩
    rfl
  · skip
    have h3 := f_not h1
    have hS := smB_p h3
    have hL := okL_of ho hS
    have hQ := okQ_of ho hS
    have hT := okT_of ho hS
    refine a_skip ?_
    show A _ _ _ _ _ _ _
    refine a_rseq ?_
    refine rg_put (d := 13) (v := .d (.ag (eSa s))) rfl (og rfl (of_eff (s_load_pts rfl Tryd.underlying70 rfl ti70 rfl rfl rfl rfl) rfl)) ?_
    refine rg_put (d := 14) (v := .d (.fl (.int .i64 day))) rfl (og rfl (op_move rfl rfl rfl)) ?_
    refine rg_put (d := 15) (v := .tu [.fl (.string ((dyS s.res.chg day).1)), .fl (.int .i64 ((dyS s.res.chg day).2))]) rfl (og rfl (op_callK kkst hG rfl Tryd.func13 nm13 rfl (.cons rfl (.d _) (.cons rfl (.d _) .nil)) (day15 s day hL) rfl)) ?_
    refine rg_put (d := 12) (v := .tu [.fl (.string ((dyS s.res.chg day).1)), .fl (.int .i64 ((dyS s.res.chg day).2))]) rfl (og rfl (op_move rfl rfl rfl)) ?_
    refine rg_put (d := 16) (v := .d (.fl (.string ((dyS s.res.chg day).1)))) rfl (og rfl (op_extract rfl rfl rfl rfl)) ?_
    refine rg_put (d := 17) (v := .d (.fl (.int .i64 ((dyS s.res.chg day).2)))) rfl (og rfl (op_extract rfl rfl rfl rfl)) ?_
    refine rg_put (d := 5) (v := .d (.fl (.string ((dyS s.res.chg day).1)))) rfl (og rfl (op_assign rfl rfl rfl)) ?_
    refine rg_put (d := 6) (v := .d (.fl (.int .i64 ((dyS s.res.chg day).2)))) rfl (og rfl (op_assign rfl rfl rfl)) ?_
    refine rg_done rfl ?_
    refine a_rseq ?_
    refine rg_put (d := 19) (v := .d (.ag (eSa s))) rfl (og rfl (of_eff (s_load_pts rfl Tryd.underlying70 rfl ti70 rfl rfl rfl rfl) rfl)) ?_
    refine rg_put (d := 20) (v := .d (.fl (.int .i64 day))) rfl (og rfl (op_move rfl rfl rfl)) ?_
    refine rg_put (d := 21) (v := .tu [.fl (.string ((dyS s.res.chg day).1)), .fl (.int .i64 ((dyS s.res.chg day).2))]) rfl (og rfl (op_call rfl Tryd.func14 nm14 rfl (.cons rfl (.d _) (.cons rfl (.d _) .nil)) (day16 s day hL) rfl)) ?_
    refine rg_put (d := 18) (v := .tu [.fl (.string ((dyS s.res.chg day).1)), .fl (.int .i64 ((dyS s.res.chg day).2))]) rfl (og rfl (op_move rfl rfl rfl)) ?_
    refine rg_put (d := 22) (v := .d (.fl (.string ((dyS s.res.chg day).1)))) rfl (og rfl (op_extract rfl rfl rfl rfl)) ?_
    refine rg_put (d := 23) (v := .d (.fl (.int .i64 ((dyS s.res.chg day).2)))) rfl (og rfl (op_extract rfl rfl rfl rfl)) ?_
    refine rg_put (d := 7) (v := .d (.fl (.string ((dyS s.res.chg day).1)))) rfl (og rfl (op_assign rfl rfl rfl)) ?_
    refine rg_put (d := 8) (v := .d (.fl (.int .i64 ((dyS s.res.chg day).2)))) rfl (og rfl (op_assign rfl rfl rfl)) ?_
    refine rg_done rfl ?_
    refine a_rseq ?_
    refine rg_put (d := 24) (v := .d (.fl (.string ((dyS s.res.chg day).1)))) rfl (og rfl (op_move rfl rfl rfl)) ?_
    refine rg_put (d := 25) (v := .d (.fl (.string ((dyS s.res.chg day).1)))) rfl (og rfl (op_move rfl rfl rfl)) ?_
    refine rg_put (d := 26) (v := .d (.fl (.bool ((sEq ((dyS s.res.chg day).1) ((dyS s.res.chg day).1)))))) rfl (og rfl (op_bin rfl rfl rfl (b_seq _ _ _) rfl)) ?_
    refine rg_put (d := 27) (v := .d (.fl (.bool ((sEq ((dyS s.res.chg day).1) ((dyS s.res.chg day).1)))))) rfl (og rfl (op_move rfl rfl rfl)) ?_
    refine rg_put (d := 28) (v := .d (.fl (.int .i64 ((dyS s.res.chg day).2)))) rfl (oy rfl rfl rfl (eq_self_s _) (op_move rfl rfl rfl)) ?_
    refine rg_put (d := 29) (v := .d (.fl (.int .i64 ((dyS s.res.chg day).2)))) rfl (oy rfl rfl rfl (eq_self_s _) (op_move rfl rfl rfl)) ?_
    refine rg_put (d := 30) (v := .d (.fl (.bool (((dyS s.res.chg day).2 == (dyS s.res.chg day).2))))) rfl (oy rfl rfl rfl (eq_self_s _) (op_bin rfl rfl rfl (b_eql _ _ _ _) rfl)) ?_
    refine rg_put (d := 31) (v := .d (.fl (.bool (((dyS s.res.chg day).2 == (dyS s.res.chg day).2))))) rfl (og rfl (op_pick rfl rfl (by rw [(eq_self_s _)]; rfl) rfl)) ?_
    refine rg_put (d := 32) (v := .d (.fl (.bool (((dyS s.res.chg day).2 == (dyS s.res.chg day).2))))) rfl (og rfl (op_move rfl rfl rfl)) ?_
    refine rg_put (d := 33) (v := .d (.fl (.bool true))) rfl (oy rfl rfl rfl (eq_self_b _) (op_callK kkst hG rfl Tryd.func11 nm11 rfl .nil alive11 rfl)) ?_
    refine rg_put (d := 34) (v := .d (.fl (.bool true))) rfl (og rfl (op_pick rfl rfl (by rw [(eq_self_b _)]; rfl) rfl)) ?_
    refine rg_put (d := 4) (v := .d (.fl (.bool true))) rfl (og rfl (op_assign rfl rfl rfl)) ?_
    refine rg_done rfl ?_
    refine a_ret ?_
    show ∃ ds, ResL _ _ _ ds ∧ RV.of ds = _
    refine ⟨[.fl (.bool true)], (.cons (.tmp rfl (.d _)) .nil), ?_⟩
    rfl
set_option maxHeartbeats 4000000 in
set_option maxRecDepth 100000 in
theorem law6 (s : Sa) (id : ByteArray) (hi : id.size ≤ 9223372036854775807) (ho : okSa s) : CtrK Tryd.prog KK 6 [.ag (eSa s), .fl (.string id)] (.d (.fl (.bool true))) := by
  refine ctrK (n := 40) (rs := #[.tmp 4]) (L := [(0, .d (.ag (eSa s))), (1, .d (.fl (.string id)))]) Tryd.func6 rfl rfl rfl rfl rfl (fun w0 U0 hG => ?_)
  refine a_rseq ?_
  refine rg_nam (d := 2) (v := .pt 101 0) (m := 101) (nw := [(101, .bx 70 (eSa s))]) rfl (og rfl (of_eff (op_box 101 rfl rfl rfl rfl) rfl)) rfl ?_
  refine rg_put (d := 4) (v := .d (.fl (.bool false))) rfl (og rfl (op_assign rfl rfl rfl)) ?_
  refine rg_done rfl ?_
  refine a_seq ?_
  refine a_rseq ?_
  refine rg_put (d := 9) (v := .d (.ag (eSa s))) rfl (og rfl (of_eff (s_load_pts rfl Tryd.underlying70 rfl ti70 rfl rfl rfl rfl) rfl)) ?_
  refine rg_put (d := 10) (v := .d (.fl (.bool (smB s)))) rfl (og rfl (op_call rfl Tryd.func12 nm12 rfl (.cons rfl (.d _) .nil) (small12 s ho) rfl)) ?_
  refine rg_put (d := 11) (v := .d (.fl (.bool ((!(smB s)))))) rfl (og rfl (op_un rfl rfl (u_not _) rfl)) ?_
  refine rg_put (d := 12) (v := .d (.fl (.bool ((!(smB s)))))) rfl (og rfl (op_move rfl rfl rfl)) ?_
  rcases fot ((!(smB s))) with h1 | h1
  · skip
    have h2 := f_not h1
    have hS := smB_p h2
    have hL := okL_of ho hS
    have hQ := okQ_of ho hS
    have hT := okT_of ho hS
    refine rg_put (d := 13) (v := .d (.fl (.string id))) rfl (oy rfl rfl rfl h1 (op_move rfl rfl rfl)) ?_
    refine rg_put (d := 14) (v := .d (.fl (.int .i64 (id.size : Int)))) rfl (oy rfl rfl rfl h1 (op_len_str rfl Tryd.underlying9 rfl rfl)) ?_
    refine rg_put (d := 15) (v := .d (.fl (.bool ((decide (200 < (id.size : Int))))))) rfl (oy rfl rfl rfl h1 (op_bin rfl rfl rfl (b_gtr _ _ _ _) rfl)) ?_
    refine rg_put (d := 16) (v := .d (.fl (.bool ((decide (200 < (id.size : Int))))))) rfl (og rfl (op_pick rfl rfl (by rw [h1]; rfl) rfl)) ?_
    refine rg_done rfl ?_
    refine a_cond rfl (fun h3 => ?_) (fun h3 => ?_)
    · skip
      have h4 := t_dec h3
      refine a_rseq ?_
      refine rg_put (d := 4) (v := .d (.fl (.bool true))) rfl (og rfl (op_assign rfl rfl rfl)) ?_
      refine rg_done rfl ?_
      refine a_ret ?_
      show ∃ ds, ResL _ _ _ ds ∧ RV.of ds = _
      refine ⟨[.fl (.bool true)], (.cons (.tmp rfl (.d _)) .nil), ?_⟩
      rfl
    · skip
      have h5 := f_dec h3
      refine a_skip ?_
      show A _ _ _ _ _ _ _
      refine a_rseq ?_
      refine rg_put (d := 18) (v := .d (.ag (eSa s))) rfl (og rfl (of_eff (s_load_pts rfl Tryd.underlying70 rfl ti70 rfl rfl rfl rfl) rfl)) ?_
      refine rg_put (d := 19) (v := .d (.fl (.string id))) rfl (og rfl (op_move rfl rfl rfl)) ?_
      refine rg_put (d := 20) (v := .tu [.fl (.string ((ceS s id).1)), .fl (.int .i64 ((ceS s id).2))]) rfl (og rfl (op_callK kkst hG rfl Tryd.func17 nm17 rfl (.cons rfl (.d _) (.cons rfl (.d _) .nil)) (case17 s id hQ) rfl)) ?_
      refine rg_put (d := 17) (v := .tu [.fl (.string ((ceS s id).1)), .fl (.int .i64 ((ceS s id).2))]) rfl (og rfl (op_move rfl rfl rfl)) ?_
      refine rg_put (d := 21) (v := .d (.fl (.string ((ceS s id).1)))) rfl (og rfl (op_extract rfl rfl rfl rfl)) ?_
      refine rg_put (d := 22) (v := .d (.fl (.int .i64 ((ceS s id).2)))) rfl (og rfl (op_extract rfl rfl rfl rfl)) ?_
      refine rg_put (d := 5) (v := .d (.fl (.string ((ceS s id).1)))) rfl (og rfl (op_assign rfl rfl rfl)) ?_
      refine rg_put (d := 6) (v := .d (.fl (.int .i64 ((ceS s id).2)))) rfl (og rfl (op_assign rfl rfl rfl)) ?_
      refine rg_done rfl ?_
      refine a_rseq ?_
      refine rg_put (d := 24) (v := .d (.ag (eSa s))) rfl (og rfl (of_eff (s_load_pts rfl Tryd.underlying70 rfl ti70 rfl rfl rfl rfl) rfl)) ?_
      refine rg_put (d := 25) (v := .d (.fl (.string id))) rfl (og rfl (op_move rfl rfl rfl)) ?_
      refine rg_put (d := 26) (v := .tu [.fl (.string ((ceS s id).1)), .fl (.int .i64 ((ceS s id).2))]) rfl (og rfl (op_call rfl Tryd.func18 nm18 rfl (.cons rfl (.d _) (.cons rfl (.d _) .nil)) (case18 s id hQ) rfl)) ?_
      refine rg_put (d := 23) (v := .tu [.fl (.string ((ceS s id).1)), .fl (.int .i64 ((ceS s id).2))]) rfl (og rfl (op_move rfl rfl rfl)) ?_
      refine rg_put (d := 27) (v := .d (.fl (.string ((ceS s id).1)))) rfl (og rfl (op_extract rfl rfl rfl rfl)) ?_
      refine rg_put (d := 28) (v := .d (.fl (.int .i64 ((ceS s id).2)))) rfl (og rfl (op_extract rfl rfl rfl rfl)) ?_
      refine rg_put (d := 7) (v := .d (.fl (.string ((ceS s id).1)))) rfl (og rfl (op_assign rfl rfl rfl)) ?_
      refine rg_put (d := 8) (v := .d (.fl (.int .i64 ((ceS s id).2)))) rfl (og rfl (op_assign rfl rfl rfl)) ?_
      refine rg_done rfl ?_
      refine a_rseq ?_
      refine rg_put (d := 29) (v := .d (.fl (.string ((ceS s id).1)))) rfl (og rfl (op_move rfl rfl rfl)) ?_
      refine rg_put (d := 30) (v := .d (.fl (.string ((ceS s id).1)))) rfl (og rfl (op_move rfl rfl rfl)) ?_
      refine rg_put (d := 31) (v := .d (.fl (.bool ((sEq ((ceS s id).1) ((ceS s id).1)))))) rfl (og rfl (op_bin rfl rfl rfl (b_seq _ _ _) rfl)) ?_
      refine rg_put (d := 32) (v := .d (.fl (.bool ((sEq ((ceS s id).1) ((ceS s id).1)))))) rfl (og rfl (op_move rfl rfl rfl)) ?_
      refine rg_put (d := 33) (v := .d (.fl (.int .i64 ((ceS s id).2)))) rfl (oy rfl rfl rfl (eq_self_s _) (op_move rfl rfl rfl)) ?_
      refine rg_put (d := 34) (v := .d (.fl (.int .i64 ((ceS s id).2)))) rfl (oy rfl rfl rfl (eq_self_s _) (op_move rfl rfl rfl)) ?_
      refine rg_put (d := 35) (v := .d (.fl (.bool (((ceS s id).2 == (ceS s id).2))))) rfl (oy rfl rfl rfl (eq_self_s _) (op_bin rfl rfl rfl (b_eql _ _ _ _) rfl)) ?_
      refine rg_put (d := 36) (v := .d (.fl (.bool (((ceS s id).2 == (ceS s id).2))))) rfl (og rfl (op_pick rfl rfl (by rw [(eq_self_s _)]; rfl) rfl)) ?_
      refine rg_put (d := 37) (v := .d (.fl (.bool (((ceS s id).2 == (ceS s id).2))))) rfl (og rfl (op_move rfl rfl rfl)) ?_
      refine rg_put (d := 38) (v := .d (.fl (.bool true))) rfl (oy rfl rfl rfl (eq_self_b _) (op_callK kkst hG rfl Tryd.func11 nm11 rfl .nil alive11 rfl)) ?_
      refine rg_put (d := 39) (v := .d (.fl (.bool true))) rfl (og rfl (op_pick rfl rfl (by rw [(eq_self_b _)]; rfl) rfl)) ?_
      refine rg_put (d := 4) (v := .d (.fl (.bool true))) rfl (og rfl (op_assign rfl rfl rfl)) ?_
      refine rg_done rfl ?_
      refine a_ret ?_
      show ∃ ds, ResL _ _ _ ds ∧ RV.of ds = _
      refine ⟨[.fl (.bool true)], (.cons (.tmp rfl (.d _)) .nil), ?_⟩
      rfl
  · skip
    have h6 := t_not h1
    refine rg_put (d := 13) (v := .d (.fl undef)) rfl (on rfl rfl rfl h1) ?_
    refine rg_put (d := 14) (v := .d (.fl undef)) rfl (on rfl rfl rfl h1) ?_
    refine rg_put (d := 15) (v := .d (.fl undef)) rfl (on rfl rfl rfl h1) ?_
    refine rg_put (d := 16) (v := .d (.fl (.bool true))) rfl (og rfl (op_pick rfl rfl (by rw [h1]; rfl) rfl)) ?_
    refine rg_done rfl ?_
    refine a_condK rfl rfl ?_
    refine a_rseq ?_
    refine rg_put (d := 4) (v := .d (.fl (.bool true))) rfl (og rfl (op_assign rfl rfl rfl)) ?_
    refine rg_done rfl ?_
    refine a_ret ?_
    show ∃ ds, ResL _ _ _ ds ∧ RV.of ds = _
    refine ⟨[.fl (.bool true)], (.cons (.tmp rfl (.d _)) .nil), ?_⟩
    rfl
set_option maxHeartbeats 4000000 in
set_option maxRecDepth 100000 in
theorem law7 (s : Sa) (ho : okSa s) : CtrK Tryd.prog KK 7 [.ag (eSa s)] (.d (.fl (.bool true))) := by
  refine ctrK (n := 14) (rs := #[.tmp 2]) (L := [(0, .d (.ag (eSa s)))]) Tryd.func7 rfl rfl rfl rfl rfl (fun w0 U0 hG => ?_)
  refine a_rseq ?_
  refine rg_nam (d := 1) (v := .pt 101 0) (m := 101) (nw := [(101, .bx 70 (eSa s))]) rfl (og rfl (of_eff (op_box 101 rfl rfl rfl rfl) rfl)) rfl ?_
  refine rg_put (d := 2) (v := .d (.fl (.bool false))) rfl (og rfl (op_assign rfl rfl rfl)) ?_
  refine rg_done rfl ?_
  refine a_seq ?_
  refine a_rseq ?_
  refine rg_put (d := 3) (v := .d (.ag (eSa s))) rfl (og rfl (of_eff (s_load_pts rfl Tryd.underlying70 rfl ti70 rfl rfl rfl rfl) rfl)) ?_
  refine rg_put (d := 4) (v := .d (.fl (.bool (smB s)))) rfl (og rfl (op_call rfl Tryd.func12 nm12 rfl (.cons rfl (.d _) .nil) (small12 s ho) rfl)) ?_
  refine rg_put (d := 5) (v := .d (.fl (.bool ((!(smB s)))))) rfl (og rfl (op_un rfl rfl (u_not _) rfl)) ?_
  refine rg_done rfl ?_
  refine a_cond rfl (fun h1 => ?_) (fun h1 => ?_)
  · skip
    have h2 := t_not h1
    refine a_rseq ?_
    refine rg_put (d := 2) (v := .d (.fl (.bool true))) rfl (og rfl (op_assign rfl rfl rfl)) ?_
    refine rg_done rfl ?_
    refine a_ret ?_
    show ∃ ds, ResL _ _ _ ds ∧ RV.of ds = _
    refine ⟨[.fl (.bool true)], (.cons (.tmp rfl (.d _)) .nil), ?_⟩
    rfl
  · skip
    have h3 := f_not h1
    have hS := smB_p h3
    have hL := okL_of ho hS
    have hQ := okQ_of ho hS
    have hT := okT_of ho hS
    refine a_skip ?_
    show A _ _ _ _ _ _ _
    refine a_dseq (by kernel_rfl) ?_
    refine dr_put (d := 6) (v := .d (.ag (eSa s))) rfl (og rfl (of_eff (s_load_pts rfl Tryd.underlying70 rfl ti70 rfl rfl rfl rfl) rfl)) ?_
    refine dr_put (d := 7) (v := .d (.fl (.string (tS s)))) rfl (og rfl (op_callK kkst hG rfl Tryd.func19 nm19 rfl (.cons rfl (.d _) .nil) (tot19 s hT) rfl)) ?_
    refine dr_put (d := 8) (v := .d (.ag (eSa s))) rfl (og rfl (of_eff (s_load_pts rfl Tryd.underlying70 rfl ti70 rfl rfl rfl rfl) rfl)) ?_
    refine dr_put (d := 9) (v := .d (.fl (.string (tS s)))) rfl (og rfl (op_call rfl Tryd.func20 nm20 rfl (.cons rfl (.d _) .nil) (tot20 s hT) rfl)) ?_
    refine dr_put (d := 10) (v := .d (.fl (.bool ((sEq (tS s) (tS s)))))) rfl (og rfl (op_bin rfl rfl rfl (b_seq _ _ _) rfl)) ?_
    refine dr_put (d := 11) (v := .d (.fl (.bool ((sEq (tS s) (tS s)))))) rfl (og rfl (op_move rfl rfl rfl)) ?_
    refine dr_put (d := 12) (v := .d (.fl (.bool true))) rfl (oy rfl rfl rfl (eq_self_s _) (op_callK kkst hG rfl Tryd.func11 nm11 rfl .nil alive11 rfl)) ?_
    refine dr_put (d := 13) (v := .d (.fl (.bool true))) rfl (og rfl (op_pick rfl rfl (by rw [(eq_self_s _)]; rfl) rfl)) ?_
    refine dr_put (d := 2) (v := .d (.fl (.bool true))) rfl (og rfl (op_assign rfl rfl rfl)) ?_
    refine dr_done rfl (by kernel_rfl) (by kernel_rfl) ?_
    refine a_ret ?_
    show ∃ ds, ResL _ _ _ ds ∧ RV.of ds = _
    refine ⟨[.fl (.bool true)], (.cons (.tmp rfl (.d _)) .nil), ?_⟩
    rfl
end Go.Proofs.YtglhonnmppclpaaDoor.Wk
