/- The law of more rules and kinds. No condition. -/
import Derived.Test.YtacbipoplnfmoaaC1
set_option linter.unusedSimpArgs false
set_option linter.unusedVariables false
namespace Go.Proofs.Ytacbipoplnfmoaa.Wk
open Go Go.RowKit Go.Proofs.Ytacbipoplnfmoaa.Av
theorem mx_in {l : List Rl} {ks : List Int} (h : ∀ k, k < l.length → 0 ≤ (ix l k).part ∧ (ix l k).part ≤ 1000) : ∀ k, k ≤ l.length → 0 ≤ mx l ks k ∧ mx l ks k ≤ 1000
  | 0, _ => by simp [mx]
  | k + 1, hk => by
    have h1 := mx_in (ks := ks) h k (by omega)
    have h2 := h k (by omega)
    simp only [mx]
    split <;> omega
theorem prt_in (l : List Rl) (ks : List Int) : 0 ≤ prt l ks ∧ prt l ks ≤ 1000 := by
  unfold prt
  split
  · rename_i h
    exact mx_in (fun k hk => ((chk_each h).2 k hk).2) l.length (Nat.le_refl _)
  · omega
theorem mx_pre {l : List Rl} {m : Rl} {ks : List Int} : ∀ k, k ≤ l.length → mx (l ++ [m]) ks k = mx l ks k
  | 0, _ => rfl
  | k + 1, hk => by
    have e : ix (l ++ [m]) k = ix l k := by
      unfold ix
      rw [List.getD_eq_getElem?_getD, List.getD_eq_getElem?_getD, List.getElem?_append_left (by omega)]
    simp only [mx, e, mx_pre (l := l) k (by omega)]
theorem prt_more {l : List Rl} {m : Rl} {ks : List Int} (h : chk (l ++ [m]) = 0) : prt l ks ≤ prt (l ++ [m]) ks := by
  have h2 := (prt_in (l ++ [m]) ks).1
  unfold prt
  rw [if_pos h]
  unfold prt at h2
  rw [if_pos h] at h2
  split
  · rw [List.length_append, List.length_singleton]
    simp only [mx]
    rw [mx_pre _ (Nat.le_refl _)]
    split <;> omega
  · exact h2
theorem ix_drop (ks : List Int) (k : Nat) (h : k + 1 < ks.length) : ix (ks.drop 1) k = ix ks (k + 1) := by
  unfold ix
  rw [List.getD_eq_getElem?_getD, List.getD_eq_getElem?_getD, List.getElem?_drop, Nat.add_comm]
theorem cn_drop (ks : List Int) (q : Int) : ∀ k, k + 1 ≤ ks.length → cn (ks.drop 1) q k ≤ cn ks q (k + 1)
  | 0, _ => by
    have := (cn_in ks q 1).1
    simpa [cn] using this
  | k + 1, hk => by
    have ih := cn_drop ks q k (by omega)
    have e := ix_drop ks k (by omega)
    by_cases h1 : 1 ≤ ix ks (k + 1) ∧ ix ks (k + 1) ≤ 3
    · by_cases h2 : q = 0 ∨ ix ks (k + 1) = q
      · rw [← cn_yes h1 h2, ← cn_yes (ks := ks.drop 1) (by rw [e]; exact h1) (by rw [e]; exact h2)]; omega
      · rw [← cn_no (.inr h2), ← cn_no (ks := ks.drop 1) (.inr (by rw [e]; exact h2))]; exact ih
    · rw [← cn_no (.inl h1), ← cn_no (ks := ks.drop 1) (.inl (by rw [e]; exact h1))]; exact ih
theorem mx_mono {l : List Rl} {a b : List Int} (h : ∀ q, cn a q a.length ≤ cn b q b.length) : ∀ k, mx l a k ≤ mx l b k
  | 0 => by simp [mx]
  | k + 1 => by
    have ih := mx_mono (l := l) h k
    have hq := h (ix l k).kind
    simp only [mx]
    split <;> split <;> omega
theorem prt_drop (l : List Rl) {ks : List Int} (h : ks.length ≠ 0) : prt l (ks.drop 1) ≤ prt l ks := by
  unfold prt
  split
  · refine mx_mono (fun q => ?_) l.length
    have := cn_drop ks q (ks.length - 1) (by omega)
    rw [List.length_drop, show ks.length = ks.length - 1 + 1 by omega]
    rw [show ks.length - 1 + 1 - 1 = ks.length - 1 by omega]
    exact this
  · exact Int.le_refl _
theorem prt_tail (l : List Rl) {ks : List Int} (h : ks.length ≠ 0) : prt l (List.take (ks.length - 1) (List.drop 1 ks)) ≤ prt l ks := by
  rw [List.take_of_length_le (by simp)]
  exact prt_drop l h

set_option maxHeartbeats 4000000 in
set_option maxRecDepth 100000 in
theorem law4 (l : List Rl) (m : Rl) (ks : List Int) : Ctr Try.prog 4 [.sl 2 (List.map eRl l), .ag (eRl m), .sl 1 (List.map (rI .i64) ks)] (.d (.fl (.bool true))) := by
  refine ctr (n := 60) (rs := #[.tmp 6]) (L := [(0, .d (.sl 2 (List.map eRl l))), (1, .d (.ag (eRl m))), (2, .d (.sl 1 (List.map (rI .i64) ks)))]) Try.func4 rfl rfl rfl rfl rfl (fun w0 U0 => ?_)
  refine a_rseq ?_
  refine rg_nam (d := 4) (v := .pt 101 0) (m := 101) (nw := [(101, .bx 31 (eRl m))]) rfl (og rfl (of_eff (op_box 101 rfl rfl rfl rfl) rfl)) rfl ?_
  refine rg_put (d := 6) (v := .d (.fl (.bool false))) rfl (og rfl (op_assign rfl rfl rfl)) ?_
  refine rg_done rfl ?_
  refine a_seq ?_
  refine a_rseq ?_
  refine rg_put (d := 9) (v := .d (.sl 2 (List.map eRl l))) rfl (og rfl (op_move rfl rfl rfl)) ?_
  refine rg_put (d := 10) (v := .d (.fl (.int .i64 (l.length : Int)))) rfl (og rfl (s_len rfl Try.underlying22 rfl rfl)) ?_
  refine rg_put (d := 11) (v := .d (.fl (.bool ((decide (13 < (l.length : Int))))))) rfl (og rfl (op_bin rfl rfl rfl (b_gtr _ _ _ _) rfl)) ?_
  refine rg_put (d := 12) (v := .d (.fl (.bool ((decide (13 < (l.length : Int))))))) rfl (og rfl (op_move rfl rfl rfl)) ?_
  rcases fot ((decide (13 < (l.length : Int)))) with h1 | h1
  · skip
    have h2 := f_dec h1
    refine rg_put (d := 13) (v := .d (.sl 1 (List.map (rI .i64) ks))) rfl (oy rfl rfl rfl h1 (op_move rfl rfl rfl)) ?_
    refine rg_put (d := 14) (v := .d (.fl (.int .i64 (ks.length : Int)))) rfl (oy rfl rfl rfl h1 (s_len rfl Try.underlying23 rfl rfl)) ?_
    refine rg_put (d := 15) (v := .d (.fl (.bool ((decide (20 < (ks.length : Int))))))) rfl (oy rfl rfl rfl h1 (op_bin rfl rfl rfl (b_gtr _ _ _ _) rfl)) ?_
    refine rg_put (d := 16) (v := .d (.fl (.bool ((decide (20 < (ks.length : Int))))))) rfl (og rfl (op_pick rfl rfl (by rw [h1]; rfl) rfl)) ?_
    refine rg_put (d := 17) (v := .d (.fl (.bool ((decide (20 < (ks.length : Int))))))) rfl (og rfl (op_move rfl rfl rfl)) ?_
    rcases fot ((decide (20 < (ks.length : Int)))) with h3 | h3
    · skip
      have h4 := f_dec h3
      refine rg_put (d := 18) (v := .d (.sl 1 (List.map (rI .i64) ks))) rfl (oy rfl rfl rfl h3 (op_move rfl rfl rfl)) ?_
      refine rg_put (d := 19) (v := .d (.fl (.int .i64 (ks.length : Int)))) rfl (oy rfl rfl rfl h3 (s_len rfl Try.underlying23 rfl rfl)) ?_
      refine rg_put (d := 20) (v := .d (.fl (.bool (((ks.length : Int) == 0))))) rfl (oy rfl rfl rfl h3 (op_bin rfl rfl rfl (b_eql _ _ _ _) rfl)) ?_
      refine rg_put (d := 21) (v := .d (.fl (.bool (((ks.length : Int) == 0))))) rfl (og rfl (op_pick rfl rfl (by rw [h3]; rfl) rfl)) ?_
      refine rg_done rfl ?_
      refine a_cond rfl (fun h5 => ?_) (fun h5 => ?_)
      · skip
        have h6 := t_beq h5
        refine a_rseq ?_
        refine rg_put (d := 22) (v := .d (.fl (.bool true))) rfl (og rfl (op_call rfl Try.func5 nm5 rfl .nil alive5 rfl)) ?_
        refine rg_put (d := 6) (v := .d (.fl (.bool true))) rfl (og rfl (op_assign rfl rfl rfl)) ?_
        refine rg_done rfl ?_
        refine a_ret ?_
        show ∃ ds, ResL _ _ _ ds ∧ RV.of ds = _
        refine ⟨[.fl (.bool true)], (.cons (.tmp rfl (.d _)) .nil), ?_⟩
        rfl
      · skip
        have h7 := f_beq h5
        refine a_skip ?_
        show A _ _ _ _ _ _ _
        refine a_rseq ?_
        refine rg_put (d := 7) (v := .d (.fl (.slice none 0 0))) rfl (og rfl (op_assign rfl rfl rfl)) ?_
        refine rg_done rfl ?_
        refine a_rseq ?_
        refine rg_put (d := 23) (v := .d (.fl (.slice none 0 0))) rfl (og rfl (op_move rfl rfl rfl)) ?_
        refine rg_put (d := 24) (v := .d (.sl 2 (List.map eRl l))) rfl (og rfl (op_move rfl rfl rfl)) ?_
        refine rg_nam (d := 25) (v := .ow 102) (m := 102) (nw := [(102, .ow 31 2 (List.map eRl l))]) rfl (og rfl (s_append_nil 102 rfl Try.underlying22 ti31 rfl rfl rfl rfl (.d _) (by first | omega | (simp only [List.length_append, List.length_cons, List.length_nil]; omega)) rfl)) rfl ?_
        refine rg_put (d := 7) (v := .ow 102) rfl (og rfl (op_assign rfl rfl rfl)) ?_
        refine rg_done rfl ?_
        refine a_rseq ?_
        refine rg_put (d := 26) (v := .ow 102) rfl (og rfl (op_move rfl rfl rfl)) ?_
        refine rg_put (d := 27) (v := .d (.ag (eRl m))) rfl (og rfl (of_eff (s_load_pts rfl Try.underlying31 rfl ti31 rfl rfl rfl rfl) rfl)) ?_
        refine rg_put (d := 28) (v := .d (.sl 2 (List.map eRl [m]))) rfl (og rfl (of_eff (op_slices rfl Try.underlying22 ti31 rfl rfl rfl (by kernel_rfl) (xs := [.ag (eRl m)]) rfl rfl (.cons rfl rfl (.d _) rfl rfl rfl .nil) rfl) rfl)) ?_
        refine rg_nam (d := 29) (v := .ow 103) (m := 103) (nw := [(103, .ow 31 2 (List.map eRl (l ++ [m]))), (102, .no)]) rfl (og rfl (s_append 103 rfl Try.underlying22 ti31 rfl rfl rfl rfl rfl (.d _) (by first | omega | (simp only [List.length_append, List.length_cons, List.length_nil]; omega)) rfl)) rfl ?_
        refine rg_put (d := 7) (v := .ow 103) rfl (og rfl (op_assign rfl rfl rfl)) ?_
        refine rg_done rfl ?_
        refine a_rseq ?_
        refine rg_put (d := 30) (v := .d (.sl 2 (List.map eRl l))) rfl (og rfl (op_move rfl rfl rfl)) ?_
        refine rg_put (d := 31) (v := .d (.sl 1 (List.map (rI .i64) ks))) rfl (og rfl (op_move rfl rfl rfl)) ?_
        refine rg_put (d := 32) (v := .d (.fl (.int .i64 (prt l ks)))) rfl (og rfl (op_call rfl Try.func8 nm8 rfl (.cons rfl (.d _) (.cons rfl (.d _) .nil)) (prt8 l ks (by first | omega | (simp only [List.length_append, List.length_cons, List.length_nil, List.length_drop, List.length_singleton, List.length_take]; omega) | (simp only [List.length_drop, List.length_take]; omega)) (by first | omega | (simp only [List.length_append, List.length_cons, List.length_nil, List.length_drop, List.length_singleton, List.length_take]; omega) | (simp only [List.length_drop, List.length_take]; omega))) rfl)) ?_
        refine rg_put (d := 8) (v := .d (.fl (.int .i64 (prt l ks)))) rfl (og rfl (op_assign rfl rfl rfl)) ?_
        refine rg_done rfl ?_
        refine a_seq ?_
        refine a_rseq ?_
        have hp1 := prt_in l ks
        have hp2 := prt_tail l (ks := ks) (by omega)
        have hp3 : chk (l ++ [m]) = 0 → prt l ks ≤ prt (l ++ [m]) ks := fun h => prt_more h
        refine rg_put (d := 33) (v := .ow 103) rfl (og rfl (op_move rfl rfl rfl)) ?_
        refine rg_put (d := 34) (v := .d (.fl (.int .i64 ((chk (l ++ [m])))))) rfl (og rfl (op_call rfl Try.func6 nm6 rfl (.cons rfl (.ow rfl) .nil) (chk6 (l ++ [m]) (by first | omega | (simp only [List.length_append, List.length_cons, List.length_nil, List.length_drop, List.length_singleton, List.length_take]; omega) | (simp only [List.length_drop, List.length_take]; omega))) rfl)) ?_
        refine rg_put (d := 35) (v := .d (.fl (.bool (((chk (l ++ [m])) == 0))))) rfl (og rfl (op_bin rfl rfl rfl (b_eql _ _ _ _) rfl)) ?_
        refine rg_put (d := 36) (v := .d (.fl (.bool (((chk (l ++ [m])) == 0))))) rfl (og rfl (op_move rfl rfl rfl)) ?_
        rcases fot (((chk (l ++ [m])) == 0)) with h8 | h8
        · skip
          have h9 := f_beq h8
          refine rg_put (d := 37) (v := .d (.fl undef)) rfl (on rfl rfl rfl h8) ?_
          refine rg_put (d := 38) (v := .d (.fl undef)) rfl (on rfl rfl rfl h8) ?_
          refine rg_put (d := 39) (v := .d (.fl undef)) rfl (on rfl rfl rfl h8) ?_
          refine rg_put (d := 40) (v := .d (.fl undef)) rfl (on rfl rfl rfl h8) ?_
          refine rg_put (d := 41) (v := .d (.fl undef)) rfl (on rfl rfl rfl h8) ?_
          refine rg_put (d := 42) (v := .d (.fl (.bool false))) rfl (og rfl (op_pick rfl rfl (by rw [h8]; rfl) rfl)) ?_
          refine rg_done rfl ?_
          refine a_condF rfl rfl ?_
          refine a_skip ?_
          show A _ _ _ _ _ _ _
          refine a_rseq ?_
          refine rg_put (d := 43) (v := .d (.sl 2 (List.map eRl l))) rfl (og rfl (op_move rfl rfl rfl)) ?_
          refine rg_put (d := 44) (v := .d (.sl 1 (List.map (rI .i64) ks))) rfl (og rfl (op_move rfl rfl rfl)) ?_
          refine rg_put (d := 45) (v := .d (.sl 1 (List.map (rI .i64) (((ks.drop 1).take (ks.length - 1)))))) rfl (og rfl (s_slice rfl Try.underlying23 ti3 rfl (.so (n := 1) _ rfl (by omega)) (.no _) (by omega) (by omega) rfl)) ?_
          refine rg_put (d := 46) (v := .d (.fl (.int .i64 ((prt l (((ks.drop 1).take (ks.length - 1)))))))) rfl (og rfl (op_call rfl Try.func8 nm8 rfl (.cons rfl (.d _) (.cons rfl (.d _) .nil)) (prt8 l (((ks.drop 1).take (ks.length - 1))) (by first | omega | (simp only [List.length_append, List.length_cons, List.length_nil, List.length_drop, List.length_singleton, List.length_take]; omega) | (simp only [List.length_drop, List.length_take]; omega)) (by first | omega | (simp only [List.length_append, List.length_cons, List.length_nil, List.length_drop, List.length_singleton, List.length_take]; omega) | (simp only [List.length_drop, List.length_take]; omega))) rfl)) ?_
          refine rg_put (d := 47) (v := .d (.fl (.int .i64 (prt l ks)))) rfl (og rfl (op_move rfl rfl rfl)) ?_
          refine rg_put (d := 48) (v := .d (.fl (.bool ((decide ((prt l (((ks.drop 1).take (ks.length - 1)))) ≤ (prt l ks))))))) rfl (og rfl (op_bin rfl rfl rfl (b_leq _ _ _ _) rfl)) ?_
          refine rg_put (d := 49) (v := .d (.fl (.bool ((decide ((prt l (((ks.drop 1).take (ks.length - 1)))) ≤ (prt l ks))))))) rfl (og rfl (op_move rfl rfl rfl)) ?_
          rcases fot ((decide ((prt l (((ks.drop 1).take (ks.length - 1)))) ≤ (prt l ks)))) with h10 | h10
          · skip
            have h11 := f_dec h10
            refine rg_put (d := 50) (v := .d (.fl undef)) rfl (on rfl rfl rfl h10) ?_
            refine rg_put (d := 51) (v := .d (.fl undef)) rfl (on rfl rfl rfl h10) ?_
            refine rg_put (d := 52) (v := .d (.fl (.bool false))) rfl (og rfl (op_pick rfl rfl (by rw [h10]; rfl) rfl)) ?_
            refine rg_put (d := 53) (v := .d (.fl (.bool false))) rfl (og rfl (op_move rfl rfl rfl)) ?_
            refine rg_put (d := 54) (v := .d (.fl undef)) rfl (on rfl rfl rfl rfl) ?_
            refine rg_put (d := 55) (v := .d (.fl undef)) rfl (on rfl rfl rfl rfl) ?_
            refine rg_put (d := 56) (v := .d (.fl (.bool false))) rfl (og rfl (op_pick rfl rfl rfl rfl)) ?_
            refine rg_put (d := 57) (v := .d (.fl (.bool false))) rfl (og rfl (op_move rfl rfl rfl)) ?_
            refine rg_put (d := 58) (v := .d (.fl undef)) rfl (on rfl rfl rfl rfl) ?_
            refine rg_put (d := 59) (v := .d (.fl (.bool false))) rfl (og rfl (op_pick rfl rfl rfl rfl)) ?_
            refine rg_put (d := 6) (v := .d (.fl (.bool false))) rfl (og rfl (op_assign rfl rfl rfl)) ?_
            refine rg_done rfl ?_
            refine a_ret ?_
            show ∃ ds, ResL _ _ _ ds ∧ RV.of ds = _
            refine ⟨[.fl (.bool false)], (.cons (.tmp rfl (.d _)) .nil), ?_⟩
            exfalso; omega
          · skip
            have h12 := t_dec h10
            refine rg_put (d := 50) (v := .d (.fl (.int .i64 (prt l ks)))) rfl (oy rfl rfl rfl h10 (op_move rfl rfl rfl)) ?_
            refine rg_put (d := 51) (v := .d (.fl (.bool ((decide (0 ≤ (prt l ks))))))) rfl (oy rfl rfl rfl h10 (op_bin rfl rfl rfl (b_geq _ _ _ _) rfl)) ?_
            refine rg_put (d := 52) (v := .d (.fl (.bool ((decide (0 ≤ (prt l ks))))))) rfl (og rfl (op_pick rfl rfl (by rw [h10]; rfl) rfl)) ?_
            refine rg_put (d := 53) (v := .d (.fl (.bool ((decide (0 ≤ (prt l ks))))))) rfl (og rfl (op_move rfl rfl rfl)) ?_
            rcases fot ((decide (0 ≤ (prt l ks)))) with h13 | h13
            · skip
              have h14 := f_dec h13
              refine rg_put (d := 54) (v := .d (.fl undef)) rfl (on rfl rfl rfl h13) ?_
              refine rg_put (d := 55) (v := .d (.fl undef)) rfl (on rfl rfl rfl h13) ?_
              refine rg_put (d := 56) (v := .d (.fl (.bool false))) rfl (og rfl (op_pick rfl rfl (by rw [h13]; rfl) rfl)) ?_
              refine rg_put (d := 57) (v := .d (.fl (.bool false))) rfl (og rfl (op_move rfl rfl rfl)) ?_
              refine rg_put (d := 58) (v := .d (.fl undef)) rfl (on rfl rfl rfl rfl) ?_
              refine rg_put (d := 59) (v := .d (.fl (.bool false))) rfl (og rfl (op_pick rfl rfl rfl rfl)) ?_
              refine rg_put (d := 6) (v := .d (.fl (.bool false))) rfl (og rfl (op_assign rfl rfl rfl)) ?_
              refine rg_done rfl ?_
              refine a_ret ?_
              show ∃ ds, ResL _ _ _ ds ∧ RV.of ds = _
              refine ⟨[.fl (.bool false)], (.cons (.tmp rfl (.d _)) .nil), ?_⟩
              exfalso; omega
            · skip
              have h15 := t_dec h13
              refine rg_put (d := 54) (v := .d (.fl (.int .i64 (prt l ks)))) rfl (oy rfl rfl rfl h13 (op_move rfl rfl rfl)) ?_
              refine rg_put (d := 55) (v := .d (.fl (.bool ((decide ((prt l ks) ≤ 1000)))))) rfl (oy rfl rfl rfl h13 (op_bin rfl rfl rfl (b_leq _ _ _ _) rfl)) ?_
              refine rg_put (d := 56) (v := .d (.fl (.bool ((decide ((prt l ks) ≤ 1000)))))) rfl (og rfl (op_pick rfl rfl (by rw [h13]; rfl) rfl)) ?_
              refine rg_put (d := 57) (v := .d (.fl (.bool ((decide ((prt l ks) ≤ 1000)))))) rfl (og rfl (op_move rfl rfl rfl)) ?_
              rcases fot ((decide ((prt l ks) ≤ 1000))) with h16 | h16
              · skip
                have h17 := f_dec h16
                refine rg_put (d := 58) (v := .d (.fl undef)) rfl (on rfl rfl rfl h16) ?_
                refine rg_put (d := 59) (v := .d (.fl (.bool false))) rfl (og rfl (op_pick rfl rfl (by rw [h16]; rfl) rfl)) ?_
                refine rg_put (d := 6) (v := .d (.fl (.bool false))) rfl (og rfl (op_assign rfl rfl rfl)) ?_
                refine rg_done rfl ?_
                refine a_ret ?_
                show ∃ ds, ResL _ _ _ ds ∧ RV.of ds = _
                refine ⟨[.fl (.bool false)], (.cons (.tmp rfl (.d _)) .nil), ?_⟩
                exfalso; omega
              · skip
                have h18 := t_dec h16
                refine rg_put (d := 58) (v := .d (.fl (.bool true))) rfl (oy rfl rfl rfl h16 (op_call rfl Try.func5 nm5 rfl .nil alive5 rfl)) ?_
                refine rg_put (d := 59) (v := .d (.fl (.bool true))) rfl (og rfl (op_pick rfl rfl (by rw [h16]; rfl) rfl)) ?_
                refine rg_put (d := 6) (v := .d (.fl (.bool true))) rfl (og rfl (op_assign rfl rfl rfl)) ?_
                refine rg_done rfl ?_
                refine a_ret ?_
                show ∃ ds, ResL _ _ _ ds ∧ RV.of ds = _
                refine ⟨[.fl (.bool true)], (.cons (.tmp rfl (.d _)) .nil), ?_⟩
                rfl
        · skip
          have h19 := t_beq h8
          refine rg_put (d := 37) (v := .ow 103) rfl (oy rfl rfl rfl h8 (op_move rfl rfl rfl)) ?_
          refine rg_put (d := 38) (v := .d (.sl 1 (List.map (rI .i64) ks))) rfl (oy rfl rfl rfl h8 (op_move rfl rfl rfl)) ?_
          refine rg_put (d := 39) (v := .d (.fl (.int .i64 ((prt (l ++ [m]) ks))))) rfl (oy rfl rfl rfl h8 (op_call rfl Try.func8 nm8 rfl (.cons rfl (.ow rfl) (.cons rfl (.d _) .nil)) (prt8 (l ++ [m]) ks (by first | omega | (simp only [List.length_append, List.length_cons, List.length_nil, List.length_drop, List.length_singleton, List.length_take]; omega) | (simp only [List.length_drop, List.length_take]; omega)) (by first | omega | (simp only [List.length_append, List.length_cons, List.length_nil, List.length_drop, List.length_singleton, List.length_take]; omega) | (simp only [List.length_drop, List.length_take]; omega))) rfl)) ?_
          refine rg_put (d := 40) (v := .d (.fl (.int .i64 (prt l ks)))) rfl (oy rfl rfl rfl h8 (op_move rfl rfl rfl)) ?_
          refine rg_put (d := 41) (v := .d (.fl (.bool ((decide ((prt (l ++ [m]) ks) < (prt l ks))))))) rfl (oy rfl rfl rfl h8 (op_bin rfl rfl rfl (b_lss _ _ _ _) rfl)) ?_
          refine rg_put (d := 42) (v := .d (.fl (.bool ((decide ((prt (l ++ [m]) ks) < (prt l ks))))))) rfl (og rfl (op_pick rfl rfl (by rw [h8]; rfl) rfl)) ?_
          refine rg_done rfl ?_
          refine a_cond rfl (fun h20 => ?_) (fun h20 => ?_)
          · skip
            have h21 := t_dec h20
            refine a_rseq ?_
            refine rg_put (d := 6) (v := .d (.fl (.bool false))) rfl (og rfl (op_assign rfl rfl rfl)) ?_
            refine rg_done rfl ?_
            refine a_ret ?_
            show ∃ ds, ResL _ _ _ ds ∧ RV.of ds = _
            refine ⟨[.fl (.bool false)], (.cons (.tmp rfl (.d _)) .nil), ?_⟩
            exfalso; omega
          · skip
            have h22 := f_dec h20
            refine a_skip ?_
            show A _ _ _ _ _ _ _
            refine a_rseq ?_
            refine rg_put (d := 43) (v := .d (.sl 2 (List.map eRl l))) rfl (og rfl (op_move rfl rfl rfl)) ?_
            refine rg_put (d := 44) (v := .d (.sl 1 (List.map (rI .i64) ks))) rfl (og rfl (op_move rfl rfl rfl)) ?_
            refine rg_put (d := 45) (v := .d (.sl 1 (List.map (rI .i64) (((ks.drop 1).take (ks.length - 1)))))) rfl (og rfl (s_slice rfl Try.underlying23 ti3 rfl (.so (n := 1) _ rfl (by omega)) (.no _) (by omega) (by omega) rfl)) ?_
            refine rg_put (d := 46) (v := .d (.fl (.int .i64 ((prt l (((ks.drop 1).take (ks.length - 1)))))))) rfl (og rfl (op_call rfl Try.func8 nm8 rfl (.cons rfl (.d _) (.cons rfl (.d _) .nil)) (prt8 l (((ks.drop 1).take (ks.length - 1))) (by first | omega | (simp only [List.length_append, List.length_cons, List.length_nil, List.length_drop, List.length_singleton, List.length_take]; omega) | (simp only [List.length_drop, List.length_take]; omega)) (by first | omega | (simp only [List.length_append, List.length_cons, List.length_nil, List.length_drop, List.length_singleton, List.length_take]; omega) | (simp only [List.length_drop, List.length_take]; omega))) rfl)) ?_
            refine rg_put (d := 47) (v := .d (.fl (.int .i64 (prt l ks)))) rfl (og rfl (op_move rfl rfl rfl)) ?_
            refine rg_put (d := 48) (v := .d (.fl (.bool ((decide ((prt l (((ks.drop 1).take (ks.length - 1)))) ≤ (prt l ks))))))) rfl (og rfl (op_bin rfl rfl rfl (b_leq _ _ _ _) rfl)) ?_
            refine rg_put (d := 49) (v := .d (.fl (.bool ((decide ((prt l (((ks.drop 1).take (ks.length - 1)))) ≤ (prt l ks))))))) rfl (og rfl (op_move rfl rfl rfl)) ?_
            rcases fot ((decide ((prt l (((ks.drop 1).take (ks.length - 1)))) ≤ (prt l ks)))) with h23 | h23
            · skip
              have h24 := f_dec h23
              refine rg_put (d := 50) (v := .d (.fl undef)) rfl (on rfl rfl rfl h23) ?_
              refine rg_put (d := 51) (v := .d (.fl undef)) rfl (on rfl rfl rfl h23) ?_
              refine rg_put (d := 52) (v := .d (.fl (.bool false))) rfl (og rfl (op_pick rfl rfl (by rw [h23]; rfl) rfl)) ?_
              refine rg_put (d := 53) (v := .d (.fl (.bool false))) rfl (og rfl (op_move rfl rfl rfl)) ?_
              refine rg_put (d := 54) (v := .d (.fl undef)) rfl (on rfl rfl rfl rfl) ?_
              refine rg_put (d := 55) (v := .d (.fl undef)) rfl (on rfl rfl rfl rfl) ?_
              refine rg_put (d := 56) (v := .d (.fl (.bool false))) rfl (og rfl (op_pick rfl rfl rfl rfl)) ?_
              refine rg_put (d := 57) (v := .d (.fl (.bool false))) rfl (og rfl (op_move rfl rfl rfl)) ?_
              refine rg_put (d := 58) (v := .d (.fl undef)) rfl (on rfl rfl rfl rfl) ?_
              refine rg_put (d := 59) (v := .d (.fl (.bool false))) rfl (og rfl (op_pick rfl rfl rfl rfl)) ?_
              refine rg_put (d := 6) (v := .d (.fl (.bool false))) rfl (og rfl (op_assign rfl rfl rfl)) ?_
              refine rg_done rfl ?_
              refine a_ret ?_
              show ∃ ds, ResL _ _ _ ds ∧ RV.of ds = _
              refine ⟨[.fl (.bool false)], (.cons (.tmp rfl (.d _)) .nil), ?_⟩
              exfalso; omega
            · skip
              have h25 := t_dec h23
              refine rg_put (d := 50) (v := .d (.fl (.int .i64 (prt l ks)))) rfl (oy rfl rfl rfl h23 (op_move rfl rfl rfl)) ?_
              refine rg_put (d := 51) (v := .d (.fl (.bool ((decide (0 ≤ (prt l ks))))))) rfl (oy rfl rfl rfl h23 (op_bin rfl rfl rfl (b_geq _ _ _ _) rfl)) ?_
              refine rg_put (d := 52) (v := .d (.fl (.bool ((decide (0 ≤ (prt l ks))))))) rfl (og rfl (op_pick rfl rfl (by rw [h23]; rfl) rfl)) ?_
              refine rg_put (d := 53) (v := .d (.fl (.bool ((decide (0 ≤ (prt l ks))))))) rfl (og rfl (op_move rfl rfl rfl)) ?_
              rcases fot ((decide (0 ≤ (prt l ks)))) with h26 | h26
              · skip
                have h27 := f_dec h26
                refine rg_put (d := 54) (v := .d (.fl undef)) rfl (on rfl rfl rfl h26) ?_
                refine rg_put (d := 55) (v := .d (.fl undef)) rfl (on rfl rfl rfl h26) ?_
                refine rg_put (d := 56) (v := .d (.fl (.bool false))) rfl (og rfl (op_pick rfl rfl (by rw [h26]; rfl) rfl)) ?_
                refine rg_put (d := 57) (v := .d (.fl (.bool false))) rfl (og rfl (op_move rfl rfl rfl)) ?_
                refine rg_put (d := 58) (v := .d (.fl undef)) rfl (on rfl rfl rfl rfl) ?_
                refine rg_put (d := 59) (v := .d (.fl (.bool false))) rfl (og rfl (op_pick rfl rfl rfl rfl)) ?_
                refine rg_put (d := 6) (v := .d (.fl (.bool false))) rfl (og rfl (op_assign rfl rfl rfl)) ?_
                refine rg_done rfl ?_
                refine a_ret ?_
                show ∃ ds, ResL _ _ _ ds ∧ RV.of ds = _
                refine ⟨[.fl (.bool false)], (.cons (.tmp rfl (.d _)) .nil), ?_⟩
                exfalso; omega
              · skip
                have h28 := t_dec h26
                refine rg_put (d := 54) (v := .d (.fl (.int .i64 (prt l ks)))) rfl (oy rfl rfl rfl h26 (op_move rfl rfl rfl)) ?_
                refine rg_put (d := 55) (v := .d (.fl (.bool ((decide ((prt l ks) ≤ 1000)))))) rfl (oy rfl rfl rfl h26 (op_bin rfl rfl rfl (b_leq _ _ _ _) rfl)) ?_
                refine rg_put (d := 56) (v := .d (.fl (.bool ((decide ((prt l ks) ≤ 1000)))))) rfl (og rfl (op_pick rfl rfl (by rw [h26]; rfl) rfl)) ?_
                refine rg_put (d := 57) (v := .d (.fl (.bool ((decide ((prt l ks) ≤ 1000)))))) rfl (og rfl (op_move rfl rfl rfl)) ?_
                rcases fot ((decide ((prt l ks) ≤ 1000))) with h29 | h29
                · skip
                  have h30 := f_dec h29
                  refine rg_put (d := 58) (v := .d (.fl undef)) rfl (on rfl rfl rfl h29) ?_
                  refine rg_put (d := 59) (v := .d (.fl (.bool false))) rfl (og rfl (op_pick rfl rfl (by rw [h29]; rfl) rfl)) ?_
                  refine rg_put (d := 6) (v := .d (.fl (.bool false))) rfl (og rfl (op_assign rfl rfl rfl)) ?_
                  refine rg_done rfl ?_
                  refine a_ret ?_
                  show ∃ ds, ResL _ _ _ ds ∧ RV.of ds = _
                  refine ⟨[.fl (.bool false)], (.cons (.tmp rfl (.d _)) .nil), ?_⟩
                  exfalso; omega
                · skip
                  have h31 := t_dec h29
                  refine rg_put (d := 58) (v := .d (.fl (.bool true))) rfl (oy rfl rfl rfl h29 (op_call rfl Try.func5 nm5 rfl .nil alive5 rfl)) ?_
                  refine rg_put (d := 59) (v := .d (.fl (.bool true))) rfl (og rfl (op_pick rfl rfl (by rw [h29]; rfl) rfl)) ?_
                  refine rg_put (d := 6) (v := .d (.fl (.bool true))) rfl (og rfl (op_assign rfl rfl rfl)) ?_
                  refine rg_done rfl ?_
                  refine a_ret ?_
                  show ∃ ds, ResL _ _ _ ds ∧ RV.of ds = _
                  refine ⟨[.fl (.bool true)], (.cons (.tmp rfl (.d _)) .nil), ?_⟩
                  rfl
    · skip
      have h32 := t_dec h3
      refine rg_put (d := 18) (v := .d (.fl undef)) rfl (on rfl rfl rfl h3) ?_
      refine rg_put (d := 19) (v := .d (.fl undef)) rfl (on rfl rfl rfl h3) ?_
      refine rg_put (d := 20) (v := .d (.fl undef)) rfl (on rfl rfl rfl h3) ?_
      refine rg_put (d := 21) (v := .d (.fl (.bool true))) rfl (og rfl (op_pick rfl rfl (by rw [h3]; rfl) rfl)) ?_
      refine rg_done rfl ?_
      refine a_condK rfl rfl ?_
      refine a_rseq ?_
      refine rg_put (d := 22) (v := .d (.fl (.bool true))) rfl (og rfl (op_call rfl Try.func5 nm5 rfl .nil alive5 rfl)) ?_
      refine rg_put (d := 6) (v := .d (.fl (.bool true))) rfl (og rfl (op_assign rfl rfl rfl)) ?_
      refine rg_done rfl ?_
      refine a_ret ?_
      show ∃ ds, ResL _ _ _ ds ∧ RV.of ds = _
      refine ⟨[.fl (.bool true)], (.cons (.tmp rfl (.d _)) .nil), ?_⟩
      rfl
  · skip
    have h33 := t_dec h1
    refine rg_put (d := 13) (v := .d (.fl undef)) rfl (on rfl rfl rfl h1) ?_
    refine rg_put (d := 14) (v := .d (.fl undef)) rfl (on rfl rfl rfl h1) ?_
    refine rg_put (d := 15) (v := .d (.fl undef)) rfl (on rfl rfl rfl h1) ?_
    refine rg_put (d := 16) (v := .d (.fl (.bool true))) rfl (og rfl (op_pick rfl rfl (by rw [h1]; rfl) rfl)) ?_
    refine rg_put (d := 17) (v := .d (.fl (.bool true))) rfl (og rfl (op_move rfl rfl rfl)) ?_
    refine rg_put (d := 18) (v := .d (.fl undef)) rfl (on rfl rfl rfl rfl) ?_
    refine rg_put (d := 19) (v := .d (.fl undef)) rfl (on rfl rfl rfl rfl) ?_
    refine rg_put (d := 20) (v := .d (.fl undef)) rfl (on rfl rfl rfl rfl) ?_
    refine rg_put (d := 21) (v := .d (.fl (.bool true))) rfl (og rfl (op_pick rfl rfl rfl rfl)) ?_
    refine rg_done rfl ?_
    refine a_condK rfl rfl ?_
    refine a_rseq ?_
    refine rg_put (d := 22) (v := .d (.fl (.bool true))) rfl (og rfl (op_call rfl Try.func5 nm5 rfl .nil alive5 rfl)) ?_
    refine rg_put (d := 6) (v := .d (.fl (.bool true))) rfl (og rfl (op_assign rfl rfl rfl)) ?_
    refine rg_done rfl ?_
    refine a_ret ?_
    show ∃ ds, ResL _ _ _ ds ∧ RV.of ds = _
    refine ⟨[.fl (.bool true)], (.cons (.tmp rfl (.d _)) .nil), ?_⟩
    rfl
end Go.Proofs.Ytacbipoplnfmoaa.Wk
