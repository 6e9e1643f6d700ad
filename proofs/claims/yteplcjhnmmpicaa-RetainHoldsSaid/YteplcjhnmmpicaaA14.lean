/- The next to go. Condition: lists of at most a thousand. -/
import Derived.Test.YteplcjhnmmpicaaA13
set_option linter.unusedSimpArgs false
set_option linter.unusedVariables false
namespace Go.Proofs.Yteplcjhnmmpicaa.Wk
open Go Go.RowKit Go.Proofs.Yteplcjhnmmpicaa.Av
def nst (l : List Kp) (m : List Im) (c : List Int) (t : Int) : Nat → Int × Bool
  | 0 => (0, false)
  | k + 1 => if (((unt l (ix m k) (ix c k)).2 == 0) && decide (t < (unt l (ix m k) (ix c k)).1) && (!(nst l m c t k).2 || decide ((unt l (ix m k) (ix c k)).1 < (nst l m c t k).1))) = true then ((unt l (ix m k) (ix c k)).1, true) else nst l m c t k
def nxt (l : List Kp) (m : List Im) (c : List Int) (t : Int) : Int × Bool :=
  if (ck l != 0) = true then (0, false) else if ((c.length : Int) != (m.length : Int)) = true then (0, false) else nst l m c t m.length

set_option maxHeartbeats 4000000 in
set_option maxRecDepth 100000 in
theorem ret_next (l : List Kp) (m : List Im) (c : List Int) (t : Int) (hm : m.length ≤ 1000) : Ctr Try.prog 17 [.sl 3 (List.map eKp l), .sl 5 (List.map eIm m), .sl 1 (List.map (rI .i64) c), .fl (.int .i64 t)] (.tu [.fl (.int .i64 (nxt l m c t).1), .fl (.bool (nxt l m c t).2)]) := by
  refine ctr (n := 69) (rs := #[.tmp 8, .tmp 9]) (L := [(0, .d (.sl 3 (List.map eKp l))), (1, .d (.sl 5 (List.map eIm m))), (2, .d (.sl 1 (List.map (rI .i64) c))), (3, .d (.fl (.int .i64 t)))]) Try.func17 rfl rfl rfl rfl rfl (fun w0 U0 => ?_)
  refine a_rseq ?_
  refine rg_put (d := 8) (v := .d (.fl (.int .i64 0))) rfl (og rfl (op_assign rfl rfl rfl)) ?_
  refine rg_put (d := 9) (v := .d (.fl (.bool false))) rfl (og rfl (op_assign rfl rfl rfl)) ?_
  refine rg_done rfl ?_
  refine a_rseq ?_
  refine rg_put (d := 19) (v := .d (.sl 3 (List.map eKp l))) rfl (og rfl (op_move rfl rfl rfl)) ?_
  rcases fot (((ck l) != 0)) with h1 | h1
  · skip
    have h2 := f_bne h1
    refine rg_put (d := 20) (v := .tu [.mp (ents l), .fl (.int .i64 (ck l))]) rfl (og rfl (op_call rfl Try.func25 nm25 rfl (.cons rfl (.d _) .nil) (read_ok l (f_bne h1)) rfl)) ?_
    refine rg_put (d := 18) (v := .tu [.mp (ents l), .fl (.int .i64 (ck l))]) rfl (og rfl (op_move rfl rfl rfl)) ?_
    refine rg_put (d := 21) (v := .d (.mp (ents l))) rfl (og rfl (op_extract rfl rfl rfl rfl)) ?_
    refine rg_put (d := 22) (v := .d (.fl (.int .i64 (ck l)))) rfl (og rfl (op_extract rfl rfl rfl rfl)) ?_
    refine rg_put (d := 10) (v := .d (.mp (ents l))) rfl (og rfl (op_assign rfl rfl rfl)) ?_
    refine rg_put (d := 11) (v := .d (.fl (.int .i64 (ck l)))) rfl (og rfl (op_assign rfl rfl rfl)) ?_
    refine rg_done rfl ?_
    refine a_seq ?_
    refine a_rseq ?_
    refine rg_put (d := 23) (v := .d (.fl (.int .i64 (ck l)))) rfl (og rfl (op_move rfl rfl rfl)) ?_
    refine rg_put (d := 24) (v := .d (.fl (.bool (((ck l) != 0))))) rfl (og rfl (op_bin rfl rfl rfl (b_neq _ _ _ _) rfl)) ?_
    refine rg_put (d := 25) (v := .d (.fl (.bool (((ck l) != 0))))) rfl (og rfl (op_move rfl rfl rfl)) ?_
    refine rg_put (d := 26) (v := .d (.sl 1 (List.map (rI .i64) c))) rfl (oy rfl rfl rfl h1 (op_move rfl rfl rfl)) ?_
    refine rg_put (d := 27) (v := .d (.fl (.int .i64 (c.length : Int)))) rfl (oy rfl rfl rfl h1 (s_len rfl Try.underlying37 rfl rfl)) ?_
    refine rg_put (d := 28) (v := .d (.sl 5 (List.map eIm m))) rfl (oy rfl rfl rfl h1 (op_move rfl rfl rfl)) ?_
    refine rg_put (d := 29) (v := .d (.fl (.int .i64 (m.length : Int)))) rfl (oy rfl rfl rfl h1 (s_len rfl Try.underlying36 rfl rfl)) ?_
    refine rg_put (d := 30) (v := .d (.fl (.bool (((c.length : Int) != (m.length : Int)))))) rfl (oy rfl rfl rfl h1 (op_bin rfl rfl rfl (b_neq _ _ _ _) rfl)) ?_
    refine rg_put (d := 31) (v := .d (.fl (.bool (((c.length : Int) != (m.length : Int)))))) rfl (og rfl (op_pick rfl rfl (by rw [h1]; rfl) rfl)) ?_
    refine rg_done rfl ?_
    refine a_cond rfl (fun h3 => ?_) (fun h3 => ?_)
    · skip
      have h4 := t_bne h3
      refine a_rseq ?_
      refine rg_put (d := 8) (v := .d (.fl (.int .i64 0))) rfl (og rfl (op_assign rfl rfl rfl)) ?_
      refine rg_put (d := 9) (v := .d (.fl (.bool false))) rfl (og rfl (op_assign rfl rfl rfl)) ?_
      refine rg_done rfl ?_
      refine a_ret ?_
      show ∃ ds, ResL _ _ _ ds ∧ RV.of ds = _
      refine ⟨[.fl (.int .i64 0), .fl (.bool false)], (.cons (.tmp rfl (.d _)) (.cons (.tmp rfl (.d _)) .nil)), ?_⟩
      have hu : nxt l m c t = (0, false) := by
        unfold nxt; simp only [h1, h3]; rfl
      rw [hu]; rfl
    · skip
      have h5 := f_bne h3
      refine a_skip ?_
      show A _ _ _ _ _ _ _
      refine a_rseq ?_
      refine rg_put (d := 12) (v := .d (.fl (.int .i64 0))) rfl (og rfl (op_assign rfl rfl rfl)) ?_
      refine rg_put (d := 13) (v := .d (.fl (.bool false))) rfl (og rfl (op_assign rfl rfl rfl)) ?_
      refine rg_done rfl ?_
      refine a_seq ?_
      refine a_rseq ?_
      refine rg_put (d := 32) (v := .d (.sl 5 (List.map eIm m))) rfl (og rfl (op_move rfl rfl rfl)) ?_
      refine rg_put (d := 33) (v := .d (.fl (.int .i64 (m.length : Int)))) rfl (og rfl (s_len rfl Try.underlying36 rfl rfl)) ?_
      refine rg_put (d := 34) (v := .d (.fl (.int .i64 0))) rfl (og rfl (op_move rfl rfl rfl)) ?_
      refine rg_done rfl ?_
      refine a_block ?_
      refine a_loop (ι := Nat) (fun k => SS [(0, .d (.sl 3 (List.map eKp l))), (1, .d (.sl 5 (List.map eIm m))), (2, .d (.sl 1 (List.map (rI .i64) c))), (3, .d (.fl (.int .i64 t))), (8, .d (.fl (.int .i64 0))), (9, .d (.fl (.bool false))), (10, .d (.mp (ents l))), (11, .d (.fl (.int .i64 (ck l)))), (31, .d (.fl (.bool (((c.length : Int) != (m.length : Int)))))), (32, .d (.sl 5 (List.map eIm m))), (33, .d (.fl (.int .i64 (m.length : Int)))), (34, .d (.fl (.int .i64 (k : Int)))), (12, .d (.fl (.int .i64 ((nst l m c t k).1)))), (13, .d (.fl (.bool ((nst l m c t k).2))))] []) (fun k => k ≤ m.length) (fun k => m.length - k) 0 (by omega) (imp_forget rfl ⟨rfl, rfl, rfl, rfl, rfl, rfl, rfl, rfl, rfl, rfl, rfl, (by first | rfl | exact ci (by omega) | exact ci (by simp) | exact cd (by simp) | simp), rfl, rfl, trivial⟩ trivial) (fun k hok => ?_)
      have hk := hok
      refine a_rseq ?_
      refine rg_put (d := 35) (v := .d (.fl (.bool ((decide ((k : Int) < (m.length : Int))))))) rfl (og rfl (op_bin rfl rfl rfl (b_lss _ _ _ _) rfl)) ?_
      refine rg_done rfl ?_
      refine a_seq ?_
      refine a_cond rfl (fun h6 => ?_) (fun h6 => ?_)
      · skip
        have h7 := t_dec h6
        refine a_skip ?_
        show A _ _ _ _ _ _ _
        refine a_seq ?_
        refine a_block ?_
        refine a_rseq ?_
        refine rg_put (d := 36) (v := .d (.fl (.int .i64 (k : Int)))) rfl (og rfl (op_move rfl rfl rfl)) ?_
        refine rg_put (d := 37) (v := .el ((eIm (ix m k)))) rfl (og rfl (s_index rfl Try.underlying36 ti26 rfl rfl (by omega) (row_at (by omega)) rfl)) ?_
        refine rg_put (d := 38) (v := .d (.ag (eIm (ix m k)))) rfl (og rfl (of_eff (s_load_els rfl Try.underlying26 rfl ti26 rfl rfl rfl) rfl)) ?_
        refine rg_nam (d := 15) (v := .pt 101 0) (m := 101) (nw := [(101, .bx 26 ([.fl (.string (⟨#[]⟩)), .fl (.int .i64 0), .fl (.int .i64 0), .fl (.slice none 0 0), .fl (.int .u64 0)]))]) rfl (og rfl (of_eff (s_alloc 101 rfl ti26 (by kernel_rfl) rfl) rfl)) rfl ?_
        refine rg_put (d := 14) (v := .d (.fl (.int .i64 (k : Int)))) rfl (og rfl (op_assign rfl rfl rfl)) ?_
        refine rg_sto (nw := [(101, .bx 26 ((eIm (ix m k))))]) rfl (og rfl (of_eff (s_store rfl rfl ti26 rfl rfl rfl rfl rfl rfl) rfl)) ?_
        refine rg_done rfl ?_
        refine a_dseq (by kernel_rfl) ?_
        refine dr_put (d := 40) (v := .d (.mp (ents l))) rfl (og rfl (op_move rfl rfl rfl)) ?_
        refine dr_put (d := 41) (v := .d (.ag (eIm (ix m k)))) rfl (og rfl (of_eff (s_load_pts rfl Try.underlying26 rfl ti26 rfl rfl rfl rfl) rfl)) ?_
        refine dr_put (d := 42) (v := .d (.sl 1 (List.map (rI .i64) c))) rfl (og rfl (op_move rfl rfl rfl)) ?_
        refine dr_put (d := 43) (v := .d (.fl (.int .i64 (k : Int)))) rfl (og rfl (op_move rfl rfl rfl)) ?_
        refine dr_put (d := 44) (v := .el ((rI .i64 (ix c k)))) rfl (og rfl (s_index rfl Try.underlying37 ti3 rfl rfl (by omega) (row_at (by omega)) rfl)) ?_
        refine dr_put (d := 45) (v := .d (.fl (.int .i64 (ix c k)))) rfl (og rfl (op_load_el rfl Try.underlying3 rfl rfl rfl rfl)) ?_
        refine dr_put (d := 46) (v := .tu [.fl (.int .i64 ((unt l (ix m k) (ix c k)).1)), .fl (.int .i64 ((unt l (ix m k) (ix c k)).2))]) rfl (og rfl (op_call rfl Try.func26 nm26 rfl (.cons rfl (.d _) (.cons rfl (.d _) (.cons rfl (.d _) .nil))) (until_map l (ix m k) (ix c k) (f_bne h1)) rfl)) ?_
        refine dr_put (d := 39) (v := .tu [.fl (.int .i64 ((unt l (ix m k) (ix c k)).1)), .fl (.int .i64 ((unt l (ix m k) (ix c k)).2))]) rfl (og rfl (op_move rfl rfl rfl)) ?_
        refine dr_put (d := 47) (v := .d (.fl (.int .i64 ((unt l (ix m k) (ix c k)).1)))) rfl (og rfl (op_extract rfl rfl rfl rfl)) ?_
        refine dr_put (d := 48) (v := .d (.fl (.int .i64 ((unt l (ix m k) (ix c k)).2)))) rfl (og rfl (op_extract rfl rfl rfl rfl)) ?_
        refine dr_put (d := 16) (v := .d (.fl (.int .i64 ((unt l (ix m k) (ix c k)).1)))) rfl (og rfl (op_assign rfl rfl rfl)) ?_
        refine dr_put (d := 17) (v := .d (.fl (.int .i64 ((unt l (ix m k) (ix c k)).2)))) rfl (og rfl (op_assign rfl rfl rfl)) ?_
        refine dr_done rfl (by kernel_rfl) (by kernel_rfl) ?_
        refine a_rseq ?_
        refine rg_put (d := 49) (v := .d (.fl (.int .i64 ((unt l (ix m k) (ix c k)).2)))) rfl (og rfl (op_move rfl rfl rfl)) ?_
        refine rg_put (d := 50) (v := .d (.fl (.bool (((unt l (ix m k) (ix c k)).2 == 0))))) rfl (og rfl (op_bin rfl rfl rfl (b_eql _ _ _ _) rfl)) ?_
        refine rg_put (d := 51) (v := .d (.fl (.bool (((unt l (ix m k) (ix c k)).2 == 0))))) rfl (og rfl (op_move rfl rfl rfl)) ?_
        rcases fot (((unt l (ix m k) (ix c k)).2 == 0)) with h8 | h8
        · skip
          have h9 := f_beq h8
          refine rg_put (d := 52) (v := .d (.fl undef)) rfl (on rfl rfl rfl h8) ?_
          refine rg_put (d := 53) (v := .d (.fl undef)) rfl (on rfl rfl rfl h8) ?_
          refine rg_put (d := 54) (v := .d (.fl undef)) rfl (on rfl rfl rfl h8) ?_
          refine rg_put (d := 55) (v := .d (.fl (.bool false))) rfl (og rfl (op_pick rfl rfl (by rw [h8]; rfl) rfl)) ?_
          refine rg_put (d := 56) (v := .d (.fl (.bool false))) rfl (og rfl (op_move rfl rfl rfl)) ?_
          refine rg_put (d := 57) (v := .d (.fl undef)) rfl (on rfl rfl rfl rfl) ?_
          refine rg_put (d := 58) (v := .d (.fl undef)) rfl (on rfl rfl rfl rfl) ?_
          refine rg_put (d := 59) (v := .d (.fl undef)) rfl (on rfl rfl rfl rfl) ?_
          refine rg_put (d := 60) (v := .d (.fl undef)) rfl (ou rfl rfl rfl) ?_
          refine rg_put (d := 61) (v := .d (.fl undef)) rfl (ou rfl rfl rfl) ?_
          refine rg_put (d := 62) (v := .d (.fl undef)) rfl (ou rfl rfl rfl) ?_
          refine rg_put (d := 63) (v := .d (.fl undef)) rfl (on rfl rfl rfl rfl) ?_
          refine rg_put (d := 64) (v := .d (.fl (.bool false))) rfl (og rfl (op_pick rfl rfl rfl rfl)) ?_
          refine rg_done rfl ?_
          refine a_condF rfl rfl ?_
          refine a_skip ?_
          show A _ _ _ _ _ _ _
          refine a_region ?_
          refine rg_put (d := 66) (v := .d (.fl (.int .i64 (((k : Int) + 1))))) rfl (og rfl (op_bin rfl rfl rfl (fun x y w => b_add64 _ _ _ x y w (by omega)) rfl)) ?_
          refine rg_put (d := 34) (v := .d (.fl (.int .i64 (((k : Int) + 1))))) rfl (og rfl (op_move rfl rfl rfl)) ?_
          refine rg_done rfl ?_
          have hn : nst l m c t (k + 1) = nst l m c t k := by
            show (if _ then _ else _) = _; simp only [h1, h3, h6, h8]; rfl
          show ∃ i, _ ∧ _ ∧ Imp _ _ _ _ _
          refine ⟨k + 1, (by omega), by omega, imp_forget rfl ⟨rfl, rfl, rfl, rfl, rfl, rfl, rfl, rfl, rfl, rfl, rfl, (by first | rfl | exact ci (by omega) | exact ci (by simp) | exact cd (by simp) | simp), (ci (by rw [hn])), (cd (by rw [hn])), trivial⟩ trivial⟩
        · skip
          have h10 := t_beq h8
          refine rg_put (d := 52) (v := .d (.fl (.int .i64 ((unt l (ix m k) (ix c k)).1)))) rfl (oy rfl rfl rfl h8 (op_move rfl rfl rfl)) ?_
          refine rg_put (d := 53) (v := .d (.fl (.int .i64 t))) rfl (oy rfl rfl rfl h8 (op_move rfl rfl rfl)) ?_
          refine rg_put (d := 54) (v := .d (.fl (.bool ((decide (t < (unt l (ix m k) (ix c k)).1)))))) rfl (oy rfl rfl rfl h8 (op_bin rfl rfl rfl (b_gtr _ _ _ _) rfl)) ?_
          refine rg_put (d := 55) (v := .d (.fl (.bool ((decide (t < (unt l (ix m k) (ix c k)).1)))))) rfl (og rfl (op_pick rfl rfl (by rw [h8]; rfl) rfl)) ?_
          refine rg_put (d := 56) (v := .d (.fl (.bool ((decide (t < (unt l (ix m k) (ix c k)).1)))))) rfl (og rfl (op_move rfl rfl rfl)) ?_
          rcases fot ((decide (t < (unt l (ix m k) (ix c k)).1))) with h11 | h11
          · skip
            have h12 := f_dec h11
            refine rg_put (d := 57) (v := .d (.fl undef)) rfl (on rfl rfl rfl h11) ?_
            refine rg_put (d := 58) (v := .d (.fl undef)) rfl (on rfl rfl rfl h11) ?_
            refine rg_put (d := 59) (v := .d (.fl undef)) rfl (on rfl rfl rfl h11) ?_
            refine rg_put (d := 60) (v := .d (.fl undef)) rfl (ou rfl rfl rfl) ?_
            refine rg_put (d := 61) (v := .d (.fl undef)) rfl (ou rfl rfl rfl) ?_
            refine rg_put (d := 62) (v := .d (.fl undef)) rfl (ou rfl rfl rfl) ?_
            refine rg_put (d := 63) (v := .d (.fl undef)) rfl (on rfl rfl rfl h11) ?_
            refine rg_put (d := 64) (v := .d (.fl (.bool false))) rfl (og rfl (op_pick rfl rfl (by rw [h11]; rfl) rfl)) ?_
            refine rg_done rfl ?_
            refine a_condF rfl rfl ?_
            refine a_skip ?_
            show A _ _ _ _ _ _ _
            refine a_region ?_
            refine rg_put (d := 66) (v := .d (.fl (.int .i64 (((k : Int) + 1))))) rfl (og rfl (op_bin rfl rfl rfl (fun x y w => b_add64 _ _ _ x y w (by omega)) rfl)) ?_
            refine rg_put (d := 34) (v := .d (.fl (.int .i64 (((k : Int) + 1))))) rfl (og rfl (op_move rfl rfl rfl)) ?_
            refine rg_done rfl ?_
            have hn : nst l m c t (k + 1) = nst l m c t k := by
              show (if _ then _ else _) = _; simp only [h1, h3, h6, h8, h11]; rfl
            show ∃ i, _ ∧ _ ∧ Imp _ _ _ _ _
            refine ⟨k + 1, (by omega), by omega, imp_forget rfl ⟨rfl, rfl, rfl, rfl, rfl, rfl, rfl, rfl, rfl, rfl, rfl, (by first | rfl | exact ci (by omega) | exact ci (by simp) | exact cd (by simp) | simp), (ci (by rw [hn])), (cd (by rw [hn])), trivial⟩ trivial⟩
          · skip
            have h13 := t_dec h11
            refine rg_put (d := 57) (v := .d (.fl (.bool ((nst l m c t k).2)))) rfl (oy rfl rfl rfl h11 (op_move rfl rfl rfl)) ?_
            refine rg_put (d := 58) (v := .d (.fl (.bool ((!((nst l m c t k).2)))))) rfl (oy rfl rfl rfl h11 (op_un rfl rfl (u_not _) rfl)) ?_
            refine rg_put (d := 59) (v := .d (.fl (.bool ((!((nst l m c t k).2)))))) rfl (oy rfl rfl rfl h11 (op_move rfl rfl rfl)) ?_
            rcases fot ((!((nst l m c t k).2))) with h14 | h14
            · skip
              have h15 := f_not h14
              refine rg_put (d := 60) (v := .d (.fl (.int .i64 ((unt l (ix m k) (ix c k)).1)))) rfl (oy rfl rfl rfl h14 (op_move rfl rfl rfl)) ?_
              refine rg_put (d := 61) (v := .d (.fl (.int .i64 ((nst l m c t k).1)))) rfl (oy rfl rfl rfl h14 (op_move rfl rfl rfl)) ?_
              refine rg_put (d := 62) (v := .d (.fl (.bool ((decide ((unt l (ix m k) (ix c k)).1 < (nst l m c t k).1)))))) rfl (oy rfl rfl rfl h14 (op_bin rfl rfl rfl (b_lss _ _ _ _) rfl)) ?_
              refine rg_put (d := 63) (v := .d (.fl (.bool ((decide ((unt l (ix m k) (ix c k)).1 < (nst l m c t k).1)))))) rfl (oy rfl rfl rfl h11 (op_pick rfl rfl (by rw [h14]; rfl) rfl)) ?_
              refine rg_put (d := 64) (v := .d (.fl (.bool ((decide ((unt l (ix m k) (ix c k)).1 < (nst l m c t k).1)))))) rfl (og rfl (op_pick rfl rfl (by rw [h11]; rfl) rfl)) ?_
              refine rg_done rfl ?_
              refine a_cond rfl (fun h16 => ?_) (fun h16 => ?_)
              · skip
                have h17 := t_dec h16
                refine a_region ?_
                refine rg_put (d := 65) (v := .d (.fl (.int .i64 ((unt l (ix m k) (ix c k)).1)))) rfl (og rfl (op_move rfl rfl rfl)) ?_
                refine rg_put (d := 12) (v := .d (.fl (.int .i64 ((unt l (ix m k) (ix c k)).1)))) rfl (og rfl (op_assign rfl rfl rfl)) ?_
                refine rg_put (d := 13) (v := .d (.fl (.bool true))) rfl (og rfl (op_assign rfl rfl rfl)) ?_
                refine rg_done rfl ?_
                show A _ _ _ _ _ _ _
                refine a_region ?_
                refine rg_put (d := 66) (v := .d (.fl (.int .i64 (((k : Int) + 1))))) rfl (og rfl (op_bin rfl rfl rfl (fun x y w => b_add64 _ _ _ x y w (by omega)) rfl)) ?_
                refine rg_put (d := 34) (v := .d (.fl (.int .i64 (((k : Int) + 1))))) rfl (og rfl (op_move rfl rfl rfl)) ?_
                refine rg_done rfl ?_
                have hn : nst l m c t (k + 1) = ((unt l (ix m k) (ix c k)).1, true) := by
                  show (if _ then _ else _) = _; simp only [h1, h3, h6, h8, h11, h14, h15, h16]; rfl
                show ∃ i, _ ∧ _ ∧ Imp _ _ _ _ _
                refine ⟨k + 1, (by omega), by omega, imp_forget rfl ⟨rfl, rfl, rfl, rfl, rfl, rfl, rfl, rfl, rfl, rfl, rfl, (by first | rfl | exact ci (by omega) | exact ci (by simp) | exact cd (by simp) | simp), (ci (by rw [hn])), (cd (by rw [hn])), trivial⟩ trivial⟩
              · skip
                have h18 := f_dec h16
                refine a_skip ?_
                show A _ _ _ _ _ _ _
                refine a_region ?_
                refine rg_put (d := 66) (v := .d (.fl (.int .i64 (((k : Int) + 1))))) rfl (og rfl (op_bin rfl rfl rfl (fun x y w => b_add64 _ _ _ x y w (by omega)) rfl)) ?_
                refine rg_put (d := 34) (v := .d (.fl (.int .i64 (((k : Int) + 1))))) rfl (og rfl (op_move rfl rfl rfl)) ?_
                refine rg_done rfl ?_
                have hn : nst l m c t (k + 1) = nst l m c t k := by
                  show (if _ then _ else _) = _; simp only [h1, h3, h6, h8, h11, h14, h15, h16]; rfl
                show ∃ i, _ ∧ _ ∧ Imp _ _ _ _ _
                refine ⟨k + 1, (by omega), by omega, imp_forget rfl ⟨rfl, rfl, rfl, rfl, rfl, rfl, rfl, rfl, rfl, rfl, rfl, (by first | rfl | exact ci (by omega) | exact ci (by simp) | exact cd (by simp) | simp), (ci (by rw [hn])), (cd (by rw [hn])), trivial⟩ trivial⟩
            · skip
              have h19 := t_not h14
              refine rg_put (d := 60) (v := .d (.fl undef)) rfl (on rfl rfl rfl h14) ?_
              refine rg_put (d := 61) (v := .d (.fl undef)) rfl (on rfl rfl rfl h14) ?_
              refine rg_put (d := 62) (v := .d (.fl undef)) rfl (on rfl rfl rfl h14) ?_
              refine rg_put (d := 63) (v := .d (.fl (.bool true))) rfl (oy rfl rfl rfl h11 (op_pick rfl rfl (by rw [h14]; rfl) rfl)) ?_
              refine rg_put (d := 64) (v := .d (.fl (.bool true))) rfl (og rfl (op_pick rfl rfl (by rw [h11]; rfl) rfl)) ?_
              refine rg_done rfl ?_
              refine a_condK rfl rfl ?_
              refine a_region ?_
              refine rg_put (d := 65) (v := .d (.fl (.int .i64 ((unt l (ix m k) (ix c k)).1)))) rfl (og rfl (op_move rfl rfl rfl)) ?_
              refine rg_put (d := 12) (v := .d (.fl (.int .i64 ((unt l (ix m k) (ix c k)).1)))) rfl (og rfl (op_assign rfl rfl rfl)) ?_
              refine rg_put (d := 13) (v := .d (.fl (.bool true))) rfl (og rfl (op_assign rfl rfl rfl)) ?_
              refine rg_done rfl ?_
              show A _ _ _ _ _ _ _
              refine a_region ?_
              refine rg_put (d := 66) (v := .d (.fl (.int .i64 (((k : Int) + 1))))) rfl (og rfl (op_bin rfl rfl rfl (fun x y w => b_add64 _ _ _ x y w (by omega)) rfl)) ?_
              refine rg_put (d := 34) (v := .d (.fl (.int .i64 (((k : Int) + 1))))) rfl (og rfl (op_move rfl rfl rfl)) ?_
              refine rg_done rfl ?_
              have hn : nst l m c t (k + 1) = ((unt l (ix m k) (ix c k)).1, true) := by
                show (if _ then _ else _) = _; simp only [h1, h3, h6, h8, h11, h14, h19]; rfl
              show ∃ i, _ ∧ _ ∧ Imp _ _ _ _ _
              refine ⟨k + 1, (by omega), by omega, imp_forget rfl ⟨rfl, rfl, rfl, rfl, rfl, rfl, rfl, rfl, rfl, rfl, rfl, (by first | rfl | exact ci (by omega) | exact ci (by simp) | exact cd (by simp) | simp), (ci (by rw [hn])), (cd (by rw [hn])), trivial⟩ trivial⟩
      · skip
        have h20 := f_dec h6
        refine a_exit ?_
        show A _ _ _ _ _ _ _
        refine a_rseq ?_
        refine rg_put (d := 67) (v := .d (.fl (.int .i64 ((nst l m c t k).1)))) rfl (og rfl (op_move rfl rfl rfl)) ?_
        refine rg_put (d := 68) (v := .d (.fl (.bool ((nst l m c t k).2)))) rfl (og rfl (op_move rfl rfl rfl)) ?_
        refine rg_put (d := 8) (v := .d (.fl (.int .i64 ((nst l m c t k).1)))) rfl (og rfl (op_assign rfl rfl rfl)) ?_
        refine rg_put (d := 9) (v := .d (.fl (.bool ((nst l m c t k).2)))) rfl (og rfl (op_assign rfl rfl rfl)) ?_
        refine rg_done rfl ?_
        refine a_ret ?_
        show ∃ ds, ResL _ _ _ ds ∧ RV.of ds = _
        refine ⟨[.fl (.int .i64 ((nst l m c t k).1)), .fl (.bool ((nst l m c t k).2))], (.cons (.tmp rfl (.d _)) (.cons (.tmp rfl (.d _)) .nil)), ?_⟩
        have hkk : k = m.length := by omega
        subst hkk
        have hu : nxt l m c t = nst l m c t m.length := by
          unfold nxt; simp only [h1, h3]; rfl
        rw [hu]; rfl
  · skip
    have h21 := t_bne h1
    refine rg_put (d := 20) (v := .tu [rd l, .fl (.int .i64 (ck l))]) rfl (og rfl (op_call rfl Try.func25 nm25 rfl (.cons rfl (.d _) .nil) (read_all l) rfl)) ?_
    refine rg_put (d := 18) (v := .tu [rd l, .fl (.int .i64 (ck l))]) rfl (og rfl (op_move rfl rfl rfl)) ?_
    refine rg_put (d := 21) (v := .d (rd l)) rfl (og rfl (op_extract rfl rfl rfl rfl)) ?_
    refine rg_put (d := 22) (v := .d (.fl (.int .i64 (ck l)))) rfl (og rfl (op_extract rfl rfl rfl rfl)) ?_
    refine rg_put (d := 10) (v := .d (rd l)) rfl (og rfl (op_assign rfl rfl rfl)) ?_
    refine rg_put (d := 11) (v := .d (.fl (.int .i64 (ck l)))) rfl (og rfl (op_assign rfl rfl rfl)) ?_
    refine rg_done rfl ?_
    refine a_seq ?_
    refine a_rseq ?_
    refine rg_put (d := 23) (v := .d (.fl (.int .i64 (ck l)))) rfl (og rfl (op_move rfl rfl rfl)) ?_
    refine rg_put (d := 24) (v := .d (.fl (.bool (((ck l) != 0))))) rfl (og rfl (op_bin rfl rfl rfl (b_neq _ _ _ _) rfl)) ?_
    refine rg_put (d := 25) (v := .d (.fl (.bool (((ck l) != 0))))) rfl (og rfl (op_move rfl rfl rfl)) ?_
    refine rg_put (d := 26) (v := .d (.fl undef)) rfl (on rfl rfl rfl h1) ?_
    refine rg_put (d := 27) (v := .d (.fl undef)) rfl (on rfl rfl rfl h1) ?_
    refine rg_put (d := 28) (v := .d (.fl undef)) rfl (on rfl rfl rfl h1) ?_
    refine rg_put (d := 29) (v := .d (.fl undef)) rfl (on rfl rfl rfl h1) ?_
    refine rg_put (d := 30) (v := .d (.fl undef)) rfl (on rfl rfl rfl h1) ?_
    refine rg_put (d := 31) (v := .d (.fl (.bool true))) rfl (og rfl (op_pick rfl rfl (by rw [h1]; rfl) rfl)) ?_
    refine rg_done rfl ?_
    refine a_condK rfl rfl ?_
    refine a_rseq ?_
    refine rg_put (d := 8) (v := .d (.fl (.int .i64 0))) rfl (og rfl (op_assign rfl rfl rfl)) ?_
    refine rg_put (d := 9) (v := .d (.fl (.bool false))) rfl (og rfl (op_assign rfl rfl rfl)) ?_
    refine rg_done rfl ?_
    refine a_ret ?_
    show ∃ ds, ResL _ _ _ ds ∧ RV.of ds = _
    refine ⟨[.fl (.int .i64 0), .fl (.bool false)], (.cons (.tmp rfl (.d _)) (.cons (.tmp rfl (.d _)) .nil)), ?_⟩
    have hu : nxt l m c t = (0, false) := by
      unfold nxt; simp only [h1]; rfl
    rw [hu]; rfl
end Go.Proofs.Yteplcjhnmmpicaa.Wk
