/- What devices are checked for; the law of the checks. No condition. -/
import Derived.Test.YtajhpdmbmipboaaAv44
import Derived.Test.YtajhpdmbmipboaaB7
import Derived.Test.YtajhpdmbmipboaaB8
set_option linter.unusedSimpArgs false
set_option linter.unusedVariables false
namespace Go.Proofs.Ytajhpdmbmipboaa.Wk
open Go Go.RowKit Go.Proofs.Ytajhpdmbmipboaa.Av
set_option maxHeartbeats 4000000 in
set_option maxRecDepth 100000 in
theorem ref_name (s : ByteArray) : Ctr Try.prog 21 [.fl (.string s)] (.d (.fl (.bool (isN s)))) := by
  refine ctr (n := 51) (rs := #[.tmp 2]) (L := [(0, .d (.fl (.string s)))]) Try.func21 rfl rfl rfl rfl rfl (fun w0 U0 => ?_)
  refine a_rseq ?_
  refine rg_put (d := 2) (v := .d (.fl (.bool false))) rfl (og rfl (op_assign rfl rfl rfl)) ?_
  refine rg_done rfl ?_
  refine a_seq ?_
  refine a_rseq ?_
  refine rg_put (d := 5) (v := .d (.fl (.string s))) rfl (og rfl (op_move rfl rfl rfl)) ?_
  refine rg_put (d := 6) (v := .d (.fl (.int .i64 (s.size : Int)))) rfl (og rfl (op_len_str rfl Try.underlying9 rfl rfl)) ?_
  refine rg_put (d := 7) (v := .d (.fl (.bool ((decide ((s.size : Int) < 1)))))) rfl (og rfl (op_bin rfl rfl rfl (b_lss _ _ _ _) rfl)) ?_
  refine rg_put (d := 8) (v := .d (.fl (.bool ((decide ((s.size : Int) < 1)))))) rfl (og rfl (op_move rfl rfl rfl)) ?_
  rcases fot ((decide ((s.size : Int) < 1))) with h1 | h1
  · skip
    have h2 := f_dec h1
    refine rg_put (d := 9) (v := .d (.fl (.string s))) rfl (oy rfl rfl rfl h1 (op_move rfl rfl rfl)) ?_
    refine rg_put (d := 10) (v := .d (.fl (.int .i64 (s.size : Int)))) rfl (oy rfl rfl rfl h1 (op_len_str rfl Try.underlying9 rfl rfl)) ?_
    refine rg_put (d := 11) (v := .d (.fl (.bool ((decide (12 < (s.size : Int))))))) rfl (oy rfl rfl rfl h1 (op_bin rfl rfl rfl (b_gtr _ _ _ _) rfl)) ?_
    refine rg_put (d := 12) (v := .d (.fl (.bool ((decide (12 < (s.size : Int))))))) rfl (og rfl (op_pick rfl rfl (by rw [h1]; rfl) rfl)) ?_
    refine rg_put (d := 13) (v := .d (.fl (.bool ((decide (12 < (s.size : Int))))))) rfl (og rfl (op_move rfl rfl rfl)) ?_
    rcases fot ((decide (12 < (s.size : Int)))) with h3 | h3
    · skip
      have h4 := f_dec h3
      refine rg_put (d := 14) (v := .d (.fl (.string s))) rfl (oy rfl rfl rfl h3 (op_move rfl rfl rfl)) ?_
      refine rg_put (d := 15) (v := .d (.fl (.int .u8 (((bt s 0).toNat : Int))))) rfl (oy rfl rfl rfl h3 (op_strindex rfl Try.underlying9 rfl rfl (by omega) (byte_ix (by omega)) rfl)) ?_
      refine rg_put (d := 16) (v := .d (.fl (.bool ((decide (((bt s 0).toNat : Int) < 97)))))) rfl (oy rfl rfl rfl h3 (op_bin rfl rfl rfl (b_lss _ _ _ _) rfl)) ?_
      refine rg_put (d := 17) (v := .d (.fl (.bool ((decide (((bt s 0).toNat : Int) < 97)))))) rfl (og rfl (op_pick rfl rfl (by rw [h3]; rfl) rfl)) ?_
      refine rg_put (d := 18) (v := .d (.fl (.bool ((decide (((bt s 0).toNat : Int) < 97)))))) rfl (og rfl (op_move rfl rfl rfl)) ?_
      rcases fot ((decide (((bt s 0).toNat : Int) < 97))) with h5 | h5
      · skip
        have h6 := f_dec h5
        refine rg_put (d := 19) (v := .d (.fl (.string s))) rfl (oy rfl rfl rfl h5 (op_move rfl rfl rfl)) ?_
        refine rg_put (d := 20) (v := .d (.fl (.int .u8 (((bt s 0).toNat : Int))))) rfl (oy rfl rfl rfl h5 (op_strindex rfl Try.underlying9 rfl rfl (by omega) (byte_ix (by omega)) rfl)) ?_
        refine rg_put (d := 21) (v := .d (.fl (.bool ((decide (122 < ((bt s 0).toNat : Int))))))) rfl (oy rfl rfl rfl h5 (op_bin rfl rfl rfl (b_gtr _ _ _ _) rfl)) ?_
        refine rg_put (d := 22) (v := .d (.fl (.bool ((decide (122 < ((bt s 0).toNat : Int))))))) rfl (og rfl (op_pick rfl rfl (by rw [h5]; rfl) rfl)) ?_
        refine rg_done rfl ?_
        refine a_cond rfl (fun h7 => ?_) (fun h7 => ?_)
        · skip
          have h8 := t_dec h7
          refine a_rseq ?_
          refine rg_put (d := 2) (v := .d (.fl (.bool false))) rfl (og rfl (op_assign rfl rfl rfl)) ?_
          refine rg_done rfl ?_
          refine a_ret ?_
          show ∃ ds, ResL _ _ _ ds ∧ RV.of ds = _
          refine ⟨[.fl (.bool false)], (.cons (.tmp rfl (.d _)) .nil), ?_⟩
          exact congrArg (fun b => RV.d (.fl (.bool b))) (isN_no0 (.inr (.inr (lo_f (by omega))))).symm
        · skip
          have h9 := f_dec h7
          refine a_skip ?_
          show A _ _ _ _ _ _ _
          refine a_seq ?_
          refine a_rseq ?_
          refine rg_put (d := 3) (v := .d (.fl (.int .i64 0))) rfl (og rfl (op_assign rfl rfl rfl)) ?_
          refine rg_done rfl ?_
          refine a_block ?_
          refine a_loop (ι := Nat) (fun k => SS [(0, .d (.fl (.string s))), (22, .d (.fl (.bool ((decide (122 < ((bt s 0).toNat : Int))))))), (3, .d (.fl (.int .i64 (k : Int))))] []) (fun k => k ≤ s.size ∧ ∀ q, q < k → nc (bt s q).toNat = true) (fun k => s.size - k) 0 (⟨by omega, fun q h => by omega⟩) (imp_forget rfl ⟨rfl, rfl, (by first | rfl | exact ci (by omega) | exact ci (by simp) | exact cd (by simp) | simp), trivial⟩ trivial) (fun k hok => ?_)
          obtain ⟨hk, hq⟩ := hok
          refine a_seq ?_
          refine a_rseq ?_
          refine rg_put (d := 23) (v := .d (.fl (.int .i64 (k : Int)))) rfl (og rfl (op_move rfl rfl rfl)) ?_
          refine rg_put (d := 24) (v := .d (.fl (.string s))) rfl (og rfl (op_move rfl rfl rfl)) ?_
          refine rg_put (d := 25) (v := .d (.fl (.int .i64 (s.size : Int)))) rfl (og rfl (op_len_str rfl Try.underlying9 rfl rfl)) ?_
          refine rg_put (d := 26) (v := .d (.fl (.bool ((decide ((k : Int) < (s.size : Int))))))) rfl (og rfl (op_bin rfl rfl rfl (b_lss _ _ _ _) rfl)) ?_
          refine rg_done rfl ?_
          refine a_cond rfl (fun h10 => ?_) (fun h10 => ?_)
          · skip
            have h11 := t_dec h10
            refine a_skip ?_
            show A _ _ _ _ _ _ _
            refine a_seq ?_
            refine a_block ?_
            refine a_rseq ?_
            refine rg_put (d := 29) (v := .d (.fl (.string s))) rfl (og rfl (op_move rfl rfl rfl)) ?_
            refine rg_put (d := 30) (v := .d (.fl (.int .i64 (k : Int)))) rfl (og rfl (op_move rfl rfl rfl)) ?_
            refine rg_put (d := 31) (v := .d (.fl (.int .u8 (((bt s k).toNat : Int))))) rfl (og rfl (op_strindex rfl Try.underlying9 rfl rfl (by omega) (byte_ix (by omega)) rfl)) ?_
            refine rg_put (d := 4) (v := .d (.fl (.int .u8 (((bt s k).toNat : Int))))) rfl (og rfl (op_assign rfl rfl rfl)) ?_
            refine rg_done rfl ?_
            refine a_rseq ?_
            refine rg_put (d := 32) (v := .d (.fl (.int .u8 (((bt s k).toNat : Int))))) rfl (og rfl (op_move rfl rfl rfl)) ?_
            refine rg_put (d := 33) (v := .d (.fl (.bool ((decide (97 ≤ ((bt s k).toNat : Int))))))) rfl (og rfl (op_bin rfl rfl rfl (b_geq _ _ _ _) rfl)) ?_
            refine rg_put (d := 34) (v := .d (.fl (.bool ((decide (97 ≤ ((bt s k).toNat : Int))))))) rfl (og rfl (op_move rfl rfl rfl)) ?_
            rcases fot ((decide (97 ≤ ((bt s k).toNat : Int)))) with h12 | h12
            · skip
              have h13 := f_dec h12
              refine rg_put (d := 35) (v := .d (.fl undef)) rfl (on rfl rfl rfl h12) ?_
              refine rg_put (d := 36) (v := .d (.fl undef)) rfl (on rfl rfl rfl h12) ?_
              refine rg_put (d := 37) (v := .d (.fl (.bool false))) rfl (og rfl (op_pick rfl rfl (by rw [h12]; rfl) rfl)) ?_
              refine rg_put (d := 38) (v := .d (.fl (.bool false))) rfl (og rfl (op_move rfl rfl rfl)) ?_
              refine rg_put (d := 39) (v := .d (.fl (.int .u8 (((bt s k).toNat : Int))))) rfl (oy rfl rfl rfl rfl (op_move rfl rfl rfl)) ?_
              refine rg_put (d := 40) (v := .d (.fl (.bool ((decide (48 ≤ ((bt s k).toNat : Int))))))) rfl (oy rfl rfl rfl rfl (op_bin rfl rfl rfl (b_geq _ _ _ _) rfl)) ?_
              refine rg_put (d := 41) (v := .d (.fl (.bool ((decide (48 ≤ ((bt s k).toNat : Int))))))) rfl (oy rfl rfl rfl rfl (op_move rfl rfl rfl)) ?_
              rcases fot ((decide (48 ≤ ((bt s k).toNat : Int)))) with h14 | h14
              · skip
                have h15 := f_dec h14
                refine rg_put (d := 42) (v := .d (.fl undef)) rfl (on rfl rfl rfl h14) ?_
                refine rg_put (d := 43) (v := .d (.fl undef)) rfl (on rfl rfl rfl h14) ?_
                refine rg_put (d := 44) (v := .d (.fl (.bool false))) rfl (oy rfl rfl rfl rfl (op_pick rfl rfl (by rw [h14]; rfl) rfl)) ?_
                refine rg_put (d := 45) (v := .d (.fl (.bool false))) rfl (og rfl (op_pick rfl rfl rfl rfl)) ?_
                refine rg_put (d := 46) (v := .d (.fl (.bool false))) rfl (og rfl (op_move rfl rfl rfl)) ?_
                refine rg_put (d := 47) (v := .d (.fl (.int .u8 (((bt s k).toNat : Int))))) rfl (oy rfl rfl rfl rfl (op_move rfl rfl rfl)) ?_
                refine rg_put (d := 48) (v := .d (.fl (.bool ((((bt s k).toNat : Int) == 45))))) rfl (oy rfl rfl rfl rfl (op_bin rfl rfl rfl (b_eql _ _ _ _) rfl)) ?_
                refine rg_put (d := 49) (v := .d (.fl (.bool ((((bt s k).toNat : Int) == 45))))) rfl (og rfl (op_pick rfl rfl rfl rfl)) ?_
                refine rg_put (d := 50) (v := .d (.fl (.bool ((!((((bt s k).toNat : Int) == 45))))))) rfl (og rfl (op_un rfl rfl (u_not _) rfl)) ?_
                refine rg_done rfl ?_
                refine a_cond rfl (fun h16 => ?_) (fun h16 => ?_)
                · skip
                  have h17 := t_not h16
                  have h18 := f_beq h17
                  refine a_rseq ?_
                  refine rg_put (d := 2) (v := .d (.fl (.bool false))) rfl (og rfl (op_assign rfl rfl rfl)) ?_
                  refine rg_done rfl ?_
                  refine a_ret ?_
                  show ∃ ds, ResL _ _ _ ds ∧ RV.of ds = _
                  refine ⟨[.fl (.bool false)], (.cons (.tmp rfl (.d _)) .nil), ?_⟩
                  exact congrArg (fun b => RV.d (.fl (.bool b))) (isN_no (k := k) (by omega) (nc_f (by omega))).symm
                · skip
                  have h19 := f_not h16
                  have h20 := t_beq h19
                  refine a_skip ?_
                  show A _ _ _ _ _ _ _
                  refine a_region ?_
                  refine rg_put (d := 27) (v := .d (.fl (.int .i64 (k : Int)))) rfl (og rfl (op_move rfl rfl rfl)) ?_
                  refine rg_put (d := 28) (v := .d (.fl (.int .i64 (((k : Int) + 1))))) rfl (og rfl (op_bin rfl rfl rfl (fun x y w => b_add64 _ _ _ x y w (by omega)) rfl)) ?_
                  refine rg_put (d := 3) (v := .d (.fl (.int .i64 (((k : Int) + 1))))) rfl (og rfl (op_assign rfl rfl rfl)) ?_
                  refine rg_done rfl ?_
                  show ∃ i, _ ∧ _ ∧ Imp _ _ _ _ _
                  refine ⟨k + 1, ⟨by omega, fun q h => by
                    rcases Nat.lt_succ_iff_lt_or_eq.1 h with h | h
                    · exact hq q h
                    · subst h; exact nc_iff.2 (by omega)⟩, by omega, imp_forget rfl ⟨rfl, rfl, (by first | rfl | exact ci (by omega) | exact ci (by simp) | exact cd (by simp) | simp), trivial⟩ trivial⟩
              · skip
                have h21 := t_dec h14
                refine rg_put (d := 42) (v := .d (.fl (.int .u8 (((bt s k).toNat : Int))))) rfl (oy rfl rfl rfl h14 (op_move rfl rfl rfl)) ?_
                refine rg_put (d := 43) (v := .d (.fl (.bool ((decide (((bt s k).toNat : Int) ≤ 57)))))) rfl (oy rfl rfl rfl h14 (op_bin rfl rfl rfl (b_leq _ _ _ _) rfl)) ?_
                refine rg_put (d := 44) (v := .d (.fl (.bool ((decide (((bt s k).toNat : Int) ≤ 57)))))) rfl (oy rfl rfl rfl rfl (op_pick rfl rfl (by rw [h14]; rfl) rfl)) ?_
                refine rg_put (d := 45) (v := .d (.fl (.bool ((decide (((bt s k).toNat : Int) ≤ 57)))))) rfl (og rfl (op_pick rfl rfl rfl rfl)) ?_
                refine rg_put (d := 46) (v := .d (.fl (.bool ((decide (((bt s k).toNat : Int) ≤ 57)))))) rfl (og rfl (op_move rfl rfl rfl)) ?_
                rcases fot ((decide (((bt s k).toNat : Int) ≤ 57))) with h22 | h22
                · skip
                  have h23 := f_dec h22
                  refine rg_put (d := 47) (v := .d (.fl (.int .u8 (((bt s k).toNat : Int))))) rfl (oy rfl rfl rfl h22 (op_move rfl rfl rfl)) ?_
                  refine rg_put (d := 48) (v := .d (.fl (.bool ((((bt s k).toNat : Int) == 45))))) rfl (oy rfl rfl rfl h22 (op_bin rfl rfl rfl (b_eql _ _ _ _) rfl)) ?_
                  refine rg_put (d := 49) (v := .d (.fl (.bool ((((bt s k).toNat : Int) == 45))))) rfl (og rfl (op_pick rfl rfl (by rw [h22]; rfl) rfl)) ?_
                  refine rg_put (d := 50) (v := .d (.fl (.bool ((!((((bt s k).toNat : Int) == 45))))))) rfl (og rfl (op_un rfl rfl (u_not _) rfl)) ?_
                  refine rg_done rfl ?_
                  refine a_cond rfl (fun h24 => ?_) (fun h24 => ?_)
                  · skip
                    have h25 := t_not h24
                    have h26 := f_beq h25
                    refine a_rseq ?_
                    refine rg_put (d := 2) (v := .d (.fl (.bool false))) rfl (og rfl (op_assign rfl rfl rfl)) ?_
                    refine rg_done rfl ?_
                    refine a_ret ?_
                    show ∃ ds, ResL _ _ _ ds ∧ RV.of ds = _
                    refine ⟨[.fl (.bool false)], (.cons (.tmp rfl (.d _)) .nil), ?_⟩
                    exact congrArg (fun b => RV.d (.fl (.bool b))) (isN_no (k := k) (by omega) (nc_f (by omega))).symm
                  · skip
                    have h27 := f_not h24
                    have h28 := t_beq h27
                    refine a_skip ?_
                    show A _ _ _ _ _ _ _
                    refine a_region ?_
                    refine rg_put (d := 27) (v := .d (.fl (.int .i64 (k : Int)))) rfl (og rfl (op_move rfl rfl rfl)) ?_
                    refine rg_put (d := 28) (v := .d (.fl (.int .i64 (((k : Int) + 1))))) rfl (og rfl (op_bin rfl rfl rfl (fun x y w => b_add64 _ _ _ x y w (by omega)) rfl)) ?_
                    refine rg_put (d := 3) (v := .d (.fl (.int .i64 (((k : Int) + 1))))) rfl (og rfl (op_assign rfl rfl rfl)) ?_
                    refine rg_done rfl ?_
                    show ∃ i, _ ∧ _ ∧ Imp _ _ _ _ _
                    refine ⟨k + 1, ⟨by omega, fun q h => by
                      rcases Nat.lt_succ_iff_lt_or_eq.1 h with h | h
                      · exact hq q h
                      · subst h; exact nc_iff.2 (by omega)⟩, by omega, imp_forget rfl ⟨rfl, rfl, (by first | rfl | exact ci (by omega) | exact ci (by simp) | exact cd (by simp) | simp), trivial⟩ trivial⟩
                · skip
                  have h29 := t_dec h22
                  refine rg_put (d := 47) (v := .d (.fl undef)) rfl (on rfl rfl rfl h22) ?_
                  refine rg_put (d := 48) (v := .d (.fl undef)) rfl (on rfl rfl rfl h22) ?_
                  refine rg_put (d := 49) (v := .d (.fl (.bool true))) rfl (og rfl (op_pick rfl rfl (by rw [h22]; rfl) rfl)) ?_
                  refine rg_put (d := 50) (v := .d (.fl (.bool (!true)))) rfl (og rfl (op_un rfl rfl (u_not _) rfl)) ?_
                  refine rg_done rfl ?_
                  refine a_condF rfl (not_f rfl) ?_
                  refine a_skip ?_
                  show A _ _ _ _ _ _ _
                  refine a_region ?_
                  refine rg_put (d := 27) (v := .d (.fl (.int .i64 (k : Int)))) rfl (og rfl (op_move rfl rfl rfl)) ?_
                  refine rg_put (d := 28) (v := .d (.fl (.int .i64 (((k : Int) + 1))))) rfl (og rfl (op_bin rfl rfl rfl (fun x y w => b_add64 _ _ _ x y w (by omega)) rfl)) ?_
                  refine rg_put (d := 3) (v := .d (.fl (.int .i64 (((k : Int) + 1))))) rfl (og rfl (op_assign rfl rfl rfl)) ?_
                  refine rg_done rfl ?_
                  show ∃ i, _ ∧ _ ∧ Imp _ _ _ _ _
                  refine ⟨k + 1, ⟨by omega, fun q h => by
                    rcases Nat.lt_succ_iff_lt_or_eq.1 h with h | h
                    · exact hq q h
                    · subst h; exact nc_iff.2 (by omega)⟩, by omega, imp_forget rfl ⟨rfl, rfl, (by first | rfl | exact ci (by omega) | exact ci (by simp) | exact cd (by simp) | simp), trivial⟩ trivial⟩
            · skip
              have h30 := t_dec h12
              refine rg_put (d := 35) (v := .d (.fl (.int .u8 (((bt s k).toNat : Int))))) rfl (oy rfl rfl rfl h12 (op_move rfl rfl rfl)) ?_
              refine rg_put (d := 36) (v := .d (.fl (.bool ((decide (((bt s k).toNat : Int) ≤ 122)))))) rfl (oy rfl rfl rfl h12 (op_bin rfl rfl rfl (b_leq _ _ _ _) rfl)) ?_
              refine rg_put (d := 37) (v := .d (.fl (.bool ((decide (((bt s k).toNat : Int) ≤ 122)))))) rfl (og rfl (op_pick rfl rfl (by rw [h12]; rfl) rfl)) ?_
              refine rg_put (d := 38) (v := .d (.fl (.bool ((decide (((bt s k).toNat : Int) ≤ 122)))))) rfl (og rfl (op_move rfl rfl rfl)) ?_
              rcases fot ((decide (((bt s k).toNat : Int) ≤ 122))) with h31 | h31
              · skip
                have h32 := f_dec h31
                refine rg_put (d := 39) (v := .d (.fl (.int .u8 (((bt s k).toNat : Int))))) rfl (oy rfl rfl rfl h31 (op_move rfl rfl rfl)) ?_
                refine rg_put (d := 40) (v := .d (.fl (.bool ((decide (48 ≤ ((bt s k).toNat : Int))))))) rfl (oy rfl rfl rfl h31 (op_bin rfl rfl rfl (b_geq _ _ _ _) rfl)) ?_
                refine rg_put (d := 41) (v := .d (.fl (.bool ((decide (48 ≤ ((bt s k).toNat : Int))))))) rfl (oy rfl rfl rfl h31 (op_move rfl rfl rfl)) ?_
                rcases fot ((decide (48 ≤ ((bt s k).toNat : Int)))) with h33 | h33
                · skip
                  have h34 := f_dec h33
                  refine rg_put (d := 42) (v := .d (.fl undef)) rfl (on rfl rfl rfl h33) ?_
                  refine rg_put (d := 43) (v := .d (.fl undef)) rfl (on rfl rfl rfl h33) ?_
                  refine rg_put (d := 44) (v := .d (.fl (.bool false))) rfl (oy rfl rfl rfl h31 (op_pick rfl rfl (by rw [h33]; rfl) rfl)) ?_
                  refine rg_put (d := 45) (v := .d (.fl (.bool false))) rfl (og rfl (op_pick rfl rfl (by rw [h31]; rfl) rfl)) ?_
                  refine rg_put (d := 46) (v := .d (.fl (.bool false))) rfl (og rfl (op_move rfl rfl rfl)) ?_
                  refine rg_put (d := 47) (v := .d (.fl (.int .u8 (((bt s k).toNat : Int))))) rfl (oy rfl rfl rfl rfl (op_move rfl rfl rfl)) ?_
                  refine rg_put (d := 48) (v := .d (.fl (.bool ((((bt s k).toNat : Int) == 45))))) rfl (oy rfl rfl rfl rfl (op_bin rfl rfl rfl (b_eql _ _ _ _) rfl)) ?_
                  refine rg_put (d := 49) (v := .d (.fl (.bool ((((bt s k).toNat : Int) == 45))))) rfl (og rfl (op_pick rfl rfl rfl rfl)) ?_
                  refine rg_put (d := 50) (v := .d (.fl (.bool ((!((((bt s k).toNat : Int) == 45))))))) rfl (og rfl (op_un rfl rfl (u_not _) rfl)) ?_
                  refine rg_done rfl ?_
                  refine a_cond rfl (fun h35 => ?_) (fun h35 => ?_)
                  · skip
                    have h36 := t_not h35
                    have h37 := f_beq h36
                    refine a_rseq ?_
                    refine rg_put (d := 2) (v := .d (.fl (.bool false))) rfl (og rfl (op_assign rfl rfl rfl)) ?_
                    refine rg_done rfl ?_
                    refine a_ret ?_
                    show ∃ ds, ResL _ _ _ ds ∧ RV.of ds = _
                    refine ⟨[.fl (.bool false)], (.cons (.tmp rfl (.d _)) .nil), ?_⟩
                    exact congrArg (fun b => RV.d (.fl (.bool b))) (isN_no (k := k) (by omega) (nc_f (by omega))).symm
                  · skip
                    have h38 := f_not h35
                    have h39 := t_beq h38
                    refine a_skip ?_
                    show A _ _ _ _ _ _ _
                    refine a_region ?_
                    refine rg_put (d := 27) (v := .d (.fl (.int .i64 (k : Int)))) rfl (og rfl (op_move rfl rfl rfl)) ?_
                    refine rg_put (d := 28) (v := .d (.fl (.int .i64 (((k : Int) + 1))))) rfl (og rfl (op_bin rfl rfl rfl (fun x y w => b_add64 _ _ _ x y w (by omega)) rfl)) ?_
                    refine rg_put (d := 3) (v := .d (.fl (.int .i64 (((k : Int) + 1))))) rfl (og rfl (op_assign rfl rfl rfl)) ?_
                    refine rg_done rfl ?_
                    show ∃ i, _ ∧ _ ∧ Imp _ _ _ _ _
                    refine ⟨k + 1, ⟨by omega, fun q h => by
                      rcases Nat.lt_succ_iff_lt_or_eq.1 h with h | h
                      · exact hq q h
                      · subst h; exact nc_iff.2 (by omega)⟩, by omega, imp_forget rfl ⟨rfl, rfl, (by first | rfl | exact ci (by omega) | exact ci (by simp) | exact cd (by simp) | simp), trivial⟩ trivial⟩
                · skip
                  have h40 := t_dec h33
                  refine rg_put (d := 42) (v := .d (.fl (.int .u8 (((bt s k).toNat : Int))))) rfl (oy rfl rfl rfl h33 (op_move rfl rfl rfl)) ?_
                  refine rg_put (d := 43) (v := .d (.fl (.bool ((decide (((bt s k).toNat : Int) ≤ 57)))))) rfl (oy rfl rfl rfl h33 (op_bin rfl rfl rfl (b_leq _ _ _ _) rfl)) ?_
                  refine rg_put (d := 44) (v := .d (.fl (.bool ((decide (((bt s k).toNat : Int) ≤ 57)))))) rfl (oy rfl rfl rfl h31 (op_pick rfl rfl (by rw [h33]; rfl) rfl)) ?_
                  refine rg_put (d := 45) (v := .d (.fl (.bool ((decide (((bt s k).toNat : Int) ≤ 57)))))) rfl (og rfl (op_pick rfl rfl (by rw [h31]; rfl) rfl)) ?_
                  refine rg_put (d := 46) (v := .d (.fl (.bool ((decide (((bt s k).toNat : Int) ≤ 57)))))) rfl (og rfl (op_move rfl rfl rfl)) ?_
                  rcases fot ((decide (((bt s k).toNat : Int) ≤ 57))) with h41 | h41
                  · skip
                    have h42 := f_dec h41
                    refine rg_put (d := 47) (v := .d (.fl (.int .u8 (((bt s k).toNat : Int))))) rfl (oy rfl rfl rfl h41 (op_move rfl rfl rfl)) ?_
                    refine rg_put (d := 48) (v := .d (.fl (.bool ((((bt s k).toNat : Int) == 45))))) rfl (oy rfl rfl rfl h41 (op_bin rfl rfl rfl (b_eql _ _ _ _) rfl)) ?_
                    refine rg_put (d := 49) (v := .d (.fl (.bool ((((bt s k).toNat : Int) == 45))))) rfl (og rfl (op_pick rfl rfl (by rw [h41]; rfl) rfl)) ?_
                    refine rg_put (d := 50) (v := .d (.fl (.bool ((!((((bt s k).toNat : Int) == 45))))))) rfl (og rfl (op_un rfl rfl (u_not _) rfl)) ?_
                    refine rg_done rfl ?_
                    refine a_cond rfl (fun h43 => ?_) (fun h43 => ?_)
                    · skip
                      have h44 := t_not h43
                      have h45 := f_beq h44
                      refine a_rseq ?_
                      refine rg_put (d := 2) (v := .d (.fl (.bool false))) rfl (og rfl (op_assign rfl rfl rfl)) ?_
                      refine rg_done rfl ?_
                      refine a_ret ?_
                      show ∃ ds, ResL _ _ _ ds ∧ RV.of ds = _
                      refine ⟨[.fl (.bool false)], (.cons (.tmp rfl (.d _)) .nil), ?_⟩
                      exact congrArg (fun b => RV.d (.fl (.bool b))) (isN_no (k := k) (by omega) (nc_f (by omega))).symm
                    · skip
                      have h46 := f_not h43
                      have h47 := t_beq h46
                      refine a_skip ?_
                      show A _ _ _ _ _ _ _
                      refine a_region ?_
                      refine rg_put (d := 27) (v := .d (.fl (.int .i64 (k : Int)))) rfl (og rfl (op_move rfl rfl rfl)) ?_
                      refine rg_put (d := 28) (v := .d (.fl (.int .i64 (((k : Int) + 1))))) rfl (og rfl (op_bin rfl rfl rfl (fun x y w => b_add64 _ _ _ x y w (by omega)) rfl)) ?_
                      refine rg_put (d := 3) (v := .d (.fl (.int .i64 (((k : Int) + 1))))) rfl (og rfl (op_assign rfl rfl rfl)) ?_
                      refine rg_done rfl ?_
                      show ∃ i, _ ∧ _ ∧ Imp _ _ _ _ _
                      refine ⟨k + 1, ⟨by omega, fun q h => by
                        rcases Nat.lt_succ_iff_lt_or_eq.1 h with h | h
                        · exact hq q h
                        · subst h; exact nc_iff.2 (by omega)⟩, by omega, imp_forget rfl ⟨rfl, rfl, (by first | rfl | exact ci (by omega) | exact ci (by simp) | exact cd (by simp) | simp), trivial⟩ trivial⟩
                  · skip
                    have h48 := t_dec h41
                    refine rg_put (d := 47) (v := .d (.fl undef)) rfl (on rfl rfl rfl h41) ?_
                    refine rg_put (d := 48) (v := .d (.fl undef)) rfl (on rfl rfl rfl h41) ?_
                    refine rg_put (d := 49) (v := .d (.fl (.bool true))) rfl (og rfl (op_pick rfl rfl (by rw [h41]; rfl) rfl)) ?_
                    refine rg_put (d := 50) (v := .d (.fl (.bool (!true)))) rfl (og rfl (op_un rfl rfl (u_not _) rfl)) ?_
                    refine rg_done rfl ?_
                    refine a_condF rfl (not_f rfl) ?_
                    refine a_skip ?_
                    show A _ _ _ _ _ _ _
                    refine a_region ?_
                    refine rg_put (d := 27) (v := .d (.fl (.int .i64 (k : Int)))) rfl (og rfl (op_move rfl rfl rfl)) ?_
                    refine rg_put (d := 28) (v := .d (.fl (.int .i64 (((k : Int) + 1))))) rfl (og rfl (op_bin rfl rfl rfl (fun x y w => b_add64 _ _ _ x y w (by omega)) rfl)) ?_
                    refine rg_put (d := 3) (v := .d (.fl (.int .i64 (((k : Int) + 1))))) rfl (og rfl (op_assign rfl rfl rfl)) ?_
                    refine rg_done rfl ?_
                    show ∃ i, _ ∧ _ ∧ Imp _ _ _ _ _
                    refine ⟨k + 1, ⟨by omega, fun q h => by
                      rcases Nat.lt_succ_iff_lt_or_eq.1 h with h | h
                      · exact hq q h
                      · subst h; exact nc_iff.2 (by omega)⟩, by omega, imp_forget rfl ⟨rfl, rfl, (by first | rfl | exact ci (by omega) | exact ci (by simp) | exact cd (by simp) | simp), trivial⟩ trivial⟩
              · skip
                have h49 := t_dec h31
                refine rg_put (d := 39) (v := .d (.fl undef)) rfl (on rfl rfl rfl h31) ?_
                refine rg_put (d := 40) (v := .d (.fl undef)) rfl (on rfl rfl rfl h31) ?_
                refine rg_put (d := 41) (v := .d (.fl undef)) rfl (on rfl rfl rfl h31) ?_
                refine rg_put (d := 42) (v := .d (.fl undef)) rfl (ou rfl rfl rfl) ?_
                refine rg_put (d := 43) (v := .d (.fl undef)) rfl (ou rfl rfl rfl) ?_
                refine rg_put (d := 44) (v := .d (.fl undef)) rfl (on rfl rfl rfl h31) ?_
                refine rg_put (d := 45) (v := .d (.fl (.bool true))) rfl (og rfl (op_pick rfl rfl (by rw [h31]; rfl) rfl)) ?_
                refine rg_put (d := 46) (v := .d (.fl (.bool true))) rfl (og rfl (op_move rfl rfl rfl)) ?_
                refine rg_put (d := 47) (v := .d (.fl undef)) rfl (on rfl rfl rfl rfl) ?_
                refine rg_put (d := 48) (v := .d (.fl undef)) rfl (on rfl rfl rfl rfl) ?_
                refine rg_put (d := 49) (v := .d (.fl (.bool true))) rfl (og rfl (op_pick rfl rfl rfl rfl)) ?_
                refine rg_put (d := 50) (v := .d (.fl (.bool (!true)))) rfl (og rfl (op_un rfl rfl (u_not _) rfl)) ?_
                refine rg_done rfl ?_
                refine a_condF rfl (not_f rfl) ?_
                refine a_skip ?_
                show A _ _ _ _ _ _ _
                refine a_region ?_
                refine rg_put (d := 27) (v := .d (.fl (.int .i64 (k : Int)))) rfl (og rfl (op_move rfl rfl rfl)) ?_
                refine rg_put (d := 28) (v := .d (.fl (.int .i64 (((k : Int) + 1))))) rfl (og rfl (op_bin rfl rfl rfl (fun x y w => b_add64 _ _ _ x y w (by omega)) rfl)) ?_
                refine rg_put (d := 3) (v := .d (.fl (.int .i64 (((k : Int) + 1))))) rfl (og rfl (op_assign rfl rfl rfl)) ?_
                refine rg_done rfl ?_
                show ∃ i, _ ∧ _ ∧ Imp _ _ _ _ _
                refine ⟨k + 1, ⟨by omega, fun q h => by
                  rcases Nat.lt_succ_iff_lt_or_eq.1 h with h | h
                  · exact hq q h
                  · subst h; exact nc_iff.2 (by omega)⟩, by omega, imp_forget rfl ⟨rfl, rfl, (by first | rfl | exact ci (by omega) | exact ci (by simp) | exact cd (by simp) | simp), trivial⟩ trivial⟩
          · skip
            have h50 := f_dec h10
            refine a_exit ?_
            show A _ _ _ _ _ _ _
            refine a_rseq ?_
            refine rg_put (d := 2) (v := .d (.fl (.bool true))) rfl (og rfl (op_assign rfl rfl rfl)) ?_
            refine rg_done rfl ?_
            refine a_ret ?_
            show ∃ ds, ResL _ _ _ ds ∧ RV.of ds = _
            refine ⟨[.fl (.bool true)], (.cons (.tmp rfl (.d _)) .nil), ?_⟩
            exact congrArg (fun b => RV.d (.fl (.bool b))) (isN_yes (by omega) (by omega) (lo_iff.2 (by omega)) (fun q h => hq q (by omega))).symm
      · skip
        have h51 := t_dec h5
        refine rg_put (d := 19) (v := .d (.fl undef)) rfl (on rfl rfl rfl h5) ?_
        refine rg_put (d := 20) (v := .d (.fl undef)) rfl (on rfl rfl rfl h5) ?_
        refine rg_put (d := 21) (v := .d (.fl undef)) rfl (on rfl rfl rfl h5) ?_
        refine rg_put (d := 22) (v := .d (.fl (.bool true))) rfl (og rfl (op_pick rfl rfl (by rw [h5]; rfl) rfl)) ?_
        refine rg_done rfl ?_
        refine a_condK rfl rfl ?_
        refine a_rseq ?_
        refine rg_put (d := 2) (v := .d (.fl (.bool false))) rfl (og rfl (op_assign rfl rfl rfl)) ?_
        refine rg_done rfl ?_
        refine a_ret ?_
        show ∃ ds, ResL _ _ _ ds ∧ RV.of ds = _
        refine ⟨[.fl (.bool false)], (.cons (.tmp rfl (.d _)) .nil), ?_⟩
        exact congrArg (fun b => RV.d (.fl (.bool b))) (isN_no0 (.inr (.inr (lo_f (by omega))))).symm
    · skip
      have h52 := t_dec h3
      refine rg_put (d := 14) (v := .d (.fl undef)) rfl (on rfl rfl rfl h3) ?_
      refine rg_put (d := 15) (v := .d (.fl undef)) rfl (on rfl rfl rfl h3) ?_
      refine rg_put (d := 16) (v := .d (.fl undef)) rfl (on rfl rfl rfl h3) ?_
      refine rg_put (d := 17) (v := .d (.fl (.bool true))) rfl (og rfl (op_pick rfl rfl (by rw [h3]; rfl) rfl)) ?_
      refine rg_put (d := 18) (v := .d (.fl (.bool true))) rfl (og rfl (op_move rfl rfl rfl)) ?_
      refine rg_put (d := 19) (v := .d (.fl undef)) rfl (on rfl rfl rfl rfl) ?_
      refine rg_put (d := 20) (v := .d (.fl undef)) rfl (on rfl rfl rfl rfl) ?_
      refine rg_put (d := 21) (v := .d (.fl undef)) rfl (on rfl rfl rfl rfl) ?_
      refine rg_put (d := 22) (v := .d (.fl (.bool true))) rfl (og rfl (op_pick rfl rfl rfl rfl)) ?_
      refine rg_done rfl ?_
      refine a_condK rfl rfl ?_
      refine a_rseq ?_
      refine rg_put (d := 2) (v := .d (.fl (.bool false))) rfl (og rfl (op_assign rfl rfl rfl)) ?_
      refine rg_done rfl ?_
      refine a_ret ?_
      show ∃ ds, ResL _ _ _ ds ∧ RV.of ds = _
      refine ⟨[.fl (.bool false)], (.cons (.tmp rfl (.d _)) .nil), ?_⟩
      exact congrArg (fun b => RV.d (.fl (.bool b))) (isN_no0 (by omega)).symm
  · skip
    have h53 := t_dec h1
    refine rg_put (d := 9) (v := .d (.fl undef)) rfl (on rfl rfl rfl h1) ?_
    refine rg_put (d := 10) (v := .d (.fl undef)) rfl (on rfl rfl rfl h1) ?_
    refine rg_put (d := 11) (v := .d (.fl undef)) rfl (on rfl rfl rfl h1) ?_
    refine rg_put (d := 12) (v := .d (.fl (.bool true))) rfl (og rfl (op_pick rfl rfl (by rw [h1]; rfl) rfl)) ?_
    refine rg_put (d := 13) (v := .d (.fl (.bool true))) rfl (og rfl (op_move rfl rfl rfl)) ?_
    refine rg_put (d := 14) (v := .d (.fl undef)) rfl (on rfl rfl rfl rfl) ?_
    refine rg_put (d := 15) (v := .d (.fl undef)) rfl (on rfl rfl rfl rfl) ?_
    refine rg_put (d := 16) (v := .d (.fl undef)) rfl (on rfl rfl rfl rfl) ?_
    refine rg_put (d := 17) (v := .d (.fl (.bool true))) rfl (og rfl (op_pick rfl rfl rfl rfl)) ?_
    refine rg_put (d := 18) (v := .d (.fl (.bool true))) rfl (og rfl (op_move rfl rfl rfl)) ?_
    refine rg_put (d := 19) (v := .d (.fl undef)) rfl (on rfl rfl rfl rfl) ?_
    refine rg_put (d := 20) (v := .d (.fl undef)) rfl (on rfl rfl rfl rfl) ?_
    refine rg_put (d := 21) (v := .d (.fl undef)) rfl (on rfl rfl rfl rfl) ?_
    refine rg_put (d := 22) (v := .d (.fl (.bool true))) rfl (og rfl (op_pick rfl rfl rfl rfl)) ?_
    refine rg_done rfl ?_
    refine a_condK rfl rfl ?_
    refine a_rseq ?_
    refine rg_put (d := 2) (v := .d (.fl (.bool false))) rfl (og rfl (op_assign rfl rfl rfl)) ?_
    refine rg_done rfl ?_
    refine a_ret ?_
    show ∃ ds, ResL _ _ _ ds ∧ RV.of ds = _
    refine ⟨[.fl (.bool false)], (.cons (.tmp rfl (.d _)) .nil), ?_⟩
    exact congrArg (fun b => RV.d (.fl (.bool b))) (isN_no0 (by omega)).symm
theorem hasP_take (n : Nw) (s : ByteArray) : ((n.points.take n.points.length).any fun p => sEq p.name s) = hasP n s := by rw [List.take_length]; rfl
def dn (l : List Dc) : Nat → Int
  | 0 => 0
  | k + 1 => IntKind.i64.wrap (dn l k + ((ix l k).down.length : Int))
def gk (l : List Dc) (k : Nat) : Bool := (decide (40 < ((ix l k).offs.length : Int)) || decide (40 < ((ix l k).down.length : Int))) || decide (400 < dn l (k + 1))
def grt (l : List Dc) : Bool := decide (1100 < (l.length : Int)) || (List.range l.length).any (gk l)
theorem grt_lim {l : List Dc} (h : decide (1100 < (l.length : Int)) = true) : grt l = true := by unfold grt; rw [h]; rfl
theorem grt_yes {l : List Dc} {k : Nat} (hk : k < l.length) (h : gk l k = true) : grt l = true := by
  unfold grt
  rw [List.any_eq_true.2 ⟨k, List.mem_range.2 hk, h⟩, Bool.or_true]
theorem grt_no {l : List Dc} (h1 : decide (1100 < (l.length : Int)) = false) (h : ∀ q, q < l.length → gk l q = false) : grt l = false := by
  unfold grt
  rw [h1, Bool.false_or, List.any_eq_false]
  intro q hq
  rw [h q (List.mem_range.1 hq)]; simp
theorem grt_len {l : List Dc} (h : grt l = false) : l.length ≤ 1100 ∧ ∀ q, q < l.length → (ix l q).offs.length ≤ 1000 ∧ (ix l q).down.length ≤ 1000 := by
  unfold grt at h
  simp only [Bool.or_eq_false_iff, decide_eq_false_iff_not, List.any_eq_false, List.mem_range] at h
  refine ⟨by omega, fun q hq => ?_⟩
  have := h.2 q hq
  unfold gk at this
  simp only [Bool.or_eq_true, decide_eq_true_eq, not_or] at this
  omega

set_option maxHeartbeats 4000000 in
set_option maxRecDepth 100000 in
theorem chkA8 (l : List Dc) (n : Nw) (hl : l.length ≤ 2000) (hn : n.points.length ≤ 1000) (hz : ∀ q, q < l.length → (ix l q).offs.length ≤ 1000 ∧ (ix l q).down.length ≤ 1000) : Ctr Try.prog 8 [.sl 6 (List.map eDc l), .ag (eNw n)] (.d (.fl (.int .i64 (chk n l)))) := by
  refine ctr (n := 86) (rs := #[.tmp 4]) (L := [(0, .d (.sl 6 (List.map eDc l))), (1, .d (.ag (eNw n)))]) Try.func8 rfl rfl rfl rfl rfl (fun w0 U0 => ?_)
  refine a_rseq ?_
  refine rg_nam (d := 3) (v := .pt 101 0) (m := 101) (nw := [(101, .bx 26 (eNw n))]) rfl (og rfl (of_eff (op_box 101 rfl rfl rfl rfl) rfl)) rfl ?_
  refine rg_put (d := 4) (v := .d (.fl (.int .i64 0))) rfl (og rfl (op_assign rfl rfl rfl)) ?_
  refine rg_done rfl ?_
  refine a_seq ?_
  refine a_rseq ?_
  refine rg_put (d := 13) (v := .d (.sl 6 (List.map eDc l))) rfl (og rfl (op_move rfl rfl rfl)) ?_
  refine rg_put (d := 14) (v := .d (.fl (.int .i64 (l.length : Int)))) rfl (og rfl (s_len rfl Try.underlying22 rfl rfl)) ?_
  refine rg_put (d := 15) (v := .d (.fl (.bool ((decide (1024 < (l.length : Int))))))) rfl (og rfl (op_bin rfl rfl rfl (b_gtr _ _ _ _) rfl)) ?_
  refine rg_done rfl ?_
  refine a_cond rfl (fun h1 => ?_) (fun h1 => ?_)
  · skip
    have h2 := t_dec h1
    refine a_rseq ?_
    refine rg_put (d := 4) (v := .d (.fl (.int .i64 3))) rfl (og rfl (op_assign rfl rfl rfl)) ?_
    refine rg_done rfl ?_
    refine a_ret ?_
    show ∃ ds, ResL _ _ _ ds ∧ RV.of ds = _
    refine ⟨[.fl (.int .i64 3)], (.cons (.tmp rfl (.d _)) .nil), ?_⟩
    rw [chk_lim h1]; rfl
  · skip
    have h3 := f_dec h1
    refine a_skip ?_
    show A _ _ _ _ _ _ _
    refine a_rseq ?_
    refine rg_nam (d := 16) (v := .ow 102) (m := 102) (nw := [(102, .mp [])]) rfl (og rfl (op_makeMap 102 rfl rfl)) rfl ?_
    refine rg_put (d := 5) (v := .ow 102) rfl (og rfl (op_assign rfl rfl rfl)) ?_
    refine rg_done rfl ?_
    refine a_seq ?_
    refine a_rseq ?_
    refine rg_put (d := 17) (v := .pt 101 0) rfl (og rfl (of_eff (s_field_pt rfl Try.underlying26 rfl ti23 rfl rfl rfl) rfl)) ?_
    refine rg_put (d := 18) (v := .d (.sl 3 (List.map ePn n.points))) rfl (og rfl (op_load_pt rfl Try.underlying23 rfl rfl rfl rfl rfl)) ?_
    refine rg_put (d := 19) (v := .d (.fl (.int .i64 (n.points.length : Int)))) rfl (og rfl (s_len rfl Try.underlying23 rfl rfl)) ?_
    refine rg_put (d := 20) (v := .d (.fl (.int .i64 0))) rfl (og rfl (op_move rfl rfl rfl)) ?_
    refine rg_done rfl ?_
    refine a_block ?_
    refine a_loop (ι := Nat) (fun j => SS [(0, .d (.sl 6 (List.map eDc l))), (1, .d (.ag (eNw n))), (3, .pt 101 0), (4, .d (.fl (.int .i64 0))), (5, .ow 102), (15, .d (.fl (.bool ((decide (1024 < (l.length : Int))))))), (18, .d (.sl 3 (List.map ePn n.points))), (19, .d (.fl (.int .i64 (n.points.length : Int)))), (20, .d (.fl (.int .i64 (j : Int))))] [(101, .bx 26 (eNw n)), (102, .mp ((setP (ded n.points j))))]) (fun j => j ≤ n.points.length) (fun j => n.points.length - j) 0 (by omega) (imp_forget rfl ⟨rfl, rfl, rfl, rfl, rfl, rfl, rfl, rfl, (by first | rfl | exact ci (by omega) | exact ci (by simp) | exact cd (by simp) | simp), trivial⟩ ⟨rfl, rfl, trivial⟩) (fun j hok => ?_)
    have hj := hok
    refine a_rseq ?_
    refine rg_put (d := 21) (v := .d (.fl (.bool ((decide ((j : Int) < (n.points.length : Int))))))) rfl (og rfl (op_bin rfl rfl rfl (b_lss _ _ _ _) rfl)) ?_
    refine rg_done rfl ?_
    refine a_seq ?_
    refine a_cond rfl (fun h4 => ?_) (fun h4 => ?_)
    · skip
      have h5 := t_dec h4
      refine a_skip ?_
      show A _ _ _ _ _ _ _
      refine a_seq ?_
      refine a_block ?_
      refine a_rseq ?_
      refine rg_put (d := 22) (v := .el ((ePn (ix n.points j)))) rfl (og rfl (s_index rfl Try.underlying23 ti52 rfl rfl (by omega) (row_at (by omega)) rfl)) ?_
      refine rg_put (d := 23) (v := .d (.ag (ePn (ix n.points j)))) rfl (og rfl (of_eff (s_load_els rfl Try.underlying52 rfl ti52 rfl rfl rfl) rfl)) ?_
      refine rg_nam (d := 7) (v := .pt 103 0) (m := 103) (nw := [(103, .bx 52 ([.fl (.string (⟨#[]⟩)), .fl (.int .i64 0), .fl (.string (⟨#[]⟩))]))]) rfl (og rfl (of_eff (s_alloc 103 rfl ti52 (by kernel_rfl) rfl) rfl)) rfl ?_
      refine rg_sto (nw := [(103, .bx 52 ((ePn (ix n.points j))))]) rfl (og rfl (of_eff (s_store rfl rfl ti52 rfl rfl rfl rfl rfl rfl) rfl)) ?_
      refine rg_done rfl ?_
      refine a_region ?_
      refine rg_put (d := 24) (v := .ow 102) rfl (og rfl (op_move rfl rfl rfl)) ?_
      refine rg_put (d := 25) (v := .pt 103 0) rfl (og rfl (of_eff (s_field_pt rfl Try.underlying52 rfl ti9 rfl rfl rfl) rfl)) ?_
      refine rg_put (d := 26) (v := .d (.fl (.string ((ix n.points j).name)))) rfl (og rfl (op_load_pt rfl Try.underlying9 rfl rfl rfl rfl rfl)) ?_
      rcases fot (seenP n.points j) with h6 | h6
      · skip
        refine rg_sto (nw := [(102, .mp ((setP (ded n.points j)) ++ [((.string ((ix n.points j).name)), .fl (.bool true))]))]) rfl (og rfl (op_mapPush rfl rfl Try.underlying53 Try.underlying9 rfl rfl rfl rfl ((find_P (by omega) _).trans (by rw [show (List.any _ _) = _ from h6]; rfl)) rfl)) ?_
        refine rg_done rfl ?_
        show A _ _ _ _ _ _ _
        refine a_region ?_
        refine rg_put (d := 27) (v := .d (.fl (.int .i64 (((j : Int) + 1))))) rfl (og rfl (op_bin rfl rfl rfl (fun x y w => b_add64 _ _ _ x y w (by omega)) rfl)) ?_
        refine rg_put (d := 20) (v := .d (.fl (.int .i64 (((j : Int) + 1))))) rfl (og rfl (op_move rfl rfl rfl)) ?_
        refine rg_done rfl ?_
        show ∃ i, _ ∧ _ ∧ Imp _ _ _ _ _
        refine ⟨j + 1, (by omega), by omega, imp_forget rfl ⟨rfl, rfl, rfl, rfl, rfl, rfl, rfl, rfl, (by first | rfl | exact ci (by omega) | exact ci (by simp) | exact cd (by simp) | simp), trivial⟩ ⟨rfl, (congrArg Ob.mp (ded_no h6)), trivial⟩⟩
      · skip
        refine rg_sto (nw := [(102, .mp ((setP (ded n.points j))))]) rfl (og rfl (op_mapSameS rfl rfl Try.underlying53 Try.underlying9 rfl rfl rfl rfl ((find_P (by omega) _).trans (by rw [show (List.any _ _) = _ from h6]; rfl)) rfl)) ?_
        refine rg_done rfl ?_
        show A _ _ _ _ _ _ _
        refine a_region ?_
        refine rg_put (d := 27) (v := .d (.fl (.int .i64 (((j : Int) + 1))))) rfl (og rfl (op_bin rfl rfl rfl (fun x y w => b_add64 _ _ _ x y w (by omega)) rfl)) ?_
        refine rg_put (d := 20) (v := .d (.fl (.int .i64 (((j : Int) + 1))))) rfl (og rfl (op_move rfl rfl rfl)) ?_
        refine rg_done rfl ?_
        show ∃ i, _ ∧ _ ∧ Imp _ _ _ _ _
        refine ⟨j + 1, (by omega), by omega, imp_forget rfl ⟨rfl, rfl, rfl, rfl, rfl, rfl, rfl, rfl, (by first | rfl | exact ci (by omega) | exact ci (by simp) | exact cd (by simp) | simp), trivial⟩ ⟨rfl, (congrArg Ob.mp (ded_yes h6)), trivial⟩⟩
    · skip
      have h7 := f_dec h4
      refine a_exit ?_
      show A _ _ _ _ _ _ _
      refine a_rseq ?_
      rw [show (setP (ded n.points j)) = (setP (ded n.points n.points.length)) from by rw [show j = n.points.length by omega]]
      refine rg_nam (d := 28) (v := .ow 104) (m := 104) (nw := [(104, .mp [])]) rfl (og rfl (op_makeMap 104 rfl rfl)) rfl ?_
      refine rg_put (d := 8) (v := .ow 104) rfl (og rfl (op_assign rfl rfl rfl)) ?_
      refine rg_done rfl ?_
      refine a_seq ?_
      refine a_rseq ?_
      refine rg_put (d := 29) (v := .d (.sl 6 (List.map eDc l))) rfl (og rfl (op_move rfl rfl rfl)) ?_
      refine rg_put (d := 30) (v := .d (.fl (.int .i64 (l.length : Int)))) rfl (og rfl (s_len rfl Try.underlying22 rfl rfl)) ?_
      refine rg_put (d := 31) (v := .d (.fl (.int .i64 0))) rfl (og rfl (op_move rfl rfl rfl)) ?_
      refine rg_done rfl ?_
      refine a_block ?_
      refine a_loop (ι := Nat) (fun k => SS [(0, .d (.sl 6 (List.map eDc l))), (1, .d (.ag (eNw n))), (3, .pt 101 0), (5, .ow 102), (8, .ow 104), (15, .d (.fl (.bool ((decide (1024 < (l.length : Int))))))), (18, .d (.sl 3 (List.map ePn n.points))), (19, .d (.fl (.int .i64 (n.points.length : Int)))), (20, .d (.fl (.int .i64 (j : Int)))), (21, .d (.fl (.bool ((decide ((j : Int) < (n.points.length : Int))))))), (29, .d (.sl 6 (List.map eDc l))), (30, .d (.fl (.int .i64 (l.length : Int)))), (31, .d (.fl (.int .i64 (k : Int))))] [(101, .bx 26 (eNw n)), (102, .mp ((setP (ded n.points n.points.length)))), (104, .mp ((setD (l.take k))))]) (fun k => k ≤ l.length ∧ dvE n l = fe (dv1 n l) k (l.length - k)) (fun k => l.length - k) 0 (⟨by omega, dvE_go n l⟩) (imp_forget rfl ⟨rfl, rfl, rfl, rfl, rfl, rfl, rfl, rfl, rfl, rfl, rfl, rfl, (by first | rfl | exact ci (by omega) | exact ci (by simp) | exact cd (by simp) | simp), trivial⟩ ⟨rfl, rfl, rfl, trivial⟩) (fun k hok => ?_)
      obtain ⟨hk, hc⟩ := hok
      refine a_rseq ?_
      refine rg_put (d := 32) (v := .d (.fl (.bool ((decide ((k : Int) < (l.length : Int))))))) rfl (og rfl (op_bin rfl rfl rfl (b_lss _ _ _ _) rfl)) ?_
      refine rg_done rfl ?_
      refine a_seq ?_
      refine a_cond rfl (fun h8 => ?_) (fun h8 => ?_)
      · skip
        have h9 := t_dec h8
        refine a_skip ?_
        show A _ _ _ _ _ _ _
        refine a_seq ?_
        refine a_block ?_
        refine a_rseq ?_
        refine rg_put (d := 33) (v := .el ((eDc (ix l k)))) rfl (og rfl (s_index rfl Try.underlying22 ti36 rfl rfl (by omega) (row_at (by omega)) rfl)) ?_
        refine rg_put (d := 34) (v := .d (.ag (eDc (ix l k)))) rfl (og rfl (of_eff (s_load_els rfl Try.underlying36 rfl ti36 rfl rfl rfl) rfl)) ?_
        refine rg_nam (d := 10) (v := .pt 105 0) (m := 105) (nw := [(105, .bx 36 ([.fl (.string (⟨#[]⟩)), .fl (.string (⟨#[]⟩)), .fl (.int .i64 0), .fl (.int .i64 0), .fl (.slice none 0 0), .fl (.slice none 0 0)]))]) rfl (og rfl (of_eff (s_alloc 105 rfl ti36 (by kernel_rfl) rfl) rfl)) rfl ?_
        refine rg_sto (nw := [(105, .bx 36 ((eDc (ix l k))))]) rfl (og rfl (of_eff (s_store rfl rfl ti36 rfl rfl rfl rfl rfl rfl) rfl)) ?_
        refine rg_done rfl ?_
        refine a_seq ?_
        refine a_block ?_
        refine a_rseq ?_
        refine rg_put (d := 36) (v := .pt 105 0) rfl (og rfl (of_eff (s_field_pt rfl Try.underlying36 rfl ti9 rfl rfl rfl) rfl)) ?_
        refine rg_put (d := 37) (v := .d (.fl (.string ((ix l k).name)))) rfl (og rfl (op_load_pt rfl Try.underlying9 rfl rfl rfl rfl rfl)) ?_
        refine rg_put (d := 38) (v := .d (.fl (.bool ((isN ((ix l k).name)))))) rfl (og rfl (op_call rfl Try.func18 nm18 rfl (.cons rfl (.d _) .nil) (ret_name ((ix l k).name)) rfl)) ?_
        refine rg_put (d := 39) (v := .d (.fl (.bool ((!((isN ((ix l k).name)))))))) rfl (og rfl (op_un rfl rfl (u_not _) rfl)) ?_
        refine rg_put (d := 35) (v := .d (.fl (.bool ((!((isN ((ix l k).name)))))))) rfl (og rfl (op_assign rfl rfl rfl)) ?_
        refine rg_done rfl ?_
        refine a_cond rfl (fun h10 => ?_) (fun h10 => ?_)
        · skip
          have h11 := t_not h10
          refine a_rseq ?_
          refine rg_put (d := 4) (v := .d (.fl (.int .i64 6))) rfl (og rfl (op_assign rfl rfl rfl)) ?_
          refine rg_done rfl ?_
          refine a_ret ?_
          show ∃ ds, ResL _ _ _ ds ∧ RV.of ds = _
          refine ⟨[.fl (.int .i64 6)], (.cons (.tmp rfl (.d _)) .nil), ?_⟩
          have hb := dv_nm (n := n) h11
          rw [chk_all h1, fe_yes (by omega) hc hb (by decide)]; rfl
        · skip
          have h12 := f_not h10
          refine a_rseq ?_
          refine rg_put (d := 41) (v := .ow 104) rfl (og rfl (op_move rfl rfl rfl)) ?_
          refine rg_put (d := 42) (v := .pt 105 0) rfl (og rfl (of_eff (s_field_pt rfl Try.underlying36 rfl ti9 rfl rfl rfl) rfl)) ?_
          refine rg_put (d := 43) (v := .d (.fl (.string ((ix l k).name)))) rfl (og rfl (op_load_pt rfl Try.underlying9 rfl rfl rfl rfl rfl)) ?_
          rcases fot ((dup (l.take k) (ix l k).name)) with h13 | h13
          · skip
            refine rg_put (d := 44) (v := .d (.fl (.bool false))) rfl (og rfl (op_lookup1 rfl Try.underlying53 Try.underlying9 rfl ti4 rfl rfl (.ow rfl) rfl (r := none) ((mfind_set Dc.name _ _).trans (by rw [show (List.any _ _) = _ from h13]; rfl)) rfl rfl)) ?_
            refine rg_put (d := 40) (v := .d (.fl (.bool false))) rfl (og rfl (op_assign rfl rfl rfl)) ?_
            refine rg_done rfl ?_
            refine a_condF rfl rfl ?_
            refine a_rseq ?_
            refine rg_put (d := 46) (v := .ow 102) rfl (og rfl (op_move rfl rfl rfl)) ?_
            refine rg_put (d := 47) (v := .pt 105 1) rfl (og rfl (of_eff (s_field_pt rfl Try.underlying36 rfl ti9 rfl rfl rfl) rfl)) ?_
            refine rg_put (d := 48) (v := .d (.fl (.string ((ix l k).point)))) rfl (og rfl (op_load_pt rfl Try.underlying9 rfl rfl rfl rfl rfl)) ?_
            rcases fot ((hasP n (ix l k).point)) with h14 | h14
            · skip
              refine rg_put (d := 49) (v := .d (.fl (.bool false))) rfl (og rfl (op_lookup1 rfl Try.underlying53 Try.underlying9 rfl ti4 rfl rfl (.ow rfl) rfl (r := none) ((find_P (Nat.le_refl _) _).trans (by rw [show (List.any _ _) = _ from ((hasP_take n _).trans h14)]; rfl)) rfl rfl)) ?_
              refine rg_put (d := 50) (v := .d (.fl (.bool (!false)))) rfl (og rfl (op_un rfl rfl (u_not _) rfl)) ?_
              refine rg_put (d := 45) (v := .d (.fl (.bool (!false)))) rfl (og rfl (op_assign rfl rfl rfl)) ?_
              refine rg_done rfl ?_
              refine a_condK rfl rfl ?_
              refine a_rseq ?_
              refine rg_put (d := 4) (v := .d (.fl (.int .i64 16))) rfl (og rfl (op_assign rfl rfl rfl)) ?_
              refine rg_done rfl ?_
              refine a_ret ?_
              show ∃ ds, ResL _ _ _ ds ∧ RV.of ds = _
              refine ⟨[.fl (.int .i64 16)], (.cons (.tmp rfl (.d _)) .nil), ?_⟩
              have hb := (dv_one (n := n) h12 h13).trans (one_pt h14)
              rw [chk_all h1, fe_yes (by omega) hc hb (by decide)]; rfl
            · skip
              refine rg_put (d := 49) (v := .d (.fl (.bool true))) rfl (og rfl (op_lookup1 rfl Try.underlying53 Try.underlying9 rfl ti4 rfl rfl (.ow rfl) rfl (r := (some (.fl (.bool true)))) ((find_P (Nat.le_refl _) _).trans (by rw [show (List.any _ _) = _ from ((hasP_take n _).trans h14)]; rfl)) rfl rfl)) ?_
              refine rg_put (d := 50) (v := .d (.fl (.bool (!true)))) rfl (og rfl (op_un rfl rfl (u_not _) rfl)) ?_
              refine rg_put (d := 45) (v := .d (.fl (.bool (!true)))) rfl (og rfl (op_assign rfl rfl rfl)) ?_
              refine rg_done rfl ?_
              refine a_condF rfl rfl ?_
              refine a_rseq ?_
              refine rg_put (d := 52) (v := .pt 105 2) rfl (og rfl (of_eff (s_field_pt rfl Try.underlying36 rfl ti3 rfl rfl rfl) rfl)) ?_
              refine rg_put (d := 53) (v := .d (.fl (.int .i64 ((ix l k).kind)))) rfl (og rfl (op_load_pt rfl Try.underlying3 rfl rfl rfl rfl rfl)) ?_
              refine rg_put (d := 54) (v := .d (.fl (.bool ((decide ((ix l k).kind < 1)))))) rfl (og rfl (op_bin rfl rfl rfl (b_lss _ _ _ _) rfl)) ?_
              refine rg_put (d := 55) (v := .d (.fl (.bool ((decide ((ix l k).kind < 1)))))) rfl (og rfl (op_move rfl rfl rfl)) ?_
              rcases fot ((decide ((ix l k).kind < 1))) with h15 | h15
              · skip
                have h16 := f_dec h15
                refine rg_put (d := 56) (v := .pt 105 2) rfl (oy rfl rfl rfl h15 (of_eff (s_field_pt rfl Try.underlying36 rfl ti3 rfl rfl rfl) rfl)) ?_
                refine rg_put (d := 57) (v := .d (.fl (.int .i64 ((ix l k).kind)))) rfl (oy rfl rfl rfl h15 (op_load_pt rfl Try.underlying3 rfl rfl rfl rfl rfl)) ?_
                refine rg_put (d := 58) (v := .d (.fl (.bool ((decide (3 < (ix l k).kind)))))) rfl (oy rfl rfl rfl h15 (op_bin rfl rfl rfl (b_gtr _ _ _ _) rfl)) ?_
                refine rg_put (d := 59) (v := .d (.fl (.bool ((decide (3 < (ix l k).kind)))))) rfl (og rfl (op_pick rfl rfl (by rw [h15]; rfl) rfl)) ?_
                refine rg_put (d := 60) (v := .d (.fl (.bool ((decide (3 < (ix l k).kind)))))) rfl (og rfl (op_move rfl rfl rfl)) ?_
                rcases fot ((decide (3 < (ix l k).kind))) with h17 | h17
                · skip
                  have h18 := f_dec h17
                  refine rg_put (d := 61) (v := .pt 105 3) rfl (oy rfl rfl rfl h17 (of_eff (s_field_pt rfl Try.underlying36 rfl ti3 rfl rfl rfl) rfl)) ?_
                  refine rg_put (d := 62) (v := .d (.fl (.int .i64 ((ix l k).lane)))) rfl (oy rfl rfl rfl h17 (op_load_pt rfl Try.underlying3 rfl rfl rfl rfl rfl)) ?_
                  refine rg_put (d := 63) (v := .d (.fl (.bool ((decide ((ix l k).lane < 0)))))) rfl (oy rfl rfl rfl h17 (op_bin rfl rfl rfl (b_lss _ _ _ _) rfl)) ?_
                  refine rg_put (d := 64) (v := .d (.fl (.bool ((decide ((ix l k).lane < 0)))))) rfl (og rfl (op_pick rfl rfl (by rw [h17]; rfl) rfl)) ?_
                  refine rg_put (d := 65) (v := .d (.fl (.bool ((decide ((ix l k).lane < 0)))))) rfl (og rfl (op_move rfl rfl rfl)) ?_
                  rcases fot ((decide ((ix l k).lane < 0))) with h19 | h19
                  · skip
                    have h20 := f_dec h19
                    refine rg_put (d := 66) (v := .pt 105 3) rfl (oy rfl rfl rfl h19 (of_eff (s_field_pt rfl Try.underlying36 rfl ti3 rfl rfl rfl) rfl)) ?_
                    refine rg_put (d := 67) (v := .d (.fl (.int .i64 ((ix l k).lane)))) rfl (oy rfl rfl rfl h19 (op_load_pt rfl Try.underlying3 rfl rfl rfl rfl rfl)) ?_
                    refine rg_put (d := 68) (v := .d (.fl (.bool ((decide (15 < (ix l k).lane)))))) rfl (oy rfl rfl rfl h19 (op_bin rfl rfl rfl (b_gtr _ _ _ _) rfl)) ?_
                    refine rg_put (d := 69) (v := .d (.fl (.bool ((decide (15 < (ix l k).lane)))))) rfl (og rfl (op_pick rfl rfl (by rw [h19]; rfl) rfl)) ?_
                    refine rg_put (d := 51) (v := .d (.fl (.bool ((decide (15 < (ix l k).lane)))))) rfl (og rfl (op_assign rfl rfl rfl)) ?_
                    refine rg_done rfl ?_
                    refine a_cond rfl (fun h21 => ?_) (fun h21 => ?_)
                    · skip
                      have h22 := t_dec h21
                      refine a_rseq ?_
                      refine rg_put (d := 4) (v := .d (.fl (.int .i64 1))) rfl (og rfl (op_assign rfl rfl rfl)) ?_
                      refine rg_done rfl ?_
                      refine a_ret ?_
                      show ∃ ds, ResL _ _ _ ds ∧ RV.of ds = _
                      refine ⟨[.fl (.int .i64 1)], (.cons (.tmp rfl (.d _)) .nil), ?_⟩
                      have hkd : kdB (ix l k) = true := by unfold kdB; simp only [h1, h4, h8, h10, h12, h13, h14, h15, h17, h19, h21, Bool.true_and, Bool.false_and, Bool.and_true, Bool.and_false, Bool.true_or, Bool.false_or, Bool.or_true, Bool.or_false] <;> rfl
                      have hb := (dv_one (n := n) h12 h13).trans (one_kd h14 hkd)
                      rw [chk_all h1, fe_yes (by omega) hc hb (by decide)]; rfl
                    · skip
                      have h23 := f_dec h21
                      refine a_skip ?_
                      show A _ _ _ _ _ _ _
                      refine a_rseq ?_
                      refine rg_put (d := 70) (v := .ow 104) rfl (og rfl (op_move rfl rfl rfl)) ?_
                      refine rg_put (d := 71) (v := .pt 105 0) rfl (og rfl (of_eff (s_field_pt rfl Try.underlying36 rfl ti9 rfl rfl rfl) rfl)) ?_
                      refine rg_put (d := 72) (v := .d (.fl (.string ((ix l k).name)))) rfl (og rfl (op_load_pt rfl Try.underlying9 rfl rfl rfl rfl rfl)) ?_
                      refine rg_sto (nw := [(104, .mp ((setD (l.take k)) ++ [((.string ((ix l k).name)), .fl (.bool true))]))]) rfl (og rfl (op_mapPush rfl rfl Try.underlying53 Try.underlying9 rfl rfl rfl rfl ((mfind_set Dc.name _ _).trans (by rw [show (List.any _ _) = _ from h13]; rfl)) rfl)) ?_
                      refine rg_done rfl ?_
                      refine a_seq ?_
                      refine a_rseq ?_
                      refine rg_put (d := 73) (v := .pt 105 4) rfl (og rfl (of_eff (s_field_pt rfl Try.underlying36 rfl ti33 rfl rfl rfl) rfl)) ?_
                      refine rg_put (d := 74) (v := .d (.sl 2 (List.map eOf ((ix l k).offs)))) rfl (og rfl (op_load_pt rfl Try.underlying33 rfl rfl rfl rfl rfl)) ?_
                      refine rg_put (d := 75) (v := .d (.fl (.int .i64 ((ofE ((ix l k).offs)))))) rfl (og rfl (op_call rfl Try.func19 nm19 rfl (.cons rfl (.d _) .nil) (ofE19 ((ix l k).offs) (by have := hz k (by omega); omega)) rfl)) ?_
                      refine rg_put (d := 11) (v := .d (.fl (.int .i64 ((ofE ((ix l k).offs)))))) rfl (og rfl (op_assign rfl rfl rfl)) ?_
                      refine rg_done rfl ?_
                      refine a_rseq ?_
                      refine rg_put (d := 76) (v := .d (.fl (.int .i64 ((ofE ((ix l k).offs)))))) rfl (og rfl (op_move rfl rfl rfl)) ?_
                      refine rg_put (d := 77) (v := .d (.fl (.bool (((ofE ((ix l k).offs)) != 0))))) rfl (og rfl (op_bin rfl rfl rfl (b_neq _ _ _ _) rfl)) ?_
                      refine rg_done rfl ?_
                      refine a_cond rfl (fun h24 => ?_) (fun h24 => ?_)
                      · skip
                        have h25 := t_bne h24
                        refine a_rseq ?_
                        refine rg_put (d := 78) (v := .d (.fl (.int .i64 ((ofE ((ix l k).offs)))))) rfl (og rfl (op_move rfl rfl rfl)) ?_
                        refine rg_put (d := 4) (v := .d (.fl (.int .i64 ((ofE ((ix l k).offs)))))) rfl (og rfl (op_assign rfl rfl rfl)) ?_
                        refine rg_done rfl ?_
                        refine a_ret ?_
                        show ∃ ds, ResL _ _ _ ds ∧ RV.of ds = _
                        refine ⟨[.fl (.int .i64 ((ofE ((ix l k).offs))))], (.cons (.tmp rfl (.d _)) .nil), ?_⟩
                        have hkd : kdB (ix l k) = false := by unfold kdB; simp only [h1, h4, h8, h10, h12, h13, h14, h15, h17, h19, h21, h24, Bool.true_and, Bool.false_and, Bool.and_true, Bool.and_false, Bool.true_or, Bool.false_or, Bool.or_true, Bool.or_false] <;> rfl
                        have hb := (dv_one (n := n) h12 h13).trans (one_of h14 hkd rfl (t_bne h24))
                        rw [chk_all h1, fe_yes (by omega) hc hb (t_bne h24)]; rfl
                      · skip
                        have h26 := f_bne h24
                        refine a_skip ?_
                        show A _ _ _ _ _ _ _
                        refine a_rseq ?_
                        refine rg_put (d := 79) (v := .pt 105 5) rfl (og rfl (of_eff (s_field_pt rfl Try.underlying36 rfl ti34 rfl rfl rfl) rfl)) ?_
                        refine rg_put (d := 80) (v := .d (.sl 2 (List.map eIv ((ix l k).down)))) rfl (og rfl (op_load_pt rfl Try.underlying34 rfl rfl rfl rfl rfl)) ?_
                        refine rg_put (d := 81) (v := .d (.fl (.int .i64 ((ivE ((ix l k).down)))))) rfl (og rfl (op_call rfl Try.func20 nm20 rfl (.cons rfl (.d _) .nil) (ivE20 ((ix l k).down) (by have := hz k (by omega); omega)) rfl)) ?_
                        refine rg_put (d := 12) (v := .d (.fl (.int .i64 ((ivE ((ix l k).down)))))) rfl (og rfl (op_assign rfl rfl rfl)) ?_
                        refine rg_done rfl ?_
                        refine a_rseq ?_
                        refine rg_put (d := 82) (v := .d (.fl (.int .i64 ((ivE ((ix l k).down)))))) rfl (og rfl (op_move rfl rfl rfl)) ?_
                        refine rg_put (d := 83) (v := .d (.fl (.bool (((ivE ((ix l k).down)) != 0))))) rfl (og rfl (op_bin rfl rfl rfl (b_neq _ _ _ _) rfl)) ?_
                        refine rg_done rfl ?_
                        refine a_cond rfl (fun h27 => ?_) (fun h27 => ?_)
                        · skip
                          have h28 := t_bne h27
                          refine a_rseq ?_
                          refine rg_put (d := 84) (v := .d (.fl (.int .i64 ((ivE ((ix l k).down)))))) rfl (og rfl (op_move rfl rfl rfl)) ?_
                          refine rg_put (d := 4) (v := .d (.fl (.int .i64 ((ivE ((ix l k).down)))))) rfl (og rfl (op_assign rfl rfl rfl)) ?_
                          refine rg_done rfl ?_
                          refine a_ret ?_
                          show ∃ ds, ResL _ _ _ ds ∧ RV.of ds = _
                          refine ⟨[.fl (.int .i64 ((ivE ((ix l k).down))))], (.cons (.tmp rfl (.d _)) .nil), ?_⟩
                          have hkd : kdB (ix l k) = false := by unfold kdB; simp only [h1, h4, h8, h10, h12, h13, h14, h15, h17, h19, h21, h24, h27, Bool.true_and, Bool.false_and, Bool.and_true, Bool.and_false, Bool.true_or, Bool.false_or, Bool.or_true, Bool.or_false] <;> rfl
                          have hb := (dv_one (n := n) h12 h13).trans (one_iv h14 hkd (f_bne h24))
                          rw [chk_all h1, fe_yes (by omega) hc hb (t_bne h27)]; rfl
                        · skip
                          have h29 := f_bne h27
                          refine a_skip ?_
                          show A _ _ _ _ _ _ _
                          refine a_region ?_
                          refine rg_put (d := 85) (v := .d (.fl (.int .i64 (((k : Int) + 1))))) rfl (og rfl (op_bin rfl rfl rfl (fun x y w => b_add64 _ _ _ x y w (by omega)) rfl)) ?_
                          refine rg_put (d := 31) (v := .d (.fl (.int .i64 (((k : Int) + 1))))) rfl (og rfl (op_move rfl rfl rfl)) ?_
                          refine rg_done rfl ?_
                          have hkd : kdB (ix l k) = false := by unfold kdB; simp only [h1, h4, h8, h10, h12, h13, h14, h15, h17, h19, h21, h24, h27, Bool.true_and, Bool.false_and, Bool.and_true, Bool.and_false, Bool.true_or, Bool.false_or, Bool.or_true, Bool.or_false] <;> rfl
                          have hb : dv1 n l k = 0 := by rw [dv_one h12 h13, one_iv h14 hkd (f_bne h24)]; exact f_bne h27
                          show ∃ i, _ ∧ _ ∧ Imp _ _ _ _ _
                          refine ⟨k + 1, ⟨by omega, fe_no (by omega) hc hb⟩, by omega, imp_forget rfl ⟨rfl, rfl, rfl, rfl, rfl, rfl, rfl, rfl, rfl, rfl, rfl, rfl, (by first | rfl | exact ci (by omega) | exact ci (by simp) | exact cd (by simp) | simp), trivial⟩ ⟨rfl, rfl, (congrArg Ob.mp (setD_take (by omega))), trivial⟩⟩
                  · skip
                    have h30 := t_dec h19
                    refine rg_put (d := 66) (v := .d (.fl undef)) rfl (on rfl rfl rfl h19) ?_
                    refine rg_put (d := 67) (v := .d (.fl undef)) rfl (on rfl rfl rfl h19) ?_
                    refine rg_put (d := 68) (v := .d (.fl undef)) rfl (on rfl rfl rfl h19) ?_
                    refine rg_put (d := 69) (v := .d (.fl (.bool true))) rfl (og rfl (op_pick rfl rfl (by rw [h19]; rfl) rfl)) ?_
                    refine rg_put (d := 51) (v := .d (.fl (.bool true))) rfl (og rfl (op_assign rfl rfl rfl)) ?_
                    refine rg_done rfl ?_
                    refine a_condK rfl rfl ?_
                    refine a_rseq ?_
                    refine rg_put (d := 4) (v := .d (.fl (.int .i64 1))) rfl (og rfl (op_assign rfl rfl rfl)) ?_
                    refine rg_done rfl ?_
                    refine a_ret ?_
                    show ∃ ds, ResL _ _ _ ds ∧ RV.of ds = _
                    refine ⟨[.fl (.int .i64 1)], (.cons (.tmp rfl (.d _)) .nil), ?_⟩
                    have hkd : kdB (ix l k) = true := by unfold kdB; simp only [h1, h4, h8, h10, h12, h13, h14, h15, h17, h19, Bool.true_and, Bool.false_and, Bool.and_true, Bool.and_false, Bool.true_or, Bool.false_or, Bool.or_true, Bool.or_false] <;> rfl
                    have hb := (dv_one (n := n) h12 h13).trans (one_kd h14 hkd)
                    rw [chk_all h1, fe_yes (by omega) hc hb (by decide)]; rfl
                · skip
                  have h31 := t_dec h17
                  refine rg_put (d := 61) (v := .d (.fl undef)) rfl (on rfl rfl rfl h17) ?_
                  refine rg_put (d := 62) (v := .d (.fl undef)) rfl (on rfl rfl rfl h17) ?_
                  refine rg_put (d := 63) (v := .d (.fl undef)) rfl (on rfl rfl rfl h17) ?_
                  refine rg_put (d := 64) (v := .d (.fl (.bool true))) rfl (og rfl (op_pick rfl rfl (by rw [h17]; rfl) rfl)) ?_
                  refine rg_put (d := 65) (v := .d (.fl (.bool true))) rfl (og rfl (op_move rfl rfl rfl)) ?_
                  refine rg_put (d := 66) (v := .d (.fl undef)) rfl (on rfl rfl rfl rfl) ?_
                  refine rg_put (d := 67) (v := .d (.fl undef)) rfl (on rfl rfl rfl rfl) ?_
                  refine rg_put (d := 68) (v := .d (.fl undef)) rfl (on rfl rfl rfl rfl) ?_
                  refine rg_put (d := 69) (v := .d (.fl (.bool true))) rfl (og rfl (op_pick rfl rfl rfl rfl)) ?_
                  refine rg_put (d := 51) (v := .d (.fl (.bool true))) rfl (og rfl (op_assign rfl rfl rfl)) ?_
                  refine rg_done rfl ?_
                  refine a_condK rfl rfl ?_
                  refine a_rseq ?_
                  refine rg_put (d := 4) (v := .d (.fl (.int .i64 1))) rfl (og rfl (op_assign rfl rfl rfl)) ?_
                  refine rg_done rfl ?_
                  refine a_ret ?_
                  show ∃ ds, ResL _ _ _ ds ∧ RV.of ds = _
                  refine ⟨[.fl (.int .i64 1)], (.cons (.tmp rfl (.d _)) .nil), ?_⟩
                  have hkd : kdB (ix l k) = true := by unfold kdB; simp only [h1, h4, h8, h10, h12, h13, h14, h15, h17, Bool.true_and, Bool.false_and, Bool.and_true, Bool.and_false, Bool.true_or, Bool.false_or, Bool.or_true, Bool.or_false] <;> rfl
                  have hb := (dv_one (n := n) h12 h13).trans (one_kd h14 hkd)
                  rw [chk_all h1, fe_yes (by omega) hc hb (by decide)]; rfl
              · skip
                have h32 := t_dec h15
                refine rg_put (d := 56) (v := .d (.fl undef)) rfl (on rfl rfl rfl h15) ?_
                refine rg_put (d := 57) (v := .d (.fl undef)) rfl (on rfl rfl rfl h15) ?_
                refine rg_put (d := 58) (v := .d (.fl undef)) rfl (on rfl rfl rfl h15) ?_
                refine rg_put (d := 59) (v := .d (.fl (.bool true))) rfl (og rfl (op_pick rfl rfl (by rw [h15]; rfl) rfl)) ?_
                refine rg_put (d := 60) (v := .d (.fl (.bool true))) rfl (og rfl (op_move rfl rfl rfl)) ?_
                refine rg_put (d := 61) (v := .d (.fl undef)) rfl (on rfl rfl rfl rfl) ?_
                refine rg_put (d := 62) (v := .d (.fl undef)) rfl (on rfl rfl rfl rfl) ?_
                refine rg_put (d := 63) (v := .d (.fl undef)) rfl (on rfl rfl rfl rfl) ?_
                refine rg_put (d := 64) (v := .d (.fl (.bool true))) rfl (og rfl (op_pick rfl rfl rfl rfl)) ?_
                refine rg_put (d := 65) (v := .d (.fl (.bool true))) rfl (og rfl (op_move rfl rfl rfl)) ?_
                refine rg_put (d := 66) (v := .d (.fl undef)) rfl (on rfl rfl rfl rfl) ?_
                refine rg_put (d := 67) (v := .d (.fl undef)) rfl (on rfl rfl rfl rfl) ?_
                refine rg_put (d := 68) (v := .d (.fl undef)) rfl (on rfl rfl rfl rfl) ?_
                refine rg_put (d := 69) (v := .d (.fl (.bool true))) rfl (og rfl (op_pick rfl rfl rfl rfl)) ?_
                refine rg_put (d := 51) (v := .d (.fl (.bool true))) rfl (og rfl (op_assign rfl rfl rfl)) ?_
                refine rg_done rfl ?_
                refine a_condK rfl rfl ?_
                refine a_rseq ?_
                refine rg_put (d := 4) (v := .d (.fl (.int .i64 1))) rfl (og rfl (op_assign rfl rfl rfl)) ?_
                refine rg_done rfl ?_
                refine a_ret ?_
                show ∃ ds, ResL _ _ _ ds ∧ RV.of ds = _
                refine ⟨[.fl (.int .i64 1)], (.cons (.tmp rfl (.d _)) .nil), ?_⟩
                have hkd : kdB (ix l k) = true := by unfold kdB; simp only [h1, h4, h8, h10, h12, h13, h14, h15, Bool.true_and, Bool.false_and, Bool.and_true, Bool.and_false, Bool.true_or, Bool.false_or, Bool.or_true, Bool.or_false] <;> rfl
                have hb := (dv_one (n := n) h12 h13).trans (one_kd h14 hkd)
                rw [chk_all h1, fe_yes (by omega) hc hb (by decide)]; rfl
          · skip
            refine rg_put (d := 44) (v := .d (.fl (.bool true))) rfl (og rfl (op_lookup1 rfl Try.underlying53 Try.underlying9 rfl ti4 rfl rfl (.ow rfl) rfl (r := (some (.fl (.bool true)))) ((mfind_set Dc.name _ _).trans (by rw [show (List.any _ _) = _ from h13]; rfl)) rfl rfl)) ?_
            refine rg_put (d := 40) (v := .d (.fl (.bool true))) rfl (og rfl (op_assign rfl rfl rfl)) ?_
            refine rg_done rfl ?_
            refine a_condK rfl rfl ?_
            refine a_rseq ?_
            refine rg_put (d := 4) (v := .d (.fl (.int .i64 9))) rfl (og rfl (op_assign rfl rfl rfl)) ?_
            refine rg_done rfl ?_
            refine a_ret ?_
            show ∃ ds, ResL _ _ _ ds ∧ RV.of ds = _
            refine ⟨[.fl (.int .i64 9)], (.cons (.tmp rfl (.d _)) .nil), ?_⟩
            have hb := dv_dup (n := n) h12 h13
            rw [chk_all h1, fe_yes (by omega) hc hb (by decide)]; rfl
      · skip
        have h33 := f_dec h8
        refine a_exit ?_
        show A _ _ _ _ _ _ _
        refine a_rseq ?_
        refine rg_put (d := 4) (v := .d (.fl (.int .i64 0))) rfl (og rfl (op_assign rfl rfl rfl)) ?_
        refine rg_done rfl ?_
        refine a_ret ?_
        show ∃ ds, ResL _ _ _ ds ∧ RV.of ds = _
        refine ⟨[.fl (.int .i64 0)], (.cons (.tmp rfl (.d _)) .nil), ?_⟩
        rw [fe_end (by omega)] at hc
        rw [chk_all h1, hc]; rfl
set_option maxHeartbeats 4000000 in
set_option maxRecDepth 100000 in
theorem chkB9 (l : List Dc) (n : Nw) (hl : l.length ≤ 2000) (hn : n.points.length ≤ 1000) (hz : ∀ q, q < l.length → (ix l q).offs.length ≤ 1000 ∧ (ix l q).down.length ≤ 1000) : Ctr Try.prog 9 [.sl 6 (List.map eDc l), .ag (eNw n)] (.d (.fl (.int .i64 (chk n l)))) := by
  refine ctr (n := 49) (rs := #[.tmp 4]) (L := [(0, .d (.sl 6 (List.map eDc l))), (1, .d (.ag (eNw n)))]) Try.func9 rfl rfl rfl rfl rfl (fun w0 U0 => ?_)
  refine a_rseq ?_
  refine rg_nam (d := 3) (v := .pt 101 0) (m := 101) (nw := [(101, .bx 26 (eNw n))]) rfl (og rfl (of_eff (op_box 101 rfl rfl rfl rfl) rfl)) rfl ?_
  refine rg_put (d := 4) (v := .d (.fl (.int .i64 0))) rfl (og rfl (op_assign rfl rfl rfl)) ?_
  refine rg_done rfl ?_
  refine a_seq ?_
  refine a_rseq ?_
  refine rg_put (d := 8) (v := .d (.sl 6 (List.map eDc l))) rfl (og rfl (op_move rfl rfl rfl)) ?_
  refine rg_put (d := 9) (v := .d (.fl (.int .i64 (l.length : Int)))) rfl (og rfl (s_len rfl Try.underlying22 rfl rfl)) ?_
  refine rg_put (d := 10) (v := .d (.fl (.bool ((decide (1024 < (l.length : Int))))))) rfl (og rfl (op_bin rfl rfl rfl (b_gtr _ _ _ _) rfl)) ?_
  refine rg_done rfl ?_
  refine a_cond rfl (fun h1 => ?_) (fun h1 => ?_)
  · skip
    have h2 := t_dec h1
    refine a_rseq ?_
    refine rg_put (d := 4) (v := .d (.fl (.int .i64 3))) rfl (og rfl (op_assign rfl rfl rfl)) ?_
    refine rg_done rfl ?_
    refine a_ret ?_
    show ∃ ds, ResL _ _ _ ds ∧ RV.of ds = _
    refine ⟨[.fl (.int .i64 3)], (.cons (.tmp rfl (.d _)) .nil), ?_⟩
    rw [chk_lim h1]; rfl
  · skip
    have h3 := f_dec h1
    refine a_skip ?_
    show A _ _ _ _ _ _ _
    refine a_seq ?_
    refine a_rseq ?_
    refine rg_put (d := 5) (v := .d (.fl (.int .i64 0))) rfl (og rfl (op_assign rfl rfl rfl)) ?_
    refine rg_done rfl ?_
    refine a_block ?_
    refine a_loop (ι := Nat) (fun k => SS [(0, .d (.sl 6 (List.map eDc l))), (1, .d (.ag (eNw n))), (3, .pt 101 0), (10, .d (.fl (.bool ((decide (1024 < (l.length : Int))))))), (5, .d (.fl (.int .i64 (k : Int))))] [(101, .bx 26 (eNw n))]) (fun k => k ≤ l.length ∧ dvE n l = fe (dv1 n l) k (l.length - k)) (fun k => l.length - k) 0 (⟨by omega, dvE_go n l⟩) (imp_forget rfl ⟨rfl, rfl, rfl, rfl, (by first | rfl | exact ci (by omega) | exact ci (by simp) | exact cd (by simp) | simp), trivial⟩ ⟨rfl, trivial⟩) (fun k hok => ?_)
    obtain ⟨hk, hc⟩ := hok
    refine a_seq ?_
    refine a_rseq ?_
    refine rg_put (d := 11) (v := .d (.fl (.int .i64 (k : Int)))) rfl (og rfl (op_move rfl rfl rfl)) ?_
    refine rg_put (d := 12) (v := .d (.sl 6 (List.map eDc l))) rfl (og rfl (op_move rfl rfl rfl)) ?_
    refine rg_put (d := 13) (v := .d (.fl (.int .i64 (l.length : Int)))) rfl (og rfl (s_len rfl Try.underlying22 rfl rfl)) ?_
    refine rg_put (d := 14) (v := .d (.fl (.bool ((decide ((k : Int) < (l.length : Int))))))) rfl (og rfl (op_bin rfl rfl rfl (b_lss _ _ _ _) rfl)) ?_
    refine rg_done rfl ?_
    refine a_cond rfl (fun h4 => ?_) (fun h4 => ?_)
    · skip
      have h5 := t_dec h4
      refine a_skip ?_
      show A _ _ _ _ _ _ _
      refine a_seq ?_
      refine a_block ?_
      refine a_seq ?_
      refine a_rseq ?_
      refine rg_put (d := 17) (v := .d (.sl 6 (List.map eDc l))) rfl (og rfl (op_move rfl rfl rfl)) ?_
      refine rg_put (d := 18) (v := .d (.fl (.int .i64 (k : Int)))) rfl (og rfl (op_move rfl rfl rfl)) ?_
      refine rg_put (d := 19) (v := .el ((eDc (ix l k)))) rfl (og rfl (s_index rfl Try.underlying22 ti36 rfl rfl (by omega) (row_at (by omega)) rfl)) ?_
      refine rg_put (d := 20) (v := .el ((List.drop 0 ((eDc (ix l k)))))) rfl (og rfl (of_eff (s_field_el rfl Try.underlying36 rfl ti9 rfl rfl rfl) rfl)) ?_
      refine rg_put (d := 21) (v := .d (.fl (.string ((ix l k).name)))) rfl (og rfl (op_load_el rfl Try.underlying9 rfl rfl rfl rfl)) ?_
      refine rg_put (d := 22) (v := .d (.fl (.bool ((isN ((ix l k).name)))))) rfl (og rfl (op_call rfl Try.func21 nm21 rfl (.cons rfl (.d _) .nil) (ref_name ((ix l k).name)) rfl)) ?_
      refine rg_put (d := 23) (v := .d (.fl (.bool ((!((isN ((ix l k).name)))))))) rfl (og rfl (op_un rfl rfl (u_not _) rfl)) ?_
      refine rg_done rfl ?_
      refine a_cond rfl (fun h6 => ?_) (fun h6 => ?_)
      · skip
        have h7 := t_not h6
        refine a_rseq ?_
        refine rg_put (d := 4) (v := .d (.fl (.int .i64 6))) rfl (og rfl (op_assign rfl rfl rfl)) ?_
        refine rg_done rfl ?_
        refine a_ret ?_
        show ∃ ds, ResL _ _ _ ds ∧ RV.of ds = _
        refine ⟨[.fl (.int .i64 6)], (.cons (.tmp rfl (.d _)) .nil), ?_⟩
        have hb := dv_nm (n := n) h7
        rw [chk_all h1, fe_yes (by omega) hc hb (by decide)]; rfl
      · skip
        have h8 := f_not h6
        refine a_skip ?_
        show A _ _ _ _ _ _ _
        refine a_seq ?_
        refine a_rseq ?_
        refine rg_put (d := 6) (v := .d (.fl (.int .i64 0))) rfl (og rfl (op_assign rfl rfl rfl)) ?_
        refine rg_done rfl ?_
        refine a_block ?_
        refine a_loop (ι := Nat) (fun j => SS [(0, .d (.sl 6 (List.map eDc l))), (1, .d (.ag (eNw n))), (3, .pt 101 0), (5, .d (.fl (.int .i64 (k : Int)))), (10, .d (.fl (.bool ((decide (1024 < (l.length : Int))))))), (14, .d (.fl (.bool ((decide ((k : Int) < (l.length : Int))))))), (23, .d (.fl (.bool ((!((isN ((ix l k).name)))))))), (6, .d (.fl (.int .i64 (j : Int))))] [(101, .bx 26 (eNw n))]) (fun j => j ≤ k ∧ ∀ q, q < j → sEq (ix l q).name (ix l k).name = false) (fun j => k - j) 0 (⟨by omega, fun q h => by omega⟩) (imp_forget rfl ⟨rfl, rfl, rfl, rfl, rfl, rfl, rfl, (by first | rfl | exact ci (by omega) | exact ci (by simp) | exact cd (by simp) | simp), trivial⟩ ⟨rfl, trivial⟩) (fun j hok => ?_)
        obtain ⟨hj, hq⟩ := hok
        refine a_seq ?_
        refine a_rseq ?_
        refine rg_put (d := 24) (v := .d (.fl (.int .i64 (j : Int)))) rfl (og rfl (op_move rfl rfl rfl)) ?_
        refine rg_put (d := 25) (v := .d (.fl (.int .i64 (k : Int)))) rfl (og rfl (op_move rfl rfl rfl)) ?_
        refine rg_put (d := 26) (v := .d (.fl (.bool ((decide ((j : Int) < (k : Int))))))) rfl (og rfl (op_bin rfl rfl rfl (b_lss _ _ _ _) rfl)) ?_
        refine rg_done rfl ?_
        refine a_cond rfl (fun h9 => ?_) (fun h9 => ?_)
        · skip
          have h10 := t_dec h9
          refine a_skip ?_
          show A _ _ _ _ _ _ _
          refine a_seq ?_
          refine a_block ?_
          refine a_dseq (by kernel_rfl) ?_
          refine dr_put (d := 29) (v := .d (.sl 6 (List.map eDc l))) rfl (og rfl (op_move rfl rfl rfl)) ?_
          refine dr_put (d := 30) (v := .d (.fl (.int .i64 (j : Int)))) rfl (og rfl (op_move rfl rfl rfl)) ?_
          refine dr_put (d := 31) (v := .el ((eDc (ix l j)))) rfl (og rfl (s_index rfl Try.underlying22 ti36 rfl rfl (by omega) (row_at (by omega)) rfl)) ?_
          refine dr_put (d := 32) (v := .el ((List.drop 0 ((eDc (ix l j)))))) rfl (og rfl (of_eff (s_field_el rfl Try.underlying36 rfl ti9 rfl rfl rfl) rfl)) ?_
          refine dr_put (d := 33) (v := .d (.fl (.string ((ix l j).name)))) rfl (og rfl (op_load_el rfl Try.underlying9 rfl rfl rfl rfl)) ?_
          refine dr_put (d := 34) (v := .d (.sl 6 (List.map eDc l))) rfl (og rfl (op_move rfl rfl rfl)) ?_
          refine dr_put (d := 35) (v := .d (.fl (.int .i64 (k : Int)))) rfl (og rfl (op_move rfl rfl rfl)) ?_
          refine dr_put (d := 36) (v := .el ((eDc (ix l k)))) rfl (og rfl (s_index rfl Try.underlying22 ti36 rfl rfl (by omega) (row_at (by omega)) rfl)) ?_
          refine dr_put (d := 37) (v := .el ((List.drop 0 ((eDc (ix l k)))))) rfl (og rfl (of_eff (s_field_el rfl Try.underlying36 rfl ti9 rfl rfl rfl) rfl)) ?_
          refine dr_put (d := 38) (v := .d (.fl (.string ((ix l k).name)))) rfl (og rfl (op_load_el rfl Try.underlying9 rfl rfl rfl rfl)) ?_
          refine dr_put (d := 39) (v := .d (.fl (.bool ((sEq ((ix l j).name) ((ix l k).name)))))) rfl (og rfl (op_bin rfl rfl rfl (b_seq _ _ _) rfl)) ?_
          refine dr_done rfl (by kernel_rfl) (by kernel_rfl) ?_
          refine a_cond rfl (fun h11 => ?_) (fun h11 => ?_)
          · skip
            refine a_rseq ?_
            refine rg_put (d := 4) (v := .d (.fl (.int .i64 9))) rfl (og rfl (op_assign rfl rfl rfl)) ?_
            refine rg_done rfl ?_
            refine a_ret ?_
            show ∃ ds, ResL _ _ _ ds ∧ RV.of ds = _
            refine ⟨[.fl (.int .i64 9)], (.cons (.tmp rfl (.d _)) .nil), ?_⟩
            have hb := dv_dup (n := n) h8 (dup_yes (by omega) (by omega) h11)
            rw [chk_all h1, fe_yes (by omega) hc hb (by decide)]; rfl
          · skip
            refine a_skip ?_
            show A _ _ _ _ _ _ _
            refine a_region ?_
            refine rg_put (d := 27) (v := .d (.fl (.int .i64 (j : Int)))) rfl (og rfl (op_move rfl rfl rfl)) ?_
            refine rg_put (d := 28) (v := .d (.fl (.int .i64 (((j : Int) + 1))))) rfl (og rfl (op_bin rfl rfl rfl (fun x y w => b_add64 _ _ _ x y w (by omega)) rfl)) ?_
            refine rg_put (d := 6) (v := .d (.fl (.int .i64 (((j : Int) + 1))))) rfl (og rfl (op_assign rfl rfl rfl)) ?_
            refine rg_done rfl ?_
            have hx : sEq (ix l j).name (ix l k).name = false := h11
            show ∃ i, _ ∧ _ ∧ Imp _ _ _ _ _
            refine ⟨j + 1, ⟨by omega, fun q h => (Nat.lt_succ_iff_lt_or_eq.1 h).elim (hq q) (fun e => by rw [e]; exact hx)⟩, by omega, imp_forget rfl ⟨rfl, rfl, rfl, rfl, rfl, rfl, rfl, (by first | rfl | exact ci (by omega) | exact ci (by simp) | exact cd (by simp) | simp), trivial⟩ ⟨rfl, trivial⟩⟩
        · skip
          have h12 := f_dec h9
          refine a_exit ?_
          show A _ _ _ _ _ _ _
          refine a_dseq (by kernel_rfl) ?_
          have hdu : (dup (l.take k) (ix l k).name) = false := dup_no (by omega) (fun q h => hq q (by omega))
          refine dr_put (d := 40) (v := .d (.sl 6 (List.map eDc l))) rfl (og rfl (op_move rfl rfl rfl)) ?_
          refine dr_put (d := 41) (v := .d (.fl (.int .i64 (k : Int)))) rfl (og rfl (op_move rfl rfl rfl)) ?_
          refine dr_put (d := 42) (v := .el ((eDc (ix l k)))) rfl (og rfl (s_index rfl Try.underlying22 ti36 rfl rfl (by omega) (row_at (by omega)) rfl)) ?_
          refine dr_put (d := 43) (v := .d (.ag (eDc (ix l k)))) rfl (og rfl (of_eff (s_load_els rfl Try.underlying36 rfl ti36 rfl rfl rfl) rfl)) ?_
          refine dr_put (d := 44) (v := .d (.ag (eNw n))) rfl (og rfl (of_eff (s_load_pts rfl Try.underlying26 rfl ti26 rfl rfl rfl rfl) rfl)) ?_
          refine dr_put (d := 45) (v := .d (.fl (.int .i64 ((one n (ix l k)))))) rfl (og rfl (op_call rfl Try.func22 nm22 rfl (.cons rfl (.d _) (.cons rfl (.d _) .nil)) (one22 (ix l k) n hn (hz k (by omega)).1 (hz k (by omega)).2) rfl)) ?_
          refine dr_put (d := 7) (v := .d (.fl (.int .i64 ((one n (ix l k)))))) rfl (og rfl (op_assign rfl rfl rfl)) ?_
          refine dr_done rfl (by kernel_rfl) (by kernel_rfl) ?_
          refine a_rseq ?_
          refine rg_put (d := 46) (v := .d (.fl (.int .i64 ((one n (ix l k)))))) rfl (og rfl (op_move rfl rfl rfl)) ?_
          refine rg_put (d := 47) (v := .d (.fl (.bool (((one n (ix l k)) != 0))))) rfl (og rfl (op_bin rfl rfl rfl (b_neq _ _ _ _) rfl)) ?_
          refine rg_done rfl ?_
          refine a_cond rfl (fun h13 => ?_) (fun h13 => ?_)
          · skip
            have h14 := t_bne h13
            refine a_rseq ?_
            refine rg_put (d := 48) (v := .d (.fl (.int .i64 ((one n (ix l k)))))) rfl (og rfl (op_move rfl rfl rfl)) ?_
            refine rg_put (d := 4) (v := .d (.fl (.int .i64 ((one n (ix l k)))))) rfl (og rfl (op_assign rfl rfl rfl)) ?_
            refine rg_done rfl ?_
            refine a_ret ?_
            show ∃ ds, ResL _ _ _ ds ∧ RV.of ds = _
            refine ⟨[.fl (.int .i64 ((one n (ix l k))))], (.cons (.tmp rfl (.d _)) .nil), ?_⟩
            have hb := dv_one (n := n) h8 hdu
            rw [chk_all h1, fe_yes (by omega) hc hb (t_bne h13)]; rfl
          · skip
            have h15 := f_bne h13
            refine a_skip ?_
            show A _ _ _ _ _ _ _
            refine a_region ?_
            refine rg_put (d := 15) (v := .d (.fl (.int .i64 (k : Int)))) rfl (og rfl (op_move rfl rfl rfl)) ?_
            refine rg_put (d := 16) (v := .d (.fl (.int .i64 (((k : Int) + 1))))) rfl (og rfl (op_bin rfl rfl rfl (fun x y w => b_add64 _ _ _ x y w (by omega)) rfl)) ?_
            refine rg_put (d := 5) (v := .d (.fl (.int .i64 (((k : Int) + 1))))) rfl (og rfl (op_assign rfl rfl rfl)) ?_
            refine rg_done rfl ?_
            have hb : dv1 n l k = 0 := (dv_one h8 hdu).trans (f_bne h13)
            show ∃ i, _ ∧ _ ∧ Imp _ _ _ _ _
            refine ⟨k + 1, ⟨by omega, fe_no (by omega) hc hb⟩, by omega, imp_forget rfl ⟨rfl, rfl, rfl, rfl, (by first | rfl | exact ci (by omega) | exact ci (by simp) | exact cd (by simp) | simp), trivial⟩ ⟨rfl, trivial⟩⟩
    · skip
      have h16 := f_dec h4
      refine a_exit ?_
      show A _ _ _ _ _ _ _
      refine a_rseq ?_
      refine rg_put (d := 4) (v := .d (.fl (.int .i64 0))) rfl (og rfl (op_assign rfl rfl rfl)) ?_
      refine rg_done rfl ?_
      refine a_ret ?_
      show ∃ ds, ResL _ _ _ ds ∧ RV.of ds = _
      refine ⟨[.fl (.int .i64 0)], (.cons (.tmp rfl (.d _)) .nil), ?_⟩
      rw [fe_end (by omega)] at hc
      rw [chk_all h1, hc]; rfl
set_option maxHeartbeats 4000000 in
set_option maxRecDepth 100000 in
theorem grt6 (l : List Dc) : Ctr Try.prog 6 [.sl 6 (List.map eDc l)] (.d (.fl (.bool (grt l)))) := by
  refine ctr (n := 35) (rs := #[.tmp 2]) (L := [(0, .d (.sl 6 (List.map eDc l)))]) Try.func6 rfl rfl rfl rfl rfl (fun w0 U0 => ?_)
  refine a_rseq ?_
  refine rg_put (d := 2) (v := .d (.fl (.bool false))) rfl (og rfl (op_assign rfl rfl rfl)) ?_
  refine rg_done rfl ?_
  refine a_seq ?_
  refine a_rseq ?_
  refine rg_put (d := 6) (v := .d (.sl 6 (List.map eDc l))) rfl (og rfl (op_move rfl rfl rfl)) ?_
  refine rg_put (d := 7) (v := .d (.fl (.int .i64 (l.length : Int)))) rfl (og rfl (s_len rfl Try.underlying22 rfl rfl)) ?_
  refine rg_put (d := 8) (v := .d (.fl (.bool ((decide (1100 < (l.length : Int))))))) rfl (og rfl (op_bin rfl rfl rfl (b_gtr _ _ _ _) rfl)) ?_
  refine rg_done rfl ?_
  refine a_cond rfl (fun h1 => ?_) (fun h1 => ?_)
  · skip
    have h2 := t_dec h1
    refine a_rseq ?_
    refine rg_put (d := 2) (v := .d (.fl (.bool true))) rfl (og rfl (op_assign rfl rfl rfl)) ?_
    refine rg_done rfl ?_
    refine a_ret ?_
    show ∃ ds, ResL _ _ _ ds ∧ RV.of ds = _
    refine ⟨[.fl (.bool true)], (.cons (.tmp rfl (.d _)) .nil), ?_⟩
    rw [grt_lim h1]; rfl
  · skip
    have h3 := f_dec h1
    refine a_skip ?_
    show A _ _ _ _ _ _ _
    refine a_rseq ?_
    refine rg_put (d := 3) (v := .d (.fl (.int .i64 0))) rfl (og rfl (op_assign rfl rfl rfl)) ?_
    refine rg_done rfl ?_
    refine a_seq ?_
    refine a_rseq ?_
    refine rg_put (d := 9) (v := .d (.sl 6 (List.map eDc l))) rfl (og rfl (op_move rfl rfl rfl)) ?_
    refine rg_put (d := 10) (v := .d (.fl (.int .i64 (l.length : Int)))) rfl (og rfl (s_len rfl Try.underlying22 rfl rfl)) ?_
    refine rg_put (d := 11) (v := .d (.fl (.int .i64 0))) rfl (og rfl (op_move rfl rfl rfl)) ?_
    refine rg_done rfl ?_
    refine a_block ?_
    refine a_loop (ι := Nat) (fun k => SS [(0, .d (.sl 6 (List.map eDc l))), (8, .d (.fl (.bool ((decide (1100 < (l.length : Int))))))), (9, .d (.sl 6 (List.map eDc l))), (10, .d (.fl (.int .i64 (l.length : Int)))), (11, .d (.fl (.int .i64 (k : Int)))), (3, .d (.fl (.int .i64 (dn l k))))] []) (fun k => k ≤ l.length ∧ ∀ q, q < k → gk l q = false) (fun k => l.length - k) 0 (⟨by omega, fun q h => by omega⟩) (imp_forget rfl ⟨rfl, rfl, rfl, rfl, (by first | rfl | exact ci (by omega) | exact ci (by simp) | exact cd (by simp) | simp), rfl, trivial⟩ trivial) (fun k hok => ?_)
    obtain ⟨hk, hq⟩ := hok
    refine a_rseq ?_
    refine rg_put (d := 12) (v := .d (.fl (.bool ((decide ((k : Int) < (l.length : Int))))))) rfl (og rfl (op_bin rfl rfl rfl (b_lss _ _ _ _) rfl)) ?_
    refine rg_done rfl ?_
    refine a_seq ?_
    refine a_cond rfl (fun h4 => ?_) (fun h4 => ?_)
    · skip
      have h5 := t_dec h4
      refine a_skip ?_
      show A _ _ _ _ _ _ _
      refine a_seq ?_
      refine a_block ?_
      refine a_rseq ?_
      refine rg_put (d := 13) (v := .el ((eDc (ix l k)))) rfl (og rfl (s_index rfl Try.underlying22 ti36 rfl rfl (by omega) (row_at (by omega)) rfl)) ?_
      refine rg_put (d := 14) (v := .d (.ag (eDc (ix l k)))) rfl (og rfl (of_eff (s_load_els rfl Try.underlying36 rfl ti36 rfl rfl rfl) rfl)) ?_
      refine rg_nam (d := 5) (v := .pt 101 0) (m := 101) (nw := [(101, .bx 36 ([.fl (.string (⟨#[]⟩)), .fl (.string (⟨#[]⟩)), .fl (.int .i64 0), .fl (.int .i64 0), .fl (.slice none 0 0), .fl (.slice none 0 0)]))]) rfl (og rfl (of_eff (s_alloc 101 rfl ti36 (by kernel_rfl) rfl) rfl)) rfl ?_
      refine rg_sto (nw := [(101, .bx 36 ((eDc (ix l k))))]) rfl (og rfl (of_eff (s_store rfl rfl ti36 rfl rfl rfl rfl rfl rfl) rfl)) ?_
      refine rg_done rfl ?_
      refine a_rseq ?_
      refine rg_put (d := 15) (v := .d (.fl (.int .i64 (dn l k)))) rfl (og rfl (op_move rfl rfl rfl)) ?_
      refine rg_put (d := 16) (v := .pt 101 5) rfl (og rfl (of_eff (s_field_pt rfl Try.underlying36 rfl ti34 rfl rfl rfl) rfl)) ?_
      refine rg_put (d := 17) (v := .d (.sl 2 (List.map eIv ((ix l k).down)))) rfl (og rfl (op_load_pt rfl Try.underlying34 rfl rfl rfl rfl rfl)) ?_
      refine rg_put (d := 18) (v := .d (.fl (.int .i64 ((((ix l k).down).length : Int))))) rfl (og rfl (s_len rfl Try.underlying34 rfl rfl)) ?_
      refine rg_put (d := 19) (v := .d (.fl (.int .i64 ((IntKind.i64.wrap ((dn l k) + (((ix l k).down).length : Int))))))) rfl (og rfl (op_bin rfl rfl rfl (b_add _ _ _ _) rfl)) ?_
      refine rg_put (d := 3) (v := .d (.fl (.int .i64 ((IntKind.i64.wrap ((dn l k) + (((ix l k).down).length : Int))))))) rfl (og rfl (op_assign rfl rfl rfl)) ?_
      refine rg_done rfl ?_
      refine a_rseq ?_
      refine rg_put (d := 20) (v := .pt 101 4) rfl (og rfl (of_eff (s_field_pt rfl Try.underlying36 rfl ti33 rfl rfl rfl) rfl)) ?_
      refine rg_put (d := 21) (v := .d (.sl 2 (List.map eOf ((ix l k).offs)))) rfl (og rfl (op_load_pt rfl Try.underlying33 rfl rfl rfl rfl rfl)) ?_
      refine rg_put (d := 22) (v := .d (.fl (.int .i64 ((((ix l k).offs).length : Int))))) rfl (og rfl (s_len rfl Try.underlying33 rfl rfl)) ?_
      refine rg_put (d := 23) (v := .d (.fl (.bool ((decide (40 < (((ix l k).offs).length : Int))))))) rfl (og rfl (op_bin rfl rfl rfl (b_gtr _ _ _ _) rfl)) ?_
      refine rg_put (d := 24) (v := .d (.fl (.bool ((decide (40 < (((ix l k).offs).length : Int))))))) rfl (og rfl (op_move rfl rfl rfl)) ?_
      rcases fot ((decide (40 < (((ix l k).offs).length : Int)))) with h6 | h6
      · skip
        have h7 := f_dec h6
        refine rg_put (d := 25) (v := .pt 101 5) rfl (oy rfl rfl rfl h6 (of_eff (s_field_pt rfl Try.underlying36 rfl ti34 rfl rfl rfl) rfl)) ?_
        refine rg_put (d := 26) (v := .d (.sl 2 (List.map eIv ((ix l k).down)))) rfl (oy rfl rfl rfl h6 (op_load_pt rfl Try.underlying34 rfl rfl rfl rfl rfl)) ?_
        refine rg_put (d := 27) (v := .d (.fl (.int .i64 ((((ix l k).down).length : Int))))) rfl (oy rfl rfl rfl h6 (s_len rfl Try.underlying34 rfl rfl)) ?_
        refine rg_put (d := 28) (v := .d (.fl (.bool ((decide (40 < (((ix l k).down).length : Int))))))) rfl (oy rfl rfl rfl h6 (op_bin rfl rfl rfl (b_gtr _ _ _ _) rfl)) ?_
        refine rg_put (d := 29) (v := .d (.fl (.bool ((decide (40 < (((ix l k).down).length : Int))))))) rfl (og rfl (op_pick rfl rfl (by rw [h6]; rfl) rfl)) ?_
        refine rg_put (d := 30) (v := .d (.fl (.bool ((decide (40 < (((ix l k).down).length : Int))))))) rfl (og rfl (op_move rfl rfl rfl)) ?_
        rcases fot ((decide (40 < (((ix l k).down).length : Int)))) with h8 | h8
        · skip
          have h9 := f_dec h8
          refine rg_put (d := 31) (v := .d (.fl (.int .i64 ((IntKind.i64.wrap ((dn l k) + (((ix l k).down).length : Int))))))) rfl (oy rfl rfl rfl h8 (op_move rfl rfl rfl)) ?_
          refine rg_put (d := 32) (v := .d (.fl (.bool ((decide (400 < (IntKind.i64.wrap ((dn l k) + (((ix l k).down).length : Int))))))))) rfl (oy rfl rfl rfl h8 (op_bin rfl rfl rfl (b_gtr _ _ _ _) rfl)) ?_
          refine rg_put (d := 33) (v := .d (.fl (.bool ((decide (400 < (IntKind.i64.wrap ((dn l k) + (((ix l k).down).length : Int))))))))) rfl (og rfl (op_pick rfl rfl (by rw [h8]; rfl) rfl)) ?_
          refine rg_done rfl ?_
          refine a_cond rfl (fun h10 => ?_) (fun h10 => ?_)
          · skip
            have h11 := t_dec h10
            refine a_rseq ?_
            refine rg_put (d := 2) (v := .d (.fl (.bool true))) rfl (og rfl (op_assign rfl rfl rfl)) ?_
            refine rg_done rfl ?_
            refine a_ret ?_
            show ∃ ds, ResL _ _ _ ds ∧ RV.of ds = _
            refine ⟨[.fl (.bool true)], (.cons (.tmp rfl (.d _)) .nil), ?_⟩
            have hx : gk l k = true := by unfold gk; show (_ || decide (400 < IntKind.i64.wrap (dn l k + ((ix l k).down.length : Int)))) = true; simp only [h1, h4, h6, h8, h10, Bool.true_and, Bool.false_and, Bool.and_true, Bool.and_false, Bool.true_or, Bool.false_or, Bool.or_true, Bool.or_false] <;> rfl
            rw [grt_yes (by omega) hx]; rfl
          · skip
            have h12 := f_dec h10
            refine a_skip ?_
            show A _ _ _ _ _ _ _
            refine a_region ?_
            refine rg_put (d := 34) (v := .d (.fl (.int .i64 (((k : Int) + 1))))) rfl (og rfl (op_bin rfl rfl rfl (fun x y w => b_add64 _ _ _ x y w (by omega)) rfl)) ?_
            refine rg_put (d := 11) (v := .d (.fl (.int .i64 (((k : Int) + 1))))) rfl (og rfl (op_move rfl rfl rfl)) ?_
            refine rg_done rfl ?_
            have hx : gk l k = false := by unfold gk; show (_ || decide (400 < IntKind.i64.wrap (dn l k + ((ix l k).down.length : Int)))) = false; simp only [h1, h4, h6, h8, h10, Bool.true_and, Bool.false_and, Bool.and_true, Bool.and_false, Bool.true_or, Bool.false_or, Bool.or_true, Bool.or_false] <;> rfl
            show ∃ i, _ ∧ _ ∧ Imp _ _ _ _ _
            refine ⟨k + 1, ⟨by omega, fun q h => (Nat.lt_succ_iff_lt_or_eq.1 h).elim (hq q) (fun e => by rw [e]; exact hx)⟩, by omega, imp_forget rfl ⟨rfl, rfl, rfl, rfl, (by first | rfl | exact ci (by omega) | exact ci (by simp) | exact cd (by simp) | simp), rfl, trivial⟩ trivial⟩
        · skip
          have h13 := t_dec h8
          refine rg_put (d := 31) (v := .d (.fl undef)) rfl (on rfl rfl rfl h8) ?_
          refine rg_put (d := 32) (v := .d (.fl undef)) rfl (on rfl rfl rfl h8) ?_
          refine rg_put (d := 33) (v := .d (.fl (.bool true))) rfl (og rfl (op_pick rfl rfl (by rw [h8]; rfl) rfl)) ?_
          refine rg_done rfl ?_
          refine a_condK rfl rfl ?_
          refine a_rseq ?_
          refine rg_put (d := 2) (v := .d (.fl (.bool true))) rfl (og rfl (op_assign rfl rfl rfl)) ?_
          refine rg_done rfl ?_
          refine a_ret ?_
          show ∃ ds, ResL _ _ _ ds ∧ RV.of ds = _
          refine ⟨[.fl (.bool true)], (.cons (.tmp rfl (.d _)) .nil), ?_⟩
          have hx : gk l k = true := by unfold gk; show (_ || decide (400 < IntKind.i64.wrap (dn l k + ((ix l k).down.length : Int)))) = true; simp only [h1, h4, h6, h8, Bool.true_and, Bool.false_and, Bool.and_true, Bool.and_false, Bool.true_or, Bool.false_or, Bool.or_true, Bool.or_false] <;> rfl
          rw [grt_yes (by omega) hx]; rfl
      · skip
        have h14 := t_dec h6
        refine rg_put (d := 25) (v := .d (.fl undef)) rfl (on rfl rfl rfl h6) ?_
        refine rg_put (d := 26) (v := .d (.fl undef)) rfl (on rfl rfl rfl h6) ?_
        refine rg_put (d := 27) (v := .d (.fl undef)) rfl (on rfl rfl rfl h6) ?_
        refine rg_put (d := 28) (v := .d (.fl undef)) rfl (on rfl rfl rfl h6) ?_
        refine rg_put (d := 29) (v := .d (.fl (.bool true))) rfl (og rfl (op_pick rfl rfl (by rw [h6]; rfl) rfl)) ?_
        refine rg_put (d := 30) (v := .d (.fl (.bool true))) rfl (og rfl (op_move rfl rfl rfl)) ?_
        refine rg_put (d := 31) (v := .d (.fl undef)) rfl (on rfl rfl rfl rfl) ?_
        refine rg_put (d := 32) (v := .d (.fl undef)) rfl (on rfl rfl rfl rfl) ?_
        refine rg_put (d := 33) (v := .d (.fl (.bool true))) rfl (og rfl (op_pick rfl rfl rfl rfl)) ?_
        refine rg_done rfl ?_
        refine a_condK rfl rfl ?_
        refine a_rseq ?_
        refine rg_put (d := 2) (v := .d (.fl (.bool true))) rfl (og rfl (op_assign rfl rfl rfl)) ?_
        refine rg_done rfl ?_
        refine a_ret ?_
        show ∃ ds, ResL _ _ _ ds ∧ RV.of ds = _
        refine ⟨[.fl (.bool true)], (.cons (.tmp rfl (.d _)) .nil), ?_⟩
        have hx : gk l k = true := by unfold gk; show (_ || decide (400 < IntKind.i64.wrap (dn l k + ((ix l k).down.length : Int)))) = true; simp only [h1, h4, h6, Bool.true_and, Bool.false_and, Bool.and_true, Bool.and_false, Bool.true_or, Bool.false_or, Bool.or_true, Bool.or_false] <;> rfl
        rw [grt_yes (by omega) hx]; rfl
    · skip
      have h15 := f_dec h4
      refine a_exit ?_
      show A _ _ _ _ _ _ _
      refine a_rseq ?_
      refine rg_put (d := 2) (v := .d (.fl (.bool false))) rfl (og rfl (op_assign rfl rfl rfl)) ?_
      refine rg_done rfl ?_
      refine a_ret ?_
      show ∃ ds, ResL _ _ _ ds ∧ RV.of ds = _
      refine ⟨[.fl (.bool false)], (.cons (.tmp rfl (.d _)) .nil), ?_⟩
      rw [grt_no h1 (fun q h => hq q (by omega))]; rfl
set_option maxHeartbeats 4000000 in
set_option maxRecDepth 100000 in
theorem law3 (l : List Dc) (n : Nw) : Ctr Try.prog 3 [.sl 6 (List.map eDc l), .ag (eNw n)] (.d (.fl (.bool true))) := by
  refine ctr (n := 24) (rs := #[.tmp 4]) (L := [(0, .d (.sl 6 (List.map eDc l))), (1, .d (.ag (eNw n)))]) Try.func3 rfl rfl rfl rfl rfl (fun w0 U0 => ?_)
  refine a_rseq ?_
  refine rg_nam (d := 3) (v := .pt 101 0) (m := 101) (nw := [(101, .bx 26 (eNw n))]) rfl (og rfl (of_eff (op_box 101 rfl rfl rfl rfl) rfl)) rfl ?_
  refine rg_put (d := 4) (v := .d (.fl (.bool false))) rfl (og rfl (op_assign rfl rfl rfl)) ?_
  refine rg_done rfl ?_
  refine a_seq ?_
  refine a_rseq ?_
  refine rg_put (d := 5) (v := .d (.sl 6 (List.map eDc l))) rfl (og rfl (op_move rfl rfl rfl)) ?_
  refine rg_put (d := 6) (v := .d (.fl (.bool (grt l)))) rfl (og rfl (op_call rfl Try.func6 nm6 rfl (.cons rfl (.d _) .nil) (grt6 l) rfl)) ?_
  refine rg_put (d := 7) (v := .d (.fl (.bool (grt l)))) rfl (og rfl (op_move rfl rfl rfl)) ?_
  rcases fot (grt l) with h1 | h1
  · skip
    refine rg_put (d := 8) (v := .pt 101 0) rfl (oy rfl rfl rfl h1 (of_eff (s_field_pt rfl Try.underlying26 rfl ti23 rfl rfl rfl) rfl)) ?_
    refine rg_put (d := 9) (v := .d (.sl 3 (List.map ePn n.points))) rfl (oy rfl rfl rfl h1 (op_load_pt rfl Try.underlying23 rfl rfl rfl rfl rfl)) ?_
    refine rg_put (d := 10) (v := .d (.fl (.int .i64 (n.points.length : Int)))) rfl (oy rfl rfl rfl h1 (s_len rfl Try.underlying23 rfl rfl)) ?_
    refine rg_put (d := 11) (v := .d (.fl (.bool ((decide (200 < (n.points.length : Int))))))) rfl (oy rfl rfl rfl h1 (op_bin rfl rfl rfl (b_gtr _ _ _ _) rfl)) ?_
    refine rg_put (d := 12) (v := .d (.fl (.bool ((decide (200 < (n.points.length : Int))))))) rfl (og rfl (op_pick rfl rfl (by rw [h1]; rfl) rfl)) ?_
    refine rg_done rfl ?_
    refine a_cond rfl (fun h2 => ?_) (fun h2 => ?_)
    · skip
      have h3 := t_dec h2
      refine a_rseq ?_
      refine rg_put (d := 13) (v := .d (.fl (.bool true))) rfl (og rfl (op_call rfl Try.func7 nm7 rfl .nil awake7 rfl)) ?_
      refine rg_put (d := 4) (v := .d (.fl (.bool true))) rfl (og rfl (op_assign rfl rfl rfl)) ?_
      refine rg_done rfl ?_
      refine a_ret ?_
      show ∃ ds, ResL _ _ _ ds ∧ RV.of ds = _
      refine ⟨[.fl (.bool true)], (.cons (.tmp rfl (.d _)) .nil), ?_⟩
      rfl
    · skip
      have h4 := f_dec h2
      refine a_skip ?_
      show A _ _ _ _ _ _ _
      refine a_dseq (by kernel_rfl) ?_
      have hg := grt_len h1
      have hz := hg.2
      have hgl := hg.1
      refine dr_put (d := 14) (v := .d (.sl 6 (List.map eDc l))) rfl (og rfl (op_move rfl rfl rfl)) ?_
      refine dr_put (d := 15) (v := .d (.ag (eNw n))) rfl (og rfl (of_eff (s_load_pts rfl Try.underlying26 rfl ti26 rfl rfl rfl rfl) rfl)) ?_
      refine dr_put (d := 16) (v := .d (.fl (.int .i64 (chk n l)))) rfl (og rfl (op_call rfl Try.func8 nm8 rfl (.cons rfl (.d _) (.cons rfl (.d _) .nil)) (chkA8 l n (by omega) (by omega) hz) rfl)) ?_
      refine dr_put (d := 17) (v := .d (.sl 6 (List.map eDc l))) rfl (og rfl (op_move rfl rfl rfl)) ?_
      refine dr_put (d := 18) (v := .d (.ag (eNw n))) rfl (og rfl (of_eff (s_load_pts rfl Try.underlying26 rfl ti26 rfl rfl rfl rfl) rfl)) ?_
      refine dr_put (d := 19) (v := .d (.fl (.int .i64 (chk n l)))) rfl (og rfl (op_call rfl Try.func9 nm9 rfl (.cons rfl (.d _) (.cons rfl (.d _) .nil)) (chkB9 l n (by omega) (by omega) hz) rfl)) ?_
      refine dr_put (d := 20) (v := .d (.fl (.bool (((chk n l) == (chk n l)))))) rfl (og rfl (op_bin rfl rfl rfl (b_eql _ _ _ _) rfl)) ?_
      refine dr_put (d := 21) (v := .d (.fl (.bool (((chk n l) == (chk n l)))))) rfl (og rfl (op_move rfl rfl rfl)) ?_
      refine dr_put (d := 22) (v := .d (.fl (.bool true))) rfl (oy rfl rfl rfl (eq_self_b _) (op_call rfl Try.func7 nm7 rfl .nil awake7 rfl)) ?_
      refine dr_put (d := 23) (v := .d (.fl (.bool true))) rfl (og rfl (op_pick rfl rfl (by rw [(eq_self_b _)]; rfl) rfl)) ?_
      refine dr_put (d := 4) (v := .d (.fl (.bool true))) rfl (og rfl (op_assign rfl rfl rfl)) ?_
      refine dr_done rfl (by kernel_rfl) (by kernel_rfl) ?_
      refine a_ret ?_
      show ∃ ds, ResL _ _ _ ds ∧ RV.of ds = _
      refine ⟨[.fl (.bool true)], (.cons (.tmp rfl (.d _)) .nil), ?_⟩
      rfl
  · skip
    refine rg_put (d := 8) (v := .d (.fl undef)) rfl (on rfl rfl rfl h1) ?_
    refine rg_put (d := 9) (v := .d (.fl undef)) rfl (on rfl rfl rfl h1) ?_
    refine rg_put (d := 10) (v := .d (.fl undef)) rfl (on rfl rfl rfl h1) ?_
    refine rg_put (d := 11) (v := .d (.fl undef)) rfl (on rfl rfl rfl h1) ?_
    refine rg_put (d := 12) (v := .d (.fl (.bool true))) rfl (og rfl (op_pick rfl rfl (by rw [h1]; rfl) rfl)) ?_
    refine rg_done rfl ?_
    refine a_condK rfl rfl ?_
    refine a_rseq ?_
    refine rg_put (d := 13) (v := .d (.fl (.bool true))) rfl (og rfl (op_call rfl Try.func7 nm7 rfl .nil awake7 rfl)) ?_
    refine rg_put (d := 4) (v := .d (.fl (.bool true))) rfl (og rfl (op_assign rfl rfl rfl)) ?_
    refine rg_done rfl ?_
    refine a_ret ?_
    show ∃ ds, ResL _ _ _ ds ∧ RV.of ds = _
    refine ⟨[.fl (.bool true)], (.cons (.tmp rfl (.d _)) .nil), ?_⟩
    rfl
end Go.Proofs.Ytajhpdmbmipboaa.Wk
