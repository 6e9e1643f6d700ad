/- The check of a file, both sides. Condition: short keys. -/
import Derived.Test.YthfdopaefdmdiaaB1
set_option linter.unusedSimpArgs false
set_option linter.unusedVariables false
namespace Go.Proofs.Ythfdopaefdmdiaa.Wk
open Go Go.RowKit Go.Proofs.Ythfdopaefdmdiaa.Av
theorem namP (s : ByteArray) : Ctr Try.prog 27 [.fl (.string s)] (.d (.fl (.bool (Nm.nmB s)))) := ctr_flat [.string s] (fun w => Nw.name14 s w)
theorem namR (s : ByteArray) : Ctr Try.prog 28 [.fl (.string s)] (.d (.fl (.bool (Nm.nmB s)))) := ctr_flat [.string s] (fun w => Nw.name15 s w)

set_option maxHeartbeats 4000000 in
set_option maxRecDepth 100000 in
theorem fldP (s : ByteArray) (hs : s.size ≤ 1000000) : Ctr Try.prog 44 [.fl (.string s)] (.d (.fl (.bool (fldB s)))) := by
  refine ctr (n := 22) (rs := #[.tmp 2]) (L := [(0, .d (.fl (.string s)))]) Try.func44 rfl rfl rfl rfl rfl (fun w0 U0 => ?_)
  refine a_rseq ?_
  refine rg_put (d := 2) (v := .d (.fl (.bool false))) rfl (og rfl (op_assign rfl rfl rfl)) ?_
  refine rg_done rfl ?_
  refine a_seq ?_
  refine a_rseq ?_
  refine rg_put (d := 4) (v := .d (.fl (.string s))) rfl (og rfl (op_move rfl rfl rfl)) ?_
  refine rg_put (d := 5) (v := .d (.fl (.int .i64 (s.size : Int)))) rfl (og rfl (op_len_str rfl Try.underlying9 rfl rfl)) ?_
  refine rg_put (d := 6) (v := .d (.fl (.int .i64 0))) rfl (og rfl (op_move rfl rfl rfl)) ?_
  refine rg_done rfl ?_
  refine a_block ?_
  refine a_loop (ι := Nat) (fun k => SS [(0, .d (.fl (.string s))), (5, .d (.fl (.int .i64 (s.size : Int)))), (6, .d (.fl (.int .i64 (k : Int))))] []) (fun k => k ≤ s.size ∧ ∀ q, q < k → (cF ((bt s q).toNat : Int)) = true) (fun k => s.size - k) 0 (⟨by omega, fun q h => by omega⟩) (imp_forget rfl ⟨rfl, rfl, (by first | rfl | exact ci (by omega) | exact ci (by simp) | exact cd (by simp) | simp), trivial⟩ trivial) (fun k hok => ?_)
  obtain ⟨hkk, hq⟩ := hok
  refine a_rseq ?_
  refine rg_put (d := 7) (v := .d (.fl (.bool ((decide ((k : Int) < (s.size : Int))))))) rfl (og rfl (op_bin rfl rfl rfl (b_lss _ _ _ _) rfl)) ?_
  refine rg_done rfl ?_
  refine a_seq ?_
  refine a_cond rfl (fun h1 => ?_) (fun h1 => ?_)
  · skip
    have h2 := t_dec h1
    refine a_skip ?_
    show A _ _ _ _ _ _ _
    refine a_seq ?_
    refine a_block ?_
    refine a_rseq ?_
    refine rg_put (d := 8) (v := .d (.fl (.int .i64 (k : Int)))) rfl (og rfl (op_move rfl rfl rfl)) ?_
    refine rg_put (d := 3) (v := .d (.fl (.int .i64 (k : Int)))) rfl (og rfl (op_assign rfl rfl rfl)) ?_
    refine rg_done rfl ?_
    refine a_rseq ?_
    refine rg_put (d := 9) (v := .d (.fl (.string s))) rfl (og rfl (op_move rfl rfl rfl)) ?_
    refine rg_put (d := 10) (v := .d (.fl (.int .i64 (k : Int)))) rfl (og rfl (op_move rfl rfl rfl)) ?_
    refine rg_put (d := 11) (v := .d (.fl (.int .u8 (((bt s k).toNat : Int))))) rfl (og rfl (op_strindex rfl Try.underlying9 rfl rfl (by omega) (byte_ix (by omega)) rfl)) ?_
    refine rg_put (d := 12) (v := .d (.fl (.bool ((decide (((bt s k).toNat : Int) ≤ 32)))))) rfl (og rfl (op_bin rfl rfl rfl (b_leq _ _ _ _) rfl)) ?_
    refine rg_put (d := 13) (v := .d (.fl (.bool ((decide (((bt s k).toNat : Int) ≤ 32)))))) rfl (og rfl (op_move rfl rfl rfl)) ?_
    rcases fot ((decide (((bt s k).toNat : Int) ≤ 32))) with h3 | h3
    · skip
      have h4 := f_dec h3
      refine rg_put (d := 14) (v := .d (.fl (.string s))) rfl (oy rfl rfl rfl h3 (op_move rfl rfl rfl)) ?_
      refine rg_put (d := 15) (v := .d (.fl (.int .i64 (k : Int)))) rfl (oy rfl rfl rfl h3 (op_move rfl rfl rfl)) ?_
      refine rg_put (d := 16) (v := .d (.fl (.int .u8 (((bt s k).toNat : Int))))) rfl (oy rfl rfl rfl h3 (op_strindex rfl Try.underlying9 rfl rfl (by omega) (byte_ix (by omega)) rfl)) ?_
      refine rg_put (d := 17) (v := .d (.fl (.bool ((decide (126 < ((bt s k).toNat : Int))))))) rfl (oy rfl rfl rfl h3 (op_bin rfl rfl rfl (b_gtr _ _ _ _) rfl)) ?_
      refine rg_put (d := 18) (v := .d (.fl (.bool ((decide (126 < ((bt s k).toNat : Int))))))) rfl (og rfl (op_pick rfl rfl (by rw [h3]; rfl) rfl)) ?_
      refine rg_done rfl ?_
      refine a_cond rfl (fun h5 => ?_) (fun h5 => ?_)
      · skip
        have h6 := t_dec h5
        refine a_rseq ?_
        refine rg_put (d := 2) (v := .d (.fl (.bool false))) rfl (og rfl (op_assign rfl rfl rfl)) ?_
        refine rg_done rfl ?_
        refine a_ret ?_
        show ∃ ds, ResL _ _ _ ds ∧ RV.of ds = _
        refine ⟨[.fl (.bool false)], (.cons (.tmp rfl (.d _)) .nil), ?_⟩
        rw [fld_no (k := k) (by omega) (cF_no (by omega))]; rfl
      · skip
        have h7 := f_dec h5
        refine a_skip ?_
        show A _ _ _ _ _ _ _
        refine a_region ?_
        refine rg_put (d := 19) (v := .d (.fl (.int .i64 (((k : Int) + 1))))) rfl (og rfl (op_bin rfl rfl rfl (fun x y w => b_add64 _ _ _ x y w (by omega)) rfl)) ?_
        refine rg_put (d := 6) (v := .d (.fl (.int .i64 (((k : Int) + 1))))) rfl (og rfl (op_move rfl rfl rfl)) ?_
        refine rg_done rfl ?_
        have hx : cF ((bt s k).toNat : Int) = true := cF_yes (by omega)
        show ∃ i, _ ∧ _ ∧ Imp _ _ _ _ _
        refine ⟨k + 1, ⟨by omega, fun q h => (Nat.lt_succ_iff_lt_or_eq.1 h).elim (hq q) (fun e => by rw [e]; exact hx)⟩, by omega, imp_forget rfl ⟨rfl, rfl, (by first | rfl | exact ci (by omega) | exact ci (by simp) | exact cd (by simp) | simp), trivial⟩ trivial⟩
    · skip
      have h8 := t_dec h3
      refine rg_put (d := 14) (v := .d (.fl undef)) rfl (on rfl rfl rfl h3) ?_
      refine rg_put (d := 15) (v := .d (.fl undef)) rfl (on rfl rfl rfl h3) ?_
      refine rg_put (d := 16) (v := .d (.fl undef)) rfl (on rfl rfl rfl h3) ?_
      refine rg_put (d := 17) (v := .d (.fl undef)) rfl (on rfl rfl rfl h3) ?_
      refine rg_put (d := 18) (v := .d (.fl (.bool true))) rfl (og rfl (op_pick rfl rfl (by rw [h3]; rfl) rfl)) ?_
      refine rg_done rfl ?_
      refine a_condK rfl rfl ?_
      refine a_rseq ?_
      refine rg_put (d := 2) (v := .d (.fl (.bool false))) rfl (og rfl (op_assign rfl rfl rfl)) ?_
      refine rg_done rfl ?_
      refine a_ret ?_
      show ∃ ds, ResL _ _ _ ds ∧ RV.of ds = _
      refine ⟨[.fl (.bool false)], (.cons (.tmp rfl (.d _)) .nil), ?_⟩
      rw [fld_no (k := k) (by omega) (cF_no (by omega))]; rfl
  · skip
    have h9 := f_dec h1
    refine a_exit ?_
    show A _ _ _ _ _ _ _
    refine a_rseq ?_
    refine rg_put (d := 20) (v := .d (.fl (.string s))) rfl (og rfl (op_move rfl rfl rfl)) ?_
    refine rg_put (d := 21) (v := .d (.fl (.bool ((!(sEq s (⟨#[]⟩))))))) rfl (og rfl (op_bin rfl rfl rfl (b_sne _ _ _) rfl)) ?_
    refine rg_put (d := 2) (v := .d (.fl (.bool ((!(sEq s (⟨#[]⟩))))))) rfl (og rfl (op_assign rfl rfl rfl)) ?_
    refine rg_done rfl ?_
    refine a_ret ?_
    show ∃ ds, ResL _ _ _ ds ∧ RV.of ds = _
    refine ⟨[.fl (.bool ((!(sEq s (⟨#[]⟩)))))], (.cons (.tmp rfl (.d _)) .nil), ?_⟩
    rw [fld_yes (fun q h => hq q (by omega))]; rfl
set_option maxHeartbeats 4000000 in
set_option maxRecDepth 100000 in
theorem fldR (s : ByteArray) (hs : s.size ≤ 1000000) : Ctr Try.prog 47 [.fl (.string s)] (.d (.fl (.bool (fldB s)))) := by
  refine ctr (n := 22) (rs := #[.tmp 2]) (L := [(0, .d (.fl (.string s)))]) Try.func47 rfl rfl rfl rfl rfl (fun w0 U0 => ?_)
  refine a_rseq ?_
  refine rg_put (d := 2) (v := .d (.fl (.bool false))) rfl (og rfl (op_assign rfl rfl rfl)) ?_
  refine rg_done rfl ?_
  refine a_seq ?_
  refine a_rseq ?_
  refine rg_put (d := 3) (v := .d (.fl (.int .i64 0))) rfl (og rfl (op_assign rfl rfl rfl)) ?_
  refine rg_done rfl ?_
  refine a_block ?_
  refine a_loop (ι := Nat) (fun k => SS [(0, .d (.fl (.string s))), (3, .d (.fl (.int .i64 (k : Int))))] []) (fun k => k ≤ s.size ∧ ∀ q, q < k → (cF ((bt s q).toNat : Int)) = true) (fun k => s.size - k) 0 (⟨by omega, fun q h => by omega⟩) (imp_forget rfl ⟨rfl, (by first | rfl | exact ci (by omega) | exact ci (by simp) | exact cd (by simp) | simp), trivial⟩ trivial) (fun k hok => ?_)
  obtain ⟨hkk, hq⟩ := hok
  refine a_seq ?_
  refine a_rseq ?_
  refine rg_put (d := 4) (v := .d (.fl (.int .i64 (k : Int)))) rfl (og rfl (op_move rfl rfl rfl)) ?_
  refine rg_put (d := 5) (v := .d (.fl (.string s))) rfl (og rfl (op_move rfl rfl rfl)) ?_
  refine rg_put (d := 6) (v := .d (.fl (.int .i64 (s.size : Int)))) rfl (og rfl (op_len_str rfl Try.underlying9 rfl rfl)) ?_
  refine rg_put (d := 7) (v := .d (.fl (.bool ((decide ((k : Int) < (s.size : Int))))))) rfl (og rfl (op_bin rfl rfl rfl (b_lss _ _ _ _) rfl)) ?_
  refine rg_done rfl ?_
  refine a_cond rfl (fun h1 => ?_) (fun h1 => ?_)
  · skip
    have h2 := t_dec h1
    refine a_skip ?_
    show A _ _ _ _ _ _ _
    refine a_seq ?_
    refine a_block ?_
    refine a_rseq ?_
    refine rg_put (d := 10) (v := .d (.fl (.string s))) rfl (og rfl (op_move rfl rfl rfl)) ?_
    refine rg_put (d := 11) (v := .d (.fl (.int .i64 (k : Int)))) rfl (og rfl (op_move rfl rfl rfl)) ?_
    refine rg_put (d := 12) (v := .d (.fl (.int .u8 (((bt s k).toNat : Int))))) rfl (og rfl (op_strindex rfl Try.underlying9 rfl rfl (by omega) (byte_ix (by omega)) rfl)) ?_
    refine rg_put (d := 13) (v := .d (.fl (.bool ((decide (((bt s k).toNat : Int) < 33)))))) rfl (og rfl (op_bin rfl rfl rfl (b_lss _ _ _ _) rfl)) ?_
    refine rg_put (d := 14) (v := .d (.fl (.bool ((decide (((bt s k).toNat : Int) < 33)))))) rfl (og rfl (op_move rfl rfl rfl)) ?_
    rcases fot ((decide (((bt s k).toNat : Int) < 33))) with h3 | h3
    · skip
      have h4 := f_dec h3
      refine rg_put (d := 15) (v := .d (.fl (.string s))) rfl (oy rfl rfl rfl h3 (op_move rfl rfl rfl)) ?_
      refine rg_put (d := 16) (v := .d (.fl (.int .i64 (k : Int)))) rfl (oy rfl rfl rfl h3 (op_move rfl rfl rfl)) ?_
      refine rg_put (d := 17) (v := .d (.fl (.int .u8 (((bt s k).toNat : Int))))) rfl (oy rfl rfl rfl h3 (op_strindex rfl Try.underlying9 rfl rfl (by omega) (byte_ix (by omega)) rfl)) ?_
      refine rg_put (d := 18) (v := .d (.fl (.bool ((decide (126 < ((bt s k).toNat : Int))))))) rfl (oy rfl rfl rfl h3 (op_bin rfl rfl rfl (b_gtr _ _ _ _) rfl)) ?_
      refine rg_put (d := 19) (v := .d (.fl (.bool ((decide (126 < ((bt s k).toNat : Int))))))) rfl (og rfl (op_pick rfl rfl (by rw [h3]; rfl) rfl)) ?_
      refine rg_done rfl ?_
      refine a_cond rfl (fun h5 => ?_) (fun h5 => ?_)
      · skip
        have h6 := t_dec h5
        refine a_rseq ?_
        refine rg_put (d := 2) (v := .d (.fl (.bool false))) rfl (og rfl (op_assign rfl rfl rfl)) ?_
        refine rg_done rfl ?_
        refine a_ret ?_
        show ∃ ds, ResL _ _ _ ds ∧ RV.of ds = _
        refine ⟨[.fl (.bool false)], (.cons (.tmp rfl (.d _)) .nil), ?_⟩
        rw [fld_no (k := k) (by omega) (cF_no (by omega))]; rfl
      · skip
        have h7 := f_dec h5
        refine a_skip ?_
        show A _ _ _ _ _ _ _
        refine a_region ?_
        refine rg_put (d := 8) (v := .d (.fl (.int .i64 (k : Int)))) rfl (og rfl (op_move rfl rfl rfl)) ?_
        refine rg_put (d := 9) (v := .d (.fl (.int .i64 (((k : Int) + 1))))) rfl (og rfl (op_bin rfl rfl rfl (fun x y w => b_add64 _ _ _ x y w (by omega)) rfl)) ?_
        refine rg_put (d := 3) (v := .d (.fl (.int .i64 (((k : Int) + 1))))) rfl (og rfl (op_assign rfl rfl rfl)) ?_
        refine rg_done rfl ?_
        have hx : cF ((bt s k).toNat : Int) = true := cF_yes (by omega)
        show ∃ i, _ ∧ _ ∧ Imp _ _ _ _ _
        refine ⟨k + 1, ⟨by omega, fun q h => (Nat.lt_succ_iff_lt_or_eq.1 h).elim (hq q) (fun e => by rw [e]; exact hx)⟩, by omega, imp_forget rfl ⟨rfl, (by first | rfl | exact ci (by omega) | exact ci (by simp) | exact cd (by simp) | simp), trivial⟩ trivial⟩
    · skip
      have h8 := t_dec h3
      refine rg_put (d := 15) (v := .d (.fl undef)) rfl (on rfl rfl rfl h3) ?_
      refine rg_put (d := 16) (v := .d (.fl undef)) rfl (on rfl rfl rfl h3) ?_
      refine rg_put (d := 17) (v := .d (.fl undef)) rfl (on rfl rfl rfl h3) ?_
      refine rg_put (d := 18) (v := .d (.fl undef)) rfl (on rfl rfl rfl h3) ?_
      refine rg_put (d := 19) (v := .d (.fl (.bool true))) rfl (og rfl (op_pick rfl rfl (by rw [h3]; rfl) rfl)) ?_
      refine rg_done rfl ?_
      refine a_condK rfl rfl ?_
      refine a_rseq ?_
      refine rg_put (d := 2) (v := .d (.fl (.bool false))) rfl (og rfl (op_assign rfl rfl rfl)) ?_
      refine rg_done rfl ?_
      refine a_ret ?_
      show ∃ ds, ResL _ _ _ ds ∧ RV.of ds = _
      refine ⟨[.fl (.bool false)], (.cons (.tmp rfl (.d _)) .nil), ?_⟩
      rw [fld_no (k := k) (by omega) (cF_no (by omega))]; rfl
  · skip
    have h9 := f_dec h1
    refine a_exit ?_
    show A _ _ _ _ _ _ _
    refine a_rseq ?_
    refine rg_put (d := 20) (v := .d (.fl (.string s))) rfl (og rfl (op_move rfl rfl rfl)) ?_
    refine rg_put (d := 21) (v := .d (.fl (.bool ((!(sEq s (⟨#[]⟩))))))) rfl (og rfl (op_bin rfl rfl rfl (b_sne _ _ _) rfl)) ?_
    refine rg_put (d := 2) (v := .d (.fl (.bool ((!(sEq s (⟨#[]⟩))))))) rfl (og rfl (op_assign rfl rfl rfl)) ?_
    refine rg_done rfl ?_
    refine a_ret ?_
    show ∃ ds, ResL _ _ _ ds ∧ RV.of ds = _
    refine ⟨[.fl (.bool ((!(sEq s (⟨#[]⟩)))))], (.cons (.tmp rfl (.d _)) .nil), ?_⟩
    rw [fld_yes (fun q h => hq q (by omega))]; rfl
set_option maxHeartbeats 4000000 in
set_option maxRecDepth 100000 in
theorem fiC (n : Int) : Ctr Try.prog 45 [.fl (.int .i64 n)] (.d (.fl (.bool (fitB n)))) := by
  refine ctr (n := 9) (rs := #[.tmp 2]) (L := [(0, .d (.fl (.int .i64 n)))]) Try.func45 rfl rfl rfl rfl rfl (fun w0 U0 => ?_)
  refine a_rseq ?_
  refine rg_put (d := 2) (v := .d (.fl (.bool false))) rfl (og rfl (op_assign rfl rfl rfl)) ?_
  refine rg_done rfl ?_
  refine a_rseq ?_
  refine rg_put (d := 3) (v := .d (.fl (.int .i64 n))) rfl (og rfl (op_move rfl rfl rfl)) ?_
  refine rg_put (d := 4) (v := .d (.fl (.bool ((decide ((-1125899906842624) ≤ n)))))) rfl (og rfl (op_bin rfl rfl rfl (b_leq _ _ _ _) rfl)) ?_
  refine rg_put (d := 5) (v := .d (.fl (.bool ((decide ((-1125899906842624) ≤ n)))))) rfl (og rfl (op_move rfl rfl rfl)) ?_
  rcases fot ((decide ((-1125899906842624) ≤ n))) with h1 | h1
  · skip
    have h2 := f_dec h1
    refine rg_put (d := 6) (v := .d (.fl undef)) rfl (on rfl rfl rfl h1) ?_
    refine rg_put (d := 7) (v := .d (.fl undef)) rfl (on rfl rfl rfl h1) ?_
    refine rg_put (d := 8) (v := .d (.fl (.bool false))) rfl (og rfl (op_pick rfl rfl (by rw [h1]; rfl) rfl)) ?_
    refine rg_put (d := 2) (v := .d (.fl (.bool false))) rfl (og rfl (op_assign rfl rfl rfl)) ?_
    refine rg_done rfl ?_
    refine a_ret ?_
    show ∃ ds, ResL _ _ _ ds ∧ RV.of ds = _
    refine ⟨[.fl (.bool false)], (.cons (.tmp rfl (.d _)) .nil), ?_⟩
    first
      | (have hu : fitB n = false := by
          unfold fitB; simp only [h1, Bool.true_or, Bool.false_or, Bool.or_true, Bool.or_false, Bool.not_true, Bool.not_false, cond_true, cond_false, Bool.true_and, Bool.false_and, Bool.and_true, Bool.and_false] <;> rfl
         rw [hu]; rfl)
      | (exfalso; omega)
  · skip
    have h3 := t_dec h1
    refine rg_put (d := 6) (v := .d (.fl (.int .i64 n))) rfl (oy rfl rfl rfl h1 (op_move rfl rfl rfl)) ?_
    refine rg_put (d := 7) (v := .d (.fl (.bool ((decide (n ≤ 1125899906842624)))))) rfl (oy rfl rfl rfl h1 (op_bin rfl rfl rfl (b_leq _ _ _ _) rfl)) ?_
    refine rg_put (d := 8) (v := .d (.fl (.bool ((decide (n ≤ 1125899906842624)))))) rfl (og rfl (op_pick rfl rfl (by rw [h1]; rfl) rfl)) ?_
    refine rg_put (d := 2) (v := .d (.fl (.bool ((decide (n ≤ 1125899906842624)))))) rfl (og rfl (op_assign rfl rfl rfl)) ?_
    refine rg_done rfl ?_
    refine a_ret ?_
    show ∃ ds, ResL _ _ _ ds ∧ RV.of ds = _
    refine ⟨[.fl (.bool ((decide (n ≤ 1125899906842624))))], (.cons (.tmp rfl (.d _)) .nil), ?_⟩
    first
      | (have hu : fitB n = (decide (n ≤ 1125899906842624)) := by
          unfold fitB; simp only [h1, Bool.true_or, Bool.false_or, Bool.or_true, Bool.or_false, Bool.not_true, Bool.not_false, cond_true, cond_false, Bool.true_and, Bool.false_and, Bool.and_true, Bool.and_false] <;> rfl
         rw [hu]; rfl)
      | (exfalso; omega)
set_option maxHeartbeats 4000000 in
set_option maxRecDepth 100000 in
theorem fiRf (n : Int) : Ctr Try.prog 48 [.fl (.int .i64 n)] (.d (.fl (.bool (fitB n)))) := by
  refine ctr (n := 9) (rs := #[.tmp 2]) (L := [(0, .d (.fl (.int .i64 n)))]) Try.func48 rfl rfl rfl rfl rfl (fun w0 U0 => ?_)
  refine a_rseq ?_
  refine rg_put (d := 2) (v := .d (.fl (.bool false))) rfl (og rfl (op_assign rfl rfl rfl)) ?_
  refine rg_done rfl ?_
  refine a_rseq ?_
  refine rg_put (d := 3) (v := .d (.fl (.int .i64 n))) rfl (og rfl (op_move rfl rfl rfl)) ?_
  refine rg_put (d := 4) (v := .d (.fl (.bool ((decide ((-1125899906842624) ≤ n)))))) rfl (og rfl (op_bin rfl rfl rfl (b_geq _ _ _ _) rfl)) ?_
  refine rg_put (d := 5) (v := .d (.fl (.bool ((decide ((-1125899906842624) ≤ n)))))) rfl (og rfl (op_move rfl rfl rfl)) ?_
  rcases fot ((decide ((-1125899906842624) ≤ n))) with h1 | h1
  · skip
    have h2 := f_dec h1
    refine rg_put (d := 6) (v := .d (.fl undef)) rfl (on rfl rfl rfl h1) ?_
    refine rg_put (d := 7) (v := .d (.fl undef)) rfl (on rfl rfl rfl h1) ?_
    refine rg_put (d := 8) (v := .d (.fl (.bool false))) rfl (og rfl (op_pick rfl rfl (by rw [h1]; rfl) rfl)) ?_
    refine rg_put (d := 2) (v := .d (.fl (.bool false))) rfl (og rfl (op_assign rfl rfl rfl)) ?_
    refine rg_done rfl ?_
    refine a_ret ?_
    show ∃ ds, ResL _ _ _ ds ∧ RV.of ds = _
    refine ⟨[.fl (.bool false)], (.cons (.tmp rfl (.d _)) .nil), ?_⟩
    first
      | (have hu : fitB n = false := by
          unfold fitB; simp only [h1, Bool.true_or, Bool.false_or, Bool.or_true, Bool.or_false, Bool.not_true, Bool.not_false, cond_true, cond_false, Bool.true_and, Bool.false_and, Bool.and_true, Bool.and_false] <;> rfl
         rw [hu]; rfl)
      | (exfalso; omega)
  · skip
    have h3 := t_dec h1
    refine rg_put (d := 6) (v := .d (.fl (.int .i64 n))) rfl (oy rfl rfl rfl h1 (op_move rfl rfl rfl)) ?_
    refine rg_put (d := 7) (v := .d (.fl (.bool ((decide (n ≤ 1125899906842624)))))) rfl (oy rfl rfl rfl h1 (op_bin rfl rfl rfl (b_leq _ _ _ _) rfl)) ?_
    refine rg_put (d := 8) (v := .d (.fl (.bool ((decide (n ≤ 1125899906842624)))))) rfl (og rfl (op_pick rfl rfl (by rw [h1]; rfl) rfl)) ?_
    refine rg_put (d := 2) (v := .d (.fl (.bool ((decide (n ≤ 1125899906842624)))))) rfl (og rfl (op_assign rfl rfl rfl)) ?_
    refine rg_done rfl ?_
    refine a_ret ?_
    show ∃ ds, ResL _ _ _ ds ∧ RV.of ds = _
    refine ⟨[.fl (.bool ((decide (n ≤ 1125899906842624))))], (.cons (.tmp rfl (.d _)) .nil), ?_⟩
    first
      | (have hu : fitB n = (decide (n ≤ 1125899906842624)) := by
          unfold fitB; simp only [h1, Bool.true_or, Bool.false_or, Bool.or_true, Bool.or_false, Bool.not_true, Bool.not_false, cond_true, cond_false, Bool.true_and, Bool.false_and, Bool.and_true, Bool.and_false] <;> rfl
         rw [hu]; rfl)
      | (exfalso; omega)
set_option maxHeartbeats 4000000 in
set_option maxRecDepth 100000 in
theorem toP (l : List Int) (hl : l.length ≤ 1024) : Ctr Try.prog 54 [.sl 1 (List.map (rI .i64) l)] (.tu [.fl (.int .i64 (tot l).1), .fl (.int .i64 (tot l).2)]) := by
  refine ctr (n := 24) (rs := #[.tmp 2, .tmp 3]) (L := [(0, .d (.sl 1 (List.map (rI .i64) l)))]) Try.func54 rfl rfl rfl rfl rfl (fun w0 U0 => ?_)
  refine a_rseq ?_
  refine rg_put (d := 2) (v := .d (.fl (.int .i64 0))) rfl (og rfl (op_assign rfl rfl rfl)) ?_
  refine rg_put (d := 3) (v := .d (.fl (.int .i64 0))) rfl (og rfl (op_assign rfl rfl rfl)) ?_
  refine rg_done rfl ?_
  refine a_rseq ?_
  refine rg_put (d := 4) (v := .d (.fl (.int .i64 0))) rfl (og rfl (op_assign rfl rfl rfl)) ?_
  refine rg_done rfl ?_
  refine a_seq ?_
  refine a_rseq ?_
  refine rg_put (d := 7) (v := .d (.sl 1 (List.map (rI .i64) l))) rfl (og rfl (op_move rfl rfl rfl)) ?_
  refine rg_put (d := 8) (v := .d (.fl (.int .i64 (l.length : Int)))) rfl (og rfl (s_len rfl Try.underlying74 rfl rfl)) ?_
  refine rg_put (d := 9) (v := .d (.fl (.int .i64 0))) rfl (og rfl (op_move rfl rfl rfl)) ?_
  refine rg_done rfl ?_
  refine a_block ?_
  refine a_loop (ι := Nat) (fun k => SS [(0, .d (.sl 1 (List.map (rI .i64) l))), (7, .d (.sl 1 (List.map (rI .i64) l))), (8, .d (.fl (.int .i64 (l.length : Int)))), (9, .d (.fl (.int .i64 (k : Int)))), (4, .d (.fl (.int .i64 (sI l k))))] []) (fun k => k ≤ l.length ∧ ∀ q, q < k → fitB (ix l q) = true) (fun k => l.length - k) 0 (⟨by omega, fun q h => by omega⟩) (imp_forget rfl ⟨rfl, rfl, rfl, rfl, rfl, trivial⟩ trivial) (fun k hok => ?_)
  obtain ⟨hk, hq⟩ := hok
  have hs9 := sI_in k hq
  refine a_rseq ?_
  refine rg_put (d := 10) (v := .d (.fl (.bool ((decide ((k : Int) < (l.length : Int))))))) rfl (og rfl (op_bin rfl rfl rfl (b_lss _ _ _ _) rfl)) ?_
  refine rg_done rfl ?_
  refine a_seq ?_
  refine a_cond rfl (fun h1 => ?_) (fun h1 => ?_)
  · skip
    have h2 := t_dec h1
    refine a_skip ?_
    show A _ _ _ _ _ _ _
    refine a_seq ?_
    refine a_block ?_
    refine a_rseq ?_
    refine rg_put (d := 11) (v := .el ((rI .i64 (ix l k)))) rfl (og rfl (s_index rfl Try.underlying74 ti3 rfl rfl (by omega) (row_at (by omega)) rfl)) ?_
    refine rg_put (d := 12) (v := .d (.fl (.int .i64 (ix l k)))) rfl (og rfl (op_load_el rfl Try.underlying3 rfl rfl rfl rfl)) ?_
    refine rg_put (d := 6) (v := .d (.fl (.int .i64 (ix l k)))) rfl (og rfl (op_assign rfl rfl rfl)) ?_
    refine rg_done rfl ?_
    refine a_seq ?_
    refine a_rseq ?_
    refine rg_put (d := 13) (v := .d (.fl (.int .i64 (ix l k)))) rfl (og rfl (op_move rfl rfl rfl)) ?_
    refine rg_put (d := 14) (v := .d (.fl (.bool ((fitB (ix l k)))))) rfl (og rfl (op_call rfl Try.func45 nm45 rfl (.cons rfl (.d _) .nil) (fiC (ix l k)) rfl)) ?_
    refine rg_put (d := 15) (v := .d (.fl (.bool ((!((fitB (ix l k)))))))) rfl (og rfl (op_un rfl rfl (u_not _) rfl)) ?_
    refine rg_done rfl ?_
    refine a_cond rfl (fun h3 => ?_) (fun h3 => ?_)
    · skip
      have h4 := t_not h3
      refine a_rseq ?_
      refine rg_put (d := 2) (v := .d (.fl (.int .i64 0))) rfl (og rfl (op_assign rfl rfl rfl)) ?_
      refine rg_put (d := 3) (v := .d (.fl (.int .i64 13))) rfl (og rfl (op_assign rfl rfl rfl)) ?_
      refine rg_done rfl ?_
      refine a_ret ?_
      show ∃ ds, ResL _ _ _ ds ∧ RV.of ds = _
      refine ⟨[.fl (.int .i64 0), .fl (.int .i64 13)], (.cons (.tmp rfl (.d _)) (.cons (.tmp rfl (.d _)) .nil)), ?_⟩
      rw [tot_bad (by omega) h4]; rfl
    · skip
      have h5 := f_not h3
      refine a_skip ?_
      show A _ _ _ _ _ _ _
      refine a_region ?_
      have hft := fit_t h5
      refine rg_put (d := 16) (v := .d (.fl (.int .i64 (sI l k)))) rfl (og rfl (op_move rfl rfl rfl)) ?_
      refine rg_put (d := 17) (v := .d (.fl (.int .i64 (ix l k)))) rfl (og rfl (op_move rfl rfl rfl)) ?_
      refine rg_put (d := 18) (v := .d (.fl (.int .i64 (((sI l k) + (ix l k)))))) rfl (og rfl (op_bin rfl rfl rfl (fun x y w => b_add64 _ _ _ x y w (by omega)) rfl)) ?_
      refine rg_put (d := 4) (v := .d (.fl (.int .i64 (((sI l k) + (ix l k)))))) rfl (og rfl (op_assign rfl rfl rfl)) ?_
      refine rg_done rfl ?_
      show A _ _ _ _ _ _ _
      refine a_region ?_
      refine rg_put (d := 19) (v := .d (.fl (.int .i64 (((k : Int) + 1))))) rfl (og rfl (op_bin rfl rfl rfl (fun x y w => b_add64 _ _ _ x y w (by omega)) rfl)) ?_
      refine rg_put (d := 9) (v := .d (.fl (.int .i64 (((k : Int) + 1))))) rfl (og rfl (op_move rfl rfl rfl)) ?_
      refine rg_done rfl ?_
      have hx : (fitB (ix l k)) = true := h5
      show ∃ i, _ ∧ _ ∧ Imp _ _ _ _ _
      refine ⟨k + 1, ⟨by omega, fun q h => (Nat.lt_succ_iff_lt_or_eq.1 h).elim (hq q) (fun e => by rw [e]; exact hx)⟩, by omega, imp_forget rfl ⟨rfl, rfl, rfl, (ci (by omega)), rfl, trivial⟩ trivial⟩
  · skip
    have h6 := f_dec h1
    refine a_exit ?_
    show A _ _ _ _ _ _ _
    refine a_seq ?_
    refine a_rseq ?_
    rw [show (sI l k) = (sI l l.length) from (by rw [show k = l.length by omega])]
    refine rg_put (d := 20) (v := .d (.fl (.int .i64 (sI l l.length)))) rfl (og rfl (op_move rfl rfl rfl)) ?_
    refine rg_put (d := 21) (v := .d (.fl (.bool ((fitB (sI l l.length)))))) rfl (og rfl (op_call rfl Try.func45 nm45 rfl (.cons rfl (.d _) .nil) (fiC (sI l l.length)) rfl)) ?_
    refine rg_put (d := 22) (v := .d (.fl (.bool ((!((fitB (sI l l.length)))))))) rfl (og rfl (op_un rfl rfl (u_not _) rfl)) ?_
    refine rg_done rfl ?_
    refine a_cond rfl (fun h7 => ?_) (fun h7 => ?_)
    · skip
      have h8 := t_not h7
      refine a_rseq ?_
      refine rg_put (d := 2) (v := .d (.fl (.int .i64 0))) rfl (og rfl (op_assign rfl rfl rfl)) ?_
      refine rg_put (d := 3) (v := .d (.fl (.int .i64 13))) rfl (og rfl (op_assign rfl rfl rfl)) ?_
      refine rg_done rfl ?_
      refine a_ret ?_
      show ∃ ds, ResL _ _ _ ds ∧ RV.of ds = _
      refine ⟨[.fl (.int .i64 0), .fl (.int .i64 13)], (.cons (.tmp rfl (.d _)) (.cons (.tmp rfl (.d _)) .nil)), ?_⟩
      rw [tot_end (fun q h => hq q (by omega)), h8]; rfl
    · skip
      have h9 := f_not h7
      refine a_skip ?_
      show A _ _ _ _ _ _ _
      refine a_rseq ?_
      refine rg_put (d := 23) (v := .d (.fl (.int .i64 (sI l l.length)))) rfl (og rfl (op_move rfl rfl rfl)) ?_
      refine rg_put (d := 2) (v := .d (.fl (.int .i64 (sI l l.length)))) rfl (og rfl (op_assign rfl rfl rfl)) ?_
      refine rg_put (d := 3) (v := .d (.fl (.int .i64 0))) rfl (og rfl (op_assign rfl rfl rfl)) ?_
      refine rg_done rfl ?_
      refine a_ret ?_
      show ∃ ds, ResL _ _ _ ds ∧ RV.of ds = _
      refine ⟨[.fl (.int .i64 (sI l l.length)), .fl (.int .i64 0)], (.cons (.tmp rfl (.d _)) (.cons (.tmp rfl (.d _)) .nil)), ?_⟩
      rw [tot_end (fun q h => hq q (by omega)), h9]; rfl
set_option maxHeartbeats 4000000 in
set_option maxRecDepth 100000 in
theorem suP (l : List Int) (hl : l.length ≤ 1024) : Ctr Try.prog 46 [.sl 1 (List.map (rI .i64) l)] (.tu [.fl (.int .i64 (tot l).1), .fl (.int .i64 (tot l).2)]) := by
  refine ctr (n := 11) (rs := #[.tmp 2, .tmp 3]) (L := [(0, .d (.sl 1 (List.map (rI .i64) l)))]) Try.func46 rfl rfl rfl rfl rfl (fun w0 U0 => ?_)
  refine a_rseq ?_
  refine rg_put (d := 2) (v := .d (.fl (.int .i64 0))) rfl (og rfl (op_assign rfl rfl rfl)) ?_
  refine rg_put (d := 3) (v := .d (.fl (.int .i64 0))) rfl (og rfl (op_assign rfl rfl rfl)) ?_
  refine rg_done rfl ?_
  refine a_seq ?_
  refine a_rseq ?_
  refine rg_put (d := 4) (v := .d (.sl 1 (List.map (rI .i64) l))) rfl (og rfl (op_move rfl rfl rfl)) ?_
  refine rg_put (d := 5) (v := .d (.fl (.int .i64 (l.length : Int)))) rfl (og rfl (s_len rfl Try.underlying74 rfl rfl)) ?_
  refine rg_put (d := 6) (v := .d (.fl (.bool ((decide (1024 < (l.length : Int))))))) rfl (og rfl (op_bin rfl rfl rfl (b_gtr _ _ _ _) rfl)) ?_
  refine rg_done rfl ?_
  refine a_condF rfl (decide_eq_false (by omega)) ?_
  refine a_skip ?_
  show A _ _ _ _ _ _ _
  refine a_rseq ?_
  refine rg_put (d := 7) (v := .d (.sl 1 (List.map (rI .i64) l))) rfl (og rfl (op_move rfl rfl rfl)) ?_
  refine rg_put (d := 8) (v := .tu [.fl (.int .i64 ((tot l).1)), .fl (.int .i64 ((tot l).2))]) rfl (og rfl (op_call rfl Try.func54 nm54 rfl (.cons rfl (.d _) .nil) (toP l hl) rfl)) ?_
  refine rg_put (d := 9) (v := .d (.fl (.int .i64 ((tot l).1)))) rfl (og rfl (op_extract rfl rfl rfl rfl)) ?_
  refine rg_put (d := 10) (v := .d (.fl (.int .i64 ((tot l).2)))) rfl (og rfl (op_extract rfl rfl rfl rfl)) ?_
  refine rg_put (d := 2) (v := .d (.fl (.int .i64 ((tot l).1)))) rfl (og rfl (op_assign rfl rfl rfl)) ?_
  refine rg_put (d := 3) (v := .d (.fl (.int .i64 ((tot l).2)))) rfl (og rfl (op_assign rfl rfl rfl)) ?_
  refine rg_done rfl ?_
  refine a_ret ?_
  show ∃ ds, ResL _ _ _ ds ∧ RV.of ds = _
  refine ⟨[.fl (.int .i64 ((tot l).1)), .fl (.int .i64 ((tot l).2))], (.cons (.tmp rfl (.d _)) (.cons (.tmp rfl (.d _)) .nil)), ?_⟩
  rfl
set_option maxHeartbeats 4000000 in
set_option maxRecDepth 100000 in
theorem wdP (k : Int) : Ctr Try.prog 43 [.fl (.int .i64 k)] (.d (.fl (.string (wd k)))) := by
  refine ctr (n := 12) (rs := #[.tmp 2]) (L := [(0, .d (.fl (.int .i64 k)))]) Try.func43 rfl rfl rfl rfl rfl (fun w0 U0 => ?_)
  refine a_rseq ?_
  refine rg_put (d := 2) (v := .d (.fl (.string (⟨#[]⟩)))) rfl (og rfl (op_assign rfl rfl rfl)) ?_
  refine rg_done rfl ?_
  refine a_seq ?_
  refine a_rseq ?_
  refine rg_put (d := 3) (v := .d (.fl (.int .i64 k))) rfl (og rfl (op_move rfl rfl rfl)) ?_
  refine rg_done rfl ?_
  refine a_block ?_
  refine a_rseq ?_
  refine rg_put (d := 5) (v := .d (.fl (.bool (k == 1)))) rfl (og rfl (op_bin rfl rfl rfl (b_eql _ _ _ _) rfl)) ?_
  refine rg_put (d := 4) (v := .d (.fl (.bool (k == 1)))) rfl (og rfl (op_assign rfl rfl rfl)) ?_
  refine rg_done rfl ?_
  refine a_cond rfl (fun h1 => ?_) (fun h1 => ?_)
  · skip
    have h2 := t_beq h1
    refine a_rseq ?_
    refine rg_put (d := 2) (v := .d (.fl (.string (⟨#[99, 104, 97, 114, 103, 101]⟩)))) rfl (og rfl (op_assign rfl rfl rfl)) ?_
    refine rg_done rfl ?_
    refine a_ret ?_
    show ∃ ds, ResL _ _ _ ds ∧ RV.of ds = _
    refine ⟨[.fl (.string (⟨#[99, 104, 97, 114, 103, 101]⟩))], (.cons (.tmp rfl (.d _)) .nil), ?_⟩
    first
      | (have hu : wd k = ⟨#[99, 104, 97, 114, 103, 101]⟩ := by
          unfold wd; simp only [h1, Bool.true_or, Bool.false_or, Bool.or_true, Bool.or_false, Bool.not_true, Bool.not_false, cond_true, cond_false, Bool.true_and, Bool.false_and, Bool.and_true, Bool.and_false] <;> rfl
         rw [hu]; rfl)
      | (exfalso; omega)
  · skip
    have h3 := f_beq h1
    refine a_rseq ?_
    refine rg_put (d := 7) (v := .d (.fl (.bool (k == 2)))) rfl (og rfl (op_bin rfl rfl rfl (b_eql _ _ _ _) rfl)) ?_
    refine rg_put (d := 6) (v := .d (.fl (.bool (k == 2)))) rfl (og rfl (op_assign rfl rfl rfl)) ?_
    refine rg_done rfl ?_
    refine a_cond rfl (fun h4 => ?_) (fun h4 => ?_)
    · skip
      have h5 := t_beq h4
      refine a_rseq ?_
      refine rg_put (d := 2) (v := .d (.fl (.string (⟨#[99, 111, 114, 114, 101, 99, 116]⟩)))) rfl (og rfl (op_assign rfl rfl rfl)) ?_
      refine rg_done rfl ?_
      refine a_ret ?_
      show ∃ ds, ResL _ _ _ ds ∧ RV.of ds = _
      refine ⟨[.fl (.string (⟨#[99, 111, 114, 114, 101, 99, 116]⟩))], (.cons (.tmp rfl (.d _)) .nil), ?_⟩
      first
        | (have hu : wd k = ⟨#[99, 111, 114, 114, 101, 99, 116]⟩ := by
            unfold wd; simp only [h1, h4, Bool.true_or, Bool.false_or, Bool.or_true, Bool.or_false, Bool.not_true, Bool.not_false, cond_true, cond_false, Bool.true_and, Bool.false_and, Bool.and_true, Bool.and_false] <;> rfl
           rw [hu]; rfl)
        | (exfalso; omega)
    · skip
      have h6 := f_beq h4
      refine a_rseq ?_
      refine rg_put (d := 9) (v := .d (.fl (.bool (k == 3)))) rfl (og rfl (op_bin rfl rfl rfl (b_eql _ _ _ _) rfl)) ?_
      refine rg_put (d := 8) (v := .d (.fl (.bool (k == 3)))) rfl (og rfl (op_assign rfl rfl rfl)) ?_
      refine rg_done rfl ?_
      refine a_cond rfl (fun h7 => ?_) (fun h7 => ?_)
      · skip
        have h8 := t_beq h7
        refine a_rseq ?_
        refine rg_put (d := 2) (v := .d (.fl (.string (⟨#[114, 101, 106, 101, 99, 116]⟩)))) rfl (og rfl (op_assign rfl rfl rfl)) ?_
        refine rg_done rfl ?_
        refine a_ret ?_
        show ∃ ds, ResL _ _ _ ds ∧ RV.of ds = _
        refine ⟨[.fl (.string (⟨#[114, 101, 106, 101, 99, 116]⟩))], (.cons (.tmp rfl (.d _)) .nil), ?_⟩
        first
          | (have hu : wd k = ⟨#[114, 101, 106, 101, 99, 116]⟩ := by
              unfold wd; simp only [h1, h4, h7, Bool.true_or, Bool.false_or, Bool.or_true, Bool.or_false, Bool.not_true, Bool.not_false, cond_true, cond_false, Bool.true_and, Bool.false_and, Bool.and_true, Bool.and_false] <;> rfl
             rw [hu]; rfl)
          | (exfalso; omega)
      · skip
        have h9 := f_beq h7
        refine a_rseq ?_
        refine rg_put (d := 11) (v := .d (.fl (.bool (k == 4)))) rfl (og rfl (op_bin rfl rfl rfl (b_eql _ _ _ _) rfl)) ?_
        refine rg_put (d := 10) (v := .d (.fl (.bool (k == 4)))) rfl (og rfl (op_assign rfl rfl rfl)) ?_
        refine rg_done rfl ?_
        refine a_cond rfl (fun h10 => ?_) (fun h10 => ?_)
        · skip
          have h11 := t_beq h10
          refine a_rseq ?_
          refine rg_put (d := 2) (v := .d (.fl (.string (⟨#[112, 97, 121]⟩)))) rfl (og rfl (op_assign rfl rfl rfl)) ?_
          refine rg_done rfl ?_
          refine a_ret ?_
          show ∃ ds, ResL _ _ _ ds ∧ RV.of ds = _
          refine ⟨[.fl (.string (⟨#[112, 97, 121]⟩))], (.cons (.tmp rfl (.d _)) .nil), ?_⟩
          first
            | (have hu : wd k = ⟨#[112, 97, 121]⟩ := by
                unfold wd; simp only [h1, h4, h7, h10, Bool.true_or, Bool.false_or, Bool.or_true, Bool.or_false, Bool.not_true, Bool.not_false, cond_true, cond_false, Bool.true_and, Bool.false_and, Bool.and_true, Bool.and_false] <;> rfl
               rw [hu]; rfl)
            | (exfalso; omega)
        · skip
          have h12 := f_beq h10
          refine a_skip ?_
          show A _ _ _ _ _ _ _
          refine a_rseq ?_
          refine rg_put (d := 2) (v := .d (.fl (.string (⟨#[]⟩)))) rfl (og rfl (op_assign rfl rfl rfl)) ?_
          refine rg_done rfl ?_
          refine a_ret ?_
          show ∃ ds, ResL _ _ _ ds ∧ RV.of ds = _
          refine ⟨[.fl (.string (⟨#[]⟩))], (.cons (.tmp rfl (.d _)) .nil), ?_⟩
          first
            | (have hu : wd k = ⟨#[]⟩ := by
                unfold wd; simp only [h1, h4, h7, h10, Bool.true_or, Bool.false_or, Bool.or_true, Bool.or_false, Bool.not_true, Bool.not_false, cond_true, cond_false, Bool.true_and, Bool.false_and, Bool.and_true, Bool.and_false] <;> rfl
               rw [hu]; rfl)
            | (exfalso; omega)
set_option maxHeartbeats 4000000 in
set_option maxRecDepth 100000 in
theorem rcP (x : Rec) (hx : x.key.size ≤ 1000) : Ctr Try.prog 34 [.ag (eRec x)] (.d (.fl (.int .i64 (rcE x)))) := by
  refine ctr (n := 50) (rs := #[.tmp 2]) (L := [(0, .d (.ag (eRec x)))]) Try.func34 rfl rfl rfl rfl rfl (fun w0 U0 => ?_)
  refine a_rseq ?_
  refine rg_nam (d := 1) (v := .pt 101 0) (m := 101) (nw := [(101, .bx 48 (eRec x))]) rfl (og rfl (of_eff (op_box 101 rfl rfl rfl rfl) rfl)) rfl ?_
  refine rg_put (d := 2) (v := .d (.fl (.int .i64 0))) rfl (og rfl (op_assign rfl rfl rfl)) ?_
  refine rg_done rfl ?_
  refine a_seq ?_
  refine a_block ?_
  refine a_rseq ?_
  refine rg_put (d := 4) (v := .pt 101 0) rfl (og rfl (of_eff (s_field_pt rfl Try.underlying48 rfl ti3 rfl rfl rfl) rfl)) ?_
  refine rg_put (d := 5) (v := .d (.fl (.int .i64 x.kind))) rfl (og rfl (op_load_pt rfl Try.underlying3 rfl rfl rfl rfl rfl)) ?_
  refine rg_put (d := 6) (v := .d (.fl (.string (wd x.kind)))) rfl (og rfl (op_call rfl Try.func43 nm43 rfl (.cons rfl (.d _) .nil) (wdP x.kind) rfl)) ?_
  refine rg_put (d := 7) (v := .d (.fl (.bool ((sEq (wd x.kind) (⟨#[]⟩)))))) rfl (og rfl (op_bin rfl rfl rfl (b_seq _ _ _) rfl)) ?_
  refine rg_put (d := 3) (v := .d (.fl (.bool ((sEq (wd x.kind) (⟨#[]⟩)))))) rfl (og rfl (op_assign rfl rfl rfl)) ?_
  refine rg_done rfl ?_
  refine a_cond rfl (fun h1 => ?_) (fun h1 => ?_)
  · skip
    refine a_rseq ?_
    refine rg_put (d := 2) (v := .d (.fl (.int .i64 1))) rfl (og rfl (op_assign rfl rfl rfl)) ?_
    refine rg_done rfl ?_
    refine a_ret ?_
    show ∃ ds, ResL _ _ _ ds ∧ RV.of ds = _
    refine ⟨[.fl (.int .i64 1)], (.cons (.tmp rfl (.d _)) .nil), ?_⟩
    have hu : rcE x = 1 := by unfold rcE; simp only [h1, Bool.true_or, Bool.false_or, Bool.or_true, Bool.or_false, Bool.not_true, Bool.not_false, cond_true, cond_false, Bool.true_and, Bool.false_and, Bool.and_true, Bool.and_false] <;> rfl
    rw [hu]; rfl
  · skip
    refine a_rseq ?_
    refine rg_put (d := 9) (v := .pt 101 1) rfl (og rfl (of_eff (s_field_pt rfl Try.underlying48 rfl ti9 rfl rfl rfl) rfl)) ?_
    refine rg_put (d := 10) (v := .d (.fl (.string x.key))) rfl (og rfl (op_load_pt rfl Try.underlying9 rfl rfl rfl rfl rfl)) ?_
    refine rg_put (d := 11) (v := .d (.fl (.bool (fldB x.key)))) rfl (og rfl (op_call rfl Try.func44 nm44 rfl (.cons rfl (.d _) .nil) (fldP x.key (by omega)) rfl)) ?_
    refine rg_put (d := 12) (v := .d (.fl (.bool ((!(fldB x.key)))))) rfl (og rfl (op_un rfl rfl (u_not _) rfl)) ?_
    refine rg_put (d := 8) (v := .d (.fl (.bool ((!(fldB x.key)))))) rfl (og rfl (op_assign rfl rfl rfl)) ?_
    refine rg_done rfl ?_
    refine a_cond rfl (fun h2 => ?_) (fun h2 => ?_)
    · skip
      have h3 := t_not h2
      refine a_rseq ?_
      refine rg_put (d := 2) (v := .d (.fl (.int .i64 5))) rfl (og rfl (op_assign rfl rfl rfl)) ?_
      refine rg_done rfl ?_
      refine a_ret ?_
      show ∃ ds, ResL _ _ _ ds ∧ RV.of ds = _
      refine ⟨[.fl (.int .i64 5)], (.cons (.tmp rfl (.d _)) .nil), ?_⟩
      have hu : rcE x = 5 := by unfold rcE; simp only [h1, h2, h3, Bool.true_or, Bool.false_or, Bool.or_true, Bool.or_false, Bool.not_true, Bool.not_false, cond_true, cond_false, Bool.true_and, Bool.false_and, Bool.and_true, Bool.and_false] <;> rfl
      rw [hu]; rfl
    · skip
      have h4 := f_not h2
      refine a_rseq ?_
      refine rg_put (d := 14) (v := .pt 101 1) rfl (og rfl (of_eff (s_field_pt rfl Try.underlying48 rfl ti9 rfl rfl rfl) rfl)) ?_
      refine rg_put (d := 15) (v := .d (.fl (.string x.key))) rfl (og rfl (op_load_pt rfl Try.underlying9 rfl rfl rfl rfl rfl)) ?_
      refine rg_put (d := 16) (v := .d (.fl (.int .i64 (x.key.size : Int)))) rfl (og rfl (op_len_str rfl Try.underlying9 rfl rfl)) ?_
      refine rg_put (d := 17) (v := .d (.fl (.bool ((decide (256 < (x.key.size : Int))))))) rfl (og rfl (op_bin rfl rfl rfl (b_gtr _ _ _ _) rfl)) ?_
      refine rg_put (d := 13) (v := .d (.fl (.bool ((decide (256 < (x.key.size : Int))))))) rfl (og rfl (op_assign rfl rfl rfl)) ?_
      refine rg_done rfl ?_
      refine a_cond rfl (fun h5 => ?_) (fun h5 => ?_)
      · skip
        have h6 := t_dec h5
        refine a_rseq ?_
        refine rg_put (d := 2) (v := .d (.fl (.int .i64 4))) rfl (og rfl (op_assign rfl rfl rfl)) ?_
        refine rg_done rfl ?_
        refine a_ret ?_
        show ∃ ds, ResL _ _ _ ds ∧ RV.of ds = _
        refine ⟨[.fl (.int .i64 4)], (.cons (.tmp rfl (.d _)) .nil), ?_⟩
        have hu : rcE x = 4 := by unfold rcE; simp only [h1, h2, h4, h5, Bool.true_or, Bool.false_or, Bool.or_true, Bool.or_false, Bool.not_true, Bool.not_false, cond_true, cond_false, Bool.true_and, Bool.false_and, Bool.and_true, Bool.and_false] <;> rfl
        rw [hu]; rfl
      · skip
        have h7 := f_dec h5
        refine a_rseq ?_
        refine rg_put (d := 19) (v := .pt 101 2) rfl (og rfl (of_eff (s_field_pt rfl Try.underlying48 rfl ti3 rfl rfl rfl) rfl)) ?_
        refine rg_put (d := 20) (v := .d (.fl (.int .i64 x.time))) rfl (og rfl (op_load_pt rfl Try.underlying3 rfl rfl rfl rfl rfl)) ?_
        refine rg_put (d := 21) (v := .d (.fl (.bool ((decide (x.time < 0)))))) rfl (og rfl (op_bin rfl rfl rfl (b_lss _ _ _ _) rfl)) ?_
        refine rg_put (d := 22) (v := .d (.fl (.bool ((decide (x.time < 0)))))) rfl (og rfl (op_move rfl rfl rfl)) ?_
        rcases fot ((decide (x.time < 0))) with h8 | h8
        · skip
          have h9 := f_dec h8
          refine rg_put (d := 23) (v := .pt 101 2) rfl (oy rfl rfl rfl h8 (of_eff (s_field_pt rfl Try.underlying48 rfl ti3 rfl rfl rfl) rfl)) ?_
          refine rg_put (d := 24) (v := .d (.fl (.int .i64 x.time))) rfl (oy rfl rfl rfl h8 (op_load_pt rfl Try.underlying3 rfl rfl rfl rfl rfl)) ?_
          refine rg_put (d := 25) (v := .d (.fl (.bool ((decide (68719476736 ≤ x.time)))))) rfl (oy rfl rfl rfl h8 (op_bin rfl rfl rfl (b_geq _ _ _ _) rfl)) ?_
          refine rg_put (d := 26) (v := .d (.fl (.bool ((decide (68719476736 ≤ x.time)))))) rfl (og rfl (op_pick rfl rfl (by rw [h8]; rfl) rfl)) ?_
          refine rg_put (d := 18) (v := .d (.fl (.bool ((decide (68719476736 ≤ x.time)))))) rfl (og rfl (op_assign rfl rfl rfl)) ?_
          refine rg_done rfl ?_
          refine a_cond rfl (fun h10 => ?_) (fun h10 => ?_)
          · skip
            have h11 := t_dec h10
            refine a_rseq ?_
            refine rg_put (d := 2) (v := .d (.fl (.int .i64 12))) rfl (og rfl (op_assign rfl rfl rfl)) ?_
            refine rg_done rfl ?_
            refine a_ret ?_
            show ∃ ds, ResL _ _ _ ds ∧ RV.of ds = _
            refine ⟨[.fl (.int .i64 12)], (.cons (.tmp rfl (.d _)) .nil), ?_⟩
            have hu : rcE x = 12 := by unfold rcE; simp only [h1, h2, h4, h5, h8, h10, Bool.true_or, Bool.false_or, Bool.or_true, Bool.or_false, Bool.not_true, Bool.not_false, cond_true, cond_false, Bool.true_and, Bool.false_and, Bool.and_true, Bool.and_false] <;> rfl
            rw [hu]; rfl
          · skip
            have h12 := f_dec h10
            refine a_skip ?_
            show A _ _ _ _ _ _ _
            refine a_seq ?_
            refine a_rseq ?_
            refine rg_put (d := 27) (v := .pt 101 0) rfl (og rfl (of_eff (s_field_pt rfl Try.underlying48 rfl ti3 rfl rfl rfl) rfl)) ?_
            refine rg_put (d := 28) (v := .d (.fl (.int .i64 x.kind))) rfl (og rfl (op_load_pt rfl Try.underlying3 rfl rfl rfl rfl rfl)) ?_
            refine rg_put (d := 29) (v := .d (.fl (.bool (x.kind == 3)))) rfl (og rfl (op_bin rfl rfl rfl (b_eql _ _ _ _) rfl)) ?_
            refine rg_done rfl ?_
            refine a_cond rfl (fun h13 => ?_) (fun h13 => ?_)
            · skip
              have h14 := t_beq h13
              refine a_seq ?_
              refine a_rseq ?_
              refine rg_put (d := 30) (v := .pt 101 3) rfl (og rfl (of_eff (s_field_pt rfl Try.underlying48 rfl ti3 rfl rfl rfl) rfl)) ?_
              refine rg_put (d := 31) (v := .d (.fl (.int .i64 x.cents))) rfl (og rfl (op_load_pt rfl Try.underlying3 rfl rfl rfl rfl rfl)) ?_
              refine rg_put (d := 32) (v := .d (.fl (.bool (x.cents != 0)))) rfl (og rfl (op_bin rfl rfl rfl (b_neq _ _ _ _) rfl)) ?_
              refine rg_put (d := 33) (v := .d (.fl (.bool (x.cents != 0)))) rfl (og rfl (op_move rfl rfl rfl)) ?_
              rcases fot (x.cents != 0) with h15 | h15
              · skip
                have h16 := f_bne h15
                refine rg_put (d := 34) (v := .pt 101 4) rfl (oy rfl rfl rfl h15 (of_eff (s_field_pt rfl Try.underlying48 rfl ti3 rfl rfl rfl) rfl)) ?_
                refine rg_put (d := 35) (v := .d (.fl (.int .i64 x.why))) rfl (oy rfl rfl rfl h15 (op_load_pt rfl Try.underlying3 rfl rfl rfl rfl rfl)) ?_
                refine rg_put (d := 36) (v := .d (.fl (.bool ((decide (x.why < 0)))))) rfl (oy rfl rfl rfl h15 (op_bin rfl rfl rfl (b_lss _ _ _ _) rfl)) ?_
                refine rg_put (d := 37) (v := .d (.fl (.bool ((decide (x.why < 0)))))) rfl (og rfl (op_pick rfl rfl (by rw [h15]; rfl) rfl)) ?_
                refine rg_put (d := 38) (v := .d (.fl (.bool ((decide (x.why < 0)))))) rfl (og rfl (op_move rfl rfl rfl)) ?_
                rcases fot ((decide (x.why < 0))) with h17 | h17
                · skip
                  have h18 := f_dec h17
                  refine rg_put (d := 39) (v := .pt 101 4) rfl (oy rfl rfl rfl h17 (of_eff (s_field_pt rfl Try.underlying48 rfl ti3 rfl rfl rfl) rfl)) ?_
                  refine rg_put (d := 40) (v := .d (.fl (.int .i64 x.why))) rfl (oy rfl rfl rfl h17 (op_load_pt rfl Try.underlying3 rfl rfl rfl rfl rfl)) ?_
                  refine rg_put (d := 41) (v := .d (.fl (.bool ((decide (99 < x.why)))))) rfl (oy rfl rfl rfl h17 (op_bin rfl rfl rfl (b_gtr _ _ _ _) rfl)) ?_
                  refine rg_put (d := 42) (v := .d (.fl (.bool ((decide (99 < x.why)))))) rfl (og rfl (op_pick rfl rfl (by rw [h17]; rfl) rfl)) ?_
                  refine rg_done rfl ?_
                  refine a_cond rfl (fun h19 => ?_) (fun h19 => ?_)
                  · skip
                    have h20 := t_dec h19
                    refine a_rseq ?_
                    refine rg_put (d := 2) (v := .d (.fl (.int .i64 1))) rfl (og rfl (op_assign rfl rfl rfl)) ?_
                    refine rg_done rfl ?_
                    refine a_ret ?_
                    show ∃ ds, ResL _ _ _ ds ∧ RV.of ds = _
                    refine ⟨[.fl (.int .i64 1)], (.cons (.tmp rfl (.d _)) .nil), ?_⟩
                    have hu : rcE x = 1 := by unfold rcE; simp only [h1, h2, h4, h5, h8, h10, h13, h15, h17, h19, Bool.true_or, Bool.false_or, Bool.or_true, Bool.or_false, Bool.not_true, Bool.not_false, cond_true, cond_false, Bool.true_and, Bool.false_and, Bool.and_true, Bool.and_false] <;> rfl
                    rw [hu]; rfl
                  · skip
                    have h21 := f_dec h19
                    refine a_skip ?_
                    show A _ _ _ _ _ _ _
                    refine a_rseq ?_
                    refine rg_put (d := 2) (v := .d (.fl (.int .i64 0))) rfl (og rfl (op_assign rfl rfl rfl)) ?_
                    refine rg_done rfl ?_
                    refine a_ret ?_
                    show ∃ ds, ResL _ _ _ ds ∧ RV.of ds = _
                    refine ⟨[.fl (.int .i64 0)], (.cons (.tmp rfl (.d _)) .nil), ?_⟩
                    have hu : rcE x = 0 := by unfold rcE; simp only [h1, h2, h4, h5, h8, h10, h13, h15, h17, h19, Bool.true_or, Bool.false_or, Bool.or_true, Bool.or_false, Bool.not_true, Bool.not_false, cond_true, cond_false, Bool.true_and, Bool.false_and, Bool.and_true, Bool.and_false] <;> rfl
                    rw [hu]; rfl
                · skip
                  have h22 := t_dec h17
                  refine rg_put (d := 39) (v := .d (.fl undef)) rfl (on rfl rfl rfl h17) ?_
                  refine rg_put (d := 40) (v := .d (.fl undef)) rfl (on rfl rfl rfl h17) ?_
                  refine rg_put (d := 41) (v := .d (.fl undef)) rfl (on rfl rfl rfl h17) ?_
                  refine rg_put (d := 42) (v := .d (.fl (.bool true))) rfl (og rfl (op_pick rfl rfl (by rw [h17]; rfl) rfl)) ?_
                  refine rg_done rfl ?_
                  refine a_condK rfl rfl ?_
                  refine a_rseq ?_
                  refine rg_put (d := 2) (v := .d (.fl (.int .i64 1))) rfl (og rfl (op_assign rfl rfl rfl)) ?_
                  refine rg_done rfl ?_
                  refine a_ret ?_
                  show ∃ ds, ResL _ _ _ ds ∧ RV.of ds = _
                  refine ⟨[.fl (.int .i64 1)], (.cons (.tmp rfl (.d _)) .nil), ?_⟩
                  have hu : rcE x = 1 := by unfold rcE; simp only [h1, h2, h4, h5, h8, h10, h13, h15, h17, Bool.true_or, Bool.false_or, Bool.or_true, Bool.or_false, Bool.not_true, Bool.not_false, cond_true, cond_false, Bool.true_and, Bool.false_and, Bool.and_true, Bool.and_false] <;> rfl
                  rw [hu]; rfl
              · skip
                have h23 := t_bne h15
                refine rg_put (d := 34) (v := .d (.fl undef)) rfl (on rfl rfl rfl h15) ?_
                refine rg_put (d := 35) (v := .d (.fl undef)) rfl (on rfl rfl rfl h15) ?_
                refine rg_put (d := 36) (v := .d (.fl undef)) rfl (on rfl rfl rfl h15) ?_
                refine rg_put (d := 37) (v := .d (.fl (.bool true))) rfl (og rfl (op_pick rfl rfl (by rw [h15]; rfl) rfl)) ?_
                refine rg_put (d := 38) (v := .d (.fl (.bool true))) rfl (og rfl (op_move rfl rfl rfl)) ?_
                refine rg_put (d := 39) (v := .d (.fl undef)) rfl (on rfl rfl rfl rfl) ?_
                refine rg_put (d := 40) (v := .d (.fl undef)) rfl (on rfl rfl rfl rfl) ?_
                refine rg_put (d := 41) (v := .d (.fl undef)) rfl (on rfl rfl rfl rfl) ?_
                refine rg_put (d := 42) (v := .d (.fl (.bool true))) rfl (og rfl (op_pick rfl rfl rfl rfl)) ?_
                refine rg_done rfl ?_
                refine a_condK rfl rfl ?_
                refine a_rseq ?_
                refine rg_put (d := 2) (v := .d (.fl (.int .i64 1))) rfl (og rfl (op_assign rfl rfl rfl)) ?_
                refine rg_done rfl ?_
                refine a_ret ?_
                show ∃ ds, ResL _ _ _ ds ∧ RV.of ds = _
                refine ⟨[.fl (.int .i64 1)], (.cons (.tmp rfl (.d _)) .nil), ?_⟩
                have hu : rcE x = 1 := by unfold rcE; simp only [h1, h2, h4, h5, h8, h10, h13, h15, Bool.true_or, Bool.false_or, Bool.or_true, Bool.or_false, Bool.not_true, Bool.not_false, cond_true, cond_false, Bool.true_and, Bool.false_and, Bool.and_true, Bool.and_false] <;> rfl
                rw [hu]; rfl
            · skip
              have h24 := f_beq h13
              refine a_skip ?_
              show A _ _ _ _ _ _ _
              refine a_seq ?_
              refine a_rseq ?_
              refine rg_put (d := 43) (v := .pt 101 3) rfl (og rfl (of_eff (s_field_pt rfl Try.underlying48 rfl ti3 rfl rfl rfl) rfl)) ?_
              refine rg_put (d := 44) (v := .d (.fl (.int .i64 x.cents))) rfl (og rfl (op_load_pt rfl Try.underlying3 rfl rfl rfl rfl rfl)) ?_
              refine rg_put (d := 45) (v := .d (.fl (.bool (fitB x.cents)))) rfl (og rfl (op_call rfl Try.func45 nm45 rfl (.cons rfl (.d _) .nil) (fiC x.cents) rfl)) ?_
              refine rg_put (d := 46) (v := .d (.fl (.bool ((!(fitB x.cents)))))) rfl (og rfl (op_un rfl rfl (u_not _) rfl)) ?_
              refine rg_done rfl ?_
              refine a_cond rfl (fun h25 => ?_) (fun h25 => ?_)
              · skip
                have h26 := t_not h25
                refine a_rseq ?_
                refine rg_put (d := 2) (v := .d (.fl (.int .i64 13))) rfl (og rfl (op_assign rfl rfl rfl)) ?_
                refine rg_done rfl ?_
                refine a_ret ?_
                show ∃ ds, ResL _ _ _ ds ∧ RV.of ds = _
                refine ⟨[.fl (.int .i64 13)], (.cons (.tmp rfl (.d _)) .nil), ?_⟩
                have hu : rcE x = 13 := by unfold rcE; simp only [h1, h2, h4, h5, h8, h10, h13, h25, h26, Bool.true_or, Bool.false_or, Bool.or_true, Bool.or_false, Bool.not_true, Bool.not_false, cond_true, cond_false, Bool.true_and, Bool.false_and, Bool.and_true, Bool.and_false] <;> rfl
                rw [hu]; rfl
              · skip
                have h27 := f_not h25
                refine a_skip ?_
                show A _ _ _ _ _ _ _
                refine a_seq ?_
                refine a_rseq ?_
                refine rg_put (d := 47) (v := .pt 101 4) rfl (og rfl (of_eff (s_field_pt rfl Try.underlying48 rfl ti3 rfl rfl rfl) rfl)) ?_
                refine rg_put (d := 48) (v := .d (.fl (.int .i64 x.why))) rfl (og rfl (op_load_pt rfl Try.underlying3 rfl rfl rfl rfl rfl)) ?_
                refine rg_put (d := 49) (v := .d (.fl (.bool (x.why != 0)))) rfl (og rfl (op_bin rfl rfl rfl (b_neq _ _ _ _) rfl)) ?_
                refine rg_done rfl ?_
                refine a_cond rfl (fun h28 => ?_) (fun h28 => ?_)
                · skip
                  have h29 := t_bne h28
                  refine a_rseq ?_
                  refine rg_put (d := 2) (v := .d (.fl (.int .i64 1))) rfl (og rfl (op_assign rfl rfl rfl)) ?_
                  refine rg_done rfl ?_
                  refine a_ret ?_
                  show ∃ ds, ResL _ _ _ ds ∧ RV.of ds = _
                  refine ⟨[.fl (.int .i64 1)], (.cons (.tmp rfl (.d _)) .nil), ?_⟩
                  have hu : rcE x = 1 := by unfold rcE; simp only [h1, h2, h4, h5, h8, h10, h13, h25, h27, h28, Bool.true_or, Bool.false_or, Bool.or_true, Bool.or_false, Bool.not_true, Bool.not_false, cond_true, cond_false, Bool.true_and, Bool.false_and, Bool.and_true, Bool.and_false] <;> rfl
                  rw [hu]; rfl
                · skip
                  have h30 := f_bne h28
                  refine a_skip ?_
                  show A _ _ _ _ _ _ _
                  refine a_rseq ?_
                  refine rg_put (d := 2) (v := .d (.fl (.int .i64 0))) rfl (og rfl (op_assign rfl rfl rfl)) ?_
                  refine rg_done rfl ?_
                  refine a_ret ?_
                  show ∃ ds, ResL _ _ _ ds ∧ RV.of ds = _
                  refine ⟨[.fl (.int .i64 0)], (.cons (.tmp rfl (.d _)) .nil), ?_⟩
                  have hu : rcE x = 0 := by unfold rcE; simp only [h1, h2, h4, h5, h8, h10, h13, h25, h27, h28, Bool.true_or, Bool.false_or, Bool.or_true, Bool.or_false, Bool.not_true, Bool.not_false, cond_true, cond_false, Bool.true_and, Bool.false_and, Bool.and_true, Bool.and_false] <;> rfl
                  rw [hu]; rfl
        · skip
          have h31 := t_dec h8
          refine rg_put (d := 23) (v := .d (.fl undef)) rfl (on rfl rfl rfl h8) ?_
          refine rg_put (d := 24) (v := .d (.fl undef)) rfl (on rfl rfl rfl h8) ?_
          refine rg_put (d := 25) (v := .d (.fl undef)) rfl (on rfl rfl rfl h8) ?_
          refine rg_put (d := 26) (v := .d (.fl (.bool true))) rfl (og rfl (op_pick rfl rfl (by rw [h8]; rfl) rfl)) ?_
          refine rg_put (d := 18) (v := .d (.fl (.bool true))) rfl (og rfl (op_assign rfl rfl rfl)) ?_
          refine rg_done rfl ?_
          refine a_condK rfl rfl ?_
          refine a_rseq ?_
          refine rg_put (d := 2) (v := .d (.fl (.int .i64 12))) rfl (og rfl (op_assign rfl rfl rfl)) ?_
          refine rg_done rfl ?_
          refine a_ret ?_
          show ∃ ds, ResL _ _ _ ds ∧ RV.of ds = _
          refine ⟨[.fl (.int .i64 12)], (.cons (.tmp rfl (.d _)) .nil), ?_⟩
          have hu : rcE x = 12 := by unfold rcE; simp only [h1, h2, h4, h5, h8, Bool.true_or, Bool.false_or, Bool.or_true, Bool.or_false, Bool.not_true, Bool.not_false, cond_true, cond_false, Bool.true_and, Bool.false_and, Bool.and_true, Bool.and_false] <;> rfl
          rw [hu]; rfl
set_option maxHeartbeats 4000000 in
set_option maxRecDepth 100000 in
theorem rcR (x : Rec) (hx : x.key.size ≤ 1000) : Ctr Try.prog 38 [.ag (eRec x)] (.d (.fl (.int .i64 (rcE x)))) := by
  refine ctr (n := 50) (rs := #[.tmp 2]) (L := [(0, .d (.ag (eRec x)))]) Try.func38 rfl rfl rfl rfl rfl (fun w0 U0 => ?_)
  refine a_rseq ?_
  refine rg_nam (d := 1) (v := .pt 101 0) (m := 101) (nw := [(101, .bx 48 (eRec x))]) rfl (og rfl (of_eff (op_box 101 rfl rfl rfl rfl) rfl)) rfl ?_
  refine rg_put (d := 2) (v := .d (.fl (.int .i64 0))) rfl (og rfl (op_assign rfl rfl rfl)) ?_
  refine rg_done rfl ?_
  refine a_seq ?_
  refine a_rseq ?_
  refine rg_put (d := 3) (v := .pt 101 0) rfl (og rfl (of_eff (s_field_pt rfl Try.underlying48 rfl ti3 rfl rfl rfl) rfl)) ?_
  refine rg_put (d := 4) (v := .d (.fl (.int .i64 x.kind))) rfl (og rfl (op_load_pt rfl Try.underlying3 rfl rfl rfl rfl rfl)) ?_
  refine rg_put (d := 5) (v := .d (.fl (.bool ((decide (x.kind < 1)))))) rfl (og rfl (op_bin rfl rfl rfl (b_lss _ _ _ _) rfl)) ?_
  refine rg_put (d := 6) (v := .d (.fl (.bool ((decide (x.kind < 1)))))) rfl (og rfl (op_move rfl rfl rfl)) ?_
  rcases fot ((decide (x.kind < 1))) with h1 | h1
  · skip
    have h2 := f_dec h1
    refine rg_put (d := 7) (v := .pt 101 0) rfl (oy rfl rfl rfl h1 (of_eff (s_field_pt rfl Try.underlying48 rfl ti3 rfl rfl rfl) rfl)) ?_
    refine rg_put (d := 8) (v := .d (.fl (.int .i64 x.kind))) rfl (oy rfl rfl rfl h1 (op_load_pt rfl Try.underlying3 rfl rfl rfl rfl rfl)) ?_
    refine rg_put (d := 9) (v := .d (.fl (.bool ((decide (4 < x.kind)))))) rfl (oy rfl rfl rfl h1 (op_bin rfl rfl rfl (b_gtr _ _ _ _) rfl)) ?_
    refine rg_put (d := 10) (v := .d (.fl (.bool ((decide (4 < x.kind)))))) rfl (og rfl (op_pick rfl rfl (by rw [h1]; rfl) rfl)) ?_
    refine rg_done rfl ?_
    refine a_cond rfl (fun h3 => ?_) (fun h3 => ?_)
    · skip
      have h4 := t_dec h3
      refine a_rseq ?_
      refine rg_put (d := 2) (v := .d (.fl (.int .i64 1))) rfl (og rfl (op_assign rfl rfl rfl)) ?_
      refine rg_done rfl ?_
      refine a_ret ?_
      show ∃ ds, ResL _ _ _ ds ∧ RV.of ds = _
      refine ⟨[.fl (.int .i64 1)], (.cons (.tmp rfl (.d _)) .nil), ?_⟩
      have hw : sEq (wd x.kind) ⟨#[]⟩ = true := by rw [wd_e]; simp only [Bool.not_eq_true', Bool.not_eq_false', Bool.and_eq_true, Bool.and_eq_false_iff, decide_eq_true_eq, decide_eq_false_iff_not]; omega
      have hu : rcE x = 1 := by unfold rcE; simp only [hw, h1, h3, Bool.true_or, Bool.false_or, Bool.or_true, Bool.or_false, Bool.not_true, Bool.not_false, cond_true, cond_false, Bool.true_and, Bool.false_and, Bool.and_true, Bool.and_false] <;> rfl
      rw [hu]; rfl
    · skip
      have h5 := f_dec h3
      refine a_skip ?_
      show A _ _ _ _ _ _ _
      refine a_seq ?_
      refine a_rseq ?_
      refine rg_put (d := 11) (v := .pt 101 1) rfl (og rfl (of_eff (s_field_pt rfl Try.underlying48 rfl ti9 rfl rfl rfl) rfl)) ?_
      refine rg_put (d := 12) (v := .d (.fl (.string x.key))) rfl (og rfl (op_load_pt rfl Try.underlying9 rfl rfl rfl rfl rfl)) ?_
      refine rg_put (d := 13) (v := .d (.fl (.bool (fldB x.key)))) rfl (og rfl (op_call rfl Try.func47 nm47 rfl (.cons rfl (.d _) .nil) (fldR x.key (by omega)) rfl)) ?_
      refine rg_put (d := 14) (v := .d (.fl (.bool ((!(fldB x.key)))))) rfl (og rfl (op_un rfl rfl (u_not _) rfl)) ?_
      refine rg_done rfl ?_
      refine a_cond rfl (fun h6 => ?_) (fun h6 => ?_)
      · skip
        have h7 := t_not h6
        refine a_rseq ?_
        refine rg_put (d := 2) (v := .d (.fl (.int .i64 5))) rfl (og rfl (op_assign rfl rfl rfl)) ?_
        refine rg_done rfl ?_
        refine a_ret ?_
        show ∃ ds, ResL _ _ _ ds ∧ RV.of ds = _
        refine ⟨[.fl (.int .i64 5)], (.cons (.tmp rfl (.d _)) .nil), ?_⟩
        have hw : sEq (wd x.kind) ⟨#[]⟩ = false := by rw [wd_e]; simp only [Bool.not_eq_true', Bool.not_eq_false', Bool.and_eq_true, Bool.and_eq_false_iff, decide_eq_true_eq, decide_eq_false_iff_not]; omega
        have hu : rcE x = 5 := by unfold rcE; simp only [hw, h1, h3, h6, h7, Bool.true_or, Bool.false_or, Bool.or_true, Bool.or_false, Bool.not_true, Bool.not_false, cond_true, cond_false, Bool.true_and, Bool.false_and, Bool.and_true, Bool.and_false] <;> rfl
        rw [hu]; rfl
      · skip
        have h8 := f_not h6
        refine a_skip ?_
        show A _ _ _ _ _ _ _
        refine a_seq ?_
        refine a_rseq ?_
        refine rg_put (d := 15) (v := .pt 101 1) rfl (og rfl (of_eff (s_field_pt rfl Try.underlying48 rfl ti9 rfl rfl rfl) rfl)) ?_
        refine rg_put (d := 16) (v := .d (.fl (.string x.key))) rfl (og rfl (op_load_pt rfl Try.underlying9 rfl rfl rfl rfl rfl)) ?_
        refine rg_put (d := 17) (v := .d (.fl (.int .i64 (x.key.size : Int)))) rfl (og rfl (op_len_str rfl Try.underlying9 rfl rfl)) ?_
        refine rg_put (d := 18) (v := .d (.fl (.bool ((decide (256 < (x.key.size : Int))))))) rfl (og rfl (op_bin rfl rfl rfl (b_gtr _ _ _ _) rfl)) ?_
        refine rg_done rfl ?_
        refine a_cond rfl (fun h9 => ?_) (fun h9 => ?_)
        · skip
          have h10 := t_dec h9
          refine a_rseq ?_
          refine rg_put (d := 2) (v := .d (.fl (.int .i64 4))) rfl (og rfl (op_assign rfl rfl rfl)) ?_
          refine rg_done rfl ?_
          refine a_ret ?_
          show ∃ ds, ResL _ _ _ ds ∧ RV.of ds = _
          refine ⟨[.fl (.int .i64 4)], (.cons (.tmp rfl (.d _)) .nil), ?_⟩
          have hw : sEq (wd x.kind) ⟨#[]⟩ = false := by rw [wd_e]; simp only [Bool.not_eq_true', Bool.not_eq_false', Bool.and_eq_true, Bool.and_eq_false_iff, decide_eq_true_eq, decide_eq_false_iff_not]; omega
          have hu : rcE x = 4 := by unfold rcE; simp only [hw, h1, h3, h6, h8, h9, Bool.true_or, Bool.false_or, Bool.or_true, Bool.or_false, Bool.not_true, Bool.not_false, cond_true, cond_false, Bool.true_and, Bool.false_and, Bool.and_true, Bool.and_false] <;> rfl
          rw [hu]; rfl
        · skip
          have h11 := f_dec h9
          refine a_skip ?_
          show A _ _ _ _ _ _ _
          refine a_seq ?_
          refine a_rseq ?_
          refine rg_put (d := 19) (v := .pt 101 2) rfl (og rfl (of_eff (s_field_pt rfl Try.underlying48 rfl ti3 rfl rfl rfl) rfl)) ?_
          refine rg_put (d := 20) (v := .d (.fl (.int .i64 x.time))) rfl (og rfl (op_load_pt rfl Try.underlying3 rfl rfl rfl rfl rfl)) ?_
          refine rg_put (d := 21) (v := .d (.fl (.bool ((decide (x.time < 0)))))) rfl (og rfl (op_bin rfl rfl rfl (b_lss _ _ _ _) rfl)) ?_
          refine rg_put (d := 22) (v := .d (.fl (.bool ((decide (x.time < 0)))))) rfl (og rfl (op_move rfl rfl rfl)) ?_
          rcases fot ((decide (x.time < 0))) with h12 | h12
          · skip
            have h13 := f_dec h12
            refine rg_put (d := 23) (v := .pt 101 2) rfl (oy rfl rfl rfl h12 (of_eff (s_field_pt rfl Try.underlying48 rfl ti3 rfl rfl rfl) rfl)) ?_
            refine rg_put (d := 24) (v := .d (.fl (.int .i64 x.time))) rfl (oy rfl rfl rfl h12 (op_load_pt rfl Try.underlying3 rfl rfl rfl rfl rfl)) ?_
            refine rg_put (d := 25) (v := .d (.fl (.bool ((decide (68719476736 ≤ x.time)))))) rfl (oy rfl rfl rfl h12 (op_bin rfl rfl rfl (b_geq _ _ _ _) rfl)) ?_
            refine rg_put (d := 26) (v := .d (.fl (.bool ((decide (68719476736 ≤ x.time)))))) rfl (og rfl (op_pick rfl rfl (by rw [h12]; rfl) rfl)) ?_
            refine rg_done rfl ?_
            refine a_cond rfl (fun h14 => ?_) (fun h14 => ?_)
            · skip
              have h15 := t_dec h14
              refine a_rseq ?_
              refine rg_put (d := 2) (v := .d (.fl (.int .i64 12))) rfl (og rfl (op_assign rfl rfl rfl)) ?_
              refine rg_done rfl ?_
              refine a_ret ?_
              show ∃ ds, ResL _ _ _ ds ∧ RV.of ds = _
              refine ⟨[.fl (.int .i64 12)], (.cons (.tmp rfl (.d _)) .nil), ?_⟩
              have hw : sEq (wd x.kind) ⟨#[]⟩ = false := by rw [wd_e]; simp only [Bool.not_eq_true', Bool.not_eq_false', Bool.and_eq_true, Bool.and_eq_false_iff, decide_eq_true_eq, decide_eq_false_iff_not]; omega
              have hu : rcE x = 12 := by unfold rcE; simp only [hw, h1, h3, h6, h8, h9, h12, h14, Bool.true_or, Bool.false_or, Bool.or_true, Bool.or_false, Bool.not_true, Bool.not_false, cond_true, cond_false, Bool.true_and, Bool.false_and, Bool.and_true, Bool.and_false] <;> rfl
              rw [hu]; rfl
            · skip
              have h16 := f_dec h14
              refine a_skip ?_
              show A _ _ _ _ _ _ _
              refine a_seq ?_
              refine a_rseq ?_
              refine rg_put (d := 27) (v := .pt 101 0) rfl (og rfl (of_eff (s_field_pt rfl Try.underlying48 rfl ti3 rfl rfl rfl) rfl)) ?_
              refine rg_put (d := 28) (v := .d (.fl (.int .i64 x.kind))) rfl (og rfl (op_load_pt rfl Try.underlying3 rfl rfl rfl rfl rfl)) ?_
              refine rg_put (d := 29) (v := .d (.fl (.bool (x.kind == 3)))) rfl (og rfl (op_bin rfl rfl rfl (b_eql _ _ _ _) rfl)) ?_
              refine rg_done rfl ?_
              refine a_cond rfl (fun h17 => ?_) (fun h17 => ?_)
              · skip
                have h18 := t_beq h17
                refine a_seq ?_
                refine a_rseq ?_
                refine rg_put (d := 30) (v := .pt 101 3) rfl (og rfl (of_eff (s_field_pt rfl Try.underlying48 rfl ti3 rfl rfl rfl) rfl)) ?_
                refine rg_put (d := 31) (v := .d (.fl (.int .i64 x.cents))) rfl (og rfl (op_load_pt rfl Try.underlying3 rfl rfl rfl rfl rfl)) ?_
                refine rg_put (d := 32) (v := .d (.fl (.bool (x.cents != 0)))) rfl (og rfl (op_bin rfl rfl rfl (b_neq _ _ _ _) rfl)) ?_
                refine rg_put (d := 33) (v := .d (.fl (.bool (x.cents != 0)))) rfl (og rfl (op_move rfl rfl rfl)) ?_
                rcases fot (x.cents != 0) with h19 | h19
                · skip
                  have h20 := f_bne h19
                  refine rg_put (d := 34) (v := .pt 101 4) rfl (oy rfl rfl rfl h19 (of_eff (s_field_pt rfl Try.underlying48 rfl ti3 rfl rfl rfl) rfl)) ?_
                  refine rg_put (d := 35) (v := .d (.fl (.int .i64 x.why))) rfl (oy rfl rfl rfl h19 (op_load_pt rfl Try.underlying3 rfl rfl rfl rfl rfl)) ?_
                  refine rg_put (d := 36) (v := .d (.fl (.bool ((decide (x.why < 0)))))) rfl (oy rfl rfl rfl h19 (op_bin rfl rfl rfl (b_lss _ _ _ _) rfl)) ?_
                  refine rg_put (d := 37) (v := .d (.fl (.bool ((decide (x.why < 0)))))) rfl (og rfl (op_pick rfl rfl (by rw [h19]; rfl) rfl)) ?_
                  refine rg_put (d := 38) (v := .d (.fl (.bool ((decide (x.why < 0)))))) rfl (og rfl (op_move rfl rfl rfl)) ?_
                  rcases fot ((decide (x.why < 0))) with h21 | h21
                  · skip
                    have h22 := f_dec h21
                    refine rg_put (d := 39) (v := .pt 101 4) rfl (oy rfl rfl rfl h21 (of_eff (s_field_pt rfl Try.underlying48 rfl ti3 rfl rfl rfl) rfl)) ?_
                    refine rg_put (d := 40) (v := .d (.fl (.int .i64 x.why))) rfl (oy rfl rfl rfl h21 (op_load_pt rfl Try.underlying3 rfl rfl rfl rfl rfl)) ?_
                    refine rg_put (d := 41) (v := .d (.fl (.bool ((decide (99 < x.why)))))) rfl (oy rfl rfl rfl h21 (op_bin rfl rfl rfl (b_gtr _ _ _ _) rfl)) ?_
                    refine rg_put (d := 42) (v := .d (.fl (.bool ((decide (99 < x.why)))))) rfl (og rfl (op_pick rfl rfl (by rw [h21]; rfl) rfl)) ?_
                    refine rg_done rfl ?_
                    refine a_cond rfl (fun h23 => ?_) (fun h23 => ?_)
                    · skip
                      have h24 := t_dec h23
                      refine a_rseq ?_
                      refine rg_put (d := 2) (v := .d (.fl (.int .i64 1))) rfl (og rfl (op_assign rfl rfl rfl)) ?_
                      refine rg_done rfl ?_
                      refine a_ret ?_
                      show ∃ ds, ResL _ _ _ ds ∧ RV.of ds = _
                      refine ⟨[.fl (.int .i64 1)], (.cons (.tmp rfl (.d _)) .nil), ?_⟩
                      have hw : sEq (wd x.kind) ⟨#[]⟩ = false := by rw [wd_e]; simp only [Bool.not_eq_true', Bool.not_eq_false', Bool.and_eq_true, Bool.and_eq_false_iff, decide_eq_true_eq, decide_eq_false_iff_not]; omega
                      have hu : rcE x = 1 := by unfold rcE; simp only [hw, h1, h3, h6, h8, h9, h12, h14, h17, h19, h21, h23, Bool.true_or, Bool.false_or, Bool.or_true, Bool.or_false, Bool.not_true, Bool.not_false, cond_true, cond_false, Bool.true_and, Bool.false_and, Bool.and_true, Bool.and_false] <;> rfl
                      rw [hu]; rfl
                    · skip
                      have h25 := f_dec h23
                      refine a_skip ?_
                      show A _ _ _ _ _ _ _
                      refine a_rseq ?_
                      refine rg_put (d := 2) (v := .d (.fl (.int .i64 0))) rfl (og rfl (op_assign rfl rfl rfl)) ?_
                      refine rg_done rfl ?_
                      refine a_ret ?_
                      show ∃ ds, ResL _ _ _ ds ∧ RV.of ds = _
                      refine ⟨[.fl (.int .i64 0)], (.cons (.tmp rfl (.d _)) .nil), ?_⟩
                      have hw : sEq (wd x.kind) ⟨#[]⟩ = false := by rw [wd_e]; simp only [Bool.not_eq_true', Bool.not_eq_false', Bool.and_eq_true, Bool.and_eq_false_iff, decide_eq_true_eq, decide_eq_false_iff_not]; omega
                      have hu : rcE x = 0 := by unfold rcE; simp only [hw, h1, h3, h6, h8, h9, h12, h14, h17, h19, h21, h23, Bool.true_or, Bool.false_or, Bool.or_true, Bool.or_false, Bool.not_true, Bool.not_false, cond_true, cond_false, Bool.true_and, Bool.false_and, Bool.and_true, Bool.and_false] <;> rfl
                      rw [hu]; rfl
                  · skip
                    have h26 := t_dec h21
                    refine rg_put (d := 39) (v := .d (.fl undef)) rfl (on rfl rfl rfl h21) ?_
                    refine rg_put (d := 40) (v := .d (.fl undef)) rfl (on rfl rfl rfl h21) ?_
                    refine rg_put (d := 41) (v := .d (.fl undef)) rfl (on rfl rfl rfl h21) ?_
                    refine rg_put (d := 42) (v := .d (.fl (.bool true))) rfl (og rfl (op_pick rfl rfl (by rw [h21]; rfl) rfl)) ?_
                    refine rg_done rfl ?_
                    refine a_condK rfl rfl ?_
                    refine a_rseq ?_
                    refine rg_put (d := 2) (v := .d (.fl (.int .i64 1))) rfl (og rfl (op_assign rfl rfl rfl)) ?_
                    refine rg_done rfl ?_
                    refine a_ret ?_
                    show ∃ ds, ResL _ _ _ ds ∧ RV.of ds = _
                    refine ⟨[.fl (.int .i64 1)], (.cons (.tmp rfl (.d _)) .nil), ?_⟩
                    have hw : sEq (wd x.kind) ⟨#[]⟩ = false := by rw [wd_e]; simp only [Bool.not_eq_true', Bool.not_eq_false', Bool.and_eq_true, Bool.and_eq_false_iff, decide_eq_true_eq, decide_eq_false_iff_not]; omega
                    have hu : rcE x = 1 := by unfold rcE; simp only [hw, h1, h3, h6, h8, h9, h12, h14, h17, h19, h21, Bool.true_or, Bool.false_or, Bool.or_true, Bool.or_false, Bool.not_true, Bool.not_false, cond_true, cond_false, Bool.true_and, Bool.false_and, Bool.and_true, Bool.and_false] <;> rfl
                    rw [hu]; rfl
                · skip
                  have h27 := t_bne h19
                  refine rg_put (d := 34) (v := .d (.fl undef)) rfl (on rfl rfl rfl h19) ?_
                  refine rg_put (d := 35) (v := .d (.fl undef)) rfl (on rfl rfl rfl h19) ?_
                  refine rg_put (d := 36) (v := .d (.fl undef)) rfl (on rfl rfl rfl h19) ?_
                  refine rg_put (d := 37) (v := .d (.fl (.bool true))) rfl (og rfl (op_pick rfl rfl (by rw [h19]; rfl) rfl)) ?_
                  refine rg_put (d := 38) (v := .d (.fl (.bool true))) rfl (og rfl (op_move rfl rfl rfl)) ?_
                  refine rg_put (d := 39) (v := .d (.fl undef)) rfl (on rfl rfl rfl rfl) ?_
                  refine rg_put (d := 40) (v := .d (.fl undef)) rfl (on rfl rfl rfl rfl) ?_
                  refine rg_put (d := 41) (v := .d (.fl undef)) rfl (on rfl rfl rfl rfl) ?_
                  refine rg_put (d := 42) (v := .d (.fl (.bool true))) rfl (og rfl (op_pick rfl rfl rfl rfl)) ?_
                  refine rg_done rfl ?_
                  refine a_condK rfl rfl ?_
                  refine a_rseq ?_
                  refine rg_put (d := 2) (v := .d (.fl (.int .i64 1))) rfl (og rfl (op_assign rfl rfl rfl)) ?_
                  refine rg_done rfl ?_
                  refine a_ret ?_
                  show ∃ ds, ResL _ _ _ ds ∧ RV.of ds = _
                  refine ⟨[.fl (.int .i64 1)], (.cons (.tmp rfl (.d _)) .nil), ?_⟩
                  have hw : sEq (wd x.kind) ⟨#[]⟩ = false := by rw [wd_e]; simp only [Bool.not_eq_true', Bool.not_eq_false', Bool.and_eq_true, Bool.and_eq_false_iff, decide_eq_true_eq, decide_eq_false_iff_not]; omega
                  have hu : rcE x = 1 := by unfold rcE; simp only [hw, h1, h3, h6, h8, h9, h12, h14, h17, h19, Bool.true_or, Bool.false_or, Bool.or_true, Bool.or_false, Bool.not_true, Bool.not_false, cond_true, cond_false, Bool.true_and, Bool.false_and, Bool.and_true, Bool.and_false] <;> rfl
                  rw [hu]; rfl
              · skip
                have h28 := f_beq h17
                refine a_skip ?_
                show A _ _ _ _ _ _ _
                refine a_seq ?_
                refine a_rseq ?_
                refine rg_put (d := 43) (v := .pt 101 3) rfl (og rfl (of_eff (s_field_pt rfl Try.underlying48 rfl ti3 rfl rfl rfl) rfl)) ?_
                refine rg_put (d := 44) (v := .d (.fl (.int .i64 x.cents))) rfl (og rfl (op_load_pt rfl Try.underlying3 rfl rfl rfl rfl rfl)) ?_
                refine rg_put (d := 45) (v := .d (.fl (.bool (fitB x.cents)))) rfl (og rfl (op_call rfl Try.func48 nm48 rfl (.cons rfl (.d _) .nil) (fiRf x.cents) rfl)) ?_
                refine rg_put (d := 46) (v := .d (.fl (.bool ((!(fitB x.cents)))))) rfl (og rfl (op_un rfl rfl (u_not _) rfl)) ?_
                refine rg_done rfl ?_
                refine a_cond rfl (fun h29 => ?_) (fun h29 => ?_)
                · skip
                  have h30 := t_not h29
                  refine a_rseq ?_
                  refine rg_put (d := 2) (v := .d (.fl (.int .i64 13))) rfl (og rfl (op_assign rfl rfl rfl)) ?_
                  refine rg_done rfl ?_
                  refine a_ret ?_
                  show ∃ ds, ResL _ _ _ ds ∧ RV.of ds = _
                  refine ⟨[.fl (.int .i64 13)], (.cons (.tmp rfl (.d _)) .nil), ?_⟩
                  have hw : sEq (wd x.kind) ⟨#[]⟩ = false := by rw [wd_e]; simp only [Bool.not_eq_true', Bool.not_eq_false', Bool.and_eq_true, Bool.and_eq_false_iff, decide_eq_true_eq, decide_eq_false_iff_not]; omega
                  have hu : rcE x = 13 := by unfold rcE; simp only [hw, h1, h3, h6, h8, h9, h12, h14, h17, h29, h30, Bool.true_or, Bool.false_or, Bool.or_true, Bool.or_false, Bool.not_true, Bool.not_false, cond_true, cond_false, Bool.true_and, Bool.false_and, Bool.and_true, Bool.and_false] <;> rfl
                  rw [hu]; rfl
                · skip
                  have h31 := f_not h29
                  refine a_skip ?_
                  show A _ _ _ _ _ _ _
                  refine a_seq ?_
                  refine a_rseq ?_
                  refine rg_put (d := 47) (v := .pt 101 4) rfl (og rfl (of_eff (s_field_pt rfl Try.underlying48 rfl ti3 rfl rfl rfl) rfl)) ?_
                  refine rg_put (d := 48) (v := .d (.fl (.int .i64 x.why))) rfl (og rfl (op_load_pt rfl Try.underlying3 rfl rfl rfl rfl rfl)) ?_
                  refine rg_put (d := 49) (v := .d (.fl (.bool (x.why != 0)))) rfl (og rfl (op_bin rfl rfl rfl (b_neq _ _ _ _) rfl)) ?_
                  refine rg_done rfl ?_
                  refine a_cond rfl (fun h32 => ?_) (fun h32 => ?_)
                  · skip
                    have h33 := t_bne h32
                    refine a_rseq ?_
                    refine rg_put (d := 2) (v := .d (.fl (.int .i64 1))) rfl (og rfl (op_assign rfl rfl rfl)) ?_
                    refine rg_done rfl ?_
                    refine a_ret ?_
                    show ∃ ds, ResL _ _ _ ds ∧ RV.of ds = _
                    refine ⟨[.fl (.int .i64 1)], (.cons (.tmp rfl (.d _)) .nil), ?_⟩
                    have hw : sEq (wd x.kind) ⟨#[]⟩ = false := by rw [wd_e]; simp only [Bool.not_eq_true', Bool.not_eq_false', Bool.and_eq_true, Bool.and_eq_false_iff, decide_eq_true_eq, decide_eq_false_iff_not]; omega
                    have hu : rcE x = 1 := by unfold rcE; simp only [hw, h1, h3, h6, h8, h9, h12, h14, h17, h29, h31, h32, Bool.true_or, Bool.false_or, Bool.or_true, Bool.or_false, Bool.not_true, Bool.not_false, cond_true, cond_false, Bool.true_and, Bool.false_and, Bool.and_true, Bool.and_false] <;> rfl
                    rw [hu]; rfl
                  · skip
                    have h34 := f_bne h32
                    refine a_skip ?_
                    show A _ _ _ _ _ _ _
                    refine a_rseq ?_
                    refine rg_put (d := 2) (v := .d (.fl (.int .i64 0))) rfl (og rfl (op_assign rfl rfl rfl)) ?_
                    refine rg_done rfl ?_
                    refine a_ret ?_
                    show ∃ ds, ResL _ _ _ ds ∧ RV.of ds = _
                    refine ⟨[.fl (.int .i64 0)], (.cons (.tmp rfl (.d _)) .nil), ?_⟩
                    have hw : sEq (wd x.kind) ⟨#[]⟩ = false := by rw [wd_e]; simp only [Bool.not_eq_true', Bool.not_eq_false', Bool.and_eq_true, Bool.and_eq_false_iff, decide_eq_true_eq, decide_eq_false_iff_not]; omega
                    have hu : rcE x = 0 := by unfold rcE; simp only [hw, h1, h3, h6, h8, h9, h12, h14, h17, h29, h31, h32, Bool.true_or, Bool.false_or, Bool.or_true, Bool.or_false, Bool.not_true, Bool.not_false, cond_true, cond_false, Bool.true_and, Bool.false_and, Bool.and_true, Bool.and_false] <;> rfl
                    rw [hu]; rfl
          · skip
            have h35 := t_dec h12
            refine rg_put (d := 23) (v := .d (.fl undef)) rfl (on rfl rfl rfl h12) ?_
            refine rg_put (d := 24) (v := .d (.fl undef)) rfl (on rfl rfl rfl h12) ?_
            refine rg_put (d := 25) (v := .d (.fl undef)) rfl (on rfl rfl rfl h12) ?_
            refine rg_put (d := 26) (v := .d (.fl (.bool true))) rfl (og rfl (op_pick rfl rfl (by rw [h12]; rfl) rfl)) ?_
            refine rg_done rfl ?_
            refine a_condK rfl rfl ?_
            refine a_rseq ?_
            refine rg_put (d := 2) (v := .d (.fl (.int .i64 12))) rfl (og rfl (op_assign rfl rfl rfl)) ?_
            refine rg_done rfl ?_
            refine a_ret ?_
            show ∃ ds, ResL _ _ _ ds ∧ RV.of ds = _
            refine ⟨[.fl (.int .i64 12)], (.cons (.tmp rfl (.d _)) .nil), ?_⟩
            have hw : sEq (wd x.kind) ⟨#[]⟩ = false := by rw [wd_e]; simp only [Bool.not_eq_true', Bool.not_eq_false', Bool.and_eq_true, Bool.and_eq_false_iff, decide_eq_true_eq, decide_eq_false_iff_not]; omega
            have hu : rcE x = 12 := by unfold rcE; simp only [hw, h1, h3, h6, h8, h9, h12, Bool.true_or, Bool.false_or, Bool.or_true, Bool.or_false, Bool.not_true, Bool.not_false, cond_true, cond_false, Bool.true_and, Bool.false_and, Bool.and_true, Bool.and_false] <;> rfl
            rw [hu]; rfl
  · skip
    have h36 := t_dec h1
    refine rg_put (d := 7) (v := .d (.fl undef)) rfl (on rfl rfl rfl h1) ?_
    refine rg_put (d := 8) (v := .d (.fl undef)) rfl (on rfl rfl rfl h1) ?_
    refine rg_put (d := 9) (v := .d (.fl undef)) rfl (on rfl rfl rfl h1) ?_
    refine rg_put (d := 10) (v := .d (.fl (.bool true))) rfl (og rfl (op_pick rfl rfl (by rw [h1]; rfl) rfl)) ?_
    refine rg_done rfl ?_
    refine a_condK rfl rfl ?_
    refine a_rseq ?_
    refine rg_put (d := 2) (v := .d (.fl (.int .i64 1))) rfl (og rfl (op_assign rfl rfl rfl)) ?_
    refine rg_done rfl ?_
    refine a_ret ?_
    show ∃ ds, ResL _ _ _ ds ∧ RV.of ds = _
    refine ⟨[.fl (.int .i64 1)], (.cons (.tmp rfl (.d _)) .nil), ?_⟩
    have hw : sEq (wd x.kind) ⟨#[]⟩ = true := by rw [wd_e]; simp only [Bool.not_eq_true', Bool.not_eq_false', Bool.and_eq_true, Bool.and_eq_false_iff, decide_eq_true_eq, decide_eq_false_iff_not]; omega
    have hu : rcE x = 1 := by unfold rcE; simp only [hw, h1, Bool.true_or, Bool.false_or, Bool.or_true, Bool.or_false, Bool.not_true, Bool.not_false, cond_true, cond_false, Bool.true_and, Bool.false_and, Bool.and_true, Bool.and_false] <;> rfl
    rw [hu]; rfl
set_option maxHeartbeats 4000000 in
set_option maxRecDepth 100000 in
theorem hdP (f : Fil) : Ctr Try.prog 33 [.ag (eFil f)] (.d (.fl (.int .i64 (hdE f)))) := by
  refine ctr (n := 29) (rs := #[.tmp 2]) (L := [(0, .d (.ag (eFil f)))]) Try.func33 rfl rfl rfl rfl rfl (fun w0 U0 => ?_)
  refine a_rseq ?_
  refine rg_nam (d := 1) (v := .pt 101 0) (m := 101) (nw := [(101, .bx 27 (eFil f))]) rfl (og rfl (of_eff (op_box 101 rfl rfl rfl rfl) rfl)) rfl ?_
  refine rg_put (d := 2) (v := .d (.fl (.int .i64 0))) rfl (og rfl (op_assign rfl rfl rfl)) ?_
  refine rg_done rfl ?_
  refine a_seq ?_
  refine a_block ?_
  refine a_rseq ?_
  refine rg_put (d := 4) (v := .pt 101 0) rfl (og rfl (of_eff (s_field_pt rfl Try.underlying27 rfl ti9 rfl rfl rfl) rfl)) ?_
  refine rg_put (d := 5) (v := .d (.fl (.string f.fr))) rfl (og rfl (op_load_pt rfl Try.underlying9 rfl rfl rfl rfl rfl)) ?_
  refine rg_put (d := 6) (v := .d (.fl (.bool (Nm.nmB f.fr)))) rfl (og rfl (op_call rfl Try.func27 nm27 rfl (.cons rfl (.d _) .nil) (namP f.fr) rfl)) ?_
  refine rg_put (d := 7) (v := .d (.fl (.bool ((!(Nm.nmB f.fr)))))) rfl (og rfl (op_un rfl rfl (u_not _) rfl)) ?_
  refine rg_put (d := 8) (v := .d (.fl (.bool ((!(Nm.nmB f.fr)))))) rfl (og rfl (op_move rfl rfl rfl)) ?_
  rcases fot ((!(Nm.nmB f.fr))) with h1 | h1
  · skip
    have h2 := f_not h1
    refine rg_put (d := 9) (v := .pt 101 1) rfl (oy rfl rfl rfl h1 (of_eff (s_field_pt rfl Try.underlying27 rfl ti9 rfl rfl rfl) rfl)) ?_
    refine rg_put (d := 10) (v := .d (.fl (.string f.to))) rfl (oy rfl rfl rfl h1 (op_load_pt rfl Try.underlying9 rfl rfl rfl rfl rfl)) ?_
    refine rg_put (d := 11) (v := .d (.fl (.bool (Nm.nmB f.to)))) rfl (oy rfl rfl rfl h1 (op_call rfl Try.func27 nm27 rfl (.cons rfl (.d _) .nil) (namP f.to) rfl)) ?_
    refine rg_put (d := 12) (v := .d (.fl (.bool ((!(Nm.nmB f.to)))))) rfl (oy rfl rfl rfl h1 (op_un rfl rfl (u_not _) rfl)) ?_
    refine rg_put (d := 13) (v := .d (.fl (.bool ((!(Nm.nmB f.to)))))) rfl (og rfl (op_pick rfl rfl (by rw [h1]; rfl) rfl)) ?_
    refine rg_put (d := 3) (v := .d (.fl (.bool ((!(Nm.nmB f.to)))))) rfl (og rfl (op_assign rfl rfl rfl)) ?_
    refine rg_done rfl ?_
    refine a_cond rfl (fun h3 => ?_) (fun h3 => ?_)
    · skip
      have h4 := t_not h3
      refine a_rseq ?_
      refine rg_put (d := 2) (v := .d (.fl (.int .i64 6))) rfl (og rfl (op_assign rfl rfl rfl)) ?_
      refine rg_done rfl ?_
      refine a_ret ?_
      show ∃ ds, ResL _ _ _ ds ∧ RV.of ds = _
      refine ⟨[.fl (.int .i64 6)], (.cons (.tmp rfl (.d _)) .nil), ?_⟩
      have hu : hdE f = 6 := by unfold hdE; simp only [h1, h2, h3, h4, Bool.true_or, Bool.false_or, Bool.or_true, Bool.or_false, Bool.not_true, Bool.not_false, cond_true, cond_false, Bool.true_and, Bool.false_and, Bool.and_true, Bool.and_false] <;> rfl
      rw [hu]; rfl
    · skip
      have h5 := f_not h3
      refine a_rseq ?_
      refine rg_put (d := 15) (v := .pt 101 0) rfl (og rfl (of_eff (s_field_pt rfl Try.underlying27 rfl ti9 rfl rfl rfl) rfl)) ?_
      refine rg_put (d := 16) (v := .d (.fl (.string f.fr))) rfl (og rfl (op_load_pt rfl Try.underlying9 rfl rfl rfl rfl rfl)) ?_
      refine rg_put (d := 17) (v := .pt 101 1) rfl (og rfl (of_eff (s_field_pt rfl Try.underlying27 rfl ti9 rfl rfl rfl) rfl)) ?_
      refine rg_put (d := 18) (v := .d (.fl (.string f.to))) rfl (og rfl (op_load_pt rfl Try.underlying9 rfl rfl rfl rfl rfl)) ?_
      refine rg_put (d := 19) (v := .d (.fl (.bool (sEq f.fr f.to)))) rfl (og rfl (op_bin rfl rfl rfl (b_seq _ _ _) rfl)) ?_
      refine rg_put (d := 14) (v := .d (.fl (.bool (sEq f.fr f.to)))) rfl (og rfl (op_assign rfl rfl rfl)) ?_
      refine rg_done rfl ?_
      refine a_cond rfl (fun h6 => ?_) (fun h6 => ?_)
      · skip
        refine a_rseq ?_
        refine rg_put (d := 2) (v := .d (.fl (.int .i64 30))) rfl (og rfl (op_assign rfl rfl rfl)) ?_
        refine rg_done rfl ?_
        refine a_ret ?_
        show ∃ ds, ResL _ _ _ ds ∧ RV.of ds = _
        refine ⟨[.fl (.int .i64 30)], (.cons (.tmp rfl (.d _)) .nil), ?_⟩
        have hu : hdE f = 30 := by unfold hdE; simp only [h1, h2, h3, h5, h6, Bool.true_or, Bool.false_or, Bool.or_true, Bool.or_false, Bool.not_true, Bool.not_false, cond_true, cond_false, Bool.true_and, Bool.false_and, Bool.and_true, Bool.and_false] <;> rfl
        rw [hu]; rfl
      · skip
        refine a_rseq ?_
        refine rg_put (d := 21) (v := .pt 101 2) rfl (og rfl (of_eff (s_field_pt rfl Try.underlying27 rfl ti3 rfl rfl rfl) rfl)) ?_
        refine rg_put (d := 22) (v := .d (.fl (.int .i64 f.seq))) rfl (og rfl (op_load_pt rfl Try.underlying3 rfl rfl rfl rfl rfl)) ?_
        refine rg_put (d := 23) (v := .d (.fl (.bool ((decide (f.seq < 1)))))) rfl (og rfl (op_bin rfl rfl rfl (b_lss _ _ _ _) rfl)) ?_
        refine rg_put (d := 24) (v := .d (.fl (.bool ((decide (f.seq < 1)))))) rfl (og rfl (op_move rfl rfl rfl)) ?_
        rcases fot ((decide (f.seq < 1))) with h7 | h7
        · skip
          have h8 := f_dec h7
          refine rg_put (d := 25) (v := .pt 101 2) rfl (oy rfl rfl rfl h7 (of_eff (s_field_pt rfl Try.underlying27 rfl ti3 rfl rfl rfl) rfl)) ?_
          refine rg_put (d := 26) (v := .d (.fl (.int .i64 f.seq))) rfl (oy rfl rfl rfl h7 (op_load_pt rfl Try.underlying3 rfl rfl rfl rfl rfl)) ?_
          refine rg_put (d := 27) (v := .d (.fl (.bool ((decide (2147483648 < f.seq)))))) rfl (oy rfl rfl rfl h7 (op_bin rfl rfl rfl (b_gtr _ _ _ _) rfl)) ?_
          refine rg_put (d := 28) (v := .d (.fl (.bool ((decide (2147483648 < f.seq)))))) rfl (og rfl (op_pick rfl rfl (by rw [h7]; rfl) rfl)) ?_
          refine rg_put (d := 20) (v := .d (.fl (.bool ((decide (2147483648 < f.seq)))))) rfl (og rfl (op_assign rfl rfl rfl)) ?_
          refine rg_done rfl ?_
          refine a_cond rfl (fun h9 => ?_) (fun h9 => ?_)
          · skip
            have h10 := t_dec h9
            refine a_rseq ?_
            refine rg_put (d := 2) (v := .d (.fl (.int .i64 31))) rfl (og rfl (op_assign rfl rfl rfl)) ?_
            refine rg_done rfl ?_
            refine a_ret ?_
            show ∃ ds, ResL _ _ _ ds ∧ RV.of ds = _
            refine ⟨[.fl (.int .i64 31)], (.cons (.tmp rfl (.d _)) .nil), ?_⟩
            have hu : hdE f = 31 := by unfold hdE; simp only [h1, h2, h3, h5, h6, h7, h9, Bool.true_or, Bool.false_or, Bool.or_true, Bool.or_false, Bool.not_true, Bool.not_false, cond_true, cond_false, Bool.true_and, Bool.false_and, Bool.and_true, Bool.and_false] <;> rfl
            rw [hu]; rfl
          · skip
            have h11 := f_dec h9
            refine a_skip ?_
            show A _ _ _ _ _ _ _
            refine a_rseq ?_
            refine rg_put (d := 2) (v := .d (.fl (.int .i64 0))) rfl (og rfl (op_assign rfl rfl rfl)) ?_
            refine rg_done rfl ?_
            refine a_ret ?_
            show ∃ ds, ResL _ _ _ ds ∧ RV.of ds = _
            refine ⟨[.fl (.int .i64 0)], (.cons (.tmp rfl (.d _)) .nil), ?_⟩
            have hu : hdE f = 0 := by unfold hdE; simp only [h1, h2, h3, h5, h6, h7, h9, Bool.true_or, Bool.false_or, Bool.or_true, Bool.or_false, Bool.not_true, Bool.not_false, cond_true, cond_false, Bool.true_and, Bool.false_and, Bool.and_true, Bool.and_false] <;> rfl
            rw [hu]; rfl
        · skip
          have h12 := t_dec h7
          refine rg_put (d := 25) (v := .d (.fl undef)) rfl (on rfl rfl rfl h7) ?_
          refine rg_put (d := 26) (v := .d (.fl undef)) rfl (on rfl rfl rfl h7) ?_
          refine rg_put (d := 27) (v := .d (.fl undef)) rfl (on rfl rfl rfl h7) ?_
          refine rg_put (d := 28) (v := .d (.fl (.bool true))) rfl (og rfl (op_pick rfl rfl (by rw [h7]; rfl) rfl)) ?_
          refine rg_put (d := 20) (v := .d (.fl (.bool true))) rfl (og rfl (op_assign rfl rfl rfl)) ?_
          refine rg_done rfl ?_
          refine a_condK rfl rfl ?_
          refine a_rseq ?_
          refine rg_put (d := 2) (v := .d (.fl (.int .i64 31))) rfl (og rfl (op_assign rfl rfl rfl)) ?_
          refine rg_done rfl ?_
          refine a_ret ?_
          show ∃ ds, ResL _ _ _ ds ∧ RV.of ds = _
          refine ⟨[.fl (.int .i64 31)], (.cons (.tmp rfl (.d _)) .nil), ?_⟩
          have hu : hdE f = 31 := by unfold hdE; simp only [h1, h2, h3, h5, h6, h7, Bool.true_or, Bool.false_or, Bool.or_true, Bool.or_false, Bool.not_true, Bool.not_false, cond_true, cond_false, Bool.true_and, Bool.false_and, Bool.and_true, Bool.and_false] <;> rfl
          rw [hu]; rfl
  · skip
    have h13 := t_not h1
    refine rg_put (d := 9) (v := .d (.fl undef)) rfl (on rfl rfl rfl h1) ?_
    refine rg_put (d := 10) (v := .d (.fl undef)) rfl (on rfl rfl rfl h1) ?_
    refine rg_put (d := 11) (v := .d (.fl undef)) rfl (on rfl rfl rfl h1) ?_
    refine rg_put (d := 12) (v := .d (.fl undef)) rfl (on rfl rfl rfl h1) ?_
    refine rg_put (d := 13) (v := .d (.fl (.bool true))) rfl (og rfl (op_pick rfl rfl (by rw [h1]; rfl) rfl)) ?_
    refine rg_put (d := 3) (v := .d (.fl (.bool true))) rfl (og rfl (op_assign rfl rfl rfl)) ?_
    refine rg_done rfl ?_
    refine a_condK rfl rfl ?_
    refine a_rseq ?_
    refine rg_put (d := 2) (v := .d (.fl (.int .i64 6))) rfl (og rfl (op_assign rfl rfl rfl)) ?_
    refine rg_done rfl ?_
    refine a_ret ?_
    show ∃ ds, ResL _ _ _ ds ∧ RV.of ds = _
    refine ⟨[.fl (.int .i64 6)], (.cons (.tmp rfl (.d _)) .nil), ?_⟩
    have hu : hdE f = 6 := by unfold hdE; simp only [h1, h13, Bool.true_or, Bool.false_or, Bool.or_true, Bool.or_false, Bool.not_true, Bool.not_false, cond_true, cond_false, Bool.true_and, Bool.false_and, Bool.and_true, Bool.and_false] <;> rfl
    rw [hu]; rfl
set_option maxHeartbeats 4000000 in
set_option maxRecDepth 100000 in
theorem hdR (f : Fil) : Ctr Try.prog 37 [.ag (eFil f)] (.d (.fl (.int .i64 (hdE f)))) := by
  refine ctr (n := 26) (rs := #[.tmp 2]) (L := [(0, .d (.ag (eFil f)))]) Try.func37 rfl rfl rfl rfl rfl (fun w0 U0 => ?_)
  refine a_rseq ?_
  refine rg_nam (d := 1) (v := .pt 101 0) (m := 101) (nw := [(101, .bx 27 (eFil f))]) rfl (og rfl (of_eff (op_box 101 rfl rfl rfl rfl) rfl)) rfl ?_
  refine rg_put (d := 2) (v := .d (.fl (.int .i64 0))) rfl (og rfl (op_assign rfl rfl rfl)) ?_
  refine rg_done rfl ?_
  refine a_seq ?_
  refine a_rseq ?_
  refine rg_put (d := 3) (v := .pt 101 0) rfl (og rfl (of_eff (s_field_pt rfl Try.underlying27 rfl ti9 rfl rfl rfl) rfl)) ?_
  refine rg_put (d := 4) (v := .d (.fl (.string f.fr))) rfl (og rfl (op_load_pt rfl Try.underlying9 rfl rfl rfl rfl rfl)) ?_
  refine rg_put (d := 5) (v := .d (.fl (.bool (Nm.nmB f.fr)))) rfl (og rfl (op_call rfl Try.func28 nm28 rfl (.cons rfl (.d _) .nil) (namR f.fr) rfl)) ?_
  refine rg_put (d := 6) (v := .d (.fl (.bool ((!(Nm.nmB f.fr)))))) rfl (og rfl (op_un rfl rfl (u_not _) rfl)) ?_
  refine rg_put (d := 7) (v := .d (.fl (.bool ((!(Nm.nmB f.fr)))))) rfl (og rfl (op_move rfl rfl rfl)) ?_
  rcases fot ((!(Nm.nmB f.fr))) with h1 | h1
  · skip
    have h2 := f_not h1
    refine rg_put (d := 8) (v := .pt 101 1) rfl (oy rfl rfl rfl h1 (of_eff (s_field_pt rfl Try.underlying27 rfl ti9 rfl rfl rfl) rfl)) ?_
    refine rg_put (d := 9) (v := .d (.fl (.string f.to))) rfl (oy rfl rfl rfl h1 (op_load_pt rfl Try.underlying9 rfl rfl rfl rfl rfl)) ?_
    refine rg_put (d := 10) (v := .d (.fl (.bool (Nm.nmB f.to)))) rfl (oy rfl rfl rfl h1 (op_call rfl Try.func28 nm28 rfl (.cons rfl (.d _) .nil) (namR f.to) rfl)) ?_
    refine rg_put (d := 11) (v := .d (.fl (.bool ((!(Nm.nmB f.to)))))) rfl (oy rfl rfl rfl h1 (op_un rfl rfl (u_not _) rfl)) ?_
    refine rg_put (d := 12) (v := .d (.fl (.bool ((!(Nm.nmB f.to)))))) rfl (og rfl (op_pick rfl rfl (by rw [h1]; rfl) rfl)) ?_
    refine rg_done rfl ?_
    refine a_cond rfl (fun h3 => ?_) (fun h3 => ?_)
    · skip
      have h4 := t_not h3
      refine a_rseq ?_
      refine rg_put (d := 2) (v := .d (.fl (.int .i64 6))) rfl (og rfl (op_assign rfl rfl rfl)) ?_
      refine rg_done rfl ?_
      refine a_ret ?_
      show ∃ ds, ResL _ _ _ ds ∧ RV.of ds = _
      refine ⟨[.fl (.int .i64 6)], (.cons (.tmp rfl (.d _)) .nil), ?_⟩
      have hu : hdE f = 6 := by unfold hdE; simp only [h1, h2, h3, h4, Bool.true_or, Bool.false_or, Bool.or_true, Bool.or_false, Bool.not_true, Bool.not_false, cond_true, cond_false, Bool.true_and, Bool.false_and, Bool.and_true, Bool.and_false] <;> rfl
      rw [hu]; rfl
    · skip
      have h5 := f_not h3
      refine a_skip ?_
      show A _ _ _ _ _ _ _
      refine a_seq ?_
      refine a_rseq ?_
      refine rg_put (d := 13) (v := .pt 101 0) rfl (og rfl (of_eff (s_field_pt rfl Try.underlying27 rfl ti9 rfl rfl rfl) rfl)) ?_
      refine rg_put (d := 14) (v := .d (.fl (.string f.fr))) rfl (og rfl (op_load_pt rfl Try.underlying9 rfl rfl rfl rfl rfl)) ?_
      refine rg_put (d := 15) (v := .pt 101 1) rfl (og rfl (of_eff (s_field_pt rfl Try.underlying27 rfl ti9 rfl rfl rfl) rfl)) ?_
      refine rg_put (d := 16) (v := .d (.fl (.string f.to))) rfl (og rfl (op_load_pt rfl Try.underlying9 rfl rfl rfl rfl rfl)) ?_
      refine rg_put (d := 17) (v := .d (.fl (.bool (sEq f.fr f.to)))) rfl (og rfl (op_bin rfl rfl rfl (b_seq _ _ _) rfl)) ?_
      refine rg_done rfl ?_
      refine a_cond rfl (fun h6 => ?_) (fun h6 => ?_)
      · skip
        refine a_rseq ?_
        refine rg_put (d := 2) (v := .d (.fl (.int .i64 30))) rfl (og rfl (op_assign rfl rfl rfl)) ?_
        refine rg_done rfl ?_
        refine a_ret ?_
        show ∃ ds, ResL _ _ _ ds ∧ RV.of ds = _
        refine ⟨[.fl (.int .i64 30)], (.cons (.tmp rfl (.d _)) .nil), ?_⟩
        have hu : hdE f = 30 := by unfold hdE; simp only [h1, h2, h3, h5, h6, Bool.true_or, Bool.false_or, Bool.or_true, Bool.or_false, Bool.not_true, Bool.not_false, cond_true, cond_false, Bool.true_and, Bool.false_and, Bool.and_true, Bool.and_false] <;> rfl
        rw [hu]; rfl
      · skip
        refine a_skip ?_
        show A _ _ _ _ _ _ _
        refine a_seq ?_
        refine a_rseq ?_
        refine rg_put (d := 18) (v := .pt 101 2) rfl (og rfl (of_eff (s_field_pt rfl Try.underlying27 rfl ti3 rfl rfl rfl) rfl)) ?_
        refine rg_put (d := 19) (v := .d (.fl (.int .i64 f.seq))) rfl (og rfl (op_load_pt rfl Try.underlying3 rfl rfl rfl rfl rfl)) ?_
        refine rg_put (d := 20) (v := .d (.fl (.bool ((decide (f.seq < 1)))))) rfl (og rfl (op_bin rfl rfl rfl (b_lss _ _ _ _) rfl)) ?_
        refine rg_put (d := 21) (v := .d (.fl (.bool ((decide (f.seq < 1)))))) rfl (og rfl (op_move rfl rfl rfl)) ?_
        rcases fot ((decide (f.seq < 1))) with h7 | h7
        · skip
          have h8 := f_dec h7
          refine rg_put (d := 22) (v := .pt 101 2) rfl (oy rfl rfl rfl h7 (of_eff (s_field_pt rfl Try.underlying27 rfl ti3 rfl rfl rfl) rfl)) ?_
          refine rg_put (d := 23) (v := .d (.fl (.int .i64 f.seq))) rfl (oy rfl rfl rfl h7 (op_load_pt rfl Try.underlying3 rfl rfl rfl rfl rfl)) ?_
          refine rg_put (d := 24) (v := .d (.fl (.bool ((decide (2147483648 < f.seq)))))) rfl (oy rfl rfl rfl h7 (op_bin rfl rfl rfl (b_gtr _ _ _ _) rfl)) ?_
          refine rg_put (d := 25) (v := .d (.fl (.bool ((decide (2147483648 < f.seq)))))) rfl (og rfl (op_pick rfl rfl (by rw [h7]; rfl) rfl)) ?_
          refine rg_done rfl ?_
          refine a_cond rfl (fun h9 => ?_) (fun h9 => ?_)
          · skip
            have h10 := t_dec h9
            refine a_rseq ?_
            refine rg_put (d := 2) (v := .d (.fl (.int .i64 31))) rfl (og rfl (op_assign rfl rfl rfl)) ?_
            refine rg_done rfl ?_
            refine a_ret ?_
            show ∃ ds, ResL _ _ _ ds ∧ RV.of ds = _
            refine ⟨[.fl (.int .i64 31)], (.cons (.tmp rfl (.d _)) .nil), ?_⟩
            have hu : hdE f = 31 := by unfold hdE; simp only [h1, h2, h3, h5, h6, h7, h9, Bool.true_or, Bool.false_or, Bool.or_true, Bool.or_false, Bool.not_true, Bool.not_false, cond_true, cond_false, Bool.true_and, Bool.false_and, Bool.and_true, Bool.and_false] <;> rfl
            rw [hu]; rfl
          · skip
            have h11 := f_dec h9
            refine a_skip ?_
            show A _ _ _ _ _ _ _
            refine a_rseq ?_
            refine rg_put (d := 2) (v := .d (.fl (.int .i64 0))) rfl (og rfl (op_assign rfl rfl rfl)) ?_
            refine rg_done rfl ?_
            refine a_ret ?_
            show ∃ ds, ResL _ _ _ ds ∧ RV.of ds = _
            refine ⟨[.fl (.int .i64 0)], (.cons (.tmp rfl (.d _)) .nil), ?_⟩
            have hu : hdE f = 0 := by unfold hdE; simp only [h1, h2, h3, h5, h6, h7, h9, Bool.true_or, Bool.false_or, Bool.or_true, Bool.or_false, Bool.not_true, Bool.not_false, cond_true, cond_false, Bool.true_and, Bool.false_and, Bool.and_true, Bool.and_false] <;> rfl
            rw [hu]; rfl
        · skip
          have h12 := t_dec h7
          refine rg_put (d := 22) (v := .d (.fl undef)) rfl (on rfl rfl rfl h7) ?_
          refine rg_put (d := 23) (v := .d (.fl undef)) rfl (on rfl rfl rfl h7) ?_
          refine rg_put (d := 24) (v := .d (.fl undef)) rfl (on rfl rfl rfl h7) ?_
          refine rg_put (d := 25) (v := .d (.fl (.bool true))) rfl (og rfl (op_pick rfl rfl (by rw [h7]; rfl) rfl)) ?_
          refine rg_done rfl ?_
          refine a_condK rfl rfl ?_
          refine a_rseq ?_
          refine rg_put (d := 2) (v := .d (.fl (.int .i64 31))) rfl (og rfl (op_assign rfl rfl rfl)) ?_
          refine rg_done rfl ?_
          refine a_ret ?_
          show ∃ ds, ResL _ _ _ ds ∧ RV.of ds = _
          refine ⟨[.fl (.int .i64 31)], (.cons (.tmp rfl (.d _)) .nil), ?_⟩
          have hu : hdE f = 31 := by unfold hdE; simp only [h1, h2, h3, h5, h6, h7, Bool.true_or, Bool.false_or, Bool.or_true, Bool.or_false, Bool.not_true, Bool.not_false, cond_true, cond_false, Bool.true_and, Bool.false_and, Bool.and_true, Bool.and_false] <;> rfl
          rw [hu]; rfl
  · skip
    have h13 := t_not h1
    refine rg_put (d := 8) (v := .d (.fl undef)) rfl (on rfl rfl rfl h1) ?_
    refine rg_put (d := 9) (v := .d (.fl undef)) rfl (on rfl rfl rfl h1) ?_
    refine rg_put (d := 10) (v := .d (.fl undef)) rfl (on rfl rfl rfl h1) ?_
    refine rg_put (d := 11) (v := .d (.fl undef)) rfl (on rfl rfl rfl h1) ?_
    refine rg_put (d := 12) (v := .d (.fl (.bool true))) rfl (og rfl (op_pick rfl rfl (by rw [h1]; rfl) rfl)) ?_
    refine rg_done rfl ?_
    refine a_condK rfl rfl ?_
    refine a_rseq ?_
    refine rg_put (d := 2) (v := .d (.fl (.int .i64 6))) rfl (og rfl (op_assign rfl rfl rfl)) ?_
    refine rg_done rfl ?_
    refine a_ret ?_
    show ∃ ds, ResL _ _ _ ds ∧ RV.of ds = _
    refine ⟨[.fl (.int .i64 6)], (.cons (.tmp rfl (.d _)) .nil), ?_⟩
    have hu : hdE f = 6 := by unfold hdE; simp only [h1, h13, Bool.true_or, Bool.false_or, Bool.or_true, Bool.or_false, Bool.not_true, Bool.not_false, cond_true, cond_false, Bool.true_and, Bool.false_and, Bool.and_true, Bool.and_false] <;> rfl
    rw [hu]; rfl
set_option maxHeartbeats 4000000 in
set_option maxRecDepth 100000 in
theorem tfP (f : Fil) (hl : f.recs.length ≤ 1024) : Ctr Try.prog 35 [.ag (eFil f)] (.tu [.fl (.int .i64 (tfE f.recs).1), .fl (.int .i64 (tfE f.recs).2)]) := by
  refine ctr (n := 32) (rs := #[.tmp 2, .tmp 3]) (L := [(0, .d (.ag (eFil f)))]) Try.func35 rfl rfl rfl rfl rfl (fun w0 U0 => ?_)
  refine a_rseq ?_
  refine rg_nam (d := 1) (v := .pt 101 0) (m := 101) (nw := [(101, .bx 27 (eFil f))]) rfl (og rfl (of_eff (op_box 101 rfl rfl rfl rfl) rfl)) rfl ?_
  refine rg_put (d := 2) (v := .d (.fl (.int .i64 0))) rfl (og rfl (op_assign rfl rfl rfl)) ?_
  refine rg_put (d := 3) (v := .d (.fl (.int .i64 0))) rfl (og rfl (op_assign rfl rfl rfl)) ?_
  refine rg_done rfl ?_
  refine a_rseq ?_
  refine rg_put (d := 4) (v := .d (.fl (.slice none 0 0))) rfl (og rfl (op_assign rfl rfl rfl)) ?_
  refine rg_done rfl ?_
  refine a_seq ?_
  refine a_rseq ?_
  refine rg_imp (imp_nilT 4 102 3 1 rfl rfl) ?_
  refine rg_put (d := 7) (v := .pt 101 3) rfl (og rfl (of_eff (s_field_pt rfl Try.underlying27 rfl ti23 rfl rfl rfl) rfl)) ?_
  refine rg_put (d := 8) (v := .d (.sl 5 (List.map eRec f.recs))) rfl (og rfl (op_load_pt rfl Try.underlying23 rfl rfl rfl rfl rfl)) ?_
  refine rg_put (d := 9) (v := .d (.fl (.int .i64 (f.recs.length : Int)))) rfl (og rfl (s_len rfl Try.underlying23 rfl rfl)) ?_
  refine rg_put (d := 10) (v := .d (.fl (.int .i64 0))) rfl (og rfl (op_move rfl rfl rfl)) ?_
  refine rg_done rfl ?_
  refine a_block ?_
  refine a_loop (ι := Nat) (fun k => SS [(0, .d (.ag (eFil f))), (1, .pt 101 0), (2, .d (.fl (.int .i64 0))), (3, .d (.fl (.int .i64 0))), (8, .d (.sl 5 (List.map eRec f.recs))), (9, .d (.fl (.int .i64 (f.recs.length : Int)))), (10, .d (.fl (.int .i64 (k : Int)))), (4, .ow 102)] [(101, .bx 27 (eFil f)), (102, .tr 3 1 (tD (rI .i64) (cl f.recs k)))]) (fun k => k ≤ f.recs.length) (fun k => f.recs.length - k) 0 (by omega) (imp_forget rfl ⟨rfl, rfl, rfl, rfl, rfl, rfl, (by first | rfl | exact ci (by omega) | exact ci (by simp) | exact cd (by simp) | simp), (by first | rfl | exact ci (by omega) | exact ci (by simp) | exact cd (by simp) | simp), trivial⟩ ⟨rfl, rfl, trivial⟩) (fun k hok => ?_)
  have hk := hok
  have hcl := cl_len f.recs k
  refine a_rseq ?_
  refine rg_put (d := 11) (v := .d (.fl (.bool ((decide ((k : Int) < (f.recs.length : Int))))))) rfl (og rfl (op_bin rfl rfl rfl (b_lss _ _ _ _) rfl)) ?_
  refine rg_done rfl ?_
  refine a_seq ?_
  refine a_cond rfl (fun h1 => ?_) (fun h1 => ?_)
  · skip
    have h2 := t_dec h1
    refine a_skip ?_
    show A _ _ _ _ _ _ _
    refine a_seq ?_
    refine a_block ?_
    refine a_rseq ?_
    refine rg_put (d := 12) (v := .el ((eRec (ix f.recs k)))) rfl (og rfl (s_index rfl Try.underlying23 ti48 rfl rfl (by omega) (row_at (by omega)) rfl)) ?_
    refine rg_put (d := 13) (v := .d (.ag (eRec (ix f.recs k)))) rfl (og rfl (of_eff (s_load_els rfl Try.underlying48 rfl ti48 rfl rfl rfl) rfl)) ?_
    refine rg_nam (d := 6) (v := .pt 103 0) (m := 103) (nw := [(103, .bx 48 ([.fl (.int .i64 0), .fl (.string (⟨#[]⟩)), .fl (.int .i64 0), .fl (.int .i64 0), .fl (.int .i64 0)]))]) rfl (og rfl (of_eff (s_alloc 103 rfl ti48 (by kernel_rfl) rfl) rfl)) rfl ?_
    refine rg_sto (nw := [(103, .bx 48 ((eRec (ix f.recs k))))]) rfl (og rfl (of_eff (s_store rfl rfl ti48 rfl rfl rfl rfl rfl rfl) rfl)) ?_
    refine rg_done rfl ?_
    refine a_rseq ?_
    refine rg_put (d := 14) (v := .pt 103 0) rfl (og rfl (of_eff (s_field_pt rfl Try.underlying48 rfl ti3 rfl rfl rfl) rfl)) ?_
    refine rg_put (d := 15) (v := .d (.fl (.int .i64 ((ix f.recs k).kind)))) rfl (og rfl (op_load_pt rfl Try.underlying3 rfl rfl rfl rfl rfl)) ?_
    refine rg_put (d := 16) (v := .d (.fl (.bool (((ix f.recs k).kind == 1))))) rfl (og rfl (op_bin rfl rfl rfl (b_eql _ _ _ _) rfl)) ?_
    refine rg_put (d := 17) (v := .d (.fl (.bool (((ix f.recs k).kind == 1))))) rfl (og rfl (op_move rfl rfl rfl)) ?_
    rcases fot (((ix f.recs k).kind == 1)) with h3 | h3
    · skip
      have h4 := f_beq h3
      refine rg_put (d := 18) (v := .pt 103 0) rfl (oy rfl rfl rfl h3 (of_eff (s_field_pt rfl Try.underlying48 rfl ti3 rfl rfl rfl) rfl)) ?_
      refine rg_put (d := 19) (v := .d (.fl (.int .i64 ((ix f.recs k).kind)))) rfl (oy rfl rfl rfl h3 (op_load_pt rfl Try.underlying3 rfl rfl rfl rfl rfl)) ?_
      refine rg_put (d := 20) (v := .d (.fl (.bool (((ix f.recs k).kind == 2))))) rfl (oy rfl rfl rfl h3 (op_bin rfl rfl rfl (b_eql _ _ _ _) rfl)) ?_
      refine rg_put (d := 21) (v := .d (.fl (.bool (((ix f.recs k).kind == 2))))) rfl (og rfl (op_pick rfl rfl (by rw [h3]; rfl) rfl)) ?_
      refine rg_done rfl ?_
      refine a_cond rfl (fun h5 => ?_) (fun h5 => ?_)
      · skip
        have h6 := t_beq h5
        refine a_region ?_
        refine rg_put (d := 22) (v := .ow 102) rfl (og rfl (op_move rfl rfl rfl)) ?_
        refine rg_put (d := 23) (v := .pt 103 3) rfl (og rfl (of_eff (s_field_pt rfl Try.underlying48 rfl ti3 rfl rfl rfl) rfl)) ?_
        refine rg_put (d := 24) (v := .d (.fl (.int .i64 ((ix f.recs k).cents)))) rfl (og rfl (op_load_pt rfl Try.underlying3 rfl rfl rfl rfl rfl)) ?_
        refine rg_put (d := 25) (v := .d (.sl 1 (List.map (rI .i64) [(ix f.recs k).cents]))) rfl (og rfl (of_eff (op_slices rfl Try.underlying74 ti3 rfl rfl rfl (by kernel_rfl) (xs := [.fl (.int .i64 ((ix f.recs k).cents))]) rfl rfl (.cons rfl rfl (.d _) rfl rfl rfl .nil) rfl) rfl)) ?_
        refine rg_nam (d := 26) (v := .ow 104) (m := 104) (nw := [(104, .tr 3 1 (tD (rI .i64) (((cl f.recs k) ++ [(ix f.recs k).cents])))), (102, .no)]) rfl (og rfl (of_eff (s_append_td 104 rfl Try.underlying74 ti3 rfl rfl rfl rfl rfl (.d _) (by simp only [List.length_append, List.length_cons, List.length_nil]; omega) rfl) rfl)) rfl ?_
        refine rg_put (d := 4) (v := .ow 104) rfl (og rfl (op_assign rfl rfl rfl)) ?_
        refine rg_done rfl ?_
        show A _ _ _ _ _ _ _
        refine a_region ?_
        refine rg_put (d := 27) (v := .d (.fl (.int .i64 (((k : Int) + 1))))) rfl (og rfl (op_bin rfl rfl rfl (fun x y w => b_add64 _ _ _ x y w (by omega)) rfl)) ?_
        refine rg_put (d := 10) (v := .d (.fl (.int .i64 (((k : Int) + 1))))) rfl (og rfl (op_move rfl rfl rfl)) ?_
        refine rg_done rfl ?_
        have hck : (ck (ix f.recs k)) = true := by unfold ck; simp only [h1, h3, h5, Bool.true_or, Bool.false_or, Bool.or_true, Bool.or_false, Bool.not_true, Bool.not_false, cond_true, cond_false, Bool.true_and, Bool.false_and, Bool.and_true, Bool.and_false] <;> rfl
        have hst : _ = cl f.recs (k + 1) := cl_y (by omega) hck
        show ∃ i, _ ∧ _ ∧ Imp _ _ _ _ _
        refine ⟨k + 1, (by omega), by omega, imp_ren (fun m => bif Nat.beq m 102 then 104 else m) rfl ⟨rfl, rfl, rfl, rfl, rfl, rfl, (by first | rfl | exact ci (by omega) | exact ci (by simp) | exact cd (by simp) | simp), rfl, trivial⟩ ⟨rfl, (congrArg (fun z => Ob.tr 3 1 (tD (rI .i64) z)) hst), trivial⟩⟩
      · skip
        have h7 := f_beq h5
        refine a_skip ?_
        show A _ _ _ _ _ _ _
        refine a_region ?_
        refine rg_put (d := 27) (v := .d (.fl (.int .i64 (((k : Int) + 1))))) rfl (og rfl (op_bin rfl rfl rfl (fun x y w => b_add64 _ _ _ x y w (by omega)) rfl)) ?_
        refine rg_put (d := 10) (v := .d (.fl (.int .i64 (((k : Int) + 1))))) rfl (og rfl (op_move rfl rfl rfl)) ?_
        refine rg_done rfl ?_
        have hck : (ck (ix f.recs k)) = false := by unfold ck; simp only [h1, h3, h5, Bool.true_or, Bool.false_or, Bool.or_true, Bool.or_false, Bool.not_true, Bool.not_false, cond_true, cond_false, Bool.true_and, Bool.false_and, Bool.and_true, Bool.and_false] <;> rfl
        have hst : _ = cl f.recs (k + 1) := cl_n (by omega) hck
        show ∃ i, _ ∧ _ ∧ Imp _ _ _ _ _
        refine ⟨k + 1, (by omega), by omega, imp_forget rfl ⟨rfl, rfl, rfl, rfl, rfl, rfl, (by first | rfl | exact ci (by omega) | exact ci (by simp) | exact cd (by simp) | simp), rfl, trivial⟩ ⟨rfl, (congrArg (fun z => Ob.tr 3 1 (tD (rI .i64) z)) hst), trivial⟩⟩
    · skip
      have h8 := t_beq h3
      refine rg_put (d := 18) (v := .d (.fl undef)) rfl (on rfl rfl rfl h3) ?_
      refine rg_put (d := 19) (v := .d (.fl undef)) rfl (on rfl rfl rfl h3) ?_
      refine rg_put (d := 20) (v := .d (.fl undef)) rfl (on rfl rfl rfl h3) ?_
      refine rg_put (d := 21) (v := .d (.fl (.bool true))) rfl (og rfl (op_pick rfl rfl (by rw [h3]; rfl) rfl)) ?_
      refine rg_done rfl ?_
      refine a_condK rfl rfl ?_
      refine a_region ?_
      refine rg_put (d := 22) (v := .ow 102) rfl (og rfl (op_move rfl rfl rfl)) ?_
      refine rg_put (d := 23) (v := .pt 103 3) rfl (og rfl (of_eff (s_field_pt rfl Try.underlying48 rfl ti3 rfl rfl rfl) rfl)) ?_
      refine rg_put (d := 24) (v := .d (.fl (.int .i64 ((ix f.recs k).cents)))) rfl (og rfl (op_load_pt rfl Try.underlying3 rfl rfl rfl rfl rfl)) ?_
      refine rg_put (d := 25) (v := .d (.sl 1 (List.map (rI .i64) [(ix f.recs k).cents]))) rfl (og rfl (of_eff (op_slices rfl Try.underlying74 ti3 rfl rfl rfl (by kernel_rfl) (xs := [.fl (.int .i64 ((ix f.recs k).cents))]) rfl rfl (.cons rfl rfl (.d _) rfl rfl rfl .nil) rfl) rfl)) ?_
      refine rg_nam (d := 26) (v := .ow 105) (m := 105) (nw := [(105, .tr 3 1 (tD (rI .i64) (((cl f.recs k) ++ [(ix f.recs k).cents])))), (102, .no)]) rfl (og rfl (of_eff (s_append_td 105 rfl Try.underlying74 ti3 rfl rfl rfl rfl rfl (.d _) (by simp only [List.length_append, List.length_cons, List.length_nil]; omega) rfl) rfl)) rfl ?_
      refine rg_put (d := 4) (v := .ow 105) rfl (og rfl (op_assign rfl rfl rfl)) ?_
      refine rg_done rfl ?_
      show A _ _ _ _ _ _ _
      refine a_region ?_
      refine rg_put (d := 27) (v := .d (.fl (.int .i64 (((k : Int) + 1))))) rfl (og rfl (op_bin rfl rfl rfl (fun x y w => b_add64 _ _ _ x y w (by omega)) rfl)) ?_
      refine rg_put (d := 10) (v := .d (.fl (.int .i64 (((k : Int) + 1))))) rfl (og rfl (op_move rfl rfl rfl)) ?_
      refine rg_done rfl ?_
      have hck : (ck (ix f.recs k)) = true := by unfold ck; simp only [h1, h3, Bool.true_or, Bool.false_or, Bool.or_true, Bool.or_false, Bool.not_true, Bool.not_false, cond_true, cond_false, Bool.true_and, Bool.false_and, Bool.and_true, Bool.and_false] <;> rfl
      have hst : _ = cl f.recs (k + 1) := cl_y (by omega) hck
      show ∃ i, _ ∧ _ ∧ Imp _ _ _ _ _
      refine ⟨k + 1, (by omega), by omega, imp_ren (fun m => bif Nat.beq m 102 then 105 else m) rfl ⟨rfl, rfl, rfl, rfl, rfl, rfl, (by first | rfl | exact ci (by omega) | exact ci (by simp) | exact cd (by simp) | simp), rfl, trivial⟩ ⟨rfl, (congrArg (fun z => Ob.tr 3 1 (tD (rI .i64) z)) hst), trivial⟩⟩
  · skip
    have h9 := f_dec h1
    refine a_exit ?_
    show A _ _ _ _ _ _ _
    refine a_rseq ?_
    rw [show (cl f.recs k) = (cl f.recs f.recs.length) from (by rw [show k = f.recs.length by omega])]
    have hcl2 := cl_len f.recs f.recs.length
    refine rg_put (d := 28) (v := .ow 102) rfl (og rfl (op_move rfl rfl rfl)) ?_
    refine rg_imp (imp_leakT 28 102 rfl rfl) ?_
    refine rg_put (d := 29) (v := .tu [.fl (.int .i64 ((tot (cl f.recs f.recs.length)).1)), .fl (.int .i64 ((tot (cl f.recs f.recs.length)).2))]) rfl (og rfl (op_call rfl Try.func46 nm46 rfl (.cons rfl (.d _) .nil) (suP (cl f.recs f.recs.length) (by omega)) rfl)) ?_
    refine rg_put (d := 30) (v := .d (.fl (.int .i64 ((tot (cl f.recs f.recs.length)).1)))) rfl (og rfl (op_extract rfl rfl rfl rfl)) ?_
    refine rg_put (d := 31) (v := .d (.fl (.int .i64 ((tot (cl f.recs f.recs.length)).2)))) rfl (og rfl (op_extract rfl rfl rfl rfl)) ?_
    refine rg_put (d := 2) (v := .d (.fl (.int .i64 ((tot (cl f.recs f.recs.length)).1)))) rfl (og rfl (op_assign rfl rfl rfl)) ?_
    refine rg_put (d := 3) (v := .d (.fl (.int .i64 ((tot (cl f.recs f.recs.length)).2)))) rfl (og rfl (op_assign rfl rfl rfl)) ?_
    refine rg_done rfl ?_
    refine a_ret ?_
    show ∃ ds, ResL _ _ _ ds ∧ RV.of ds = _
    refine ⟨[.fl (.int .i64 ((tot (cl f.recs f.recs.length)).1)), .fl (.int .i64 ((tot (cl f.recs f.recs.length)).2))], (.cons (.tmp rfl (.d _)) (.cons (.tmp rfl (.d _)) .nil)), ?_⟩
    rw [tot_cl]; rfl
set_option maxHeartbeats 4000000 in
set_option maxRecDepth 100000 in
theorem tfR (f : Fil) (hl : f.recs.length ≤ 1024) : Ctr Try.prog 39 [.ag (eFil f)] (.tu [.fl (.int .i64 (tfE f.recs).1), .fl (.int .i64 (tfE f.recs).2)]) := by
  refine ctr (n := 39) (rs := #[.tmp 2, .tmp 3]) (L := [(0, .d (.ag (eFil f)))]) Try.func39 rfl rfl rfl rfl rfl (fun w0 U0 => ?_)
  refine a_rseq ?_
  refine rg_nam (d := 1) (v := .pt 101 0) (m := 101) (nw := [(101, .bx 27 (eFil f))]) rfl (og rfl (of_eff (op_box 101 rfl rfl rfl rfl) rfl)) rfl ?_
  refine rg_put (d := 2) (v := .d (.fl (.int .i64 0))) rfl (og rfl (op_assign rfl rfl rfl)) ?_
  refine rg_put (d := 3) (v := .d (.fl (.int .i64 0))) rfl (og rfl (op_assign rfl rfl rfl)) ?_
  refine rg_done rfl ?_
  refine a_rseq ?_
  refine rg_put (d := 4) (v := .d (.fl (.int .i64 0))) rfl (og rfl (op_assign rfl rfl rfl)) ?_
  refine rg_done rfl ?_
  refine a_seq ?_
  refine a_rseq ?_
  refine rg_put (d := 5) (v := .d (.fl (.int .i64 0))) rfl (og rfl (op_assign rfl rfl rfl)) ?_
  refine rg_done rfl ?_
  refine a_block ?_
  refine a_loop (ι := Nat) (fun k => SS [(0, .d (.ag (eFil f))), (1, .pt 101 0), (5, .d (.fl (.int .i64 (k : Int)))), (4, .d (.fl (.int .i64 (sC f.recs k))))] [(101, .bx 27 (eFil f))]) (fun k => k ≤ f.recs.length ∧ ∀ q, q < k → okc (ix f.recs q) = true) (fun k => f.recs.length - k) 0 (⟨by omega, fun q h => by omega⟩) (imp_forget rfl ⟨rfl, rfl, rfl, rfl, trivial⟩ ⟨rfl, trivial⟩) (fun k hok => ?_)
  obtain ⟨hk, hq⟩ := hok
  have hs9 := sC_in k hq
  refine a_seq ?_
  refine a_rseq ?_
  refine rg_put (d := 7) (v := .d (.fl (.int .i64 (k : Int)))) rfl (og rfl (op_move rfl rfl rfl)) ?_
  refine rg_put (d := 8) (v := .pt 101 3) rfl (og rfl (of_eff (s_field_pt rfl Try.underlying27 rfl ti23 rfl rfl rfl) rfl)) ?_
  refine rg_put (d := 9) (v := .d (.sl 5 (List.map eRec f.recs))) rfl (og rfl (op_load_pt rfl Try.underlying23 rfl rfl rfl rfl rfl)) ?_
  refine rg_put (d := 10) (v := .d (.fl (.int .i64 (f.recs.length : Int)))) rfl (og rfl (s_len rfl Try.underlying23 rfl rfl)) ?_
  refine rg_put (d := 11) (v := .d (.fl (.bool ((decide ((k : Int) < (f.recs.length : Int))))))) rfl (og rfl (op_bin rfl rfl rfl (b_lss _ _ _ _) rfl)) ?_
  refine rg_done rfl ?_
  refine a_cond rfl (fun h1 => ?_) (fun h1 => ?_)
  · skip
    have h2 := t_dec h1
    refine a_skip ?_
    show A _ _ _ _ _ _ _
    refine a_seq ?_
    refine a_block ?_
    refine a_rseq ?_
    refine rg_put (d := 14) (v := .pt 101 3) rfl (og rfl (of_eff (s_field_pt rfl Try.underlying27 rfl ti23 rfl rfl rfl) rfl)) ?_
    refine rg_put (d := 15) (v := .d (.sl 5 (List.map eRec f.recs))) rfl (og rfl (op_load_pt rfl Try.underlying23 rfl rfl rfl rfl rfl)) ?_
    refine rg_put (d := 16) (v := .d (.fl (.int .i64 (k : Int)))) rfl (og rfl (op_move rfl rfl rfl)) ?_
    refine rg_put (d := 17) (v := .el ((eRec (ix f.recs k)))) rfl (og rfl (s_index rfl Try.underlying23 ti48 rfl rfl (by omega) (row_at (by omega)) rfl)) ?_
    refine rg_put (d := 18) (v := .d (.ag (eRec (ix f.recs k)))) rfl (og rfl (of_eff (s_load_els rfl Try.underlying48 rfl ti48 rfl rfl rfl) rfl)) ?_
    refine rg_nam (d := 6) (v := .pt 102 0) (m := 102) (nw := [(102, .bx 48 ([.fl (.int .i64 0), .fl (.string (⟨#[]⟩)), .fl (.int .i64 0), .fl (.int .i64 0), .fl (.int .i64 0)]))]) rfl (og rfl (of_eff (s_alloc 102 rfl ti48 (by kernel_rfl) rfl) rfl)) rfl ?_
    refine rg_sto (nw := [(102, .bx 48 ((eRec (ix f.recs k))))]) rfl (og rfl (of_eff (s_store rfl rfl ti48 rfl rfl rfl rfl rfl rfl) rfl)) ?_
    refine rg_done rfl ?_
    refine a_seq ?_
    refine a_rseq ?_
    refine rg_put (d := 19) (v := .pt 102 0) rfl (og rfl (of_eff (s_field_pt rfl Try.underlying48 rfl ti3 rfl rfl rfl) rfl)) ?_
    refine rg_put (d := 20) (v := .d (.fl (.int .i64 ((ix f.recs k).kind)))) rfl (og rfl (op_load_pt rfl Try.underlying3 rfl rfl rfl rfl rfl)) ?_
    refine rg_put (d := 21) (v := .d (.fl (.bool (((ix f.recs k).kind != 1))))) rfl (og rfl (op_bin rfl rfl rfl (b_neq _ _ _ _) rfl)) ?_
    refine rg_put (d := 22) (v := .d (.fl (.bool (((ix f.recs k).kind != 1))))) rfl (og rfl (op_move rfl rfl rfl)) ?_
    rcases fot (((ix f.recs k).kind != 1)) with h3 | h3
    · skip
      have h4 := f_bne h3
      refine rg_put (d := 23) (v := .d (.fl undef)) rfl (on rfl rfl rfl h3) ?_
      refine rg_put (d := 24) (v := .d (.fl undef)) rfl (on rfl rfl rfl h3) ?_
      refine rg_put (d := 25) (v := .d (.fl undef)) rfl (on rfl rfl rfl h3) ?_
      refine rg_put (d := 26) (v := .d (.fl (.bool false))) rfl (og rfl (op_pick rfl rfl (by rw [h3]; rfl) rfl)) ?_
      refine rg_done rfl ?_
      refine a_condF rfl rfl ?_
      refine a_skip ?_
      show A _ _ _ _ _ _ _
      refine a_seq ?_
      refine a_rseq ?_
      refine rg_put (d := 27) (v := .pt 102 3) rfl (og rfl (of_eff (s_field_pt rfl Try.underlying48 rfl ti3 rfl rfl rfl) rfl)) ?_
      refine rg_put (d := 28) (v := .d (.fl (.int .i64 ((ix f.recs k).cents)))) rfl (og rfl (op_load_pt rfl Try.underlying3 rfl rfl rfl rfl rfl)) ?_
      refine rg_put (d := 29) (v := .d (.fl (.bool ((fitB ((ix f.recs k).cents)))))) rfl (og rfl (op_call rfl Try.func48 nm48 rfl (.cons rfl (.d _) .nil) (fiRf ((ix f.recs k).cents)) rfl)) ?_
      refine rg_put (d := 30) (v := .d (.fl (.bool ((!((fitB ((ix f.recs k).cents)))))))) rfl (og rfl (op_un rfl rfl (u_not _) rfl)) ?_
      refine rg_done rfl ?_
      refine a_cond rfl (fun h5 => ?_) (fun h5 => ?_)
      · skip
        have h6 := t_not h5
        refine a_rseq ?_
        refine rg_put (d := 2) (v := .d (.fl (.int .i64 0))) rfl (og rfl (op_assign rfl rfl rfl)) ?_
        refine rg_put (d := 3) (v := .d (.fl (.int .i64 13))) rfl (og rfl (op_assign rfl rfl rfl)) ?_
        refine rg_done rfl ?_
        refine a_ret ?_
        show ∃ ds, ResL _ _ _ ds ∧ RV.of ds = _
        refine ⟨[.fl (.int .i64 0), .fl (.int .i64 13)], (.cons (.tmp rfl (.d _)) (.cons (.tmp rfl (.d _)) .nil)), ?_⟩
        have gg0 := bneb h3
        have hck : (ck (ix f.recs k)) = true := by unfold ck; simp only [gg0, h1, h3, h5, h6, Bool.true_or, Bool.false_or, Bool.or_true, Bool.or_false, Bool.not_true, Bool.not_false, cond_true, cond_false, Bool.true_and, Bool.false_and, Bool.and_true, Bool.and_false] <;> rfl
        rw [tfE_bad (k := k) (by omega) (by unfold okc; rw [hck, h6]; rfl)]; rfl
      · skip
        have h7 := f_not h5
        refine a_skip ?_
        show A _ _ _ _ _ _ _
        refine a_region ?_
        have hft := fit_t h7
        refine rg_put (d := 31) (v := .d (.fl (.int .i64 (sC f.recs k)))) rfl (og rfl (op_move rfl rfl rfl)) ?_
        refine rg_put (d := 32) (v := .pt 102 3) rfl (og rfl (of_eff (s_field_pt rfl Try.underlying48 rfl ti3 rfl rfl rfl) rfl)) ?_
        refine rg_put (d := 33) (v := .d (.fl (.int .i64 ((ix f.recs k).cents)))) rfl (og rfl (op_load_pt rfl Try.underlying3 rfl rfl rfl rfl rfl)) ?_
        refine rg_put (d := 34) (v := .d (.fl (.int .i64 (((sC f.recs k) + (ix f.recs k).cents))))) rfl (og rfl (op_bin rfl rfl rfl (fun x y w => b_add64 _ _ _ x y w (by omega)) rfl)) ?_
        refine rg_put (d := 4) (v := .d (.fl (.int .i64 (((sC f.recs k) + (ix f.recs k).cents))))) rfl (og rfl (op_assign rfl rfl rfl)) ?_
        refine rg_done rfl ?_
        show A _ _ _ _ _ _ _
        refine a_region ?_
        refine rg_put (d := 12) (v := .d (.fl (.int .i64 (k : Int)))) rfl (og rfl (op_move rfl rfl rfl)) ?_
        refine rg_put (d := 13) (v := .d (.fl (.int .i64 (((k : Int) + 1))))) rfl (og rfl (op_bin rfl rfl rfl (fun x y w => b_add64 _ _ _ x y w (by omega)) rfl)) ?_
        refine rg_put (d := 5) (v := .d (.fl (.int .i64 (((k : Int) + 1))))) rfl (og rfl (op_assign rfl rfl rfl)) ?_
        refine rg_done rfl ?_
        have gg0 := bneb h3
        have hck : (ck (ix f.recs k)) = true := by unfold ck; simp only [gg0, h1, h3, h5, h7, Bool.true_or, Bool.false_or, Bool.or_true, Bool.or_false, Bool.not_true, Bool.not_false, cond_true, cond_false, Bool.true_and, Bool.false_and, Bool.and_true, Bool.and_false] <;> rfl
        have hx : okc (ix f.recs k) = true := by unfold okc; rw [hck, h7]; rfl
        have hst : _ = sC f.recs (k + 1) := sC_y hck
        show ∃ i, _ ∧ _ ∧ Imp _ _ _ _ _
        refine ⟨k + 1, ⟨by omega, fun q h => (Nat.lt_succ_iff_lt_or_eq.1 h).elim (hq q) (fun e => by rw [e]; exact hx)⟩, by omega, imp_forget rfl ⟨rfl, rfl, (ci (by omega)), (congrArg (fun z => AV.d (.fl (.int .i64 z))) hst), trivial⟩ ⟨rfl, trivial⟩⟩
    · skip
      have h8 := t_bne h3
      refine rg_put (d := 23) (v := .pt 102 0) rfl (oy rfl rfl rfl h3 (of_eff (s_field_pt rfl Try.underlying48 rfl ti3 rfl rfl rfl) rfl)) ?_
      refine rg_put (d := 24) (v := .d (.fl (.int .i64 ((ix f.recs k).kind)))) rfl (oy rfl rfl rfl h3 (op_load_pt rfl Try.underlying3 rfl rfl rfl rfl rfl)) ?_
      refine rg_put (d := 25) (v := .d (.fl (.bool (((ix f.recs k).kind != 2))))) rfl (oy rfl rfl rfl h3 (op_bin rfl rfl rfl (b_neq _ _ _ _) rfl)) ?_
      refine rg_put (d := 26) (v := .d (.fl (.bool (((ix f.recs k).kind != 2))))) rfl (og rfl (op_pick rfl rfl (by rw [h3]; rfl) rfl)) ?_
      refine rg_done rfl ?_
      refine a_cond rfl (fun h9 => ?_) (fun h9 => ?_)
      · skip
        have h10 := t_bne h9
        refine a_exit ?_
        show A _ _ _ _ _ _ _
        refine a_region ?_
        refine rg_put (d := 12) (v := .d (.fl (.int .i64 (k : Int)))) rfl (og rfl (op_move rfl rfl rfl)) ?_
        refine rg_put (d := 13) (v := .d (.fl (.int .i64 (((k : Int) + 1))))) rfl (og rfl (op_bin rfl rfl rfl (fun x y w => b_add64 _ _ _ x y w (by omega)) rfl)) ?_
        refine rg_put (d := 5) (v := .d (.fl (.int .i64 (((k : Int) + 1))))) rfl (og rfl (op_assign rfl rfl rfl)) ?_
        refine rg_done rfl ?_
        have gg0 := bneb h3
        have gg1 := bneb h9
        have hck : (ck (ix f.recs k)) = false := by unfold ck; simp only [gg0, gg1, h1, h3, h9, Bool.true_or, Bool.false_or, Bool.or_true, Bool.or_false, Bool.not_true, Bool.not_false, cond_true, cond_false, Bool.true_and, Bool.false_and, Bool.and_true, Bool.and_false] <;> rfl
        have hx : okc (ix f.recs k) = true := by unfold okc; rw [hck]; rfl
        have hst : _ = sC f.recs (k + 1) := sC_n hck
        show ∃ i, _ ∧ _ ∧ Imp _ _ _ _ _
        refine ⟨k + 1, ⟨by omega, fun q h => (Nat.lt_succ_iff_lt_or_eq.1 h).elim (hq q) (fun e => by rw [e]; exact hx)⟩, by omega, imp_forget rfl ⟨rfl, rfl, (ci (by omega)), (congrArg (fun z => AV.d (.fl (.int .i64 z))) hst), trivial⟩ ⟨rfl, trivial⟩⟩
      · skip
        have h11 := f_bne h9
        refine a_skip ?_
        show A _ _ _ _ _ _ _
        refine a_seq ?_
        refine a_rseq ?_
        refine rg_put (d := 27) (v := .pt 102 3) rfl (og rfl (of_eff (s_field_pt rfl Try.underlying48 rfl ti3 rfl rfl rfl) rfl)) ?_
        refine rg_put (d := 28) (v := .d (.fl (.int .i64 ((ix f.recs k).cents)))) rfl (og rfl (op_load_pt rfl Try.underlying3 rfl rfl rfl rfl rfl)) ?_
        refine rg_put (d := 29) (v := .d (.fl (.bool ((fitB ((ix f.recs k).cents)))))) rfl (og rfl (op_call rfl Try.func48 nm48 rfl (.cons rfl (.d _) .nil) (fiRf ((ix f.recs k).cents)) rfl)) ?_
        refine rg_put (d := 30) (v := .d (.fl (.bool ((!((fitB ((ix f.recs k).cents)))))))) rfl (og rfl (op_un rfl rfl (u_not _) rfl)) ?_
        refine rg_done rfl ?_
        refine a_cond rfl (fun h12 => ?_) (fun h12 => ?_)
        · skip
          have h13 := t_not h12
          refine a_rseq ?_
          refine rg_put (d := 2) (v := .d (.fl (.int .i64 0))) rfl (og rfl (op_assign rfl rfl rfl)) ?_
          refine rg_put (d := 3) (v := .d (.fl (.int .i64 13))) rfl (og rfl (op_assign rfl rfl rfl)) ?_
          refine rg_done rfl ?_
          refine a_ret ?_
          show ∃ ds, ResL _ _ _ ds ∧ RV.of ds = _
          refine ⟨[.fl (.int .i64 0), .fl (.int .i64 13)], (.cons (.tmp rfl (.d _)) (.cons (.tmp rfl (.d _)) .nil)), ?_⟩
          have gg0 := bneb h3
          have gg1 := bneb h9
          have hck : (ck (ix f.recs k)) = true := by unfold ck; simp only [gg0, gg1, h1, h3, h9, h12, h13, Bool.true_or, Bool.false_or, Bool.or_true, Bool.or_false, Bool.not_true, Bool.not_false, cond_true, cond_false, Bool.true_and, Bool.false_and, Bool.and_true, Bool.and_false] <;> rfl
          rw [tfE_bad (k := k) (by omega) (by unfold okc; rw [hck, h13]; rfl)]; rfl
        · skip
          have h14 := f_not h12
          refine a_skip ?_
          show A _ _ _ _ _ _ _
          refine a_region ?_
          have hft := fit_t h14
          refine rg_put (d := 31) (v := .d (.fl (.int .i64 (sC f.recs k)))) rfl (og rfl (op_move rfl rfl rfl)) ?_
          refine rg_put (d := 32) (v := .pt 102 3) rfl (og rfl (of_eff (s_field_pt rfl Try.underlying48 rfl ti3 rfl rfl rfl) rfl)) ?_
          refine rg_put (d := 33) (v := .d (.fl (.int .i64 ((ix f.recs k).cents)))) rfl (og rfl (op_load_pt rfl Try.underlying3 rfl rfl rfl rfl rfl)) ?_
          refine rg_put (d := 34) (v := .d (.fl (.int .i64 (((sC f.recs k) + (ix f.recs k).cents))))) rfl (og rfl (op_bin rfl rfl rfl (fun x y w => b_add64 _ _ _ x y w (by omega)) rfl)) ?_
          refine rg_put (d := 4) (v := .d (.fl (.int .i64 (((sC f.recs k) + (ix f.recs k).cents))))) rfl (og rfl (op_assign rfl rfl rfl)) ?_
          refine rg_done rfl ?_
          show A _ _ _ _ _ _ _
          refine a_region ?_
          refine rg_put (d := 12) (v := .d (.fl (.int .i64 (k : Int)))) rfl (og rfl (op_move rfl rfl rfl)) ?_
          refine rg_put (d := 13) (v := .d (.fl (.int .i64 (((k : Int) + 1))))) rfl (og rfl (op_bin rfl rfl rfl (fun x y w => b_add64 _ _ _ x y w (by omega)) rfl)) ?_
          refine rg_put (d := 5) (v := .d (.fl (.int .i64 (((k : Int) + 1))))) rfl (og rfl (op_assign rfl rfl rfl)) ?_
          refine rg_done rfl ?_
          have gg0 := bneb h3
          have gg1 := bneb h9
          have hck : (ck (ix f.recs k)) = true := by unfold ck; simp only [gg0, gg1, h1, h3, h9, h12, h14, Bool.true_or, Bool.false_or, Bool.or_true, Bool.or_false, Bool.not_true, Bool.not_false, cond_true, cond_false, Bool.true_and, Bool.false_and, Bool.and_true, Bool.and_false] <;> rfl
          have hx : okc (ix f.recs k) = true := by unfold okc; rw [hck, h14]; rfl
          have hst : _ = sC f.recs (k + 1) := sC_y hck
          show ∃ i, _ ∧ _ ∧ Imp _ _ _ _ _
          refine ⟨k + 1, ⟨by omega, fun q h => (Nat.lt_succ_iff_lt_or_eq.1 h).elim (hq q) (fun e => by rw [e]; exact hx)⟩, by omega, imp_forget rfl ⟨rfl, rfl, (ci (by omega)), (congrArg (fun z => AV.d (.fl (.int .i64 z))) hst), trivial⟩ ⟨rfl, trivial⟩⟩
  · skip
    have h15 := f_dec h1
    refine a_exit ?_
    show A _ _ _ _ _ _ _
    refine a_seq ?_
    refine a_rseq ?_
    rw [show (sC f.recs k) = (sC f.recs f.recs.length) from (by rw [show k = f.recs.length by omega])]
    refine rg_put (d := 35) (v := .d (.fl (.int .i64 (sC f.recs f.recs.length)))) rfl (og rfl (op_move rfl rfl rfl)) ?_
    refine rg_put (d := 36) (v := .d (.fl (.bool ((fitB (sC f.recs f.recs.length)))))) rfl (og rfl (op_call rfl Try.func48 nm48 rfl (.cons rfl (.d _) .nil) (fiRf (sC f.recs f.recs.length)) rfl)) ?_
    refine rg_put (d := 37) (v := .d (.fl (.bool ((!((fitB (sC f.recs f.recs.length)))))))) rfl (og rfl (op_un rfl rfl (u_not _) rfl)) ?_
    refine rg_done rfl ?_
    refine a_cond rfl (fun h16 => ?_) (fun h16 => ?_)
    · skip
      have h17 := t_not h16
      refine a_rseq ?_
      refine rg_put (d := 2) (v := .d (.fl (.int .i64 0))) rfl (og rfl (op_assign rfl rfl rfl)) ?_
      refine rg_put (d := 3) (v := .d (.fl (.int .i64 13))) rfl (og rfl (op_assign rfl rfl rfl)) ?_
      refine rg_done rfl ?_
      refine a_ret ?_
      show ∃ ds, ResL _ _ _ ds ∧ RV.of ds = _
      refine ⟨[.fl (.int .i64 0), .fl (.int .i64 13)], (.cons (.tmp rfl (.d _)) (.cons (.tmp rfl (.d _)) .nil)), ?_⟩
      rw [tfE_end (fun q h => hq q (by omega)), h17]; rfl
    · skip
      have h18 := f_not h16
      refine a_skip ?_
      show A _ _ _ _ _ _ _
      refine a_rseq ?_
      refine rg_put (d := 38) (v := .d (.fl (.int .i64 (sC f.recs f.recs.length)))) rfl (og rfl (op_move rfl rfl rfl)) ?_
      refine rg_put (d := 2) (v := .d (.fl (.int .i64 (sC f.recs f.recs.length)))) rfl (og rfl (op_assign rfl rfl rfl)) ?_
      refine rg_put (d := 3) (v := .d (.fl (.int .i64 0))) rfl (og rfl (op_assign rfl rfl rfl)) ?_
      refine rg_done rfl ?_
      refine a_ret ?_
      show ∃ ds, ResL _ _ _ ds ∧ RV.of ds = _
      refine ⟨[.fl (.int .i64 (sC f.recs f.recs.length)), .fl (.int .i64 0)], (.cons (.tmp rfl (.d _)) (.cons (.tmp rfl (.d _)) .nil)), ?_⟩
      rw [tfE_end (fun q h => hq q (by omega)), h18]; rfl
set_option maxHeartbeats 4000000 in
set_option maxRecDepth 100000 in
theorem ckP (f : Fil) (hkk : ∀ x ∈ f.recs, x.key.size ≤ 300) : Ctr Try.prog 19 [.ag (eFil f)] (.d (.fl (.int .i64 (ckF f)))) := by
  refine ctr (n := 37) (rs := #[.tmp 2]) (L := [(0, .d (.ag (eFil f)))]) Try.func19 rfl rfl rfl rfl rfl (fun w0 U0 => ?_)
  refine a_rseq ?_
  refine rg_nam (d := 1) (v := .pt 101 0) (m := 101) (nw := [(101, .bx 27 (eFil f))]) rfl (og rfl (of_eff (op_box 101 rfl rfl rfl rfl) rfl)) rfl ?_
  refine rg_put (d := 2) (v := .d (.fl (.int .i64 0))) rfl (og rfl (op_assign rfl rfl rfl)) ?_
  refine rg_done rfl ?_
  refine a_seq ?_
  refine a_rseq ?_
  refine rg_put (d := 9) (v := .d (.ag (eFil f))) rfl (og rfl (of_eff (s_load_pts rfl Try.underlying27 rfl ti27 rfl rfl rfl rfl) rfl)) ?_
  refine rg_put (d := 10) (v := .d (.fl (.int .i64 (hdE f)))) rfl (og rfl (op_call rfl Try.func33 nm33 rfl (.cons rfl (.d _) .nil) (hdP f) rfl)) ?_
  refine rg_put (d := 3) (v := .d (.fl (.int .i64 (hdE f)))) rfl (og rfl (op_assign rfl rfl rfl)) ?_
  refine rg_done rfl ?_
  refine a_rseq ?_
  refine rg_put (d := 11) (v := .d (.fl (.int .i64 (hdE f)))) rfl (og rfl (op_move rfl rfl rfl)) ?_
  refine rg_put (d := 12) (v := .d (.fl (.bool (((hdE f) != 0))))) rfl (og rfl (op_bin rfl rfl rfl (b_neq _ _ _ _) rfl)) ?_
  refine rg_done rfl ?_
  refine a_cond rfl (fun h1 => ?_) (fun h1 => ?_)
  · skip
    have h2 := t_bne h1
    refine a_rseq ?_
    refine rg_put (d := 13) (v := .d (.fl (.int .i64 (hdE f)))) rfl (og rfl (op_move rfl rfl rfl)) ?_
    refine rg_put (d := 2) (v := .d (.fl (.int .i64 (hdE f)))) rfl (og rfl (op_assign rfl rfl rfl)) ?_
    refine rg_done rfl ?_
    refine a_ret ?_
    show ∃ ds, ResL _ _ _ ds ∧ RV.of ds = _
    refine ⟨[.fl (.int .i64 (hdE f))], (.cons (.tmp rfl (.d _)) .nil), ?_⟩
    have hu : ckF f = (hdE f) := by unfold ckF; simp only [h1, Bool.true_or, Bool.false_or, Bool.or_true, Bool.or_false, Bool.not_true, Bool.not_false, cond_true, cond_false, Bool.true_and, Bool.false_and, Bool.and_true, Bool.and_false] <;> rfl
    rw [hu]; rfl
  · skip
    have h3 := f_bne h1
    refine a_skip ?_
    show A _ _ _ _ _ _ _
    refine a_seq ?_
    refine a_rseq ?_
    refine rg_put (d := 14) (v := .pt 101 3) rfl (og rfl (of_eff (s_field_pt rfl Try.underlying27 rfl ti23 rfl rfl rfl) rfl)) ?_
    refine rg_put (d := 15) (v := .d (.sl 5 (List.map eRec f.recs))) rfl (og rfl (op_load_pt rfl Try.underlying23 rfl rfl rfl rfl rfl)) ?_
    refine rg_put (d := 16) (v := .d (.fl (.int .i64 (f.recs.length : Int)))) rfl (og rfl (s_len rfl Try.underlying23 rfl rfl)) ?_
    refine rg_put (d := 17) (v := .d (.fl (.bool ((decide (1024 < (f.recs.length : Int))))))) rfl (og rfl (op_bin rfl rfl rfl (b_gtr _ _ _ _) rfl)) ?_
    refine rg_done rfl ?_
    refine a_cond rfl (fun h4 => ?_) (fun h4 => ?_)
    · skip
      have h5 := t_dec h4
      refine a_rseq ?_
      refine rg_put (d := 2) (v := .d (.fl (.int .i64 3))) rfl (og rfl (op_assign rfl rfl rfl)) ?_
      refine rg_done rfl ?_
      refine a_ret ?_
      show ∃ ds, ResL _ _ _ ds ∧ RV.of ds = _
      refine ⟨[.fl (.int .i64 3)], (.cons (.tmp rfl (.d _)) .nil), ?_⟩
      have hu : ckF f = 3 := by unfold ckF; simp only [h1, h4, Bool.true_or, Bool.false_or, Bool.or_true, Bool.or_false, Bool.not_true, Bool.not_false, cond_true, cond_false, Bool.true_and, Bool.false_and, Bool.and_true, Bool.and_false] <;> rfl
      rw [hu]; rfl
    · skip
      have h6 := f_dec h4
      refine a_skip ?_
      show A _ _ _ _ _ _ _
      refine a_seq ?_
      refine a_rseq ?_
      refine rg_put (d := 18) (v := .pt 101 3) rfl (og rfl (of_eff (s_field_pt rfl Try.underlying27 rfl ti23 rfl rfl rfl) rfl)) ?_
      refine rg_put (d := 19) (v := .d (.sl 5 (List.map eRec f.recs))) rfl (og rfl (op_load_pt rfl Try.underlying23 rfl rfl rfl rfl rfl)) ?_
      refine rg_put (d := 20) (v := .d (.fl (.int .i64 (f.recs.length : Int)))) rfl (og rfl (s_len rfl Try.underlying23 rfl rfl)) ?_
      refine rg_put (d := 21) (v := .d (.fl (.int .i64 0))) rfl (og rfl (op_move rfl rfl rfl)) ?_
      refine rg_done rfl ?_
      refine a_block ?_
      refine a_loop (ι := Nat) (fun k => SS [(0, .d (.ag (eFil f))), (1, .pt 101 0), (3, .d (.fl (.int .i64 (hdE f)))), (12, .d (.fl (.bool (((hdE f) != 0))))), (17, .d (.fl (.bool ((decide (1024 < (f.recs.length : Int))))))), (19, .d (.sl 5 (List.map eRec f.recs))), (20, .d (.fl (.int .i64 (f.recs.length : Int)))), (21, .d (.fl (.int .i64 (k : Int))))] [(101, .bx 27 (eFil f))]) (fun k => k ≤ f.recs.length ∧ rE f.recs = fe (rr f.recs) k (f.recs.length - k)) (fun k => f.recs.length - k) 0 (⟨by omega, rfl⟩) (imp_forget rfl ⟨rfl, rfl, rfl, rfl, rfl, rfl, rfl, (by first | rfl | exact ci (by omega) | exact ci (by simp) | exact cd (by simp) | simp), trivial⟩ ⟨rfl, trivial⟩) (fun k hok => ?_)
      obtain ⟨hk, hc⟩ := hok
      refine a_rseq ?_
      refine rg_put (d := 22) (v := .d (.fl (.bool ((decide ((k : Int) < (f.recs.length : Int))))))) rfl (og rfl (op_bin rfl rfl rfl (b_lss _ _ _ _) rfl)) ?_
      refine rg_done rfl ?_
      refine a_seq ?_
      refine a_cond rfl (fun h7 => ?_) (fun h7 => ?_)
      · skip
        have h8 := t_dec h7
        refine a_skip ?_
        show A _ _ _ _ _ _ _
        refine a_seq ?_
        refine a_block ?_
        refine a_rseq ?_
        refine rg_put (d := 23) (v := .el ((eRec (ix f.recs k)))) rfl (og rfl (s_index rfl Try.underlying23 ti48 rfl rfl (by omega) (row_at (by omega)) rfl)) ?_
        refine rg_put (d := 24) (v := .d (.ag (eRec (ix f.recs k)))) rfl (og rfl (of_eff (s_load_els rfl Try.underlying48 rfl ti48 rfl rfl rfl) rfl)) ?_
        refine rg_nam (d := 5) (v := .pt 102 0) (m := 102) (nw := [(102, .bx 48 ([.fl (.int .i64 0), .fl (.string (⟨#[]⟩)), .fl (.int .i64 0), .fl (.int .i64 0), .fl (.int .i64 0)]))]) rfl (og rfl (of_eff (s_alloc 102 rfl ti48 (by kernel_rfl) rfl) rfl)) rfl ?_
        refine rg_sto (nw := [(102, .bx 48 ((eRec (ix f.recs k))))]) rfl (og rfl (of_eff (s_store rfl rfl ti48 rfl rfl rfl rfl rfl rfl) rfl)) ?_
        refine rg_done rfl ?_
        refine a_rseq ?_
        refine rg_put (d := 25) (v := .d (.ag (eRec (ix f.recs k)))) rfl (og rfl (of_eff (s_load_pts rfl Try.underlying48 rfl ti48 rfl rfl rfl rfl) rfl)) ?_
        refine rg_put (d := 26) (v := .d (.fl (.int .i64 ((rcE (ix f.recs k)))))) rfl (og rfl (op_call rfl Try.func34 nm34 rfl (.cons rfl (.d _) .nil) (rcP (ix f.recs k) (by have := hkk _ (ix_mem (by omega : k < f.recs.length)); omega)) rfl)) ?_
        refine rg_put (d := 6) (v := .d (.fl (.int .i64 ((rcE (ix f.recs k)))))) rfl (og rfl (op_assign rfl rfl rfl)) ?_
        refine rg_done rfl ?_
        refine a_rseq ?_
        refine rg_put (d := 27) (v := .d (.fl (.int .i64 ((rcE (ix f.recs k)))))) rfl (og rfl (op_move rfl rfl rfl)) ?_
        refine rg_put (d := 28) (v := .d (.fl (.bool (((rcE (ix f.recs k)) != 0))))) rfl (og rfl (op_bin rfl rfl rfl (b_neq _ _ _ _) rfl)) ?_
        refine rg_done rfl ?_
        refine a_cond rfl (fun h9 => ?_) (fun h9 => ?_)
        · skip
          have h10 := t_bne h9
          refine a_rseq ?_
          refine rg_put (d := 29) (v := .d (.fl (.int .i64 ((rcE (ix f.recs k)))))) rfl (og rfl (op_move rfl rfl rfl)) ?_
          refine rg_put (d := 2) (v := .d (.fl (.int .i64 ((rcE (ix f.recs k)))))) rfl (og rfl (op_assign rfl rfl rfl)) ?_
          refine rg_done rfl ?_
          refine a_ret ?_
          show ∃ ds, ResL _ _ _ ds ∧ RV.of ds = _
          refine ⟨[.fl (.int .i64 ((rcE (ix f.recs k))))], (.cons (.tmp rfl (.d _)) .nil), ?_⟩
          have hb9 : rr f.recs k = rcE (ix f.recs k) := rfl
          have gS : rE f.recs = rcE (ix f.recs k) := fe_yes (by omega) hc hb9 (t_bne h9)
          have gR : (rE f.recs != 0) = true := by rw [gS]; exact h9
          have hu : ckF f = (rcE (ix f.recs k)) := by unfold ckF; simp only [gR, gS, h1, h4, h7, h9, Bool.true_or, Bool.false_or, Bool.or_true, Bool.or_false, Bool.not_true, Bool.not_false, cond_true, cond_false, Bool.true_and, Bool.false_and, Bool.and_true, Bool.and_false] <;> rfl
          rw [hu]; rfl
        · skip
          have h11 := f_bne h9
          refine a_skip ?_
          show A _ _ _ _ _ _ _
          refine a_region ?_
          refine rg_put (d := 30) (v := .d (.fl (.int .i64 (((k : Int) + 1))))) rfl (og rfl (op_bin rfl rfl rfl (fun x y w => b_add64 _ _ _ x y w (by omega)) rfl)) ?_
          refine rg_put (d := 21) (v := .d (.fl (.int .i64 (((k : Int) + 1))))) rfl (og rfl (op_move rfl rfl rfl)) ?_
          refine rg_done rfl ?_
          have hb : rr f.recs k = 0 := f_bne h9
          show ∃ i, _ ∧ _ ∧ Imp _ _ _ _ _
          refine ⟨k + 1, ⟨by omega, fe_no (by omega) hc hb⟩, by omega, imp_forget rfl ⟨rfl, rfl, rfl, rfl, rfl, rfl, rfl, (by first | rfl | exact ci (by omega) | exact ci (by simp) | exact cd (by simp) | simp), trivial⟩ ⟨rfl, trivial⟩⟩
      · skip
        have h12 := f_dec h7
        refine a_exit ?_
        show A _ _ _ _ _ _ _
        refine a_rseq ?_
        refine rg_put (d := 32) (v := .d (.ag (eFil f))) rfl (og rfl (of_eff (s_load_pts rfl Try.underlying27 rfl ti27 rfl rfl rfl rfl) rfl)) ?_
        refine rg_put (d := 33) (v := .tu [.fl (.int .i64 ((tfE f.recs).1)), .fl (.int .i64 ((tfE f.recs).2))]) rfl (og rfl (op_call rfl Try.func35 nm35 rfl (.cons rfl (.d _) .nil) (tfP f (by omega)) rfl)) ?_
        refine rg_put (d := 31) (v := .tu [.fl (.int .i64 ((tfE f.recs).1)), .fl (.int .i64 ((tfE f.recs).2))]) rfl (og rfl (op_move rfl rfl rfl)) ?_
        refine rg_put (d := 34) (v := .d (.fl (.int .i64 ((tfE f.recs).1)))) rfl (og rfl (op_extract rfl rfl rfl rfl)) ?_
        refine rg_put (d := 35) (v := .d (.fl (.int .i64 ((tfE f.recs).2)))) rfl (og rfl (op_extract rfl rfl rfl rfl)) ?_
        refine rg_put (d := 7) (v := .d (.fl (.int .i64 ((tfE f.recs).1)))) rfl (og rfl (op_assign rfl rfl rfl)) ?_
        refine rg_put (d := 8) (v := .d (.fl (.int .i64 ((tfE f.recs).2)))) rfl (og rfl (op_assign rfl rfl rfl)) ?_
        refine rg_done rfl ?_
        refine a_rseq ?_
        refine rg_put (d := 36) (v := .d (.fl (.int .i64 ((tfE f.recs).2)))) rfl (og rfl (op_move rfl rfl rfl)) ?_
        refine rg_put (d := 2) (v := .d (.fl (.int .i64 ((tfE f.recs).2)))) rfl (og rfl (op_assign rfl rfl rfl)) ?_
        refine rg_done rfl ?_
        refine a_ret ?_
        show ∃ ds, ResL _ _ _ ds ∧ RV.of ds = _
        refine ⟨[.fl (.int .i64 ((tfE f.recs).2))], (.cons (.tmp rfl (.d _)) .nil), ?_⟩
        have gR : (rE f.recs != 0) = false := by rw [show rE f.recs = 0 from by rw [fe_end (by omega)] at hc; exact hc]; rfl
        have hu : ckF f = (tfE f.recs).2 := by unfold ckF; simp only [gR, h1, h4, h7, Bool.true_or, Bool.false_or, Bool.or_true, Bool.or_false, Bool.not_true, Bool.not_false, cond_true, cond_false, Bool.true_and, Bool.false_and, Bool.and_true, Bool.and_false] <;> rfl
        rw [hu]; rfl
set_option maxHeartbeats 4000000 in
set_option maxRecDepth 100000 in
theorem ckR (f : Fil) (hkk : ∀ x ∈ f.recs, x.key.size ≤ 300) : Ctr Try.prog 21 [.ag (eFil f)] (.d (.fl (.int .i64 (ckF f)))) := by
  refine ctr (n := 39) (rs := #[.tmp 2]) (L := [(0, .d (.ag (eFil f)))]) Try.func21 rfl rfl rfl rfl rfl (fun w0 U0 => ?_)
  refine a_rseq ?_
  refine rg_nam (d := 1) (v := .pt 101 0) (m := 101) (nw := [(101, .bx 27 (eFil f))]) rfl (og rfl (of_eff (op_box 101 rfl rfl rfl rfl) rfl)) rfl ?_
  refine rg_put (d := 2) (v := .d (.fl (.int .i64 0))) rfl (og rfl (op_assign rfl rfl rfl)) ?_
  refine rg_done rfl ?_
  refine a_seq ?_
  refine a_rseq ?_
  refine rg_put (d := 8) (v := .d (.ag (eFil f))) rfl (og rfl (of_eff (s_load_pts rfl Try.underlying27 rfl ti27 rfl rfl rfl rfl) rfl)) ?_
  refine rg_put (d := 9) (v := .d (.fl (.int .i64 (hdE f)))) rfl (og rfl (op_call rfl Try.func37 nm37 rfl (.cons rfl (.d _) .nil) (hdR f) rfl)) ?_
  refine rg_put (d := 3) (v := .d (.fl (.int .i64 (hdE f)))) rfl (og rfl (op_assign rfl rfl rfl)) ?_
  refine rg_done rfl ?_
  refine a_rseq ?_
  refine rg_put (d := 10) (v := .d (.fl (.int .i64 (hdE f)))) rfl (og rfl (op_move rfl rfl rfl)) ?_
  refine rg_put (d := 11) (v := .d (.fl (.bool (((hdE f) != 0))))) rfl (og rfl (op_bin rfl rfl rfl (b_neq _ _ _ _) rfl)) ?_
  refine rg_done rfl ?_
  refine a_cond rfl (fun h1 => ?_) (fun h1 => ?_)
  · skip
    have h2 := t_bne h1
    refine a_rseq ?_
    refine rg_put (d := 12) (v := .d (.fl (.int .i64 (hdE f)))) rfl (og rfl (op_move rfl rfl rfl)) ?_
    refine rg_put (d := 2) (v := .d (.fl (.int .i64 (hdE f)))) rfl (og rfl (op_assign rfl rfl rfl)) ?_
    refine rg_done rfl ?_
    refine a_ret ?_
    show ∃ ds, ResL _ _ _ ds ∧ RV.of ds = _
    refine ⟨[.fl (.int .i64 (hdE f))], (.cons (.tmp rfl (.d _)) .nil), ?_⟩
    have hu : ckF f = (hdE f) := by unfold ckF; simp only [h1, Bool.true_or, Bool.false_or, Bool.or_true, Bool.or_false, Bool.not_true, Bool.not_false, cond_true, cond_false, Bool.true_and, Bool.false_and, Bool.and_true, Bool.and_false] <;> rfl
    rw [hu]; rfl
  · skip
    have h3 := f_bne h1
    refine a_skip ?_
    show A _ _ _ _ _ _ _
    refine a_seq ?_
    refine a_rseq ?_
    refine rg_put (d := 13) (v := .pt 101 3) rfl (og rfl (of_eff (s_field_pt rfl Try.underlying27 rfl ti23 rfl rfl rfl) rfl)) ?_
    refine rg_put (d := 14) (v := .d (.sl 5 (List.map eRec f.recs))) rfl (og rfl (op_load_pt rfl Try.underlying23 rfl rfl rfl rfl rfl)) ?_
    refine rg_put (d := 15) (v := .d (.fl (.int .i64 (f.recs.length : Int)))) rfl (og rfl (s_len rfl Try.underlying23 rfl rfl)) ?_
    refine rg_put (d := 16) (v := .d (.fl (.bool ((decide (1024 < (f.recs.length : Int))))))) rfl (og rfl (op_bin rfl rfl rfl (b_gtr _ _ _ _) rfl)) ?_
    refine rg_done rfl ?_
    refine a_cond rfl (fun h4 => ?_) (fun h4 => ?_)
    · skip
      have h5 := t_dec h4
      refine a_rseq ?_
      refine rg_put (d := 2) (v := .d (.fl (.int .i64 3))) rfl (og rfl (op_assign rfl rfl rfl)) ?_
      refine rg_done rfl ?_
      refine a_ret ?_
      show ∃ ds, ResL _ _ _ ds ∧ RV.of ds = _
      refine ⟨[.fl (.int .i64 3)], (.cons (.tmp rfl (.d _)) .nil), ?_⟩
      have hu : ckF f = 3 := by unfold ckF; simp only [h1, h4, Bool.true_or, Bool.false_or, Bool.or_true, Bool.or_false, Bool.not_true, Bool.not_false, cond_true, cond_false, Bool.true_and, Bool.false_and, Bool.and_true, Bool.and_false] <;> rfl
      rw [hu]; rfl
    · skip
      have h6 := f_dec h4
      refine a_skip ?_
      show A _ _ _ _ _ _ _
      refine a_seq ?_
      refine a_rseq ?_
      refine rg_put (d := 4) (v := .d (.fl (.int .i64 0))) rfl (og rfl (op_assign rfl rfl rfl)) ?_
      refine rg_done rfl ?_
      refine a_block ?_
      refine a_loop (ι := Nat) (fun k => SS [(0, .d (.ag (eFil f))), (1, .pt 101 0), (3, .d (.fl (.int .i64 (hdE f)))), (11, .d (.fl (.bool (((hdE f) != 0))))), (16, .d (.fl (.bool ((decide (1024 < (f.recs.length : Int))))))), (4, .d (.fl (.int .i64 (k : Int))))] [(101, .bx 27 (eFil f))]) (fun k => k ≤ f.recs.length ∧ rE f.recs = fe (rr f.recs) k (f.recs.length - k)) (fun k => f.recs.length - k) 0 (⟨by omega, rfl⟩) (imp_forget rfl ⟨rfl, rfl, rfl, rfl, rfl, (by first | rfl | exact ci (by omega) | exact ci (by simp) | exact cd (by simp) | simp), trivial⟩ ⟨rfl, trivial⟩) (fun k hok => ?_)
      obtain ⟨hk, hc⟩ := hok
      refine a_seq ?_
      refine a_rseq ?_
      refine rg_put (d := 17) (v := .d (.fl (.int .i64 (k : Int)))) rfl (og rfl (op_move rfl rfl rfl)) ?_
      refine rg_put (d := 18) (v := .pt 101 3) rfl (og rfl (of_eff (s_field_pt rfl Try.underlying27 rfl ti23 rfl rfl rfl) rfl)) ?_
      refine rg_put (d := 19) (v := .d (.sl 5 (List.map eRec f.recs))) rfl (og rfl (op_load_pt rfl Try.underlying23 rfl rfl rfl rfl rfl)) ?_
      refine rg_put (d := 20) (v := .d (.fl (.int .i64 (f.recs.length : Int)))) rfl (og rfl (s_len rfl Try.underlying23 rfl rfl)) ?_
      refine rg_put (d := 21) (v := .d (.fl (.bool ((decide ((k : Int) < (f.recs.length : Int))))))) rfl (og rfl (op_bin rfl rfl rfl (b_lss _ _ _ _) rfl)) ?_
      refine rg_done rfl ?_
      refine a_cond rfl (fun h7 => ?_) (fun h7 => ?_)
      · skip
        have h8 := t_dec h7
        refine a_skip ?_
        show A _ _ _ _ _ _ _
        refine a_seq ?_
        refine a_block ?_
        refine a_rseq ?_
        refine rg_put (d := 24) (v := .pt 101 3) rfl (og rfl (of_eff (s_field_pt rfl Try.underlying27 rfl ti23 rfl rfl rfl) rfl)) ?_
        refine rg_put (d := 25) (v := .d (.sl 5 (List.map eRec f.recs))) rfl (og rfl (op_load_pt rfl Try.underlying23 rfl rfl rfl rfl rfl)) ?_
        refine rg_put (d := 26) (v := .d (.fl (.int .i64 (k : Int)))) rfl (og rfl (op_move rfl rfl rfl)) ?_
        refine rg_put (d := 27) (v := .el ((eRec (ix f.recs k)))) rfl (og rfl (s_index rfl Try.underlying23 ti48 rfl rfl (by omega) (row_at (by omega)) rfl)) ?_
        refine rg_put (d := 28) (v := .d (.ag (eRec (ix f.recs k)))) rfl (og rfl (of_eff (s_load_els rfl Try.underlying48 rfl ti48 rfl rfl rfl) rfl)) ?_
        refine rg_put (d := 29) (v := .d (.fl (.int .i64 ((rcE (ix f.recs k)))))) rfl (og rfl (op_call rfl Try.func38 nm38 rfl (.cons rfl (.d _) .nil) (rcR (ix f.recs k) (by have := hkk _ (ix_mem (by omega : k < f.recs.length)); omega)) rfl)) ?_
        refine rg_put (d := 5) (v := .d (.fl (.int .i64 ((rcE (ix f.recs k)))))) rfl (og rfl (op_assign rfl rfl rfl)) ?_
        refine rg_done rfl ?_
        refine a_rseq ?_
        refine rg_put (d := 30) (v := .d (.fl (.int .i64 ((rcE (ix f.recs k)))))) rfl (og rfl (op_move rfl rfl rfl)) ?_
        refine rg_put (d := 31) (v := .d (.fl (.bool (((rcE (ix f.recs k)) != 0))))) rfl (og rfl (op_bin rfl rfl rfl (b_neq _ _ _ _) rfl)) ?_
        refine rg_done rfl ?_
        refine a_cond rfl (fun h9 => ?_) (fun h9 => ?_)
        · skip
          have h10 := t_bne h9
          refine a_rseq ?_
          refine rg_put (d := 32) (v := .d (.fl (.int .i64 ((rcE (ix f.recs k)))))) rfl (og rfl (op_move rfl rfl rfl)) ?_
          refine rg_put (d := 2) (v := .d (.fl (.int .i64 ((rcE (ix f.recs k)))))) rfl (og rfl (op_assign rfl rfl rfl)) ?_
          refine rg_done rfl ?_
          refine a_ret ?_
          show ∃ ds, ResL _ _ _ ds ∧ RV.of ds = _
          refine ⟨[.fl (.int .i64 ((rcE (ix f.recs k))))], (.cons (.tmp rfl (.d _)) .nil), ?_⟩
          have hb9 : rr f.recs k = rcE (ix f.recs k) := rfl
          have gS : rE f.recs = rcE (ix f.recs k) := fe_yes (by omega) hc hb9 (t_bne h9)
          have gR : (rE f.recs != 0) = true := by rw [gS]; exact h9
          have hu : ckF f = (rcE (ix f.recs k)) := by unfold ckF; simp only [gR, gS, h1, h4, h7, h9, Bool.true_or, Bool.false_or, Bool.or_true, Bool.or_false, Bool.not_true, Bool.not_false, cond_true, cond_false, Bool.true_and, Bool.false_and, Bool.and_true, Bool.and_false] <;> rfl
          rw [hu]; rfl
        · skip
          have h11 := f_bne h9
          refine a_skip ?_
          show A _ _ _ _ _ _ _
          refine a_region ?_
          refine rg_put (d := 22) (v := .d (.fl (.int .i64 (k : Int)))) rfl (og rfl (op_move rfl rfl rfl)) ?_
          refine rg_put (d := 23) (v := .d (.fl (.int .i64 (((k : Int) + 1))))) rfl (og rfl (op_bin rfl rfl rfl (fun x y w => b_add64 _ _ _ x y w (by omega)) rfl)) ?_
          refine rg_put (d := 4) (v := .d (.fl (.int .i64 (((k : Int) + 1))))) rfl (og rfl (op_assign rfl rfl rfl)) ?_
          refine rg_done rfl ?_
          have hb : rr f.recs k = 0 := f_bne h9
          show ∃ i, _ ∧ _ ∧ Imp _ _ _ _ _
          refine ⟨k + 1, ⟨by omega, fe_no (by omega) hc hb⟩, by omega, imp_forget rfl ⟨rfl, rfl, rfl, rfl, rfl, (by first | rfl | exact ci (by omega) | exact ci (by simp) | exact cd (by simp) | simp), trivial⟩ ⟨rfl, trivial⟩⟩
      · skip
        have h12 := f_dec h7
        refine a_exit ?_
        show A _ _ _ _ _ _ _
        refine a_rseq ?_
        refine rg_put (d := 34) (v := .d (.ag (eFil f))) rfl (og rfl (of_eff (s_load_pts rfl Try.underlying27 rfl ti27 rfl rfl rfl rfl) rfl)) ?_
        refine rg_put (d := 35) (v := .tu [.fl (.int .i64 ((tfE f.recs).1)), .fl (.int .i64 ((tfE f.recs).2))]) rfl (og rfl (op_call rfl Try.func39 nm39 rfl (.cons rfl (.d _) .nil) (tfR f (by omega)) rfl)) ?_
        refine rg_put (d := 33) (v := .tu [.fl (.int .i64 ((tfE f.recs).1)), .fl (.int .i64 ((tfE f.recs).2))]) rfl (og rfl (op_move rfl rfl rfl)) ?_
        refine rg_put (d := 36) (v := .d (.fl (.int .i64 ((tfE f.recs).1)))) rfl (og rfl (op_extract rfl rfl rfl rfl)) ?_
        refine rg_put (d := 37) (v := .d (.fl (.int .i64 ((tfE f.recs).2)))) rfl (og rfl (op_extract rfl rfl rfl rfl)) ?_
        refine rg_put (d := 6) (v := .d (.fl (.int .i64 ((tfE f.recs).1)))) rfl (og rfl (op_assign rfl rfl rfl)) ?_
        refine rg_put (d := 7) (v := .d (.fl (.int .i64 ((tfE f.recs).2)))) rfl (og rfl (op_assign rfl rfl rfl)) ?_
        refine rg_done rfl ?_
        refine a_rseq ?_
        refine rg_put (d := 38) (v := .d (.fl (.int .i64 ((tfE f.recs).2)))) rfl (og rfl (op_move rfl rfl rfl)) ?_
        refine rg_put (d := 2) (v := .d (.fl (.int .i64 ((tfE f.recs).2)))) rfl (og rfl (op_assign rfl rfl rfl)) ?_
        refine rg_done rfl ?_
        refine a_ret ?_
        show ∃ ds, ResL _ _ _ ds ∧ RV.of ds = _
        refine ⟨[.fl (.int .i64 ((tfE f.recs).2))], (.cons (.tmp rfl (.d _)) .nil), ?_⟩
        have gR : (rE f.recs != 0) = false := by rw [show rE f.recs = 0 from by rw [fe_end (by omega)] at hc; exact hc]; rfl
        have hu : ckF f = (tfE f.recs).2 := by unfold ckF; simp only [gR, h1, h4, h7, Bool.true_or, Bool.false_or, Bool.or_true, Bool.or_false, Bool.not_true, Bool.not_false, cond_true, cond_false, Bool.true_and, Bool.false_and, Bool.and_true, Bool.and_false] <;> rfl
        rw [hu]; rfl
end Go.Proofs.Ythfdopaefdmdiaa.Wk
