/- Names by their bytes. No condition. -/
import Derived.Test.YteplcjhnmmpicaaA9
set_option linter.unusedSimpArgs false
set_option linter.unusedVariables false
namespace Go.Proofs.Yteplcjhnmmpicaa.Wk
open Go Go.RowKit Go.Proofs.Yteplcjhnmmpicaa.Av
def lo (c : Nat) : Bool := decide (97 ≤ c) && decide (c ≤ 122)
def nc (c : Nat) : Bool := lo c || (decide (48 ≤ c) && decide (c ≤ 57)) || c == 45
def isN (s : ByteArray) : Bool := decide (1 ≤ s.size) && decide (s.size ≤ 12) && lo (bt s 0).toNat && (List.range s.size).all fun q => nc (bt s q).toNat
theorem isN_no0 {s : ByteArray} (h : s.size < 1 ∨ 12 < s.size ∨ lo (bt s 0).toNat = false) : isN s = false := by
  unfold isN
  rcases h with h | h | h
  · simp; omega
  · simp; omega
  · simp [h]
theorem isN_no {s : ByteArray} {k : Nat} (hk : k < s.size) (h : nc (bt s k).toNat = false) : isN s = false := by
  unfold isN
  rw [Bool.and_eq_false_iff]
  right
  rw [List.all_eq_false]
  exact ⟨k, by simpa using hk, by simp [h]⟩
theorem isN_yes {s : ByteArray} (h1 : 1 ≤ s.size) (h2 : s.size ≤ 12) (h3 : lo (bt s 0).toNat = true) (h : ∀ q, q < s.size → nc (bt s q).toNat = true) : isN s = true := by
  unfold isN
  simp only [Bool.and_eq_true, decide_eq_true_eq, List.all_eq_true, List.mem_range]
  exact ⟨⟨⟨h1, h2⟩, h3⟩, h⟩
theorem lo_iff {c : Nat} : lo c = true ↔ 97 ≤ c ∧ c ≤ 122 := by simp [lo]
theorem nc_iff {c : Nat} : nc c = true ↔ (97 ≤ c ∧ c ≤ 122) ∨ (48 ≤ c ∧ c ≤ 57) ∨ c = 45 := by simp [nc, lo, or_assoc]
theorem lo_f {c : Nat} (h : ¬ (97 ≤ c ∧ c ≤ 122)) : lo c = false := by
  cases hc : lo c with
  | false => rfl
  | true => exact absurd (lo_iff.1 hc) h
theorem nc_f {c : Nat} (h : ¬ ((97 ≤ c ∧ c ≤ 122) ∨ (48 ≤ c ∧ c ≤ 57) ∨ c = 45)) : nc c = false := by
  cases hc : nc c with
  | false => rfl
  | true => exact absurd (nc_iff.1 hc) h
theorem seq0 {s : ByteArray} : sEq s ⟨#[]⟩ = decide (s.size = 0) := by
  unfold sEq
  by_cases h : s.size = 0
  · have : s = ⟨#[]⟩ := by
      cases s; congr 1; exact Array.eq_empty_of_size_eq_zero h
    rw [decide_eq_true this, decide_eq_true h]
  · have : s ≠ ⟨#[]⟩ := fun e => by subst e; exact h rfl
    rw [decide_eq_false this, decide_eq_false h]

set_option maxHeartbeats 4000000 in
set_option maxRecDepth 100000 in
theorem ref_name (s : ByteArray) : Ctr Try.prog 35 [.fl (.string s)] (.d (.fl (.bool (isN s)))) := by
  refine ctr (n := 51) (rs := #[.tmp 2]) (L := [(0, .d (.fl (.string s)))]) Try.func35 rfl rfl rfl rfl rfl (fun w0 U0 => ?_)
  refine a_rseq ?_
  refine rg_put (d := 2) (v := .d (.fl (.bool false))) rfl (og rfl (op_assign rfl rfl rfl)) ?_
  refine rg_done rfl ?_
  refine a_seq ?_
  refine a_rseq ?_
  refine rg_put (d := 5) (v := .d (.fl (.string s))) rfl (og rfl (op_move rfl rfl rfl)) ?_
  refine rg_put (d := 6) (v := .d (.fl (.int .i64 (s.size : Int)))) rfl (og rfl (op_len_str rfl Try.underlying9 rfl rfl)) ?_
  refine rg_put (d := 7) (v := .d (.fl (.bool ((decide ((s.size : Int) < 1)))))) rfl (og rfl (op_bin rfl rfl rfl (b_lss _ _ _ _) rfl)) ?_
  refine rg_put (d := 8) (v := .d (.fl (.bool ((decide ((s.size : Int) < 1)))))) rfl (og rfl (op_move rfl rfl rfl)) ?_
  rcases fot ((decide ((s.size : Int) < 1))) with h1 | h1
  · skip
    have h2 := f_dec h1
    refine rg_put (d := 9) (v := .d (.fl (.string s))) rfl (oy rfl rfl rfl h1 (op_move rfl rfl rfl)) ?_
    refine rg_put (d := 10) (v := .d (.fl (.int .i64 (s.size : Int)))) rfl (oy rfl rfl rfl h1 (op_len_str rfl Try.underlying9 rfl rfl)) ?_
    refine rg_put (d := 11) (v := .d (.fl (.bool ((decide (12 < (s.size : Int))))))) rfl (oy rfl rfl rfl h1 (op_bin rfl rfl rfl (b_gtr _ _ _ _) rfl)) ?_
    refine rg_put (d := 12) (v := .d (.fl (.bool ((decide (12 < (s.size : Int))))))) rfl (og rfl (op_pick rfl rfl (by rw [h1]; rfl) rfl)) ?_
    refine rg_put (d := 13) (v := .d (.fl (.bool ((decide (12 < (s.size : Int))))))) rfl (og rfl (op_move rfl rfl rfl)) ?_
    rcases fot ((decide (12 < (s.size : Int)))) with h3 | h3
    · skip
      have h4 := f_dec h3
      refine rg_put (d := 14) (v := .d (.fl (.string s))) rfl (oy rfl rfl rfl h3 (op_move rfl rfl rfl)) ?_
      refine rg_put (d := 15) (v := .d (.fl (.int .u8 (((bt s 0).toNat : Int))))) rfl (oy rfl rfl rfl h3 (op_strindex rfl Try.underlying9 rfl rfl (by omega) (byte_ix (by omega)) rfl)) ?_
      refine rg_put (d := 16) (v := .d (.fl (.bool ((decide (((bt s 0).toNat : Int) < 97)))))) rfl (oy rfl rfl rfl h3 (op_bin rfl rfl rfl (b_lss _ _ _ _) rfl)) ?_
      refine rg_put (d := 17) (v := .d (.fl (.bool ((decide (((bt s 0).toNat : Int) < 97)))))) rfl (og rfl (op_pick rfl rfl (by rw [h3]; rfl) rfl)) ?_
      refine rg_put (d := 18) (v := .d (.fl (.bool ((decide (((bt s 0).toNat : Int) < 97)))))) rfl (og rfl (op_move rfl rfl rfl)) ?_
      rcases fot ((decide (((bt s 0).toNat : Int) < 97))) with h5 | h5
      · skip
        have h6 := f_dec h5
        refine rg_put (d := 19) (v := .d (.fl (.string s))) rfl (oy rfl rfl rfl h5 (op_move rfl rfl rfl)) ?_
        refine rg_put (d := 20) (v := .d (.fl (.int .u8 (((bt s 0).toNat : Int))))) rfl (oy rfl rfl rfl h5 (op_strindex rfl Try.underlying9 rfl rfl (by omega) (byte_ix (by omega)) rfl)) ?_
        refine rg_put (d := 21) (v := .d (.fl (.bool ((decide (122 < ((bt s 0).toNat : Int))))))) rfl (oy rfl rfl rfl h5 (op_bin rfl rfl rfl (b_gtr _ _ _ _) rfl)) ?_
        refine rg_put (d := 22) (v := .d (.fl (.bool ((decide (122 < ((bt s 0).toNat : Int))))))) rfl (og rfl (op_pick rfl rfl (by rw [h5]; rfl) rfl)) ?_
        refine rg_done rfl ?_
        refine a_cond rfl (fun h7 => ?_) (fun h7 => ?_)
        · skip
          have h8 := t_dec h7
          refine a_rseq ?_
          refine rg_put (d := 2) (v := .d (.fl (.bool false))) rfl (og rfl (op_assign rfl rfl rfl)) ?_
          refine rg_done rfl ?_
          refine a_ret ?_
          show ∃ ds, ResL _ _ _ ds ∧ RV.of ds = _
          refine ⟨[.fl (.bool false)], (.cons (.tmp rfl (.d _)) .nil), ?_⟩
          exact congrArg (fun b => RV.d (.fl (.bool b))) (isN_no0 (.inr (.inr (lo_f (by omega))))).symm
        · skip
          have h9 := f_dec h7
          refine a_skip ?_
          show A _ _ _ _ _ _ _
          refine a_seq ?_
          refine a_rseq ?_
          refine rg_put (d := 3) (v := .d (.fl (.int .i64 0))) rfl (og rfl (op_assign rfl rfl rfl)) ?_
          refine rg_done rfl ?_
          refine a_block ?_
          refine a_loop (ι := Nat) (fun k => SS [(0, .d (.fl (.string s))), (22, .d (.fl (.bool ((decide (122 < ((bt s 0).toNat : Int))))))), (3, .d (.fl (.int .i64 (k : Int))))] []) (fun k => k ≤ s.size ∧ ∀ q, q < k → nc (bt s q).toNat = true) (fun k => s.size - k) 0 (⟨by omega, fun q h => by omega⟩) (imp_forget rfl ⟨rfl, rfl, (by first | rfl | exact ci (by omega) | exact ci (by simp) | exact cd (by simp) | simp), trivial⟩ trivial) (fun k hok => ?_)
          obtain ⟨hk, hq⟩ := hok
          refine a_seq ?_
          refine a_rseq ?_
          refine rg_put (d := 23) (v := .d (.fl (.int .i64 (k : Int)))) rfl (og rfl (op_move rfl rfl rfl)) ?_
          refine rg_put (d := 24) (v := .d (.fl (.string s))) rfl (og rfl (op_move rfl rfl rfl)) ?_
          refine rg_put (d := 25) (v := .d (.fl (.int .i64 (s.size : Int)))) rfl (og rfl (op_len_str rfl Try.underlying9 rfl rfl)) ?_
          refine rg_put (d := 26) (v := .d (.fl (.bool ((decide ((k : Int) < (s.size : Int))))))) rfl (og rfl (op_bin rfl rfl rfl (b_lss _ _ _ _) rfl)) ?_
          refine rg_done rfl ?_
          refine a_cond rfl (fun h10 => ?_) (fun h10 => ?_)
          · skip
            have h11 := t_dec h10
            refine a_skip ?_
            show A _ _ _ _ _ _ _
            refine a_seq ?_
            refine a_block ?_
            refine a_rseq ?_
            refine rg_put (d := 29) (v := .d (.fl (.string s))) rfl (og rfl (op_move rfl rfl rfl)) ?_
            refine rg_put (d := 30) (v := .d (.fl (.int .i64 (k : Int)))) rfl (og rfl (op_move rfl rfl rfl)) ?_
            refine rg_put (d := 31) (v := .d (.fl (.int .u8 (((bt s k).toNat : Int))))) rfl (og rfl (op_strindex rfl Try.underlying9 rfl rfl (by omega) (byte_ix (by omega)) rfl)) ?_
            refine rg_put (d := 4) (v := .d (.fl (.int .u8 (((bt s k).toNat : Int))))) rfl (og rfl (op_assign rfl rfl rfl)) ?_
            refine rg_done rfl ?_
            refine a_rseq ?_
            refine rg_put (d := 32) (v := .d (.fl (.int .u8 (((bt s k).toNat : Int))))) rfl (og rfl (op_move rfl rfl rfl)) ?_
            refine rg_put (d := 33) (v := .d (.fl (.bool ((decide (97 ≤ ((bt s k).toNat : Int))))))) rfl (og rfl (op_bin rfl rfl rfl (b_geq _ _ _ _) rfl)) ?_
            refine rg_put (d := 34) (v := .d (.fl (.bool ((decide (97 ≤ ((bt s k).toNat : Int))))))) rfl (og rfl (op_move rfl rfl rfl)) ?_
            rcases fot ((decide (97 ≤ ((bt s k).toNat : Int)))) with h12 | h12
            · skip
              have h13 := f_dec h12
              refine rg_put (d := 35) (v := .d (.fl undef)) rfl (on rfl rfl rfl h12) ?_
              refine rg_put (d := 36) (v := .d (.fl undef)) rfl (on rfl rfl rfl h12) ?_
              refine rg_put (d := 37) (v := .d (.fl (.bool false))) rfl (og rfl (op_pick rfl rfl (by rw [h12]; rfl) rfl)) ?_
              refine rg_put (d := 38) (v := .d (.fl (.bool false))) rfl (og rfl (op_move rfl rfl rfl)) ?_
              refine rg_put (d := 39) (v := .d (.fl (.int .u8 (((bt s k).toNat : Int))))) rfl (oy rfl rfl rfl rfl (op_move rfl rfl rfl)) ?_
              refine rg_put (d := 40) (v := .d (.fl (.bool ((decide (48 ≤ ((bt s k).toNat : Int))))))) rfl (oy rfl rfl rfl rfl (op_bin rfl rfl rfl (b_geq _ _ _ _) rfl)) ?_
              refine rg_put (d := 41) (v := .d (.fl (.bool ((decide (48 ≤ ((bt s k).toNat : Int))))))) rfl (oy rfl rfl rfl rfl (op_move rfl rfl rfl)) ?_
              rcases fot ((decide (48 ≤ ((bt s k).toNat : Int)))) with h14 | h14
              · skip
                have h15 := f_dec h14
                refine rg_put (d := 42) (v := .d (.fl undef)) rfl (on rfl rfl rfl h14) ?_
                refine rg_put (d := 43) (v := .d (.fl undef)) rfl (on rfl rfl rfl h14) ?_
                refine rg_put (d := 44) (v := .d (.fl (.bool false))) rfl (oy rfl rfl rfl rfl (op_pick rfl rfl (by rw [h14]; rfl) rfl)) ?_
                refine rg_put (d := 45) (v := .d (.fl (.bool false))) rfl (og rfl (op_pick rfl rfl rfl rfl)) ?_
                refine rg_put (d := 46) (v := .d (.fl (.bool false))) rfl (og rfl (op_move rfl rfl rfl)) ?_
                refine rg_put (d := 47) (v := .d (.fl (.int .u8 (((bt s k).toNat : Int))))) rfl (oy rfl rfl rfl rfl (op_move rfl rfl rfl)) ?_
                refine rg_put (d := 48) (v := .d (.fl (.bool ((((bt s k).toNat : Int) == 45))))) rfl (oy rfl rfl rfl rfl (op_bin rfl rfl rfl (b_eql _ _ _ _) rfl)) ?_
                refine rg_put (d := 49) (v := .d (.fl (.bool ((((bt s k).toNat : Int) == 45))))) rfl (og rfl (op_pick rfl rfl rfl rfl)) ?_
                refine rg_put (d := 50) (v := .d (.fl (.bool ((!((((bt s k).toNat : Int) == 45))))))) rfl (og rfl (op_un rfl rfl (u_not _) rfl)) ?_
                refine rg_done rfl ?_
                refine a_cond rfl (fun h16 => ?_) (fun h16 => ?_)
                · skip
                  have h17 := t_not h16
                  have h18 := f_beq h17
                  refine a_rseq ?_
                  refine rg_put (d := 2) (v := .d (.fl (.bool false))) rfl (og rfl (op_assign rfl rfl rfl)) ?_
                  refine rg_done rfl ?_
                  refine a_ret ?_
                  show ∃ ds, ResL _ _ _ ds ∧ RV.of ds = _
                  refine ⟨[.fl (.bool false)], (.cons (.tmp rfl (.d _)) .nil), ?_⟩
                  exact congrArg (fun b => RV.d (.fl (.bool b))) (isN_no (k := k) (by omega) (nc_f (by omega))).symm
                · skip
                  have h19 := f_not h16
                  have h20 := t_beq h19
                  refine a_skip ?_
                  show A _ _ _ _ _ _ _
                  refine a_region ?_
                  refine rg_put (d := 27) (v := .d (.fl (.int .i64 (k : Int)))) rfl (og rfl (op_move rfl rfl rfl)) ?_
                  refine rg_put (d := 28) (v := .d (.fl (.int .i64 (((k : Int) + 1))))) rfl (og rfl (op_bin rfl rfl rfl (fun x y w => b_add64 _ _ _ x y w (by omega)) rfl)) ?_
                  refine rg_put (d := 3) (v := .d (.fl (.int .i64 (((k : Int) + 1))))) rfl (og rfl (op_assign rfl rfl rfl)) ?_
                  refine rg_done rfl ?_
                  show ∃ i, _ ∧ _ ∧ Imp _ _ _ _ _
                  refine ⟨k + 1, ⟨by omega, fun q h => by
                    rcases Nat.lt_succ_iff_lt_or_eq.1 h with h | h
                    · exact hq q h
                    · subst h; exact nc_iff.2 (by omega)⟩, by omega, imp_forget rfl ⟨rfl, rfl, (by first | rfl | exact ci (by omega) | exact ci (by simp) | exact cd (by simp) | simp), trivial⟩ trivial⟩
              · skip
                have h21 := t_dec h14
                refine rg_put (d := 42) (v := .d (.fl (.int .u8 (((bt s k).toNat : Int))))) rfl (oy rfl rfl rfl h14 (op_move rfl rfl rfl)) ?_
                refine rg_put (d := 43) (v := .d (.fl (.bool ((decide (((bt s k).toNat : Int) ≤ 57)))))) rfl (oy rfl rfl rfl h14 (op_bin rfl rfl rfl (b_leq _ _ _ _) rfl)) ?_
                refine rg_put (d := 44) (v := .d (.fl (.bool ((decide (((bt s k).toNat : Int) ≤ 57)))))) rfl (oy rfl rfl rfl rfl (op_pick rfl rfl (by rw [h14]; rfl) rfl)) ?_
                refine rg_put (d := 45) (v := .d (.fl (.bool ((decide (((bt s k).toNat : Int) ≤ 57)))))) rfl (og rfl (op_pick rfl rfl rfl rfl)) ?_
                refine rg_put (d := 46) (v := .d (.fl (.bool ((decide (((bt s k).toNat : Int) ≤ 57)))))) rfl (og rfl (op_move rfl rfl rfl)) ?_
                rcases fot ((decide (((bt s k).toNat : Int) ≤ 57))) with h22 | h22
                · skip
                  have h23 := f_dec h22
                  refine rg_put (d := 47) (v := .d (.fl (.int .u8 (((bt s k).toNat : Int))))) rfl (oy rfl rfl rfl h22 (op_move rfl rfl rfl)) ?_
                  refine rg_put (d := 48) (v := .d (.fl (.bool ((((bt s k).toNat : Int) == 45))))) rfl (oy rfl rfl rfl h22 (op_bin rfl rfl rfl (b_eql _ _ _ _) rfl)) ?_
                  refine rg_put (d := 49) (v := .d (.fl (.bool ((((bt s k).toNat : Int) == 45))))) rfl (og rfl (op_pick rfl rfl (by rw [h22]; rfl) rfl)) ?_
                  refine rg_put (d := 50) (v := .d (.fl (.bool ((!((((bt s k).toNat : Int) == 45))))))) rfl (og rfl (op_un rfl rfl (u_not _) rfl)) ?_
                  refine rg_done rfl ?_
                  refine a_cond rfl (fun h24 => ?_) (fun h24 => ?_)
                  · skip
                    have h25 := t_not h24
                    have h26 := f_beq h25
                    refine a_rseq ?_
                    refine rg_put (d := 2) (v := .d (.fl (.bool false))) rfl (og rfl (op_assign rfl rfl rfl)) ?_
                    refine rg_done rfl ?_
                    refine a_ret ?_
                    show ∃ ds, ResL _ _ _ ds ∧ RV.of ds = _
                    refine ⟨[.fl (.bool false)], (.cons (.tmp rfl (.d _)) .nil), ?_⟩
                    exact congrArg (fun b => RV.d (.fl (.bool b))) (isN_no (k := k) (by omega) (nc_f (by omega))).symm
                  · skip
                    have h27 := f_not h24
                    have h28 := t_beq h27
                    refine a_skip ?_
                    show A _ _ _ _ _ _ _
                    refine a_region ?_
                    refine rg_put (d := 27) (v := .d (.fl (.int .i64 (k : Int)))) rfl (og rfl (op_move rfl rfl rfl)) ?_
                    refine rg_put (d := 28) (v := .d (.fl (.int .i64 (((k : Int) + 1))))) rfl (og rfl (op_bin rfl rfl rfl (fun x y w => b_add64 _ _ _ x y w (by omega)) rfl)) ?_
                    refine rg_put (d := 3) (v := .d (.fl (.int .i64 (((k : Int) + 1))))) rfl (og rfl (op_assign rfl rfl rfl)) ?_
                    refine rg_done rfl ?_
                    show ∃ i, _ ∧ _ ∧ Imp _ _ _ _ _
                    refine ⟨k + 1, ⟨by omega, fun q h => by
                      rcases Nat.lt_succ_iff_lt_or_eq.1 h with h | h
                      · exact hq q h
                      · subst h; exact nc_iff.2 (by omega)⟩, by omega, imp_forget rfl ⟨rfl, rfl, (by first | rfl | exact ci (by omega) | exact ci (by simp) | exact cd (by simp) | simp), trivial⟩ trivial⟩
                · skip
                  have h29 := t_dec h22
                  refine rg_put (d := 47) (v := .d (.fl undef)) rfl (on rfl rfl rfl h22) ?_
                  refine rg_put (d := 48) (v := .d (.fl undef)) rfl (on rfl rfl rfl h22) ?_
                  refine rg_put (d := 49) (v := .d (.fl (.bool true))) rfl (og rfl (op_pick rfl rfl (by rw [h22]; rfl) rfl)) ?_
                  refine rg_put (d := 50) (v := .d (.fl (.bool (!true)))) rfl (og rfl (op_un rfl rfl (u_not _) rfl)) ?_
                  refine rg_done rfl ?_
                  refine a_condF rfl (not_f rfl) ?_
                  refine a_skip ?_
                  show A _ _ _ _ _ _ _
                  refine a_region ?_
                  refine rg_put (d := 27) (v := .d (.fl (.int .i64 (k : Int)))) rfl (og rfl (op_move rfl rfl rfl)) ?_
                  refine rg_put (d := 28) (v := .d (.fl (.int .i64 (((k : Int) + 1))))) rfl (og rfl (op_bin rfl rfl rfl (fun x y w => b_add64 _ _ _ x y w (by omega)) rfl)) ?_
                  refine rg_put (d := 3) (v := .d (.fl (.int .i64 (((k : Int) + 1))))) rfl (og rfl (op_assign rfl rfl rfl)) ?_
                  refine rg_done rfl ?_
                  show ∃ i, _ ∧ _ ∧ Imp _ _ _ _ _
                  refine ⟨k + 1, ⟨by omega, fun q h => by
                    rcases Nat.lt_succ_iff_lt_or_eq.1 h with h | h
                    · exact hq q h
                    · subst h; exact nc_iff.2 (by omega)⟩, by omega, imp_forget rfl ⟨rfl, rfl, (by first | rfl | exact ci (by omega) | exact ci (by simp) | exact cd (by simp) | simp), trivial⟩ trivial⟩
            · skip
              have h30 := t_dec h12
              refine rg_put (d := 35) (v := .d (.fl (.int .u8 (((bt s k).toNat : Int))))) rfl (oy rfl rfl rfl h12 (op_move rfl rfl rfl)) ?_
              refine rg_put (d := 36) (v := .d (.fl (.bool ((decide (((bt s k).toNat : Int) ≤ 122)))))) rfl (oy rfl rfl rfl h12 (op_bin rfl rfl rfl (b_leq _ _ _ _) rfl)) ?_
              refine rg_put (d := 37) (v := .d (.fl (.bool ((decide (((bt s k).toNat : Int) ≤ 122)))))) rfl (og rfl (op_pick rfl rfl (by rw [h12]; rfl) rfl)) ?_
              refine rg_put (d := 38) (v := .d (.fl (.bool ((decide (((bt s k).toNat : Int) ≤ 122)))))) rfl (og rfl (op_move rfl rfl rfl)) ?_
              rcases fot ((decide (((bt s k).toNat : Int) ≤ 122))) with h31 | h31
              · skip
                have h32 := f_dec h31
                refine rg_put (d := 39) (v := .d (.fl (.int .u8 (((bt s k).toNat : Int))))) rfl (oy rfl rfl rfl h31 (op_move rfl rfl rfl)) ?_
                refine rg_put (d := 40) (v := .d (.fl (.bool ((decide (48 ≤ ((bt s k).toNat : Int))))))) rfl (oy rfl rfl rfl h31 (op_bin rfl rfl rfl (b_geq _ _ _ _) rfl)) ?_
                refine rg_put (d := 41) (v := .d (.fl (.bool ((decide (48 ≤ ((bt s k).toNat : Int))))))) rfl (oy rfl rfl rfl h31 (op_move rfl rfl rfl)) ?_
                rcases fot ((decide (48 ≤ ((bt s k).toNat : Int)))) with h33 | h33
                · skip
                  have h34 := f_dec h33
                  refine rg_put (d := 42) (v := .d (.fl undef)) rfl (on rfl rfl rfl h33) ?_
                  refine rg_put (d := 43) (v := .d (.fl undef)) rfl (on rfl rfl rfl h33) ?_
                  refine rg_put (d := 44) (v := .d (.fl (.bool false))) rfl (oy rfl rfl rfl h31 (op_pick rfl rfl (by rw [h33]; rfl) rfl)) ?_
                  refine rg_put (d := 45) (v := .d (.fl (.bool false))) rfl (og rfl (op_pick rfl rfl (by rw [h31]; rfl) rfl)) ?_
                  refine rg_put (d := 46) (v := .d (.fl (.bool false))) rfl (og rfl (op_move rfl rfl rfl)) ?_
                  refine rg_put (d := 47) (v := .d (.fl (.int .u8 (((bt s k).toNat : Int))))) rfl (oy rfl rfl rfl rfl (op_move rfl rfl rfl)) ?_
                  refine rg_put (d := 48) (v := .d (.fl (.bool ((((bt s k).toNat : Int) == 45))))) rfl (oy rfl rfl rfl rfl (op_bin rfl rfl rfl (b_eql _ _ _ _) rfl)) ?_
                  refine rg_put (d := 49) (v := .d (.fl (.bool ((((bt s k).toNat : Int) == 45))))) rfl (og rfl (op_pick rfl rfl rfl rfl)) ?_
                  refine rg_put (d := 50) (v := .d (.fl (.bool ((!((((bt s k).toNat : Int) == 45))))))) rfl (og rfl (op_un rfl rfl (u_not _) rfl)) ?_
                  refine rg_done rfl ?_
                  refine a_cond rfl (fun h35 => ?_) (fun h35 => ?_)
                  · skip
                    have h36 := t_not h35
                    have h37 := f_beq h36
                    refine a_rseq ?_
                    refine rg_put (d := 2) (v := .d (.fl (.bool false))) rfl (og rfl (op_assign rfl rfl rfl)) ?_
                    refine rg_done rfl ?_
                    refine a_ret ?_
                    show ∃ ds, ResL _ _ _ ds ∧ RV.of ds = _
                    refine ⟨[.fl (.bool false)], (.cons (.tmp rfl (.d _)) .nil), ?_⟩
                    exact congrArg (fun b => RV.d (.fl (.bool b))) (isN_no (k := k) (by omega) (nc_f (by omega))).symm
                  · skip
                    have h38 := f_not h35
                    have h39 := t_beq h38
                    refine a_skip ?_
                    show A _ _ _ _ _ _ _
                    refine a_region ?_
                    refine rg_put (d := 27) (v := .d (.fl (.int .i64 (k : Int)))) rfl (og rfl (op_move rfl rfl rfl)) ?_
                    refine rg_put (d := 28) (v := .d (.fl (.int .i64 (((k : Int) + 1))))) rfl (og rfl (op_bin rfl rfl rfl (fun x y w => b_add64 _ _ _ x y w (by omega)) rfl)) ?_
                    refine rg_put (d := 3) (v := .d (.fl (.int .i64 (((k : Int) + 1))))) rfl (og rfl (op_assign rfl rfl rfl)) ?_
                    refine rg_done rfl ?_
                    show ∃ i, _ ∧ _ ∧ Imp _ _ _ _ _
                    refine ⟨k + 1, ⟨by omega, fun q h => by
                      rcases Nat.lt_succ_iff_lt_or_eq.1 h with h | h
                      · exact hq q h
                      · subst h; exact nc_iff.2 (by omega)⟩, by omega, imp_forget rfl ⟨rfl, rfl, (by first | rfl | exact ci (by omega) | exact ci (by simp) | exact cd (by simp) | simp), trivial⟩ trivial⟩
                · skip
                  have h40 := t_dec h33
                  refine rg_put (d := 42) (v := .d (.fl (.int .u8 (((bt s k).toNat : Int))))) rfl (oy rfl rfl rfl h33 (op_move rfl rfl rfl)) ?_
                  refine rg_put (d := 43) (v := .d (.fl (.bool ((decide (((bt s k).toNat : Int) ≤ 57)))))) rfl (oy rfl rfl rfl h33 (op_bin rfl rfl rfl (b_leq _ _ _ _) rfl)) ?_
                  refine rg_put (d := 44) (v := .d (.fl (.bool ((decide (((bt s k).toNat : Int) ≤ 57)))))) rfl (oy rfl rfl rfl h31 (op_pick rfl rfl (by rw [h33]; rfl) rfl)) ?_
                  refine rg_put (d := 45) (v := .d (.fl (.bool ((decide (((bt s k).toNat : Int) ≤ 57)))))) rfl (og rfl (op_pick rfl rfl (by rw [h31]; rfl) rfl)) ?_
                  refine rg_put (d := 46) (v := .d (.fl (.bool ((decide (((bt s k).toNat : Int) ≤ 57)))))) rfl (og rfl (op_move rfl rfl rfl)) ?_
                  rcases fot ((decide (((bt s k).toNat : Int) ≤ 57))) with h41 | h41
                  · skip
                    have h42 := f_dec h41
                    refine rg_put (d := 47) (v := .d (.fl (.int .u8 (((bt s k).toNat : Int))))) rfl (oy rfl rfl rfl h41 (op_move rfl rfl rfl)) ?_
                    refine rg_put (d := 48) (v := .d (.fl (.bool ((((bt s k).toNat : Int) == 45))))) rfl (oy rfl rfl rfl h41 (op_bin rfl rfl rfl (b_eql _ _ _ _) rfl)) ?_
                    refine rg_put (d := 49) (v := .d (.fl (.bool ((((bt s k).toNat : Int) == 45))))) rfl (og rfl (op_pick rfl rfl (by rw [h41]; rfl) rfl)) ?_
                    refine rg_put (d := 50) (v := .d (.fl (.bool ((!((((bt s k).toNat : Int) == 45))))))) rfl (og rfl (op_un rfl rfl (u_not _) rfl)) ?_
                    refine rg_done rfl ?_
                    refine a_cond rfl (fun h43 => ?_) (fun h43 => ?_)
                    · skip
                      have h44 := t_not h43
                      have h45 := f_beq h44
                      refine a_rseq ?_
                      refine rg_put (d := 2) (v := .d (.fl (.bool false))) rfl (og rfl (op_assign rfl rfl rfl)) ?_
                      refine rg_done rfl ?_
                      refine a_ret ?_
                      show ∃ ds, ResL _ _ _ ds ∧ RV.of ds = _
                      refine ⟨[.fl (.bool false)], (.cons (.tmp rfl (.d _)) .nil), ?_⟩
                      exact congrArg (fun b => RV.d (.fl (.bool b))) (isN_no (k := k) (by omega) (nc_f (by omega))).symm
                    · skip
                      have h46 := f_not h43
                      have h47 := t_beq h46
                      refine a_skip ?_
                      show A _ _ _ _ _ _ _
                      refine a_region ?_
                      refine rg_put (d := 27) (v := .d (.fl (.int .i64 (k : Int)))) rfl (og rfl (op_move rfl rfl rfl)) ?_
                      refine rg_put (d := 28) (v := .d (.fl (.int .i64 (((k : Int) + 1))))) rfl (og rfl (op_bin rfl rfl rfl (fun x y w => b_add64 _ _ _ x y w (by omega)) rfl)) ?_
                      refine rg_put (d := 3) (v := .d (.fl (.int .i64 (((k : Int) + 1))))) rfl (og rfl (op_assign rfl rfl rfl)) ?_
                      refine rg_done rfl ?_
                      show ∃ i, _ ∧ _ ∧ Imp _ _ _ _ _
                      refine ⟨k + 1, ⟨by omega, fun q h => by
                        rcases Nat.lt_succ_iff_lt_or_eq.1 h with h | h
                        · exact hq q h
                        · subst h; exact nc_iff.2 (by omega)⟩, by omega, imp_forget rfl ⟨rfl, rfl, (by first | rfl | exact ci (by omega) | exact ci (by simp) | exact cd (by simp) | simp), trivial⟩ trivial⟩
                  · skip
                    have h48 := t_dec h41
                    refine rg_put (d := 47) (v := .d (.fl undef)) rfl (on rfl rfl rfl h41) ?_
                    refine rg_put (d := 48) (v := .d (.fl undef)) rfl (on rfl rfl rfl h41) ?_
                    refine rg_put (d := 49) (v := .d (.fl (.bool true))) rfl (og rfl (op_pick rfl rfl (by rw [h41]; rfl) rfl)) ?_
                    refine rg_put (d := 50) (v := .d (.fl (.bool (!true)))) rfl (og rfl (op_un rfl rfl (u_not _) rfl)) ?_
                    refine rg_done rfl ?_
                    refine a_condF rfl (not_f rfl) ?_
                    refine a_skip ?_
                    show A _ _ _ _ _ _ _
                    refine a_region ?_
                    refine rg_put (d := 27) (v := .d (.fl (.int .i64 (k : Int)))) rfl (og rfl (op_move rfl rfl rfl)) ?_
                    refine rg_put (d := 28) (v := .d (.fl (.int .i64 (((k : Int) + 1))))) rfl (og rfl (op_bin rfl rfl rfl (fun x y w => b_add64 _ _ _ x y w (by omega)) rfl)) ?_
                    refine rg_put (d := 3) (v := .d (.fl (.int .i64 (((k : Int) + 1))))) rfl (og rfl (op_assign rfl rfl rfl)) ?_
                    refine rg_done rfl ?_
                    show ∃ i, _ ∧ _ ∧ Imp _ _ _ _ _
                    refine ⟨k + 1, ⟨by omega, fun q h => by
                      rcases Nat.lt_succ_iff_lt_or_eq.1 h with h | h
                      · exact hq q h
                      · subst h; exact nc_iff.2 (by omega)⟩, by omega, imp_forget rfl ⟨rfl, rfl, (by first | rfl | exact ci (by omega) | exact ci (by simp) | exact cd (by simp) | simp), trivial⟩ trivial⟩
              · skip
                have h49 := t_dec h31
                refine rg_put (d := 39) (v := .d (.fl undef)) rfl (on rfl rfl rfl h31) ?_
                refine rg_put (d := 40) (v := .d (.fl undef)) rfl (on rfl rfl rfl h31) ?_
                refine rg_put (d := 41) (v := .d (.fl undef)) rfl (on rfl rfl rfl h31) ?_
                refine rg_put (d := 42) (v := .d (.fl undef)) rfl (ou rfl rfl rfl) ?_
                refine rg_put (d := 43) (v := .d (.fl undef)) rfl (ou rfl rfl rfl) ?_
                refine rg_put (d := 44) (v := .d (.fl undef)) rfl (on rfl rfl rfl h31) ?_
                refine rg_put (d := 45) (v := .d (.fl (.bool true))) rfl (og rfl (op_pick rfl rfl (by rw [h31]; rfl) rfl)) ?_
                refine rg_put (d := 46) (v := .d (.fl (.bool true))) rfl (og rfl (op_move rfl rfl rfl)) ?_
                refine rg_put (d := 47) (v := .d (.fl undef)) rfl (on rfl rfl rfl rfl) ?_
                refine rg_put (d := 48) (v := .d (.fl undef)) rfl (on rfl rfl rfl rfl) ?_
                refine rg_put (d := 49) (v := .d (.fl (.bool true))) rfl (og rfl (op_pick rfl rfl rfl rfl)) ?_
                refine rg_put (d := 50) (v := .d (.fl (.bool (!true)))) rfl (og rfl (op_un rfl rfl (u_not _) rfl)) ?_
                refine rg_done rfl ?_
                refine a_condF rfl (not_f rfl) ?_
                refine a_skip ?_
                show A _ _ _ _ _ _ _
                refine a_region ?_
                refine rg_put (d := 27) (v := .d (.fl (.int .i64 (k : Int)))) rfl (og rfl (op_move rfl rfl rfl)) ?_
                refine rg_put (d := 28) (v := .d (.fl (.int .i64 (((k : Int) + 1))))) rfl (og rfl (op_bin rfl rfl rfl (fun x y w => b_add64 _ _ _ x y w (by omega)) rfl)) ?_
                refine rg_put (d := 3) (v := .d (.fl (.int .i64 (((k : Int) + 1))))) rfl (og rfl (op_assign rfl rfl rfl)) ?_
                refine rg_done rfl ?_
                show ∃ i, _ ∧ _ ∧ Imp _ _ _ _ _
                refine ⟨k + 1, ⟨by omega, fun q h => by
                  rcases Nat.lt_succ_iff_lt_or_eq.1 h with h | h
                  · exact hq q h
                  · subst h; exact nc_iff.2 (by omega)⟩, by omega, imp_forget rfl ⟨rfl, rfl, (by first | rfl | exact ci (by omega) | exact ci (by simp) | exact cd (by simp) | simp), trivial⟩ trivial⟩
          · skip
            have h50 := f_dec h10
            refine a_exit ?_
            show A _ _ _ _ _ _ _
            refine a_rseq ?_
            refine rg_put (d := 2) (v := .d (.fl (.bool true))) rfl (og rfl (op_assign rfl rfl rfl)) ?_
            refine rg_done rfl ?_
            refine a_ret ?_
            show ∃ ds, ResL _ _ _ ds ∧ RV.of ds = _
            refine ⟨[.fl (.bool true)], (.cons (.tmp rfl (.d _)) .nil), ?_⟩
            exact congrArg (fun b => RV.d (.fl (.bool b))) (isN_yes (by omega) (by omega) (lo_iff.2 (by omega)) (fun q h => hq q (by omega))).symm
      · skip
        have h51 := t_dec h5
        refine rg_put (d := 19) (v := .d (.fl undef)) rfl (on rfl rfl rfl h5) ?_
        refine rg_put (d := 20) (v := .d (.fl undef)) rfl (on rfl rfl rfl h5) ?_
        refine rg_put (d := 21) (v := .d (.fl undef)) rfl (on rfl rfl rfl h5) ?_
        refine rg_put (d := 22) (v := .d (.fl (.bool true))) rfl (og rfl (op_pick rfl rfl (by rw [h5]; rfl) rfl)) ?_
        refine rg_done rfl ?_
        refine a_condK rfl rfl ?_
        refine a_rseq ?_
        refine rg_put (d := 2) (v := .d (.fl (.bool false))) rfl (og rfl (op_assign rfl rfl rfl)) ?_
        refine rg_done rfl ?_
        refine a_ret ?_
        show ∃ ds, ResL _ _ _ ds ∧ RV.of ds = _
        refine ⟨[.fl (.bool false)], (.cons (.tmp rfl (.d _)) .nil), ?_⟩
        exact congrArg (fun b => RV.d (.fl (.bool b))) (isN_no0 (.inr (.inr (lo_f (by omega))))).symm
    · skip
      have h52 := t_dec h3
      refine rg_put (d := 14) (v := .d (.fl undef)) rfl (on rfl rfl rfl h3) ?_
      refine rg_put (d := 15) (v := .d (.fl undef)) rfl (on rfl rfl rfl h3) ?_
      refine rg_put (d := 16) (v := .d (.fl undef)) rfl (on rfl rfl rfl h3) ?_
      refine rg_put (d := 17) (v := .d (.fl (.bool true))) rfl (og rfl (op_pick rfl rfl (by rw [h3]; rfl) rfl)) ?_
      refine rg_put (d := 18) (v := .d (.fl (.bool true))) rfl (og rfl (op_move rfl rfl rfl)) ?_
      refine rg_put (d := 19) (v := .d (.fl undef)) rfl (on rfl rfl rfl rfl) ?_
      refine rg_put (d := 20) (v := .d (.fl undef)) rfl (on rfl rfl rfl rfl) ?_
      refine rg_put (d := 21) (v := .d (.fl undef)) rfl (on rfl rfl rfl rfl) ?_
      refine rg_put (d := 22) (v := .d (.fl (.bool true))) rfl (og rfl (op_pick rfl rfl rfl rfl)) ?_
      refine rg_done rfl ?_
      refine a_condK rfl rfl ?_
      refine a_rseq ?_
      refine rg_put (d := 2) (v := .d (.fl (.bool false))) rfl (og rfl (op_assign rfl rfl rfl)) ?_
      refine rg_done rfl ?_
      refine a_ret ?_
      show ∃ ds, ResL _ _ _ ds ∧ RV.of ds = _
      refine ⟨[.fl (.bool false)], (.cons (.tmp rfl (.d _)) .nil), ?_⟩
      exact congrArg (fun b => RV.d (.fl (.bool b))) (isN_no0 (by omega)).symm
  · skip
    have h53 := t_dec h1
    refine rg_put (d := 9) (v := .d (.fl undef)) rfl (on rfl rfl rfl h1) ?_
    refine rg_put (d := 10) (v := .d (.fl undef)) rfl (on rfl rfl rfl h1) ?_
    refine rg_put (d := 11) (v := .d (.fl undef)) rfl (on rfl rfl rfl h1) ?_
    refine rg_put (d := 12) (v := .d (.fl (.bool true))) rfl (og rfl (op_pick rfl rfl (by rw [h1]; rfl) rfl)) ?_
    refine rg_put (d := 13) (v := .d (.fl (.bool true))) rfl (og rfl (op_move rfl rfl rfl)) ?_
    refine rg_put (d := 14) (v := .d (.fl undef)) rfl (on rfl rfl rfl rfl) ?_
    refine rg_put (d := 15) (v := .d (.fl undef)) rfl (on rfl rfl rfl rfl) ?_
    refine rg_put (d := 16) (v := .d (.fl undef)) rfl (on rfl rfl rfl rfl) ?_
    refine rg_put (d := 17) (v := .d (.fl (.bool true))) rfl (og rfl (op_pick rfl rfl rfl rfl)) ?_
    refine rg_put (d := 18) (v := .d (.fl (.bool true))) rfl (og rfl (op_move rfl rfl rfl)) ?_
    refine rg_put (d := 19) (v := .d (.fl undef)) rfl (on rfl rfl rfl rfl) ?_
    refine rg_put (d := 20) (v := .d (.fl undef)) rfl (on rfl rfl rfl rfl) ?_
    refine rg_put (d := 21) (v := .d (.fl undef)) rfl (on rfl rfl rfl rfl) ?_
    refine rg_put (d := 22) (v := .d (.fl (.bool true))) rfl (og rfl (op_pick rfl rfl rfl rfl)) ?_
    refine rg_done rfl ?_
    refine a_condK rfl rfl ?_
    refine a_rseq ?_
    refine rg_put (d := 2) (v := .d (.fl (.bool false))) rfl (og rfl (op_assign rfl rfl rfl)) ?_
    refine rg_done rfl ?_
    refine a_ret ?_
    show ∃ ds, ResL _ _ _ ds ∧ RV.of ds = _
    refine ⟨[.fl (.bool false)], (.cons (.tmp rfl (.d _)) .nil), ?_⟩
    exact congrArg (fun b => RV.d (.fl (.bool b))) (isN_no0 (by omega)).symm
end Go.Proofs.Yteplcjhnmmpicaa.Wk
