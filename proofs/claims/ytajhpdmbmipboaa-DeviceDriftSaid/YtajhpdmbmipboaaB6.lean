/- Names. No condition. -/
import Derived.Test.YtajhpdmbmipboaaB5
set_option linter.unusedSimpArgs false
set_option linter.unusedVariables false
namespace Go.Proofs.Ytajhpdmbmipboaa.Wk
open Go Go.RowKit Go.Proofs.Ytajhpdmbmipboaa.Av
def lo (c : Nat) : Bool := decide (97 ≤ c) && decide (c ≤ 122)
def nc (c : Nat) : Bool := lo c || (decide (48 ≤ c) && decide (c ≤ 57)) || c == 45
def isN (s : ByteArray) : Bool := decide (1 ≤ s.size) && decide (s.size ≤ 12) && lo (bt s 0).toNat && (List.range s.size).all fun q => nc (bt s q).toNat
theorem isN_no0 {s : ByteArray} (h : s.size < 1 ∨ 12 < s.size ∨ lo (bt s 0).toNat = false) : isN s = false := by
  unfold isN
  rcases h with h | h | h
  · simp; omega
  · simp; omega
  · simp [h]
theorem isN_no {s : ByteArray} {k : Nat} (hk : k < s.size) (h : nc (bt s k).toNat = false) : isN s = false := by
  unfold isN
  rw [Bool.and_eq_false_iff]
  right
  rw [List.all_eq_false]
  exact ⟨k, by simpa using hk, by simp [h]⟩
theorem isN_yes {s : ByteArray} (h1 : 1 ≤ s.size) (h2 : s.size ≤ 12) (h3 : lo (bt s 0).toNat = true) (h : ∀ q, q < s.size → nc (bt s q).toNat = true) : isN s = true := by
  unfold isN
  simp only [Bool.and_eq_true, decide_eq_true_eq, List.all_eq_true, List.mem_range]
  exact ⟨⟨⟨h1, h2⟩, h3⟩, h⟩
theorem lo_iff {c : Nat} : lo c = true ↔ 97 ≤ c ∧ c ≤ 122 := by simp [lo]
theorem nc_iff {c : Nat} : nc c = true ↔ (97 ≤ c ∧ c ≤ 122) ∨ (48 ≤ c ∧ c ≤ 57) ∨ c = 45 := by simp [nc, lo, or_assoc]
theorem lo_f {c : Nat} (h : ¬ (97 ≤ c ∧ c ≤ 122)) : lo c = false := by
  cases hc : lo c with
  | false => rfl
  | true => exact absurd (lo_iff.1 hc) h
theorem nc_f {c : Nat} (h : ¬ ((97 ≤ c ∧ c ≤ 122) ∨ (48 ≤ c ∧ c ≤ 57) ∨ c = 45)) : nc c = false := by
  cases hc : nc c with
  | false => rfl
  | true => exact absurd (nc_iff.1 hc) h
theorem seq0 {s : ByteArray} : sEq s ⟨#[]⟩ = decide (s.size = 0) := by
  unfold sEq
  by_cases h : s.size = 0
  · have : s = ⟨#[]⟩ := by
      cases s; congr 1; exact Array.eq_empty_of_size_eq_zero h
    rw [decide_eq_true this, decide_eq_true h]
  · have : s ≠ ⟨#[]⟩ := fun e => by subst e; exact h rfl
    rw [decide_eq_false this, decide_eq_false h]


theorem decode_big {s : ByteArray} {k : Nat} (h : k < s.size) : ¬ (128 ≤ (bt s k).toNat) → ((Utf8.decode s k).1 : Int) < 128 := fun h1 => by
  have h' : k < s.data.size := by simpa using h
  have hb : (s[k]'h) = bt s k := by
    unfold bt
    simp [List.getD, Array.getElem?_eq_getElem h']
    rfl
  rw [decode_ascii s k h (by rw [hb]; omega), hb]
  omega
set_option maxHeartbeats 4000000 in
set_option maxRecDepth 100000 in
theorem ret_name (s : ByteArray) : Ctr Try.prog 18 [.fl (.string s)] (.d (.fl (.bool (isN s)))) := by
  refine ctr (n := 46) (rs := #[.tmp 2]) (L := [(0, .d (.fl (.string s)))]) Try.func18 rfl rfl rfl rfl rfl (fun w0 U0 => ?_)
  refine a_rseq ?_
  refine rg_put (d := 2) (v := .d (.fl (.bool false))) rfl (og rfl (op_assign rfl rfl rfl)) ?_
  refine rg_done rfl ?_
  refine a_seq ?_
  refine a_rseq ?_
  refine rg_put (d := 7) (v := .d (.fl (.string s))) rfl (og rfl (op_move rfl rfl rfl)) ?_
  refine rg_put (d := 8) (v := .d (.fl (.bool ((sEq s (⟨#[]⟩)))))) rfl (og rfl (op_bin rfl rfl rfl (b_seq _ _ _) rfl)) ?_
  refine rg_put (d := 9) (v := .d (.fl (.bool ((sEq s (⟨#[]⟩)))))) rfl (og rfl (op_move rfl rfl rfl)) ?_
  rcases fot ((sEq s (⟨#[]⟩))) with h1 | h1
  · skip
    have := (seq0 (s := s)).symm.trans h1
    have := f_dec this
    refine rg_put (d := 10) (v := .d (.fl (.string s))) rfl (oy rfl rfl rfl h1 (op_move rfl rfl rfl)) ?_
    refine rg_put (d := 11) (v := .d (.fl (.int .i64 (s.size : Int)))) rfl (oy rfl rfl rfl h1 (op_len_str rfl Try.underlying9 rfl rfl)) ?_
    refine rg_put (d := 12) (v := .d (.fl (.bool ((decide (12 < (s.size : Int))))))) rfl (oy rfl rfl rfl h1 (op_bin rfl rfl rfl (b_gtr _ _ _ _) rfl)) ?_
    refine rg_put (d := 13) (v := .d (.fl (.bool ((decide (12 < (s.size : Int))))))) rfl (og rfl (op_pick rfl rfl (by rw [h1]; rfl) rfl)) ?_
    refine rg_done rfl ?_
    refine a_cond rfl (fun h2 => ?_) (fun h2 => ?_)
    · skip
      have h3 := t_dec h2
      refine a_rseq ?_
      refine rg_put (d := 2) (v := .d (.fl (.bool false))) rfl (og rfl (op_assign rfl rfl rfl)) ?_
      refine rg_done rfl ?_
      refine a_ret ?_
      show ∃ ds, ResL _ _ _ ds ∧ RV.of ds = _
      refine ⟨[.fl (.bool false)], (.cons (.tmp rfl (.d _)) .nil), ?_⟩
      exact congrArg (fun b => RV.d (.fl (.bool b))) (isN_no0 (by omega)).symm
    · skip
      have h4 := f_dec h2
      refine a_skip ?_
      show A _ _ _ _ _ _ _
      refine a_seq ?_
      refine a_rseq ?_
      refine rg_put (d := 14) (v := .d (.fl (.string s))) rfl (og rfl (op_move rfl rfl rfl)) ?_
      refine rg_nam (d := 15) (v := .ow 101) (m := 101) (nw := [(101, .it s 0)]) rfl (og rfl (op_range 101 rfl Try.underlying9 rfl rfl)) rfl ?_
      refine rg_done rfl ?_
      refine a_block ?_
      refine a_loop (ι := Nat) (fun k => SS [(0, .d (.fl (.string s))), (13, .d (.fl (.bool ((decide (12 < (s.size : Int))))))), (15, .ow 101)] [(101, .it s k)]) (fun k => k ≤ s.size ∧ (∀ q, q < k → nc (bt s q).toNat = true) ∧ (0 < k → lo (bt s 0).toNat = true)) (fun k => s.size - k) 0 (⟨by omega, fun q h => by omega, fun h => by omega⟩) (imp_forget rfl ⟨rfl, rfl, rfl, trivial⟩ ⟨(by first | rfl | simp), trivial⟩) (fun k hok => ?_)
      obtain ⟨hk, hq, hz⟩ := hok
      refine a_rseq ?_
      rcases fot ((decide (k < s.size))) with h5 | h5
      · skip
        have h6 := f_dec h5
        refine rg_put (d := 16) (v := .tu [.fl (.bool false)]) rfl (og rfl (op_next_no rfl rfl rfl (f_dec h5) rfl)) ?_
        refine rg_put (d := 17) (v := .d (.fl (.bool false))) rfl (og rfl (op_extract rfl rfl rfl rfl)) ?_
        refine rg_done rfl ?_
        refine a_seq ?_
        refine a_condF rfl rfl ?_
        refine a_exit ?_
        show A _ _ _ _ _ _ _
        refine a_rseq ?_
        refine rg_put (d := 2) (v := .d (.fl (.bool true))) rfl (og rfl (op_assign rfl rfl rfl)) ?_
        refine rg_done rfl ?_
        refine a_ret ?_
        show ∃ ds, ResL _ _ _ ds ∧ RV.of ds = _
        refine ⟨[.fl (.bool true)], (.cons (.tmp rfl (.d _)) .nil), ?_⟩
        exact congrArg (fun b => RV.d (.fl (.bool b))) (isN_yes (by omega) (by omega) (hz (by omega)) (fun q h => hq q (by omega))).symm
      · skip
        have h7 := t_dec h5
        refine rg_upd (d := 16) (v := .tu [.fl (.bool true), .fl (.int .i64 (k : Int)), .fl (.int .i32 (((Utf8.decode s k).1 : Int)))]) (nw := [(101, .it s ((k + (Utf8.decode s k).2)))]) rfl (og rfl (op_next_yes rfl rfl rfl (t_dec h5) rfl)) ?_
        refine rg_put (d := 17) (v := .d (.fl (.bool true))) rfl (og rfl (op_extract rfl rfl rfl rfl)) ?_
        refine rg_done rfl ?_
        refine a_seq ?_
        refine a_condK rfl rfl ?_
        refine a_skip ?_
        show A _ _ _ _ _ _ _
        refine a_block ?_
        refine a_rseq ?_
        refine rg_put (d := 18) (v := .d (.fl (.int .i64 (k : Int)))) rfl (og rfl (op_extract rfl rfl rfl rfl)) ?_
        refine rg_put (d := 19) (v := .d (.fl (.int .i32 (((Utf8.decode s k).1 : Int))))) rfl (og rfl (op_extract rfl rfl rfl rfl)) ?_
        refine rg_put (d := 3) (v := .d (.fl (.int .i64 (k : Int)))) rfl (og rfl (op_assign rfl rfl rfl)) ?_
        refine rg_put (d := 4) (v := .d (.fl (.int .i32 (((Utf8.decode s k).1 : Int))))) rfl (og rfl (op_assign rfl rfl rfl)) ?_
        refine rg_done rfl ?_
        refine a_rseq ?_
        refine rg_put (d := 20) (v := .d (.fl (.int .i32 (((Utf8.decode s k).1 : Int))))) rfl (og rfl (op_move rfl rfl rfl)) ?_
        refine rg_put (d := 21) (v := .d (.fl (.bool ((decide (97 ≤ ((Utf8.decode s k).1 : Int))))))) rfl (og rfl (op_bin rfl rfl rfl (b_leq _ _ _ _) rfl)) ?_
        refine rg_put (d := 22) (v := .d (.fl (.bool ((decide (97 ≤ ((Utf8.decode s k).1 : Int))))))) rfl (og rfl (op_move rfl rfl rfl)) ?_
        rcases fot ((decide (97 ≤ ((Utf8.decode s k).1 : Int)))) with h8 | h8
        · skip
          have h9 := f_dec h8
          refine rg_put (d := 23) (v := .d (.fl undef)) rfl (on rfl rfl rfl h8) ?_
          refine rg_put (d := 24) (v := .d (.fl undef)) rfl (on rfl rfl rfl h8) ?_
          refine rg_put (d := 25) (v := .d (.fl (.bool false))) rfl (og rfl (op_pick rfl rfl (by rw [h8]; rfl) rfl)) ?_
          refine rg_put (d := 5) (v := .d (.fl (.bool false))) rfl (og rfl (op_assign rfl rfl rfl)) ?_
          refine rg_done rfl ?_
          refine a_rseq ?_
          refine rg_put (d := 26) (v := .d (.fl (.int .i32 (((Utf8.decode s k).1 : Int))))) rfl (og rfl (op_move rfl rfl rfl)) ?_
          refine rg_put (d := 27) (v := .d (.fl (.bool ((decide (48 ≤ ((Utf8.decode s k).1 : Int))))))) rfl (og rfl (op_bin rfl rfl rfl (b_leq _ _ _ _) rfl)) ?_
          refine rg_put (d := 28) (v := .d (.fl (.bool ((decide (48 ≤ ((Utf8.decode s k).1 : Int))))))) rfl (og rfl (op_move rfl rfl rfl)) ?_
          rcases fot ((decide (48 ≤ ((Utf8.decode s k).1 : Int)))) with h10 | h10
          · skip
            have h11 := f_dec h10
            refine rg_put (d := 29) (v := .d (.fl undef)) rfl (on rfl rfl rfl h10) ?_
            refine rg_put (d := 30) (v := .d (.fl undef)) rfl (on rfl rfl rfl h10) ?_
            refine rg_put (d := 31) (v := .d (.fl (.bool false))) rfl (og rfl (op_pick rfl rfl (by rw [h10]; rfl) rfl)) ?_
            refine rg_put (d := 32) (v := .d (.fl (.bool false))) rfl (og rfl (op_move rfl rfl rfl)) ?_
            refine rg_put (d := 33) (v := .d (.fl (.int .i32 (((Utf8.decode s k).1 : Int))))) rfl (oy rfl rfl rfl rfl (op_move rfl rfl rfl)) ?_
            refine rg_put (d := 34) (v := .d (.fl (.bool ((((Utf8.decode s k).1 : Int) == 45))))) rfl (oy rfl rfl rfl rfl (op_bin rfl rfl rfl (b_eql _ _ _ _) rfl)) ?_
            refine rg_put (d := 35) (v := .d (.fl (.bool ((((Utf8.decode s k).1 : Int) == 45))))) rfl (og rfl (op_pick rfl rfl rfl rfl)) ?_
            refine rg_put (d := 6) (v := .d (.fl (.bool ((((Utf8.decode s k).1 : Int) == 45))))) rfl (og rfl (op_assign rfl rfl rfl)) ?_
            refine rg_done rfl ?_
            refine a_rseq ?_
            refine rg_put (d := 36) (v := .d (.fl (.bool false))) rfl (og rfl (op_move rfl rfl rfl)) ?_
            refine rg_put (d := 37) (v := .d (.fl (.bool (!false)))) rfl (og rfl (op_un rfl rfl (u_not _) rfl)) ?_
            refine rg_put (d := 38) (v := .d (.fl (.bool (!false)))) rfl (og rfl (op_move rfl rfl rfl)) ?_
            refine rg_put (d := 39) (v := .d (.fl (.int .i64 (k : Int)))) rfl (oy rfl rfl rfl (not_t' rfl) (op_move rfl rfl rfl)) ?_
            refine rg_put (d := 40) (v := .d (.fl (.bool (((k : Int) == 0))))) rfl (oy rfl rfl rfl (not_t' rfl) (op_bin rfl rfl rfl (b_eql _ _ _ _) rfl)) ?_
            refine rg_put (d := 41) (v := .d (.fl (.bool (((k : Int) == 0))))) rfl (oy rfl rfl rfl (not_t' rfl) (op_move rfl rfl rfl)) ?_
            rcases fot (((k : Int) == 0)) with h12 | h12
            · skip
              have h13 := f_beq h12
              refine rg_put (d := 42) (v := .d (.fl (.bool ((((Utf8.decode s k).1 : Int) == 45))))) rfl (oy rfl rfl rfl h12 (op_move rfl rfl rfl)) ?_
              refine rg_put (d := 43) (v := .d (.fl (.bool ((!((((Utf8.decode s k).1 : Int) == 45))))))) rfl (oy rfl rfl rfl h12 (op_un rfl rfl (u_not _) rfl)) ?_
              refine rg_put (d := 44) (v := .d (.fl (.bool ((!((((Utf8.decode s k).1 : Int) == 45))))))) rfl (oy rfl rfl rfl (not_t' rfl) (op_pick rfl rfl (by rw [h12]; rfl) rfl)) ?_
              refine rg_put (d := 45) (v := .d (.fl (.bool ((!((((Utf8.decode s k).1 : Int) == 45))))))) rfl (og rfl (op_pick rfl rfl (by rw [(not_t' rfl)]; rfl) rfl)) ?_
              refine rg_done rfl ?_
              refine a_cond rfl (fun h14 => ?_) (fun h14 => ?_)
              · skip
                have h15 := t_not h14
                have h16 := f_beq h15
                refine a_rseq ?_
                refine rg_put (d := 2) (v := .d (.fl (.bool false))) rfl (og rfl (op_assign rfl rfl rfl)) ?_
                refine rg_done rfl ?_
                refine a_ret ?_
                show ∃ ds, ResL _ _ _ ds ∧ RV.of ds = _
                refine ⟨[.fl (.bool false)], (.cons (.tmp rfl (.d _)) .nil), ?_⟩
                by_cases h128 : ((Utf8.decode s k).1 : Int) < 128
                · skip
                  have hdn : ((Utf8.decode s k).1 : Int) = ((bt s k).toNat : Int) := by rw [dec_low (s := s) (k := k) (by omega) h128]
                  rcases Nat.eq_zero_or_pos k with h0 | h0
                  · subst h0; exact congrArg (fun b => RV.d (.fl (.bool b))) (isN_no0 (.inr (.inr (lo_f (by omega))))).symm
                  · exact congrArg (fun b => RV.d (.fl (.bool b))) (isN_no (k := k) (by omega) (nc_f (by omega))).symm
                · skip
                  have h129 : 128 ≤ (bt s k).toNat := by
                    have := decode_big (s := s) (k := k) (by omega)
                    omega
                  exact congrArg (fun b => RV.d (.fl (.bool b))) (isN_no (k := k) (by omega) (nc_f (by omega))).symm
              · skip
                have h17 := f_not h14
                have h18 := t_beq h17
                refine a_skip ?_
                have hd := dec_low (s := s) (k := k) (by omega) (by omega)
                have hdn : ((Utf8.decode s k).1 : Int) = ((bt s k).toNat : Int) := by rw [hd]
                show ∃ i, _ ∧ _ ∧ Imp _ _ _ _ _
                refine ⟨k + 1, ⟨by omega, fun q h => by
                  rcases Nat.lt_succ_iff_lt_or_eq.1 h with h | h
                  · exact hq q h
                  · subst h; exact nc_iff.2 (by omega), fun h => by
                  rcases Nat.eq_zero_or_pos k with h0 | h0
                  · subst h0; exact lo_iff.2 (by omega)
                  · exact hz h0⟩, by omega, imp_forget rfl ⟨rfl, rfl, rfl, trivial⟩ ⟨(congrArg (Ob.it s) (by rw [hd])), trivial⟩⟩
            · skip
              have h19 := t_beq h12
              refine rg_put (d := 42) (v := .d (.fl undef)) rfl (on rfl rfl rfl h12) ?_
              refine rg_put (d := 43) (v := .d (.fl undef)) rfl (on rfl rfl rfl h12) ?_
              refine rg_put (d := 44) (v := .d (.fl (.bool true))) rfl (oy rfl rfl rfl (not_t' rfl) (op_pick rfl rfl (by rw [h12]; rfl) rfl)) ?_
              refine rg_put (d := 45) (v := .d (.fl (.bool true))) rfl (og rfl (op_pick rfl rfl (by rw [(not_t' rfl)]; rfl) rfl)) ?_
              refine rg_done rfl ?_
              refine a_condK rfl rfl ?_
              refine a_rseq ?_
              refine rg_put (d := 2) (v := .d (.fl (.bool false))) rfl (og rfl (op_assign rfl rfl rfl)) ?_
              refine rg_done rfl ?_
              refine a_ret ?_
              show ∃ ds, ResL _ _ _ ds ∧ RV.of ds = _
              refine ⟨[.fl (.bool false)], (.cons (.tmp rfl (.d _)) .nil), ?_⟩
              by_cases h128 : ((Utf8.decode s k).1 : Int) < 128
              · skip
                have hdn : ((Utf8.decode s k).1 : Int) = ((bt s k).toNat : Int) := by rw [dec_low (s := s) (k := k) (by omega) h128]
                rcases Nat.eq_zero_or_pos k with h0 | h0
                · subst h0; exact congrArg (fun b => RV.d (.fl (.bool b))) (isN_no0 (.inr (.inr (lo_f (by omega))))).symm
                · exact congrArg (fun b => RV.d (.fl (.bool b))) (isN_no (k := k) (by omega) (nc_f (by omega))).symm
              · skip
                have h129 : 128 ≤ (bt s k).toNat := by
                  have := decode_big (s := s) (k := k) (by omega)
                  omega
                exact congrArg (fun b => RV.d (.fl (.bool b))) (isN_no (k := k) (by omega) (nc_f (by omega))).symm
          · skip
            have h20 := t_dec h10
            refine rg_put (d := 29) (v := .d (.fl (.int .i32 (((Utf8.decode s k).1 : Int))))) rfl (oy rfl rfl rfl h10 (op_move rfl rfl rfl)) ?_
            refine rg_put (d := 30) (v := .d (.fl (.bool ((decide (((Utf8.decode s k).1 : Int) ≤ 57)))))) rfl (oy rfl rfl rfl h10 (op_bin rfl rfl rfl (b_leq _ _ _ _) rfl)) ?_
            refine rg_put (d := 31) (v := .d (.fl (.bool ((decide (((Utf8.decode s k).1 : Int) ≤ 57)))))) rfl (og rfl (op_pick rfl rfl (by rw [h10]; rfl) rfl)) ?_
            refine rg_put (d := 32) (v := .d (.fl (.bool ((decide (((Utf8.decode s k).1 : Int) ≤ 57)))))) rfl (og rfl (op_move rfl rfl rfl)) ?_
            rcases fot ((decide (((Utf8.decode s k).1 : Int) ≤ 57))) with h21 | h21
            · skip
              have h22 := f_dec h21
              refine rg_put (d := 33) (v := .d (.fl (.int .i32 (((Utf8.decode s k).1 : Int))))) rfl (oy rfl rfl rfl h21 (op_move rfl rfl rfl)) ?_
              refine rg_put (d := 34) (v := .d (.fl (.bool ((((Utf8.decode s k).1 : Int) == 45))))) rfl (oy rfl rfl rfl h21 (op_bin rfl rfl rfl (b_eql _ _ _ _) rfl)) ?_
              refine rg_put (d := 35) (v := .d (.fl (.bool ((((Utf8.decode s k).1 : Int) == 45))))) rfl (og rfl (op_pick rfl rfl (by rw [h21]; rfl) rfl)) ?_
              refine rg_put (d := 6) (v := .d (.fl (.bool ((((Utf8.decode s k).1 : Int) == 45))))) rfl (og rfl (op_assign rfl rfl rfl)) ?_
              refine rg_done rfl ?_
              refine a_rseq ?_
              refine rg_put (d := 36) (v := .d (.fl (.bool false))) rfl (og rfl (op_move rfl rfl rfl)) ?_
              refine rg_put (d := 37) (v := .d (.fl (.bool (!false)))) rfl (og rfl (op_un rfl rfl (u_not _) rfl)) ?_
              refine rg_put (d := 38) (v := .d (.fl (.bool (!false)))) rfl (og rfl (op_move rfl rfl rfl)) ?_
              refine rg_put (d := 39) (v := .d (.fl (.int .i64 (k : Int)))) rfl (oy rfl rfl rfl (not_t' rfl) (op_move rfl rfl rfl)) ?_
              refine rg_put (d := 40) (v := .d (.fl (.bool (((k : Int) == 0))))) rfl (oy rfl rfl rfl (not_t' rfl) (op_bin rfl rfl rfl (b_eql _ _ _ _) rfl)) ?_
              refine rg_put (d := 41) (v := .d (.fl (.bool (((k : Int) == 0))))) rfl (oy rfl rfl rfl (not_t' rfl) (op_move rfl rfl rfl)) ?_
              rcases fot (((k : Int) == 0)) with h23 | h23
              · skip
                have h24 := f_beq h23
                refine rg_put (d := 42) (v := .d (.fl (.bool ((((Utf8.decode s k).1 : Int) == 45))))) rfl (oy rfl rfl rfl h23 (op_move rfl rfl rfl)) ?_
                refine rg_put (d := 43) (v := .d (.fl (.bool ((!((((Utf8.decode s k).1 : Int) == 45))))))) rfl (oy rfl rfl rfl h23 (op_un rfl rfl (u_not _) rfl)) ?_
                refine rg_put (d := 44) (v := .d (.fl (.bool ((!((((Utf8.decode s k).1 : Int) == 45))))))) rfl (oy rfl rfl rfl (not_t' rfl) (op_pick rfl rfl (by rw [h23]; rfl) rfl)) ?_
                refine rg_put (d := 45) (v := .d (.fl (.bool ((!((((Utf8.decode s k).1 : Int) == 45))))))) rfl (og rfl (op_pick rfl rfl (by rw [(not_t' rfl)]; rfl) rfl)) ?_
                refine rg_done rfl ?_
                refine a_cond rfl (fun h25 => ?_) (fun h25 => ?_)
                · skip
                  have h26 := t_not h25
                  have h27 := f_beq h26
                  refine a_rseq ?_
                  refine rg_put (d := 2) (v := .d (.fl (.bool false))) rfl (og rfl (op_assign rfl rfl rfl)) ?_
                  refine rg_done rfl ?_
                  refine a_ret ?_
                  show ∃ ds, ResL _ _ _ ds ∧ RV.of ds = _
                  refine ⟨[.fl (.bool false)], (.cons (.tmp rfl (.d _)) .nil), ?_⟩
                  by_cases h128 : ((Utf8.decode s k).1 : Int) < 128
                  · skip
                    have hdn : ((Utf8.decode s k).1 : Int) = ((bt s k).toNat : Int) := by rw [dec_low (s := s) (k := k) (by omega) h128]
                    rcases Nat.eq_zero_or_pos k with h0 | h0
                    · subst h0; exact congrArg (fun b => RV.d (.fl (.bool b))) (isN_no0 (.inr (.inr (lo_f (by omega))))).symm
                    · exact congrArg (fun b => RV.d (.fl (.bool b))) (isN_no (k := k) (by omega) (nc_f (by omega))).symm
                  · skip
                    have h129 : 128 ≤ (bt s k).toNat := by
                      have := decode_big (s := s) (k := k) (by omega)
                      omega
                    exact congrArg (fun b => RV.d (.fl (.bool b))) (isN_no (k := k) (by omega) (nc_f (by omega))).symm
                · skip
                  have h28 := f_not h25
                  have h29 := t_beq h28
                  refine a_skip ?_
                  have hd := dec_low (s := s) (k := k) (by omega) (by omega)
                  have hdn : ((Utf8.decode s k).1 : Int) = ((bt s k).toNat : Int) := by rw [hd]
                  show ∃ i, _ ∧ _ ∧ Imp _ _ _ _ _
                  refine ⟨k + 1, ⟨by omega, fun q h => by
                    rcases Nat.lt_succ_iff_lt_or_eq.1 h with h | h
                    · exact hq q h
                    · subst h; exact nc_iff.2 (by omega), fun h => by
                    rcases Nat.eq_zero_or_pos k with h0 | h0
                    · subst h0; exact lo_iff.2 (by omega)
                    · exact hz h0⟩, by omega, imp_forget rfl ⟨rfl, rfl, rfl, trivial⟩ ⟨(congrArg (Ob.it s) (by rw [hd])), trivial⟩⟩
              · skip
                have h30 := t_beq h23
                refine rg_put (d := 42) (v := .d (.fl undef)) rfl (on rfl rfl rfl h23) ?_
                refine rg_put (d := 43) (v := .d (.fl undef)) rfl (on rfl rfl rfl h23) ?_
                refine rg_put (d := 44) (v := .d (.fl (.bool true))) rfl (oy rfl rfl rfl (not_t' rfl) (op_pick rfl rfl (by rw [h23]; rfl) rfl)) ?_
                refine rg_put (d := 45) (v := .d (.fl (.bool true))) rfl (og rfl (op_pick rfl rfl (by rw [(not_t' rfl)]; rfl) rfl)) ?_
                refine rg_done rfl ?_
                refine a_condK rfl rfl ?_
                refine a_rseq ?_
                refine rg_put (d := 2) (v := .d (.fl (.bool false))) rfl (og rfl (op_assign rfl rfl rfl)) ?_
                refine rg_done rfl ?_
                refine a_ret ?_
                show ∃ ds, ResL _ _ _ ds ∧ RV.of ds = _
                refine ⟨[.fl (.bool false)], (.cons (.tmp rfl (.d _)) .nil), ?_⟩
                by_cases h128 : ((Utf8.decode s k).1 : Int) < 128
                · skip
                  have hdn : ((Utf8.decode s k).1 : Int) = ((bt s k).toNat : Int) := by rw [dec_low (s := s) (k := k) (by omega) h128]
                  rcases Nat.eq_zero_or_pos k with h0 | h0
                  · subst h0; exact congrArg (fun b => RV.d (.fl (.bool b))) (isN_no0 (.inr (.inr (lo_f (by omega))))).symm
                  · exact congrArg (fun b => RV.d (.fl (.bool b))) (isN_no (k := k) (by omega) (nc_f (by omega))).symm
                · skip
                  have h129 : 128 ≤ (bt s k).toNat := by
                    have := decode_big (s := s) (k := k) (by omega)
                    omega
                  exact congrArg (fun b => RV.d (.fl (.bool b))) (isN_no (k := k) (by omega) (nc_f (by omega))).symm
            · skip
              have h31 := t_dec h21
              refine rg_put (d := 33) (v := .d (.fl undef)) rfl (on rfl rfl rfl h21) ?_
              refine rg_put (d := 34) (v := .d (.fl undef)) rfl (on rfl rfl rfl h21) ?_
              refine rg_put (d := 35) (v := .d (.fl (.bool true))) rfl (og rfl (op_pick rfl rfl (by rw [h21]; rfl) rfl)) ?_
              refine rg_put (d := 6) (v := .d (.fl (.bool true))) rfl (og rfl (op_assign rfl rfl rfl)) ?_
              refine rg_done rfl ?_
              refine a_rseq ?_
              refine rg_put (d := 36) (v := .d (.fl (.bool false))) rfl (og rfl (op_move rfl rfl rfl)) ?_
              refine rg_put (d := 37) (v := .d (.fl (.bool (!false)))) rfl (og rfl (op_un rfl rfl (u_not _) rfl)) ?_
              refine rg_put (d := 38) (v := .d (.fl (.bool (!false)))) rfl (og rfl (op_move rfl rfl rfl)) ?_
              refine rg_put (d := 39) (v := .d (.fl (.int .i64 (k : Int)))) rfl (oy rfl rfl rfl (not_t' rfl) (op_move rfl rfl rfl)) ?_
              refine rg_put (d := 40) (v := .d (.fl (.bool (((k : Int) == 0))))) rfl (oy rfl rfl rfl (not_t' rfl) (op_bin rfl rfl rfl (b_eql _ _ _ _) rfl)) ?_
              refine rg_put (d := 41) (v := .d (.fl (.bool (((k : Int) == 0))))) rfl (oy rfl rfl rfl (not_t' rfl) (op_move rfl rfl rfl)) ?_
              rcases fot (((k : Int) == 0)) with h32 | h32
              · skip
                have h33 := f_beq h32
                refine rg_put (d := 42) (v := .d (.fl (.bool true))) rfl (oy rfl rfl rfl h32 (op_move rfl rfl rfl)) ?_
                refine rg_put (d := 43) (v := .d (.fl (.bool (!true)))) rfl (oy rfl rfl rfl h32 (op_un rfl rfl (u_not _) rfl)) ?_
                refine rg_put (d := 44) (v := .d (.fl (.bool (!true)))) rfl (oy rfl rfl rfl (not_t' rfl) (op_pick rfl rfl (by rw [h32]; rfl) rfl)) ?_
                refine rg_put (d := 45) (v := .d (.fl (.bool (!true)))) rfl (og rfl (op_pick rfl rfl (by rw [(not_t' rfl)]; rfl) rfl)) ?_
                refine rg_done rfl ?_
                refine a_condF rfl (not_f rfl) ?_
                refine a_skip ?_
                have hd := dec_low (s := s) (k := k) (by omega) (by omega)
                have hdn : ((Utf8.decode s k).1 : Int) = ((bt s k).toNat : Int) := by rw [hd]
                show ∃ i, _ ∧ _ ∧ Imp _ _ _ _ _
                refine ⟨k + 1, ⟨by omega, fun q h => by
                  rcases Nat.lt_succ_iff_lt_or_eq.1 h with h | h
                  · exact hq q h
                  · subst h; exact nc_iff.2 (by omega), fun h => by
                  rcases Nat.eq_zero_or_pos k with h0 | h0
                  · subst h0; exact lo_iff.2 (by omega)
                  · exact hz h0⟩, by omega, imp_forget rfl ⟨rfl, rfl, rfl, trivial⟩ ⟨(congrArg (Ob.it s) (by rw [hd])), trivial⟩⟩
              · skip
                have h34 := t_beq h32
                refine rg_put (d := 42) (v := .d (.fl undef)) rfl (on rfl rfl rfl h32) ?_
                refine rg_put (d := 43) (v := .d (.fl undef)) rfl (on rfl rfl rfl h32) ?_
                refine rg_put (d := 44) (v := .d (.fl (.bool true))) rfl (oy rfl rfl rfl (not_t' rfl) (op_pick rfl rfl (by rw [h32]; rfl) rfl)) ?_
                refine rg_put (d := 45) (v := .d (.fl (.bool true))) rfl (og rfl (op_pick rfl rfl (by rw [(not_t' rfl)]; rfl) rfl)) ?_
                refine rg_done rfl ?_
                refine a_condK rfl rfl ?_
                refine a_rseq ?_
                refine rg_put (d := 2) (v := .d (.fl (.bool false))) rfl (og rfl (op_assign rfl rfl rfl)) ?_
                refine rg_done rfl ?_
                refine a_ret ?_
                show ∃ ds, ResL _ _ _ ds ∧ RV.of ds = _
                refine ⟨[.fl (.bool false)], (.cons (.tmp rfl (.d _)) .nil), ?_⟩
                by_cases h128 : ((Utf8.decode s k).1 : Int) < 128
                · skip
                  have hdn : ((Utf8.decode s k).1 : Int) = ((bt s k).toNat : Int) := by rw [dec_low (s := s) (k := k) (by omega) h128]
                  rcases Nat.eq_zero_or_pos k with h0 | h0
                  · subst h0; exact congrArg (fun b => RV.d (.fl (.bool b))) (isN_no0 (.inr (.inr (lo_f (by omega))))).symm
                  · exact congrArg (fun b => RV.d (.fl (.bool b))) (isN_no (k := k) (by omega) (nc_f (by omega))).symm
                · skip
                  have h129 : 128 ≤ (bt s k).toNat := by
                    have := decode_big (s := s) (k := k) (by omega)
                    omega
                  exact congrArg (fun b => RV.d (.fl (.bool b))) (isN_no (k := k) (by omega) (nc_f (by omega))).symm
        · skip
          have h35 := t_dec h8
          refine rg_put (d := 23) (v := .d (.fl (.int .i32 (((Utf8.decode s k).1 : Int))))) rfl (oy rfl rfl rfl h8 (op_move rfl rfl rfl)) ?_
          refine rg_put (d := 24) (v := .d (.fl (.bool ((decide (((Utf8.decode s k).1 : Int) ≤ 122)))))) rfl (oy rfl rfl rfl h8 (op_bin rfl rfl rfl (b_leq _ _ _ _) rfl)) ?_
          refine rg_put (d := 25) (v := .d (.fl (.bool ((decide (((Utf8.decode s k).1 : Int) ≤ 122)))))) rfl (og rfl (op_pick rfl rfl (by rw [h8]; rfl) rfl)) ?_
          refine rg_put (d := 5) (v := .d (.fl (.bool ((decide (((Utf8.decode s k).1 : Int) ≤ 122)))))) rfl (og rfl (op_assign rfl rfl rfl)) ?_
          refine rg_done rfl ?_
          refine a_rseq ?_
          refine rg_put (d := 26) (v := .d (.fl (.int .i32 (((Utf8.decode s k).1 : Int))))) rfl (og rfl (op_move rfl rfl rfl)) ?_
          refine rg_put (d := 27) (v := .d (.fl (.bool ((decide (48 ≤ ((Utf8.decode s k).1 : Int))))))) rfl (og rfl (op_bin rfl rfl rfl (b_leq _ _ _ _) rfl)) ?_
          refine rg_put (d := 28) (v := .d (.fl (.bool ((decide (48 ≤ ((Utf8.decode s k).1 : Int))))))) rfl (og rfl (op_move rfl rfl rfl)) ?_
          rcases fot ((decide (48 ≤ ((Utf8.decode s k).1 : Int)))) with h36 | h36
          · skip
            have h37 := f_dec h36
            refine rg_put (d := 29) (v := .d (.fl undef)) rfl (on rfl rfl rfl h36) ?_
            refine rg_put (d := 30) (v := .d (.fl undef)) rfl (on rfl rfl rfl h36) ?_
            refine rg_put (d := 31) (v := .d (.fl (.bool false))) rfl (og rfl (op_pick rfl rfl (by rw [h36]; rfl) rfl)) ?_
            refine rg_put (d := 32) (v := .d (.fl (.bool false))) rfl (og rfl (op_move rfl rfl rfl)) ?_
            refine rg_put (d := 33) (v := .d (.fl (.int .i32 (((Utf8.decode s k).1 : Int))))) rfl (oy rfl rfl rfl rfl (op_move rfl rfl rfl)) ?_
            refine rg_put (d := 34) (v := .d (.fl (.bool ((((Utf8.decode s k).1 : Int) == 45))))) rfl (oy rfl rfl rfl rfl (op_bin rfl rfl rfl (b_eql _ _ _ _) rfl)) ?_
            refine rg_put (d := 35) (v := .d (.fl (.bool ((((Utf8.decode s k).1 : Int) == 45))))) rfl (og rfl (op_pick rfl rfl rfl rfl)) ?_
            refine rg_put (d := 6) (v := .d (.fl (.bool ((((Utf8.decode s k).1 : Int) == 45))))) rfl (og rfl (op_assign rfl rfl rfl)) ?_
            refine rg_done rfl ?_
            refine a_rseq ?_
            refine rg_put (d := 36) (v := .d (.fl (.bool ((decide (((Utf8.decode s k).1 : Int) ≤ 122)))))) rfl (og rfl (op_move rfl rfl rfl)) ?_
            refine rg_put (d := 37) (v := .d (.fl (.bool ((!((decide (((Utf8.decode s k).1 : Int) ≤ 122)))))))) rfl (og rfl (op_un rfl rfl (u_not _) rfl)) ?_
            refine rg_put (d := 38) (v := .d (.fl (.bool ((!((decide (((Utf8.decode s k).1 : Int) ≤ 122)))))))) rfl (og rfl (op_move rfl rfl rfl)) ?_
            rcases fot ((!((decide (((Utf8.decode s k).1 : Int) ≤ 122))))) with h38 | h38
            · skip
              have h39 := f_not h38
              have h40 := t_dec h39
              refine rg_put (d := 39) (v := .d (.fl undef)) rfl (on rfl rfl rfl h38) ?_
              refine rg_put (d := 40) (v := .d (.fl undef)) rfl (on rfl rfl rfl h38) ?_
              refine rg_put (d := 41) (v := .d (.fl undef)) rfl (on rfl rfl rfl h38) ?_
              refine rg_put (d := 42) (v := .d (.fl undef)) rfl (ou rfl rfl rfl) ?_
              refine rg_put (d := 43) (v := .d (.fl undef)) rfl (ou rfl rfl rfl) ?_
              refine rg_put (d := 44) (v := .d (.fl undef)) rfl (on rfl rfl rfl h38) ?_
              refine rg_put (d := 45) (v := .d (.fl (.bool false))) rfl (og rfl (op_pick rfl rfl (by rw [h38]; rfl) rfl)) ?_
              refine rg_done rfl ?_
              refine a_condF rfl rfl ?_
              refine a_skip ?_
              have hd := dec_low (s := s) (k := k) (by omega) (by omega)
              have hdn : ((Utf8.decode s k).1 : Int) = ((bt s k).toNat : Int) := by rw [hd]
              show ∃ i, _ ∧ _ ∧ Imp _ _ _ _ _
              refine ⟨k + 1, ⟨by omega, fun q h => by
                rcases Nat.lt_succ_iff_lt_or_eq.1 h with h | h
                · exact hq q h
                · subst h; exact nc_iff.2 (by omega), fun h => by
                rcases Nat.eq_zero_or_pos k with h0 | h0
                · subst h0; exact lo_iff.2 (by omega)
                · exact hz h0⟩, by omega, imp_forget rfl ⟨rfl, rfl, rfl, trivial⟩ ⟨(congrArg (Ob.it s) (by rw [hd])), trivial⟩⟩
            · skip
              have h41 := t_not h38
              have h42 := f_dec h41
              refine rg_put (d := 39) (v := .d (.fl (.int .i64 (k : Int)))) rfl (oy rfl rfl rfl h38 (op_move rfl rfl rfl)) ?_
              refine rg_put (d := 40) (v := .d (.fl (.bool (((k : Int) == 0))))) rfl (oy rfl rfl rfl h38 (op_bin rfl rfl rfl (b_eql _ _ _ _) rfl)) ?_
              refine rg_put (d := 41) (v := .d (.fl (.bool (((k : Int) == 0))))) rfl (oy rfl rfl rfl h38 (op_move rfl rfl rfl)) ?_
              rcases fot (((k : Int) == 0)) with h43 | h43
              · skip
                have h44 := f_beq h43
                refine rg_put (d := 42) (v := .d (.fl (.bool ((((Utf8.decode s k).1 : Int) == 45))))) rfl (oy rfl rfl rfl h43 (op_move rfl rfl rfl)) ?_
                refine rg_put (d := 43) (v := .d (.fl (.bool ((!((((Utf8.decode s k).1 : Int) == 45))))))) rfl (oy rfl rfl rfl h43 (op_un rfl rfl (u_not _) rfl)) ?_
                refine rg_put (d := 44) (v := .d (.fl (.bool ((!((((Utf8.decode s k).1 : Int) == 45))))))) rfl (oy rfl rfl rfl h38 (op_pick rfl rfl (by rw [h43]; rfl) rfl)) ?_
                refine rg_put (d := 45) (v := .d (.fl (.bool ((!((((Utf8.decode s k).1 : Int) == 45))))))) rfl (og rfl (op_pick rfl rfl (by rw [h38]; rfl) rfl)) ?_
                refine rg_done rfl ?_
                refine a_cond rfl (fun h45 => ?_) (fun h45 => ?_)
                · skip
                  have h46 := t_not h45
                  have h47 := f_beq h46
                  refine a_rseq ?_
                  refine rg_put (d := 2) (v := .d (.fl (.bool false))) rfl (og rfl (op_assign rfl rfl rfl)) ?_
                  refine rg_done rfl ?_
                  refine a_ret ?_
                  show ∃ ds, ResL _ _ _ ds ∧ RV.of ds = _
                  refine ⟨[.fl (.bool false)], (.cons (.tmp rfl (.d _)) .nil), ?_⟩
                  by_cases h128 : ((Utf8.decode s k).1 : Int) < 128
                  · skip
                    have hdn : ((Utf8.decode s k).1 : Int) = ((bt s k).toNat : Int) := by rw [dec_low (s := s) (k := k) (by omega) h128]
                    rcases Nat.eq_zero_or_pos k with h0 | h0
                    · subst h0; exact congrArg (fun b => RV.d (.fl (.bool b))) (isN_no0 (.inr (.inr (lo_f (by omega))))).symm
                    · exact congrArg (fun b => RV.d (.fl (.bool b))) (isN_no (k := k) (by omega) (nc_f (by omega))).symm
                  · skip
                    have h129 : 128 ≤ (bt s k).toNat := by
                      have := decode_big (s := s) (k := k) (by omega)
                      omega
                    exact congrArg (fun b => RV.d (.fl (.bool b))) (isN_no (k := k) (by omega) (nc_f (by omega))).symm
                · skip
                  have h48 := f_not h45
                  have h49 := t_beq h48
                  refine a_skip ?_
                  have hd := dec_low (s := s) (k := k) (by omega) (by omega)
                  have hdn : ((Utf8.decode s k).1 : Int) = ((bt s k).toNat : Int) := by rw [hd]
                  show ∃ i, _ ∧ _ ∧ Imp _ _ _ _ _
                  refine ⟨k + 1, ⟨by omega, fun q h => by
                    rcases Nat.lt_succ_iff_lt_or_eq.1 h with h | h
                    · exact hq q h
                    · subst h; exact nc_iff.2 (by omega), fun h => by
                    rcases Nat.eq_zero_or_pos k with h0 | h0
                    · subst h0; exact lo_iff.2 (by omega)
                    · exact hz h0⟩, by omega, imp_forget rfl ⟨rfl, rfl, rfl, trivial⟩ ⟨(congrArg (Ob.it s) (by rw [hd])), trivial⟩⟩
              · skip
                have h50 := t_beq h43
                refine rg_put (d := 42) (v := .d (.fl undef)) rfl (on rfl rfl rfl h43) ?_
                refine rg_put (d := 43) (v := .d (.fl undef)) rfl (on rfl rfl rfl h43) ?_
                refine rg_put (d := 44) (v := .d (.fl (.bool true))) rfl (oy rfl rfl rfl h38 (op_pick rfl rfl (by rw [h43]; rfl) rfl)) ?_
                refine rg_put (d := 45) (v := .d (.fl (.bool true))) rfl (og rfl (op_pick rfl rfl (by rw [h38]; rfl) rfl)) ?_
                refine rg_done rfl ?_
                refine a_condK rfl rfl ?_
                refine a_rseq ?_
                refine rg_put (d := 2) (v := .d (.fl (.bool false))) rfl (og rfl (op_assign rfl rfl rfl)) ?_
                refine rg_done rfl ?_
                refine a_ret ?_
                show ∃ ds, ResL _ _ _ ds ∧ RV.of ds = _
                refine ⟨[.fl (.bool false)], (.cons (.tmp rfl (.d _)) .nil), ?_⟩
                by_cases h128 : ((Utf8.decode s k).1 : Int) < 128
                · skip
                  have hdn : ((Utf8.decode s k).1 : Int) = ((bt s k).toNat : Int) := by rw [dec_low (s := s) (k := k) (by omega) h128]
                  rcases Nat.eq_zero_or_pos k with h0 | h0
                  · subst h0; exact congrArg (fun b => RV.d (.fl (.bool b))) (isN_no0 (.inr (.inr (lo_f (by omega))))).symm
                  · exact congrArg (fun b => RV.d (.fl (.bool b))) (isN_no (k := k) (by omega) (nc_f (by omega))).symm
                · skip
                  have h129 : 128 ≤ (bt s k).toNat := by
                    have := decode_big (s := s) (k := k) (by omega)
                    omega
                  exact congrArg (fun b => RV.d (.fl (.bool b))) (isN_no (k := k) (by omega) (nc_f (by omega))).symm
          · skip
            have h51 := t_dec h36
            refine rg_put (d := 29) (v := .d (.fl (.int .i32 (((Utf8.decode s k).1 : Int))))) rfl (oy rfl rfl rfl h36 (op_move rfl rfl rfl)) ?_
            refine rg_put (d := 30) (v := .d (.fl (.bool ((decide (((Utf8.decode s k).1 : Int) ≤ 57)))))) rfl (oy rfl rfl rfl h36 (op_bin rfl rfl rfl (b_leq _ _ _ _) rfl)) ?_
            refine rg_put (d := 31) (v := .d (.fl (.bool ((decide (((Utf8.decode s k).1 : Int) ≤ 57)))))) rfl (og rfl (op_pick rfl rfl (by rw [h36]; rfl) rfl)) ?_
            refine rg_put (d := 32) (v := .d (.fl (.bool ((decide (((Utf8.decode s k).1 : Int) ≤ 57)))))) rfl (og rfl (op_move rfl rfl rfl)) ?_
            rcases fot ((decide (((Utf8.decode s k).1 : Int) ≤ 57))) with h52 | h52
            · skip
              have h53 := f_dec h52
              refine rg_put (d := 33) (v := .d (.fl (.int .i32 (((Utf8.decode s k).1 : Int))))) rfl (oy rfl rfl rfl h52 (op_move rfl rfl rfl)) ?_
              refine rg_put (d := 34) (v := .d (.fl (.bool ((((Utf8.decode s k).1 : Int) == 45))))) rfl (oy rfl rfl rfl h52 (op_bin rfl rfl rfl (b_eql _ _ _ _) rfl)) ?_
              refine rg_put (d := 35) (v := .d (.fl (.bool ((((Utf8.decode s k).1 : Int) == 45))))) rfl (og rfl (op_pick rfl rfl (by rw [h52]; rfl) rfl)) ?_
              refine rg_put (d := 6) (v := .d (.fl (.bool ((((Utf8.decode s k).1 : Int) == 45))))) rfl (og rfl (op_assign rfl rfl rfl)) ?_
              refine rg_done rfl ?_
              refine a_rseq ?_
              refine rg_put (d := 36) (v := .d (.fl (.bool ((decide (((Utf8.decode s k).1 : Int) ≤ 122)))))) rfl (og rfl (op_move rfl rfl rfl)) ?_
              refine rg_put (d := 37) (v := .d (.fl (.bool ((!((decide (((Utf8.decode s k).1 : Int) ≤ 122)))))))) rfl (og rfl (op_un rfl rfl (u_not _) rfl)) ?_
              refine rg_put (d := 38) (v := .d (.fl (.bool ((!((decide (((Utf8.decode s k).1 : Int) ≤ 122)))))))) rfl (og rfl (op_move rfl rfl rfl)) ?_
              rcases fot ((!((decide (((Utf8.decode s k).1 : Int) ≤ 122))))) with h54 | h54
              · skip
                have h55 := f_not h54
                have h56 := t_dec h55
                refine rg_put (d := 39) (v := .d (.fl undef)) rfl (on rfl rfl rfl h54) ?_
                refine rg_put (d := 40) (v := .d (.fl undef)) rfl (on rfl rfl rfl h54) ?_
                refine rg_put (d := 41) (v := .d (.fl undef)) rfl (on rfl rfl rfl h54) ?_
                refine rg_put (d := 42) (v := .d (.fl undef)) rfl (ou rfl rfl rfl) ?_
                refine rg_put (d := 43) (v := .d (.fl undef)) rfl (ou rfl rfl rfl) ?_
                refine rg_put (d := 44) (v := .d (.fl undef)) rfl (on rfl rfl rfl h54) ?_
                refine rg_put (d := 45) (v := .d (.fl (.bool false))) rfl (og rfl (op_pick rfl rfl (by rw [h54]; rfl) rfl)) ?_
                refine rg_done rfl ?_
                refine a_condF rfl rfl ?_
                refine a_skip ?_
                have hd := dec_low (s := s) (k := k) (by omega) (by omega)
                have hdn : ((Utf8.decode s k).1 : Int) = ((bt s k).toNat : Int) := by rw [hd]
                show ∃ i, _ ∧ _ ∧ Imp _ _ _ _ _
                refine ⟨k + 1, ⟨by omega, fun q h => by
                  rcases Nat.lt_succ_iff_lt_or_eq.1 h with h | h
                  · exact hq q h
                  · subst h; exact nc_iff.2 (by omega), fun h => by
                  rcases Nat.eq_zero_or_pos k with h0 | h0
                  · subst h0; exact lo_iff.2 (by omega)
                  · exact hz h0⟩, by omega, imp_forget rfl ⟨rfl, rfl, rfl, trivial⟩ ⟨(congrArg (Ob.it s) (by rw [hd])), trivial⟩⟩
              · skip
                have h57 := t_not h54
                have h58 := f_dec h57
                refine rg_put (d := 39) (v := .d (.fl (.int .i64 (k : Int)))) rfl (oy rfl rfl rfl h54 (op_move rfl rfl rfl)) ?_
                refine rg_put (d := 40) (v := .d (.fl (.bool (((k : Int) == 0))))) rfl (oy rfl rfl rfl h54 (op_bin rfl rfl rfl (b_eql _ _ _ _) rfl)) ?_
                refine rg_put (d := 41) (v := .d (.fl (.bool (((k : Int) == 0))))) rfl (oy rfl rfl rfl h54 (op_move rfl rfl rfl)) ?_
                rcases fot (((k : Int) == 0)) with h59 | h59
                · skip
                  have h60 := f_beq h59
                  refine rg_put (d := 42) (v := .d (.fl (.bool ((((Utf8.decode s k).1 : Int) == 45))))) rfl (oy rfl rfl rfl h59 (op_move rfl rfl rfl)) ?_
                  refine rg_put (d := 43) (v := .d (.fl (.bool ((!((((Utf8.decode s k).1 : Int) == 45))))))) rfl (oy rfl rfl rfl h59 (op_un rfl rfl (u_not _) rfl)) ?_
                  refine rg_put (d := 44) (v := .d (.fl (.bool ((!((((Utf8.decode s k).1 : Int) == 45))))))) rfl (oy rfl rfl rfl h54 (op_pick rfl rfl (by rw [h59]; rfl) rfl)) ?_
                  refine rg_put (d := 45) (v := .d (.fl (.bool ((!((((Utf8.decode s k).1 : Int) == 45))))))) rfl (og rfl (op_pick rfl rfl (by rw [h54]; rfl) rfl)) ?_
                  refine rg_done rfl ?_
                  refine a_cond rfl (fun h61 => ?_) (fun h61 => ?_)
                  · skip
                    have h62 := t_not h61
                    have h63 := f_beq h62
                    refine a_rseq ?_
                    refine rg_put (d := 2) (v := .d (.fl (.bool false))) rfl (og rfl (op_assign rfl rfl rfl)) ?_
                    refine rg_done rfl ?_
                    refine a_ret ?_
                    show ∃ ds, ResL _ _ _ ds ∧ RV.of ds = _
                    refine ⟨[.fl (.bool false)], (.cons (.tmp rfl (.d _)) .nil), ?_⟩
                    by_cases h128 : ((Utf8.decode s k).1 : Int) < 128
                    · skip
                      have hdn : ((Utf8.decode s k).1 : Int) = ((bt s k).toNat : Int) := by rw [dec_low (s := s) (k := k) (by omega) h128]
                      rcases Nat.eq_zero_or_pos k with h0 | h0
                      · subst h0; exact congrArg (fun b => RV.d (.fl (.bool b))) (isN_no0 (.inr (.inr (lo_f (by omega))))).symm
                      · exact congrArg (fun b => RV.d (.fl (.bool b))) (isN_no (k := k) (by omega) (nc_f (by omega))).symm
                    · skip
                      have h129 : 128 ≤ (bt s k).toNat := by
                        have := decode_big (s := s) (k := k) (by omega)
                        omega
                      exact congrArg (fun b => RV.d (.fl (.bool b))) (isN_no (k := k) (by omega) (nc_f (by omega))).symm
                  · skip
                    have h64 := f_not h61
                    have h65 := t_beq h64
                    refine a_skip ?_
                    have hd := dec_low (s := s) (k := k) (by omega) (by omega)
                    have hdn : ((Utf8.decode s k).1 : Int) = ((bt s k).toNat : Int) := by rw [hd]
                    show ∃ i, _ ∧ _ ∧ Imp _ _ _ _ _
                    refine ⟨k + 1, ⟨by omega, fun q h => by
                      rcases Nat.lt_succ_iff_lt_or_eq.1 h with h | h
                      · exact hq q h
                      · subst h; exact nc_iff.2 (by omega), fun h => by
                      rcases Nat.eq_zero_or_pos k with h0 | h0
                      · subst h0; exact lo_iff.2 (by omega)
                      · exact hz h0⟩, by omega, imp_forget rfl ⟨rfl, rfl, rfl, trivial⟩ ⟨(congrArg (Ob.it s) (by rw [hd])), trivial⟩⟩
                · skip
                  have h66 := t_beq h59
                  refine rg_put (d := 42) (v := .d (.fl undef)) rfl (on rfl rfl rfl h59) ?_
                  refine rg_put (d := 43) (v := .d (.fl undef)) rfl (on rfl rfl rfl h59) ?_
                  refine rg_put (d := 44) (v := .d (.fl (.bool true))) rfl (oy rfl rfl rfl h54 (op_pick rfl rfl (by rw [h59]; rfl) rfl)) ?_
                  refine rg_put (d := 45) (v := .d (.fl (.bool true))) rfl (og rfl (op_pick rfl rfl (by rw [h54]; rfl) rfl)) ?_
                  refine rg_done rfl ?_
                  refine a_condK rfl rfl ?_
                  refine a_rseq ?_
                  refine rg_put (d := 2) (v := .d (.fl (.bool false))) rfl (og rfl (op_assign rfl rfl rfl)) ?_
                  refine rg_done rfl ?_
                  refine a_ret ?_
                  show ∃ ds, ResL _ _ _ ds ∧ RV.of ds = _
                  refine ⟨[.fl (.bool false)], (.cons (.tmp rfl (.d _)) .nil), ?_⟩
                  by_cases h128 : ((Utf8.decode s k).1 : Int) < 128
                  · skip
                    have hdn : ((Utf8.decode s k).1 : Int) = ((bt s k).toNat : Int) := by rw [dec_low (s := s) (k := k) (by omega) h128]
                    rcases Nat.eq_zero_or_pos k with h0 | h0
                    · subst h0; exact congrArg (fun b => RV.d (.fl (.bool b))) (isN_no0 (.inr (.inr (lo_f (by omega))))).symm
                    · exact congrArg (fun b => RV.d (.fl (.bool b))) (isN_no (k := k) (by omega) (nc_f (by omega))).symm
                  · skip
                    have h129 : 128 ≤ (bt s k).toNat := by
                      have := decode_big (s := s) (k := k) (by omega)
                      omega
                    exact congrArg (fun b => RV.d (.fl (.bool b))) (isN_no (k := k) (by omega) (nc_f (by omega))).symm
            · skip
              have h67 := t_dec h52
              refine rg_put (d := 33) (v := .d (.fl undef)) rfl (on rfl rfl rfl h52) ?_
              refine rg_put (d := 34) (v := .d (.fl undef)) rfl (on rfl rfl rfl h52) ?_
              refine rg_put (d := 35) (v := .d (.fl (.bool true))) rfl (og rfl (op_pick rfl rfl (by rw [h52]; rfl) rfl)) ?_
              refine rg_put (d := 6) (v := .d (.fl (.bool true))) rfl (og rfl (op_assign rfl rfl rfl)) ?_
              refine rg_done rfl ?_
              refine a_rseq ?_
              refine rg_put (d := 36) (v := .d (.fl (.bool ((decide (((Utf8.decode s k).1 : Int) ≤ 122)))))) rfl (og rfl (op_move rfl rfl rfl)) ?_
              refine rg_put (d := 37) (v := .d (.fl (.bool ((!((decide (((Utf8.decode s k).1 : Int) ≤ 122)))))))) rfl (og rfl (op_un rfl rfl (u_not _) rfl)) ?_
              refine rg_put (d := 38) (v := .d (.fl (.bool ((!((decide (((Utf8.decode s k).1 : Int) ≤ 122)))))))) rfl (og rfl (op_move rfl rfl rfl)) ?_
              rcases fot ((!((decide (((Utf8.decode s k).1 : Int) ≤ 122))))) with h68 | h68
              · skip
                have h69 := f_not h68
                have h70 := t_dec h69
                refine rg_put (d := 39) (v := .d (.fl undef)) rfl (on rfl rfl rfl h68) ?_
                refine rg_put (d := 40) (v := .d (.fl undef)) rfl (on rfl rfl rfl h68) ?_
                refine rg_put (d := 41) (v := .d (.fl undef)) rfl (on rfl rfl rfl h68) ?_
                refine rg_put (d := 42) (v := .d (.fl undef)) rfl (ou rfl rfl rfl) ?_
                refine rg_put (d := 43) (v := .d (.fl undef)) rfl (ou rfl rfl rfl) ?_
                refine rg_put (d := 44) (v := .d (.fl undef)) rfl (on rfl rfl rfl h68) ?_
                refine rg_put (d := 45) (v := .d (.fl (.bool false))) rfl (og rfl (op_pick rfl rfl (by rw [h68]; rfl) rfl)) ?_
                refine rg_done rfl ?_
                refine a_condF rfl rfl ?_
                refine a_skip ?_
                have hd := dec_low (s := s) (k := k) (by omega) (by omega)
                have hdn : ((Utf8.decode s k).1 : Int) = ((bt s k).toNat : Int) := by rw [hd]
                show ∃ i, _ ∧ _ ∧ Imp _ _ _ _ _
                refine ⟨k + 1, ⟨by omega, fun q h => by
                  rcases Nat.lt_succ_iff_lt_or_eq.1 h with h | h
                  · exact hq q h
                  · subst h; exact nc_iff.2 (by omega), fun h => by
                  rcases Nat.eq_zero_or_pos k with h0 | h0
                  · subst h0; exact lo_iff.2 (by omega)
                  · exact hz h0⟩, by omega, imp_forget rfl ⟨rfl, rfl, rfl, trivial⟩ ⟨(congrArg (Ob.it s) (by rw [hd])), trivial⟩⟩
              · skip
                have h71 := t_not h68
                have h72 := f_dec h71
                refine rg_put (d := 39) (v := .d (.fl (.int .i64 (k : Int)))) rfl (oy rfl rfl rfl h68 (op_move rfl rfl rfl)) ?_
                refine rg_put (d := 40) (v := .d (.fl (.bool (((k : Int) == 0))))) rfl (oy rfl rfl rfl h68 (op_bin rfl rfl rfl (b_eql _ _ _ _) rfl)) ?_
                refine rg_put (d := 41) (v := .d (.fl (.bool (((k : Int) == 0))))) rfl (oy rfl rfl rfl h68 (op_move rfl rfl rfl)) ?_
                rcases fot (((k : Int) == 0)) with h73 | h73
                · skip
                  have h74 := f_beq h73
                  refine rg_put (d := 42) (v := .d (.fl (.bool true))) rfl (oy rfl rfl rfl h73 (op_move rfl rfl rfl)) ?_
                  refine rg_put (d := 43) (v := .d (.fl (.bool (!true)))) rfl (oy rfl rfl rfl h73 (op_un rfl rfl (u_not _) rfl)) ?_
                  refine rg_put (d := 44) (v := .d (.fl (.bool (!true)))) rfl (oy rfl rfl rfl h68 (op_pick rfl rfl (by rw [h73]; rfl) rfl)) ?_
                  refine rg_put (d := 45) (v := .d (.fl (.bool (!true)))) rfl (og rfl (op_pick rfl rfl (by rw [h68]; rfl) rfl)) ?_
                  refine rg_done rfl ?_
                  refine a_condF rfl (not_f rfl) ?_
                  refine a_skip ?_
                  have hd := dec_low (s := s) (k := k) (by omega) (by omega)
                  have hdn : ((Utf8.decode s k).1 : Int) = ((bt s k).toNat : Int) := by rw [hd]
                  show ∃ i, _ ∧ _ ∧ Imp _ _ _ _ _
                  refine ⟨k + 1, ⟨by omega, fun q h => by
                    rcases Nat.lt_succ_iff_lt_or_eq.1 h with h | h
                    · exact hq q h
                    · subst h; exact nc_iff.2 (by omega), fun h => by
                    rcases Nat.eq_zero_or_pos k with h0 | h0
                    · subst h0; exact lo_iff.2 (by omega)
                    · exact hz h0⟩, by omega, imp_forget rfl ⟨rfl, rfl, rfl, trivial⟩ ⟨(congrArg (Ob.it s) (by rw [hd])), trivial⟩⟩
                · skip
                  have h75 := t_beq h73
                  refine rg_put (d := 42) (v := .d (.fl undef)) rfl (on rfl rfl rfl h73) ?_
                  refine rg_put (d := 43) (v := .d (.fl undef)) rfl (on rfl rfl rfl h73) ?_
                  refine rg_put (d := 44) (v := .d (.fl (.bool true))) rfl (oy rfl rfl rfl h68 (op_pick rfl rfl (by rw [h73]; rfl) rfl)) ?_
                  refine rg_put (d := 45) (v := .d (.fl (.bool true))) rfl (og rfl (op_pick rfl rfl (by rw [h68]; rfl) rfl)) ?_
                  refine rg_done rfl ?_
                  refine a_condK rfl rfl ?_
                  refine a_rseq ?_
                  refine rg_put (d := 2) (v := .d (.fl (.bool false))) rfl (og rfl (op_assign rfl rfl rfl)) ?_
                  refine rg_done rfl ?_
                  refine a_ret ?_
                  show ∃ ds, ResL _ _ _ ds ∧ RV.of ds = _
                  refine ⟨[.fl (.bool false)], (.cons (.tmp rfl (.d _)) .nil), ?_⟩
                  by_cases h128 : ((Utf8.decode s k).1 : Int) < 128
                  · skip
                    have hdn : ((Utf8.decode s k).1 : Int) = ((bt s k).toNat : Int) := by rw [dec_low (s := s) (k := k) (by omega) h128]
                    rcases Nat.eq_zero_or_pos k with h0 | h0
                    · subst h0; exact congrArg (fun b => RV.d (.fl (.bool b))) (isN_no0 (.inr (.inr (lo_f (by omega))))).symm
                    · exact congrArg (fun b => RV.d (.fl (.bool b))) (isN_no (k := k) (by omega) (nc_f (by omega))).symm
                  · skip
                    have h129 : 128 ≤ (bt s k).toNat := by
                      have := decode_big (s := s) (k := k) (by omega)
                      omega
                    exact congrArg (fun b => RV.d (.fl (.bool b))) (isN_no (k := k) (by omega) (nc_f (by omega))).symm
  · skip
    have := (seq0 (s := s)).symm.trans h1
    have := t_dec this
    refine rg_put (d := 10) (v := .d (.fl undef)) rfl (on rfl rfl rfl h1) ?_
    refine rg_put (d := 11) (v := .d (.fl undef)) rfl (on rfl rfl rfl h1) ?_
    refine rg_put (d := 12) (v := .d (.fl undef)) rfl (on rfl rfl rfl h1) ?_
    refine rg_put (d := 13) (v := .d (.fl (.bool true))) rfl (og rfl (op_pick rfl rfl (by rw [h1]; rfl) rfl)) ?_
    refine rg_done rfl ?_
    refine a_condK rfl rfl ?_
    refine a_rseq ?_
    refine rg_put (d := 2) (v := .d (.fl (.bool false))) rfl (og rfl (op_assign rfl rfl rfl)) ?_
    refine rg_done rfl ?_
    refine a_ret ?_
    show ∃ ds, ResL _ _ _ ds ∧ RV.of ds = _
    refine ⟨[.fl (.bool false)], (.cons (.tmp rfl (.d _)) .nil), ?_⟩
    exact congrArg (fun b => RV.d (.fl (.bool b))) (isN_no0 (by omega)).symm

end Go.Proofs.Ytajhpdmbmipboaa.Wk
