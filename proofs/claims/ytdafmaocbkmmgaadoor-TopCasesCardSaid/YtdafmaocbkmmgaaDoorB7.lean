/- New cases. Condition: as each theorem names it. -/
import Derived.Test.YtdafmaocbkmmgaaDoorB5
set_option linter.unusedSimpArgs false
set_option linter.unusedVariables false
namespace Go.Proofs.YtdafmaocbkmmgaaDoor.Wk
open Go Go.RowKit Go.Proofs.YtdafmaocbkmmgaaDoor.Av
def fF (s : ByteArray) : Nat → Nat
  | 0 => 0
  | k + 1 => if (bt s k).toNat = 32 then k + 1 else fF s k
def fA (s : ByteArray) : Nat → List ByteArray
  | 0 => []
  | k + 1 => if (bt s k).toNat = 32 then fA s k ++ [s.extract (fF s k) k] else fA s k
def fB (s : ByteArray) (k : Nat) : Bool := decide ((bt s k).toNat < 32) || decide (126 < (bt s k).toNat) || (decide ((bt s k).toNat = 32) && decide (fF s k = k))
def flds (s : ByteArray) : List ByteArray × Int :=
  if 512 < s.size then ([], 4) else if s.size = 0 then ([], 0) else if (List.range s.size).any (fB s) = true then ([], 5) else if fF s s.size = s.size then ([], 5) else (fA s s.size ++ [s.extract (fF s s.size) s.size], 0)
theorem fF_le (s : ByteArray) : ∀ k, fF s k ≤ k
  | 0 => Nat.le_refl _
  | k + 1 => by have := fF_le s k; unfold fF; split <;> omega
theorem fA_le (s : ByteArray) : ∀ k, (fA s k).length ≤ k
  | 0 => Nat.le_refl _
  | k + 1 => by have := fA_le s k; unfold fA; split <;> (try simp) <;> omega
theorem f_yes {s : ByteArray} {k : Nat} (h : (bt s k).toNat = 32) : fF s (k + 1) = k + 1 ∧ fA s k ++ [s.extract (fF s k) k] = fA s (k + 1) := by
  constructor
  · show (if _ then _ else _) = _; rw [if_pos h]
  · show _ = (if _ then _ else _); rw [if_pos h]
theorem f_no {s : ByteArray} {k : Nat} (h : (bt s k).toNat ≠ 32) : fF s (k + 1) = fF s k ∧ fA s k = fA s (k + 1) := by
  constructor
  · show (if _ then _ else _) = _; rw [if_neg h]
  · show _ = (if _ then _ else _); rw [if_neg h]
theorem fB_ok {s : ByteArray} {k : Nat} (h1 : 32 ≤ (bt s k).toNat) (h2 : (bt s k).toNat ≤ 126) (h3 : (bt s k).toNat = 32 → fF s k ≠ k) : fB s k = false := by
  unfold fB; simp; omega
theorem fB_bad {s : ByteArray} {k : Nat} (h : (bt s k).toNat < 32 ∨ 126 < (bt s k).toNat ∨ ((bt s k).toNat = 32 ∧ fF s k = k)) : fB s k = true := by
  unfold fB; simp; omega
theorem fl_bad {s : ByteArray} {k : Nat} (h1 : s.size ≤ 512) (hk : k < s.size) (h : fB s k = true) : flds s = ([], 5) := by
  unfold flds
  rw [if_neg (by omega), if_neg (by omega), if_pos]
  rw [List.any_eq_true]; exact ⟨k, by simpa using hk, h⟩
theorem fl_good {s : ByteArray} (h1 : s.size ≤ 512) (h0 : s.size ≠ 0) (h : ∀ q, q < s.size → fB s q = false) : flds s = if fF s s.size = s.size then ([], 5) else (fA s s.size ++ [s.extract (fF s s.size) s.size], 0) := by
  unfold flds
  rw [if_neg (by omega), if_neg h0, if_neg]
  rw [Bool.not_eq_true, List.any_eq_false]
  intro q hq
  rw [h q (by simpa using hq)]; simp
theorem dec_both {s : ByteArray} {k : Nat} (h : k < s.size) : (((Utf8.decode s k).1 : Int) < 128 → ((Utf8.decode s k).1 : Int) = ((bt s k).toNat : Int)) ∧ (128 ≤ ((Utf8.decode s k).1 : Int) → 128 ≤ (bt s k).toNat) := by
  refine ⟨fun h1 => by rw [dec_low h h1], fun h1 => ?_⟩
  rcases Nat.lt_or_ge (bt s k).toNat 128 with h2 | h2
  · have h' : k < s.data.size := by simpa using h
    have hb : (s[k]'h) = bt s k := by
      unfold bt
      simp [List.getD, Array.getElem?_eq_getElem h']
      rfl
    rw [decode_ascii s k h (by rw [hb]; omega), hb] at h1
    simp at h1; omega
  · exact h2
theorem seq0 {s : ByteArray} : sEq s ⟨#[]⟩ = decide (s.size = 0) := by
  unfold sEq
  by_cases h : s.size = 0
  · have : s = ⟨#[]⟩ := by
      cases s; congr 1; exact Array.eq_empty_of_size_eq_zero h
    rw [decide_eq_true this, decide_eq_true h]
  · have : s ≠ ⟨#[]⟩ := fun e => by subst e; exact h rfl
    rw [decide_eq_false this, decide_eq_false h]
def isF (s : ByteArray) : Bool := ((flds s).2 == 0) && (((flds s).1.length : Int) == 1)
def newS (id plate key : ByteArray) (cents day : Int) : Cs × Int := if (!(isF id)) = true then (z0, 5) else if (!(isF key)) = true then (z0, 5) else if (decide (cents < 1) || decide (1125899906842624 < cents)) = true then (z0, 13) else if (!(isD day)) = true then (z0, 12) else (Cs.mk id plate key day day 1 cents 0 0 (Ap.mk 0 0 0), 0)

set_option maxHeartbeats 4000000 in
set_option maxRecDepth 100000 in
theorem fields39 (s : ByteArray) : Ctr Tryd.prog 22 [.fl (.string s)] (.tu [.sl 1 (List.map rS (flds s).1), .fl (.int .i64 (flds s).2)]) := by
  refine ctr (n := 49) (rs := #[.tmp 2, .tmp 3]) (L := [(0, .d (.fl (.string s)))]) Tryd.func22 rfl rfl rfl rfl rfl (fun w0 U0 => ?_)
  refine a_rseq ?_
  refine rg_put (d := 2) (v := .d (.fl (.slice none 0 0))) rfl (og rfl (op_assign rfl rfl rfl)) ?_
  refine rg_put (d := 3) (v := .d (.fl (.int .i64 0))) rfl (og rfl (op_assign rfl rfl rfl)) ?_
  refine rg_done rfl ?_
  refine a_seq ?_
  refine a_rseq ?_
  refine rg_put (d := 8) (v := .d (.fl (.string s))) rfl (og rfl (op_move rfl rfl rfl)) ?_
  refine rg_put (d := 9) (v := .d (.fl (.int .i64 (s.size : Int)))) rfl (og rfl (op_len_str rfl Tryd.underlying9 rfl rfl)) ?_
  refine rg_put (d := 10) (v := .d (.fl (.bool ((decide (512 < (s.size : Int))))))) rfl (og rfl (op_bin rfl rfl rfl (b_gtr _ _ _ _) rfl)) ?_
  refine rg_done rfl ?_
  refine a_cond rfl (fun h1 => ?_) (fun h1 => ?_)
  · skip
    have h2 := t_dec h1
    refine a_rseq ?_
    refine rg_put (d := 2) (v := .d (.fl (.slice none 0 0))) rfl (og rfl (op_assign rfl rfl rfl)) ?_
    refine rg_put (d := 3) (v := .d (.fl (.int .i64 4))) rfl (og rfl (op_assign rfl rfl rfl)) ?_
    refine rg_done rfl ?_
    refine a_ret ?_
    show ∃ ds, ResL _ _ _ ds ∧ RV.of ds = _
    refine ⟨[.sl 1 (List.map rS []), .fl (.int .i64 4)], (.cons (.tmp rfl (.cv (Cv.nil _))) (.cons (.tmp rfl (.d _)) .nil)), ?_⟩
    have hu : flds s = ([], 4) := by unfold flds; rw [if_pos (by omega)]
    rw [hu]; rfl
  · skip
    have h3 := f_dec h1
    refine a_skip ?_
    show A _ _ _ _ _ _ _
    refine a_seq ?_
    refine a_rseq ?_
    refine rg_put (d := 11) (v := .d (.fl (.string s))) rfl (og rfl (op_move rfl rfl rfl)) ?_
    refine rg_put (d := 12) (v := .d (.fl (.bool ((sEq s (⟨#[]⟩)))))) rfl (og rfl (op_bin rfl rfl rfl (b_seq _ _ _) rfl)) ?_
    refine rg_done rfl ?_
    refine a_cond rfl (fun h4 => ?_) (fun h4 => ?_)
    · skip
      have := (seq0 (s := s)).symm.trans h4
      have := t_dec this
      refine a_rseq ?_
      refine rg_put (d := 2) (v := .d (.fl (.slice none 0 0))) rfl (og rfl (op_assign rfl rfl rfl)) ?_
      refine rg_put (d := 3) (v := .d (.fl (.int .i64 0))) rfl (og rfl (op_assign rfl rfl rfl)) ?_
      refine rg_done rfl ?_
      refine a_ret ?_
      show ∃ ds, ResL _ _ _ ds ∧ RV.of ds = _
      refine ⟨[.sl 1 (List.map rS []), .fl (.int .i64 0)], (.cons (.tmp rfl (.cv (Cv.nil _))) (.cons (.tmp rfl (.d _)) .nil)), ?_⟩
      have hu : flds s = ([], 0) := by unfold flds; rw [if_neg (by omega), if_pos (by omega)]
      rw [hu]; rfl
    · skip
      have := (seq0 (s := s)).symm.trans h4
      have := f_dec this
      refine a_skip ?_
      show A _ _ _ _ _ _ _
      refine a_rseq ?_
      refine rg_put (d := 4) (v := .d (.fl (.slice none 0 0))) rfl (og rfl (op_assign rfl rfl rfl)) ?_
      refine rg_done rfl ?_
      refine a_rseq ?_
      refine rg_put (d := 5) (v := .d (.fl (.int .i64 0))) rfl (og rfl (op_assign rfl rfl rfl)) ?_
      refine rg_done rfl ?_
      refine a_seq ?_
      refine a_rseq ?_
      refine rg_put (d := 13) (v := .d (.fl (.string s))) rfl (og rfl (op_move rfl rfl rfl)) ?_
      refine rg_nam (d := 14) (v := .ow 101) (m := 101) (nw := [(101, .it s 0)]) rfl (og rfl (op_range 101 rfl Tryd.underlying9 rfl rfl)) rfl ?_
      refine rg_done rfl ?_
      refine a_block ?_
      refine a_loop (ι := Nat) (fun k => SS [(0, .d (.fl (.string s))), (10, .d (.fl (.bool ((decide (512 < (s.size : Int))))))), (12, .d (.fl (.bool ((sEq s (⟨#[]⟩)))))), (14, .ow 101), (4, .ow 201), (5, .d (.fl (.int .i64 (fF s k : Int))))] [(101, .it s k), (201, .ow 9 1 (List.map rS (fA s k)))]) (fun k => k ≤ s.size ∧ ∀ q, q < k → fB s q = false) (fun k => s.size - k) 0 (⟨by omega, fun q h => by omega⟩) (Imp.trans (imp_nil 4 201 9 1 rfl rfl) (imp_forget rfl ⟨rfl, rfl, rfl, rfl, (by first | rfl | exact ci (by omega) | exact ci (by simp) | exact cd (by simp) | simp), (by first | rfl | exact ci (by omega) | exact ci (by simp) | exact cd (by simp) | simp), trivial⟩ ⟨(by first | rfl | simp), (by first | rfl | simp), trivial⟩)) (fun k hok => ?_)
      obtain ⟨hk, hq⟩ := hok
      have hF := fF_le s k
      have hA := fA_le s k
      refine a_rseq ?_
      rcases fot ((decide (k < s.size))) with h5 | h5
      · skip
        have h6 := f_dec h5
        refine rg_put (d := 15) (v := .tu [.fl (.bool false)]) rfl (og rfl (op_next_no rfl rfl rfl (f_dec h5) rfl)) ?_
        refine rg_put (d := 16) (v := .d (.fl (.bool false))) rfl (og rfl (op_extract rfl rfl rfl rfl)) ?_
        refine rg_done rfl ?_
        refine a_seq ?_
        refine a_condF rfl rfl ?_
        refine a_exit ?_
        show A _ _ _ _ _ _ _
        refine a_seq ?_
        refine a_rseq ?_
        refine rg_put (d := 39) (v := .d (.fl (.int .i64 (fF s k : Int)))) rfl (og rfl (op_move rfl rfl rfl)) ?_
        refine rg_put (d := 40) (v := .d (.fl (.string s))) rfl (og rfl (op_move rfl rfl rfl)) ?_
        refine rg_put (d := 41) (v := .d (.fl (.int .i64 (s.size : Int)))) rfl (og rfl (op_len_str rfl Tryd.underlying9 rfl rfl)) ?_
        refine rg_put (d := 42) (v := .d (.fl (.bool (((fF s k : Int) == (s.size : Int)))))) rfl (og rfl (op_bin rfl rfl rfl (b_eql _ _ _ _) rfl)) ?_
        refine rg_done rfl ?_
        refine a_cond rfl (fun h7 => ?_) (fun h7 => ?_)
        · skip
          have h8 := t_beq h7
          refine a_rseq ?_
          refine rg_put (d := 2) (v := .d (.fl (.slice none 0 0))) rfl (og rfl (op_assign rfl rfl rfl)) ?_
          refine rg_put (d := 3) (v := .d (.fl (.int .i64 5))) rfl (og rfl (op_assign rfl rfl rfl)) ?_
          refine rg_done rfl ?_
          refine a_ret ?_
          show ∃ ds, ResL _ _ _ ds ∧ RV.of ds = _
          refine ⟨[.sl 1 (List.map rS []), .fl (.int .i64 5)], (.cons (.tmp rfl (.cv (Cv.nil _))) (.cons (.tmp rfl (.d _)) .nil)), ?_⟩
          have hks : k = s.size := by omega
          subst hks
          rw [fl_good (by omega) (by omega) (fun q h => hq q (by omega)), if_pos (by omega)]; rfl
        · skip
          have h9 := f_beq h7
          refine a_skip ?_
          show A _ _ _ _ _ _ _
          refine a_rseq ?_
          refine rg_put (d := 43) (v := .ow 201) rfl (og rfl (op_move rfl rfl rfl)) ?_
          refine rg_put (d := 44) (v := .d (.fl (.string s))) rfl (og rfl (op_move rfl rfl rfl)) ?_
          refine rg_put (d := 45) (v := .d (.fl (.int .i64 (fF s k : Int)))) rfl (og rfl (op_move rfl rfl rfl)) ?_
          refine rg_put (d := 46) (v := .d (.fl (.string ((s.extract (fF s k) s.size))))) rfl (og rfl (op_strslice rfl Tryd.underlying9 rfl (.so (n := fF s k) _ rfl (by omega)) (.no _) (by omega) (by omega) rfl)) ?_
          refine rg_put (d := 47) (v := .d (.sl 1 (List.map rS [(s.extract (fF s k) s.size)]))) rfl (og rfl (of_eff (op_slices rfl Tryd.underlying53 ti9 rfl rfl rfl (by kernel_rfl) (xs := [.fl (.string ((s.extract (fF s k) s.size)))]) rfl rfl (.cons rfl rfl (.d _) rfl rfl rfl .nil) rfl) rfl)) ?_
          refine rg_nam (d := 48) (v := .ow 102) (m := 102) (nw := [(102, .ow 9 1 (List.map rS (((fA s k) ++ [(s.extract (fF s k) s.size)])))), (201, .no)]) rfl (og rfl (s_append 102 rfl Tryd.underlying53 ti9 rfl rfl rfl rfl rfl (.d _) (by simp only [List.length_cons, List.length_nil]; omega) rfl)) rfl ?_
          refine rg_put (d := 2) (v := .ow 102) rfl (og rfl (op_assign rfl rfl rfl)) ?_
          refine rg_put (d := 3) (v := .d (.fl (.int .i64 0))) rfl (og rfl (op_assign rfl rfl rfl)) ?_
          refine rg_done rfl ?_
          refine a_ret ?_
          show ∃ ds, ResL _ _ _ ds ∧ RV.of ds = _
          refine ⟨[.sl 1 (List.map rS (((fA s k) ++ [(s.extract (fF s k) s.size)]))), .fl (.int .i64 0)], (.cons (.tmp rfl (.ow rfl)) (.cons (.tmp rfl (.d _)) .nil)), ?_⟩
          have hks : k = s.size := by omega
          subst hks
          rw [fl_good (by omega) (by omega) (fun q h => hq q (by omega)), if_neg (by omega)]; rfl
      · skip
        have h10 := t_dec h5
        refine rg_upd (d := 15) (v := .tu [.fl (.bool true), .fl (.int .i64 (k : Int)), .fl (.int .i32 (((Utf8.decode s k).1 : Int)))]) (nw := [(101, .it s ((k + (Utf8.decode s k).2)))]) rfl (og rfl (op_next_yes rfl rfl rfl (t_dec h5) rfl)) ?_
        refine rg_put (d := 16) (v := .d (.fl (.bool true))) rfl (og rfl (op_extract rfl rfl rfl rfl)) ?_
        refine rg_done rfl ?_
        refine a_seq ?_
        refine a_condK rfl rfl ?_
        refine a_skip ?_
        show A _ _ _ _ _ _ _
        refine a_block ?_
        refine a_rseq ?_
        obtain ⟨hda, hdb⟩ := dec_both (s := s) (k := k) (by omega)
        refine rg_put (d := 17) (v := .d (.fl (.int .i64 (k : Int)))) rfl (og rfl (op_extract rfl rfl rfl rfl)) ?_
        refine rg_put (d := 18) (v := .d (.fl (.int .i32 (((Utf8.decode s k).1 : Int))))) rfl (og rfl (op_extract rfl rfl rfl rfl)) ?_
        refine rg_put (d := 6) (v := .d (.fl (.int .i64 (k : Int)))) rfl (og rfl (op_assign rfl rfl rfl)) ?_
        refine rg_put (d := 7) (v := .d (.fl (.int .i32 (((Utf8.decode s k).1 : Int))))) rfl (og rfl (op_assign rfl rfl rfl)) ?_
        refine rg_done rfl ?_
        refine a_seq ?_
        refine a_rseq ?_
        refine rg_put (d := 19) (v := .d (.fl (.int .i32 (((Utf8.decode s k).1 : Int))))) rfl (og rfl (op_move rfl rfl rfl)) ?_
        refine rg_put (d := 20) (v := .d (.fl (.bool ((decide (((Utf8.decode s k).1 : Int) < 32)))))) rfl (og rfl (op_bin rfl rfl rfl (b_lss _ _ _ _) rfl)) ?_
        refine rg_put (d := 21) (v := .d (.fl (.bool ((decide (((Utf8.decode s k).1 : Int) < 32)))))) rfl (og rfl (op_move rfl rfl rfl)) ?_
        rcases fot ((decide (((Utf8.decode s k).1 : Int) < 32))) with h11 | h11
        · skip
          have h12 := f_dec h11
          refine rg_put (d := 22) (v := .d (.fl (.int .i32 (((Utf8.decode s k).1 : Int))))) rfl (oy rfl rfl rfl h11 (op_move rfl rfl rfl)) ?_
          refine rg_put (d := 23) (v := .d (.fl (.bool ((decide (126 < ((Utf8.decode s k).1 : Int))))))) rfl (oy rfl rfl rfl h11 (op_bin rfl rfl rfl (b_gtr _ _ _ _) rfl)) ?_
          refine rg_put (d := 24) (v := .d (.fl (.bool ((decide (126 < ((Utf8.decode s k).1 : Int))))))) rfl (og rfl (op_pick rfl rfl (by rw [h11]; rfl) rfl)) ?_
          refine rg_done rfl ?_
          refine a_cond rfl (fun h13 => ?_) (fun h13 => ?_)
          · skip
            have h14 := t_dec h13
            refine a_rseq ?_
            refine rg_put (d := 2) (v := .d (.fl (.slice none 0 0))) rfl (og rfl (op_assign rfl rfl rfl)) ?_
            refine rg_put (d := 3) (v := .d (.fl (.int .i64 5))) rfl (og rfl (op_assign rfl rfl rfl)) ?_
            refine rg_done rfl ?_
            refine a_ret ?_
            show ∃ ds, ResL _ _ _ ds ∧ RV.of ds = _
            refine ⟨[.sl 1 (List.map rS []), .fl (.int .i64 5)], (.cons (.tmp rfl (.cv (Cv.nil _))) (.cons (.tmp rfl (.d _)) .nil)), ?_⟩
            rw [fl_bad (k := k) (by omega) (by omega) (fB_bad (by omega))]; rfl
          · skip
            have h15 := f_dec h13
            refine a_skip ?_
            show A _ _ _ _ _ _ _
            refine a_rseq ?_
            refine rg_put (d := 25) (v := .d (.fl (.int .i32 (((Utf8.decode s k).1 : Int))))) rfl (og rfl (op_move rfl rfl rfl)) ?_
            refine rg_put (d := 26) (v := .d (.fl (.bool ((((Utf8.decode s k).1 : Int) == 32))))) rfl (og rfl (op_bin rfl rfl rfl (b_eql _ _ _ _) rfl)) ?_
            refine rg_done rfl ?_
            refine a_cond rfl (fun h16 => ?_) (fun h16 => ?_)
            · skip
              have h17 := t_beq h16
              refine a_seq ?_
              refine a_rseq ?_
              refine rg_put (d := 27) (v := .d (.fl (.int .i64 (k : Int)))) rfl (og rfl (op_move rfl rfl rfl)) ?_
              refine rg_put (d := 28) (v := .d (.fl (.int .i64 (fF s k : Int)))) rfl (og rfl (op_move rfl rfl rfl)) ?_
              refine rg_put (d := 29) (v := .d (.fl (.bool (((k : Int) == (fF s k : Int)))))) rfl (og rfl (op_bin rfl rfl rfl (b_eql _ _ _ _) rfl)) ?_
              refine rg_done rfl ?_
              refine a_cond rfl (fun h18 => ?_) (fun h18 => ?_)
              · skip
                have h19 := t_beq h18
                refine a_rseq ?_
                refine rg_put (d := 2) (v := .d (.fl (.slice none 0 0))) rfl (og rfl (op_assign rfl rfl rfl)) ?_
                refine rg_put (d := 3) (v := .d (.fl (.int .i64 5))) rfl (og rfl (op_assign rfl rfl rfl)) ?_
                refine rg_done rfl ?_
                refine a_ret ?_
                show ∃ ds, ResL _ _ _ ds ∧ RV.of ds = _
                refine ⟨[.sl 1 (List.map rS []), .fl (.int .i64 5)], (.cons (.tmp rfl (.cv (Cv.nil _))) (.cons (.tmp rfl (.d _)) .nil)), ?_⟩
                rw [fl_bad (k := k) (by omega) (by omega) (fB_bad (by omega))]; rfl
              · skip
                have h20 := f_beq h18
                refine a_skip ?_
                show A _ _ _ _ _ _ _
                refine a_rseq ?_
                refine rg_put (d := 30) (v := .ow 201) rfl (og rfl (op_move rfl rfl rfl)) ?_
                refine rg_put (d := 31) (v := .d (.fl (.string s))) rfl (og rfl (op_move rfl rfl rfl)) ?_
                refine rg_put (d := 32) (v := .d (.fl (.int .i64 (fF s k : Int)))) rfl (og rfl (op_move rfl rfl rfl)) ?_
                refine rg_put (d := 33) (v := .d (.fl (.int .i64 (k : Int)))) rfl (og rfl (op_move rfl rfl rfl)) ?_
                refine rg_put (d := 34) (v := .d (.fl (.string ((s.extract (fF s k) k))))) rfl (og rfl (op_strslice rfl Tryd.underlying9 rfl (.so (n := fF s k) _ rfl (by omega)) (.so (n := k) _ rfl (by omega)) (by omega) (by omega) rfl)) ?_
                refine rg_put (d := 35) (v := .d (.sl 1 (List.map rS [(s.extract (fF s k) k)]))) rfl (og rfl (of_eff (op_slices rfl Tryd.underlying53 ti9 rfl rfl rfl (by kernel_rfl) (xs := [.fl (.string ((s.extract (fF s k) k)))]) rfl rfl (.cons rfl rfl (.d _) rfl rfl rfl .nil) rfl) rfl)) ?_
                refine rg_nam (d := 36) (v := .ow 103) (m := 103) (nw := [(103, .ow 9 1 (List.map rS (((fA s k) ++ [(s.extract (fF s k) k)])))), (201, .no)]) rfl (og rfl (s_append 103 rfl Tryd.underlying53 ti9 rfl rfl rfl rfl rfl (.d _) (by simp only [List.length_cons, List.length_nil]; omega) rfl)) rfl ?_
                refine rg_put (d := 4) (v := .ow 103) rfl (og rfl (op_assign rfl rfl rfl)) ?_
                refine rg_done rfl ?_
                refine a_region ?_
                refine rg_put (d := 37) (v := .d (.fl (.int .i64 (k : Int)))) rfl (og rfl (op_move rfl rfl rfl)) ?_
                refine rg_put (d := 38) (v := .d (.fl (.int .i64 (((k : Int) + 1))))) rfl (og rfl (op_bin rfl rfl rfl (fun x y w => b_add64 _ _ _ x y w (by omega)) rfl)) ?_
                refine rg_put (d := 5) (v := .d (.fl (.int .i64 (((k : Int) + 1))))) rfl (og rfl (op_assign rfl rfl rfl)) ?_
                refine rg_done rfl ?_
                have hd := dec_low (s := s) (k := k) (by omega) (by omega)
                have h32 : (bt s k).toNat = 32 := by omega
                have hfb : fB s k = false := fB_ok (by omega) (by omega) (fun h => by omega)
                obtain ⟨hF1, hA1⟩ := f_yes h32
                show ∃ i, _ ∧ _ ∧ Imp _ _ _ _ _
                refine ⟨k + 1, ⟨by omega, fun q h => by
                  rcases Nat.lt_succ_iff_lt_or_eq.1 h with h | h
                  · exact hq q h
                  · subst h; exact hfb⟩, by omega, imp_ren (fun m => bif Nat.beq m 201 then 103 else m) rfl ⟨rfl, rfl, rfl, rfl, rfl, (ci (by omega)), trivial⟩ ⟨(congrArg (Ob.it s) (by rw [hd])), (congrArg (fun x => Ob.ow 9 1 (List.map rS x)) hA1), trivial⟩⟩
            · skip
              have h21 := f_beq h16
              refine a_skip ?_
              have hd := dec_low (s := s) (k := k) (by omega) (by omega)
              have h32 : (bt s k).toNat ≠ 32 := by omega
              have hfb : fB s k = false := fB_ok (by omega) (by omega) (fun h => by omega)
              obtain ⟨hF1, hA1⟩ := f_no h32
              show ∃ i, _ ∧ _ ∧ Imp _ _ _ _ _
              refine ⟨k + 1, ⟨by omega, fun q h => by
                rcases Nat.lt_succ_iff_lt_or_eq.1 h with h | h
                · exact hq q h
                · subst h; exact hfb⟩, by omega, imp_forget rfl ⟨rfl, rfl, rfl, rfl, rfl, (ci (by omega)), trivial⟩ ⟨(congrArg (Ob.it s) (by rw [hd])), (congrArg (fun x => Ob.ow 9 1 (List.map rS x)) hA1), trivial⟩⟩
        · skip
          have h22 := t_dec h11
          refine rg_put (d := 22) (v := .d (.fl undef)) rfl (on rfl rfl rfl h11) ?_
          refine rg_put (d := 23) (v := .d (.fl undef)) rfl (on rfl rfl rfl h11) ?_
          refine rg_put (d := 24) (v := .d (.fl (.bool true))) rfl (og rfl (op_pick rfl rfl (by rw [h11]; rfl) rfl)) ?_
          refine rg_done rfl ?_
          refine a_condK rfl rfl ?_
          refine a_rseq ?_
          refine rg_put (d := 2) (v := .d (.fl (.slice none 0 0))) rfl (og rfl (op_assign rfl rfl rfl)) ?_
          refine rg_put (d := 3) (v := .d (.fl (.int .i64 5))) rfl (og rfl (op_assign rfl rfl rfl)) ?_
          refine rg_done rfl ?_
          refine a_ret ?_
          show ∃ ds, ResL _ _ _ ds ∧ RV.of ds = _
          refine ⟨[.sl 1 (List.map rS []), .fl (.int .i64 5)], (.cons (.tmp rfl (.cv (Cv.nil _))) (.cons (.tmp rfl (.d _)) .nil)), ?_⟩
          rw [fl_bad (k := k) (by omega) (by omega) (fB_bad (by omega))]; rfl
set_option maxHeartbeats 4000000 in
set_option maxRecDepth 100000 in
theorem isF27 (s : ByteArray) : Ctr Tryd.prog 14 [.fl (.string s)] (.d (.fl (.bool (isF s)))) := by
  refine ctr (n := 17) (rs := #[.tmp 2]) (L := [(0, .d (.fl (.string s)))]) Tryd.func14 rfl rfl rfl rfl rfl (fun w0 U0 => ?_)
  refine a_rseq ?_
  refine rg_put (d := 2) (v := .d (.fl (.bool false))) rfl (og rfl (op_assign rfl rfl rfl)) ?_
  refine rg_done rfl ?_
  refine a_rseq ?_
  refine rg_put (d := 6) (v := .d (.fl (.string s))) rfl (og rfl (op_move rfl rfl rfl)) ?_
  refine rg_put (d := 7) (v := .tu [.sl 1 (List.map rS ((flds s).1)), .fl (.int .i64 ((flds s).2))]) rfl (og rfl (op_call rfl Tryd.func22 nm22 rfl (.cons rfl (.d _) .nil) (fields39 s) rfl)) ?_
  refine rg_put (d := 5) (v := .tu [.sl 1 (List.map rS ((flds s).1)), .fl (.int .i64 ((flds s).2))]) rfl (og rfl (op_move rfl rfl rfl)) ?_
  refine rg_put (d := 8) (v := .d (.sl 1 (List.map rS ((flds s).1)))) rfl (og rfl (op_extract rfl rfl rfl rfl)) ?_
  refine rg_put (d := 9) (v := .d (.fl (.int .i64 ((flds s).2)))) rfl (og rfl (op_extract rfl rfl rfl rfl)) ?_
  refine rg_put (d := 3) (v := .d (.sl 1 (List.map rS ((flds s).1)))) rfl (og rfl (op_assign rfl rfl rfl)) ?_
  refine rg_put (d := 4) (v := .d (.fl (.int .i64 ((flds s).2)))) rfl (og rfl (op_assign rfl rfl rfl)) ?_
  refine rg_done rfl ?_
  refine a_rseq ?_
  refine rg_put (d := 10) (v := .d (.fl (.int .i64 ((flds s).2)))) rfl (og rfl (op_move rfl rfl rfl)) ?_
  refine rg_put (d := 11) (v := .d (.fl (.bool (((flds s).2 == 0))))) rfl (og rfl (op_bin rfl rfl rfl (b_eql _ _ _ _) rfl)) ?_
  refine rg_put (d := 12) (v := .d (.fl (.bool (((flds s).2 == 0))))) rfl (og rfl (op_move rfl rfl rfl)) ?_
  rcases fot (((flds s).2 == 0)) with h1 | h1
  · skip
    have h2 := f_beq h1
    refine rg_put (d := 13) (v := .d (.fl undef)) rfl (on rfl rfl rfl h1) ?_
    refine rg_put (d := 14) (v := .d (.fl undef)) rfl (on rfl rfl rfl h1) ?_
    refine rg_put (d := 15) (v := .d (.fl undef)) rfl (on rfl rfl rfl h1) ?_
    refine rg_put (d := 16) (v := .d (.fl (.bool false))) rfl (og rfl (op_pick rfl rfl (by rw [h1]; rfl) rfl)) ?_
    refine rg_put (d := 2) (v := .d (.fl (.bool false))) rfl (og rfl (op_assign rfl rfl rfl)) ?_
    refine rg_done rfl ?_
    refine a_ret ?_
    show ∃ ds, ResL _ _ _ ds ∧ RV.of ds = _
    refine ⟨[.fl (.bool false)], (.cons (.tmp rfl (.d _)) .nil), ?_⟩
    have hu : isF s = false := by
      unfold isF; simp only [h1]; rfl
    rw [hu]; rfl
  · skip
    have h3 := t_beq h1
    refine rg_put (d := 13) (v := .d (.sl 1 (List.map rS ((flds s).1)))) rfl (oy rfl rfl rfl h1 (op_move rfl rfl rfl)) ?_
    refine rg_put (d := 14) (v := .d (.fl (.int .i64 ((((flds s).1).length : Int))))) rfl (oy rfl rfl rfl h1 (s_len rfl Tryd.underlying53 rfl rfl)) ?_
    refine rg_put (d := 15) (v := .d (.fl (.bool (((((flds s).1).length : Int) == 1))))) rfl (oy rfl rfl rfl h1 (op_bin rfl rfl rfl (b_eql _ _ _ _) rfl)) ?_
    refine rg_put (d := 16) (v := .d (.fl (.bool (((((flds s).1).length : Int) == 1))))) rfl (og rfl (op_pick rfl rfl (by rw [h1]; rfl) rfl)) ?_
    refine rg_put (d := 2) (v := .d (.fl (.bool (((((flds s).1).length : Int) == 1))))) rfl (og rfl (op_assign rfl rfl rfl)) ?_
    refine rg_done rfl ?_
    refine a_ret ?_
    show ∃ ds, ResL _ _ _ ds ∧ RV.of ds = _
    refine ⟨[.fl (.bool (((((flds s).1).length : Int) == 1)))], (.cons (.tmp rfl (.d _)) .nil), ?_⟩
    have hu : isF s = ((((flds s).1).length : Int) == 1) := by
      unfold isF; simp only [h1]; rfl
    rw [hu]; rfl
set_option maxHeartbeats 4000000 in
set_option maxRecDepth 100000 in
theorem cap55  : CtrM Tryd.prog 39 .p (.bx 71 [.fl (.pointer none), .fl (.slice none 0 0)]) [] (.bx 71 [.fl (.pointer none), .fl (.slice none 0 0)]) (.d (.fl (.int .i64 0))) := by
  refine ctrM (n := 8) (rs := #[.tmp 2]) (L := []) Tryd.func39 rfl rfl rfl rfl rfl rfl rfl (fun w0 U0 v0 H0 V0 Q0 => ?_)
  refine a_rseq ?_
  refine rg_put (d := 2) (v := .d (.fl (.int .i64 0))) rfl (og rfl (op_assign rfl rfl rfl)) ?_
  refine rg_done rfl ?_
  refine a_rseq ?_
  refine rg_put (d := 3) (v := .pt 0 0) rfl (og rfl (op_move_pv rfl rfl rfl)) ?_
  refine rg_put (d := 4) (v := .pt 0 0) rfl (og rfl (op_nilCheck rfl rfl rfl)) ?_
  refine rg_put (d := 5) (v := .pt 0 1) rfl (og rfl (of_eff (s_field_pt rfl Tryd.underlying71 rfl ti69 rfl rfl rfl) rfl)) ?_
  refine rg_put (d := 6) (v := .d (.fl (.slice none 0 0))) rfl (og rfl (op_load_pt rfl Tryd.underlying69 rfl rfl rfl rfl rfl)) ?_
  refine rg_put (d := 7) (v := .d (.fl (.int .i64 0))) rfl (og rfl (op_cap_nil rfl Tryd.underlying69 rfl rfl)) ?_
  refine rg_put (d := 2) (v := .d (.fl (.int .i64 0))) rfl (og rfl (op_assign rfl rfl rfl)) ?_
  refine rg_done rfl ?_
  refine a_ret ?_
  show (∃ ds, ResL _ _ _ ds ∧ RV.of ds = _) ∧ _ = _ ∧ _ = _ ∧ _ = _
  refine ⟨⟨[.fl (.int .i64 0)], (.cons (.tmp rfl (.d _)) .nil), ?_⟩, rfl, ?_, rfl⟩
  · rfl
  · rfl
set_option maxHeartbeats 4000000 in
set_option maxRecDepth 100000 in
theorem capital65  : Ctr Tryd.prog 30 [.fl (.int .i32 65)] (.d (.fl (.int .i32 65))) := by
  refine ctr (n := 21) (rs := #[.tmp 2]) (L := [(0, .d (.fl (.int .i32 65)))]) Tryd.func30 rfl rfl rfl rfl rfl (fun w0 U0 => ?_)
  refine a_rseq ?_
  refine rg_put (d := 2) (v := .d (.fl (.int .i32 0))) rfl (og rfl (op_assign rfl rfl rfl)) ?_
  refine rg_done rfl ?_
  refine a_seq ?_
  refine a_block ?_
  refine a_rseq ?_
  refine rg_put (d := 4) (v := .d (.fl (.int .i32 65))) rfl (og rfl (op_move rfl rfl rfl)) ?_
  refine rg_put (d := 5) (v := .d (.fl (.bool (65 == 32)))) rfl (og rfl (op_bin rfl rfl rfl (b_eql _ _ _ _) rfl)) ?_
  refine rg_put (d := 6) (v := .d (.fl (.bool (65 == 32)))) rfl (og rfl (op_move rfl rfl rfl)) ?_
  refine rg_put (d := 7) (v := .d (.fl (.int .i32 65))) rfl (oy rfl rfl rfl rfl (op_move rfl rfl rfl)) ?_
  refine rg_put (d := 8) (v := .d (.fl (.bool (65 == 45)))) rfl (oy rfl rfl rfl rfl (op_bin rfl rfl rfl (b_eql _ _ _ _) rfl)) ?_
  refine rg_put (d := 9) (v := .d (.fl (.bool (65 == 45)))) rfl (og rfl (op_pick rfl rfl rfl rfl)) ?_
  refine rg_put (d := 3) (v := .d (.fl (.bool (65 == 45)))) rfl (og rfl (op_assign rfl rfl rfl)) ?_
  refine rg_done rfl ?_
  refine a_condF rfl rfl ?_
  refine a_rseq ?_
  refine rg_put (d := 11) (v := .d (.fl (.int .i32 65))) rfl (og rfl (op_move rfl rfl rfl)) ?_
  refine rg_put (d := 12) (v := .d (.fl (.bool ((decide (97 ≤ 65)))))) rfl (og rfl (op_bin rfl rfl rfl (b_leq _ _ _ _) rfl)) ?_
  refine rg_put (d := 13) (v := .d (.fl (.bool ((decide (97 ≤ 65)))))) rfl (og rfl (op_move rfl rfl rfl)) ?_
  refine rg_put (d := 14) (v := .d (.fl undef)) rfl (on rfl rfl rfl rfl) ?_
  refine rg_put (d := 15) (v := .d (.fl undef)) rfl (on rfl rfl rfl rfl) ?_
  refine rg_put (d := 16) (v := .d (.fl (.bool false))) rfl (og rfl (op_pick rfl rfl rfl rfl)) ?_
  refine rg_put (d := 10) (v := .d (.fl (.bool false))) rfl (og rfl (op_assign rfl rfl rfl)) ?_
  refine rg_done rfl ?_
  refine a_condF rfl rfl ?_
  refine a_skip ?_
  show A _ _ _ _ _ _ _
  refine a_rseq ?_
  refine rg_put (d := 20) (v := .d (.fl (.int .i32 65))) rfl (og rfl (op_move rfl rfl rfl)) ?_
  refine rg_put (d := 2) (v := .d (.fl (.int .i32 65))) rfl (og rfl (op_assign rfl rfl rfl)) ?_
  refine rg_done rfl ?_
  refine a_ret ?_
  show ∃ ds, ResL _ _ _ ds ∧ RV.of ds = _
  refine ⟨[.fl (.int .i32 65)], (.cons (.tmp rfl (.d _)) .nil), ?_⟩
  rfl
set_option maxHeartbeats 4000000 in
set_option maxRecDepth 100000 in
theorem capital66  : Ctr Tryd.prog 30 [.fl (.int .i32 66)] (.d (.fl (.int .i32 66))) := by
  refine ctr (n := 21) (rs := #[.tmp 2]) (L := [(0, .d (.fl (.int .i32 66)))]) Tryd.func30 rfl rfl rfl rfl rfl (fun w0 U0 => ?_)
  refine a_rseq ?_
  refine rg_put (d := 2) (v := .d (.fl (.int .i32 0))) rfl (og rfl (op_assign rfl rfl rfl)) ?_
  refine rg_done rfl ?_
  refine a_seq ?_
  refine a_block ?_
  refine a_rseq ?_
  refine rg_put (d := 4) (v := .d (.fl (.int .i32 66))) rfl (og rfl (op_move rfl rfl rfl)) ?_
  refine rg_put (d := 5) (v := .d (.fl (.bool (66 == 32)))) rfl (og rfl (op_bin rfl rfl rfl (b_eql _ _ _ _) rfl)) ?_
  refine rg_put (d := 6) (v := .d (.fl (.bool (66 == 32)))) rfl (og rfl (op_move rfl rfl rfl)) ?_
  refine rg_put (d := 7) (v := .d (.fl (.int .i32 66))) rfl (oy rfl rfl rfl rfl (op_move rfl rfl rfl)) ?_
  refine rg_put (d := 8) (v := .d (.fl (.bool (66 == 45)))) rfl (oy rfl rfl rfl rfl (op_bin rfl rfl rfl (b_eql _ _ _ _) rfl)) ?_
  refine rg_put (d := 9) (v := .d (.fl (.bool (66 == 45)))) rfl (og rfl (op_pick rfl rfl rfl rfl)) ?_
  refine rg_put (d := 3) (v := .d (.fl (.bool (66 == 45)))) rfl (og rfl (op_assign rfl rfl rfl)) ?_
  refine rg_done rfl ?_
  refine a_condF rfl rfl ?_
  refine a_rseq ?_
  refine rg_put (d := 11) (v := .d (.fl (.int .i32 66))) rfl (og rfl (op_move rfl rfl rfl)) ?_
  refine rg_put (d := 12) (v := .d (.fl (.bool ((decide (97 ≤ 66)))))) rfl (og rfl (op_bin rfl rfl rfl (b_leq _ _ _ _) rfl)) ?_
  refine rg_put (d := 13) (v := .d (.fl (.bool ((decide (97 ≤ 66)))))) rfl (og rfl (op_move rfl rfl rfl)) ?_
  refine rg_put (d := 14) (v := .d (.fl undef)) rfl (on rfl rfl rfl rfl) ?_
  refine rg_put (d := 15) (v := .d (.fl undef)) rfl (on rfl rfl rfl rfl) ?_
  refine rg_put (d := 16) (v := .d (.fl (.bool false))) rfl (og rfl (op_pick rfl rfl rfl rfl)) ?_
  refine rg_put (d := 10) (v := .d (.fl (.bool false))) rfl (og rfl (op_assign rfl rfl rfl)) ?_
  refine rg_done rfl ?_
  refine a_condF rfl rfl ?_
  refine a_skip ?_
  show A _ _ _ _ _ _ _
  refine a_rseq ?_
  refine rg_put (d := 20) (v := .d (.fl (.int .i32 66))) rfl (og rfl (op_move rfl rfl rfl)) ?_
  refine rg_put (d := 2) (v := .d (.fl (.int .i32 66))) rfl (og rfl (op_assign rfl rfl rfl)) ?_
  refine rg_done rfl ?_
  refine a_ret ?_
  show ∃ ds, ResL _ _ _ ds ∧ RV.of ds = _
  refine ⟨[.fl (.int .i32 66)], (.cons (.tmp rfl (.d _)) .nil), ?_⟩
  rfl
set_option maxHeartbeats 4000000 in
set_option maxRecDepth 100000 in
theorem capital49  : Ctr Tryd.prog 30 [.fl (.int .i32 49)] (.d (.fl (.int .i32 49))) := by
  refine ctr (n := 21) (rs := #[.tmp 2]) (L := [(0, .d (.fl (.int .i32 49)))]) Tryd.func30 rfl rfl rfl rfl rfl (fun w0 U0 => ?_)
  refine a_rseq ?_
  refine rg_put (d := 2) (v := .d (.fl (.int .i32 0))) rfl (og rfl (op_assign rfl rfl rfl)) ?_
  refine rg_done rfl ?_
  refine a_seq ?_
  refine a_block ?_
  refine a_rseq ?_
  refine rg_put (d := 4) (v := .d (.fl (.int .i32 49))) rfl (og rfl (op_move rfl rfl rfl)) ?_
  refine rg_put (d := 5) (v := .d (.fl (.bool (49 == 32)))) rfl (og rfl (op_bin rfl rfl rfl (b_eql _ _ _ _) rfl)) ?_
  refine rg_put (d := 6) (v := .d (.fl (.bool (49 == 32)))) rfl (og rfl (op_move rfl rfl rfl)) ?_
  refine rg_put (d := 7) (v := .d (.fl (.int .i32 49))) rfl (oy rfl rfl rfl rfl (op_move rfl rfl rfl)) ?_
  refine rg_put (d := 8) (v := .d (.fl (.bool (49 == 45)))) rfl (oy rfl rfl rfl rfl (op_bin rfl rfl rfl (b_eql _ _ _ _) rfl)) ?_
  refine rg_put (d := 9) (v := .d (.fl (.bool (49 == 45)))) rfl (og rfl (op_pick rfl rfl rfl rfl)) ?_
  refine rg_put (d := 3) (v := .d (.fl (.bool (49 == 45)))) rfl (og rfl (op_assign rfl rfl rfl)) ?_
  refine rg_done rfl ?_
  refine a_condF rfl rfl ?_
  refine a_rseq ?_
  refine rg_put (d := 11) (v := .d (.fl (.int .i32 49))) rfl (og rfl (op_move rfl rfl rfl)) ?_
  refine rg_put (d := 12) (v := .d (.fl (.bool ((decide (97 ≤ 49)))))) rfl (og rfl (op_bin rfl rfl rfl (b_leq _ _ _ _) rfl)) ?_
  refine rg_put (d := 13) (v := .d (.fl (.bool ((decide (97 ≤ 49)))))) rfl (og rfl (op_move rfl rfl rfl)) ?_
  refine rg_put (d := 14) (v := .d (.fl undef)) rfl (on rfl rfl rfl rfl) ?_
  refine rg_put (d := 15) (v := .d (.fl undef)) rfl (on rfl rfl rfl rfl) ?_
  refine rg_put (d := 16) (v := .d (.fl (.bool false))) rfl (og rfl (op_pick rfl rfl rfl rfl)) ?_
  refine rg_put (d := 10) (v := .d (.fl (.bool false))) rfl (og rfl (op_assign rfl rfl rfl)) ?_
  refine rg_done rfl ?_
  refine a_condF rfl rfl ?_
  refine a_skip ?_
  show A _ _ _ _ _ _ _
  refine a_rseq ?_
  refine rg_put (d := 20) (v := .d (.fl (.int .i32 49))) rfl (og rfl (op_move rfl rfl rfl)) ?_
  refine rg_put (d := 2) (v := .d (.fl (.int .i32 49))) rfl (og rfl (op_assign rfl rfl rfl)) ?_
  refine rg_done rfl ?_
  refine a_ret ?_
  show ∃ ds, ResL _ _ _ ds ∧ RV.of ds = _
  refine ⟨[.fl (.int .i32 49)], (.cons (.tmp rfl (.d _)) .nil), ?_⟩
  rfl
set_option maxHeartbeats 4000000 in
set_option maxRecDepth 100000 in
theorem map47 (s : ByteArray) (hw : ∀ k, k < s.size → (Utf8.decode s k).2 = 1) (hne : ∀ k, k < s.size → (((Utf8.decode s k).1 : Int) != 65533) = true) (hcap : ∀ k, k < s.size → Ctr Tryd.prog 30 [.fl (.int .i32 ((Utf8.decode s k).1 : Int))] (.d (.fl (.int .i32 ((Utf8.decode s k).1 : Int))))) : Ctr Tryd.prog 29 [.fn 30 [], .fl (.string s)] (.d (.fl (.string s))) := by
  refine ctr (n := 85) (rs := #[.tmp 4]) (L := [(0, .d (.fn 30 [])), (1, .d (.fl (.string s)))]) Tryd.func29 rfl rfl rfl rfl rfl (fun w0 U0 => ?_)
  refine a_rseq ?_
  refine rg_put (d := 4) (v := .d (.fl (.string (⟨#[]⟩)))) rfl (og rfl (op_assign rfl rfl rfl)) ?_
  refine rg_done rfl ?_
  refine a_rseq ?_
  refine rg_nam (d := 5) (v := .pt 101 0) (m := 101) (nw := [(101, .bx 71 [.fl (.pointer none), .fl (.slice none 0 0)])]) rfl (og rfl (of_eff (s_alloc 101 rfl ti71 (by kernel_rfl) rfl) rfl)) rfl ?_
  refine rg_done rfl ?_
  refine a_seq ?_
  refine a_rseq ?_
  refine rg_put (d := 13) (v := .d (.fl (.string s))) rfl (og rfl (op_move rfl rfl rfl)) ?_
  refine rg_nam (d := 14) (v := .ow 102) (m := 102) (nw := [(102, .it s 0)]) rfl (og rfl (op_range 102 rfl Tryd.underlying9 rfl rfl)) rfl ?_
  refine rg_done rfl ?_
  refine a_block ?_
  refine a_loop (ι := Nat) (fun k => SS [(0, .d (.fn 30 [])), (4, .d (.fl (.string (⟨#[]⟩)))), (5, .pt 101 0), (14, .ow 102), (1, .d (.fl (.string s)))] [(101, .bx 71 [.fl (.pointer none), .fl (.slice none 0 0)]), (102, .it s k)]) (fun k => k ≤ s.size) (fun k => s.size - k) 0 (by omega) (imp_forget rfl ⟨rfl, rfl, rfl, rfl, (by first | rfl | exact ci (by omega) | exact ci (by simp) | exact cd (by simp) | simp), trivial⟩ ⟨rfl, (by first | rfl | simp), trivial⟩) (fun k hok => ?_)
  have hk := hok
  refine a_rseq ?_
  rcases fot ((decide (k < s.size))) with h1 | h1
  · skip
    have h2 := f_dec h1
    refine rg_put (d := 15) (v := .tu [.fl (.bool false)]) rfl (og rfl (op_next_no rfl rfl rfl (f_dec h1) rfl)) ?_
    refine rg_put (d := 16) (v := .d (.fl (.bool false))) rfl (og rfl (op_extract rfl rfl rfl rfl)) ?_
    refine rg_done rfl ?_
    refine a_seq ?_
    refine a_condF rfl rfl ?_
    refine a_exit ?_
    show A _ _ _ _ _ _ _
    refine a_seq ?_
    refine a_rseq ?_
    refine rg_upd (d := 64) (v := .d (.fl (.int .i64 0))) (nw := [(101, .bx 71 [.fl (.pointer none), .fl (.slice none 0 0)])]) rfl (og rfl (of_eff (op_callM .p (m := 101) (ob := .bx 71 [.fl (.pointer none), .fl (.slice none 0 0)]) (ob' := .bx 71 [.fl (.pointer none), .fl (.slice none 0 0)]) (r := .d (.fl (.int .i64 0))) rfl Tryd.func39 nm39 rfl rfl rfl rfl rfl rfl .nil cap55 rfl) rfl)) ?_
    refine rg_put (d := 65) (v := .d (.fl (.bool (0 == 0)))) rfl (og rfl (op_bin rfl rfl rfl (b_eql _ _ _ _) rfl)) ?_
    refine rg_done rfl ?_
    refine a_condK rfl (eq_self_b _) ?_
    refine a_rseq ?_
    refine rg_put (d := 66) (v := .d (.fl (.string s))) rfl (og rfl (op_move rfl rfl rfl)) ?_
    refine rg_put (d := 4) (v := .d (.fl (.string s))) rfl (og rfl (op_assign rfl rfl rfl)) ?_
    refine rg_done rfl ?_
    refine a_ret ?_
    show ∃ ds, ResL _ _ _ ds ∧ RV.of ds = _
    refine ⟨[.fl (.string s)], (.cons (.tmp rfl (.d _)) .nil), ?_⟩
    rfl
  · skip
    have h3 := t_dec h1
    refine rg_upd (d := 15) (v := .tu [.fl (.bool true), .fl (.int .i64 (k : Int)), .fl (.int .i32 (((Utf8.decode s k).1 : Int)))]) (nw := [(102, .it s ((k + (Utf8.decode s k).2)))]) rfl (og rfl (op_next_yes rfl rfl rfl (t_dec h1) rfl)) ?_
    refine rg_put (d := 16) (v := .d (.fl (.bool true))) rfl (og rfl (op_extract rfl rfl rfl rfl)) ?_
    refine rg_done rfl ?_
    refine a_seq ?_
    refine a_condK rfl rfl ?_
    refine a_skip ?_
    show A _ _ _ _ _ _ _
    refine a_block ?_
    refine a_rseq ?_
    refine rg_put (d := 17) (v := .d (.fl (.int .i64 (k : Int)))) rfl (og rfl (op_extract rfl rfl rfl rfl)) ?_
    refine rg_put (d := 18) (v := .d (.fl (.int .i32 (((Utf8.decode s k).1 : Int))))) rfl (og rfl (op_extract rfl rfl rfl rfl)) ?_
    refine rg_put (d := 6) (v := .d (.fl (.int .i64 (k : Int)))) rfl (og rfl (op_assign rfl rfl rfl)) ?_
    refine rg_put (d := 7) (v := .d (.fl (.int .i32 (((Utf8.decode s k).1 : Int))))) rfl (og rfl (op_assign rfl rfl rfl)) ?_
    refine rg_done rfl ?_
    refine a_rseq ?_
    refine rg_put (d := 19) (v := .d (.fn 30 [])) rfl (og rfl (op_move rfl rfl rfl)) ?_
    refine rg_put (d := 20) (v := .d (.fl (.int .i32 (((Utf8.decode s k).1 : Int))))) rfl (og rfl (op_move rfl rfl rfl)) ?_
    refine rg_put (d := 21) (v := .d (.fl (.int .i32 (((Utf8.decode s k).1 : Int))))) rfl (og rfl (op_callV rfl rfl ⟨_, Tryd.func30, nm30, rfl⟩ (.cons rfl (.d _) .nil) (hcap k (by omega)) rfl)) ?_
    refine rg_put (d := 8) (v := .d (.fl (.int .i32 (((Utf8.decode s k).1 : Int))))) rfl (og rfl (op_assign rfl rfl rfl)) ?_
    refine rg_done rfl ?_
    refine a_seq ?_
    refine a_rseq ?_
    refine rg_put (d := 22) (v := .d (.fl (.int .i32 (((Utf8.decode s k).1 : Int))))) rfl (og rfl (op_move rfl rfl rfl)) ?_
    refine rg_put (d := 23) (v := .d (.fl (.int .i32 (((Utf8.decode s k).1 : Int))))) rfl (og rfl (op_move rfl rfl rfl)) ?_
    refine rg_put (d := 24) (v := .d (.fl (.bool ((((Utf8.decode s k).1 : Int) == ((Utf8.decode s k).1 : Int)))))) rfl (og rfl (op_bin rfl rfl rfl (b_eql _ _ _ _) rfl)) ?_
    refine rg_put (d := 25) (v := .d (.fl (.bool ((((Utf8.decode s k).1 : Int) == ((Utf8.decode s k).1 : Int)))))) rfl (og rfl (op_move rfl rfl rfl)) ?_
    refine rg_put (d := 26) (v := .d (.fl (.int .i32 (((Utf8.decode s k).1 : Int))))) rfl (oy rfl rfl rfl (eq_self_b _) (op_move rfl rfl rfl)) ?_
    refine rg_put (d := 27) (v := .d (.fl (.bool ((((Utf8.decode s k).1 : Int) != 65533))))) rfl (oy rfl rfl rfl (eq_self_b _) (op_bin rfl rfl rfl (b_neq _ _ _ _) rfl)) ?_
    refine rg_put (d := 28) (v := .d (.fl (.bool ((((Utf8.decode s k).1 : Int) != 65533))))) rfl (og rfl (op_pick rfl rfl (by rw [(eq_self_b _)]; rfl) rfl)) ?_
    refine rg_done rfl ?_
    refine a_condK rfl (hne k (by omega)) ?_
    refine a_exit ?_
    show ∃ i, _ ∧ _ ∧ Imp _ _ _ _ _
    refine ⟨k + 1, (by omega), by omega, imp_forget rfl ⟨rfl, rfl, rfl, rfl, (by first | rfl | exact ci (by omega) | exact ci (by simp) | exact cd (by simp) | simp), trivial⟩ ⟨rfl, (congrArg (Ob.it s) (by rw [hw k (by omega)])), trivial⟩⟩
set_option maxHeartbeats 4000000 in
set_option maxRecDepth 100000 in
theorem normal40 (s : ByteArray) (hmap : Ctr Tryd.prog 29 [.fn 30 [], .fl (.string s)] (.d (.fl (.string s)))) (hz : 2 ≤ s.size ∧ s.size ≤ 10) (hch : ∀ q, q < s.size → (65 ≤ (bt s q).toNat ∧ (bt s q).toNat ≤ 90) ∨ (48 ≤ (bt s q).toNat ∧ (bt s q).toNat ≤ 57)) : Ctr Tryd.prog 23 [.fl (.string s)] (.tu [.fl (.string s), .fl (.int .i64 0)]) := by
  refine ctr (n := 40) (rs := #[.tmp 2, .tmp 3]) (L := [(0, .d (.fl (.string s)))]) Tryd.func23 rfl rfl rfl rfl rfl (fun w0 U0 => ?_)
  refine a_rseq ?_
  refine rg_put (d := 2) (v := .d (.fl (.string (⟨#[]⟩)))) rfl (og rfl (op_assign rfl rfl rfl)) ?_
  refine rg_put (d := 3) (v := .d (.fl (.int .i64 0))) rfl (og rfl (op_assign rfl rfl rfl)) ?_
  refine rg_done rfl ?_
  refine a_rseq ?_
  refine rg_put (d := 6) (v := .d (.fl (.string s))) rfl (og rfl (op_move rfl rfl rfl)) ?_
  refine rg_put (d := 7) (v := .d (.fl (.string s))) rfl (og rfl (op_call rfl Tryd.func29 nm29 rfl (.cons rfl (.d _) (.cons rfl (.d _) .nil)) hmap rfl)) ?_
  refine rg_put (d := 0) (v := .d (.fl (.string s))) rfl (og rfl (op_assign rfl rfl rfl)) ?_
  refine rg_done rfl ?_
  refine a_seq ?_
  refine a_rseq ?_
  refine rg_put (d := 8) (v := .d (.fl (.string s))) rfl (og rfl (op_move rfl rfl rfl)) ?_
  refine rg_put (d := 9) (v := .d (.fl (.int .i64 (s.size : Int)))) rfl (og rfl (op_len_str rfl Tryd.underlying9 rfl rfl)) ?_
  refine rg_put (d := 10) (v := .d (.fl (.bool ((decide ((s.size : Int) < 2)))))) rfl (og rfl (op_bin rfl rfl rfl (b_lss _ _ _ _) rfl)) ?_
  refine rg_put (d := 11) (v := .d (.fl (.bool ((decide ((s.size : Int) < 2)))))) rfl (og rfl (op_move rfl rfl rfl)) ?_
  rcases fot ((decide ((s.size : Int) < 2))) with h1 | h1
  · skip
    have h2 := f_dec h1
    refine rg_put (d := 12) (v := .d (.fl (.string s))) rfl (oy rfl rfl rfl h1 (op_move rfl rfl rfl)) ?_
    refine rg_put (d := 13) (v := .d (.fl (.int .i64 (s.size : Int)))) rfl (oy rfl rfl rfl h1 (op_len_str rfl Tryd.underlying9 rfl rfl)) ?_
    refine rg_put (d := 14) (v := .d (.fl (.bool ((decide (10 < (s.size : Int))))))) rfl (oy rfl rfl rfl h1 (op_bin rfl rfl rfl (b_gtr _ _ _ _) rfl)) ?_
    refine rg_put (d := 15) (v := .d (.fl (.bool ((decide (10 < (s.size : Int))))))) rfl (og rfl (op_pick rfl rfl (by rw [h1]; rfl) rfl)) ?_
    refine rg_done rfl ?_
    refine a_cond rfl (fun h3 => ?_) (fun h3 => ?_)
    · skip
      have h4 := t_dec h3
      refine a_rseq ?_
      refine rg_put (d := 2) (v := .d (.fl (.string (⟨#[]⟩)))) rfl (og rfl (op_assign rfl rfl rfl)) ?_
      refine rg_put (d := 3) (v := .d (.fl (.int .i64 19))) rfl (og rfl (op_assign rfl rfl rfl)) ?_
      refine rg_done rfl ?_
      refine a_ret ?_
      show ∃ ds, ResL _ _ _ ds ∧ RV.of ds = _
      refine ⟨[.fl (.string (⟨#[]⟩)), .fl (.int .i64 19)], (.cons (.tmp rfl (.d _)) (.cons (.tmp rfl (.d _)) .nil)), ?_⟩
      exfalso
      omega
    · skip
      have h5 := f_dec h3
      refine a_skip ?_
      show A _ _ _ _ _ _ _
      refine a_seq ?_
      refine a_rseq ?_
      refine rg_put (d := 16) (v := .d (.fl (.string s))) rfl (og rfl (op_move rfl rfl rfl)) ?_
      refine rg_put (d := 17) (v := .d (.fl (.int .i64 (s.size : Int)))) rfl (og rfl (op_len_str rfl Tryd.underlying9 rfl rfl)) ?_
      refine rg_put (d := 18) (v := .d (.fl (.int .i64 0))) rfl (og rfl (op_move rfl rfl rfl)) ?_
      refine rg_done rfl ?_
      refine a_block ?_
      refine a_loop (ι := Nat) (fun k => SS [(0, .d (.fl (.string s))), (15, .d (.fl (.bool ((decide (10 < (s.size : Int))))))), (17, .d (.fl (.int .i64 (s.size : Int)))), (18, .d (.fl (.int .i64 (k : Int))))] []) (fun k => k ≤ s.size) (fun k => s.size - k) 0 (by omega) (imp_forget rfl ⟨rfl, rfl, rfl, (by first | rfl | exact ci (by omega) | exact ci (by simp) | exact cd (by simp) | simp), trivial⟩ trivial) (fun k hok => ?_)
      have hk := hok
      refine a_rseq ?_
      refine rg_put (d := 19) (v := .d (.fl (.bool ((decide ((k : Int) < (s.size : Int))))))) rfl (og rfl (op_bin rfl rfl rfl (b_lss _ _ _ _) rfl)) ?_
      refine rg_done rfl ?_
      refine a_seq ?_
      refine a_cond rfl (fun h6 => ?_) (fun h6 => ?_)
      · skip
        have h7 := t_dec h6
        refine a_skip ?_
        show A _ _ _ _ _ _ _
        refine a_seq ?_
        refine a_block ?_
        refine a_rseq ?_
        refine rg_put (d := 20) (v := .d (.fl (.int .i64 (k : Int)))) rfl (og rfl (op_move rfl rfl rfl)) ?_
        refine rg_put (d := 4) (v := .d (.fl (.int .i64 (k : Int)))) rfl (og rfl (op_assign rfl rfl rfl)) ?_
        refine rg_done rfl ?_
        refine a_rseq ?_
        have hck := hch k (by omega)
        refine rg_put (d := 21) (v := .d (.fl (.string s))) rfl (og rfl (op_move rfl rfl rfl)) ?_
        refine rg_put (d := 22) (v := .d (.fl (.int .i64 (k : Int)))) rfl (og rfl (op_move rfl rfl rfl)) ?_
        refine rg_put (d := 23) (v := .d (.fl (.int .u8 (((bt s k).toNat : Int))))) rfl (og rfl (op_strindex rfl Tryd.underlying9 rfl rfl (by omega) (byte_ix (by omega)) rfl)) ?_
        refine rg_put (d := 5) (v := .d (.fl (.int .u8 (((bt s k).toNat : Int))))) rfl (og rfl (op_assign rfl rfl rfl)) ?_
        refine rg_done rfl ?_
        refine a_rseq ?_
        refine rg_put (d := 24) (v := .d (.fl (.int .u8 (((bt s k).toNat : Int))))) rfl (og rfl (op_move rfl rfl rfl)) ?_
        refine rg_put (d := 25) (v := .d (.fl (.bool ((decide (((bt s k).toNat : Int) < 65)))))) rfl (og rfl (op_bin rfl rfl rfl (b_lss _ _ _ _) rfl)) ?_
        refine rg_put (d := 26) (v := .d (.fl (.bool ((decide (((bt s k).toNat : Int) < 65)))))) rfl (og rfl (op_move rfl rfl rfl)) ?_
        rcases fot ((decide (((bt s k).toNat : Int) < 65))) with h8 | h8
        · skip
          have h9 := f_dec h8
          refine rg_put (d := 27) (v := .d (.fl (.int .u8 (((bt s k).toNat : Int))))) rfl (oy rfl rfl rfl h8 (op_move rfl rfl rfl)) ?_
          refine rg_put (d := 28) (v := .d (.fl (.bool ((decide (90 < ((bt s k).toNat : Int))))))) rfl (oy rfl rfl rfl h8 (op_bin rfl rfl rfl (b_gtr _ _ _ _) rfl)) ?_
          refine rg_put (d := 29) (v := .d (.fl (.bool ((decide (90 < ((bt s k).toNat : Int))))))) rfl (og rfl (op_pick rfl rfl (by rw [h8]; rfl) rfl)) ?_
          refine rg_put (d := 30) (v := .d (.fl (.bool ((decide (90 < ((bt s k).toNat : Int))))))) rfl (og rfl (op_move rfl rfl rfl)) ?_
          rcases fot ((decide (90 < ((bt s k).toNat : Int)))) with h10 | h10
          · skip
            have h11 := f_dec h10
            refine rg_put (d := 31) (v := .d (.fl undef)) rfl (on rfl rfl rfl h10) ?_
            refine rg_put (d := 32) (v := .d (.fl undef)) rfl (on rfl rfl rfl h10) ?_
            refine rg_put (d := 33) (v := .d (.fl undef)) rfl (on rfl rfl rfl h10) ?_
            refine rg_put (d := 34) (v := .d (.fl undef)) rfl (ou rfl rfl rfl) ?_
            refine rg_put (d := 35) (v := .d (.fl undef)) rfl (ou rfl rfl rfl) ?_
            refine rg_put (d := 36) (v := .d (.fl undef)) rfl (on rfl rfl rfl h10) ?_
            refine rg_put (d := 37) (v := .d (.fl (.bool false))) rfl (og rfl (op_pick rfl rfl (by rw [h10]; rfl) rfl)) ?_
            refine rg_done rfl ?_
            refine a_condF rfl rfl ?_
            refine a_skip ?_
            show A _ _ _ _ _ _ _
            refine a_region ?_
            refine rg_put (d := 38) (v := .d (.fl (.int .i64 (((k : Int) + 1))))) rfl (og rfl (op_bin rfl rfl rfl (fun x y w => b_add64 _ _ _ x y w (by omega)) rfl)) ?_
            refine rg_put (d := 18) (v := .d (.fl (.int .i64 (((k : Int) + 1))))) rfl (og rfl (op_move rfl rfl rfl)) ?_
            refine rg_done rfl ?_
            show ∃ i, _ ∧ _ ∧ Imp _ _ _ _ _
            refine ⟨k + 1, (by omega), by omega, imp_forget rfl ⟨rfl, rfl, rfl, (by first | rfl | exact ci (by omega) | exact ci (by simp) | exact cd (by simp) | simp), trivial⟩ trivial⟩
          · skip
            have h12 := t_dec h10
            refine rg_put (d := 31) (v := .d (.fl (.int .u8 (((bt s k).toNat : Int))))) rfl (oy rfl rfl rfl h10 (op_move rfl rfl rfl)) ?_
            refine rg_put (d := 32) (v := .d (.fl (.bool ((decide (((bt s k).toNat : Int) < 48)))))) rfl (oy rfl rfl rfl h10 (op_bin rfl rfl rfl (b_lss _ _ _ _) rfl)) ?_
            refine rg_put (d := 33) (v := .d (.fl (.bool ((decide (((bt s k).toNat : Int) < 48)))))) rfl (oy rfl rfl rfl h10 (op_move rfl rfl rfl)) ?_
            rcases fot ((decide (((bt s k).toNat : Int) < 48))) with h13 | h13
            · skip
              have h14 := f_dec h13
              refine rg_put (d := 34) (v := .d (.fl (.int .u8 (((bt s k).toNat : Int))))) rfl (oy rfl rfl rfl h13 (op_move rfl rfl rfl)) ?_
              refine rg_put (d := 35) (v := .d (.fl (.bool ((decide (57 < ((bt s k).toNat : Int))))))) rfl (oy rfl rfl rfl h13 (op_bin rfl rfl rfl (b_gtr _ _ _ _) rfl)) ?_
              refine rg_put (d := 36) (v := .d (.fl (.bool ((decide (57 < ((bt s k).toNat : Int))))))) rfl (oy rfl rfl rfl h10 (op_pick rfl rfl (by rw [h13]; rfl) rfl)) ?_
              refine rg_put (d := 37) (v := .d (.fl (.bool ((decide (57 < ((bt s k).toNat : Int))))))) rfl (og rfl (op_pick rfl rfl (by rw [h10]; rfl) rfl)) ?_
              refine rg_done rfl ?_
              refine a_cond rfl (fun h15 => ?_) (fun h15 => ?_)
              · skip
                have h16 := t_dec h15
                refine a_rseq ?_
                refine rg_put (d := 2) (v := .d (.fl (.string (⟨#[]⟩)))) rfl (og rfl (op_assign rfl rfl rfl)) ?_
                refine rg_put (d := 3) (v := .d (.fl (.int .i64 19))) rfl (og rfl (op_assign rfl rfl rfl)) ?_
                refine rg_done rfl ?_
                refine a_ret ?_
                show ∃ ds, ResL _ _ _ ds ∧ RV.of ds = _
                refine ⟨[.fl (.string (⟨#[]⟩)), .fl (.int .i64 19)], (.cons (.tmp rfl (.d _)) (.cons (.tmp rfl (.d _)) .nil)), ?_⟩
                exfalso
                omega
              · skip
                have h17 := f_dec h15
                refine a_skip ?_
                show A _ _ _ _ _ _ _
                refine a_region ?_
                refine rg_put (d := 38) (v := .d (.fl (.int .i64 (((k : Int) + 1))))) rfl (og rfl (op_bin rfl rfl rfl (fun x y w => b_add64 _ _ _ x y w (by omega)) rfl)) ?_
                refine rg_put (d := 18) (v := .d (.fl (.int .i64 (((k : Int) + 1))))) rfl (og rfl (op_move rfl rfl rfl)) ?_
                refine rg_done rfl ?_
                show ∃ i, _ ∧ _ ∧ Imp _ _ _ _ _
                refine ⟨k + 1, (by omega), by omega, imp_forget rfl ⟨rfl, rfl, rfl, (by first | rfl | exact ci (by omega) | exact ci (by simp) | exact cd (by simp) | simp), trivial⟩ trivial⟩
            · skip
              have h18 := t_dec h13
              refine rg_put (d := 34) (v := .d (.fl undef)) rfl (on rfl rfl rfl h13) ?_
              refine rg_put (d := 35) (v := .d (.fl undef)) rfl (on rfl rfl rfl h13) ?_
              refine rg_put (d := 36) (v := .d (.fl (.bool true))) rfl (oy rfl rfl rfl h10 (op_pick rfl rfl (by rw [h13]; rfl) rfl)) ?_
              refine rg_put (d := 37) (v := .d (.fl (.bool true))) rfl (og rfl (op_pick rfl rfl (by rw [h10]; rfl) rfl)) ?_
              refine rg_done rfl ?_
              refine a_condK rfl rfl ?_
              refine a_rseq ?_
              refine rg_put (d := 2) (v := .d (.fl (.string (⟨#[]⟩)))) rfl (og rfl (op_assign rfl rfl rfl)) ?_
              refine rg_put (d := 3) (v := .d (.fl (.int .i64 19))) rfl (og rfl (op_assign rfl rfl rfl)) ?_
              refine rg_done rfl ?_
              refine a_ret ?_
              show ∃ ds, ResL _ _ _ ds ∧ RV.of ds = _
              refine ⟨[.fl (.string (⟨#[]⟩)), .fl (.int .i64 19)], (.cons (.tmp rfl (.d _)) (.cons (.tmp rfl (.d _)) .nil)), ?_⟩
              exfalso
              omega
        · skip
          have h19 := t_dec h8
          refine rg_put (d := 27) (v := .d (.fl undef)) rfl (on rfl rfl rfl h8) ?_
          refine rg_put (d := 28) (v := .d (.fl undef)) rfl (on rfl rfl rfl h8) ?_
          refine rg_put (d := 29) (v := .d (.fl (.bool true))) rfl (og rfl (op_pick rfl rfl (by rw [h8]; rfl) rfl)) ?_
          refine rg_put (d := 30) (v := .d (.fl (.bool true))) rfl (og rfl (op_move rfl rfl rfl)) ?_
          refine rg_put (d := 31) (v := .d (.fl (.int .u8 (((bt s k).toNat : Int))))) rfl (oy rfl rfl rfl rfl (op_move rfl rfl rfl)) ?_
          refine rg_put (d := 32) (v := .d (.fl (.bool ((decide (((bt s k).toNat : Int) < 48)))))) rfl (oy rfl rfl rfl rfl (op_bin rfl rfl rfl (b_lss _ _ _ _) rfl)) ?_
          refine rg_put (d := 33) (v := .d (.fl (.bool ((decide (((bt s k).toNat : Int) < 48)))))) rfl (oy rfl rfl rfl rfl (op_move rfl rfl rfl)) ?_
          rcases fot ((decide (((bt s k).toNat : Int) < 48))) with h20 | h20
          · skip
            have h21 := f_dec h20
            refine rg_put (d := 34) (v := .d (.fl (.int .u8 (((bt s k).toNat : Int))))) rfl (oy rfl rfl rfl h20 (op_move rfl rfl rfl)) ?_
            refine rg_put (d := 35) (v := .d (.fl (.bool ((decide (57 < ((bt s k).toNat : Int))))))) rfl (oy rfl rfl rfl h20 (op_bin rfl rfl rfl (b_gtr _ _ _ _) rfl)) ?_
            refine rg_put (d := 36) (v := .d (.fl (.bool ((decide (57 < ((bt s k).toNat : Int))))))) rfl (oy rfl rfl rfl rfl (op_pick rfl rfl (by rw [h20]; rfl) rfl)) ?_
            refine rg_put (d := 37) (v := .d (.fl (.bool ((decide (57 < ((bt s k).toNat : Int))))))) rfl (og rfl (op_pick rfl rfl rfl rfl)) ?_
            refine rg_done rfl ?_
            refine a_cond rfl (fun h22 => ?_) (fun h22 => ?_)
            · skip
              have h23 := t_dec h22
              refine a_rseq ?_
              refine rg_put (d := 2) (v := .d (.fl (.string (⟨#[]⟩)))) rfl (og rfl (op_assign rfl rfl rfl)) ?_
              refine rg_put (d := 3) (v := .d (.fl (.int .i64 19))) rfl (og rfl (op_assign rfl rfl rfl)) ?_
              refine rg_done rfl ?_
              refine a_ret ?_
              show ∃ ds, ResL _ _ _ ds ∧ RV.of ds = _
              refine ⟨[.fl (.string (⟨#[]⟩)), .fl (.int .i64 19)], (.cons (.tmp rfl (.d _)) (.cons (.tmp rfl (.d _)) .nil)), ?_⟩
              exfalso
              omega
            · skip
              have h24 := f_dec h22
              refine a_skip ?_
              show A _ _ _ _ _ _ _
              refine a_region ?_
              refine rg_put (d := 38) (v := .d (.fl (.int .i64 (((k : Int) + 1))))) rfl (og rfl (op_bin rfl rfl rfl (fun x y w => b_add64 _ _ _ x y w (by omega)) rfl)) ?_
              refine rg_put (d := 18) (v := .d (.fl (.int .i64 (((k : Int) + 1))))) rfl (og rfl (op_move rfl rfl rfl)) ?_
              refine rg_done rfl ?_
              show ∃ i, _ ∧ _ ∧ Imp _ _ _ _ _
              refine ⟨k + 1, (by omega), by omega, imp_forget rfl ⟨rfl, rfl, rfl, (by first | rfl | exact ci (by omega) | exact ci (by simp) | exact cd (by simp) | simp), trivial⟩ trivial⟩
          · skip
            have h25 := t_dec h20
            refine rg_put (d := 34) (v := .d (.fl undef)) rfl (on rfl rfl rfl h20) ?_
            refine rg_put (d := 35) (v := .d (.fl undef)) rfl (on rfl rfl rfl h20) ?_
            refine rg_put (d := 36) (v := .d (.fl (.bool true))) rfl (oy rfl rfl rfl rfl (op_pick rfl rfl (by rw [h20]; rfl) rfl)) ?_
            refine rg_put (d := 37) (v := .d (.fl (.bool true))) rfl (og rfl (op_pick rfl rfl rfl rfl)) ?_
            refine rg_done rfl ?_
            refine a_condK rfl rfl ?_
            refine a_rseq ?_
            refine rg_put (d := 2) (v := .d (.fl (.string (⟨#[]⟩)))) rfl (og rfl (op_assign rfl rfl rfl)) ?_
            refine rg_put (d := 3) (v := .d (.fl (.int .i64 19))) rfl (og rfl (op_assign rfl rfl rfl)) ?_
            refine rg_done rfl ?_
            refine a_ret ?_
            show ∃ ds, ResL _ _ _ ds ∧ RV.of ds = _
            refine ⟨[.fl (.string (⟨#[]⟩)), .fl (.int .i64 19)], (.cons (.tmp rfl (.d _)) (.cons (.tmp rfl (.d _)) .nil)), ?_⟩
            exfalso
            omega
      · skip
        have h26 := f_dec h6
        refine a_exit ?_
        show A _ _ _ _ _ _ _
        refine a_rseq ?_
        refine rg_put (d := 39) (v := .d (.fl (.string s))) rfl (og rfl (op_move rfl rfl rfl)) ?_
        refine rg_put (d := 2) (v := .d (.fl (.string s))) rfl (og rfl (op_assign rfl rfl rfl)) ?_
        refine rg_put (d := 3) (v := .d (.fl (.int .i64 0))) rfl (og rfl (op_assign rfl rfl rfl)) ?_
        refine rg_done rfl ?_
        refine a_ret ?_
        show ∃ ds, ResL _ _ _ ds ∧ RV.of ds = _
        refine ⟨[.fl (.string s), .fl (.int .i64 0)], (.cons (.tmp rfl (.d _)) (.cons (.tmp rfl (.d _)) .nil)), ?_⟩
        rfl
  · skip
    have h27 := t_dec h1
    refine rg_put (d := 12) (v := .d (.fl undef)) rfl (on rfl rfl rfl h1) ?_
    refine rg_put (d := 13) (v := .d (.fl undef)) rfl (on rfl rfl rfl h1) ?_
    refine rg_put (d := 14) (v := .d (.fl undef)) rfl (on rfl rfl rfl h1) ?_
    refine rg_put (d := 15) (v := .d (.fl (.bool true))) rfl (og rfl (op_pick rfl rfl (by rw [h1]; rfl) rfl)) ?_
    refine rg_done rfl ?_
    refine a_condK rfl rfl ?_
    refine a_rseq ?_
    refine rg_put (d := 2) (v := .d (.fl (.string (⟨#[]⟩)))) rfl (og rfl (op_assign rfl rfl rfl)) ?_
    refine rg_put (d := 3) (v := .d (.fl (.int .i64 19))) rfl (og rfl (op_assign rfl rfl rfl)) ?_
    refine rg_done rfl ?_
    refine a_ret ?_
    show ∃ ds, ResL _ _ _ ds ∧ RV.of ds = _
    refine ⟨[.fl (.string (⟨#[]⟩)), .fl (.int .i64 19)], (.cons (.tmp rfl (.d _)) (.cons (.tmp rfl (.d _)) .nil)), ?_⟩
    exfalso
    omega
set_option maxHeartbeats 4000000 in
set_option maxRecDepth 100000 in
theorem veh28 (s : ByteArray) (hn : Ctr Tryd.prog 23 [.fl (.string s)] (.tu [.fl (.string s), .fl (.int .i64 0)])) : Ctr Tryd.prog 15 [.fl (.string s)] (.d (.fl (.bool true))) := by
  refine ctr (n := 22) (rs := #[.tmp 2]) (L := [(0, .d (.fl (.string s)))]) Tryd.func15 rfl rfl rfl rfl rfl (fun w0 U0 => ?_)
  refine a_rseq ?_
  refine rg_put (d := 2) (v := .d (.fl (.bool false))) rfl (og rfl (op_assign rfl rfl rfl)) ?_
  refine rg_done rfl ?_
  refine a_rseq ?_
  refine rg_put (d := 6) (v := .d (.fl (.string s))) rfl (og rfl (op_move rfl rfl rfl)) ?_
  refine rg_put (d := 7) (v := .tu [.fl (.string s), .fl (.int .i64 0)]) rfl (og rfl (op_call rfl Tryd.func23 nm23 rfl (.cons rfl (.d _) .nil) hn rfl)) ?_
  refine rg_put (d := 5) (v := .tu [.fl (.string s), .fl (.int .i64 0)]) rfl (og rfl (op_move rfl rfl rfl)) ?_
  refine rg_put (d := 8) (v := .d (.fl (.string s))) rfl (og rfl (op_extract rfl rfl rfl rfl)) ?_
  refine rg_put (d := 9) (v := .d (.fl (.int .i64 0))) rfl (og rfl (op_extract rfl rfl rfl rfl)) ?_
  refine rg_put (d := 3) (v := .d (.fl (.string s))) rfl (og rfl (op_assign rfl rfl rfl)) ?_
  refine rg_put (d := 4) (v := .d (.fl (.int .i64 0))) rfl (og rfl (op_assign rfl rfl rfl)) ?_
  refine rg_done rfl ?_
  refine a_rseq ?_
  refine rg_put (d := 10) (v := .d (.fl (.int .i64 0))) rfl (og rfl (op_move rfl rfl rfl)) ?_
  refine rg_put (d := 11) (v := .d (.fl (.bool (0 == 0)))) rfl (og rfl (op_bin rfl rfl rfl (b_eql _ _ _ _) rfl)) ?_
  refine rg_put (d := 12) (v := .d (.fl (.bool (0 == 0)))) rfl (og rfl (op_move rfl rfl rfl)) ?_
  refine rg_put (d := 13) (v := .d (.fl (.string s))) rfl (oy rfl rfl rfl (eq_self_b _) (op_move rfl rfl rfl)) ?_
  refine rg_put (d := 14) (v := .d (.fl (.string s))) rfl (oy rfl rfl rfl (eq_self_b _) (op_move rfl rfl rfl)) ?_
  refine rg_put (d := 15) (v := .d (.fl (.bool (sEq s s)))) rfl (oy rfl rfl rfl (eq_self_b _) (op_bin rfl rfl rfl (b_seq _ _ _) rfl)) ?_
  refine rg_put (d := 16) (v := .d (.fl (.bool (sEq s s)))) rfl (og rfl (op_pick rfl rfl (by rw [(eq_self_b _)]; rfl) rfl)) ?_
  refine rg_put (d := 17) (v := .d (.fl (.bool (sEq s s)))) rfl (og rfl (op_move rfl rfl rfl)) ?_
  refine rg_put (d := 18) (v := .d (.fl undef)) rfl (on rfl rfl rfl (eq_self_s _)) ?_
  refine rg_put (d := 19) (v := .d (.fl undef)) rfl (on rfl rfl rfl (eq_self_s _)) ?_
  refine rg_put (d := 20) (v := .d (.fl undef)) rfl (on rfl rfl rfl (eq_self_s _)) ?_
  refine rg_put (d := 21) (v := .d (.fl (.bool true))) rfl (og rfl (op_pick rfl rfl (by rw [(eq_self_s _)]; rfl) rfl)) ?_
  refine rg_put (d := 2) (v := .d (.fl (.bool true))) rfl (og rfl (op_assign rfl rfl rfl)) ?_
  refine rg_done rfl ?_
  refine a_ret ?_
  show ∃ ds, ResL _ _ _ ds ∧ RV.of ds = _
  refine ⟨[.fl (.bool true)], (.cons (.tmp rfl (.d _)) .nil), ?_⟩
  rfl
set_option maxHeartbeats 4000000 in
set_option maxRecDepth 100000 in
theorem new14 (id plate key : ByteArray) (cents day : Int) (hv : Ctr Tryd.prog 15 [.fl (.string plate)] (.d (.fl (.bool true)))) : Ctr Tryd.prog 6 [.fl (.string id), .fl (.string plate), .fl (.string key), .fl (.int .i64 cents), .fl (.int .i64 day)] (.tu [.ag (eCs (newS id plate key cents day).1), .fl (.int .i64 (newS id plate key cents day).2)]) := by
  refine ctr (n := 47) (rs := #[.cell 10 32, .tmp 11]) (L := [(0, .d (.fl (.string id))), (1, .d (.fl (.string plate))), (2, .d (.fl (.string key))), (3, .d (.fl (.int .i64 cents))), (4, .d (.fl (.int .i64 day)))]) Tryd.func6 rfl rfl rfl rfl rfl (fun w0 U0 => ?_)
  refine a_rseq ?_
  refine rg_nam (d := 10) (v := .pt 101 0) (m := 101) (nw := [(101, .bx 32 ([.fl (.string (⟨#[]⟩)), .fl (.string (⟨#[]⟩)), .fl (.string (⟨#[]⟩)), .fl (.int .i64 0), .fl (.int .i64 0), .fl (.int .i64 0), .fl (.int .i64 0), .fl (.int .i64 0), .fl (.int .i64 0), .fl (.int .i64 0), .fl (.int .i64 0), .fl (.int .i64 0)]))]) rfl (og rfl (of_eff (s_alloc 101 rfl ti32 (by kernel_rfl) rfl) rfl)) rfl ?_
  refine rg_put (d := 11) (v := .d (.fl (.int .i64 0))) rfl (og rfl (op_assign rfl rfl rfl)) ?_
  refine rg_done rfl ?_
  refine a_seq ?_
  refine a_block ?_
  refine a_rseq ?_
  refine rg_put (d := 13) (v := .d (.fl (.string id))) rfl (og rfl (op_move rfl rfl rfl)) ?_
  refine rg_put (d := 14) (v := .d (.fl (.bool (isF id)))) rfl (og rfl (op_call rfl Tryd.func14 nm14 rfl (.cons rfl (.d _) .nil) (isF27 id) rfl)) ?_
  refine rg_put (d := 15) (v := .d (.fl (.bool ((!(isF id)))))) rfl (og rfl (op_un rfl rfl (u_not _) rfl)) ?_
  refine rg_put (d := 12) (v := .d (.fl (.bool ((!(isF id)))))) rfl (og rfl (op_assign rfl rfl rfl)) ?_
  refine rg_done rfl ?_
  refine a_cond rfl (fun h1 => ?_) (fun h1 => ?_)
  · skip
    have h2 := t_not h1
    refine a_rseq ?_
    refine rg_put (d := 16) (v := .d (.ag (eCs ((Cs.mk (⟨#[]⟩) (⟨#[]⟩) (⟨#[]⟩) 0 0 0 0 0 0 (Ap.mk 0 0 0)))))) rfl (og rfl (of_eff (op_build rfl Tryd.underlying32 ti32 rfl (by kernel_rfl) (by kernel_rfl) (pl := #[(0, 1), (1, 1), (2, 1), (3, 1), (4, 1), (5, 1), (6, 1), (7, 1), (8, 1), (9, 3)]) (by kernel_rfl) .nil rfl) rfl)) ?_
    refine rg_sto (nw := [(101, .bx 32 ((eCs ((Cs.mk (⟨#[]⟩) (⟨#[]⟩) (⟨#[]⟩) 0 0 0 0 0 0 (Ap.mk 0 0 0))))))]) rfl (og rfl (of_eff (s_store rfl rfl ti32 rfl rfl rfl rfl rfl rfl) rfl)) ?_
    refine rg_put (d := 11) (v := .d (.fl (.int .i64 5))) rfl (og rfl (op_assign rfl rfl rfl)) ?_
    refine rg_done rfl ?_
    refine a_ret ?_
    show ∃ ds, ResL _ _ _ ds ∧ RV.of ds = _
    refine ⟨[.ag [.fl (.string (⟨#[]⟩)), .fl (.string (⟨#[]⟩)), .fl (.string (⟨#[]⟩)), .fl (.int .i64 (0)), .fl (.int .i64 (0)), .fl (.int .i64 (0)), .fl (.int .i64 (0)), .fl (.int .i64 (0)), .fl (.int .i64 (0)), .fl (.int .i64 (0)), .fl (.int .i64 (0)), .fl (.int .i64 (0))], .fl (.int .i64 5)], (.cons (.cellT rfl rfl Tryd.underlying32 rfl ti32 rfl (Cv.ag (xs := [.fl (.string (⟨#[]⟩)), .fl (.string (⟨#[]⟩)), .fl (.string (⟨#[]⟩)), .fl (.int .i64 (0)), .fl (.int .i64 (0)), .fl (.int .i64 (0)), .fl (.int .i64 (0)), .fl (.int .i64 (0)), .fl (.int .i64 (0)), .fl (.int .i64 (0)), .fl (.int .i64 (0)), .fl (.int .i64 (0))]) (ys := [.fl (.string (⟨#[]⟩)), .fl (.string (⟨#[]⟩)), .fl (.string (⟨#[]⟩)), .fl (.int .i64 (0)), .fl (.int .i64 (0)), .fl (.int .i64 (0)), .fl (.int .i64 (0)), .fl (.int .i64 (0)), .fl (.int .i64 (0)), .fl (.int .i64 (0)), .fl (.int .i64 (0)), .fl (.int .i64 (0))]) ⟨Cv.refl _, Cv.refl _, Cv.refl _, Cv.refl _, Cv.refl _, Cv.refl _, Cv.refl _, Cv.refl _, Cv.refl _, Cv.refl _, Cv.refl _, Cv.refl _, trivial⟩)) (.cons (.tmp rfl (.d _)) .nil)), ?_⟩
    have hu : newS id plate key cents day = (z0, 5) := by
      unfold newS; simp only [h1, h2]; rfl
    rw [hu]; rfl
  · skip
    have h3 := f_not h1
    refine a_rseq ?_
    refine rg_put (d := 18) (v := .d (.fl (.string plate))) rfl (og rfl (op_move rfl rfl rfl)) ?_
    refine rg_put (d := 19) (v := .d (.fl (.bool true))) rfl (og rfl (op_call rfl Tryd.func15 nm15 rfl (.cons rfl (.d _) .nil) hv rfl)) ?_
    refine rg_put (d := 20) (v := .d (.fl (.bool (!true)))) rfl (og rfl (op_un rfl rfl (u_not _) rfl)) ?_
    refine rg_put (d := 17) (v := .d (.fl (.bool (!true)))) rfl (og rfl (op_assign rfl rfl rfl)) ?_
    refine rg_done rfl ?_
    refine a_condF rfl (not_f rfl) ?_
    refine a_rseq ?_
    refine rg_put (d := 23) (v := .d (.fl (.string key))) rfl (og rfl (op_move rfl rfl rfl)) ?_
    refine rg_put (d := 24) (v := .d (.fl (.bool (isF key)))) rfl (og rfl (op_call rfl Tryd.func14 nm14 rfl (.cons rfl (.d _) .nil) (isF27 key) rfl)) ?_
    refine rg_put (d := 25) (v := .d (.fl (.bool ((!(isF key)))))) rfl (og rfl (op_un rfl rfl (u_not _) rfl)) ?_
    refine rg_put (d := 22) (v := .d (.fl (.bool ((!(isF key)))))) rfl (og rfl (op_assign rfl rfl rfl)) ?_
    refine rg_done rfl ?_
    refine a_cond rfl (fun h4 => ?_) (fun h4 => ?_)
    · skip
      have h5 := t_not h4
      refine a_rseq ?_
      refine rg_put (d := 26) (v := .d (.ag (eCs ((Cs.mk (⟨#[]⟩) (⟨#[]⟩) (⟨#[]⟩) 0 0 0 0 0 0 (Ap.mk 0 0 0)))))) rfl (og rfl (of_eff (op_build rfl Tryd.underlying32 ti32 rfl (by kernel_rfl) (by kernel_rfl) (pl := #[(0, 1), (1, 1), (2, 1), (3, 1), (4, 1), (5, 1), (6, 1), (7, 1), (8, 1), (9, 3)]) (by kernel_rfl) .nil rfl) rfl)) ?_
      refine rg_sto (nw := [(101, .bx 32 ((eCs ((Cs.mk (⟨#[]⟩) (⟨#[]⟩) (⟨#[]⟩) 0 0 0 0 0 0 (Ap.mk 0 0 0))))))]) rfl (og rfl (of_eff (s_store rfl rfl ti32 rfl rfl rfl rfl rfl rfl) rfl)) ?_
      refine rg_put (d := 11) (v := .d (.fl (.int .i64 5))) rfl (og rfl (op_assign rfl rfl rfl)) ?_
      refine rg_done rfl ?_
      refine a_ret ?_
      show ∃ ds, ResL _ _ _ ds ∧ RV.of ds = _
      refine ⟨[.ag [.fl (.string (⟨#[]⟩)), .fl (.string (⟨#[]⟩)), .fl (.string (⟨#[]⟩)), .fl (.int .i64 (0)), .fl (.int .i64 (0)), .fl (.int .i64 (0)), .fl (.int .i64 (0)), .fl (.int .i64 (0)), .fl (.int .i64 (0)), .fl (.int .i64 (0)), .fl (.int .i64 (0)), .fl (.int .i64 (0))], .fl (.int .i64 5)], (.cons (.cellT rfl rfl Tryd.underlying32 rfl ti32 rfl (Cv.ag (xs := [.fl (.string (⟨#[]⟩)), .fl (.string (⟨#[]⟩)), .fl (.string (⟨#[]⟩)), .fl (.int .i64 (0)), .fl (.int .i64 (0)), .fl (.int .i64 (0)), .fl (.int .i64 (0)), .fl (.int .i64 (0)), .fl (.int .i64 (0)), .fl (.int .i64 (0)), .fl (.int .i64 (0)), .fl (.int .i64 (0))]) (ys := [.fl (.string (⟨#[]⟩)), .fl (.string (⟨#[]⟩)), .fl (.string (⟨#[]⟩)), .fl (.int .i64 (0)), .fl (.int .i64 (0)), .fl (.int .i64 (0)), .fl (.int .i64 (0)), .fl (.int .i64 (0)), .fl (.int .i64 (0)), .fl (.int .i64 (0)), .fl (.int .i64 (0)), .fl (.int .i64 (0))]) ⟨Cv.refl _, Cv.refl _, Cv.refl _, Cv.refl _, Cv.refl _, Cv.refl _, Cv.refl _, Cv.refl _, Cv.refl _, Cv.refl _, Cv.refl _, Cv.refl _, trivial⟩)) (.cons (.tmp rfl (.d _)) .nil)), ?_⟩
      have hu : newS id plate key cents day = (z0, 5) := by
        unfold newS; simp only [h1, h3, h4, h5]; rfl
      rw [hu]; rfl
    · skip
      have h6 := f_not h4
      refine a_rseq ?_
      refine rg_put (d := 28) (v := .d (.fl (.int .i64 cents))) rfl (og rfl (op_move rfl rfl rfl)) ?_
      refine rg_put (d := 29) (v := .d (.fl (.bool ((decide (cents < 1)))))) rfl (og rfl (op_bin rfl rfl rfl (b_lss _ _ _ _) rfl)) ?_
      refine rg_put (d := 30) (v := .d (.fl (.bool ((decide (cents < 1)))))) rfl (og rfl (op_move rfl rfl rfl)) ?_
      rcases fot ((decide (cents < 1))) with h7 | h7
      · skip
        have h8 := f_dec h7
        refine rg_put (d := 31) (v := .d (.fl (.int .i64 cents))) rfl (oy rfl rfl rfl h7 (op_move rfl rfl rfl)) ?_
        refine rg_put (d := 32) (v := .d (.fl (.bool ((decide (1125899906842624 < cents)))))) rfl (oy rfl rfl rfl h7 (op_bin rfl rfl rfl (b_gtr _ _ _ _) rfl)) ?_
        refine rg_put (d := 33) (v := .d (.fl (.bool ((decide (1125899906842624 < cents)))))) rfl (og rfl (op_pick rfl rfl (by rw [h7]; rfl) rfl)) ?_
        refine rg_put (d := 27) (v := .d (.fl (.bool ((decide (1125899906842624 < cents)))))) rfl (og rfl (op_assign rfl rfl rfl)) ?_
        refine rg_done rfl ?_
        refine a_cond rfl (fun h9 => ?_) (fun h9 => ?_)
        · skip
          have h10 := t_dec h9
          refine a_rseq ?_
          refine rg_put (d := 34) (v := .d (.ag (eCs ((Cs.mk (⟨#[]⟩) (⟨#[]⟩) (⟨#[]⟩) 0 0 0 0 0 0 (Ap.mk 0 0 0)))))) rfl (og rfl (of_eff (op_build rfl Tryd.underlying32 ti32 rfl (by kernel_rfl) (by kernel_rfl) (pl := #[(0, 1), (1, 1), (2, 1), (3, 1), (4, 1), (5, 1), (6, 1), (7, 1), (8, 1), (9, 3)]) (by kernel_rfl) .nil rfl) rfl)) ?_
          refine rg_sto (nw := [(101, .bx 32 ((eCs ((Cs.mk (⟨#[]⟩) (⟨#[]⟩) (⟨#[]⟩) 0 0 0 0 0 0 (Ap.mk 0 0 0))))))]) rfl (og rfl (of_eff (s_store rfl rfl ti32 rfl rfl rfl rfl rfl rfl) rfl)) ?_
          refine rg_put (d := 11) (v := .d (.fl (.int .i64 13))) rfl (og rfl (op_assign rfl rfl rfl)) ?_
          refine rg_done rfl ?_
          refine a_ret ?_
          show ∃ ds, ResL _ _ _ ds ∧ RV.of ds = _
          refine ⟨[.ag [.fl (.string (⟨#[]⟩)), .fl (.string (⟨#[]⟩)), .fl (.string (⟨#[]⟩)), .fl (.int .i64 (0)), .fl (.int .i64 (0)), .fl (.int .i64 (0)), .fl (.int .i64 (0)), .fl (.int .i64 (0)), .fl (.int .i64 (0)), .fl (.int .i64 (0)), .fl (.int .i64 (0)), .fl (.int .i64 (0))], .fl (.int .i64 13)], (.cons (.cellT rfl rfl Tryd.underlying32 rfl ti32 rfl (Cv.ag (xs := [.fl (.string (⟨#[]⟩)), .fl (.string (⟨#[]⟩)), .fl (.string (⟨#[]⟩)), .fl (.int .i64 (0)), .fl (.int .i64 (0)), .fl (.int .i64 (0)), .fl (.int .i64 (0)), .fl (.int .i64 (0)), .fl (.int .i64 (0)), .fl (.int .i64 (0)), .fl (.int .i64 (0)), .fl (.int .i64 (0))]) (ys := [.fl (.string (⟨#[]⟩)), .fl (.string (⟨#[]⟩)), .fl (.string (⟨#[]⟩)), .fl (.int .i64 (0)), .fl (.int .i64 (0)), .fl (.int .i64 (0)), .fl (.int .i64 (0)), .fl (.int .i64 (0)), .fl (.int .i64 (0)), .fl (.int .i64 (0)), .fl (.int .i64 (0)), .fl (.int .i64 (0))]) ⟨Cv.refl _, Cv.refl _, Cv.refl _, Cv.refl _, Cv.refl _, Cv.refl _, Cv.refl _, Cv.refl _, Cv.refl _, Cv.refl _, Cv.refl _, Cv.refl _, trivial⟩)) (.cons (.tmp rfl (.d _)) .nil)), ?_⟩
          have hu : newS id plate key cents day = (z0, 13) := by
            unfold newS; simp only [h1, h3, h4, h6, h7, h9]; rfl
          rw [hu]; rfl
        · skip
          have h11 := f_dec h9
          refine a_rseq ?_
          refine rg_put (d := 36) (v := .d (.fl (.int .i64 day))) rfl (og rfl (op_move rfl rfl rfl)) ?_
          refine rg_put (d := 37) (v := .d (.fl (.bool (isD day)))) rfl (og rfl (op_call rfl Tryd.func16 nm16 rfl (.cons rfl (.d _) .nil) (isD29 day) rfl)) ?_
          refine rg_put (d := 38) (v := .d (.fl (.bool ((!(isD day)))))) rfl (og rfl (op_un rfl rfl (u_not _) rfl)) ?_
          refine rg_put (d := 35) (v := .d (.fl (.bool ((!(isD day)))))) rfl (og rfl (op_assign rfl rfl rfl)) ?_
          refine rg_done rfl ?_
          refine a_cond rfl (fun h12 => ?_) (fun h12 => ?_)
          · skip
            have h13 := t_not h12
            refine a_rseq ?_
            refine rg_put (d := 39) (v := .d (.ag (eCs ((Cs.mk (⟨#[]⟩) (⟨#[]⟩) (⟨#[]⟩) 0 0 0 0 0 0 (Ap.mk 0 0 0)))))) rfl (og rfl (of_eff (op_build rfl Tryd.underlying32 ti32 rfl (by kernel_rfl) (by kernel_rfl) (pl := #[(0, 1), (1, 1), (2, 1), (3, 1), (4, 1), (5, 1), (6, 1), (7, 1), (8, 1), (9, 3)]) (by kernel_rfl) .nil rfl) rfl)) ?_
            refine rg_sto (nw := [(101, .bx 32 ((eCs ((Cs.mk (⟨#[]⟩) (⟨#[]⟩) (⟨#[]⟩) 0 0 0 0 0 0 (Ap.mk 0 0 0))))))]) rfl (og rfl (of_eff (s_store rfl rfl ti32 rfl rfl rfl rfl rfl rfl) rfl)) ?_
            refine rg_put (d := 11) (v := .d (.fl (.int .i64 12))) rfl (og rfl (op_assign rfl rfl rfl)) ?_
            refine rg_done rfl ?_
            refine a_ret ?_
            show ∃ ds, ResL _ _ _ ds ∧ RV.of ds = _
            refine ⟨[.ag [.fl (.string (⟨#[]⟩)), .fl (.string (⟨#[]⟩)), .fl (.string (⟨#[]⟩)), .fl (.int .i64 (0)), .fl (.int .i64 (0)), .fl (.int .i64 (0)), .fl (.int .i64 (0)), .fl (.int .i64 (0)), .fl (.int .i64 (0)), .fl (.int .i64 (0)), .fl (.int .i64 (0)), .fl (.int .i64 (0))], .fl (.int .i64 12)], (.cons (.cellT rfl rfl Tryd.underlying32 rfl ti32 rfl (Cv.ag (xs := [.fl (.string (⟨#[]⟩)), .fl (.string (⟨#[]⟩)), .fl (.string (⟨#[]⟩)), .fl (.int .i64 (0)), .fl (.int .i64 (0)), .fl (.int .i64 (0)), .fl (.int .i64 (0)), .fl (.int .i64 (0)), .fl (.int .i64 (0)), .fl (.int .i64 (0)), .fl (.int .i64 (0)), .fl (.int .i64 (0))]) (ys := [.fl (.string (⟨#[]⟩)), .fl (.string (⟨#[]⟩)), .fl (.string (⟨#[]⟩)), .fl (.int .i64 (0)), .fl (.int .i64 (0)), .fl (.int .i64 (0)), .fl (.int .i64 (0)), .fl (.int .i64 (0)), .fl (.int .i64 (0)), .fl (.int .i64 (0)), .fl (.int .i64 (0)), .fl (.int .i64 (0))]) ⟨Cv.refl _, Cv.refl _, Cv.refl _, Cv.refl _, Cv.refl _, Cv.refl _, Cv.refl _, Cv.refl _, Cv.refl _, Cv.refl _, Cv.refl _, Cv.refl _, trivial⟩)) (.cons (.tmp rfl (.d _)) .nil)), ?_⟩
            have hu : newS id plate key cents day = (z0, 12) := by
              unfold newS; simp only [h1, h3, h4, h6, h7, h9, h12, h13]; rfl
            rw [hu]; rfl
          · skip
            have h14 := f_not h12
            refine a_skip ?_
            show A _ _ _ _ _ _ _
            refine a_rseq ?_
            refine rg_put (d := 40) (v := .d (.fl (.string id))) rfl (og rfl (op_move rfl rfl rfl)) ?_
            refine rg_put (d := 41) (v := .d (.fl (.string plate))) rfl (og rfl (op_move rfl rfl rfl)) ?_
            refine rg_put (d := 42) (v := .d (.fl (.string key))) rfl (og rfl (op_move rfl rfl rfl)) ?_
            refine rg_put (d := 43) (v := .d (.fl (.int .i64 day))) rfl (og rfl (op_move rfl rfl rfl)) ?_
            refine rg_put (d := 44) (v := .d (.fl (.int .i64 day))) rfl (og rfl (op_move rfl rfl rfl)) ?_
            refine rg_put (d := 45) (v := .d (.fl (.int .i64 cents))) rfl (og rfl (op_move rfl rfl rfl)) ?_
            refine rg_put (d := 46) (v := .d (.ag (eCs ((Cs.mk id plate key day day 1 cents 0 0 (Ap.mk 0 0 0)))))) rfl (og rfl (of_eff (op_build rfl Tryd.underlying32 ti32 rfl (by kernel_rfl) (by kernel_rfl) (pl := #[(0, 1), (1, 1), (2, 1), (3, 1), (4, 1), (5, 1), (6, 1), (7, 1), (8, 1), (9, 3)]) (by kernel_rfl) (.cons rfl rfl (.d _) rfl rfl rfl (.cons rfl rfl (.d _) rfl rfl rfl (.cons rfl rfl (.d _) rfl rfl rfl (.cons rfl rfl (.d _) rfl rfl rfl (.cons rfl rfl (.d _) rfl rfl rfl (.cons rfl rfl (.d _) rfl rfl rfl (.cons rfl rfl (.d _) rfl rfl rfl .nil))))))) rfl) rfl)) ?_
            refine rg_sto (nw := [(101, .bx 32 ((eCs ((Cs.mk id plate key day day 1 cents 0 0 (Ap.mk 0 0 0))))))]) rfl (og rfl (of_eff (s_store rfl rfl ti32 rfl rfl rfl rfl rfl rfl) rfl)) ?_
            refine rg_put (d := 11) (v := .d (.fl (.int .i64 0))) rfl (og rfl (op_assign rfl rfl rfl)) ?_
            refine rg_done rfl ?_
            refine a_ret ?_
            show ∃ ds, ResL _ _ _ ds ∧ RV.of ds = _
            refine ⟨[.ag [.fl (.string (id)), .fl (.string (plate)), .fl (.string (key)), .fl (.int .i64 (day)), .fl (.int .i64 (day)), .fl (.int .i64 (1)), .fl (.int .i64 (cents)), .fl (.int .i64 (0)), .fl (.int .i64 (0)), .fl (.int .i64 (0)), .fl (.int .i64 (0)), .fl (.int .i64 (0))], .fl (.int .i64 0)], (.cons (.cellT rfl rfl Tryd.underlying32 rfl ti32 rfl (Cv.ag (xs := [.fl (.string (id)), .fl (.string (plate)), .fl (.string (key)), .fl (.int .i64 (day)), .fl (.int .i64 (day)), .fl (.int .i64 (1)), .fl (.int .i64 (cents)), .fl (.int .i64 (0)), .fl (.int .i64 (0)), .fl (.int .i64 (0)), .fl (.int .i64 (0)), .fl (.int .i64 (0))]) (ys := [.fl (.string (id)), .fl (.string (plate)), .fl (.string (key)), .fl (.int .i64 (day)), .fl (.int .i64 (day)), .fl (.int .i64 (1)), .fl (.int .i64 (cents)), .fl (.int .i64 (0)), .fl (.int .i64 (0)), .fl (.int .i64 (0)), .fl (.int .i64 (0)), .fl (.int .i64 (0))]) ⟨Cv.refl _, Cv.refl _, Cv.refl _, Cv.refl _, Cv.refl _, Cv.refl _, Cv.refl _, Cv.refl _, Cv.refl _, Cv.refl _, Cv.refl _, Cv.refl _, trivial⟩)) (.cons (.tmp rfl (.d _)) .nil)), ?_⟩
            have hu : newS id plate key cents day = (Cs.mk id plate key day day 1 cents 0 0 (Ap.mk 0 0 0), 0) := by
              unfold newS; simp only [h1, h3, h4, h6, h7, h9, h12, h14]; rfl
            rw [hu]; rfl
      · skip
        have h15 := t_dec h7
        refine rg_put (d := 31) (v := .d (.fl undef)) rfl (on rfl rfl rfl h7) ?_
        refine rg_put (d := 32) (v := .d (.fl undef)) rfl (on rfl rfl rfl h7) ?_
        refine rg_put (d := 33) (v := .d (.fl (.bool true))) rfl (og rfl (op_pick rfl rfl (by rw [h7]; rfl) rfl)) ?_
        refine rg_put (d := 27) (v := .d (.fl (.bool true))) rfl (og rfl (op_assign rfl rfl rfl)) ?_
        refine rg_done rfl ?_
        refine a_condK rfl rfl ?_
        refine a_rseq ?_
        refine rg_put (d := 34) (v := .d (.ag (eCs ((Cs.mk (⟨#[]⟩) (⟨#[]⟩) (⟨#[]⟩) 0 0 0 0 0 0 (Ap.mk 0 0 0)))))) rfl (og rfl (of_eff (op_build rfl Tryd.underlying32 ti32 rfl (by kernel_rfl) (by kernel_rfl) (pl := #[(0, 1), (1, 1), (2, 1), (3, 1), (4, 1), (5, 1), (6, 1), (7, 1), (8, 1), (9, 3)]) (by kernel_rfl) .nil rfl) rfl)) ?_
        refine rg_sto (nw := [(101, .bx 32 ((eCs ((Cs.mk (⟨#[]⟩) (⟨#[]⟩) (⟨#[]⟩) 0 0 0 0 0 0 (Ap.mk 0 0 0))))))]) rfl (og rfl (of_eff (s_store rfl rfl ti32 rfl rfl rfl rfl rfl rfl) rfl)) ?_
        refine rg_put (d := 11) (v := .d (.fl (.int .i64 13))) rfl (og rfl (op_assign rfl rfl rfl)) ?_
        refine rg_done rfl ?_
        refine a_ret ?_
        show ∃ ds, ResL _ _ _ ds ∧ RV.of ds = _
        refine ⟨[.ag [.fl (.string (⟨#[]⟩)), .fl (.string (⟨#[]⟩)), .fl (.string (⟨#[]⟩)), .fl (.int .i64 (0)), .fl (.int .i64 (0)), .fl (.int .i64 (0)), .fl (.int .i64 (0)), .fl (.int .i64 (0)), .fl (.int .i64 (0)), .fl (.int .i64 (0)), .fl (.int .i64 (0)), .fl (.int .i64 (0))], .fl (.int .i64 13)], (.cons (.cellT rfl rfl Tryd.underlying32 rfl ti32 rfl (Cv.ag (xs := [.fl (.string (⟨#[]⟩)), .fl (.string (⟨#[]⟩)), .fl (.string (⟨#[]⟩)), .fl (.int .i64 (0)), .fl (.int .i64 (0)), .fl (.int .i64 (0)), .fl (.int .i64 (0)), .fl (.int .i64 (0)), .fl (.int .i64 (0)), .fl (.int .i64 (0)), .fl (.int .i64 (0)), .fl (.int .i64 (0))]) (ys := [.fl (.string (⟨#[]⟩)), .fl (.string (⟨#[]⟩)), .fl (.string (⟨#[]⟩)), .fl (.int .i64 (0)), .fl (.int .i64 (0)), .fl (.int .i64 (0)), .fl (.int .i64 (0)), .fl (.int .i64 (0)), .fl (.int .i64 (0)), .fl (.int .i64 (0)), .fl (.int .i64 (0)), .fl (.int .i64 (0))]) ⟨Cv.refl _, Cv.refl _, Cv.refl _, Cv.refl _, Cv.refl _, Cv.refl _, Cv.refl _, Cv.refl _, Cv.refl _, Cv.refl _, Cv.refl _, Cv.refl _, trivial⟩)) (.cons (.tmp rfl (.d _)) .nil)), ?_⟩
        have hu : newS id plate key cents day = (z0, 13) := by
          unfold newS; simp only [h1, h3, h4, h6, h7]; rfl
        rw [hu]; rfl
abbrev AB1 : ByteArray := ⟨#[65, 66, 49]⟩
theorem ab1_0 : Utf8.decode AB1 0 = (65, 1) := by kernel_rfl
theorem ab1_1 : Utf8.decode AB1 1 = (66, 1) := by kernel_rfl
theorem ab1_2 : Utf8.decode AB1 2 = (49, 1) := by kernel_rfl
theorem ab1_dec : ∀ k, k < AB1.size → Utf8.decode AB1 k = ((bt AB1 k).toNat, 1) := by
  intro k hk
  have : k < 3 := hk
  match k, this with
  | 0, _ => exact ab1_0
  | 1, _ => exact ab1_1
  | 2, _ => exact ab1_2
theorem ab1_veh : Ctr Tryd.prog 15 [.fl (.string AB1)] (.d (.fl (.bool true))) := by
  refine veh28 AB1 (normal40 AB1 (map47 AB1 (fun k hk => by rw [ab1_dec k hk]) (fun k hk => ?_) (fun k hk => ?_)) (by decide) (fun k hk => ?_))
  · rw [ab1_dec k hk]
    have : k < 3 := hk
    match k, this with
    | 0, _ => rfl
    | 1, _ => rfl
    | 2, _ => rfl
  · rw [ab1_dec k hk]
    have : k < 3 := hk
    match k, this with
    | 0, _ => exact capital65
    | 1, _ => exact capital66
    | 2, _ => exact capital49
  · have : k < 3 := hk
    match k, this with
    | 0, _ => decide
    | 1, _ => decide
    | 2, _ => decide
end Go.Proofs.YtdafmaocbkmmgaaDoor.Wk
