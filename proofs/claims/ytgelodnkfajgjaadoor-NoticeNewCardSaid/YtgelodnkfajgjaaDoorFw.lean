/- The fields of a line, both sides. No condition. -/
import Derived.Test.YtgelodnkfajgjaaDoorTy
set_option linter.unusedSimpArgs false
set_option linter.unusedVariables false
set_option linter.unusedSimpArgs false
set_option linter.unusedVariables false
namespace Go.Proofs.YtgelodnkfajgjaaDoor.Wk
open Go Go.RowKit Go.Proofs.YtgelodnkfajgjaaDoor.Av
end Go.Proofs.YtgelodnkfajgjaaDoor.Wk
set_option linter.unusedSimpArgs false
set_option linter.unusedVariables false
namespace Go.Proofs.YtgelodnkfajgjaaDoor.Wk
open Go Go.RowKit Go.Proofs.YtgelodnkfajgjaaDoor.Av
end Go.Proofs.YtgelodnkfajgjaaDoor.Wk
set_option linter.unusedSimpArgs false
set_option linter.unusedVariables false
namespace Go.Proofs.YtgelodnkfajgjaaDoor.Wk
open Go Go.RowKit Go.Proofs.YtgelodnkfajgjaaDoor.Av
end Go.Proofs.YtgelodnkfajgjaaDoor.Wk
set_option linter.unusedSimpArgs false
set_option linter.unusedVariables false
namespace Go.Proofs.YtgelodnkfajgjaaDoor.Wk
open Go Go.RowKit Go.Proofs.YtgelodnkfajgjaaDoor.Av
def fF (s : ByteArray) : Nat → Nat
  | 0 => 0
  | k + 1 => if (bt s k).toNat = 32 then k + 1 else fF s k
def fA (s : ByteArray) : Nat → List ByteArray
  | 0 => []
  | k + 1 => if (bt s k).toNat = 32 then fA s k ++ [s.extract (fF s k) k] else fA s k
def fB (s : ByteArray) (k : Nat) : Bool := decide ((bt s k).toNat < 32) || decide (126 < (bt s k).toNat) || (decide ((bt s k).toNat = 32) && decide (fF s k = k))
def flds (s : ByteArray) : List ByteArray × Int :=
  if 512 < s.size then ([], 4) else if s.size = 0 then ([], 0) else if (List.range s.size).any (fB s) = true then ([], 5) else if fF s s.size = s.size then ([], 5) else (fA s s.size ++ [s.extract (fF s s.size) s.size], 0)
theorem fF_le (s : ByteArray) : ∀ k, fF s k ≤ k
  | 0 => Nat.le_refl _
  | k + 1 => by have := fF_le s k; unfold fF; split <;> omega
theorem fA_le (s : ByteArray) : ∀ k, (fA s k).length ≤ k
  | 0 => Nat.le_refl _
  | k + 1 => by have := fA_le s k; unfold fA; split <;> (try simp) <;> omega
theorem f_yes {s : ByteArray} {k : Nat} (h : (bt s k).toNat = 32) : fF s (k + 1) = k + 1 ∧ fA s k ++ [s.extract (fF s k) k] = fA s (k + 1) := by
  constructor
  · show (if _ then _ else _) = _; rw [if_pos h]
  · show _ = (if _ then _ else _); rw [if_pos h]
theorem f_no {s : ByteArray} {k : Nat} (h : (bt s k).toNat ≠ 32) : fF s (k + 1) = fF s k ∧ fA s k = fA s (k + 1) := by
  constructor
  · show (if _ then _ else _) = _; rw [if_neg h]
  · show _ = (if _ then _ else _); rw [if_neg h]
theorem fB_ok {s : ByteArray} {k : Nat} (h1 : 32 ≤ (bt s k).toNat) (h2 : (bt s k).toNat ≤ 126) (h3 : (bt s k).toNat = 32 → fF s k ≠ k) : fB s k = false := by
  unfold fB; simp; omega
theorem fB_bad {s : ByteArray} {k : Nat} (h : (bt s k).toNat < 32 ∨ 126 < (bt s k).toNat ∨ ((bt s k).toNat = 32 ∧ fF s k = k)) : fB s k = true := by
  unfold fB; simp; omega
theorem fl_bad {s : ByteArray} {k : Nat} (h1 : s.size ≤ 512) (hk : k < s.size) (h : fB s k = true) : flds s = ([], 5) := by
  unfold flds
  rw [if_neg (by omega), if_neg (by omega), if_pos]
  rw [List.any_eq_true]; exact ⟨k, by simpa using hk, h⟩
theorem fl_good {s : ByteArray} (h1 : s.size ≤ 512) (h0 : s.size ≠ 0) (h : ∀ q, q < s.size → fB s q = false) : flds s = if fF s s.size = s.size then ([], 5) else (fA s s.size ++ [s.extract (fF s s.size) s.size], 0) := by
  unfold flds
  rw [if_neg (by omega), if_neg h0, if_neg]
  rw [Bool.not_eq_true, List.any_eq_false]
  intro q hq
  rw [h q (by simpa using hq)]; simp
theorem dec_both {s : ByteArray} {k : Nat} (h : k < s.size) : (((Utf8.decode s k).1 : Int) < 128 → ((Utf8.decode s k).1 : Int) = ((bt s k).toNat : Int)) ∧ (128 ≤ ((Utf8.decode s k).1 : Int) → 128 ≤ (bt s k).toNat) := by
  refine ⟨fun h1 => by rw [dec_low h h1], fun h1 => ?_⟩
  rcases Nat.lt_or_ge (bt s k).toNat 128 with h2 | h2
  · have h' : k < s.data.size := by simpa using h
    have hb : (s[k]'h) = bt s k := by
      unfold bt
      simp [List.getD, Array.getElem?_eq_getElem h']
      rfl
    rw [decode_ascii s k h (by rw [hb]; omega), hb] at h1
    simp at h1; omega
  · exact h2
theorem seq0 {s : ByteArray} : sEq s ⟨#[]⟩ = decide (s.size = 0) := by
  unfold sEq
  by_cases h : s.size = 0
  · have : s = ⟨#[]⟩ := by
      cases s; congr 1; exact Array.eq_empty_of_size_eq_zero h
    rw [decide_eq_true this, decide_eq_true h]
  · have : s ≠ ⟨#[]⟩ := fun e => by subst e; exact h rfl
    rw [decide_eq_false this, decide_eq_false h]
def rA (s : ByteArray) (k : Nat) : List ByteArray := if k ≤ s.size then fA s k else fA s s.size ++ [s.extract (fF s s.size) s.size]
def rF (s : ByteArray) (k : Nat) : Nat := if k ≤ s.size then fF s k else s.size + 1
theorem rA_le {s : ByteArray} {k : Nat} (h : k ≤ s.size) : rA s k = fA s k := if_pos h
theorem rF_le {s : ByteArray} {k : Nat} (h : k ≤ s.size) : rF s k = fF s k := if_pos h
theorem rA_end {s : ByteArray} {k : Nat} (h : ¬ k ≤ s.size) : rA s k = fA s s.size ++ [s.extract (fF s s.size) s.size] := if_neg h
set_option maxHeartbeats 4000000 in
set_option maxRecDepth 100000 in
theorem fields51 (s : ByteArray) : Ctr Tryd.prog 55 [.fl (.string s)] (.tu [.sl 1 (List.map rS (flds s).1), .fl (.int .i64 (flds s).2)]) := by
  refine ctr (n := 49) (rs := #[.tmp 2, .tmp 3]) (L := [(0, .d (.fl (.string s)))]) Tryd.func55 rfl rfl rfl rfl rfl (fun w0 U0 => ?_)
  refine a_rseq ?_
  refine rg_put (d := 2) (v := .d (.fl (.slice none 0 0))) rfl (og rfl (op_assign rfl rfl rfl)) ?_
  refine rg_put (d := 3) (v := .d (.fl (.int .i64 0))) rfl (og rfl (op_assign rfl rfl rfl)) ?_
  refine rg_done rfl ?_
  refine a_seq ?_
  refine a_rseq ?_
  refine rg_put (d := 8) (v := .d (.fl (.string s))) rfl (og rfl (op_move rfl rfl rfl)) ?_
  refine rg_put (d := 9) (v := .d (.fl (.int .i64 (s.size : Int)))) rfl (og rfl (op_len_str rfl Tryd.underlying9 rfl rfl)) ?_
  refine rg_put (d := 10) (v := .d (.fl (.bool ((decide (512 < (s.size : Int))))))) rfl (og rfl (op_bin rfl rfl rfl (b_gtr _ _ _ _) rfl)) ?_
  refine rg_done rfl ?_
  refine a_cond rfl (fun h1 => ?_) (fun h1 => ?_)
  · skip
    have h2 := t_dec h1
    refine a_rseq ?_
    refine rg_put (d := 2) (v := .d (.fl (.slice none 0 0))) rfl (og rfl (op_assign rfl rfl rfl)) ?_
    refine rg_put (d := 3) (v := .d (.fl (.int .i64 4))) rfl (og rfl (op_assign rfl rfl rfl)) ?_
    refine rg_done rfl ?_
    refine a_ret ?_
    show ∃ ds, ResL _ _ _ ds ∧ RV.of ds = _
    refine ⟨[.sl 1 (List.map rS []), .fl (.int .i64 4)], (.cons (.tmp rfl (.cv (Cv.nil _))) (.cons (.tmp rfl (.d _)) .nil)), ?_⟩
    have hu : flds s = ([], 4) := by unfold flds; rw [if_pos (by omega)]
    rw [hu]; rfl
  · skip
    have h3 := f_dec h1
    refine a_skip ?_
    show A _ _ _ _ _ _ _
    refine a_seq ?_
    refine a_rseq ?_
    refine rg_put (d := 11) (v := .d (.fl (.string s))) rfl (og rfl (op_move rfl rfl rfl)) ?_
    refine rg_put (d := 12) (v := .d (.fl (.bool ((sEq s (⟨#[]⟩)))))) rfl (og rfl (op_bin rfl rfl rfl (b_seq _ _ _) rfl)) ?_
    refine rg_done rfl ?_
    refine a_cond rfl (fun h4 => ?_) (fun h4 => ?_)
    · skip
      have := (seq0 (s := s)).symm.trans h4
      have := t_dec this
      refine a_rseq ?_
      refine rg_put (d := 2) (v := .d (.fl (.slice none 0 0))) rfl (og rfl (op_assign rfl rfl rfl)) ?_
      refine rg_put (d := 3) (v := .d (.fl (.int .i64 0))) rfl (og rfl (op_assign rfl rfl rfl)) ?_
      refine rg_done rfl ?_
      refine a_ret ?_
      show ∃ ds, ResL _ _ _ ds ∧ RV.of ds = _
      refine ⟨[.sl 1 (List.map rS []), .fl (.int .i64 0)], (.cons (.tmp rfl (.cv (Cv.nil _))) (.cons (.tmp rfl (.d _)) .nil)), ?_⟩
      have hu : flds s = ([], 0) := by unfold flds; rw [if_neg (by omega), if_pos (by omega)]
      rw [hu]; rfl
    · skip
      have := (seq0 (s := s)).symm.trans h4
      have := f_dec this
      refine a_skip ?_
      show A _ _ _ _ _ _ _
      refine a_rseq ?_
      refine rg_put (d := 4) (v := .d (.fl (.slice none 0 0))) rfl (og rfl (op_assign rfl rfl rfl)) ?_
      refine rg_done rfl ?_
      refine a_rseq ?_
      refine rg_put (d := 5) (v := .d (.fl (.int .i64 0))) rfl (og rfl (op_assign rfl rfl rfl)) ?_
      refine rg_done rfl ?_
      refine a_seq ?_
      refine a_rseq ?_
      refine rg_put (d := 13) (v := .d (.fl (.string s))) rfl (og rfl (op_move rfl rfl rfl)) ?_
      refine rg_nam (d := 14) (v := .ow 101) (m := 101) (nw := [(101, .it s 0)]) rfl (og rfl (op_range 101 rfl Tryd.underlying9 rfl rfl)) rfl ?_
      refine rg_done rfl ?_
      refine a_block ?_
      refine a_loop (ι := Nat) (fun k => SS [(0, .d (.fl (.string s))), (10, .d (.fl (.bool ((decide (512 < (s.size : Int))))))), (12, .d (.fl (.bool ((sEq s (⟨#[]⟩)))))), (14, .ow 101), (4, .ow 201), (5, .d (.fl (.int .i64 (fF s k : Int))))] [(101, .it s k), (201, .ow 9 1 (List.map rS (fA s k)))]) (fun k => k ≤ s.size ∧ ∀ q, q < k → fB s q = false) (fun k => s.size - k) 0 (⟨by omega, fun q h => by omega⟩) (Imp.trans (imp_nil 4 201 9 1 rfl rfl) (imp_forget rfl ⟨rfl, rfl, rfl, rfl, (by first | rfl | exact ci (by omega) | exact ci (by simp) | exact cd (by simp) | simp), (by first | rfl | exact ci (by omega) | exact ci (by simp) | exact cd (by simp) | simp), trivial⟩ ⟨(by first | rfl | simp), (by first | rfl | simp), trivial⟩)) (fun k hok => ?_)
      obtain ⟨hk, hq⟩ := hok
      have hF := fF_le s k
      have hA := fA_le s k
      refine a_rseq ?_
      rcases fot ((decide (k < s.size))) with h5 | h5
      · skip
        have h6 := f_dec h5
        refine rg_put (d := 15) (v := .tu [.fl (.bool false)]) rfl (og rfl (op_next_no rfl rfl rfl (f_dec h5) rfl)) ?_
        refine rg_put (d := 16) (v := .d (.fl (.bool false))) rfl (og rfl (op_extract rfl rfl rfl rfl)) ?_
        refine rg_done rfl ?_
        refine a_seq ?_
        refine a_condF rfl rfl ?_
        refine a_exit ?_
        show A _ _ _ _ _ _ _
        refine a_seq ?_
        refine a_rseq ?_
        refine rg_put (d := 39) (v := .d (.fl (.int .i64 (fF s k : Int)))) rfl (og rfl (op_move rfl rfl rfl)) ?_
        refine rg_put (d := 40) (v := .d (.fl (.string s))) rfl (og rfl (op_move rfl rfl rfl)) ?_
        refine rg_put (d := 41) (v := .d (.fl (.int .i64 (s.size : Int)))) rfl (og rfl (op_len_str rfl Tryd.underlying9 rfl rfl)) ?_
        refine rg_put (d := 42) (v := .d (.fl (.bool (((fF s k : Int) == (s.size : Int)))))) rfl (og rfl (op_bin rfl rfl rfl (b_eql _ _ _ _) rfl)) ?_
        refine rg_done rfl ?_
        refine a_cond rfl (fun h7 => ?_) (fun h7 => ?_)
        · skip
          have h8 := t_beq h7
          refine a_rseq ?_
          refine rg_put (d := 2) (v := .d (.fl (.slice none 0 0))) rfl (og rfl (op_assign rfl rfl rfl)) ?_
          refine rg_put (d := 3) (v := .d (.fl (.int .i64 5))) rfl (og rfl (op_assign rfl rfl rfl)) ?_
          refine rg_done rfl ?_
          refine a_ret ?_
          show ∃ ds, ResL _ _ _ ds ∧ RV.of ds = _
          refine ⟨[.sl 1 (List.map rS []), .fl (.int .i64 5)], (.cons (.tmp rfl (.cv (Cv.nil _))) (.cons (.tmp rfl (.d _)) .nil)), ?_⟩
          have hks : k = s.size := by omega
          subst hks
          rw [fl_good (by omega) (by omega) (fun q h => hq q (by omega)), if_pos (by omega)]; rfl
        · skip
          have h9 := f_beq h7
          refine a_skip ?_
          show A _ _ _ _ _ _ _
          refine a_rseq ?_
          refine rg_put (d := 43) (v := .ow 201) rfl (og rfl (op_move rfl rfl rfl)) ?_
          refine rg_put (d := 44) (v := .d (.fl (.string s))) rfl (og rfl (op_move rfl rfl rfl)) ?_
          refine rg_put (d := 45) (v := .d (.fl (.int .i64 (fF s k : Int)))) rfl (og rfl (op_move rfl rfl rfl)) ?_
          refine rg_put (d := 46) (v := .d (.fl (.string ((s.extract (fF s k) s.size))))) rfl (og rfl (op_strslice rfl Tryd.underlying9 rfl (.so (n := fF s k) _ rfl (by omega)) (.no _) (by omega) (by omega) rfl)) ?_
          refine rg_put (d := 47) (v := .d (.sl 1 (List.map rS [(s.extract (fF s k) s.size)]))) rfl (og rfl (of_eff (op_slices rfl Tryd.underlying43 ti9 rfl rfl rfl (by kernel_rfl) (xs := [.fl (.string ((s.extract (fF s k) s.size)))]) rfl rfl (.cons rfl rfl (.d _) rfl rfl rfl .nil) rfl) rfl)) ?_
          refine rg_nam (d := 48) (v := .ow 102) (m := 102) (nw := [(102, .ow 9 1 (List.map rS (((fA s k) ++ [(s.extract (fF s k) s.size)])))), (201, .no)]) rfl (og rfl (s_append 102 rfl Tryd.underlying43 ti9 rfl rfl rfl rfl rfl (.d _) (by simp only [List.length_cons, List.length_nil]; omega) rfl)) rfl ?_
          refine rg_put (d := 2) (v := .ow 102) rfl (og rfl (op_assign rfl rfl rfl)) ?_
          refine rg_put (d := 3) (v := .d (.fl (.int .i64 0))) rfl (og rfl (op_assign rfl rfl rfl)) ?_
          refine rg_done rfl ?_
          refine a_ret ?_
          show ∃ ds, ResL _ _ _ ds ∧ RV.of ds = _
          refine ⟨[.sl 1 (List.map rS (((fA s k) ++ [(s.extract (fF s k) s.size)]))), .fl (.int .i64 0)], (.cons (.tmp rfl (.ow rfl)) (.cons (.tmp rfl (.d _)) .nil)), ?_⟩
          have hks : k = s.size := by omega
          subst hks
          rw [fl_good (by omega) (by omega) (fun q h => hq q (by omega)), if_neg (by omega)]; rfl
      · skip
        have h10 := t_dec h5
        refine rg_upd (d := 15) (v := .tu [.fl (.bool true), .fl (.int .i64 (k : Int)), .fl (.int .i32 (((Utf8.decode s k).1 : Int)))]) (nw := [(101, .it s ((k + (Utf8.decode s k).2)))]) rfl (og rfl (op_next_yes rfl rfl rfl (t_dec h5) rfl)) ?_
        refine rg_put (d := 16) (v := .d (.fl (.bool true))) rfl (og rfl (op_extract rfl rfl rfl rfl)) ?_
        refine rg_done rfl ?_
        refine a_seq ?_
        refine a_condK rfl rfl ?_
        refine a_skip ?_
        show A _ _ _ _ _ _ _
        refine a_block ?_
        refine a_rseq ?_
        obtain ⟨hda, hdb⟩ := dec_both (s := s) (k := k) (by omega)
        refine rg_put (d := 17) (v := .d (.fl (.int .i64 (k : Int)))) rfl (og rfl (op_extract rfl rfl rfl rfl)) ?_
        refine rg_put (d := 18) (v := .d (.fl (.int .i32 (((Utf8.decode s k).1 : Int))))) rfl (og rfl (op_extract rfl rfl rfl rfl)) ?_
        refine rg_put (d := 6) (v := .d (.fl (.int .i64 (k : Int)))) rfl (og rfl (op_assign rfl rfl rfl)) ?_
        refine rg_put (d := 7) (v := .d (.fl (.int .i32 (((Utf8.decode s k).1 : Int))))) rfl (og rfl (op_assign rfl rfl rfl)) ?_
        refine rg_done rfl ?_
        refine a_seq ?_
        refine a_rseq ?_
        refine rg_put (d := 19) (v := .d (.fl (.int .i32 (((Utf8.decode s k).1 : Int))))) rfl (og rfl (op_move rfl rfl rfl)) ?_
        refine rg_put (d := 20) (v := .d (.fl (.bool ((decide (((Utf8.decode s k).1 : Int) < 32)))))) rfl (og rfl (op_bin rfl rfl rfl (b_lss _ _ _ _) rfl)) ?_
        refine rg_put (d := 21) (v := .d (.fl (.bool ((decide (((Utf8.decode s k).1 : Int) < 32)))))) rfl (og rfl (op_move rfl rfl rfl)) ?_
        rcases fot ((decide (((Utf8.decode s k).1 : Int) < 32))) with h11 | h11
        · skip
          have h12 := f_dec h11
          refine rg_put (d := 22) (v := .d (.fl (.int .i32 (((Utf8.decode s k).1 : Int))))) rfl (oy rfl rfl rfl h11 (op_move rfl rfl rfl)) ?_
          refine rg_put (d := 23) (v := .d (.fl (.bool ((decide (126 < ((Utf8.decode s k).1 : Int))))))) rfl (oy rfl rfl rfl h11 (op_bin rfl rfl rfl (b_gtr _ _ _ _) rfl)) ?_
          refine rg_put (d := 24) (v := .d (.fl (.bool ((decide (126 < ((Utf8.decode s k).1 : Int))))))) rfl (og rfl (op_pick rfl rfl (by rw [h11]; rfl) rfl)) ?_
          refine rg_done rfl ?_
          refine a_cond rfl (fun h13 => ?_) (fun h13 => ?_)
          · skip
            have h14 := t_dec h13
            refine a_rseq ?_
            refine rg_put (d := 2) (v := .d (.fl (.slice none 0 0))) rfl (og rfl (op_assign rfl rfl rfl)) ?_
            refine rg_put (d := 3) (v := .d (.fl (.int .i64 5))) rfl (og rfl (op_assign rfl rfl rfl)) ?_
            refine rg_done rfl ?_
            refine a_ret ?_
            show ∃ ds, ResL _ _ _ ds ∧ RV.of ds = _
            refine ⟨[.sl 1 (List.map rS []), .fl (.int .i64 5)], (.cons (.tmp rfl (.cv (Cv.nil _))) (.cons (.tmp rfl (.d _)) .nil)), ?_⟩
            rw [fl_bad (k := k) (by omega) (by omega) (fB_bad (by omega))]; rfl
          · skip
            have h15 := f_dec h13
            refine a_skip ?_
            show A _ _ _ _ _ _ _
            refine a_rseq ?_
            refine rg_put (d := 25) (v := .d (.fl (.int .i32 (((Utf8.decode s k).1 : Int))))) rfl (og rfl (op_move rfl rfl rfl)) ?_
            refine rg_put (d := 26) (v := .d (.fl (.bool ((((Utf8.decode s k).1 : Int) == 32))))) rfl (og rfl (op_bin rfl rfl rfl (b_eql _ _ _ _) rfl)) ?_
            refine rg_done rfl ?_
            refine a_cond rfl (fun h16 => ?_) (fun h16 => ?_)
            · skip
              have h17 := t_beq h16
              refine a_seq ?_
              refine a_rseq ?_
              refine rg_put (d := 27) (v := .d (.fl (.int .i64 (k : Int)))) rfl (og rfl (op_move rfl rfl rfl)) ?_
              refine rg_put (d := 28) (v := .d (.fl (.int .i64 (fF s k : Int)))) rfl (og rfl (op_move rfl rfl rfl)) ?_
              refine rg_put (d := 29) (v := .d (.fl (.bool (((k : Int) == (fF s k : Int)))))) rfl (og rfl (op_bin rfl rfl rfl (b_eql _ _ _ _) rfl)) ?_
              refine rg_done rfl ?_
              refine a_cond rfl (fun h18 => ?_) (fun h18 => ?_)
              · skip
                have h19 := t_beq h18
                refine a_rseq ?_
                refine rg_put (d := 2) (v := .d (.fl (.slice none 0 0))) rfl (og rfl (op_assign rfl rfl rfl)) ?_
                refine rg_put (d := 3) (v := .d (.fl (.int .i64 5))) rfl (og rfl (op_assign rfl rfl rfl)) ?_
                refine rg_done rfl ?_
                refine a_ret ?_
                show ∃ ds, ResL _ _ _ ds ∧ RV.of ds = _
                refine ⟨[.sl 1 (List.map rS []), .fl (.int .i64 5)], (.cons (.tmp rfl (.cv (Cv.nil _))) (.cons (.tmp rfl (.d _)) .nil)), ?_⟩
                rw [fl_bad (k := k) (by omega) (by omega) (fB_bad (by omega))]; rfl
              · skip
                have h20 := f_beq h18
                refine a_skip ?_
                show A _ _ _ _ _ _ _
                refine a_rseq ?_
                refine rg_put (d := 30) (v := .ow 201) rfl (og rfl (op_move rfl rfl rfl)) ?_
                refine rg_put (d := 31) (v := .d (.fl (.string s))) rfl (og rfl (op_move rfl rfl rfl)) ?_
                refine rg_put (d := 32) (v := .d (.fl (.int .i64 (fF s k : Int)))) rfl (og rfl (op_move rfl rfl rfl)) ?_
                refine rg_put (d := 33) (v := .d (.fl (.int .i64 (k : Int)))) rfl (og rfl (op_move rfl rfl rfl)) ?_
                refine rg_put (d := 34) (v := .d (.fl (.string ((s.extract (fF s k) k))))) rfl (og rfl (op_strslice rfl Tryd.underlying9 rfl (.so (n := fF s k) _ rfl (by omega)) (.so (n := k) _ rfl (by omega)) (by omega) (by omega) rfl)) ?_
                refine rg_put (d := 35) (v := .d (.sl 1 (List.map rS [(s.extract (fF s k) k)]))) rfl (og rfl (of_eff (op_slices rfl Tryd.underlying43 ti9 rfl rfl rfl (by kernel_rfl) (xs := [.fl (.string ((s.extract (fF s k) k)))]) rfl rfl (.cons rfl rfl (.d _) rfl rfl rfl .nil) rfl) rfl)) ?_
                refine rg_nam (d := 36) (v := .ow 103) (m := 103) (nw := [(103, .ow 9 1 (List.map rS (((fA s k) ++ [(s.extract (fF s k) k)])))), (201, .no)]) rfl (og rfl (s_append 103 rfl Tryd.underlying43 ti9 rfl rfl rfl rfl rfl (.d _) (by simp only [List.length_cons, List.length_nil]; omega) rfl)) rfl ?_
                refine rg_put (d := 4) (v := .ow 103) rfl (og rfl (op_assign rfl rfl rfl)) ?_
                refine rg_done rfl ?_
                refine a_region ?_
                refine rg_put (d := 37) (v := .d (.fl (.int .i64 (k : Int)))) rfl (og rfl (op_move rfl rfl rfl)) ?_
                refine rg_put (d := 38) (v := .d (.fl (.int .i64 (((k : Int) + 1))))) rfl (og rfl (op_bin rfl rfl rfl (fun x y w => b_add64 _ _ _ x y w (by omega)) rfl)) ?_
                refine rg_put (d := 5) (v := .d (.fl (.int .i64 (((k : Int) + 1))))) rfl (og rfl (op_assign rfl rfl rfl)) ?_
                refine rg_done rfl ?_
                have hd := dec_low (s := s) (k := k) (by omega) (by omega)
                have h32 : (bt s k).toNat = 32 := by omega
                have hfb : fB s k = false := fB_ok (by omega) (by omega) (fun h => by omega)
                obtain ⟨hF1, hA1⟩ := f_yes h32
                show ∃ i, _ ∧ _ ∧ Imp _ _ _ _ _
                refine ⟨k + 1, ⟨by omega, fun q h => by
                  rcases Nat.lt_succ_iff_lt_or_eq.1 h with h | h
                  · exact hq q h
                  · subst h; exact hfb⟩, by omega, imp_ren (fun m => bif Nat.beq m 201 then 103 else m) rfl ⟨rfl, rfl, rfl, rfl, rfl, (ci (by omega)), trivial⟩ ⟨(congrArg (Ob.it s) (by rw [hd])), (congrArg (fun x => Ob.ow 9 1 (List.map rS x)) hA1), trivial⟩⟩
            · skip
              have h21 := f_beq h16
              refine a_skip ?_
              have hd := dec_low (s := s) (k := k) (by omega) (by omega)
              have h32 : (bt s k).toNat ≠ 32 := by omega
              have hfb : fB s k = false := fB_ok (by omega) (by omega) (fun h => by omega)
              obtain ⟨hF1, hA1⟩ := f_no h32
              show ∃ i, _ ∧ _ ∧ Imp _ _ _ _ _
              refine ⟨k + 1, ⟨by omega, fun q h => by
                rcases Nat.lt_succ_iff_lt_or_eq.1 h with h | h
                · exact hq q h
                · subst h; exact hfb⟩, by omega, imp_forget rfl ⟨rfl, rfl, rfl, rfl, rfl, (ci (by omega)), trivial⟩ ⟨(congrArg (Ob.it s) (by rw [hd])), (congrArg (fun x => Ob.ow 9 1 (List.map rS x)) hA1), trivial⟩⟩
        · skip
          have h22 := t_dec h11
          refine rg_put (d := 22) (v := .d (.fl undef)) rfl (on rfl rfl rfl h11) ?_
          refine rg_put (d := 23) (v := .d (.fl undef)) rfl (on rfl rfl rfl h11) ?_
          refine rg_put (d := 24) (v := .d (.fl (.bool true))) rfl (og rfl (op_pick rfl rfl (by rw [h11]; rfl) rfl)) ?_
          refine rg_done rfl ?_
          refine a_condK rfl rfl ?_
          refine a_rseq ?_
          refine rg_put (d := 2) (v := .d (.fl (.slice none 0 0))) rfl (og rfl (op_assign rfl rfl rfl)) ?_
          refine rg_put (d := 3) (v := .d (.fl (.int .i64 5))) rfl (og rfl (op_assign rfl rfl rfl)) ?_
          refine rg_done rfl ?_
          refine a_ret ?_
          show ∃ ds, ResL _ _ _ ds ∧ RV.of ds = _
          refine ⟨[.sl 1 (List.map rS []), .fl (.int .i64 5)], (.cons (.tmp rfl (.cv (Cv.nil _))) (.cons (.tmp rfl (.d _)) .nil)), ?_⟩
          rw [fl_bad (k := k) (by omega) (by omega) (fB_bad (by omega))]; rfl
set_option maxHeartbeats 4000000 in
set_option maxRecDepth 100000 in
theorem fields54 (s : ByteArray) : Ctr Tryd.prog 57 [.fl (.string s)] (.tu [.sl 1 (List.map rS (flds s).1), .fl (.int .i64 (flds s).2)]) := by
  refine ctr (n := 57) (rs := #[.tmp 2, .tmp 3]) (L := [(0, .d (.fl (.string s)))]) Tryd.func57 rfl rfl rfl rfl rfl (fun w0 U0 => ?_)
  refine a_rseq ?_
  refine rg_put (d := 2) (v := .d (.fl (.slice none 0 0))) rfl (og rfl (op_assign rfl rfl rfl)) ?_
  refine rg_put (d := 3) (v := .d (.fl (.int .i64 0))) rfl (og rfl (op_assign rfl rfl rfl)) ?_
  refine rg_done rfl ?_
  refine a_seq ?_
  refine a_rseq ?_
  refine rg_put (d := 7) (v := .d (.fl (.string s))) rfl (og rfl (op_move rfl rfl rfl)) ?_
  refine rg_put (d := 8) (v := .d (.fl (.int .i64 (s.size : Int)))) rfl (og rfl (op_len_str rfl Tryd.underlying9 rfl rfl)) ?_
  refine rg_put (d := 9) (v := .d (.fl (.bool ((decide (512 < (s.size : Int))))))) rfl (og rfl (op_bin rfl rfl rfl (b_gtr _ _ _ _) rfl)) ?_
  refine rg_done rfl ?_
  refine a_cond rfl (fun h1 => ?_) (fun h1 => ?_)
  · skip
    have h2 := t_dec h1
    refine a_rseq ?_
    refine rg_put (d := 2) (v := .d (.fl (.slice none 0 0))) rfl (og rfl (op_assign rfl rfl rfl)) ?_
    refine rg_put (d := 3) (v := .d (.fl (.int .i64 4))) rfl (og rfl (op_assign rfl rfl rfl)) ?_
    refine rg_done rfl ?_
    refine a_ret ?_
    show ∃ ds, ResL _ _ _ ds ∧ RV.of ds = _
    refine ⟨[.sl 1 (List.map rS []), .fl (.int .i64 4)], (.cons (.tmp rfl (.cv (Cv.nil _))) (.cons (.tmp rfl (.d _)) .nil)), ?_⟩
    have hu : flds s = ([], 4) := by unfold flds; rw [if_pos (by omega)]
    rw [hu]; rfl
  · skip
    have h3 := f_dec h1
    refine a_skip ?_
    show A _ _ _ _ _ _ _
    refine a_seq ?_
    refine a_rseq ?_
    refine rg_put (d := 10) (v := .d (.fl (.string s))) rfl (og rfl (op_move rfl rfl rfl)) ?_
    refine rg_put (d := 11) (v := .d (.fl (.bool ((sEq s (⟨#[]⟩)))))) rfl (og rfl (op_bin rfl rfl rfl (b_seq _ _ _) rfl)) ?_
    refine rg_done rfl ?_
    refine a_cond rfl (fun h4 => ?_) (fun h4 => ?_)
    · skip
      have := (seq0 (s := s)).symm.trans h4
      have := t_dec this
      refine a_rseq ?_
      refine rg_put (d := 2) (v := .d (.fl (.slice none 0 0))) rfl (og rfl (op_assign rfl rfl rfl)) ?_
      refine rg_put (d := 3) (v := .d (.fl (.int .i64 0))) rfl (og rfl (op_assign rfl rfl rfl)) ?_
      refine rg_done rfl ?_
      refine a_ret ?_
      show ∃ ds, ResL _ _ _ ds ∧ RV.of ds = _
      refine ⟨[.sl 1 (List.map rS []), .fl (.int .i64 0)], (.cons (.tmp rfl (.cv (Cv.nil _))) (.cons (.tmp rfl (.d _)) .nil)), ?_⟩
      have hu : flds s = ([], 0) := by unfold flds; rw [if_neg (by omega), if_pos (by omega)]
      rw [hu]; rfl
    · skip
      have := (seq0 (s := s)).symm.trans h4
      have := f_dec this
      refine a_skip ?_
      show A _ _ _ _ _ _ _
      refine a_rseq ?_
      refine rg_put (d := 4) (v := .d (.fl (.slice none 0 0))) rfl (og rfl (op_assign rfl rfl rfl)) ?_
      refine rg_done rfl ?_
      refine a_rseq ?_
      refine rg_put (d := 5) (v := .d (.fl (.int .i64 0))) rfl (og rfl (op_assign rfl rfl rfl)) ?_
      refine rg_done rfl ?_
      refine a_seq ?_
      refine a_rseq ?_
      refine rg_put (d := 6) (v := .d (.fl (.int .i64 0))) rfl (og rfl (op_assign rfl rfl rfl)) ?_
      refine rg_done rfl ?_
      refine a_block ?_
      refine a_loop (ι := Nat) (fun k => SS [(0, .d (.fl (.string s))), (9, .d (.fl (.bool ((decide (512 < (s.size : Int))))))), (11, .d (.fl (.bool ((sEq s (⟨#[]⟩)))))), (4, .ow 201), (5, .d (.fl (.int .i64 (rF s k : Int)))), (6, .d (.fl (.int .i64 (k : Int))))] [(201, .ow 9 1 (List.map rS (rA s k)))]) (fun k => k ≤ s.size + 1 ∧ (∀ q, q < k → q < s.size → fB s q = false) ∧ (s.size < k → fF s s.size ≠ s.size)) (fun k => s.size + 1 - k) 0 (⟨by omega, fun q h => by omega, fun h => by omega⟩) (Imp.trans (imp_nil 4 201 9 1 rfl rfl) (imp_forget rfl ⟨rfl, rfl, rfl, (by first | rfl | exact ci (by omega) | exact ci (by simp) | exact cd (by simp) | simp), rfl, (by first | rfl | exact ci (by omega) | exact ci (by simp) | exact cd (by simp) | simp), trivial⟩ ⟨(by first | rfl | simp), trivial⟩)) (fun k hok => ?_)
      obtain ⟨hk, hq, hl⟩ := hok
      refine a_seq ?_
      refine a_rseq ?_
      refine rg_put (d := 12) (v := .d (.fl (.int .i64 (k : Int)))) rfl (og rfl (op_move rfl rfl rfl)) ?_
      refine rg_put (d := 13) (v := .d (.fl (.string s))) rfl (og rfl (op_move rfl rfl rfl)) ?_
      refine rg_put (d := 14) (v := .d (.fl (.int .i64 (s.size : Int)))) rfl (og rfl (op_len_str rfl Tryd.underlying9 rfl rfl)) ?_
      refine rg_put (d := 15) (v := .d (.fl (.bool ((decide ((k : Int) ≤ (s.size : Int))))))) rfl (og rfl (op_bin rfl rfl rfl (b_leq _ _ _ _) rfl)) ?_
      refine rg_done rfl ?_
      refine a_cond rfl (fun h5 => ?_) (fun h5 => ?_)
      · skip
        have h6 := t_dec h5
        refine a_skip ?_
        show A _ _ _ _ _ _ _
        refine a_seq ?_
        refine a_block ?_
        refine a_seq ?_
        refine a_rseq ?_
        have hF := fF_le s k
        have hA := fA_le s k
        rw [rF_le (s := s) (k := k) (by omega), rA_le (s := s) (k := k) (by omega)]
        refine rg_put (d := 18) (v := .d (.fl (.int .i64 (k : Int)))) rfl (og rfl (op_move rfl rfl rfl)) ?_
        refine rg_put (d := 19) (v := .d (.fl (.string s))) rfl (og rfl (op_move rfl rfl rfl)) ?_
        refine rg_put (d := 20) (v := .d (.fl (.int .i64 (s.size : Int)))) rfl (og rfl (op_len_str rfl Tryd.underlying9 rfl rfl)) ?_
        refine rg_put (d := 21) (v := .d (.fl (.bool ((decide ((k : Int) < (s.size : Int))))))) rfl (og rfl (op_bin rfl rfl rfl (b_lss _ _ _ _) rfl)) ?_
        refine rg_put (d := 22) (v := .d (.fl (.bool ((decide ((k : Int) < (s.size : Int))))))) rfl (og rfl (op_move rfl rfl rfl)) ?_
        rcases fot ((decide ((k : Int) < (s.size : Int)))) with h7 | h7
        · skip
          have h8 := f_dec h7
          refine rg_put (d := 23) (v := .d (.fl undef)) rfl (on rfl rfl rfl h7) ?_
          refine rg_put (d := 24) (v := .d (.fl undef)) rfl (on rfl rfl rfl h7) ?_
          refine rg_put (d := 25) (v := .d (.fl undef)) rfl (on rfl rfl rfl h7) ?_
          refine rg_put (d := 26) (v := .d (.fl undef)) rfl (on rfl rfl rfl h7) ?_
          refine rg_put (d := 27) (v := .d (.fl undef)) rfl (on rfl rfl rfl h7) ?_
          refine rg_put (d := 28) (v := .d (.fl undef)) rfl (ou rfl rfl rfl) ?_
          refine rg_put (d := 29) (v := .d (.fl undef)) rfl (ou rfl rfl rfl) ?_
          refine rg_put (d := 30) (v := .d (.fl undef)) rfl (ou rfl rfl rfl) ?_
          refine rg_put (d := 31) (v := .d (.fl undef)) rfl (ou rfl rfl rfl) ?_
          refine rg_put (d := 32) (v := .d (.fl undef)) rfl (on rfl rfl rfl h7) ?_
          refine rg_put (d := 33) (v := .d (.fl (.bool false))) rfl (og rfl (op_pick rfl rfl (by rw [h7]; rfl) rfl)) ?_
          refine rg_done rfl ?_
          refine a_condF rfl rfl ?_
          refine a_skip ?_
          show A _ _ _ _ _ _ _
          refine a_rseq ?_
          refine rg_put (d := 34) (v := .d (.fl (.int .i64 (k : Int)))) rfl (og rfl (op_move rfl rfl rfl)) ?_
          refine rg_put (d := 35) (v := .d (.fl (.string s))) rfl (og rfl (op_move rfl rfl rfl)) ?_
          refine rg_put (d := 36) (v := .d (.fl (.int .i64 (s.size : Int)))) rfl (og rfl (op_len_str rfl Tryd.underlying9 rfl rfl)) ?_
          refine rg_put (d := 37) (v := .d (.fl (.bool (((k : Int) == (s.size : Int)))))) rfl (og rfl (op_bin rfl rfl rfl (b_eql _ _ _ _) rfl)) ?_
          refine rg_put (d := 38) (v := .d (.fl (.bool (((k : Int) == (s.size : Int)))))) rfl (og rfl (op_move rfl rfl rfl)) ?_
          rcases fot (((k : Int) == (s.size : Int))) with h9 | h9
          · skip
            have h10 := f_beq h9
            refine rg_put (d := 39) (v := .d (.fl (.string s))) rfl (oy rfl rfl rfl h9 (op_move rfl rfl rfl)) ?_
            refine rg_put (d := 40) (v := .d (.fl (.int .i64 (k : Int)))) rfl (oy rfl rfl rfl h9 (op_move rfl rfl rfl)) ?_
            refine rg_put (d := 41) (v := .d (.fl (.int .u8 (((bt s k).toNat : Int))))) rfl (oy rfl rfl rfl h9 (op_strindex rfl Tryd.underlying9 rfl rfl (by omega) (byte_ix (by omega)) rfl)) ?_
            refine rg_put (d := 42) (v := .d (.fl (.bool ((((bt s k).toNat : Int) == 32))))) rfl (oy rfl rfl rfl h9 (op_bin rfl rfl rfl (b_eql _ _ _ _) rfl)) ?_
            refine rg_put (d := 43) (v := .d (.fl (.bool ((((bt s k).toNat : Int) == 32))))) rfl (og rfl (op_pick rfl rfl (by rw [h9]; rfl) rfl)) ?_
            refine rg_done rfl ?_
            refine a_cond rfl (fun h11 => ?_) (fun h11 => ?_)
            · skip
              have h12 := t_beq h11
              refine a_seq ?_
              refine a_rseq ?_
              refine rg_put (d := 44) (v := .d (.fl (.int .i64 (k : Int)))) rfl (og rfl (op_move rfl rfl rfl)) ?_
              refine rg_put (d := 45) (v := .d (.fl (.int .i64 (fF s k : Int)))) rfl (og rfl (op_move rfl rfl rfl)) ?_
              refine rg_put (d := 46) (v := .d (.fl (.bool (((k : Int) == (fF s k : Int)))))) rfl (og rfl (op_bin rfl rfl rfl (b_eql _ _ _ _) rfl)) ?_
              refine rg_done rfl ?_
              refine a_cond rfl (fun h13 => ?_) (fun h13 => ?_)
              · skip
                have h14 := t_beq h13
                refine a_rseq ?_
                refine rg_put (d := 2) (v := .d (.fl (.slice none 0 0))) rfl (og rfl (op_assign rfl rfl rfl)) ?_
                refine rg_put (d := 3) (v := .d (.fl (.int .i64 5))) rfl (og rfl (op_assign rfl rfl rfl)) ?_
                refine rg_done rfl ?_
                refine a_ret ?_
                show ∃ ds, ResL _ _ _ ds ∧ RV.of ds = _
                refine ⟨[.sl 1 (List.map rS []), .fl (.int .i64 5)], (.cons (.tmp rfl (.cv (Cv.nil _))) (.cons (.tmp rfl (.d _)) .nil)), ?_⟩
                rw [fl_bad (k := k) (by omega) (by omega) (fB_bad (by omega))]; rfl
              · skip
                have h15 := f_beq h13
                refine a_skip ?_
                show A _ _ _ _ _ _ _
                refine a_rseq ?_
                refine rg_put (d := 47) (v := .ow 201) rfl (og rfl (op_move rfl rfl rfl)) ?_
                refine rg_put (d := 48) (v := .d (.fl (.string s))) rfl (og rfl (op_move rfl rfl rfl)) ?_
                refine rg_put (d := 49) (v := .d (.fl (.int .i64 (fF s k : Int)))) rfl (og rfl (op_move rfl rfl rfl)) ?_
                refine rg_put (d := 50) (v := .d (.fl (.int .i64 (k : Int)))) rfl (og rfl (op_move rfl rfl rfl)) ?_
                refine rg_put (d := 51) (v := .d (.fl (.string ((s.extract (fF s k) k))))) rfl (og rfl (op_strslice rfl Tryd.underlying9 rfl (.so (n := fF s k) _ rfl (by omega)) (.so (n := k) _ rfl (by omega)) (by omega) (by omega) rfl)) ?_
                refine rg_put (d := 52) (v := .d (.sl 1 (List.map rS [(s.extract (fF s k) k)]))) rfl (og rfl (of_eff (op_slices rfl Tryd.underlying43 ti9 rfl rfl rfl (by kernel_rfl) (xs := [.fl (.string ((s.extract (fF s k) k)))]) rfl rfl (.cons rfl rfl (.d _) rfl rfl rfl .nil) rfl) rfl)) ?_
                refine rg_nam (d := 53) (v := .ow 101) (m := 101) (nw := [(101, .ow 9 1 (List.map rS (((fA s k) ++ [(s.extract (fF s k) k)])))), (201, .no)]) rfl (og rfl (s_append 101 rfl Tryd.underlying43 ti9 rfl rfl rfl rfl rfl (.d _) (by simp only [List.length_cons, List.length_nil]; omega) rfl)) rfl ?_
                refine rg_put (d := 4) (v := .ow 101) rfl (og rfl (op_assign rfl rfl rfl)) ?_
                refine rg_done rfl ?_
                refine a_region ?_
                refine rg_put (d := 54) (v := .d (.fl (.int .i64 (k : Int)))) rfl (og rfl (op_move rfl rfl rfl)) ?_
                refine rg_put (d := 55) (v := .d (.fl (.int .i64 (((k : Int) + 1))))) rfl (og rfl (op_bin rfl rfl rfl (fun x y w => b_add64 _ _ _ x y w (by omega)) rfl)) ?_
                refine rg_put (d := 5) (v := .d (.fl (.int .i64 (((k : Int) + 1))))) rfl (og rfl (op_assign rfl rfl rfl)) ?_
                refine rg_done rfl ?_
                show A _ _ _ _ _ _ _
                refine a_region ?_
                refine rg_put (d := 16) (v := .d (.fl (.int .i64 (k : Int)))) rfl (og rfl (op_move rfl rfl rfl)) ?_
                refine rg_put (d := 17) (v := .d (.fl (.int .i64 (((k : Int) + 1))))) rfl (og rfl (op_bin rfl rfl rfl (fun x y w => b_add64 _ _ _ x y w (by omega)) rfl)) ?_
                refine rg_put (d := 6) (v := .d (.fl (.int .i64 (((k : Int) + 1))))) rfl (og rfl (op_assign rfl rfl rfl)) ?_
                refine rg_done rfl ?_
                have h32 : (bt s k).toNat = 32 := by omega
                have hfb : fB s k = false := fB_ok (by omega) (by omega) (fun h => by omega)
                obtain ⟨hF0, hA0⟩ := f_yes h32
                have hF1 := hF0.symm.trans (rF_le (by omega : k + 1 ≤ s.size)).symm
                have hA1 := hA0.trans (rA_le (by omega : k + 1 ≤ s.size)).symm
                show ∃ i, _ ∧ _ ∧ Imp _ _ _ _ _
                refine ⟨k + 1, ⟨by omega, fun q h1 h2 => by
                  rcases Nat.lt_succ_iff_lt_or_eq.1 h1 with h | h
                  · exact hq q h h2
                  · subst h; exact hfb, fun h => by omega⟩, by omega, imp_ren (fun m => bif Nat.beq m 201 then 101 else m) rfl ⟨rfl, rfl, rfl, rfl, (by rw [← hF1]; rfl), (by first | rfl | exact ci (by omega) | exact ci (by simp) | exact cd (by simp) | simp), trivial⟩ ⟨(congrArg (fun x => Ob.ow 9 1 (List.map rS x)) hA1), trivial⟩⟩
            · skip
              have h16 := f_beq h11
              refine a_skip ?_
              show A _ _ _ _ _ _ _
              refine a_region ?_
              refine rg_put (d := 16) (v := .d (.fl (.int .i64 (k : Int)))) rfl (og rfl (op_move rfl rfl rfl)) ?_
              refine rg_put (d := 17) (v := .d (.fl (.int .i64 (((k : Int) + 1))))) rfl (og rfl (op_bin rfl rfl rfl (fun x y w => b_add64 _ _ _ x y w (by omega)) rfl)) ?_
              refine rg_put (d := 6) (v := .d (.fl (.int .i64 (((k : Int) + 1))))) rfl (og rfl (op_assign rfl rfl rfl)) ?_
              refine rg_done rfl ?_
              have h32 : (bt s k).toNat ≠ 32 := by omega
              have hfb : fB s k = false := fB_ok (by omega) (by omega) (fun h => by omega)
              obtain ⟨hF0, hA0⟩ := f_no h32
              have hF1 := hF0.symm.trans (rF_le (by omega : k + 1 ≤ s.size)).symm
              have hA1 := hA0.trans (rA_le (by omega : k + 1 ≤ s.size)).symm
              show ∃ i, _ ∧ _ ∧ Imp _ _ _ _ _
              refine ⟨k + 1, ⟨by omega, fun q h1 h2 => by
                rcases Nat.lt_succ_iff_lt_or_eq.1 h1 with h | h
                · exact hq q h h2
                · subst h; exact hfb, fun h => by omega⟩, by omega, imp_forget rfl ⟨rfl, rfl, rfl, rfl, (by rw [← hF1]; rfl), (by first | rfl | exact ci (by omega) | exact ci (by simp) | exact cd (by simp) | simp), trivial⟩ ⟨(congrArg (fun x => Ob.ow 9 1 (List.map rS x)) hA1), trivial⟩⟩
          · skip
            have h17 := t_beq h9
            refine rg_put (d := 39) (v := .d (.fl undef)) rfl (on rfl rfl rfl h9) ?_
            refine rg_put (d := 40) (v := .d (.fl undef)) rfl (on rfl rfl rfl h9) ?_
            refine rg_put (d := 41) (v := .d (.fl undef)) rfl (on rfl rfl rfl h9) ?_
            refine rg_put (d := 42) (v := .d (.fl undef)) rfl (on rfl rfl rfl h9) ?_
            refine rg_put (d := 43) (v := .d (.fl (.bool true))) rfl (og rfl (op_pick rfl rfl (by rw [h9]; rfl) rfl)) ?_
            refine rg_done rfl ?_
            refine a_condK rfl rfl ?_
            refine a_seq ?_
            refine a_rseq ?_
            refine rg_put (d := 44) (v := .d (.fl (.int .i64 (k : Int)))) rfl (og rfl (op_move rfl rfl rfl)) ?_
            refine rg_put (d := 45) (v := .d (.fl (.int .i64 (fF s k : Int)))) rfl (og rfl (op_move rfl rfl rfl)) ?_
            refine rg_put (d := 46) (v := .d (.fl (.bool (((k : Int) == (fF s k : Int)))))) rfl (og rfl (op_bin rfl rfl rfl (b_eql _ _ _ _) rfl)) ?_
            refine rg_done rfl ?_
            refine a_cond rfl (fun h18 => ?_) (fun h18 => ?_)
            · skip
              have h19 := t_beq h18
              refine a_rseq ?_
              refine rg_put (d := 2) (v := .d (.fl (.slice none 0 0))) rfl (og rfl (op_assign rfl rfl rfl)) ?_
              refine rg_put (d := 3) (v := .d (.fl (.int .i64 5))) rfl (og rfl (op_assign rfl rfl rfl)) ?_
              refine rg_done rfl ?_
              refine a_ret ?_
              show ∃ ds, ResL _ _ _ ds ∧ RV.of ds = _
              refine ⟨[.sl 1 (List.map rS []), .fl (.int .i64 5)], (.cons (.tmp rfl (.cv (Cv.nil _))) (.cons (.tmp rfl (.d _)) .nil)), ?_⟩
              have hks : k = s.size := by omega
              subst hks
              rw [fl_good (by omega) (by omega) (fun q h => hq q (by omega) h), if_pos (by omega)]; rfl
            · skip
              have h20 := f_beq h18
              refine a_skip ?_
              show A _ _ _ _ _ _ _
              refine a_rseq ?_
              refine rg_put (d := 47) (v := .ow 201) rfl (og rfl (op_move rfl rfl rfl)) ?_
              refine rg_put (d := 48) (v := .d (.fl (.string s))) rfl (og rfl (op_move rfl rfl rfl)) ?_
              refine rg_put (d := 49) (v := .d (.fl (.int .i64 (fF s k : Int)))) rfl (og rfl (op_move rfl rfl rfl)) ?_
              refine rg_put (d := 50) (v := .d (.fl (.int .i64 (k : Int)))) rfl (og rfl (op_move rfl rfl rfl)) ?_
              refine rg_put (d := 51) (v := .d (.fl (.string ((s.extract (fF s k) k))))) rfl (og rfl (op_strslice rfl Tryd.underlying9 rfl (.so (n := fF s k) _ rfl (by omega)) (.so (n := k) _ rfl (by omega)) (by omega) (by omega) rfl)) ?_
              refine rg_put (d := 52) (v := .d (.sl 1 (List.map rS [(s.extract (fF s k) k)]))) rfl (og rfl (of_eff (op_slices rfl Tryd.underlying43 ti9 rfl rfl rfl (by kernel_rfl) (xs := [.fl (.string ((s.extract (fF s k) k)))]) rfl rfl (.cons rfl rfl (.d _) rfl rfl rfl .nil) rfl) rfl)) ?_
              refine rg_nam (d := 53) (v := .ow 102) (m := 102) (nw := [(102, .ow 9 1 (List.map rS (((fA s k) ++ [(s.extract (fF s k) k)])))), (201, .no)]) rfl (og rfl (s_append 102 rfl Tryd.underlying43 ti9 rfl rfl rfl rfl rfl (.d _) (by simp only [List.length_cons, List.length_nil]; omega) rfl)) rfl ?_
              refine rg_put (d := 4) (v := .ow 102) rfl (og rfl (op_assign rfl rfl rfl)) ?_
              refine rg_done rfl ?_
              refine a_region ?_
              refine rg_put (d := 54) (v := .d (.fl (.int .i64 (k : Int)))) rfl (og rfl (op_move rfl rfl rfl)) ?_
              refine rg_put (d := 55) (v := .d (.fl (.int .i64 (((k : Int) + 1))))) rfl (og rfl (op_bin rfl rfl rfl (fun x y w => b_add64 _ _ _ x y w (by omega)) rfl)) ?_
              refine rg_put (d := 5) (v := .d (.fl (.int .i64 (((k : Int) + 1))))) rfl (og rfl (op_assign rfl rfl rfl)) ?_
              refine rg_done rfl ?_
              show A _ _ _ _ _ _ _
              refine a_region ?_
              refine rg_put (d := 16) (v := .d (.fl (.int .i64 (k : Int)))) rfl (og rfl (op_move rfl rfl rfl)) ?_
              refine rg_put (d := 17) (v := .d (.fl (.int .i64 (((k : Int) + 1))))) rfl (og rfl (op_bin rfl rfl rfl (fun x y w => b_add64 _ _ _ x y w (by omega)) rfl)) ?_
              refine rg_put (d := 6) (v := .d (.fl (.int .i64 (((k : Int) + 1))))) rfl (og rfl (op_assign rfl rfl rfl)) ?_
              refine rg_done rfl ?_
              have hks : k = s.size := by omega
              have hF1 : k + 1 = rF s (k + 1) := by rw [hks]; exact (if_neg (by omega)).symm
              have hA1 : fA s k ++ [s.extract (fF s k) k] = rA s (k + 1) := by rw [hks]; exact (if_neg (by omega)).symm
              show ∃ i, _ ∧ _ ∧ Imp _ _ _ _ _
              refine ⟨k + 1, ⟨by omega, fun q h1 h2 => hq q (by omega) h2, fun _ => by rw [← hks]; omega⟩, by omega, imp_ren (fun m => bif Nat.beq m 201 then 102 else m) rfl ⟨rfl, rfl, rfl, rfl, (by rw [← hF1]; rfl), (by first | rfl | exact ci (by omega) | exact ci (by simp) | exact cd (by simp) | simp), trivial⟩ ⟨(congrArg (fun x => Ob.ow 9 1 (List.map rS x)) hA1), trivial⟩⟩
        · skip
          have h21 := t_dec h7
          refine rg_put (d := 23) (v := .d (.fl (.string s))) rfl (oy rfl rfl rfl h7 (op_move rfl rfl rfl)) ?_
          refine rg_put (d := 24) (v := .d (.fl (.int .i64 (k : Int)))) rfl (oy rfl rfl rfl h7 (op_move rfl rfl rfl)) ?_
          refine rg_put (d := 25) (v := .d (.fl (.int .u8 (((bt s k).toNat : Int))))) rfl (oy rfl rfl rfl h7 (op_strindex rfl Tryd.underlying9 rfl rfl (by omega) (byte_ix (by omega)) rfl)) ?_
          refine rg_put (d := 26) (v := .d (.fl (.bool ((decide (((bt s k).toNat : Int) < 32)))))) rfl (oy rfl rfl rfl h7 (op_bin rfl rfl rfl (b_lss _ _ _ _) rfl)) ?_
          refine rg_put (d := 27) (v := .d (.fl (.bool ((decide (((bt s k).toNat : Int) < 32)))))) rfl (oy rfl rfl rfl h7 (op_move rfl rfl rfl)) ?_
          rcases fot ((decide (((bt s k).toNat : Int) < 32))) with h22 | h22
          · skip
            have h23 := f_dec h22
            refine rg_put (d := 28) (v := .d (.fl (.string s))) rfl (oy rfl rfl rfl h22 (op_move rfl rfl rfl)) ?_
            refine rg_put (d := 29) (v := .d (.fl (.int .i64 (k : Int)))) rfl (oy rfl rfl rfl h22 (op_move rfl rfl rfl)) ?_
            refine rg_put (d := 30) (v := .d (.fl (.int .u8 (((bt s k).toNat : Int))))) rfl (oy rfl rfl rfl h22 (op_strindex rfl Tryd.underlying9 rfl rfl (by omega) (byte_ix (by omega)) rfl)) ?_
            refine rg_put (d := 31) (v := .d (.fl (.bool ((decide (126 < ((bt s k).toNat : Int))))))) rfl (oy rfl rfl rfl h22 (op_bin rfl rfl rfl (b_gtr _ _ _ _) rfl)) ?_
            refine rg_put (d := 32) (v := .d (.fl (.bool ((decide (126 < ((bt s k).toNat : Int))))))) rfl (oy rfl rfl rfl h7 (op_pick rfl rfl (by rw [h22]; rfl) rfl)) ?_
            refine rg_put (d := 33) (v := .d (.fl (.bool ((decide (126 < ((bt s k).toNat : Int))))))) rfl (og rfl (op_pick rfl rfl (by rw [h7]; rfl) rfl)) ?_
            refine rg_done rfl ?_
            refine a_cond rfl (fun h24 => ?_) (fun h24 => ?_)
            · skip
              have h25 := t_dec h24
              refine a_rseq ?_
              refine rg_put (d := 2) (v := .d (.fl (.slice none 0 0))) rfl (og rfl (op_assign rfl rfl rfl)) ?_
              refine rg_put (d := 3) (v := .d (.fl (.int .i64 5))) rfl (og rfl (op_assign rfl rfl rfl)) ?_
              refine rg_done rfl ?_
              refine a_ret ?_
              show ∃ ds, ResL _ _ _ ds ∧ RV.of ds = _
              refine ⟨[.sl 1 (List.map rS []), .fl (.int .i64 5)], (.cons (.tmp rfl (.cv (Cv.nil _))) (.cons (.tmp rfl (.d _)) .nil)), ?_⟩
              rw [fl_bad (k := k) (by omega) (by omega) (fB_bad (by omega))]; rfl
            · skip
              have h26 := f_dec h24
              refine a_skip ?_
              show A _ _ _ _ _ _ _
              refine a_rseq ?_
              refine rg_put (d := 34) (v := .d (.fl (.int .i64 (k : Int)))) rfl (og rfl (op_move rfl rfl rfl)) ?_
              refine rg_put (d := 35) (v := .d (.fl (.string s))) rfl (og rfl (op_move rfl rfl rfl)) ?_
              refine rg_put (d := 36) (v := .d (.fl (.int .i64 (s.size : Int)))) rfl (og rfl (op_len_str rfl Tryd.underlying9 rfl rfl)) ?_
              refine rg_put (d := 37) (v := .d (.fl (.bool (((k : Int) == (s.size : Int)))))) rfl (og rfl (op_bin rfl rfl rfl (b_eql _ _ _ _) rfl)) ?_
              refine rg_put (d := 38) (v := .d (.fl (.bool (((k : Int) == (s.size : Int)))))) rfl (og rfl (op_move rfl rfl rfl)) ?_
              rcases fot (((k : Int) == (s.size : Int))) with h27 | h27
              · skip
                have h28 := f_beq h27
                refine rg_put (d := 39) (v := .d (.fl (.string s))) rfl (oy rfl rfl rfl h27 (op_move rfl rfl rfl)) ?_
                refine rg_put (d := 40) (v := .d (.fl (.int .i64 (k : Int)))) rfl (oy rfl rfl rfl h27 (op_move rfl rfl rfl)) ?_
                refine rg_put (d := 41) (v := .d (.fl (.int .u8 (((bt s k).toNat : Int))))) rfl (oy rfl rfl rfl h27 (op_strindex rfl Tryd.underlying9 rfl rfl (by omega) (byte_ix (by omega)) rfl)) ?_
                refine rg_put (d := 42) (v := .d (.fl (.bool ((((bt s k).toNat : Int) == 32))))) rfl (oy rfl rfl rfl h27 (op_bin rfl rfl rfl (b_eql _ _ _ _) rfl)) ?_
                refine rg_put (d := 43) (v := .d (.fl (.bool ((((bt s k).toNat : Int) == 32))))) rfl (og rfl (op_pick rfl rfl (by rw [h27]; rfl) rfl)) ?_
                refine rg_done rfl ?_
                refine a_cond rfl (fun h29 => ?_) (fun h29 => ?_)
                · skip
                  have h30 := t_beq h29
                  refine a_seq ?_
                  refine a_rseq ?_
                  refine rg_put (d := 44) (v := .d (.fl (.int .i64 (k : Int)))) rfl (og rfl (op_move rfl rfl rfl)) ?_
                  refine rg_put (d := 45) (v := .d (.fl (.int .i64 (fF s k : Int)))) rfl (og rfl (op_move rfl rfl rfl)) ?_
                  refine rg_put (d := 46) (v := .d (.fl (.bool (((k : Int) == (fF s k : Int)))))) rfl (og rfl (op_bin rfl rfl rfl (b_eql _ _ _ _) rfl)) ?_
                  refine rg_done rfl ?_
                  refine a_cond rfl (fun h31 => ?_) (fun h31 => ?_)
                  · skip
                    have h32 := t_beq h31
                    refine a_rseq ?_
                    refine rg_put (d := 2) (v := .d (.fl (.slice none 0 0))) rfl (og rfl (op_assign rfl rfl rfl)) ?_
                    refine rg_put (d := 3) (v := .d (.fl (.int .i64 5))) rfl (og rfl (op_assign rfl rfl rfl)) ?_
                    refine rg_done rfl ?_
                    refine a_ret ?_
                    show ∃ ds, ResL _ _ _ ds ∧ RV.of ds = _
                    refine ⟨[.sl 1 (List.map rS []), .fl (.int .i64 5)], (.cons (.tmp rfl (.cv (Cv.nil _))) (.cons (.tmp rfl (.d _)) .nil)), ?_⟩
                    rw [fl_bad (k := k) (by omega) (by omega) (fB_bad (by omega))]; rfl
                  · skip
                    have h33 := f_beq h31
                    refine a_skip ?_
                    show A _ _ _ _ _ _ _
                    refine a_rseq ?_
                    refine rg_put (d := 47) (v := .ow 201) rfl (og rfl (op_move rfl rfl rfl)) ?_
                    refine rg_put (d := 48) (v := .d (.fl (.string s))) rfl (og rfl (op_move rfl rfl rfl)) ?_
                    refine rg_put (d := 49) (v := .d (.fl (.int .i64 (fF s k : Int)))) rfl (og rfl (op_move rfl rfl rfl)) ?_
                    refine rg_put (d := 50) (v := .d (.fl (.int .i64 (k : Int)))) rfl (og rfl (op_move rfl rfl rfl)) ?_
                    refine rg_put (d := 51) (v := .d (.fl (.string ((s.extract (fF s k) k))))) rfl (og rfl (op_strslice rfl Tryd.underlying9 rfl (.so (n := fF s k) _ rfl (by omega)) (.so (n := k) _ rfl (by omega)) (by omega) (by omega) rfl)) ?_
                    refine rg_put (d := 52) (v := .d (.sl 1 (List.map rS [(s.extract (fF s k) k)]))) rfl (og rfl (of_eff (op_slices rfl Tryd.underlying43 ti9 rfl rfl rfl (by kernel_rfl) (xs := [.fl (.string ((s.extract (fF s k) k)))]) rfl rfl (.cons rfl rfl (.d _) rfl rfl rfl .nil) rfl) rfl)) ?_
                    refine rg_nam (d := 53) (v := .ow 103) (m := 103) (nw := [(103, .ow 9 1 (List.map rS (((fA s k) ++ [(s.extract (fF s k) k)])))), (201, .no)]) rfl (og rfl (s_append 103 rfl Tryd.underlying43 ti9 rfl rfl rfl rfl rfl (.d _) (by simp only [List.length_cons, List.length_nil]; omega) rfl)) rfl ?_
                    refine rg_put (d := 4) (v := .ow 103) rfl (og rfl (op_assign rfl rfl rfl)) ?_
                    refine rg_done rfl ?_
                    refine a_region ?_
                    refine rg_put (d := 54) (v := .d (.fl (.int .i64 (k : Int)))) rfl (og rfl (op_move rfl rfl rfl)) ?_
                    refine rg_put (d := 55) (v := .d (.fl (.int .i64 (((k : Int) + 1))))) rfl (og rfl (op_bin rfl rfl rfl (fun x y w => b_add64 _ _ _ x y w (by omega)) rfl)) ?_
                    refine rg_put (d := 5) (v := .d (.fl (.int .i64 (((k : Int) + 1))))) rfl (og rfl (op_assign rfl rfl rfl)) ?_
                    refine rg_done rfl ?_
                    show A _ _ _ _ _ _ _
                    refine a_region ?_
                    refine rg_put (d := 16) (v := .d (.fl (.int .i64 (k : Int)))) rfl (og rfl (op_move rfl rfl rfl)) ?_
                    refine rg_put (d := 17) (v := .d (.fl (.int .i64 (((k : Int) + 1))))) rfl (og rfl (op_bin rfl rfl rfl (fun x y w => b_add64 _ _ _ x y w (by omega)) rfl)) ?_
                    refine rg_put (d := 6) (v := .d (.fl (.int .i64 (((k : Int) + 1))))) rfl (og rfl (op_assign rfl rfl rfl)) ?_
                    refine rg_done rfl ?_
                    have h32 : (bt s k).toNat = 32 := by omega
                    have hfb : fB s k = false := fB_ok (by omega) (by omega) (fun h => by omega)
                    obtain ⟨hF0, hA0⟩ := f_yes h32
                    have hF1 := hF0.symm.trans (rF_le (by omega : k + 1 ≤ s.size)).symm
                    have hA1 := hA0.trans (rA_le (by omega : k + 1 ≤ s.size)).symm
                    show ∃ i, _ ∧ _ ∧ Imp _ _ _ _ _
                    refine ⟨k + 1, ⟨by omega, fun q h1 h2 => by
                      rcases Nat.lt_succ_iff_lt_or_eq.1 h1 with h | h
                      · exact hq q h h2
                      · subst h; exact hfb, fun h => by omega⟩, by omega, imp_ren (fun m => bif Nat.beq m 201 then 103 else m) rfl ⟨rfl, rfl, rfl, rfl, (by rw [← hF1]; rfl), (by first | rfl | exact ci (by omega) | exact ci (by simp) | exact cd (by simp) | simp), trivial⟩ ⟨(congrArg (fun x => Ob.ow 9 1 (List.map rS x)) hA1), trivial⟩⟩
                · skip
                  have h34 := f_beq h29
                  refine a_skip ?_
                  show A _ _ _ _ _ _ _
                  refine a_region ?_
                  refine rg_put (d := 16) (v := .d (.fl (.int .i64 (k : Int)))) rfl (og rfl (op_move rfl rfl rfl)) ?_
                  refine rg_put (d := 17) (v := .d (.fl (.int .i64 (((k : Int) + 1))))) rfl (og rfl (op_bin rfl rfl rfl (fun x y w => b_add64 _ _ _ x y w (by omega)) rfl)) ?_
                  refine rg_put (d := 6) (v := .d (.fl (.int .i64 (((k : Int) + 1))))) rfl (og rfl (op_assign rfl rfl rfl)) ?_
                  refine rg_done rfl ?_
                  have h32 : (bt s k).toNat ≠ 32 := by omega
                  have hfb : fB s k = false := fB_ok (by omega) (by omega) (fun h => by omega)
                  obtain ⟨hF0, hA0⟩ := f_no h32
                  have hF1 := hF0.symm.trans (rF_le (by omega : k + 1 ≤ s.size)).symm
                  have hA1 := hA0.trans (rA_le (by omega : k + 1 ≤ s.size)).symm
                  show ∃ i, _ ∧ _ ∧ Imp _ _ _ _ _
                  refine ⟨k + 1, ⟨by omega, fun q h1 h2 => by
                    rcases Nat.lt_succ_iff_lt_or_eq.1 h1 with h | h
                    · exact hq q h h2
                    · subst h; exact hfb, fun h => by omega⟩, by omega, imp_forget rfl ⟨rfl, rfl, rfl, rfl, (by rw [← hF1]; rfl), (by first | rfl | exact ci (by omega) | exact ci (by simp) | exact cd (by simp) | simp), trivial⟩ ⟨(congrArg (fun x => Ob.ow 9 1 (List.map rS x)) hA1), trivial⟩⟩
              · skip
                have h35 := t_beq h27
                refine rg_put (d := 39) (v := .d (.fl undef)) rfl (on rfl rfl rfl h27) ?_
                refine rg_put (d := 40) (v := .d (.fl undef)) rfl (on rfl rfl rfl h27) ?_
                refine rg_put (d := 41) (v := .d (.fl undef)) rfl (on rfl rfl rfl h27) ?_
                refine rg_put (d := 42) (v := .d (.fl undef)) rfl (on rfl rfl rfl h27) ?_
                refine rg_put (d := 43) (v := .d (.fl (.bool true))) rfl (og rfl (op_pick rfl rfl (by rw [h27]; rfl) rfl)) ?_
                refine rg_done rfl ?_
                refine a_condK rfl rfl ?_
                refine a_seq ?_
                refine a_rseq ?_
                refine rg_put (d := 44) (v := .d (.fl (.int .i64 (k : Int)))) rfl (og rfl (op_move rfl rfl rfl)) ?_
                refine rg_put (d := 45) (v := .d (.fl (.int .i64 (fF s k : Int)))) rfl (og rfl (op_move rfl rfl rfl)) ?_
                refine rg_put (d := 46) (v := .d (.fl (.bool (((k : Int) == (fF s k : Int)))))) rfl (og rfl (op_bin rfl rfl rfl (b_eql _ _ _ _) rfl)) ?_
                refine rg_done rfl ?_
                refine a_cond rfl (fun h36 => ?_) (fun h36 => ?_)
                · skip
                  have h37 := t_beq h36
                  refine a_rseq ?_
                  refine rg_put (d := 2) (v := .d (.fl (.slice none 0 0))) rfl (og rfl (op_assign rfl rfl rfl)) ?_
                  refine rg_put (d := 3) (v := .d (.fl (.int .i64 5))) rfl (og rfl (op_assign rfl rfl rfl)) ?_
                  refine rg_done rfl ?_
                  refine a_ret ?_
                  show ∃ ds, ResL _ _ _ ds ∧ RV.of ds = _
                  refine ⟨[.sl 1 (List.map rS []), .fl (.int .i64 5)], (.cons (.tmp rfl (.cv (Cv.nil _))) (.cons (.tmp rfl (.d _)) .nil)), ?_⟩
                  have hks : k = s.size := by omega
                  subst hks
                  rw [fl_good (by omega) (by omega) (fun q h => hq q (by omega) h), if_pos (by omega)]; rfl
                · skip
                  have h38 := f_beq h36
                  refine a_skip ?_
                  show A _ _ _ _ _ _ _
                  refine a_rseq ?_
                  refine rg_put (d := 47) (v := .ow 201) rfl (og rfl (op_move rfl rfl rfl)) ?_
                  refine rg_put (d := 48) (v := .d (.fl (.string s))) rfl (og rfl (op_move rfl rfl rfl)) ?_
                  refine rg_put (d := 49) (v := .d (.fl (.int .i64 (fF s k : Int)))) rfl (og rfl (op_move rfl rfl rfl)) ?_
                  refine rg_put (d := 50) (v := .d (.fl (.int .i64 (k : Int)))) rfl (og rfl (op_move rfl rfl rfl)) ?_
                  refine rg_put (d := 51) (v := .d (.fl (.string ((s.extract (fF s k) k))))) rfl (og rfl (op_strslice rfl Tryd.underlying9 rfl (.so (n := fF s k) _ rfl (by omega)) (.so (n := k) _ rfl (by omega)) (by omega) (by omega) rfl)) ?_
                  refine rg_put (d := 52) (v := .d (.sl 1 (List.map rS [(s.extract (fF s k) k)]))) rfl (og rfl (of_eff (op_slices rfl Tryd.underlying43 ti9 rfl rfl rfl (by kernel_rfl) (xs := [.fl (.string ((s.extract (fF s k) k)))]) rfl rfl (.cons rfl rfl (.d _) rfl rfl rfl .nil) rfl) rfl)) ?_
                  refine rg_nam (d := 53) (v := .ow 104) (m := 104) (nw := [(104, .ow 9 1 (List.map rS (((fA s k) ++ [(s.extract (fF s k) k)])))), (201, .no)]) rfl (og rfl (s_append 104 rfl Tryd.underlying43 ti9 rfl rfl rfl rfl rfl (.d _) (by simp only [List.length_cons, List.length_nil]; omega) rfl)) rfl ?_
                  refine rg_put (d := 4) (v := .ow 104) rfl (og rfl (op_assign rfl rfl rfl)) ?_
                  refine rg_done rfl ?_
                  refine a_region ?_
                  refine rg_put (d := 54) (v := .d (.fl (.int .i64 (k : Int)))) rfl (og rfl (op_move rfl rfl rfl)) ?_
                  refine rg_put (d := 55) (v := .d (.fl (.int .i64 (((k : Int) + 1))))) rfl (og rfl (op_bin rfl rfl rfl (fun x y w => b_add64 _ _ _ x y w (by omega)) rfl)) ?_
                  refine rg_put (d := 5) (v := .d (.fl (.int .i64 (((k : Int) + 1))))) rfl (og rfl (op_assign rfl rfl rfl)) ?_
                  refine rg_done rfl ?_
                  show A _ _ _ _ _ _ _
                  refine a_region ?_
                  refine rg_put (d := 16) (v := .d (.fl (.int .i64 (k : Int)))) rfl (og rfl (op_move rfl rfl rfl)) ?_
                  refine rg_put (d := 17) (v := .d (.fl (.int .i64 (((k : Int) + 1))))) rfl (og rfl (op_bin rfl rfl rfl (fun x y w => b_add64 _ _ _ x y w (by omega)) rfl)) ?_
                  refine rg_put (d := 6) (v := .d (.fl (.int .i64 (((k : Int) + 1))))) rfl (og rfl (op_assign rfl rfl rfl)) ?_
                  refine rg_done rfl ?_
                  have hks : k = s.size := by omega
                  have hF1 : k + 1 = rF s (k + 1) := by rw [hks]; exact (if_neg (by omega)).symm
                  have hA1 : fA s k ++ [s.extract (fF s k) k] = rA s (k + 1) := by rw [hks]; exact (if_neg (by omega)).symm
                  show ∃ i, _ ∧ _ ∧ Imp _ _ _ _ _
                  refine ⟨k + 1, ⟨by omega, fun q h1 h2 => hq q (by omega) h2, fun _ => by rw [← hks]; omega⟩, by omega, imp_ren (fun m => bif Nat.beq m 201 then 104 else m) rfl ⟨rfl, rfl, rfl, rfl, (by rw [← hF1]; rfl), (by first | rfl | exact ci (by omega) | exact ci (by simp) | exact cd (by simp) | simp), trivial⟩ ⟨(congrArg (fun x => Ob.ow 9 1 (List.map rS x)) hA1), trivial⟩⟩
          · skip
            have h39 := t_dec h22
            refine rg_put (d := 28) (v := .d (.fl undef)) rfl (on rfl rfl rfl h22) ?_
            refine rg_put (d := 29) (v := .d (.fl undef)) rfl (on rfl rfl rfl h22) ?_
            refine rg_put (d := 30) (v := .d (.fl undef)) rfl (on rfl rfl rfl h22) ?_
            refine rg_put (d := 31) (v := .d (.fl undef)) rfl (on rfl rfl rfl h22) ?_
            refine rg_put (d := 32) (v := .d (.fl (.bool true))) rfl (oy rfl rfl rfl h7 (op_pick rfl rfl (by rw [h22]; rfl) rfl)) ?_
            refine rg_put (d := 33) (v := .d (.fl (.bool true))) rfl (og rfl (op_pick rfl rfl (by rw [h7]; rfl) rfl)) ?_
            refine rg_done rfl ?_
            refine a_condK rfl rfl ?_
            refine a_rseq ?_
            refine rg_put (d := 2) (v := .d (.fl (.slice none 0 0))) rfl (og rfl (op_assign rfl rfl rfl)) ?_
            refine rg_put (d := 3) (v := .d (.fl (.int .i64 5))) rfl (og rfl (op_assign rfl rfl rfl)) ?_
            refine rg_done rfl ?_
            refine a_ret ?_
            show ∃ ds, ResL _ _ _ ds ∧ RV.of ds = _
            refine ⟨[.sl 1 (List.map rS []), .fl (.int .i64 5)], (.cons (.tmp rfl (.cv (Cv.nil _))) (.cons (.tmp rfl (.d _)) .nil)), ?_⟩
            rw [fl_bad (k := k) (by omega) (by omega) (fB_bad (by omega))]; rfl
      · skip
        have h40 := f_dec h5
        refine a_exit ?_
        show A _ _ _ _ _ _ _
        refine a_rseq ?_
        refine rg_put (d := 56) (v := .ow 201) rfl (og rfl (op_move rfl rfl rfl)) ?_
        refine rg_put (d := 2) (v := .ow 201) rfl (og rfl (op_assign rfl rfl rfl)) ?_
        refine rg_put (d := 3) (v := .d (.fl (.int .i64 0))) rfl (og rfl (op_assign rfl rfl rfl)) ?_
        refine rg_done rfl ?_
        refine a_ret ?_
        show ∃ ds, ResL _ _ _ ds ∧ RV.of ds = _
        refine ⟨[.sl 1 (List.map rS (rA s k)), .fl (.int .i64 0)], (.cons (.tmp rfl (.ow rfl)) (.cons (.tmp rfl (.d _)) .nil)), ?_⟩
        have hks : k = s.size + 1 := by omega
        rw [fl_good (by omega) (by omega) (fun q h => hq q (by omega) h), if_neg (hl (by omega)), rA_end (by omega)]; rfl
end Go.Proofs.YtgelodnkfajgjaaDoor.Wk
