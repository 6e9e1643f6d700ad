/- Distances, the program. Conditions: as each theorem names them. -/
import Derived.Test.YtldglchpaookiaaDoorMd
set_option linter.unusedSimpArgs false
set_option linter.unusedVariables false
namespace Go.Proofs.YtldglchpaookiaaDoor.Wk
open Go Go.RowKit Go.Proofs.YtldglchpaookiaaDoor.Av
set_option maxHeartbeats 4000000 in
set_option maxRecDepth 100000 in
theorem hdP (s : ByteArray) (hs : s.size ≤ 60) : Ctr Tryd.prog 35 [.fl (.string s)] (.d (.fl (.string (hd s)))) := by
  refine ctr (n := 8) (rs := #[.tmp 2]) (L := [(0, .d (.fl (.string s)))]) Tryd.func35 rfl rfl rfl rfl rfl (fun w0 U0 => ?_)
  refine a_rseq ?_
  refine rg_put (d := 2) (v := .d (.fl (.string (⟨#[]⟩)))) rfl (og rfl (op_assign rfl rfl rfl)) ?_
  refine rg_done rfl ?_
  refine a_rseq ?_
  refine rg_put (d := 3) (v := .d (.fl (.string s))) rfl (og rfl (op_move rfl rfl rfl)) ?_
  refine rg_put (d := 4) (v := .d (.fl (.string s))) rfl (og rfl (op_move rfl rfl rfl)) ?_
  refine rg_put (d := 5) (v := .d (.fl (.int .i64 (s.size : Int)))) rfl (og rfl (op_len_str rfl Tryd.underlying9 rfl rfl)) ?_
  refine rg_put (d := 6) (v := .d (.fl (.int .i64 ((min (s.size : Int) 32))))) rfl (og rfl (op_min rfl rfl rfl rfl)) ?_
  refine rg_put (d := 7) (v := .d (.fl (.string ((s.extract 0 (((min (s.size : Int) 32)).toNat)))))) rfl (og rfl (op_strslice rfl Tryd.underlying9 rfl (.no _) (.so (n := ((min (s.size : Int) 32)).toNat) _ rfl (by omega)) (by omega) (by omega) rfl)) ?_
  refine rg_put (d := 2) (v := .d (.fl (.string ((s.extract 0 (((min (s.size : Int) 32)).toNat)))))) rfl (og rfl (op_assign rfl rfl rfl)) ?_
  refine rg_done rfl ?_
  refine a_ret ?_
  show ∃ ds, ResL _ _ _ ds ∧ RV.of ds = _
  refine ⟨[.fl (.string ((s.extract 0 (((min (s.size : Int) 32)).toNat))))], (.cons (.tmp rfl (.d _)) .nil), ?_⟩
  have hu : ByteArray.extract s 0 (min (s.size : Int) 32).toNat = hd s := by
    unfold hd
    by_cases h : 32 < s.size
    · rw [if_pos h, show (min (s.size : Int) 32).toNat = 32 by omega]
    · rw [if_neg h, show (min (s.size : Int) 32).toNat = s.size by omega, ext_all]
  exact congrArg (fun z => RV.d (.fl (.string z))) hu
set_option maxHeartbeats 4000000 in
set_option maxRecDepth 100000 in
theorem hdR (s : ByteArray) (hs : s.size ≤ 60) : Ctr Tryd.prog 33 [.fl (.string s)] (.d (.fl (.string (hd s)))) := by
  refine ctr (n := 9) (rs := #[.tmp 2]) (L := [(0, .d (.fl (.string s)))]) Tryd.func33 rfl rfl rfl rfl rfl (fun w0 U0 => ?_)
  refine a_rseq ?_
  refine rg_put (d := 2) (v := .d (.fl (.string (⟨#[]⟩)))) rfl (og rfl (op_assign rfl rfl rfl)) ?_
  refine rg_done rfl ?_
  refine a_seq ?_
  refine a_rseq ?_
  refine rg_put (d := 3) (v := .d (.fl (.string s))) rfl (og rfl (op_move rfl rfl rfl)) ?_
  refine rg_put (d := 4) (v := .d (.fl (.int .i64 (s.size : Int)))) rfl (og rfl (op_len_str rfl Tryd.underlying9 rfl rfl)) ?_
  refine rg_put (d := 5) (v := .d (.fl (.bool ((decide (32 < (s.size : Int))))))) rfl (og rfl (op_bin rfl rfl rfl (b_gtr _ _ _ _) rfl)) ?_
  refine rg_done rfl ?_
  refine a_cond rfl (fun h1 => ?_) (fun h1 => ?_)
  · skip
    have h2 := t_dec h1
    refine a_rseq ?_
    refine rg_put (d := 6) (v := .d (.fl (.string s))) rfl (og rfl (op_move rfl rfl rfl)) ?_
    refine rg_put (d := 7) (v := .d (.fl (.string (s.extract 0 32)))) rfl (og rfl (op_strslice rfl Tryd.underlying9 rfl (.no _) (.so (n := 32) _ rfl (by omega)) (by omega) (by omega) rfl)) ?_
    refine rg_put (d := 2) (v := .d (.fl (.string (s.extract 0 32)))) rfl (og rfl (op_assign rfl rfl rfl)) ?_
    refine rg_done rfl ?_
    refine a_ret ?_
    show ∃ ds, ResL _ _ _ ds ∧ RV.of ds = _
    refine ⟨[.fl (.string (s.extract 0 32))], (.cons (.tmp rfl (.d _)) .nil), ?_⟩
    have hu : hd s = s.extract 0 32 := by unfold hd; rw [if_pos (by omega)]
    rw [hu]; rfl
  · skip
    have h3 := f_dec h1
    refine a_skip ?_
    show A _ _ _ _ _ _ _
    refine a_rseq ?_
    refine rg_put (d := 8) (v := .d (.fl (.string s))) rfl (og rfl (op_move rfl rfl rfl)) ?_
    refine rg_put (d := 2) (v := .d (.fl (.string s))) rfl (og rfl (op_assign rfl rfl rfl)) ?_
    refine rg_done rfl ?_
    refine a_ret ?_
    show ∃ ds, ResL _ _ _ ds ∧ RV.of ds = _
    refine ⟨[.fl (.string s)], (.cons (.tmp rfl (.d _)) .nil), ?_⟩
    have hu : hd s = s := by unfold hd; rw [if_neg (by omega)]
    rw [hu]; rfl
set_option maxHeartbeats 4000000 in
set_option maxRecDepth 100000 in
theorem chgP (u v : Int) : Ctr Tryd.prog 53 [.mp CMD, .fl (.int .u8 u), .fl (.int .u8 v)] (.d (.fl (.int .i64 (chg u v)))) := by
  refine ctr (n := 16) (rs := #[.tmp 6]) (L := [(0, .d (.mp CMD)), (1, .d (.fl (.int .u8 u))), (2, .d (.fl (.int .u8 v)))]) Tryd.func53 rfl rfl rfl rfl rfl (fun w0 U0 => ?_)
  refine a_rseq ?_
  refine rg_put (d := 6) (v := .d (.fl (.int .i64 0))) rfl (og rfl (op_assign rfl rfl rfl)) ?_
  refine rg_done rfl ?_
  refine a_seq ?_
  refine a_block ?_
  refine a_rseq ?_
  refine rg_put (d := 8) (v := .d (.fl (.int .u8 u))) rfl (og rfl (op_move rfl rfl rfl)) ?_
  refine rg_put (d := 9) (v := .d (.fl (.int .u8 v))) rfl (og rfl (op_move rfl rfl rfl)) ?_
  refine rg_put (d := 10) (v := .d (.fl (.bool (u == v)))) rfl (og rfl (op_bin rfl rfl rfl (b_eql _ _ _ _) rfl)) ?_
  refine rg_put (d := 7) (v := .d (.fl (.bool (u == v)))) rfl (og rfl (op_assign rfl rfl rfl)) ?_
  refine rg_done rfl ?_
  refine a_cond rfl (fun h1 => ?_) (fun h1 => ?_)
  · skip
    have h2 := t_beq h1
    refine a_rseq ?_
    refine rg_put (d := 6) (v := .d (.fl (.int .i64 0))) rfl (og rfl (op_assign rfl rfl rfl)) ?_
    refine rg_done rfl ?_
    refine a_ret ?_
    show ∃ ds, ResL _ _ _ ds ∧ RV.of ds = _
    refine ⟨[.fl (.int .i64 0)], (.cons (.tmp rfl (.d _)) .nil), ?_⟩
    first
      | (have hu : chg u v = 0 := by
          unfold chg; simp only [h1, Bool.true_or, Bool.false_or, Bool.or_true, Bool.or_false, Bool.not_true, Bool.not_false, cond_true, cond_false, Bool.true_and, Bool.false_and, Bool.and_true, Bool.and_false] <;> rfl
         rw [hu]; rfl)
      | (exfalso; omega)
  · skip
    have h3 := f_beq h1
    refine a_rseq ?_
    refine rg_put (d := 12) (v := .d (.mp CMD)) rfl (og rfl (op_move rfl rfl rfl)) ?_
    refine rg_put (d := 13) (v := .d (.fl (.int .u8 u))) rfl (og rfl (op_move rfl rfl rfl)) ?_
    refine rg_put (d := 14) (v := .d (.fl (.int .u8 v))) rfl (og rfl (op_move rfl rfl rfl)) ?_
    refine rg_put (d := 15) (v := .d (.fl (.bool (lk u v)))) rfl (og rfl (op_call rfl Tryd.func31 nm31 rfl (.cons rfl (.d _) (.cons rfl (.d _) (.cons rfl (.d _) .nil))) (lk31 u v) rfl)) ?_
    refine rg_put (d := 11) (v := .d (.fl (.bool (lk u v)))) rfl (og rfl (op_assign rfl rfl rfl)) ?_
    refine rg_done rfl ?_
    refine a_cond rfl (fun h4 => ?_) (fun h4 => ?_)
    · skip
      refine a_rseq ?_
      refine rg_put (d := 6) (v := .d (.fl (.int .i64 1))) rfl (og rfl (op_assign rfl rfl rfl)) ?_
      refine rg_done rfl ?_
      refine a_ret ?_
      show ∃ ds, ResL _ _ _ ds ∧ RV.of ds = _
      refine ⟨[.fl (.int .i64 1)], (.cons (.tmp rfl (.d _)) .nil), ?_⟩
      first
        | (have hu : chg u v = 1 := by
            unfold chg; simp only [h1, h4, Bool.true_or, Bool.false_or, Bool.or_true, Bool.or_false, Bool.not_true, Bool.not_false, cond_true, cond_false, Bool.true_and, Bool.false_and, Bool.and_true, Bool.and_false] <;> rfl
           rw [hu]; rfl)
        | (exfalso; omega)
    · skip
      refine a_skip ?_
      show A _ _ _ _ _ _ _
      refine a_rseq ?_
      refine rg_put (d := 6) (v := .d (.fl (.int .i64 3))) rfl (og rfl (op_assign rfl rfl rfl)) ?_
      refine rg_done rfl ?_
      refine a_ret ?_
      show ∃ ds, ResL _ _ _ ds ∧ RV.of ds = _
      refine ⟨[.fl (.int .i64 3)], (.cons (.tmp rfl (.d _)) .nil), ?_⟩
      first
        | (have hu : chg u v = 3 := by
            unfold chg; simp only [h1, h4, Bool.true_or, Bool.false_or, Bool.or_true, Bool.or_false, Bool.not_true, Bool.not_false, cond_true, cond_false, Bool.true_and, Bool.false_and, Bool.and_true, Bool.and_false] <;> rfl
           rw [hu]; rfl)
        | (exfalso; omega)
set_option maxHeartbeats 4000000 in
set_option maxRecDepth 100000 in
theorem dsP (a b : ByteArray) (ha : a.size ≤ 60) (hb : b.size ≤ 60) : Ctr Tryd.prog 32 [.mp CMD, .fl (.string a), .fl (.string b)] (.d (.fl (.int .i64 (dst a b)))) := by
  refine ctr (n := 92) (rs := #[.tmp 6]) (L := [(0, .d (.mp CMD)), (1, .d (.fl (.string a))), (2, .d (.fl (.string b)))]) Tryd.func32 rfl rfl rfl rfl rfl (fun w0 U0 => ?_)
  refine a_rseq ?_
  refine rg_put (d := 6) (v := .d (.fl (.int .i64 0))) rfl (og rfl (op_assign rfl rfl rfl)) ?_
  refine rg_done rfl ?_
  refine a_rseq ?_
  refine rg_put (d := 13) (v := .d (.fl (.string a))) rfl (og rfl (op_move rfl rfl rfl)) ?_
  refine rg_put (d := 14) (v := .d (.fl (.string (hd a)))) rfl (og rfl (op_call rfl Tryd.func35 nm35 rfl (.cons rfl (.d _) .nil) (hdP a (by omega)) rfl)) ?_
  refine rg_put (d := 15) (v := .d (.fl (.string b))) rfl (og rfl (op_move rfl rfl rfl)) ?_
  refine rg_put (d := 16) (v := .d (.fl (.string (hd b)))) rfl (og rfl (op_call rfl Tryd.func35 nm35 rfl (.cons rfl (.d _) .nil) (hdP b (by omega)) rfl)) ?_
  refine rg_put (d := 1) (v := .d (.fl (.string (hd a)))) rfl (og rfl (op_assign rfl rfl rfl)) ?_
  refine rg_put (d := 2) (v := .d (.fl (.string (hd b)))) rfl (og rfl (op_assign rfl rfl rfl)) ?_
  refine rg_done rfl ?_
  refine a_seq ?_
  refine a_rseq ?_
  have hza := hd_sz a
  have hzb := hd_sz b
  refine rg_put (d := 17) (v := .d (.fl (.string (hd a)))) rfl (og rfl (op_move rfl rfl rfl)) ?_
  refine rg_put (d := 18) (v := .d (.fl (.string (hd b)))) rfl (og rfl (op_move rfl rfl rfl)) ?_
  refine rg_put (d := 19) (v := .d (.fl (.bool ((sEq (hd a) (hd b)))))) rfl (og rfl (op_bin rfl rfl rfl (b_seq _ _ _) rfl)) ?_
  refine rg_done rfl ?_
  refine a_cond rfl (fun h1 => ?_) (fun h1 => ?_)
  · skip
    refine a_rseq ?_
    refine rg_put (d := 6) (v := .d (.fl (.int .i64 0))) rfl (og rfl (op_assign rfl rfl rfl)) ?_
    refine rg_done rfl ?_
    refine a_ret ?_
    show ∃ ds, ResL _ _ _ ds ∧ RV.of ds = _
    refine ⟨[.fl (.int .i64 0)], (.cons (.tmp rfl (.d _)) .nil), ?_⟩
    have he := sEq_eq h1
    have hu : dst a b = 0 := by unfold dst; rw [he]; exact dd_same _ _
    rw [hu]; rfl
  · skip
    refine a_skip ?_
    show A _ _ _ _ _ _ _
    refine a_rseq ?_
    refine rg_put (d := 20) (v := .d (.fl (.string (hd b)))) rfl (og rfl (op_move rfl rfl rfl)) ?_
    refine rg_put (d := 21) (v := .d (.fl (.int .i64 (((hd b).size : Int))))) rfl (og rfl (op_len_str rfl Tryd.underlying9 rfl rfl)) ?_
    refine rg_put (d := 22) (v := .d (.fl (.int .i64 ((((hd b).size : Int) + 1))))) rfl (og rfl (op_bin rfl rfl rfl (fun x y w => b_add64 _ _ _ x y w (by omega)) rfl)) ?_
    refine rg_nam (d := 23) (v := .ow 101) (m := 101) (nw := [(101, .tr 3 1 (tD (rI .i64) ((List.replicate (((((hd b).size : Int) + 1)).toNat) 0))))]) rfl (og rfl (of_eff (op_makeI 101 rfl Tryd.underlying37 ti3 (n := ((((hd b).size : Int) + 1)).toNat) rfl rfl (by omega) (by omega) (by omega) (by omega) rfl) rfl)) rfl ?_
    refine rg_put (d := 7) (v := .ow 101) rfl (og rfl (op_assign rfl rfl rfl)) ?_
    refine rg_done rfl ?_
    refine a_seq ?_
    refine a_rseq ?_
    have hrp : ((List.replicate (((((hd b).size : Int) + 1)).toNat) 0) : List Int).length = (hd b).size + 1 := by rw [List.length_replicate]; omega
    refine rg_put (d := 24) (v := .ow 101) rfl (og rfl (op_move rfl rfl rfl)) ?_
    refine rg_put (d := 25) (v := .d (.fl (.int .i64 ((((List.replicate (((((hd b).size : Int) + 1)).toNat) 0)).length : Int))))) rfl (og rfl (op_len_tr rfl Tryd.underlying37 rfl rfl tD_len rfl)) ?_
    refine rg_put (d := 26) (v := .d (.fl (.int .i64 0))) rfl (og rfl (op_move rfl rfl rfl)) ?_
    refine rg_done rfl ?_
    refine a_block ?_
    refine a_loop (ι := Nat) (fun k => SS [(0, .d (.mp CMD)), (1, .d (.fl (.string (hd a)))), (2, .d (.fl (.string (hd b)))), (6, .d (.fl (.int .i64 0))), (7, .ow 101), (19, .d (.fl (.bool ((sEq (hd a) (hd b)))))), (25, .d (.fl (.int .i64 ((((List.replicate (((((hd b).size : Int) + 1)).toNat) 0)).length : Int))))), (26, .d (.fl (.int .i64 (k : Int))))] [(101, .tr 3 1 (tD (rI .i64) ((rg ((hd b).size + 1) (ini k)))))]) (fun k => k ≤ (hd b).size + 1) (fun k => (hd b).size + 1 - k) 0 (by omega) (imp_forget rfl ⟨rfl, rfl, rfl, rfl, rfl, rfl, rfl, (by first | rfl | exact ci (by omega) | exact ci (by simp) | exact cd (by simp) | simp), trivial⟩ ⟨(congrArg (fun z => Ob.tr 3 1 (tD (rI .i64) z)) ((rg_rep _ _).trans (rg_cong (fun q _ => by simp [ini])))), trivial⟩) (fun k hok => ?_)
    have hk := hok
    have hrl := rg_len ((hd b).size + 1) (ini k)
    refine a_rseq ?_
    refine rg_put (d := 27) (v := .d (.fl (.bool ((decide ((k : Int) < (((List.replicate (((((hd b).size : Int) + 1)).toNat) 0)).length : Int))))))) rfl (og rfl (op_bin rfl rfl rfl (b_lss _ _ _ _) rfl)) ?_
    refine rg_done rfl ?_
    refine a_seq ?_
    refine a_cond rfl (fun h2 => ?_) (fun h2 => ?_)
    · skip
      have h3 := t_dec h2
      refine a_skip ?_
      show A _ _ _ _ _ _ _
      refine a_seq ?_
      refine a_block ?_
      refine a_rseq ?_
      refine rg_put (d := 28) (v := .d (.fl (.int .i64 (k : Int)))) rfl (og rfl (op_move rfl rfl rfl)) ?_
      refine rg_put (d := 8) (v := .d (.fl (.int .i64 (k : Int)))) rfl (og rfl (op_assign rfl rfl rfl)) ?_
      refine rg_done rfl ?_
      refine a_region ?_
      refine rg_put (d := 29) (v := .ow 101) rfl (og rfl (op_move rfl rfl rfl)) ?_
      refine rg_put (d := 30) (v := .d (.fl (.int .i64 (k : Int)))) rfl (og rfl (op_move rfl rfl rfl)) ?_
      refine rg_put (d := 31) (v := .d (.fl (.int .i64 (k : Int)))) rfl (og rfl (op_move rfl rfl rfl)) ?_
      refine rg_put (d := 32) (v := .d (.fl (.int .i64 (((k : Int) * 3))))) rfl (og rfl (op_bin rfl rfl rfl (fun x y w => b_mul64 _ _ _ x y w (by omega)) rfl)) ?_
      refine rg_put (d := 33) (v := .pe 101 1 k 0) rfl (og rfl (op_index_tr rfl Tryd.underlying37 ti3 rfl rfl rfl (get_lt (tD_at (by omega))) rfl)) ?_
      refine rg_sto (nw := [(101, .tr 3 1 ((((tD (rI .i64) ((rg ((hd b).size + 1) (ini k))))).set k [.dv (.fl (.int .i64 (((k : Int) * 3))))])))]) rfl (og rfl (of_eff (op_store_pe rfl rfl ti3 rfl rfl (tD_at (by omega)) rfl (.d rfl) rfl rfl rfl) rfl)) ?_
      refine rg_done rfl ?_
      show A _ _ _ _ _ _ _
      refine a_region ?_
      refine rg_put (d := 34) (v := .d (.fl (.int .i64 (((k : Int) + 1))))) rfl (og rfl (op_bin rfl rfl rfl (fun x y w => b_add64 _ _ _ x y w (by omega)) rfl)) ?_
      refine rg_put (d := 26) (v := .d (.fl (.int .i64 (((k : Int) + 1))))) rfl (og rfl (op_move rfl rfl rfl)) ?_
      refine rg_done rfl ?_
      show ∃ i, _ ∧ _ ∧ Imp _ _ _ _ _
      refine ⟨k + 1, (by omega), by omega, imp_forget rfl ⟨rfl, rfl, rfl, rfl, rfl, rfl, rfl, (by first | rfl | exact ci (by omega) | exact ci (by simp) | exact cd (by simp) | simp), trivial⟩ ⟨(congrArg (fun z => Ob.tr 3 1 z) (rg_set (v := (k : Int) * 3) (by omega) rfl (by unfold ini; rw [if_pos (by omega)]; omega) (fun q _ hq => by unfold ini; by_cases h9 : q < k <;> simp only [h9, if_true, if_false] <;> first | (rw [if_pos (by omega)]) | (rw [if_neg (by omega)])))), trivial⟩⟩
    · skip
      have h4 := f_dec h2
      refine a_exit ?_
      show A _ _ _ _ _ _ _
      refine a_seq ?_
      refine a_rseq ?_
      refine rg_put (d := 35) (v := .d (.fl (.string (hd a)))) rfl (og rfl (op_move rfl rfl rfl)) ?_
      refine rg_put (d := 36) (v := .d (.fl (.int .i64 (((hd a).size : Int))))) rfl (og rfl (op_len_str rfl Tryd.underlying9 rfl rfl)) ?_
      refine rg_put (d := 37) (v := .d (.fl (.int .i64 0))) rfl (og rfl (op_move rfl rfl rfl)) ?_
      refine rg_done rfl ?_
      refine a_block ?_
      refine a_loop (ι := Nat) (fun i => SS [(0, .d (.mp CMD)), (1, .d (.fl (.string (hd a)))), (2, .d (.fl (.string (hd b)))), (6, .d (.fl (.int .i64 0))), (7, .ow 101), (19, .d (.fl (.bool ((sEq (hd a) (hd b)))))), (25, .d (.fl (.int .i64 ((((List.replicate (((((hd b).size : Int) + 1)).toNat) 0)).length : Int))))), (26, .d (.fl (.int .i64 (k : Int)))), (27, .d (.fl (.bool ((decide ((k : Int) < (((List.replicate (((((hd b).size : Int) + 1)).toNat) 0)).length : Int))))))), (36, .d (.fl (.int .i64 (((hd a).size : Int))))), (37, .d (.fl (.int .i64 (i : Int))))] [(101, .tr 3 1 (tD (rI .i64) ((rg ((hd b).size + 1) (dd (hd a) (hd b) i)))))]) (fun i => i ≤ (hd a).size) (fun i => (hd a).size - i) 0 (by omega) (imp_forget rfl ⟨rfl, rfl, rfl, rfl, rfl, rfl, rfl, rfl, rfl, rfl, (by first | rfl | exact ci (by omega) | exact ci (by simp) | exact cd (by simp) | simp), trivial⟩ ⟨(congrArg (fun z => Ob.tr 3 1 (tD (rI .i64) z)) (rg_cong (fun q hq => by unfold ini; rw [if_pos (by omega)]; simp only [dd]))), trivial⟩) (fun i hok => ?_)
      have hki := hok
      have hrl := rg_len ((hd b).size + 1) (dd (hd a) (hd b) i)
      have hx0 := rg_ix (n := ((hd b).size + 1)) (f := dd (hd a) (hd b) i) (q := 0) (by omega)
      have hd0 := dd_0 (hd a) (hd b) i
      refine a_rseq ?_
      refine rg_put (d := 38) (v := .d (.fl (.bool ((decide ((i : Int) < ((hd a).size : Int))))))) rfl (og rfl (op_bin rfl rfl rfl (b_lss _ _ _ _) rfl)) ?_
      refine rg_done rfl ?_
      refine a_seq ?_
      refine a_cond rfl (fun h5 => ?_) (fun h5 => ?_)
      · skip
        have h6 := t_dec h5
        refine a_skip ?_
        show A _ _ _ _ _ _ _
        refine a_seq ?_
        refine a_block ?_
        refine a_rseq ?_
        refine rg_put (d := 39) (v := .d (.fl (.int .i64 (i : Int)))) rfl (og rfl (op_move rfl rfl rfl)) ?_
        refine rg_put (d := 9) (v := .d (.fl (.int .i64 (i : Int)))) rfl (og rfl (op_assign rfl rfl rfl)) ?_
        refine rg_done rfl ?_
        refine a_rseq ?_
        refine rg_put (d := 40) (v := .ow 101) rfl (og rfl (op_move rfl rfl rfl)) ?_
        refine rg_put (d := 41) (v := .pe 101 1 0 0) rfl (og rfl (op_index_tr rfl Tryd.underlying37 ti3 rfl rfl rfl (get_lt (tD_at (by omega))) rfl)) ?_
        refine rg_put (d := 42) (v := .d (.fl (.int .i64 ((ix ((rg ((hd b).size + 1) (dd (hd a) (hd b) i))) 0))))) rfl (og rfl (of_eff (op_load_pe rfl Tryd.underlying3 rfl rfl rfl (tD_at (by omega)) rfl rfl) rfl)) ?_
        refine rg_put (d := 10) (v := .d (.fl (.int .i64 ((ix ((rg ((hd b).size + 1) (dd (hd a) (hd b) i))) 0))))) rfl (og rfl (op_assign rfl rfl rfl)) ?_
        refine rg_done rfl ?_
        refine a_rseq ?_
        refine rg_put (d := 43) (v := .ow 101) rfl (og rfl (op_move rfl rfl rfl)) ?_
        refine rg_put (d := 44) (v := .pe 101 1 0 0) rfl (og rfl (op_index_tr rfl Tryd.underlying37 ti3 rfl rfl rfl (get_lt (tD_at (by omega))) rfl)) ?_
        refine rg_put (d := 45) (v := .d (.fl (.int .i64 ((ix ((rg ((hd b).size + 1) (dd (hd a) (hd b) i))) 0))))) rfl (og rfl (of_eff (op_load_pe rfl Tryd.underlying3 rfl rfl rfl (tD_at (by omega)) rfl rfl) rfl)) ?_
        refine rg_put (d := 46) (v := .d (.fl (.int .i64 (((ix ((rg ((hd b).size + 1) (dd (hd a) (hd b) i))) 0) + 3))))) rfl (og rfl (op_bin rfl rfl rfl (fun x y w => b_add64 _ _ _ x y w (by omega)) rfl)) ?_
        refine rg_put (d := 47) (v := .pe 101 1 0 0) rfl (og rfl (op_index_tr rfl Tryd.underlying37 ti3 rfl rfl rfl (get_lt (tD_at (by omega))) rfl)) ?_
        refine rg_sto (nw := [(101, .tr 3 1 ((((tD (rI .i64) ((rg ((hd b).size + 1) (dd (hd a) (hd b) i))))).set 0 [.dv (.fl (.int .i64 (((ix ((rg ((hd b).size + 1) (dd (hd a) (hd b) i))) 0) + 3))))])))]) rfl (og rfl (of_eff (op_store_pe rfl rfl ti3 rfl rfl (tD_at (by omega)) rfl (.d rfl) rfl rfl rfl) rfl)) ?_
        refine rg_done rfl ?_
        refine a_rseq ?_
        refine rg_put (d := 48) (v := .d (.fl (.string (hd b)))) rfl (og rfl (op_move rfl rfl rfl)) ?_
        refine rg_put (d := 49) (v := .d (.fl (.int .i64 (((hd b).size : Int))))) rfl (og rfl (op_len_str rfl Tryd.underlying9 rfl rfl)) ?_
        refine rg_put (d := 50) (v := .d (.fl (.int .i64 0))) rfl (og rfl (op_move rfl rfl rfl)) ?_
        refine rg_done rfl ?_
        refine a_block ?_
        refine a_loop (ι := Nat) (fun j => SS [(0, .d (.mp CMD)), (1, .d (.fl (.string (hd a)))), (2, .d (.fl (.string (hd b)))), (6, .d (.fl (.int .i64 0))), (7, .ow 101), (9, .d (.fl (.int .i64 (i : Int)))), (19, .d (.fl (.bool ((sEq (hd a) (hd b)))))), (25, .d (.fl (.int .i64 ((((List.replicate (((((hd b).size : Int) + 1)).toNat) 0)).length : Int))))), (26, .d (.fl (.int .i64 (k : Int)))), (27, .d (.fl (.bool ((decide ((k : Int) < (((List.replicate (((((hd b).size : Int) + 1)).toNat) 0)).length : Int))))))), (36, .d (.fl (.int .i64 (((hd a).size : Int))))), (37, .d (.fl (.int .i64 (i : Int)))), (38, .d (.fl (.bool ((decide ((i : Int) < ((hd a).size : Int))))))), (49, .d (.fl (.int .i64 (((hd b).size : Int))))), (50, .d (.fl (.int .i64 (j : Int)))), (10, .d (.fl (.int .i64 ((dd (hd a) (hd b) i j)))))] [(101, .tr 3 1 (tD (rI .i64) ((rg ((hd b).size + 1) (mx (hd a) (hd b) i j)))))]) (fun j => j ≤ (hd b).size) (fun j => (hd b).size - j) 0 (by omega) (imp_forget rfl ⟨rfl, rfl, rfl, rfl, rfl, rfl, rfl, rfl, rfl, rfl, rfl, rfl, rfl, rfl, (by first | rfl | exact ci (by omega) | exact ci (by simp) | exact cd (by simp) | simp), (congrArg (fun z => AV.d (.fl (.int .i64 z))) hx0), trivial⟩ ⟨(congrArg (fun z => Ob.tr 3 1 z) (rg_set (by omega) rfl (by unfold mx; rw [if_pos (by omega)]; rw [dd_0]; omega) (fun q _ hq => by unfold mx; rw [if_neg (by omega)]))), trivial⟩) (fun j hok => ?_)
        have hkj := hok
        have hrl2 := rg_len ((hd b).size + 1) (mx (hd a) (hd b) i j)
        have e1 : j < (hd b).size → ix (rg ((hd b).size + 1) (mx (hd a) (hd b) i j)) j = dd (hd a) (hd b) (i + 1) j := fun h => by rw [rg_ix (by omega)]; unfold mx; rw [if_pos (by omega)]
        have e2 : j < (hd b).size → ix (rg ((hd b).size + 1) (mx (hd a) (hd b) i j)) (j + 1) = dd (hd a) (hd b) i (j + 1) := fun h => by rw [rg_ix (by omega)]; unfold mx; rw [if_neg (by omega)]
        have b1 := dd_in (hd a) (hd b) i j
        have b2 := dd_in (hd a) (hd b) (i + 1) j
        have b3 := dd_in (hd a) (hd b) i (j + 1)
        have b4 := chg_in ((bt (hd a) i).toNat : Int) ((bt (hd b) j).toNat : Int)
        refine a_rseq ?_
        refine rg_put (d := 51) (v := .d (.fl (.bool ((decide ((j : Int) < ((hd b).size : Int))))))) rfl (og rfl (op_bin rfl rfl rfl (b_lss _ _ _ _) rfl)) ?_
        refine rg_done rfl ?_
        refine a_seq ?_
        refine a_cond rfl (fun h7 => ?_) (fun h7 => ?_)
        · skip
          have h8 := t_dec h7
          refine a_skip ?_
          show A _ _ _ _ _ _ _
          refine a_seq ?_
          refine a_block ?_
          refine a_rseq ?_
          refine rg_put (d := 52) (v := .d (.fl (.int .i64 (j : Int)))) rfl (og rfl (op_move rfl rfl rfl)) ?_
          refine rg_put (d := 11) (v := .d (.fl (.int .i64 (j : Int)))) rfl (og rfl (op_assign rfl rfl rfl)) ?_
          refine rg_done rfl ?_
          refine a_dseq (by kernel_rfl) ?_
          have e1h := e1 (by omega)
          have e3h : ix (rg ((hd b).size + 1) (mx (hd a) (hd b) i j)) (((j : Int) + 1)).toNat = dd (hd a) (hd b) i (j + 1) := by rw [show (((j : Int) + 1)).toNat = j + 1 by omega]; exact e2 (by omega)
          refine dr_put (d := 53) (v := .d (.fl (.int .i64 ((dd (hd a) (hd b) i j))))) rfl (og rfl (op_move rfl rfl rfl)) ?_
          refine dr_put (d := 54) (v := .d (.mp CMD)) rfl (og rfl (op_move rfl rfl rfl)) ?_
          refine dr_put (d := 55) (v := .d (.fl (.string (hd a)))) rfl (og rfl (op_move rfl rfl rfl)) ?_
          refine dr_put (d := 56) (v := .d (.fl (.int .i64 (i : Int)))) rfl (og rfl (op_move rfl rfl rfl)) ?_
          refine dr_put (d := 57) (v := .d (.fl (.int .u8 (((bt (hd a) i).toNat : Int))))) rfl (og rfl (op_strindex rfl Tryd.underlying9 rfl rfl (by omega) (byte_ix (by omega)) rfl)) ?_
          refine dr_put (d := 58) (v := .d (.fl (.string (hd b)))) rfl (og rfl (op_move rfl rfl rfl)) ?_
          refine dr_put (d := 59) (v := .d (.fl (.int .i64 (j : Int)))) rfl (og rfl (op_move rfl rfl rfl)) ?_
          refine dr_put (d := 60) (v := .d (.fl (.int .u8 (((bt (hd b) j).toNat : Int))))) rfl (og rfl (op_strindex rfl Tryd.underlying9 rfl rfl (by omega) (byte_ix (by omega)) rfl)) ?_
          refine dr_put (d := 61) (v := .d (.fl (.int .i64 ((chg (((bt (hd a) i).toNat : Int)) (((bt (hd b) j).toNat : Int))))))) rfl (og rfl (op_call rfl Tryd.func53 nm53 rfl (.cons rfl (.d _) (.cons rfl (.d _) (.cons rfl (.d _) .nil))) (chgP (((bt (hd a) i).toNat : Int)) (((bt (hd b) j).toNat : Int))) rfl)) ?_
          refine dr_put (d := 62) (v := .d (.fl (.int .i64 (((dd (hd a) (hd b) i j) + (chg (((bt (hd a) i).toNat : Int)) (((bt (hd b) j).toNat : Int)))))))) rfl (og rfl (op_bin rfl rfl rfl (fun x y w => b_add64 _ _ _ x y w (by omega)) rfl)) ?_
          refine dr_put (d := 63) (v := .ow 101) rfl (og rfl (op_move rfl rfl rfl)) ?_
          refine dr_put (d := 64) (v := .d (.fl (.int .i64 (j : Int)))) rfl (og rfl (op_move rfl rfl rfl)) ?_
          refine dr_put (d := 65) (v := .pe 101 1 j 0) rfl (og rfl (op_index_tr rfl Tryd.underlying37 ti3 rfl rfl rfl (get_lt (tD_at (by omega))) rfl)) ?_
          refine dr_put (d := 66) (v := .d (.fl (.int .i64 ((ix ((rg ((hd b).size + 1) (mx (hd a) (hd b) i j))) j))))) rfl (og rfl (of_eff (op_load_pe rfl Tryd.underlying3 rfl rfl rfl (tD_at (by omega)) rfl rfl) rfl)) ?_
          refine dr_put (d := 67) (v := .d (.fl (.int .i64 (((ix ((rg ((hd b).size + 1) (mx (hd a) (hd b) i j))) j) + 3))))) rfl (og rfl (op_bin rfl rfl rfl (fun x y w => b_add64 _ _ _ x y w (by omega)) rfl)) ?_
          refine dr_put (d := 68) (v := .ow 101) rfl (og rfl (op_move rfl rfl rfl)) ?_
          refine dr_put (d := 69) (v := .d (.fl (.int .i64 (j : Int)))) rfl (og rfl (op_move rfl rfl rfl)) ?_
          refine dr_put (d := 70) (v := .d (.fl (.int .i64 (((j : Int) + 1))))) rfl (og rfl (op_bin rfl rfl rfl (fun x y w => b_add64 _ _ _ x y w (by omega)) rfl)) ?_
          refine dr_put (d := 71) (v := .pe 101 1 ((((j : Int) + 1)).toNat) 0) rfl (og rfl (op_index_trI rfl Tryd.underlying37 ti3 rfl rfl rfl (by omega) (get_lt (tD_at (by omega))) rfl)) ?_
          refine dr_put (d := 72) (v := .d (.fl (.int .i64 ((ix ((rg ((hd b).size + 1) (mx (hd a) (hd b) i j))) ((((j : Int) + 1)).toNat)))))) rfl (og rfl (of_eff (op_load_pe rfl Tryd.underlying3 rfl rfl rfl (tD_at (by omega)) rfl rfl) rfl)) ?_
          refine dr_put (d := 73) (v := .d (.fl (.int .i64 (((ix ((rg ((hd b).size + 1) (mx (hd a) (hd b) i j))) ((((j : Int) + 1)).toNat)) + 3))))) rfl (og rfl (op_bin rfl rfl rfl (fun x y w => b_add64 _ _ _ x y w (by omega)) rfl)) ?_
          refine dr_put (d := 74) (v := .d (.fl (.int .i64 ((min (min (((dd (hd a) (hd b) i j) + (chg (((bt (hd a) i).toNat : Int)) (((bt (hd b) j).toNat : Int))))) (((ix ((rg ((hd b).size + 1) (mx (hd a) (hd b) i j))) j) + 3))) (((ix ((rg ((hd b).size + 1) (mx (hd a) (hd b) i j))) ((((j : Int) + 1)).toNat)) + 3))))))) rfl (og rfl (op_min3 rfl rfl rfl rfl rfl)) ?_
          refine dr_put (d := 12) (v := .d (.fl (.int .i64 ((min (min (((dd (hd a) (hd b) i j) + (chg (((bt (hd a) i).toNat : Int)) (((bt (hd b) j).toNat : Int))))) (((ix ((rg ((hd b).size + 1) (mx (hd a) (hd b) i j))) j) + 3))) (((ix ((rg ((hd b).size + 1) (mx (hd a) (hd b) i j))) ((((j : Int) + 1)).toNat)) + 3))))))) rfl (og rfl (op_assign rfl rfl rfl)) ?_
          refine dr_done rfl (sepB_of [0, 0, 0, 0, 12, 0, 0, 96, 254, 511, 0, 0, 3072, 7168, 15360, 0, 0, 65536, 229376, 491520, 1015808, 2097151, 4194303] (by kernel_rfl)) (by kernel_rfl) ?_
          refine a_region ?_
          refine rg_put (d := 75) (v := .ow 101) rfl (og rfl (op_move rfl rfl rfl)) ?_
          refine rg_put (d := 76) (v := .d (.fl (.int .i64 (j : Int)))) rfl (og rfl (op_move rfl rfl rfl)) ?_
          refine rg_put (d := 77) (v := .d (.fl (.int .i64 (((j : Int) + 1))))) rfl (og rfl (op_bin rfl rfl rfl (fun x y w => b_add64 _ _ _ x y w (by omega)) rfl)) ?_
          refine rg_put (d := 78) (v := .ow 101) rfl (og rfl (op_move rfl rfl rfl)) ?_
          refine rg_put (d := 79) (v := .d (.fl (.int .i64 (j : Int)))) rfl (og rfl (op_move rfl rfl rfl)) ?_
          refine rg_put (d := 80) (v := .d (.fl (.int .i64 (((j : Int) + 1))))) rfl (og rfl (op_bin rfl rfl rfl (fun x y w => b_add64 _ _ _ x y w (by omega)) rfl)) ?_
          refine rg_put (d := 81) (v := .pe 101 1 ((((j : Int) + 1)).toNat) 0) rfl (og rfl (op_index_trI rfl Tryd.underlying37 ti3 rfl rfl rfl (by omega) (get_lt (tD_at (by omega))) rfl)) ?_
          refine rg_put (d := 82) (v := .d (.fl (.int .i64 ((ix ((rg ((hd b).size + 1) (mx (hd a) (hd b) i j))) ((((j : Int) + 1)).toNat)))))) rfl (og rfl (of_eff (op_load_pe rfl Tryd.underlying3 rfl rfl rfl (tD_at (by omega)) rfl rfl) rfl)) ?_
          refine rg_put (d := 83) (v := .d (.fl (.int .i64 ((min (min (((dd (hd a) (hd b) i j) + (chg (((bt (hd a) i).toNat : Int)) (((bt (hd b) j).toNat : Int))))) (((ix ((rg ((hd b).size + 1) (mx (hd a) (hd b) i j))) j) + 3))) (((ix ((rg ((hd b).size + 1) (mx (hd a) (hd b) i j))) ((((j : Int) + 1)).toNat)) + 3))))))) rfl (og rfl (op_move rfl rfl rfl)) ?_
          refine rg_put (d := 10) (v := .d (.fl (.int .i64 ((ix ((rg ((hd b).size + 1) (mx (hd a) (hd b) i j))) ((((j : Int) + 1)).toNat)))))) rfl (og rfl (op_assign rfl rfl rfl)) ?_
          refine rg_put (d := 84) (v := .pe 101 1 ((((j : Int) + 1)).toNat) 0) rfl (og rfl (op_index_trI rfl Tryd.underlying37 ti3 rfl rfl rfl (by omega) (get_lt (tD_at (by omega))) rfl)) ?_
          refine rg_sto (nw := [(101, .tr 3 1 ((((tD (rI .i64) ((rg ((hd b).size + 1) (mx (hd a) (hd b) i j))))).set ((((j : Int) + 1)).toNat) [.dv (.fl (.int .i64 ((min (min (((dd (hd a) (hd b) i j) + (chg (((bt (hd a) i).toNat : Int)) (((bt (hd b) j).toNat : Int))))) (((ix ((rg ((hd b).size + 1) (mx (hd a) (hd b) i j))) j) + 3))) (((ix ((rg ((hd b).size + 1) (mx (hd a) (hd b) i j))) ((((j : Int) + 1)).toNat)) + 3))))))])))]) rfl (og rfl (of_eff (op_store_pe rfl rfl ti3 rfl rfl (tD_at (by omega)) rfl (.d rfl) rfl rfl rfl) rfl)) ?_
          refine rg_done rfl ?_
          show A _ _ _ _ _ _ _
          refine a_region ?_
          refine rg_put (d := 85) (v := .d (.fl (.int .i64 (((j : Int) + 1))))) rfl (og rfl (op_bin rfl rfl rfl (fun x y w => b_add64 _ _ _ x y w (by omega)) rfl)) ?_
          refine rg_put (d := 50) (v := .d (.fl (.int .i64 (((j : Int) + 1))))) rfl (og rfl (op_move rfl rfl rfl)) ?_
          refine rg_done rfl ?_
          show ∃ i, _ ∧ _ ∧ Imp _ _ _ _ _
          refine ⟨j + 1, (by omega), by omega, imp_forget rfl ⟨rfl, rfl, rfl, rfl, rfl, rfl, rfl, rfl, rfl, rfl, rfl, rfl, rfl, rfl, (by first | rfl | exact ci (by omega) | exact ci (by simp) | exact cd (by simp) | simp), (congrArg (fun z => AV.d (.fl (.int .i64 z))) e3h), trivial⟩ ⟨(congrArg (fun z => Ob.tr 3 1 z) (rg_set (by omega) rfl (by rw [e1h, e3h, show (((j : Int) + 1)).toNat = j + 1 by omega, mx_at]; simp only [dd, bI]) (fun q _ hq => by unfold mx; by_cases h9 : q ≤ j <;> simp only [h9, if_true, if_false] <;> first | (rw [if_pos (by omega)]) | (rw [if_neg (by omega)])))), trivial⟩⟩
        · skip
          have h9 := f_dec h7
          refine a_exit ?_
          show A _ _ _ _ _ _ _
          refine a_region ?_
          refine rg_put (d := 86) (v := .d (.fl (.int .i64 (((i : Int) + 1))))) rfl (og rfl (op_bin rfl rfl rfl (fun x y w => b_add64 _ _ _ x y w (by omega)) rfl)) ?_
          refine rg_put (d := 37) (v := .d (.fl (.int .i64 (((i : Int) + 1))))) rfl (og rfl (op_move rfl rfl rfl)) ?_
          refine rg_done rfl ?_
          show ∃ i, _ ∧ _ ∧ Imp _ _ _ _ _
          refine ⟨i + 1, (by omega), by omega, imp_forget rfl ⟨rfl, rfl, rfl, rfl, rfl, rfl, rfl, rfl, rfl, rfl, (by first | rfl | exact ci (by omega) | exact ci (by simp) | exact cd (by simp) | simp), trivial⟩ ⟨(congrArg (fun z => Ob.tr 3 1 (tD (rI .i64) z)) (rg_cong (fun q hq => by unfold mx; rw [if_pos (by omega)]))), trivial⟩⟩
      · skip
        have h10 := f_dec h5
        refine a_exit ?_
        show A _ _ _ _ _ _ _
        refine a_rseq ?_
        refine rg_put (d := 87) (v := .ow 101) rfl (og rfl (op_move rfl rfl rfl)) ?_
        refine rg_put (d := 88) (v := .d (.fl (.string (hd b)))) rfl (og rfl (op_move rfl rfl rfl)) ?_
        refine rg_put (d := 89) (v := .d (.fl (.int .i64 (((hd b).size : Int))))) rfl (og rfl (op_len_str rfl Tryd.underlying9 rfl rfl)) ?_
        refine rg_put (d := 90) (v := .pe 101 1 ((hd b).size) 0) rfl (og rfl (op_index_tr rfl Tryd.underlying37 ti3 rfl rfl rfl (get_lt (tD_at (by omega))) rfl)) ?_
        refine rg_put (d := 91) (v := .d (.fl (.int .i64 ((ix ((rg ((hd b).size + 1) (dd (hd a) (hd b) i))) ((hd b).size)))))) rfl (og rfl (of_eff (op_load_pe rfl Tryd.underlying3 rfl rfl rfl (tD_at (by omega)) rfl rfl) rfl)) ?_
        refine rg_put (d := 6) (v := .d (.fl (.int .i64 ((ix ((rg ((hd b).size + 1) (dd (hd a) (hd b) i))) ((hd b).size)))))) rfl (og rfl (op_assign rfl rfl rfl)) ?_
        refine rg_done rfl ?_
        refine a_ret ?_
        show ∃ ds, ResL _ _ _ ds ∧ RV.of ds = _
        refine ⟨[.fl (.int .i64 ((ix ((rg ((hd b).size + 1) (dd (hd a) (hd b) i))) ((hd b).size))))], (.cons (.tmp rfl (.d _)) .nil), ?_⟩
        have him : i = (hd a).size := by omega
        have hu : dst a b = ix (rg ((hd b).size + 1) (dd (hd a) (hd b) i)) (hd b).size := by rw [rg_ix (by omega)]; unfold dst; rw [him]
        rw [hu]; rfl
end Go.Proofs.YtldglchpaookiaaDoor.Wk
