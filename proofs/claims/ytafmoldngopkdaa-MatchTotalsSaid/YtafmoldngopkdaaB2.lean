/- What an assignment costs, both sides. Conditions: as each theorem names them. -/
import Derived.Test.YtafmoldngopkdaaB1
set_option linter.unusedSimpArgs false
set_option linter.unusedVariables false
namespace Go.Proofs.Ytafmoldngopkdaa.Wk
open Go Go.RowKit Go.Proofs.Ytafmoldngopkdaa.Av
set_option maxHeartbeats 4000000 in
set_option maxRecDepth 100000 in
theorem lfC (m : Mat) (t : Nat) (hO : Ok m) (ht : t < 256) (hc : m.col.length ≤ 8) : Ctr Try.prog 26 [.ag (eMat m), .fl (.int .i64 (((t : Nat) : Int)))] (.d (.fl (.int .i64 (lf m.col t m.col.length)))) := by
  refine ctr (n := 26) (rs := #[.tmp 4]) (L := [(0, .d (.ag (eMat m))), (1, .d (.fl (.int .i64 (((t : Nat) : Int)))))]) Try.func26 rfl rfl rfl rfl rfl (fun w0 U0 => ?_)
  refine a_rseq ?_
  refine rg_nam (d := 2) (v := .pt 101 0) (m := 101) (nw := [(101, .bx 25 (eMat m))]) rfl (og rfl (of_eff (op_box 101 rfl rfl rfl rfl) rfl)) rfl ?_
  refine rg_put (d := 4) (v := .d (.fl (.int .i64 0))) rfl (og rfl (op_assign rfl rfl rfl)) ?_
  refine rg_done rfl ?_
  refine a_rseq ?_
  refine rg_put (d := 5) (v := .d (.fl (.int .i64 0))) rfl (og rfl (op_assign rfl rfl rfl)) ?_
  refine rg_done rfl ?_
  refine a_seq ?_
  refine a_rseq ?_
  refine rg_put (d := 8) (v := .pt 101 2) rfl (og rfl (of_eff (s_field_pt rfl Try.underlying25 rfl ti23 rfl rfl rfl) rfl)) ?_
  refine rg_put (d := 9) (v := .d (.sl 1 (List.map (rI .i64) m.col))) rfl (og rfl (op_load_pt rfl Try.underlying23 rfl rfl rfl rfl rfl)) ?_
  refine rg_put (d := 10) (v := .d (.fl (.int .i64 (m.col.length : Int)))) rfl (og rfl (s_len rfl Try.underlying23 rfl rfl)) ?_
  refine rg_put (d := 11) (v := .d (.fl (.int .i64 0))) rfl (og rfl (op_move rfl rfl rfl)) ?_
  refine rg_done rfl ?_
  refine a_block ?_
  refine a_loop (ι := Nat) (fun j => SS [(0, .d (.ag (eMat m))), (1, .d (.fl (.int .i64 (((t : Nat) : Int))))), (2, .pt 101 0), (4, .d (.fl (.int .i64 0))), (9, .d (.sl 1 (List.map (rI .i64) m.col))), (10, .d (.fl (.int .i64 (m.col.length : Int)))), (11, .d (.fl (.int .i64 (j : Int)))), (5, .d (.fl (.int .i64 (lf m.col t j))))] [(101, .bx 25 (eMat m))]) (fun j => j ≤ m.col.length) (fun j => m.col.length - j) 0 (by omega) (imp_forget rfl ⟨rfl, rfl, rfl, rfl, rfl, rfl, (by first | rfl | exact ci (by omega) | exact ci (by simp) | exact cd (by simp) | simp), rfl, trivial⟩ ⟨rfl, trivial⟩) (fun j hok => ?_)
  have hj := hok
  have hlf := lf_in hO t j hj
  refine a_rseq ?_
  refine rg_put (d := 12) (v := .d (.fl (.bool ((decide ((j : Int) < (m.col.length : Int))))))) rfl (og rfl (op_bin rfl rfl rfl (b_lss _ _ _ _) rfl)) ?_
  refine rg_done rfl ?_
  refine a_seq ?_
  refine a_cond rfl (fun h1 => ?_) (fun h1 => ?_)
  · skip
    have h2 := t_dec h1
    refine a_skip ?_
    show A _ _ _ _ _ _ _
    refine a_seq ?_
    refine a_block ?_
    refine a_rseq ?_
    have hcw := hO.cw j (by omega)
    refine rg_put (d := 13) (v := .d (.fl (.int .i64 (j : Int)))) rfl (og rfl (op_move rfl rfl rfl)) ?_
    refine rg_put (d := 14) (v := .el ((rI .i64 (ix m.col j)))) rfl (og rfl (s_index rfl Try.underlying23 ti3 rfl rfl (by omega) (row_at (by omega)) rfl)) ?_
    refine rg_put (d := 15) (v := .d (.fl (.int .i64 (ix m.col j)))) rfl (og rfl (op_load_el rfl Try.underlying3 rfl rfl rfl rfl)) ?_
    refine rg_put (d := 6) (v := .d (.fl (.int .i64 (j : Int)))) rfl (og rfl (op_assign rfl rfl rfl)) ?_
    refine rg_put (d := 7) (v := .d (.fl (.int .i64 (ix m.col j)))) rfl (og rfl (op_assign rfl rfl rfl)) ?_
    refine rg_done rfl ?_
    refine a_rseq ?_
    refine rg_put (d := 16) (v := .d (.fl (.int .i64 (((t : Nat) : Int))))) rfl (og rfl (op_move rfl rfl rfl)) ?_
    refine rg_put (d := 17) (v := .d (.fl (.int .i64 (j : Int)))) rfl (og rfl (op_move rfl rfl rfl)) ?_
    refine rg_put (d := 18) (v := .d (.fl (.int .i64 (((((t : Nat) : Int)) / 2 ^ min (((j : Int) : Int)).toNat IntKind.i64.bits))))) rfl (og rfl (op_bin rfl rfl rfl (fun x y w => b_shr _ _ _ _ _ x y w (by omega)) rfl)) ?_
    refine rg_put (d := 19) (v := .d (.fl (.int .i64 ((bits .and .i64 (((((t : Nat) : Int)) / 2 ^ min (((j : Int) : Int)).toNat IntKind.i64.bits)) 1))))) rfl (og rfl (op_bin rfl rfl rfl (b_and _ _ _ _) rfl)) ?_
    refine rg_put (d := 20) (v := .d (.fl (.bool (((bits .and .i64 (((((t : Nat) : Int)) / 2 ^ min (((j : Int) : Int)).toNat IntKind.i64.bits)) 1) == 0))))) rfl (og rfl (op_bin rfl rfl rfl (b_eql _ _ _ _) rfl)) ?_
    refine rg_done rfl ?_
    refine a_cond rfl (fun h3 => ?_) (fun h3 => ?_)
    · skip
      have h4 := t_beq h3
      refine a_region ?_
      refine rg_put (d := 21) (v := .d (.fl (.int .i64 (lf m.col t j)))) rfl (og rfl (op_move rfl rfl rfl)) ?_
      refine rg_put (d := 22) (v := .d (.fl (.int .i64 (ix m.col j)))) rfl (og rfl (op_move rfl rfl rfl)) ?_
      refine rg_put (d := 23) (v := .d (.fl (.int .i64 (((lf m.col t j) + (ix m.col j)))))) rfl (og rfl (op_bin rfl rfl rfl (fun x y w => b_add64 _ _ _ x y w (by omega)) rfl)) ?_
      refine rg_put (d := 5) (v := .d (.fl (.int .i64 (((lf m.col t j) + (ix m.col j)))))) rfl (og rfl (op_assign rfl rfl rfl)) ?_
      refine rg_done rfl ?_
      show A _ _ _ _ _ _ _
      refine a_region ?_
      refine rg_put (d := 24) (v := .d (.fl (.int .i64 (((j : Int) + 1))))) rfl (og rfl (op_bin rfl rfl rfl (fun x y w => b_add64 _ _ _ x y w (by omega)) rfl)) ?_
      refine rg_put (d := 11) (v := .d (.fl (.int .i64 (((j : Int) + 1))))) rfl (og rfl (op_move rfl rfl rfl)) ?_
      refine rg_done rfl ?_
      have hbt := bt0 ht (j := (j : Int)) (by omega) h3
      have hb2 : t.testBit j = false := by simpa using hbt
      have hst : ((lf m.col t j) + (ix m.col j)) = lf m.col t (j + 1) := by simp only [lf, hb2, cond_true, cond_false] <;> omega
      show ∃ i, _ ∧ _ ∧ Imp _ _ _ _ _
      refine ⟨j + 1, (by omega), by omega, imp_forget rfl ⟨rfl, rfl, rfl, rfl, rfl, rfl, (by first | rfl | exact ci (by omega)), (ci hst), trivial⟩ ⟨rfl, trivial⟩⟩
    · skip
      have h5 := f_beq h3
      refine a_skip ?_
      show A _ _ _ _ _ _ _
      refine a_region ?_
      refine rg_put (d := 24) (v := .d (.fl (.int .i64 (((j : Int) + 1))))) rfl (og rfl (op_bin rfl rfl rfl (fun x y w => b_add64 _ _ _ x y w (by omega)) rfl)) ?_
      refine rg_put (d := 11) (v := .d (.fl (.int .i64 (((j : Int) + 1))))) rfl (og rfl (op_move rfl rfl rfl)) ?_
      refine rg_done rfl ?_
      have hbt := bt0 ht (j := (j : Int)) (by omega) h3
      have hb2 : t.testBit j = true := by simpa using hbt
      have hst : (lf m.col t j) = lf m.col t (j + 1) := by simp only [lf, hb2, cond_true, cond_false] <;> omega
      show ∃ i, _ ∧ _ ∧ Imp _ _ _ _ _
      refine ⟨j + 1, (by omega), by omega, imp_forget rfl ⟨rfl, rfl, rfl, rfl, rfl, rfl, (by first | rfl | exact ci (by omega)), (ci hst), trivial⟩ ⟨rfl, trivial⟩⟩
  · skip
    have h6 := f_dec h1
    refine a_exit ?_
    show A _ _ _ _ _ _ _
    refine a_rseq ?_
    refine rg_put (d := 25) (v := .d (.fl (.int .i64 (lf m.col t j)))) rfl (og rfl (op_move rfl rfl rfl)) ?_
    refine rg_put (d := 4) (v := .d (.fl (.int .i64 (lf m.col t j)))) rfl (og rfl (op_assign rfl rfl rfl)) ?_
    refine rg_done rfl ?_
    refine a_ret ?_
    show ∃ ds, ResL _ _ _ ds ∧ RV.of ds = _
    refine ⟨[.fl (.int .i64 (lf m.col t j))], (.cons (.tmp rfl (.d _)) .nil), ?_⟩
    rw [show j = m.col.length from by omega]; rfl
set_option maxHeartbeats 4000000 in
set_option maxRecDepth 100000 in
theorem prC (m : Mat) (i : Nat) (k : Int) (h1 : i < m.row.length) (h2 : 0 ≤ k → i < m.cost.length ∧ k < ((ix m.cost i).length : Int)) : Ctr Try.prog 27 [.ag (eMat m), .fl (.int .i64 (i : Int)), .fl (.int .i64 k)] (.d (.fl (.int .i64 (pr m i k)))) := by
  refine ctr (n := 22) (rs := #[.tmp 6]) (L := [(0, .d (.ag (eMat m))), (1, .d (.fl (.int .i64 (i : Int)))), (2, .d (.fl (.int .i64 k)))]) Try.func27 rfl rfl rfl rfl rfl (fun w0 U0 => ?_)
  refine a_rseq ?_
  refine rg_nam (d := 3) (v := .pt 101 0) (m := 101) (nw := [(101, .bx 25 (eMat m))]) rfl (og rfl (of_eff (op_box 101 rfl rfl rfl rfl) rfl)) rfl ?_
  refine rg_put (d := 6) (v := .d (.fl (.int .i64 0))) rfl (og rfl (op_assign rfl rfl rfl)) ?_
  refine rg_done rfl ?_
  refine a_seq ?_
  refine a_rseq ?_
  refine rg_put (d := 7) (v := .d (.fl (.int .i64 k))) rfl (og rfl (op_move rfl rfl rfl)) ?_
  refine rg_put (d := 8) (v := .d (.fl (.bool ((decide (k < 0)))))) rfl (og rfl (op_bin rfl rfl rfl (b_lss _ _ _ _) rfl)) ?_
  refine rg_done rfl ?_
  refine a_cond rfl (fun h1 => ?_) (fun h1 => ?_)
  · skip
    have h2 := t_dec h1
    refine a_rseq ?_
    refine rg_put (d := 9) (v := .pt 101 1) rfl (og rfl (of_eff (s_field_pt rfl Try.underlying25 rfl ti23 rfl rfl rfl) rfl)) ?_
    refine rg_put (d := 10) (v := .d (.sl 1 (List.map (rI .i64) m.row))) rfl (og rfl (op_load_pt rfl Try.underlying23 rfl rfl rfl rfl rfl)) ?_
    refine rg_put (d := 11) (v := .d (.fl (.int .i64 (i : Int)))) rfl (og rfl (op_move rfl rfl rfl)) ?_
    refine rg_put (d := 12) (v := .el ((rI .i64 (ix m.row i)))) rfl (og rfl (s_index rfl Try.underlying23 ti3 rfl rfl (by omega) (row_at (by omega)) rfl)) ?_
    refine rg_put (d := 13) (v := .d (.fl (.int .i64 (ix m.row i)))) rfl (og rfl (op_load_el rfl Try.underlying3 rfl rfl rfl rfl)) ?_
    refine rg_put (d := 6) (v := .d (.fl (.int .i64 (ix m.row i)))) rfl (og rfl (op_assign rfl rfl rfl)) ?_
    refine rg_done rfl ?_
    refine a_ret ?_
    show ∃ ds, ResL _ _ _ ds ∧ RV.of ds = _
    refine ⟨[.fl (.int .i64 (ix m.row i))], (.cons (.tmp rfl (.d _)) .nil), ?_⟩
    rw [pr_n (m := m) (i := i) (k := k) (by omega)]; rfl
  · skip
    have h3 := f_dec h1
    refine a_skip ?_
    show A _ _ _ _ _ _ _
    refine a_rseq ?_
    have hk := h2 (by omega)
    refine rg_put (d := 14) (v := .pt 101 0) rfl (og rfl (of_eff (s_field_pt rfl Try.underlying25 rfl ti22 rfl rfl rfl) rfl)) ?_
    refine rg_put (d := 15) (v := .d (.sl 1 (List.map (rL 1 (rI .i64)) m.cost))) rfl (og rfl (op_load_pt rfl Try.underlying22 rfl rfl rfl rfl rfl)) ?_
    refine rg_put (d := 16) (v := .d (.fl (.int .i64 (i : Int)))) rfl (og rfl (op_move rfl rfl rfl)) ?_
    refine rg_put (d := 17) (v := .el (((rL 1 (rI .i64)) (ix m.cost i)))) rfl (og rfl (s_index rfl Try.underlying22 ti23 rfl rfl (by omega) (row_at (by omega)) rfl)) ?_
    refine rg_put (d := 18) (v := .d (.sl 1 (List.map (rI .i64) (ix m.cost i)))) rfl (og rfl (op_load_el rfl Try.underlying23 rfl rfl rfl rfl)) ?_
    refine rg_put (d := 19) (v := .d (.fl (.int .i64 k))) rfl (og rfl (op_move rfl rfl rfl)) ?_
    refine rg_put (d := 20) (v := .el ((rI .i64 ((ix (ix m.cost i) (k).toNat))))) rfl (og rfl (s_index rfl Try.underlying23 ti3 rfl rfl (by omega) (row_atI (by omega) (by omega)) rfl)) ?_
    refine rg_put (d := 21) (v := .d (.fl (.int .i64 ((ix (ix m.cost i) (k).toNat))))) rfl (og rfl (op_load_el rfl Try.underlying3 rfl rfl rfl rfl)) ?_
    refine rg_put (d := 6) (v := .d (.fl (.int .i64 ((ix (ix m.cost i) (k).toNat))))) rfl (og rfl (op_assign rfl rfl rfl)) ?_
    refine rg_done rfl ?_
    refine a_ret ?_
    show ∃ ds, ResL _ _ _ ds ∧ RV.of ds = _
    refine ⟨[.fl (.int .i64 ((ix (ix m.cost i) (k).toNat)))], (.cons (.tmp rfl (.d _)) .nil), ?_⟩
    rw [pr_p (m := m) (i := i) (k := k) (by omega)]; rfl
set_option maxHeartbeats 4000000 in
set_option maxRecDepth 100000 in
theorem ttP (m : Mat) (a : List Int) (hb : Bd m) (ha : a.length ≤ 20) : Ctr Try.prog 12 [.ag (eMat m), .sl 1 (List.map (rI .i64) a)] (.tu [.fl (.int .i64 (tt m a).1), .fl (.int .i64 (tt m a).2)]) := by
  refine ctr (n := 85) (rs := #[.tmp 4, .tmp 5]) (L := [(0, .d (.ag (eMat m))), (1, .d (.sl 1 (List.map (rI .i64) a)))]) Try.func12 rfl rfl rfl rfl rfl (fun w0 U0 => ?_)
  refine a_rseq ?_
  refine rg_nam (d := 2) (v := .pt 101 0) (m := 101) (nw := [(101, .bx 25 (eMat m))]) rfl (og rfl (of_eff (op_box 101 rfl rfl rfl rfl) rfl)) rfl ?_
  refine rg_put (d := 4) (v := .d (.fl (.int .i64 0))) rfl (og rfl (op_assign rfl rfl rfl)) ?_
  refine rg_put (d := 5) (v := .d (.fl (.int .i64 0))) rfl (og rfl (op_assign rfl rfl rfl)) ?_
  refine rg_done rfl ?_
  refine a_seq ?_
  refine a_rseq ?_
  refine rg_put (d := 11) (v := .d (.ag (eMat m))) rfl (og rfl (of_eff (s_load_pts rfl Try.underlying25 rfl ti25 rfl rfl rfl rfl) rfl)) ?_
  refine rg_put (d := 12) (v := .d (.fl (.int .i64 (ck m)))) rfl (og rfl (op_call rfl Try.func14 nm14 rfl (.cons rfl (.d _) .nil) (ckP m hb hb.a hb.b hb.c) rfl)) ?_
  refine rg_put (d := 6) (v := .d (.fl (.int .i64 (ck m)))) rfl (og rfl (op_assign rfl rfl rfl)) ?_
  refine rg_done rfl ?_
  refine a_rseq ?_
  refine rg_put (d := 13) (v := .d (.fl (.int .i64 (ck m)))) rfl (og rfl (op_move rfl rfl rfl)) ?_
  refine rg_put (d := 14) (v := .d (.fl (.bool (((ck m) != 0))))) rfl (og rfl (op_bin rfl rfl rfl (b_neq _ _ _ _) rfl)) ?_
  refine rg_done rfl ?_
  refine a_cond rfl (fun h1 => ?_) (fun h1 => ?_)
  · skip
    have h2 := t_bne h1
    refine a_rseq ?_
    refine rg_put (d := 15) (v := .d (.fl (.int .i64 (ck m)))) rfl (og rfl (op_move rfl rfl rfl)) ?_
    refine rg_put (d := 4) (v := .d (.fl (.int .i64 0))) rfl (og rfl (op_assign rfl rfl rfl)) ?_
    refine rg_put (d := 5) (v := .d (.fl (.int .i64 (ck m)))) rfl (og rfl (op_assign rfl rfl rfl)) ?_
    refine rg_done rfl ?_
    refine a_ret ?_
    show ∃ ds, ResL _ _ _ ds ∧ RV.of ds = _
    refine ⟨[.fl (.int .i64 0), .fl (.int .i64 (ck m))], (.cons (.tmp rfl (.d _)) (.cons (.tmp rfl (.d _)) .nil)), ?_⟩
    rw [tt_c (m := m) (a := a) (by omega)]; rfl
  · skip
    have h3 := f_bne h1
    refine a_skip ?_
    show A _ _ _ _ _ _ _
    refine a_seq ?_
    refine a_rseq ?_
    have hck : ck m = 0 := by omega
    have hO := ck_ok hck
    have hoe := hO.e
    refine rg_put (d := 16) (v := .d (.sl 1 (List.map (rI .i64) a))) rfl (og rfl (op_move rfl rfl rfl)) ?_
    refine rg_put (d := 17) (v := .d (.fl (.int .i64 (a.length : Int)))) rfl (og rfl (s_len rfl Try.underlying23 rfl rfl)) ?_
    refine rg_put (d := 18) (v := .pt 101 1) rfl (og rfl (of_eff (s_field_pt rfl Try.underlying25 rfl ti23 rfl rfl rfl) rfl)) ?_
    refine rg_put (d := 19) (v := .d (.sl 1 (List.map (rI .i64) m.row))) rfl (og rfl (op_load_pt rfl Try.underlying23 rfl rfl rfl rfl rfl)) ?_
    refine rg_put (d := 20) (v := .d (.fl (.int .i64 (m.row.length : Int)))) rfl (og rfl (s_len rfl Try.underlying23 rfl rfl)) ?_
    refine rg_put (d := 21) (v := .d (.fl (.bool (((a.length : Int) != (m.row.length : Int)))))) rfl (og rfl (op_bin rfl rfl rfl (b_neq _ _ _ _) rfl)) ?_
    refine rg_done rfl ?_
    refine a_cond rfl (fun h4 => ?_) (fun h4 => ?_)
    · skip
      have h5 := t_bne h4
      refine a_rseq ?_
      refine rg_put (d := 4) (v := .d (.fl (.int .i64 0))) rfl (og rfl (op_assign rfl rfl rfl)) ?_
      refine rg_put (d := 5) (v := .d (.fl (.int .i64 2))) rfl (og rfl (op_assign rfl rfl rfl)) ?_
      refine rg_done rfl ?_
      refine a_ret ?_
      show ∃ ds, ResL _ _ _ ds ∧ RV.of ds = _
      refine ⟨[.fl (.int .i64 0), .fl (.int .i64 2)], (.cons (.tmp rfl (.d _)) (.cons (.tmp rfl (.d _)) .nil)), ?_⟩
      rw [tt_l (m := m) (a := a) hck (by omega)]; rfl
    · skip
      have h6 := f_bne h4
      refine a_skip ?_
      show A _ _ _ _ _ _ _
      refine a_rseq ?_
      refine rg_put (d := 7) (v := .d (.fl (.int .i64 0))) rfl (og rfl (op_assign rfl rfl rfl)) ?_
      refine rg_done rfl ?_
      refine a_rseq ?_
      refine rg_put (d := 8) (v := .d (.fl (.int .i64 0))) rfl (og rfl (op_assign rfl rfl rfl)) ?_
      refine rg_done rfl ?_
      refine a_seq ?_
      refine a_rseq ?_
      refine rg_put (d := 22) (v := .d (.sl 1 (List.map (rI .i64) a))) rfl (og rfl (op_move rfl rfl rfl)) ?_
      refine rg_put (d := 23) (v := .d (.fl (.int .i64 (a.length : Int)))) rfl (og rfl (s_len rfl Try.underlying23 rfl rfl)) ?_
      refine rg_put (d := 24) (v := .d (.fl (.int .i64 0))) rfl (og rfl (op_move rfl rfl rfl)) ?_
      refine rg_done rfl ?_
      refine a_block ?_
      refine a_loop (ι := Nat) (fun i => SS [(0, .d (.ag (eMat m))), (1, .d (.sl 1 (List.map (rI .i64) a))), (2, .pt 101 0), (6, .d (.fl (.int .i64 (ck m)))), (14, .d (.fl (.bool (((ck m) != 0))))), (21, .d (.fl (.bool (((a.length : Int) != (m.row.length : Int)))))), (22, .d (.sl 1 (List.map (rI .i64) a))), (23, .d (.fl (.int .i64 (a.length : Int)))), (24, .d (.fl (.int .i64 (i : Int)))), (7, .d (.fl (.int .i64 (((tn a i : Nat) : Int))))), (8, .d (.fl (.int .i64 (sm m a i))))] [(101, .bx 25 (eMat m))]) (fun i => i ≤ a.length ∧ ∀ q, q < i → er m a q = 0) (fun i => a.length - i) 0 (⟨by omega, fun q h => by omega⟩) (imp_forget rfl ⟨rfl, rfl, rfl, rfl, rfl, rfl, rfl, rfl, (by first | rfl | exact ci (by omega) | exact ci (by simp) | exact cd (by simp) | simp), rfl, rfl, trivial⟩ ⟨rfl, trivial⟩) (fun i hok => ?_)
      obtain ⟨hi, hq⟩ := hok
      have hlt : ∀ q, q < i → ix a q < 8 := fun q h => by have := er_lt (hq q h); have := hO.c; omega
      have hsm := sm_in hO (a := a) i (by omega) hq
      have hoc := hO.c
      have hor := hO.r
      refine a_rseq ?_
      refine rg_put (d := 25) (v := .d (.fl (.bool ((decide ((i : Int) < (a.length : Int))))))) rfl (og rfl (op_bin rfl rfl rfl (b_lss _ _ _ _) rfl)) ?_
      refine rg_done rfl ?_
      refine a_seq ?_
      refine a_cond rfl (fun h7 => ?_) (fun h7 => ?_)
      · skip
        have h8 := t_dec h7
        refine a_skip ?_
        show A _ _ _ _ _ _ _
        refine a_seq ?_
        refine a_block ?_
        refine a_rseq ?_
        refine rg_put (d := 26) (v := .d (.fl (.int .i64 (i : Int)))) rfl (og rfl (op_move rfl rfl rfl)) ?_
        refine rg_put (d := 27) (v := .el ((rI .i64 (ix a i)))) rfl (og rfl (s_index rfl Try.underlying23 ti3 rfl rfl (by omega) (row_at (by omega)) rfl)) ?_
        refine rg_put (d := 28) (v := .d (.fl (.int .i64 (ix a i)))) rfl (og rfl (op_load_el rfl Try.underlying3 rfl rfl rfl rfl)) ?_
        refine rg_put (d := 9) (v := .d (.fl (.int .i64 (i : Int)))) rfl (og rfl (op_assign rfl rfl rfl)) ?_
        refine rg_put (d := 10) (v := .d (.fl (.int .i64 (ix a i)))) rfl (og rfl (op_assign rfl rfl rfl)) ?_
        refine rg_done rfl ?_
        refine a_seq ?_
        refine a_block ?_
        refine a_rseq ?_
        have hrw := hO.rw i (by omega)
        have hti := hO.t i (by omega)
        refine rg_put (d := 30) (v := .d (.fl (.int .i64 (ix a i)))) rfl (og rfl (op_move rfl rfl rfl)) ?_
        refine rg_put (d := 31) (v := .d (.fl (.bool ((decide ((ix a i) < (-1))))))) rfl (og rfl (op_bin rfl rfl rfl (b_lss _ _ _ _) rfl)) ?_
        refine rg_put (d := 32) (v := .d (.fl (.bool ((decide ((ix a i) < (-1))))))) rfl (og rfl (op_move rfl rfl rfl)) ?_
        rcases fot ((decide ((ix a i) < (-1)))) with h9 | h9
        · skip
          have h10 := f_dec h9
          refine rg_put (d := 33) (v := .d (.fl (.int .i64 (ix a i)))) rfl (oy rfl rfl rfl h9 (op_move rfl rfl rfl)) ?_
          refine rg_put (d := 34) (v := .pt 101 2) rfl (oy rfl rfl rfl h9 (of_eff (s_field_pt rfl Try.underlying25 rfl ti23 rfl rfl rfl) rfl)) ?_
          refine rg_put (d := 35) (v := .d (.sl 1 (List.map (rI .i64) m.col))) rfl (oy rfl rfl rfl h9 (op_load_pt rfl Try.underlying23 rfl rfl rfl rfl rfl)) ?_
          refine rg_put (d := 36) (v := .d (.fl (.int .i64 (m.col.length : Int)))) rfl (oy rfl rfl rfl h9 (s_len rfl Try.underlying23 rfl rfl)) ?_
          refine rg_put (d := 37) (v := .d (.fl (.bool ((decide ((m.col.length : Int) ≤ (ix a i))))))) rfl (oy rfl rfl rfl h9 (op_bin rfl rfl rfl (b_geq _ _ _ _) rfl)) ?_
          refine rg_put (d := 38) (v := .d (.fl (.bool ((decide ((m.col.length : Int) ≤ (ix a i))))))) rfl (og rfl (op_pick rfl rfl (by rw [h9]; rfl) rfl)) ?_
          refine rg_put (d := 29) (v := .d (.fl (.bool ((decide ((m.col.length : Int) ≤ (ix a i))))))) rfl (og rfl (op_assign rfl rfl rfl)) ?_
          refine rg_done rfl ?_
          refine a_cond rfl (fun h11 => ?_) (fun h11 => ?_)
          · skip
            have h12 := t_dec h11
            refine a_rseq ?_
            refine rg_put (d := 4) (v := .d (.fl (.int .i64 0))) rfl (og rfl (op_assign rfl rfl rfl)) ?_
            refine rg_put (d := 5) (v := .d (.fl (.int .i64 2))) rfl (og rfl (op_assign rfl rfl rfl)) ?_
            refine rg_done rfl ?_
            refine a_ret ?_
            show ∃ ds, ResL _ _ _ ds ∧ RV.of ds = _
            refine ⟨[.fl (.int .i64 0), .fl (.int .i64 2)], (.cons (.tmp rfl (.d _)) (.cons (.tmp rfl (.d _)) .nil)), ?_⟩
            rw [tt_e (m := m) (a := a) hck (by omega) (i := i) (by omega) hq (c := 2) (er_2 (by omega)) (by decide)]; rfl
          · skip
            have h13 := f_dec h11
            refine a_rseq ?_
            refine rg_put (d := 40) (v := .d (.fl (.int .i64 (ix a i)))) rfl (og rfl (op_move rfl rfl rfl)) ?_
            refine rg_put (d := 41) (v := .d (.fl (.bool (((ix a i) == (-1)))))) rfl (og rfl (op_bin rfl rfl rfl (b_eql _ _ _ _) rfl)) ?_
            refine rg_put (d := 39) (v := .d (.fl (.bool (((ix a i) == (-1)))))) rfl (og rfl (op_assign rfl rfl rfl)) ?_
            refine rg_done rfl ?_
            refine a_cond rfl (fun h14 => ?_) (fun h14 => ?_)
            · skip
              have h15 := t_beq h14
              refine a_rseq ?_
              refine rg_put (d := 42) (v := .d (.fl (.int .i64 (sm m a i)))) rfl (og rfl (op_move rfl rfl rfl)) ?_
              refine rg_put (d := 43) (v := .pt 101 1) rfl (og rfl (of_eff (s_field_pt rfl Try.underlying25 rfl ti23 rfl rfl rfl) rfl)) ?_
              refine rg_put (d := 44) (v := .d (.sl 1 (List.map (rI .i64) m.row))) rfl (og rfl (op_load_pt rfl Try.underlying23 rfl rfl rfl rfl rfl)) ?_
              refine rg_put (d := 45) (v := .d (.fl (.int .i64 (i : Int)))) rfl (og rfl (op_move rfl rfl rfl)) ?_
              refine rg_put (d := 46) (v := .el ((rI .i64 (ix m.row i)))) rfl (og rfl (s_index rfl Try.underlying23 ti3 rfl rfl (by omega) (row_at (by omega)) rfl)) ?_
              refine rg_put (d := 47) (v := .d (.fl (.int .i64 (ix m.row i)))) rfl (og rfl (op_load_el rfl Try.underlying3 rfl rfl rfl rfl)) ?_
              refine rg_put (d := 48) (v := .d (.fl (.int .i64 (((sm m a i) + (ix m.row i)))))) rfl (og rfl (op_bin rfl rfl rfl (fun x y w => b_add64 _ _ _ x y w (by omega)) rfl)) ?_
              refine rg_put (d := 8) (v := .d (.fl (.int .i64 (((sm m a i) + (ix m.row i)))))) rfl (og rfl (op_assign rfl rfl rfl)) ?_
              refine rg_done rfl ?_
              refine a_exit ?_
              show A _ _ _ _ _ _ _
              refine a_region ?_
              refine rg_put (d := 79) (v := .d (.fl (.int .i64 (((i : Int) + 1))))) rfl (og rfl (op_bin rfl rfl rfl (fun x y w => b_add64 _ _ _ x y w (by omega)) rfl)) ?_
              refine rg_put (d := 24) (v := .d (.fl (.int .i64 (((i : Int) + 1))))) rfl (og rfl (op_move rfl rfl rfl)) ?_
              refine rg_done rfl ?_
              have hpp : pr m i (ix a i) = ix m.row i := pr_n (by omega)
              have her : er m a i = 0 := er_0 (by omega) (fun h => by omega) (by rw [hpp]; omega)
              have hst7 : ((tn a i : Nat) : Int) = ((tn a (i + 1) : Nat) : Int) := by simp only [tn]; rw [if_pos (by omega)]
              have hst8 : ((sm m a i) + (ix m.row i)) = sm m a (i + 1) := by simp only [sm]; rw [hpp]
              show ∃ i, _ ∧ _ ∧ Imp _ _ _ _ _
              refine ⟨i + 1, ⟨by omega, fun q h => (Nat.lt_succ_iff_lt_or_eq.1 h).elim (hq q) (fun e => by rw [e]; exact her)⟩, by omega, imp_forget rfl ⟨rfl, rfl, rfl, rfl, rfl, rfl, rfl, rfl, (by first | rfl | exact ci (by omega)), (ci hst7), (ci hst8), trivial⟩ ⟨rfl, trivial⟩⟩
            · skip
              have h16 := f_beq h14
              refine a_rseq ?_
              refine rg_put (d := 50) (v := .d (.fl (.int .i64 (((tn a i : Nat) : Int))))) rfl (og rfl (op_move rfl rfl rfl)) ?_
              refine rg_put (d := 51) (v := .d (.fl (.int .i64 (ix a i)))) rfl (og rfl (op_move rfl rfl rfl)) ?_
              refine rg_put (d := 52) (v := .d (.fl (.int .i64 (((((tn a i : Nat) : Int)) / 2 ^ min (((ix a i) : Int)).toNat IntKind.i64.bits))))) rfl (og rfl (op_bin rfl rfl rfl (fun x y w => b_shr _ _ _ _ _ x y w (by omega)) rfl)) ?_
              refine rg_put (d := 53) (v := .d (.fl (.int .i64 ((bits .and .i64 (((((tn a i : Nat) : Int)) / 2 ^ min (((ix a i) : Int)).toNat IntKind.i64.bits)) 1))))) rfl (og rfl (op_bin rfl rfl rfl (b_and _ _ _ _) rfl)) ?_
              refine rg_put (d := 54) (v := .d (.fl (.bool (((bits .and .i64 (((((tn a i : Nat) : Int)) / 2 ^ min (((ix a i) : Int)).toNat IntKind.i64.bits)) 1) == 1))))) rfl (og rfl (op_bin rfl rfl rfl (b_eql _ _ _ _) rfl)) ?_
              refine rg_put (d := 49) (v := .d (.fl (.bool (((bits .and .i64 (((((tn a i : Nat) : Int)) / 2 ^ min (((ix a i) : Int)).toNat IntKind.i64.bits)) 1) == 1))))) rfl (og rfl (op_assign rfl rfl rfl)) ?_
              refine rg_done rfl ?_
              refine a_cond rfl (fun h17 => ?_) (fun h17 => ?_)
              · skip
                have h18 := t_beq h17
                refine a_rseq ?_
                refine rg_put (d := 4) (v := .d (.fl (.int .i64 0))) rfl (og rfl (op_assign rfl rfl rfl)) ?_
                refine rg_put (d := 5) (v := .d (.fl (.int .i64 9))) rfl (og rfl (op_assign rfl rfl rfl)) ?_
                refine rg_done rfl ?_
                refine a_ret ?_
                show ∃ ds, ResL _ _ _ ds ∧ RV.of ds = _
                refine ⟨[.fl (.int .i64 0), .fl (.int .i64 9)], (.cons (.tmp rfl (.d _)) (.cons (.tmp rfl (.d _)) .nil)), ?_⟩
                have hub : us a (ix a i) i = true := by rw [us_bit (by omega)]; exact bt1 (tn_in i hlt) (by omega) h17
                rw [tt_e (m := m) (a := a) hck (by omega) (i := i) (by omega) hq (c := 9) (er_9 (by omega) (by omega) hub) (by decide)]; rfl
              · skip
                have h19 := f_beq h17
                refine a_rseq ?_
                have hpv := hti.2 (ix a i).toNat (by omega)
                refine rg_put (d := 56) (v := .pt 101 0) rfl (og rfl (of_eff (s_field_pt rfl Try.underlying25 rfl ti22 rfl rfl rfl) rfl)) ?_
                refine rg_put (d := 57) (v := .d (.sl 1 (List.map (rL 1 (rI .i64)) m.cost))) rfl (og rfl (op_load_pt rfl Try.underlying22 rfl rfl rfl rfl rfl)) ?_
                refine rg_put (d := 58) (v := .d (.fl (.int .i64 (i : Int)))) rfl (og rfl (op_move rfl rfl rfl)) ?_
                refine rg_put (d := 59) (v := .el (((rL 1 (rI .i64)) (ix m.cost i)))) rfl (og rfl (s_index rfl Try.underlying22 ti23 rfl rfl (by omega) (row_at (by omega)) rfl)) ?_
                refine rg_put (d := 60) (v := .d (.sl 1 (List.map (rI .i64) (ix m.cost i)))) rfl (og rfl (op_load_el rfl Try.underlying23 rfl rfl rfl rfl)) ?_
                refine rg_put (d := 61) (v := .d (.fl (.int .i64 (ix a i)))) rfl (og rfl (op_move rfl rfl rfl)) ?_
                refine rg_put (d := 62) (v := .el ((rI .i64 ((ix (ix m.cost i) ((ix a i)).toNat))))) rfl (og rfl (s_index rfl Try.underlying23 ti3 rfl rfl (by omega) (row_atI (by omega) (by omega)) rfl)) ?_
                refine rg_put (d := 63) (v := .d (.fl (.int .i64 ((ix (ix m.cost i) ((ix a i)).toNat))))) rfl (og rfl (op_load_el rfl Try.underlying3 rfl rfl rfl rfl)) ?_
                refine rg_put (d := 64) (v := .d (.fl (.bool (((ix (ix m.cost i) ((ix a i)).toNat) == (-1)))))) rfl (og rfl (op_bin rfl rfl rfl (b_eql _ _ _ _) rfl)) ?_
                refine rg_put (d := 55) (v := .d (.fl (.bool (((ix (ix m.cost i) ((ix a i)).toNat) == (-1)))))) rfl (og rfl (op_assign rfl rfl rfl)) ?_
                refine rg_done rfl ?_
                refine a_cond rfl (fun h20 => ?_) (fun h20 => ?_)
                · skip
                  have h21 := t_beq h20
                  refine a_rseq ?_
                  refine rg_put (d := 4) (v := .d (.fl (.int .i64 0))) rfl (og rfl (op_assign rfl rfl rfl)) ?_
                  refine rg_put (d := 5) (v := .d (.fl (.int .i64 1))) rfl (og rfl (op_assign rfl rfl rfl)) ?_
                  refine rg_done rfl ?_
                  refine a_ret ?_
                  show ∃ ds, ResL _ _ _ ds ∧ RV.of ds = _
                  refine ⟨[.fl (.int .i64 0), .fl (.int .i64 1)], (.cons (.tmp rfl (.d _)) (.cons (.tmp rfl (.d _)) .nil)), ?_⟩
                  have hub : us a (ix a i) i = false := by rw [us_bit (by omega)]; exact bt1 (tn_in i hlt) (by omega) h17
                  rw [tt_e (m := m) (a := a) hck (by omega) (i := i) (by omega) hq (c := 1) (er_1 (by omega) (fun _ => hub) (by rw [pr_p (by omega)]; omega)) (by decide)]; rfl
                · skip
                  have h22 := f_beq h20
                  refine a_skip ?_
                  show A _ _ _ _ _ _ _
                  refine a_rseq ?_
                  refine rg_put (d := 65) (v := .d (.fl (.int .i64 (((tn a i : Nat) : Int))))) rfl (og rfl (op_move rfl rfl rfl)) ?_
                  refine rg_put (d := 66) (v := .d (.fl (.int .i64 (ix a i)))) rfl (og rfl (op_move rfl rfl rfl)) ?_
                  refine rg_put (d := 67) (v := .d (.fl (.int .i64 ((IntKind.i64.wrap (1 * 2 ^ min (((ix a i) : Int)).toNat IntKind.i64.bits)))))) rfl (og rfl (op_bin rfl rfl rfl (fun x y w => b_shl _ _ _ _ _ x y w (by omega)) rfl)) ?_
                  refine rg_put (d := 68) (v := .d (.fl (.int .i64 ((bits .or .i64 (((tn a i : Nat) : Int)) ((IntKind.i64.wrap (1 * 2 ^ min (((ix a i) : Int)).toNat IntKind.i64.bits)))))))) rfl (og rfl (op_bin rfl rfl rfl (b_or _ _ _ _) rfl)) ?_
                  refine rg_put (d := 7) (v := .d (.fl (.int .i64 ((bits .or .i64 (((tn a i : Nat) : Int)) ((IntKind.i64.wrap (1 * 2 ^ min (((ix a i) : Int)).toNat IntKind.i64.bits)))))))) rfl (og rfl (op_assign rfl rfl rfl)) ?_
                  refine rg_done rfl ?_
                  refine a_region ?_
                  refine rg_put (d := 69) (v := .d (.fl (.int .i64 (sm m a i)))) rfl (og rfl (op_move rfl rfl rfl)) ?_
                  refine rg_put (d := 70) (v := .pt 101 0) rfl (og rfl (of_eff (s_field_pt rfl Try.underlying25 rfl ti22 rfl rfl rfl) rfl)) ?_
                  refine rg_put (d := 71) (v := .d (.sl 1 (List.map (rL 1 (rI .i64)) m.cost))) rfl (og rfl (op_load_pt rfl Try.underlying22 rfl rfl rfl rfl rfl)) ?_
                  refine rg_put (d := 72) (v := .d (.fl (.int .i64 (i : Int)))) rfl (og rfl (op_move rfl rfl rfl)) ?_
                  refine rg_put (d := 73) (v := .el (((rL 1 (rI .i64)) (ix m.cost i)))) rfl (og rfl (s_index rfl Try.underlying22 ti23 rfl rfl (by omega) (row_at (by omega)) rfl)) ?_
                  refine rg_put (d := 74) (v := .d (.sl 1 (List.map (rI .i64) (ix m.cost i)))) rfl (og rfl (op_load_el rfl Try.underlying23 rfl rfl rfl rfl)) ?_
                  refine rg_put (d := 75) (v := .d (.fl (.int .i64 (ix a i)))) rfl (og rfl (op_move rfl rfl rfl)) ?_
                  refine rg_put (d := 76) (v := .el ((rI .i64 ((ix (ix m.cost i) ((ix a i)).toNat))))) rfl (og rfl (s_index rfl Try.underlying23 ti3 rfl rfl (by omega) (row_atI (by omega) (by omega)) rfl)) ?_
                  refine rg_put (d := 77) (v := .d (.fl (.int .i64 ((ix (ix m.cost i) ((ix a i)).toNat))))) rfl (og rfl (op_load_el rfl Try.underlying3 rfl rfl rfl rfl)) ?_
                  refine rg_put (d := 78) (v := .d (.fl (.int .i64 (((sm m a i) + (ix (ix m.cost i) ((ix a i)).toNat)))))) rfl (og rfl (op_bin rfl rfl rfl (fun x y w => b_add64 _ _ _ x y w (by omega)) rfl)) ?_
                  refine rg_put (d := 8) (v := .d (.fl (.int .i64 (((sm m a i) + (ix (ix m.cost i) ((ix a i)).toNat)))))) rfl (og rfl (op_assign rfl rfl rfl)) ?_
                  refine rg_done rfl ?_
                  show A _ _ _ _ _ _ _
                  refine a_region ?_
                  refine rg_put (d := 79) (v := .d (.fl (.int .i64 (((i : Int) + 1))))) rfl (og rfl (op_bin rfl rfl rfl (fun x y w => b_add64 _ _ _ x y w (by omega)) rfl)) ?_
                  refine rg_put (d := 24) (v := .d (.fl (.int .i64 (((i : Int) + 1))))) rfl (og rfl (op_move rfl rfl rfl)) ?_
                  refine rg_done rfl ?_
                  have hub : us a (ix a i) i = false := by rw [us_bit (by omega)]; exact bt1 (tn_in i hlt) (by omega) h17
                  have hpp : pr m i (ix a i) = ix (ix m.cost i) (ix a i).toNat := pr_p (by omega)
                  have hpv := hti.2 (ix a i).toNat (by omega)
                  have her : er m a i = 0 := er_0 (by omega) (fun _ => hub) (by rw [hpp]; omega)
                  have hst7 : (bits .or .i64 (((tn a i : Nat) : Int)) ((IntKind.i64.wrap (1 * 2 ^ min (((ix a i) : Int)).toNat IntKind.i64.bits)))) = ((tn a (i + 1) : Nat) : Int) := by rw [(bit_at (tn_in i hlt) (j := ix a i) (by omega)).2]; simp only [tn]; rw [if_neg (by omega)]
                  have hst8 : ((sm m a i) + (ix (ix m.cost i) ((ix a i)).toNat)) = sm m a (i + 1) := by simp only [sm]; rw [hpp]
                  show ∃ i, _ ∧ _ ∧ Imp _ _ _ _ _
                  refine ⟨i + 1, ⟨by omega, fun q h => (Nat.lt_succ_iff_lt_or_eq.1 h).elim (hq q) (fun e => by rw [e]; exact her)⟩, by omega, imp_forget rfl ⟨rfl, rfl, rfl, rfl, rfl, rfl, rfl, rfl, (by first | rfl | exact ci (by omega)), (ci hst7), (ci hst8), trivial⟩ ⟨rfl, trivial⟩⟩
        · skip
          have h23 := t_dec h9
          refine rg_put (d := 33) (v := .d (.fl undef)) rfl (on rfl rfl rfl h9) ?_
          refine rg_put (d := 34) (v := .d (.fl undef)) rfl (on rfl rfl rfl h9) ?_
          refine rg_put (d := 35) (v := .d (.fl undef)) rfl (on rfl rfl rfl h9) ?_
          refine rg_put (d := 36) (v := .d (.fl undef)) rfl (on rfl rfl rfl h9) ?_
          refine rg_put (d := 37) (v := .d (.fl undef)) rfl (on rfl rfl rfl h9) ?_
          refine rg_put (d := 38) (v := .d (.fl (.bool true))) rfl (og rfl (op_pick rfl rfl (by rw [h9]; rfl) rfl)) ?_
          refine rg_put (d := 29) (v := .d (.fl (.bool true))) rfl (og rfl (op_assign rfl rfl rfl)) ?_
          refine rg_done rfl ?_
          refine a_condK rfl rfl ?_
          refine a_rseq ?_
          refine rg_put (d := 4) (v := .d (.fl (.int .i64 0))) rfl (og rfl (op_assign rfl rfl rfl)) ?_
          refine rg_put (d := 5) (v := .d (.fl (.int .i64 2))) rfl (og rfl (op_assign rfl rfl rfl)) ?_
          refine rg_done rfl ?_
          refine a_ret ?_
          show ∃ ds, ResL _ _ _ ds ∧ RV.of ds = _
          refine ⟨[.fl (.int .i64 0), .fl (.int .i64 2)], (.cons (.tmp rfl (.d _)) (.cons (.tmp rfl (.d _)) .nil)), ?_⟩
          rw [tt_e (m := m) (a := a) hck (by omega) (i := i) (by omega) hq (c := 2) (er_2 (by omega)) (by decide)]; rfl
      · skip
        have h24 := f_dec h7
        refine a_exit ?_
        show A _ _ _ _ _ _ _
        refine a_rseq ?_
        have hcl := cl_in hO a i m.col.length (Nat.le_refl _)
        refine rg_put (d := 80) (v := .d (.fl (.int .i64 (sm m a i)))) rfl (og rfl (op_move rfl rfl rfl)) ?_
        refine rg_put (d := 81) (v := .d (.ag (eMat m))) rfl (og rfl (of_eff (s_load_pts rfl Try.underlying25 rfl ti25 rfl rfl rfl rfl) rfl)) ?_
        refine rg_put (d := 82) (v := .d (.fl (.int .i64 (((tn a i : Nat) : Int))))) rfl (og rfl (op_move rfl rfl rfl)) ?_
        refine rg_put (d := 83) (v := .d (.fl (.int .i64 (cl m a i m.col.length)))) rfl (og rfl (op_call rfl Try.func26 nm26 rfl (.cons rfl (.d _) (.cons rfl (.d _) .nil)) ((by have := lfC m (tn a i) hO (tn_in i hlt) hO.c; rwa [lf_cl] at this)) rfl)) ?_
        refine rg_put (d := 84) (v := .d (.fl (.int .i64 (((sm m a i) + (cl m a i m.col.length)))))) rfl (og rfl (op_bin rfl rfl rfl (fun x y w => b_add64 _ _ _ x y w (by omega)) rfl)) ?_
        refine rg_put (d := 4) (v := .d (.fl (.int .i64 (((sm m a i) + (cl m a i m.col.length)))))) rfl (og rfl (op_assign rfl rfl rfl)) ?_
        refine rg_put (d := 5) (v := .d (.fl (.int .i64 0))) rfl (og rfl (op_assign rfl rfl rfl)) ?_
        refine rg_done rfl ?_
        refine a_ret ?_
        show ∃ ds, ResL _ _ _ ds ∧ RV.of ds = _
        refine ⟨[.fl (.int .i64 (((sm m a i) + (cl m a i m.col.length)))), .fl (.int .i64 0)], (.cons (.tmp rfl (.d _)) (.cons (.tmp rfl (.d _)) .nil)), ?_⟩
        rw [tt_0 (m := m) (a := a) hck (by omega) (fun q h => hq q (by omega)), show a.length = i from by omega]; rfl
set_option maxHeartbeats 4000000 in
set_option maxRecDepth 100000 in
theorem ttR (m : Mat) (a : List Int) (hb : Bd m) (ha : a.length ≤ 20) : Ctr Try.prog 13 [.ag (eMat m), .sl 1 (List.map (rI .i64) a)] (.tu [.fl (.int .i64 (tt m a).1), .fl (.int .i64 (tt m a).2)]) := by
  refine ctr (n := 115) (rs := #[.tmp 4, .tmp 5]) (L := [(0, .d (.ag (eMat m))), (1, .d (.sl 1 (List.map (rI .i64) a)))]) Try.func13 rfl rfl rfl rfl rfl (fun w0 U0 => ?_)
  refine a_rseq ?_
  refine rg_nam (d := 2) (v := .pt 101 0) (m := 101) (nw := [(101, .bx 25 (eMat m))]) rfl (og rfl (of_eff (op_box 101 rfl rfl rfl rfl) rfl)) rfl ?_
  refine rg_put (d := 4) (v := .d (.fl (.int .i64 0))) rfl (og rfl (op_assign rfl rfl rfl)) ?_
  refine rg_put (d := 5) (v := .d (.fl (.int .i64 0))) rfl (og rfl (op_assign rfl rfl rfl)) ?_
  refine rg_done rfl ?_
  refine a_rseq ?_
  refine rg_put (d := 13) (v := .d (.ag (eMat m))) rfl (og rfl (of_eff (s_load_pts rfl Try.underlying25 rfl ti25 rfl rfl rfl rfl) rfl)) ?_
  refine rg_put (d := 14) (v := .d (.fl (.int .i64 (ck m)))) rfl (og rfl (op_call rfl Try.func15 nm15 rfl (.cons rfl (.d _) .nil) (ckR m hb hb.a hb.b hb.c) rfl)) ?_
  refine rg_put (d := 6) (v := .d (.fl (.int .i64 (ck m)))) rfl (og rfl (op_assign rfl rfl rfl)) ?_
  refine rg_done rfl ?_
  refine a_seq ?_
  refine a_rseq ?_
  refine rg_put (d := 15) (v := .d (.fl (.int .i64 (ck m)))) rfl (og rfl (op_move rfl rfl rfl)) ?_
  refine rg_put (d := 16) (v := .d (.fl (.bool (((ck m) != 0))))) rfl (og rfl (op_bin rfl rfl rfl (b_neq _ _ _ _) rfl)) ?_
  refine rg_done rfl ?_
  refine a_cond rfl (fun h1 => ?_) (fun h1 => ?_)
  · skip
    have h2 := t_bne h1
    refine a_rseq ?_
    refine rg_put (d := 17) (v := .d (.fl (.int .i64 (ck m)))) rfl (og rfl (op_move rfl rfl rfl)) ?_
    refine rg_put (d := 4) (v := .d (.fl (.int .i64 0))) rfl (og rfl (op_assign rfl rfl rfl)) ?_
    refine rg_put (d := 5) (v := .d (.fl (.int .i64 (ck m)))) rfl (og rfl (op_assign rfl rfl rfl)) ?_
    refine rg_done rfl ?_
    refine a_ret ?_
    show ∃ ds, ResL _ _ _ ds ∧ RV.of ds = _
    refine ⟨[.fl (.int .i64 0), .fl (.int .i64 (ck m))], (.cons (.tmp rfl (.d _)) (.cons (.tmp rfl (.d _)) .nil)), ?_⟩
    rw [tt_c (m := m) (a := a) (by omega)]; rfl
  · skip
    have h3 := f_bne h1
    refine a_skip ?_
    show A _ _ _ _ _ _ _
    refine a_seq ?_
    refine a_rseq ?_
    have hck : ck m = 0 := by omega
    have hO := ck_ok hck
    have hoe := hO.e
    refine rg_put (d := 18) (v := .d (.sl 1 (List.map (rI .i64) a))) rfl (og rfl (op_move rfl rfl rfl)) ?_
    refine rg_put (d := 19) (v := .d (.fl (.int .i64 (a.length : Int)))) rfl (og rfl (s_len rfl Try.underlying23 rfl rfl)) ?_
    refine rg_put (d := 20) (v := .pt 101 1) rfl (og rfl (of_eff (s_field_pt rfl Try.underlying25 rfl ti23 rfl rfl rfl) rfl)) ?_
    refine rg_put (d := 21) (v := .d (.sl 1 (List.map (rI .i64) m.row))) rfl (og rfl (op_load_pt rfl Try.underlying23 rfl rfl rfl rfl rfl)) ?_
    refine rg_put (d := 22) (v := .d (.fl (.int .i64 (m.row.length : Int)))) rfl (og rfl (s_len rfl Try.underlying23 rfl rfl)) ?_
    refine rg_put (d := 23) (v := .d (.fl (.bool (((a.length : Int) != (m.row.length : Int)))))) rfl (og rfl (op_bin rfl rfl rfl (b_neq _ _ _ _) rfl)) ?_
    refine rg_done rfl ?_
    refine a_cond rfl (fun h4 => ?_) (fun h4 => ?_)
    · skip
      have h5 := t_bne h4
      refine a_rseq ?_
      refine rg_put (d := 4) (v := .d (.fl (.int .i64 0))) rfl (og rfl (op_assign rfl rfl rfl)) ?_
      refine rg_put (d := 5) (v := .d (.fl (.int .i64 2))) rfl (og rfl (op_assign rfl rfl rfl)) ?_
      refine rg_done rfl ?_
      refine a_ret ?_
      show ∃ ds, ResL _ _ _ ds ∧ RV.of ds = _
      refine ⟨[.fl (.int .i64 0), .fl (.int .i64 2)], (.cons (.tmp rfl (.d _)) (.cons (.tmp rfl (.d _)) .nil)), ?_⟩
      rw [tt_l (m := m) (a := a) hck (by omega)]; rfl
    · skip
      have h6 := f_bne h4
      refine a_skip ?_
      show A _ _ _ _ _ _ _
      refine a_rseq ?_
      refine rg_put (d := 7) (v := .d (.fl (.int .i64 0))) rfl (og rfl (op_assign rfl rfl rfl)) ?_
      refine rg_done rfl ?_
      refine a_seq ?_
      refine a_rseq ?_
      refine rg_put (d := 8) (v := .d (.fl (.int .i64 0))) rfl (og rfl (op_assign rfl rfl rfl)) ?_
      refine rg_done rfl ?_
      refine a_block ?_
      refine a_loop (ι := Nat) (fun i => SS [(0, .d (.ag (eMat m))), (1, .d (.sl 1 (List.map (rI .i64) a))), (2, .pt 101 0), (6, .d (.fl (.int .i64 (ck m)))), (16, .d (.fl (.bool (((ck m) != 0))))), (23, .d (.fl (.bool (((a.length : Int) != (m.row.length : Int)))))), (8, .d (.fl (.int .i64 (i : Int)))), (7, .d (.fl (.int .i64 (sm m a i))))] [(101, .bx 25 (eMat m))]) (fun i => i ≤ a.length ∧ ∀ q, q < i → er m a q = 0) (fun i => a.length - i) 0 (⟨by omega, fun q h => by omega⟩) (imp_forget rfl ⟨rfl, rfl, rfl, rfl, rfl, rfl, (by first | rfl | exact ci (by omega) | exact ci (by simp) | exact cd (by simp) | simp), rfl, trivial⟩ ⟨rfl, trivial⟩) (fun i hok => ?_)
      obtain ⟨hi, hq⟩ := hok
      have hlt : ∀ q, q < i → ix a q < 8 := fun q h => by have := er_lt (hq q h); have := hO.c; omega
      have hsm := sm_in hO (a := a) i (by omega) hq
      have hoc := hO.c
      have hor := hO.r
      refine a_seq ?_
      refine a_rseq ?_
      refine rg_put (d := 24) (v := .d (.fl (.int .i64 (i : Int)))) rfl (og rfl (op_move rfl rfl rfl)) ?_
      refine rg_put (d := 25) (v := .d (.sl 1 (List.map (rI .i64) a))) rfl (og rfl (op_move rfl rfl rfl)) ?_
      refine rg_put (d := 26) (v := .d (.fl (.int .i64 (a.length : Int)))) rfl (og rfl (s_len rfl Try.underlying23 rfl rfl)) ?_
      refine rg_put (d := 27) (v := .d (.fl (.bool ((decide ((i : Int) < (a.length : Int))))))) rfl (og rfl (op_bin rfl rfl rfl (b_lss _ _ _ _) rfl)) ?_
      refine rg_done rfl ?_
      refine a_cond rfl (fun h7 => ?_) (fun h7 => ?_)
      · skip
        have h8 := t_dec h7
        refine a_skip ?_
        show A _ _ _ _ _ _ _
        refine a_seq ?_
        refine a_block ?_
        refine a_seq ?_
        refine a_dseq (by kernel_rfl) ?_
        refine dr_put (d := 30) (v := .d (.sl 1 (List.map (rI .i64) a))) rfl (og rfl (op_move rfl rfl rfl)) ?_
        refine dr_put (d := 31) (v := .d (.fl (.int .i64 (i : Int)))) rfl (og rfl (op_move rfl rfl rfl)) ?_
        refine dr_put (d := 32) (v := .el ((rI .i64 (ix a i)))) rfl (og rfl (s_index rfl Try.underlying23 ti3 rfl rfl (by omega) (row_at (by omega)) rfl)) ?_
        refine dr_put (d := 33) (v := .d (.fl (.int .i64 (ix a i)))) rfl (og rfl (op_load_el rfl Try.underlying3 rfl rfl rfl rfl)) ?_
        refine dr_put (d := 34) (v := .d (.fl (.bool ((decide ((ix a i) < (-1))))))) rfl (og rfl (op_bin rfl rfl rfl (b_lss _ _ _ _) rfl)) ?_
        refine dr_put (d := 35) (v := .d (.fl (.bool ((decide ((ix a i) < (-1))))))) rfl (og rfl (op_move rfl rfl rfl)) ?_
        rcases fot ((decide ((ix a i) < (-1)))) with h9 | h9
        · skip
          have h10 := f_dec h9
          refine dr_put (d := 36) (v := .d (.sl 1 (List.map (rI .i64) a))) rfl (oy rfl rfl rfl h9 (op_move rfl rfl rfl)) ?_
          refine dr_put (d := 37) (v := .d (.fl (.int .i64 (i : Int)))) rfl (oy rfl rfl rfl h9 (op_move rfl rfl rfl)) ?_
          refine dr_put (d := 38) (v := .el ((rI .i64 (ix a i)))) rfl (oy rfl rfl rfl h9 (s_index rfl Try.underlying23 ti3 rfl rfl (by omega) (row_at (by omega)) rfl)) ?_
          refine dr_put (d := 39) (v := .d (.fl (.int .i64 (ix a i)))) rfl (oy rfl rfl rfl h9 (op_load_el rfl Try.underlying3 rfl rfl rfl rfl)) ?_
          refine dr_put (d := 40) (v := .pt 101 2) rfl (oy rfl rfl rfl h9 (of_eff (s_field_pt rfl Try.underlying25 rfl ti23 rfl rfl rfl) rfl)) ?_
          refine dr_put (d := 41) (v := .d (.sl 1 (List.map (rI .i64) m.col))) rfl (oy rfl rfl rfl h9 (op_load_pt rfl Try.underlying23 rfl rfl rfl rfl rfl)) ?_
          refine dr_put (d := 42) (v := .d (.fl (.int .i64 (m.col.length : Int)))) rfl (oy rfl rfl rfl h9 (s_len rfl Try.underlying23 rfl rfl)) ?_
          refine dr_put (d := 43) (v := .d (.fl (.bool ((decide ((m.col.length : Int) ≤ (ix a i))))))) rfl (oy rfl rfl rfl h9 (op_bin rfl rfl rfl (b_geq _ _ _ _) rfl)) ?_
          refine dr_put (d := 44) (v := .d (.fl (.bool ((decide ((m.col.length : Int) ≤ (ix a i))))))) rfl (og rfl (op_pick rfl rfl (by rw [h9]; rfl) rfl)) ?_
          refine dr_done rfl (sepB_of [0, 0, 3, 7, 15, 31, 63, 63, 255, 511, 63, 1087, 3135, 8191, 16383] (by kernel_rfl)) (by kernel_rfl) ?_
          refine a_cond rfl (fun h11 => ?_) (fun h11 => ?_)
          · skip
            have h12 := t_dec h11
            refine a_rseq ?_
            refine rg_put (d := 4) (v := .d (.fl (.int .i64 0))) rfl (og rfl (op_assign rfl rfl rfl)) ?_
            refine rg_put (d := 5) (v := .d (.fl (.int .i64 2))) rfl (og rfl (op_assign rfl rfl rfl)) ?_
            refine rg_done rfl ?_
            refine a_ret ?_
            show ∃ ds, ResL _ _ _ ds ∧ RV.of ds = _
            refine ⟨[.fl (.int .i64 0), .fl (.int .i64 2)], (.cons (.tmp rfl (.d _)) (.cons (.tmp rfl (.d _)) .nil)), ?_⟩
            rw [tt_e (m := m) (a := a) hck (by omega) (i := i) (by omega) hq (c := 2) (er_2 (by omega)) (by decide)]; rfl
          · skip
            have h13 := f_dec h11
            refine a_skip ?_
            show A _ _ _ _ _ _ _
            refine a_seq ?_
            refine a_rseq ?_
            refine rg_put (d := 9) (v := .d (.fl (.int .i64 0))) rfl (og rfl (op_assign rfl rfl rfl)) ?_
            refine rg_done rfl ?_
            refine a_block ?_
            refine a_loop (ι := Nat) (fun j => SS [(0, .d (.ag (eMat m))), (1, .d (.sl 1 (List.map (rI .i64) a))), (2, .pt 101 0), (6, .d (.fl (.int .i64 (ck m)))), (7, .d (.fl (.int .i64 (sm m a i)))), (8, .d (.fl (.int .i64 (i : Int)))), (16, .d (.fl (.bool (((ck m) != 0))))), (23, .d (.fl (.bool (((a.length : Int) != (m.row.length : Int)))))), (27, .d (.fl (.bool ((decide ((i : Int) < (a.length : Int))))))), (44, .d (.fl (.bool ((decide ((m.col.length : Int) ≤ (ix a i))))))), (9, .d (.fl (.int .i64 (j : Int))))] [(101, .bx 25 (eMat m))]) (fun j => j ≤ i ∧ (0 ≤ ix a i → us a (ix a i) j = false)) (fun j => i - j) 0 (⟨by omega, fun _ => rfl⟩) (imp_forget rfl ⟨rfl, rfl, rfl, rfl, rfl, rfl, rfl, rfl, rfl, rfl, (by first | rfl | exact ci (by omega) | exact ci (by simp) | exact cd (by simp) | simp), trivial⟩ ⟨rfl, trivial⟩) (fun j hok => ?_)
            obtain ⟨hj, hus⟩ := hok
            refine a_seq ?_
            refine a_rseq ?_
            refine rg_put (d := 45) (v := .d (.fl (.int .i64 (j : Int)))) rfl (og rfl (op_move rfl rfl rfl)) ?_
            refine rg_put (d := 46) (v := .d (.fl (.int .i64 (i : Int)))) rfl (og rfl (op_move rfl rfl rfl)) ?_
            refine rg_put (d := 47) (v := .d (.fl (.bool ((decide ((j : Int) < (i : Int))))))) rfl (og rfl (op_bin rfl rfl rfl (b_lss _ _ _ _) rfl)) ?_
            refine rg_done rfl ?_
            refine a_cond rfl (fun h14 => ?_) (fun h14 => ?_)
            · skip
              have h15 := t_dec h14
              refine a_skip ?_
              show A _ _ _ _ _ _ _
              refine a_seq ?_
              refine a_block ?_
              refine a_dseq (by kernel_rfl) ?_
              refine dr_put (d := 50) (v := .d (.sl 1 (List.map (rI .i64) a))) rfl (og rfl (op_move rfl rfl rfl)) ?_
              refine dr_put (d := 51) (v := .d (.fl (.int .i64 (i : Int)))) rfl (og rfl (op_move rfl rfl rfl)) ?_
              refine dr_put (d := 52) (v := .el ((rI .i64 (ix a i)))) rfl (og rfl (s_index rfl Try.underlying23 ti3 rfl rfl (by omega) (row_at (by omega)) rfl)) ?_
              refine dr_put (d := 53) (v := .d (.fl (.int .i64 (ix a i)))) rfl (og rfl (op_load_el rfl Try.underlying3 rfl rfl rfl rfl)) ?_
              refine dr_put (d := 54) (v := .d (.fl (.bool ((decide (0 ≤ (ix a i))))))) rfl (og rfl (op_bin rfl rfl rfl (b_geq _ _ _ _) rfl)) ?_
              refine dr_put (d := 55) (v := .d (.fl (.bool ((decide (0 ≤ (ix a i))))))) rfl (og rfl (op_move rfl rfl rfl)) ?_
              rcases fot ((decide (0 ≤ (ix a i)))) with h16 | h16
              · skip
                have h17 := f_dec h16
                refine dr_put (d := 56) (v := .d (.fl undef)) rfl (on rfl rfl rfl h16) ?_
                refine dr_put (d := 57) (v := .d (.fl undef)) rfl (on rfl rfl rfl h16) ?_
                refine dr_put (d := 58) (v := .d (.fl undef)) rfl (on rfl rfl rfl h16) ?_
                refine dr_put (d := 59) (v := .d (.fl undef)) rfl (on rfl rfl rfl h16) ?_
                refine dr_put (d := 60) (v := .d (.fl undef)) rfl (on rfl rfl rfl h16) ?_
                refine dr_put (d := 61) (v := .d (.fl undef)) rfl (on rfl rfl rfl h16) ?_
                refine dr_put (d := 62) (v := .d (.fl undef)) rfl (on rfl rfl rfl h16) ?_
                refine dr_put (d := 63) (v := .d (.fl undef)) rfl (on rfl rfl rfl h16) ?_
                refine dr_put (d := 64) (v := .d (.fl undef)) rfl (on rfl rfl rfl h16) ?_
                refine dr_put (d := 65) (v := .d (.fl (.bool false))) rfl (og rfl (op_pick rfl rfl (by rw [h16]; rfl) rfl)) ?_
                refine dr_done rfl (sepB_of [0, 0, 3, 7, 15, 31, 63, 63, 255, 511, 63, 63, 3135, 7231, 16383, 32767] (by kernel_rfl)) (by kernel_rfl) ?_
                refine a_condF rfl rfl ?_
                refine a_skip ?_
                show A _ _ _ _ _ _ _
                refine a_region ?_
                refine rg_put (d := 48) (v := .d (.fl (.int .i64 (j : Int)))) rfl (og rfl (op_move rfl rfl rfl)) ?_
                refine rg_put (d := 49) (v := .d (.fl (.int .i64 (((j : Int) + 1))))) rfl (og rfl (op_bin rfl rfl rfl (fun x y w => b_add64 _ _ _ x y w (by omega)) rfl)) ?_
                refine rg_put (d := 9) (v := .d (.fl (.int .i64 (((j : Int) + 1))))) rfl (og rfl (op_assign rfl rfl rfl)) ?_
                refine rg_done rfl ?_
                have hus2 : 0 ≤ ix a i → us a (ix a i) (j + 1) = false := fun h0 => by simp only [us, hus h0, show (ix a j == ix a i) = false from by simp; omega]; rfl
                show ∃ i, _ ∧ _ ∧ Imp _ _ _ _ _
                refine ⟨j + 1, ⟨by omega, hus2⟩, by omega, imp_forget rfl ⟨rfl, rfl, rfl, rfl, rfl, rfl, rfl, rfl, rfl, rfl, (by first | rfl | exact ci (by omega)), trivial⟩ ⟨rfl, trivial⟩⟩
              · skip
                have h18 := t_dec h16
                refine dr_put (d := 56) (v := .d (.sl 1 (List.map (rI .i64) a))) rfl (oy rfl rfl rfl h16 (op_move rfl rfl rfl)) ?_
                refine dr_put (d := 57) (v := .d (.fl (.int .i64 (j : Int)))) rfl (oy rfl rfl rfl h16 (op_move rfl rfl rfl)) ?_
                refine dr_put (d := 58) (v := .el ((rI .i64 (ix a j)))) rfl (oy rfl rfl rfl h16 (s_index rfl Try.underlying23 ti3 rfl rfl (by omega) (row_at (by omega)) rfl)) ?_
                refine dr_put (d := 59) (v := .d (.fl (.int .i64 (ix a j)))) rfl (oy rfl rfl rfl h16 (op_load_el rfl Try.underlying3 rfl rfl rfl rfl)) ?_
                refine dr_put (d := 60) (v := .d (.sl 1 (List.map (rI .i64) a))) rfl (oy rfl rfl rfl h16 (op_move rfl rfl rfl)) ?_
                refine dr_put (d := 61) (v := .d (.fl (.int .i64 (i : Int)))) rfl (oy rfl rfl rfl h16 (op_move rfl rfl rfl)) ?_
                refine dr_put (d := 62) (v := .el ((rI .i64 (ix a i)))) rfl (oy rfl rfl rfl h16 (s_index rfl Try.underlying23 ti3 rfl rfl (by omega) (row_at (by omega)) rfl)) ?_
                refine dr_put (d := 63) (v := .d (.fl (.int .i64 (ix a i)))) rfl (oy rfl rfl rfl h16 (op_load_el rfl Try.underlying3 rfl rfl rfl rfl)) ?_
                refine dr_put (d := 64) (v := .d (.fl (.bool (((ix a j) == (ix a i)))))) rfl (oy rfl rfl rfl h16 (op_bin rfl rfl rfl (b_eql _ _ _ _) rfl)) ?_
                refine dr_put (d := 65) (v := .d (.fl (.bool (((ix a j) == (ix a i)))))) rfl (og rfl (op_pick rfl rfl (by rw [h16]; rfl) rfl)) ?_
                refine dr_done rfl (sepB_of [0, 0, 3, 7, 15, 31, 63, 63, 255, 511, 63, 63, 3135, 7231, 16383, 32767] (by kernel_rfl)) (by kernel_rfl) ?_
                refine a_cond rfl (fun h19 => ?_) (fun h19 => ?_)
                · skip
                  have h20 := t_beq h19
                  refine a_rseq ?_
                  refine rg_put (d := 4) (v := .d (.fl (.int .i64 0))) rfl (og rfl (op_assign rfl rfl rfl)) ?_
                  refine rg_put (d := 5) (v := .d (.fl (.int .i64 9))) rfl (og rfl (op_assign rfl rfl rfl)) ?_
                  refine rg_done rfl ?_
                  refine a_ret ?_
                  show ∃ ds, ResL _ _ _ ds ∧ RV.of ds = _
                  refine ⟨[.fl (.int .i64 0), .fl (.int .i64 9)], (.cons (.tmp rfl (.d _)) (.cons (.tmp rfl (.d _)) .nil)), ?_⟩
                  rw [tt_e (m := m) (a := a) hck (by omega) (i := i) (by omega) hq (c := 9) (er_9 (by omega) (by omega) (us_at (q := j) (by omega) (by first | omega | (apply eq_of_beq; assumption)))) (by decide)]; rfl
                · skip
                  have h21 := f_beq h19
                  refine a_skip ?_
                  show A _ _ _ _ _ _ _
                  refine a_region ?_
                  refine rg_put (d := 48) (v := .d (.fl (.int .i64 (j : Int)))) rfl (og rfl (op_move rfl rfl rfl)) ?_
                  refine rg_put (d := 49) (v := .d (.fl (.int .i64 (((j : Int) + 1))))) rfl (og rfl (op_bin rfl rfl rfl (fun x y w => b_add64 _ _ _ x y w (by omega)) rfl)) ?_
                  refine rg_put (d := 9) (v := .d (.fl (.int .i64 (((j : Int) + 1))))) rfl (og rfl (op_assign rfl rfl rfl)) ?_
                  refine rg_done rfl ?_
                  have hus2 : 0 ≤ ix a i → us a (ix a i) (j + 1) = false := fun h0 => by simp only [us, hus h0, show (ix a j == ix a i) = false from by simp; omega]; rfl
                  show ∃ i, _ ∧ _ ∧ Imp _ _ _ _ _
                  refine ⟨j + 1, ⟨by omega, hus2⟩, by omega, imp_forget rfl ⟨rfl, rfl, rfl, rfl, rfl, rfl, rfl, rfl, rfl, rfl, (by first | rfl | exact ci (by omega)), trivial⟩ ⟨rfl, trivial⟩⟩
            · skip
              have h22 := f_dec h14
              refine a_exit ?_
              show A _ _ _ _ _ _ _
              refine a_seq ?_
              refine a_dseq (by kernel_rfl) ?_
              have hji : j = i := by omega
              rw [hji] at hus
              have hti := hO.t i (by omega)
              refine dr_put (d := 66) (v := .d (.ag (eMat m))) rfl (og rfl (of_eff (s_load_pts rfl Try.underlying25 rfl ti25 rfl rfl rfl rfl) rfl)) ?_
              refine dr_put (d := 67) (v := .d (.fl (.int .i64 (i : Int)))) rfl (og rfl (op_move rfl rfl rfl)) ?_
              refine dr_put (d := 68) (v := .d (.sl 1 (List.map (rI .i64) a))) rfl (og rfl (op_move rfl rfl rfl)) ?_
              refine dr_put (d := 69) (v := .d (.fl (.int .i64 (i : Int)))) rfl (og rfl (op_move rfl rfl rfl)) ?_
              refine dr_put (d := 70) (v := .el ((rI .i64 (ix a i)))) rfl (og rfl (s_index rfl Try.underlying23 ti3 rfl rfl (by omega) (row_at (by omega)) rfl)) ?_
              refine dr_put (d := 71) (v := .d (.fl (.int .i64 (ix a i)))) rfl (og rfl (op_load_el rfl Try.underlying3 rfl rfl rfl rfl)) ?_
              refine dr_put (d := 72) (v := .d (.fl (.int .i64 ((pr m i (ix a i)))))) rfl (og rfl (op_call rfl Try.func27 nm27 rfl (.cons rfl (.d _) (.cons rfl (.d _) (.cons rfl (.d _) .nil))) (prC m i (ix a i) (by omega) (fun h0 => by omega)) rfl)) ?_
              refine dr_put (d := 73) (v := .d (.fl (.bool ((decide ((pr m i (ix a i)) < 0)))))) rfl (og rfl (op_bin rfl rfl rfl (b_lss _ _ _ _) rfl)) ?_
              refine dr_done rfl (by kernel_rfl) (by kernel_rfl) ?_
              refine a_cond rfl (fun h23 => ?_) (fun h23 => ?_)
              · skip
                have h24 := t_dec h23
                refine a_rseq ?_
                refine rg_put (d := 4) (v := .d (.fl (.int .i64 0))) rfl (og rfl (op_assign rfl rfl rfl)) ?_
                refine rg_put (d := 5) (v := .d (.fl (.int .i64 1))) rfl (og rfl (op_assign rfl rfl rfl)) ?_
                refine rg_done rfl ?_
                refine a_ret ?_
                show ∃ ds, ResL _ _ _ ds ∧ RV.of ds = _
                refine ⟨[.fl (.int .i64 0), .fl (.int .i64 1)], (.cons (.tmp rfl (.d _)) (.cons (.tmp rfl (.d _)) .nil)), ?_⟩
                rw [tt_e (m := m) (a := a) hck (by omega) (i := i) (by omega) hq (c := 1) (er_1 (by omega) hus (by omega)) (by decide)]; rfl
              · skip
                have h25 := f_dec h23
                refine a_skip ?_
                show A _ _ _ _ _ _ _
                refine a_draw (by kernel_rfl) ?_
                have hph := pr_hi hO (i := i) (by omega) (k := ix a i) (by omega)
                refine dr_put (d := 74) (v := .d (.fl (.int .i64 (sm m a i)))) rfl (og rfl (op_move rfl rfl rfl)) ?_
                refine dr_put (d := 75) (v := .d (.ag (eMat m))) rfl (og rfl (of_eff (s_load_pts rfl Try.underlying25 rfl ti25 rfl rfl rfl rfl) rfl)) ?_
                refine dr_put (d := 76) (v := .d (.fl (.int .i64 (i : Int)))) rfl (og rfl (op_move rfl rfl rfl)) ?_
                refine dr_put (d := 77) (v := .d (.sl 1 (List.map (rI .i64) a))) rfl (og rfl (op_move rfl rfl rfl)) ?_
                refine dr_put (d := 78) (v := .d (.fl (.int .i64 (i : Int)))) rfl (og rfl (op_move rfl rfl rfl)) ?_
                refine dr_put (d := 79) (v := .el ((rI .i64 (ix a i)))) rfl (og rfl (s_index rfl Try.underlying23 ti3 rfl rfl (by omega) (row_at (by omega)) rfl)) ?_
                refine dr_put (d := 80) (v := .d (.fl (.int .i64 (ix a i)))) rfl (og rfl (op_load_el rfl Try.underlying3 rfl rfl rfl rfl)) ?_
                refine dr_put (d := 81) (v := .d (.fl (.int .i64 ((pr m i (ix a i)))))) rfl (og rfl (op_call rfl Try.func27 nm27 rfl (.cons rfl (.d _) (.cons rfl (.d _) (.cons rfl (.d _) .nil))) (prC m i (ix a i) (by omega) (fun h0 => by omega)) rfl)) ?_
                refine dr_put (d := 82) (v := .d (.fl (.int .i64 (((sm m a i) + (pr m i (ix a i))))))) rfl (og rfl (op_bin rfl rfl rfl (fun x y w => b_add64 _ _ _ x y w (by omega)) rfl)) ?_
                refine dr_put (d := 7) (v := .d (.fl (.int .i64 (((sm m a i) + (pr m i (ix a i))))))) rfl (og rfl (op_assign rfl rfl rfl)) ?_
                refine dr_done rfl (by kernel_rfl) (by kernel_rfl) ?_
                show A _ _ _ _ _ _ _
                refine a_region ?_
                refine rg_put (d := 28) (v := .d (.fl (.int .i64 (i : Int)))) rfl (og rfl (op_move rfl rfl rfl)) ?_
                refine rg_put (d := 29) (v := .d (.fl (.int .i64 (((i : Int) + 1))))) rfl (og rfl (op_bin rfl rfl rfl (fun x y w => b_add64 _ _ _ x y w (by omega)) rfl)) ?_
                refine rg_put (d := 8) (v := .d (.fl (.int .i64 (((i : Int) + 1))))) rfl (og rfl (op_assign rfl rfl rfl)) ?_
                refine rg_done rfl ?_
                have her : er m a i = 0 := er_0 (by omega) hus (by omega)
                show ∃ i, _ ∧ _ ∧ Imp _ _ _ _ _
                refine ⟨i + 1, ⟨by omega, fun q h => (Nat.lt_succ_iff_lt_or_eq.1 h).elim (hq q) (fun e => by rw [e]; exact her)⟩, by omega, imp_forget rfl ⟨rfl, rfl, rfl, rfl, rfl, rfl, (by first | rfl | exact ci (by omega)), rfl, trivial⟩ ⟨rfl, trivial⟩⟩
        · skip
          have h26 := t_dec h9
          refine dr_put (d := 36) (v := .d (.fl undef)) rfl (on rfl rfl rfl h9) ?_
          refine dr_put (d := 37) (v := .d (.fl undef)) rfl (on rfl rfl rfl h9) ?_
          refine dr_put (d := 38) (v := .d (.fl undef)) rfl (on rfl rfl rfl h9) ?_
          refine dr_put (d := 39) (v := .d (.fl undef)) rfl (on rfl rfl rfl h9) ?_
          refine dr_put (d := 40) (v := .d (.fl undef)) rfl (on rfl rfl rfl h9) ?_
          refine dr_put (d := 41) (v := .d (.fl undef)) rfl (on rfl rfl rfl h9) ?_
          refine dr_put (d := 42) (v := .d (.fl undef)) rfl (on rfl rfl rfl h9) ?_
          refine dr_put (d := 43) (v := .d (.fl undef)) rfl (on rfl rfl rfl h9) ?_
          refine dr_put (d := 44) (v := .d (.fl (.bool true))) rfl (og rfl (op_pick rfl rfl (by rw [h9]; rfl) rfl)) ?_
          refine dr_done rfl (sepB_of [0, 0, 3, 7, 15, 31, 63, 63, 255, 511, 63, 1087, 3135, 8191, 16383] (by kernel_rfl)) (by kernel_rfl) ?_
          refine a_condK rfl rfl ?_
          refine a_rseq ?_
          refine rg_put (d := 4) (v := .d (.fl (.int .i64 0))) rfl (og rfl (op_assign rfl rfl rfl)) ?_
          refine rg_put (d := 5) (v := .d (.fl (.int .i64 2))) rfl (og rfl (op_assign rfl rfl rfl)) ?_
          refine rg_done rfl ?_
          refine a_ret ?_
          show ∃ ds, ResL _ _ _ ds ∧ RV.of ds = _
          refine ⟨[.fl (.int .i64 0), .fl (.int .i64 2)], (.cons (.tmp rfl (.d _)) (.cons (.tmp rfl (.d _)) .nil)), ?_⟩
          rw [tt_e (m := m) (a := a) hck (by omega) (i := i) (by omega) hq (c := 2) (er_2 (by omega)) (by decide)]; rfl
      · skip
        have h27 := f_dec h7
        refine a_exit ?_
        show A _ _ _ _ _ _ _
        refine a_seq ?_
        refine a_rseq ?_
        refine rg_put (d := 10) (v := .d (.fl (.int .i64 0))) rfl (og rfl (op_assign rfl rfl rfl)) ?_
        refine rg_done rfl ?_
        refine a_block ?_
        refine a_loop (ι := Nat) (fun k => SS [(0, .d (.ag (eMat m))), (1, .d (.sl 1 (List.map (rI .i64) a))), (2, .pt 101 0), (6, .d (.fl (.int .i64 (ck m)))), (8, .d (.fl (.int .i64 (i : Int)))), (16, .d (.fl (.bool (((ck m) != 0))))), (23, .d (.fl (.bool (((a.length : Int) != (m.row.length : Int)))))), (27, .d (.fl (.bool ((decide ((i : Int) < (a.length : Int))))))), (10, .d (.fl (.int .i64 (k : Int)))), (7, .d (.fl (.int .i64 (sm m a i + cl m a i k))))] [(101, .bx 25 (eMat m))]) (fun k => k ≤ m.col.length) (fun k => m.col.length - k) 0 (by omega) (imp_forget rfl ⟨rfl, rfl, rfl, rfl, rfl, rfl, rfl, rfl, (by first | rfl | exact ci (by omega) | exact ci (by simp) | exact cd (by simp) | simp), (ci (by simp only [cl]; omega)), trivial⟩ ⟨rfl, trivial⟩) (fun k hok => ?_)
        have hk := hok
        have hcl := cl_in hO a i k hk
        refine a_seq ?_
        refine a_rseq ?_
        refine rg_put (d := 83) (v := .d (.fl (.int .i64 (k : Int)))) rfl (og rfl (op_move rfl rfl rfl)) ?_
        refine rg_put (d := 84) (v := .pt 101 2) rfl (og rfl (of_eff (s_field_pt rfl Try.underlying25 rfl ti23 rfl rfl rfl) rfl)) ?_
        refine rg_put (d := 85) (v := .d (.sl 1 (List.map (rI .i64) m.col))) rfl (og rfl (op_load_pt rfl Try.underlying23 rfl rfl rfl rfl rfl)) ?_
        refine rg_put (d := 86) (v := .d (.fl (.int .i64 (m.col.length : Int)))) rfl (og rfl (s_len rfl Try.underlying23 rfl rfl)) ?_
        refine rg_put (d := 87) (v := .d (.fl (.bool ((decide ((k : Int) < (m.col.length : Int))))))) rfl (og rfl (op_bin rfl rfl rfl (b_lss _ _ _ _) rfl)) ?_
        refine rg_done rfl ?_
        refine a_cond rfl (fun h28 => ?_) (fun h28 => ?_)
        · skip
          have h29 := t_dec h28
          refine a_skip ?_
          show A _ _ _ _ _ _ _
          refine a_seq ?_
          refine a_block ?_
          refine a_rseq ?_
          refine rg_put (d := 11) (v := .d (.fl (.bool false))) rfl (og rfl (op_assign rfl rfl rfl)) ?_
          refine rg_done rfl ?_
          refine a_seq ?_
          refine a_rseq ?_
          refine rg_put (d := 12) (v := .d (.fl (.int .i64 0))) rfl (og rfl (op_assign rfl rfl rfl)) ?_
          refine rg_done rfl ?_
          refine a_block ?_
          refine a_loop (ι := Nat) (fun q => SS [(0, .d (.ag (eMat m))), (1, .d (.sl 1 (List.map (rI .i64) a))), (2, .pt 101 0), (6, .d (.fl (.int .i64 (ck m)))), (7, .d (.fl (.int .i64 (sm m a i + cl m a i k)))), (8, .d (.fl (.int .i64 (i : Int)))), (10, .d (.fl (.int .i64 (k : Int)))), (16, .d (.fl (.bool (((ck m) != 0))))), (23, .d (.fl (.bool (((a.length : Int) != (m.row.length : Int)))))), (27, .d (.fl (.bool ((decide ((i : Int) < (a.length : Int))))))), (87, .d (.fl (.bool ((decide ((k : Int) < (m.col.length : Int))))))), (12, .d (.fl (.int .i64 (q : Int)))), (11, .d (.fl (.bool ((us a (k : Int) q)))))] [(101, .bx 25 (eMat m))]) (fun q => q ≤ a.length) (fun q => a.length - q) 0 (by omega) (imp_forget rfl ⟨rfl, rfl, rfl, rfl, rfl, rfl, rfl, rfl, rfl, rfl, rfl, (by first | rfl | exact ci (by omega) | exact ci (by simp) | exact cd (by simp) | simp), rfl, trivial⟩ ⟨rfl, trivial⟩) (fun q hok => ?_)
          have hqq := hok
          refine a_seq ?_
          refine a_rseq ?_
          refine rg_put (d := 90) (v := .d (.fl (.int .i64 (q : Int)))) rfl (og rfl (op_move rfl rfl rfl)) ?_
          refine rg_put (d := 91) (v := .d (.sl 1 (List.map (rI .i64) a))) rfl (og rfl (op_move rfl rfl rfl)) ?_
          refine rg_put (d := 92) (v := .d (.fl (.int .i64 (a.length : Int)))) rfl (og rfl (s_len rfl Try.underlying23 rfl rfl)) ?_
          refine rg_put (d := 93) (v := .d (.fl (.bool ((decide ((q : Int) < (a.length : Int))))))) rfl (og rfl (op_bin rfl rfl rfl (b_lss _ _ _ _) rfl)) ?_
          refine rg_done rfl ?_
          refine a_cond rfl (fun h30 => ?_) (fun h30 => ?_)
          · skip
            have h31 := t_dec h30
            refine a_skip ?_
            show A _ _ _ _ _ _ _
            refine a_seq ?_
            refine a_block ?_
            refine a_region ?_
            refine rg_put (d := 96) (v := .d (.fl (.bool ((us a (k : Int) q))))) rfl (og rfl (op_move rfl rfl rfl)) ?_
            refine rg_put (d := 97) (v := .d (.fl (.bool ((us a (k : Int) q))))) rfl (og rfl (op_move rfl rfl rfl)) ?_
            rcases fot ((us a (k : Int) q)) with h32 | h32
            · skip
              refine rg_put (d := 98) (v := .d (.sl 1 (List.map (rI .i64) a))) rfl (oy rfl rfl rfl h32 (op_move rfl rfl rfl)) ?_
              refine rg_put (d := 99) (v := .d (.fl (.int .i64 (q : Int)))) rfl (oy rfl rfl rfl h32 (op_move rfl rfl rfl)) ?_
              refine rg_put (d := 100) (v := .el ((rI .i64 (ix a q)))) rfl (oy rfl rfl rfl h32 (s_index rfl Try.underlying23 ti3 rfl rfl (by omega) (row_at (by omega)) rfl)) ?_
              refine rg_put (d := 101) (v := .d (.fl (.int .i64 (ix a q)))) rfl (oy rfl rfl rfl h32 (op_load_el rfl Try.underlying3 rfl rfl rfl rfl)) ?_
              refine rg_put (d := 102) (v := .d (.fl (.int .i64 (k : Int)))) rfl (oy rfl rfl rfl h32 (op_move rfl rfl rfl)) ?_
              refine rg_put (d := 103) (v := .d (.fl (.bool (((ix a q) == (k : Int)))))) rfl (oy rfl rfl rfl h32 (op_bin rfl rfl rfl (b_eql _ _ _ _) rfl)) ?_
              refine rg_put (d := 104) (v := .d (.fl (.bool (((ix a q) == (k : Int)))))) rfl (og rfl (op_pick rfl rfl (by rw [h32]; rfl) rfl)) ?_
              refine rg_put (d := 11) (v := .d (.fl (.bool (((ix a q) == (k : Int)))))) rfl (og rfl (op_assign rfl rfl rfl)) ?_
              refine rg_done rfl ?_
              show A _ _ _ _ _ _ _
              refine a_region ?_
              refine rg_put (d := 94) (v := .d (.fl (.int .i64 (q : Int)))) rfl (og rfl (op_move rfl rfl rfl)) ?_
              refine rg_put (d := 95) (v := .d (.fl (.int .i64 (((q : Int) + 1))))) rfl (og rfl (op_bin rfl rfl rfl (fun x y w => b_add64 _ _ _ x y w (by omega)) rfl)) ?_
              refine rg_put (d := 12) (v := .d (.fl (.int .i64 (((q : Int) + 1))))) rfl (og rfl (op_assign rfl rfl rfl)) ?_
              refine rg_done rfl ?_
              have hst : ((ix a q) == (k : Int)) = us a (k : Int) (q + 1) := by simp only [us, h1, h4, h7, h28, h30, h32, Bool.true_or, Bool.false_or, Bool.or_true, Bool.or_false, Bool.not_true, Bool.not_false, cond_true, cond_false, Bool.true_and, Bool.false_and, Bool.and_true, Bool.and_false] <;> rfl
              show ∃ i, _ ∧ _ ∧ Imp _ _ _ _ _
              refine ⟨q + 1, (by omega), by omega, imp_forget rfl ⟨rfl, rfl, rfl, rfl, rfl, rfl, rfl, rfl, rfl, rfl, rfl, (by first | rfl | exact ci (by omega)), (cd (congrArg (fun z => DV.fl (.bool z)) hst)), trivial⟩ ⟨rfl, trivial⟩⟩
            · skip
              refine rg_put (d := 98) (v := .d (.fl undef)) rfl (on rfl rfl rfl h32) ?_
              refine rg_put (d := 99) (v := .d (.fl undef)) rfl (on rfl rfl rfl h32) ?_
              refine rg_put (d := 100) (v := .d (.fl undef)) rfl (on rfl rfl rfl h32) ?_
              refine rg_put (d := 101) (v := .d (.fl undef)) rfl (on rfl rfl rfl h32) ?_
              refine rg_put (d := 102) (v := .d (.fl undef)) rfl (on rfl rfl rfl h32) ?_
              refine rg_put (d := 103) (v := .d (.fl undef)) rfl (on rfl rfl rfl h32) ?_
              refine rg_put (d := 104) (v := .d (.fl (.bool true))) rfl (og rfl (op_pick rfl rfl (by rw [h32]; rfl) rfl)) ?_
              refine rg_put (d := 11) (v := .d (.fl (.bool true))) rfl (og rfl (op_assign rfl rfl rfl)) ?_
              refine rg_done rfl ?_
              show A _ _ _ _ _ _ _
              refine a_region ?_
              refine rg_put (d := 94) (v := .d (.fl (.int .i64 (q : Int)))) rfl (og rfl (op_move rfl rfl rfl)) ?_
              refine rg_put (d := 95) (v := .d (.fl (.int .i64 (((q : Int) + 1))))) rfl (og rfl (op_bin rfl rfl rfl (fun x y w => b_add64 _ _ _ x y w (by omega)) rfl)) ?_
              refine rg_put (d := 12) (v := .d (.fl (.int .i64 (((q : Int) + 1))))) rfl (og rfl (op_assign rfl rfl rfl)) ?_
              refine rg_done rfl ?_
              have hst : true = us a (k : Int) (q + 1) := by simp only [us, h1, h4, h7, h28, h30, h32, Bool.true_or, Bool.false_or, Bool.or_true, Bool.or_false, Bool.not_true, Bool.not_false, cond_true, cond_false, Bool.true_and, Bool.false_and, Bool.and_true, Bool.and_false] <;> rfl
              show ∃ i, _ ∧ _ ∧ Imp _ _ _ _ _
              refine ⟨q + 1, (by omega), by omega, imp_forget rfl ⟨rfl, rfl, rfl, rfl, rfl, rfl, rfl, rfl, rfl, rfl, rfl, (by first | rfl | exact ci (by omega)), (cd (congrArg (fun z => DV.fl (.bool z)) hst)), trivial⟩ ⟨rfl, trivial⟩⟩
          · skip
            have h33 := f_dec h30
            refine a_exit ?_
            show A _ _ _ _ _ _ _
            refine a_rseq ?_
            refine rg_put (d := 105) (v := .d (.fl (.bool ((us a (k : Int) q))))) rfl (og rfl (op_move rfl rfl rfl)) ?_
            refine rg_put (d := 106) (v := .d (.fl (.bool ((!((us a (k : Int) q))))))) rfl (og rfl (op_un rfl rfl (u_not _) rfl)) ?_
            refine rg_done rfl ?_
            refine a_cond rfl (fun h34 => ?_) (fun h34 => ?_)
            · skip
              have h35 := t_not h34
              refine a_region ?_
              have hcw := hO.cw k (by omega)
              refine rg_put (d := 107) (v := .d (.fl (.int .i64 (sm m a i + cl m a i k)))) rfl (og rfl (op_move rfl rfl rfl)) ?_
              refine rg_put (d := 108) (v := .pt 101 2) rfl (og rfl (of_eff (s_field_pt rfl Try.underlying25 rfl ti23 rfl rfl rfl) rfl)) ?_
              refine rg_put (d := 109) (v := .d (.sl 1 (List.map (rI .i64) m.col))) rfl (og rfl (op_load_pt rfl Try.underlying23 rfl rfl rfl rfl rfl)) ?_
              refine rg_put (d := 110) (v := .d (.fl (.int .i64 (k : Int)))) rfl (og rfl (op_move rfl rfl rfl)) ?_
              refine rg_put (d := 111) (v := .el ((rI .i64 (ix m.col k)))) rfl (og rfl (s_index rfl Try.underlying23 ti3 rfl rfl (by omega) (row_at (by omega)) rfl)) ?_
              refine rg_put (d := 112) (v := .d (.fl (.int .i64 (ix m.col k)))) rfl (og rfl (op_load_el rfl Try.underlying3 rfl rfl rfl rfl)) ?_
              refine rg_put (d := 113) (v := .d (.fl (.int .i64 (((sm m a i + cl m a i k) + (ix m.col k)))))) rfl (og rfl (op_bin rfl rfl rfl (fun x y w => b_add64 _ _ _ x y w (by omega)) rfl)) ?_
              refine rg_put (d := 7) (v := .d (.fl (.int .i64 (((sm m a i + cl m a i k) + (ix m.col k)))))) rfl (og rfl (op_assign rfl rfl rfl)) ?_
              refine rg_done rfl ?_
              show A _ _ _ _ _ _ _
              refine a_region ?_
              refine rg_put (d := 88) (v := .d (.fl (.int .i64 (k : Int)))) rfl (og rfl (op_move rfl rfl rfl)) ?_
              refine rg_put (d := 89) (v := .d (.fl (.int .i64 (((k : Int) + 1))))) rfl (og rfl (op_bin rfl rfl rfl (fun x y w => b_add64 _ _ _ x y w (by omega)) rfl)) ?_
              refine rg_put (d := 10) (v := .d (.fl (.int .i64 (((k : Int) + 1))))) rfl (og rfl (op_assign rfl rfl rfl)) ?_
              refine rg_done rfl ?_
              have hqe : q = i := by omega
              skip
              have hst : ((sm m a i + cl m a i k) + (ix m.col k)) = sm m a i + cl m a i (k + 1) := by simp only [cl]; rw [← hqe, h35]; simp only [cond_true, cond_false]; omega
              show ∃ i, _ ∧ _ ∧ Imp _ _ _ _ _
              refine ⟨k + 1, (by omega), by omega, imp_forget rfl ⟨rfl, rfl, rfl, rfl, rfl, rfl, rfl, rfl, (by first | rfl | exact ci (by omega)), (ci hst), trivial⟩ ⟨rfl, trivial⟩⟩
            · skip
              have h36 := f_not h34
              refine a_skip ?_
              show A _ _ _ _ _ _ _
              refine a_region ?_
              refine rg_put (d := 88) (v := .d (.fl (.int .i64 (k : Int)))) rfl (og rfl (op_move rfl rfl rfl)) ?_
              refine rg_put (d := 89) (v := .d (.fl (.int .i64 (((k : Int) + 1))))) rfl (og rfl (op_bin rfl rfl rfl (fun x y w => b_add64 _ _ _ x y w (by omega)) rfl)) ?_
              refine rg_put (d := 10) (v := .d (.fl (.int .i64 (((k : Int) + 1))))) rfl (og rfl (op_assign rfl rfl rfl)) ?_
              refine rg_done rfl ?_
              have hqe : q = i := by omega
              skip
              have hst : (sm m a i + cl m a i k) = sm m a i + cl m a i (k + 1) := by simp only [cl]; rw [← hqe, h36]; simp only [cond_true, cond_false]; omega
              show ∃ i, _ ∧ _ ∧ Imp _ _ _ _ _
              refine ⟨k + 1, (by omega), by omega, imp_forget rfl ⟨rfl, rfl, rfl, rfl, rfl, rfl, rfl, rfl, (by first | rfl | exact ci (by omega)), (ci hst), trivial⟩ ⟨rfl, trivial⟩⟩
        · skip
          have h37 := f_dec h28
          refine a_exit ?_
          show A _ _ _ _ _ _ _
          refine a_rseq ?_
          refine rg_put (d := 114) (v := .d (.fl (.int .i64 (sm m a i + cl m a i k)))) rfl (og rfl (op_move rfl rfl rfl)) ?_
          refine rg_put (d := 4) (v := .d (.fl (.int .i64 (sm m a i + cl m a i k)))) rfl (og rfl (op_assign rfl rfl rfl)) ?_
          refine rg_put (d := 5) (v := .d (.fl (.int .i64 0))) rfl (og rfl (op_assign rfl rfl rfl)) ?_
          refine rg_done rfl ?_
          refine a_ret ?_
          show ∃ ds, ResL _ _ _ ds ∧ RV.of ds = _
          refine ⟨[.fl (.int .i64 (sm m a i + cl m a i k)), .fl (.int .i64 0)], (.cons (.tmp rfl (.d _)) (.cons (.tmp rfl (.d _)) .nil)), ?_⟩
          rw [tt_0 (m := m) (a := a) hck (by omega) (fun q h => hq q (by omega)), show a.length = i from by omega, show m.col.length = k from by omega]; rfl
end Go.Proofs.Ytafmoldngopkdaa.Wk
