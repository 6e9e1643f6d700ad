/- The owner of a vehicle; few. Conditions: as each theorem names them. -/
import Derived.Test.YtaapmifdglaehaaDoorM2
set_option linter.unusedSimpArgs false
set_option linter.unusedVariables false
namespace Go.Proofs.YtaapmifdglaehaaDoor.Wk
open Go Go.RowKit Go.Proofs.YtaapmifdglaehaaDoor.Av
theorem ne_self_b (a : Int) : (a != a) = false := by simp
theorem sEq_eq {a b : ByteArray} (h : sEq a b = true) : a = b := of_decide_eq_true h
theorem sEq_of {a b : ByteArray} (h : a = b) : sEq a b = true := decide_eq_true h
theorem nb {b : Bool} (h : ¬ b = true) : b = false := by cases b <;> simp at h ⊢
theorem nnb {b : Bool} (h : ¬ (!b) = true) : b = true := by cases b <;> simp at h ⊢

set_option maxHeartbeats 4000000 in
set_option maxRecDepth 100000 in
theorem vIV (i : Iv) : Ctr Tryd.prog 18 [.ag (eIv i)] (.d (.fl (.bool (vI i)))) := by
  refine ctr (n := 18) (rs := #[.tmp 2]) (L := [(0, .d (.ag (eIv i)))]) Tryd.func18 rfl rfl rfl rfl rfl (fun w0 U0 => ?_)
  refine a_rseq ?_
  refine rg_nam (d := 1) (v := .pt 101 0) (m := 101) (nw := [(101, .bx 28 (eIv i))]) rfl (og rfl (of_eff (op_box 101 rfl rfl rfl rfl) rfl)) rfl ?_
  refine rg_put (d := 2) (v := .d (.fl (.bool false))) rfl (og rfl (op_assign rfl rfl rfl)) ?_
  refine rg_done rfl ?_
  refine a_rseq ?_
  refine rg_put (d := 3) (v := .pt 101 0) rfl (og rfl (of_eff (s_field_pt rfl Tryd.underlying28 rfl ti3 rfl rfl rfl) rfl)) ?_
  refine rg_put (d := 4) (v := .d (.fl (.int .i64 i.fr))) rfl (og rfl (op_load_pt rfl Tryd.underlying3 rfl rfl rfl rfl rfl)) ?_
  refine rg_put (d := 5) (v := .d (.fl (.bool ((decide (0 ≤ i.fr)))))) rfl (og rfl (op_bin rfl rfl rfl (b_leq _ _ _ _) rfl)) ?_
  refine rg_put (d := 6) (v := .d (.fl (.bool ((decide (0 ≤ i.fr)))))) rfl (og rfl (op_move rfl rfl rfl)) ?_
  rcases fot ((decide (0 ≤ i.fr))) with h1 | h1
  · skip
    have h2 := f_dec h1
    refine rg_put (d := 7) (v := .d (.fl undef)) rfl (on rfl rfl rfl h1) ?_
    refine rg_put (d := 8) (v := .d (.fl undef)) rfl (on rfl rfl rfl h1) ?_
    refine rg_put (d := 9) (v := .d (.fl undef)) rfl (on rfl rfl rfl h1) ?_
    refine rg_put (d := 10) (v := .d (.fl undef)) rfl (on rfl rfl rfl h1) ?_
    refine rg_put (d := 11) (v := .d (.fl undef)) rfl (on rfl rfl rfl h1) ?_
    refine rg_put (d := 12) (v := .d (.fl (.bool false))) rfl (og rfl (op_pick rfl rfl (by rw [h1]; rfl) rfl)) ?_
    refine rg_put (d := 13) (v := .d (.fl (.bool false))) rfl (og rfl (op_move rfl rfl rfl)) ?_
    refine rg_put (d := 14) (v := .d (.fl undef)) rfl (on rfl rfl rfl rfl) ?_
    refine rg_put (d := 15) (v := .d (.fl undef)) rfl (on rfl rfl rfl rfl) ?_
    refine rg_put (d := 16) (v := .d (.fl undef)) rfl (on rfl rfl rfl rfl) ?_
    refine rg_put (d := 17) (v := .d (.fl (.bool false))) rfl (og rfl (op_pick rfl rfl rfl rfl)) ?_
    refine rg_put (d := 2) (v := .d (.fl (.bool false))) rfl (og rfl (op_assign rfl rfl rfl)) ?_
    refine rg_done rfl ?_
    refine a_ret ?_
    show ∃ ds, ResL _ _ _ ds ∧ RV.of ds = _
    refine ⟨[.fl (.bool false)], (.cons (.tmp rfl (.d _)) .nil), ?_⟩
    have hu : vI i = false := by unfold vI; simp only [h1, Bool.true_or, Bool.false_or, Bool.or_true, Bool.or_false, Bool.not_true, Bool.not_false, cond_true, cond_false, Bool.true_and, Bool.false_and, Bool.and_true, Bool.and_false] <;> rfl
    rw [hu]; rfl
  · skip
    have h3 := t_dec h1
    refine rg_put (d := 7) (v := .pt 101 0) rfl (oy rfl rfl rfl h1 (of_eff (s_field_pt rfl Tryd.underlying28 rfl ti3 rfl rfl rfl) rfl)) ?_
    refine rg_put (d := 8) (v := .d (.fl (.int .i64 i.fr))) rfl (oy rfl rfl rfl h1 (op_load_pt rfl Tryd.underlying3 rfl rfl rfl rfl rfl)) ?_
    refine rg_put (d := 9) (v := .pt 101 1) rfl (oy rfl rfl rfl h1 (of_eff (s_field_pt rfl Tryd.underlying28 rfl ti3 rfl rfl rfl) rfl)) ?_
    refine rg_put (d := 10) (v := .d (.fl (.int .i64 i.to))) rfl (oy rfl rfl rfl h1 (op_load_pt rfl Tryd.underlying3 rfl rfl rfl rfl rfl)) ?_
    refine rg_put (d := 11) (v := .d (.fl (.bool ((decide (i.fr < i.to)))))) rfl (oy rfl rfl rfl h1 (op_bin rfl rfl rfl (b_lss _ _ _ _) rfl)) ?_
    refine rg_put (d := 12) (v := .d (.fl (.bool ((decide (i.fr < i.to)))))) rfl (og rfl (op_pick rfl rfl (by rw [h1]; rfl) rfl)) ?_
    refine rg_put (d := 13) (v := .d (.fl (.bool ((decide (i.fr < i.to)))))) rfl (og rfl (op_move rfl rfl rfl)) ?_
    rcases fot ((decide (i.fr < i.to))) with h4 | h4
    · skip
      have h5 := f_dec h4
      refine rg_put (d := 14) (v := .d (.fl undef)) rfl (on rfl rfl rfl h4) ?_
      refine rg_put (d := 15) (v := .d (.fl undef)) rfl (on rfl rfl rfl h4) ?_
      refine rg_put (d := 16) (v := .d (.fl undef)) rfl (on rfl rfl rfl h4) ?_
      refine rg_put (d := 17) (v := .d (.fl (.bool false))) rfl (og rfl (op_pick rfl rfl (by rw [h4]; rfl) rfl)) ?_
      refine rg_put (d := 2) (v := .d (.fl (.bool false))) rfl (og rfl (op_assign rfl rfl rfl)) ?_
      refine rg_done rfl ?_
      refine a_ret ?_
      show ∃ ds, ResL _ _ _ ds ∧ RV.of ds = _
      refine ⟨[.fl (.bool false)], (.cons (.tmp rfl (.d _)) .nil), ?_⟩
      have hu : vI i = false := by unfold vI; simp only [h1, h4, Bool.true_or, Bool.false_or, Bool.or_true, Bool.or_false, Bool.not_true, Bool.not_false, cond_true, cond_false, Bool.true_and, Bool.false_and, Bool.and_true, Bool.and_false] <;> rfl
      rw [hu]; rfl
    · skip
      have h6 := t_dec h4
      refine rg_put (d := 14) (v := .pt 101 1) rfl (oy rfl rfl rfl h4 (of_eff (s_field_pt rfl Tryd.underlying28 rfl ti3 rfl rfl rfl) rfl)) ?_
      refine rg_put (d := 15) (v := .d (.fl (.int .i64 i.to))) rfl (oy rfl rfl rfl h4 (op_load_pt rfl Tryd.underlying3 rfl rfl rfl rfl rfl)) ?_
      refine rg_put (d := 16) (v := .d (.fl (.bool ((decide (i.to ≤ 68719476736)))))) rfl (oy rfl rfl rfl h4 (op_bin rfl rfl rfl (b_leq _ _ _ _) rfl)) ?_
      refine rg_put (d := 17) (v := .d (.fl (.bool ((decide (i.to ≤ 68719476736)))))) rfl (og rfl (op_pick rfl rfl (by rw [h4]; rfl) rfl)) ?_
      refine rg_put (d := 2) (v := .d (.fl (.bool ((decide (i.to ≤ 68719476736)))))) rfl (og rfl (op_assign rfl rfl rfl)) ?_
      refine rg_done rfl ?_
      refine a_ret ?_
      show ∃ ds, ResL _ _ _ ds ∧ RV.of ds = _
      refine ⟨[.fl (.bool ((decide (i.to ≤ 68719476736))))], (.cons (.tmp rfl (.d _)) .nil), ?_⟩
      have hu : vI i = (decide (i.to ≤ 68719476736)) := by unfold vI; simp only [h1, h4, Bool.true_or, Bool.false_or, Bool.or_true, Bool.or_false, Bool.not_true, Bool.not_false, cond_true, cond_false, Bool.true_and, Bool.false_and, Bool.and_true, Bool.and_false] <;> rfl
      rw [hu]; rfl
set_option maxHeartbeats 4000000 in
set_option maxRecDepth 100000 in
theorem hasL (l : List Iv) (t : Int) (hl : l.length ≤ 9223372036854775807) : Ctr Tryd.prog 19 [.sl 2 (List.map eIv l), .fl (.int .i64 t)] (.d (.fl (.bool (l.any fun i => hasI i t)))) := by
  refine ctr (n := 28) (rs := #[.tmp 4]) (L := [(0, .d (.sl 2 (List.map eIv l))), (1, .d (.fl (.int .i64 t)))]) Tryd.func19 rfl rfl rfl rfl rfl (fun w0 U0 => ?_)
  refine a_rseq ?_
  refine rg_put (d := 4) (v := .d (.fl (.bool false))) rfl (og rfl (op_assign rfl rfl rfl)) ?_
  refine rg_done rfl ?_
  refine a_seq ?_
  refine a_rseq ?_
  refine rg_put (d := 7) (v := .d (.sl 2 (List.map eIv l))) rfl (og rfl (op_move rfl rfl rfl)) ?_
  refine rg_put (d := 8) (v := .d (.fl (.int .i64 (l.length : Int)))) rfl (og rfl (s_len rfl Tryd.underlying94 rfl rfl)) ?_
  refine rg_put (d := 9) (v := .d (.fl (.int .i64 0))) rfl (og rfl (op_move rfl rfl rfl)) ?_
  refine rg_done rfl ?_
  refine a_block ?_
  refine a_loop (ι := Nat) (fun k => SS [(0, .d (.sl 2 (List.map eIv l))), (1, .d (.fl (.int .i64 t))), (7, .d (.sl 2 (List.map eIv l))), (8, .d (.fl (.int .i64 (l.length : Int)))), (9, .d (.fl (.int .i64 (k : Int))))] []) (fun k => k ≤ l.length ∧ ∀ q, q < k → hasI (ix l q) t = false) (fun k => l.length - k) 0 (⟨by omega, fun q h => by omega⟩) (imp_forget rfl ⟨rfl, rfl, rfl, rfl, (by first | rfl | exact ci (by omega) | exact ci (by simp) | exact cd (by simp) | simp), trivial⟩ trivial) (fun k hok => ?_)
  obtain ⟨hkk, hq⟩ := hok
  refine a_rseq ?_
  refine rg_put (d := 10) (v := .d (.fl (.bool ((decide ((k : Int) < (l.length : Int))))))) rfl (og rfl (op_bin rfl rfl rfl (b_lss _ _ _ _) rfl)) ?_
  refine rg_done rfl ?_
  refine a_seq ?_
  refine a_cond rfl (fun h1 => ?_) (fun h1 => ?_)
  · skip
    have h2 := t_dec h1
    refine a_skip ?_
    show A _ _ _ _ _ _ _
    refine a_seq ?_
    refine a_block ?_
    refine a_rseq ?_
    refine rg_put (d := 11) (v := .el ((eIv (ix l k)))) rfl (og rfl (s_index rfl Tryd.underlying94 ti28 rfl rfl (by omega) (row_at (by omega)) rfl)) ?_
    refine rg_put (d := 12) (v := .d (.ag (eIv (ix l k)))) rfl (og rfl (of_eff (s_load_els rfl Tryd.underlying28 rfl ti28 rfl rfl rfl) rfl)) ?_
    refine rg_nam (d := 6) (v := .pt 101 0) (m := 101) (nw := [(101, .bx 28 [.fl (.int .i64 0), .fl (.int .i64 0)])]) rfl (og rfl (of_eff (s_alloc 101 rfl ti28 (by kernel_rfl) rfl) rfl)) rfl ?_
    refine rg_sto (nw := [(101, .bx 28 ((eIv (ix l k))))]) rfl (og rfl (of_eff (s_store rfl rfl ti28 rfl rfl rfl rfl rfl rfl) rfl)) ?_
    refine rg_done rfl ?_
    refine a_rseq ?_
    refine rg_put (d := 13) (v := .d (.ag (eIv (ix l k)))) rfl (og rfl (of_eff (s_load_pts rfl Tryd.underlying28 rfl ti28 rfl rfl rfl rfl) rfl)) ?_
    refine rg_put (d := 14) (v := .d (.fl (.bool ((vI (ix l k)))))) rfl (og rfl (op_call rfl Tryd.func18 nm18 rfl (.cons rfl (.d _) .nil) (vIV (ix l k)) rfl)) ?_
    refine rg_put (d := 15) (v := .d (.fl (.bool ((vI (ix l k)))))) rfl (og rfl (op_move rfl rfl rfl)) ?_
    rcases fot ((vI (ix l k))) with h3 | h3
    · skip
      refine rg_put (d := 16) (v := .d (.fl undef)) rfl (on rfl rfl rfl h3) ?_
      refine rg_put (d := 17) (v := .d (.fl undef)) rfl (on rfl rfl rfl h3) ?_
      refine rg_put (d := 18) (v := .d (.fl undef)) rfl (on rfl rfl rfl h3) ?_
      refine rg_put (d := 19) (v := .d (.fl undef)) rfl (on rfl rfl rfl h3) ?_
      refine rg_put (d := 20) (v := .d (.fl (.bool false))) rfl (og rfl (op_pick rfl rfl (by rw [h3]; rfl) rfl)) ?_
      refine rg_put (d := 21) (v := .d (.fl (.bool false))) rfl (og rfl (op_move rfl rfl rfl)) ?_
      refine rg_put (d := 22) (v := .d (.fl undef)) rfl (on rfl rfl rfl rfl) ?_
      refine rg_put (d := 23) (v := .d (.fl undef)) rfl (on rfl rfl rfl rfl) ?_
      refine rg_put (d := 24) (v := .d (.fl undef)) rfl (on rfl rfl rfl rfl) ?_
      refine rg_put (d := 25) (v := .d (.fl undef)) rfl (on rfl rfl rfl rfl) ?_
      refine rg_put (d := 26) (v := .d (.fl (.bool false))) rfl (og rfl (op_pick rfl rfl rfl rfl)) ?_
      refine rg_done rfl ?_
      refine a_condF rfl rfl ?_
      refine a_skip ?_
      show A _ _ _ _ _ _ _
      refine a_region ?_
      refine rg_put (d := 27) (v := .d (.fl (.int .i64 (((k : Int) + 1))))) rfl (og rfl (op_bin rfl rfl rfl (fun x y w => b_add64 _ _ _ x y w (by omega)) rfl)) ?_
      refine rg_put (d := 9) (v := .d (.fl (.int .i64 (((k : Int) + 1))))) rfl (og rfl (op_move rfl rfl rfl)) ?_
      refine rg_done rfl ?_
      have hx : hasI (ix l k) t = false := by unfold hasI; simp only [h1, h3, Bool.true_or, Bool.false_or, Bool.or_true, Bool.or_false, Bool.not_true, Bool.not_false, cond_true, cond_false, Bool.true_and, Bool.false_and, Bool.and_true, Bool.and_false] <;> rfl
      show ∃ i, _ ∧ _ ∧ Imp _ _ _ _ _
      refine ⟨k + 1, ⟨by omega, fun q h => (Nat.lt_succ_iff_lt_or_eq.1 h).elim (hq q) (fun e => by rw [e]; exact hx)⟩, by omega, imp_forget rfl ⟨rfl, rfl, rfl, rfl, (by first | rfl | exact ci (by omega) | exact ci (by simp) | exact cd (by simp) | simp), trivial⟩ trivial⟩
    · skip
      refine rg_put (d := 16) (v := .pt 101 0) rfl (oy rfl rfl rfl h3 (of_eff (s_field_pt rfl Tryd.underlying28 rfl ti3 rfl rfl rfl) rfl)) ?_
      refine rg_put (d := 17) (v := .d (.fl (.int .i64 ((ix l k).fr)))) rfl (oy rfl rfl rfl h3 (op_load_pt rfl Tryd.underlying3 rfl rfl rfl rfl rfl)) ?_
      refine rg_put (d := 18) (v := .d (.fl (.int .i64 t))) rfl (oy rfl rfl rfl h3 (op_move rfl rfl rfl)) ?_
      refine rg_put (d := 19) (v := .d (.fl (.bool ((decide ((ix l k).fr ≤ t)))))) rfl (oy rfl rfl rfl h3 (op_bin rfl rfl rfl (b_leq _ _ _ _) rfl)) ?_
      refine rg_put (d := 20) (v := .d (.fl (.bool ((decide ((ix l k).fr ≤ t)))))) rfl (og rfl (op_pick rfl rfl (by rw [h3]; rfl) rfl)) ?_
      refine rg_put (d := 21) (v := .d (.fl (.bool ((decide ((ix l k).fr ≤ t)))))) rfl (og rfl (op_move rfl rfl rfl)) ?_
      rcases fot ((decide ((ix l k).fr ≤ t))) with h4 | h4
      · skip
        have h5 := f_dec h4
        refine rg_put (d := 22) (v := .d (.fl undef)) rfl (on rfl rfl rfl h4) ?_
        refine rg_put (d := 23) (v := .d (.fl undef)) rfl (on rfl rfl rfl h4) ?_
        refine rg_put (d := 24) (v := .d (.fl undef)) rfl (on rfl rfl rfl h4) ?_
        refine rg_put (d := 25) (v := .d (.fl undef)) rfl (on rfl rfl rfl h4) ?_
        refine rg_put (d := 26) (v := .d (.fl (.bool false))) rfl (og rfl (op_pick rfl rfl (by rw [h4]; rfl) rfl)) ?_
        refine rg_done rfl ?_
        refine a_condF rfl rfl ?_
        refine a_skip ?_
        show A _ _ _ _ _ _ _
        refine a_region ?_
        refine rg_put (d := 27) (v := .d (.fl (.int .i64 (((k : Int) + 1))))) rfl (og rfl (op_bin rfl rfl rfl (fun x y w => b_add64 _ _ _ x y w (by omega)) rfl)) ?_
        refine rg_put (d := 9) (v := .d (.fl (.int .i64 (((k : Int) + 1))))) rfl (og rfl (op_move rfl rfl rfl)) ?_
        refine rg_done rfl ?_
        have hx : hasI (ix l k) t = false := by unfold hasI; simp only [h1, h3, h4, Bool.true_or, Bool.false_or, Bool.or_true, Bool.or_false, Bool.not_true, Bool.not_false, cond_true, cond_false, Bool.true_and, Bool.false_and, Bool.and_true, Bool.and_false] <;> rfl
        show ∃ i, _ ∧ _ ∧ Imp _ _ _ _ _
        refine ⟨k + 1, ⟨by omega, fun q h => (Nat.lt_succ_iff_lt_or_eq.1 h).elim (hq q) (fun e => by rw [e]; exact hx)⟩, by omega, imp_forget rfl ⟨rfl, rfl, rfl, rfl, (by first | rfl | exact ci (by omega) | exact ci (by simp) | exact cd (by simp) | simp), trivial⟩ trivial⟩
      · skip
        have h6 := t_dec h4
        refine rg_put (d := 22) (v := .d (.fl (.int .i64 t))) rfl (oy rfl rfl rfl h4 (op_move rfl rfl rfl)) ?_
        refine rg_put (d := 23) (v := .pt 101 1) rfl (oy rfl rfl rfl h4 (of_eff (s_field_pt rfl Tryd.underlying28 rfl ti3 rfl rfl rfl) rfl)) ?_
        refine rg_put (d := 24) (v := .d (.fl (.int .i64 ((ix l k).to)))) rfl (oy rfl rfl rfl h4 (op_load_pt rfl Tryd.underlying3 rfl rfl rfl rfl rfl)) ?_
        refine rg_put (d := 25) (v := .d (.fl (.bool ((decide (t < (ix l k).to)))))) rfl (oy rfl rfl rfl h4 (op_bin rfl rfl rfl (b_lss _ _ _ _) rfl)) ?_
        refine rg_put (d := 26) (v := .d (.fl (.bool ((decide (t < (ix l k).to)))))) rfl (og rfl (op_pick rfl rfl (by rw [h4]; rfl) rfl)) ?_
        refine rg_done rfl ?_
        refine a_cond rfl (fun h7 => ?_) (fun h7 => ?_)
        · skip
          have h8 := t_dec h7
          refine a_rseq ?_
          refine rg_put (d := 4) (v := .d (.fl (.bool true))) rfl (og rfl (op_assign rfl rfl rfl)) ?_
          refine rg_done rfl ?_
          refine a_ret ?_
          show ∃ ds, ResL _ _ _ ds ∧ RV.of ds = _
          refine ⟨[.fl (.bool true)], (.cons (.tmp rfl (.d _)) .nil), ?_⟩
          have hx : hasI (ix l k) t = true := by unfold hasI; simp only [h1, h3, h4, h7, Bool.true_or, Bool.false_or, Bool.or_true, Bool.or_false, Bool.not_true, Bool.not_false, cond_true, cond_false, Bool.true_and, Bool.false_and, Bool.and_true, Bool.and_false] <;> rfl
          have hu : (l.any fun i => hasI i t) = true := any_at (by omega) hx
          rw [hu]; rfl
        · skip
          have h9 := f_dec h7
          refine a_skip ?_
          show A _ _ _ _ _ _ _
          refine a_region ?_
          refine rg_put (d := 27) (v := .d (.fl (.int .i64 (((k : Int) + 1))))) rfl (og rfl (op_bin rfl rfl rfl (fun x y w => b_add64 _ _ _ x y w (by omega)) rfl)) ?_
          refine rg_put (d := 9) (v := .d (.fl (.int .i64 (((k : Int) + 1))))) rfl (og rfl (op_move rfl rfl rfl)) ?_
          refine rg_done rfl ?_
          have hx : hasI (ix l k) t = false := by unfold hasI; simp only [h1, h3, h4, h7, Bool.true_or, Bool.false_or, Bool.or_true, Bool.or_false, Bool.not_true, Bool.not_false, cond_true, cond_false, Bool.true_and, Bool.false_and, Bool.and_true, Bool.and_false] <;> rfl
          show ∃ i, _ ∧ _ ∧ Imp _ _ _ _ _
          refine ⟨k + 1, ⟨by omega, fun q h => (Nat.lt_succ_iff_lt_or_eq.1 h).elim (hq q) (fun e => by rw [e]; exact hx)⟩, by omega, imp_forget rfl ⟨rfl, rfl, rfl, rfl, (by first | rfl | exact ci (by omega) | exact ci (by simp) | exact cd (by simp) | simp), trivial⟩ trivial⟩
  · skip
    have h10 := f_dec h1
    refine a_exit ?_
    show A _ _ _ _ _ _ _
    refine a_rseq ?_
    refine rg_put (d := 4) (v := .d (.fl (.bool false))) rfl (og rfl (op_assign rfl rfl rfl)) ?_
    refine rg_done rfl ?_
    refine a_ret ?_
    show ∃ ds, ResL _ _ _ ds ∧ RV.of ds = _
    refine ⟨[.fl (.bool false)], (.cons (.tmp rfl (.d _)) .nil), ?_⟩
    have hu : (l.any fun i => hasI i t) = false := any_no (fun q h => hq q (by omega))
    rw [hu]; rfl
theorem any_one (i : Iv) (t : Int) : ([i].any fun i => hasI i t) = hasI i t := by simp
theorem hasO (i : Iv) (t : Int) : Ctr Tryd.prog 19 [.sl 2 (List.map eIv [i]), .fl (.int .i64 t)] (.d (.fl (.bool (hasI i t)))) := by
  have h := hasL [i] t (by simp)
  rw [any_one] at h
  exact h

set_option maxHeartbeats 4000000 in
set_option maxRecDepth 100000 in
theorem hldP (o : Ow) (v : ByteArray) (t : Int) : Ctr Tryd.prog 42 [.ag (eOw o), .fl (.string v), .fl (.int .i64 t)] (.d (.fl (.bool (hld o v t)))) := by
  refine ctr (n := 28) (rs := #[.tmp 6]) (L := [(0, .d (.ag (eOw o))), (1, .d (.fl (.string v))), (2, .d (.fl (.int .i64 t)))]) Tryd.func42 rfl rfl rfl rfl rfl (fun w0 U0 => ?_)
  refine a_rseq ?_
  refine rg_nam (d := 3) (v := .pt 101 0) (m := 101) (nw := [(101, .bx 69 (eOw o))]) rfl (og rfl (of_eff (op_box 101 rfl rfl rfl rfl) rfl)) rfl ?_
  refine rg_put (d := 6) (v := .d (.fl (.bool false))) rfl (og rfl (op_assign rfl rfl rfl)) ?_
  refine rg_done rfl ?_
  refine a_rseq ?_
  refine rg_put (d := 7) (v := .d (.fl (.string v))) rfl (og rfl (op_move rfl rfl rfl)) ?_
  refine rg_put (d := 8) (v := .d (.fl (.bool ((!(sEq v (⟨#[]⟩))))))) rfl (og rfl (op_bin rfl rfl rfl (b_sne _ _ _) rfl)) ?_
  refine rg_put (d := 9) (v := .d (.fl (.bool ((!(sEq v (⟨#[]⟩))))))) rfl (og rfl (op_move rfl rfl rfl)) ?_
  rcases fot ((!(sEq v (⟨#[]⟩)))) with h1 | h1
  · skip
    have h2 := f_not h1
    refine rg_put (d := 10) (v := .d (.fl undef)) rfl (on rfl rfl rfl h1) ?_
    refine rg_put (d := 11) (v := .d (.fl undef)) rfl (on rfl rfl rfl h1) ?_
    refine rg_put (d := 12) (v := .d (.fl undef)) rfl (on rfl rfl rfl h1) ?_
    refine rg_put (d := 13) (v := .d (.fl undef)) rfl (on rfl rfl rfl h1) ?_
    refine rg_put (d := 14) (v := .d (.fl undef)) rfl (on rfl rfl rfl h1) ?_
    refine rg_put (d := 15) (v := .d (.fl undef)) rfl (ou rfl rfl rfl) ?_
    refine rg_put (d := 16) (v := .d (.fl undef)) rfl (ou rfl rfl rfl) ?_
    refine rg_put (d := 17) (v := .d (.fl undef)) rfl (ou rfl rfl rfl) ?_
    refine rg_put (d := 18) (v := .d (.fl undef)) rfl (ou rfl rfl rfl) ?_
    refine rg_put (d := 19) (v := .d (.fl undef)) rfl (on rfl rfl rfl h1) ?_
    refine rg_put (d := 20) (v := .d (.fl (.bool false))) rfl (og rfl (op_pick rfl rfl (by rw [h1]; rfl) rfl)) ?_
    refine rg_put (d := 21) (v := .d (.fl (.bool false))) rfl (og rfl (op_move rfl rfl rfl)) ?_
    refine rg_put (d := 22) (v := .d (.fl undef)) rfl (on rfl rfl rfl rfl) ?_
    refine rg_put (d := 23) (v := .d (.fl undef)) rfl (on rfl rfl rfl rfl) ?_
    refine rg_put (d := 24) (v := .d (.fl undef)) rfl (on rfl rfl rfl rfl) ?_
    refine rg_put (d := 25) (v := .d (.fl undef)) rfl (on rfl rfl rfl rfl) ?_
    refine rg_put (d := 26) (v := .d (.fl undef)) rfl (on rfl rfl rfl rfl) ?_
    refine rg_put (d := 27) (v := .d (.fl (.bool false))) rfl (og rfl (op_pick rfl rfl rfl rfl)) ?_
    refine rg_put (d := 6) (v := .d (.fl (.bool false))) rfl (og rfl (op_assign rfl rfl rfl)) ?_
    refine rg_done rfl ?_
    refine a_ret ?_
    show ∃ ds, ResL _ _ _ ds ∧ RV.of ds = _
    refine ⟨[.fl (.bool false)], (.cons (.tmp rfl (.d _)) .nil), ?_⟩
    have hu : hld o v t = false := by unfold hld; simp only [h1, h2, Bool.true_or, Bool.false_or, Bool.or_true, Bool.or_false, Bool.not_true, Bool.not_false, cond_true, cond_false, Bool.true_and, Bool.false_and, Bool.and_true, Bool.and_false] <;> rfl
    rw [hu]; rfl
  · skip
    have h3 := t_not h1
    refine rg_put (d := 10) (v := .pt 101 0) rfl (oy rfl rfl rfl h1 (of_eff (s_field_pt rfl Tryd.underlying69 rfl ti9 rfl rfl rfl) rfl)) ?_
    refine rg_put (d := 11) (v := .d (.fl (.string o.tag))) rfl (oy rfl rfl rfl h1 (op_load_pt rfl Tryd.underlying9 rfl rfl rfl rfl rfl)) ?_
    refine rg_put (d := 12) (v := .d (.fl (.string v))) rfl (oy rfl rfl rfl h1 (op_move rfl rfl rfl)) ?_
    refine rg_put (d := 13) (v := .d (.fl (.bool (sEq o.tag v)))) rfl (oy rfl rfl rfl h1 (op_bin rfl rfl rfl (b_seq _ _ _) rfl)) ?_
    refine rg_put (d := 14) (v := .d (.fl (.bool (sEq o.tag v)))) rfl (oy rfl rfl rfl h1 (op_move rfl rfl rfl)) ?_
    rcases fot (sEq o.tag v) with h4 | h4
    · skip
      refine rg_put (d := 15) (v := .pt 101 1) rfl (oy rfl rfl rfl h4 (of_eff (s_field_pt rfl Tryd.underlying69 rfl ti9 rfl rfl rfl) rfl)) ?_
      refine rg_put (d := 16) (v := .d (.fl (.string o.plate))) rfl (oy rfl rfl rfl h4 (op_load_pt rfl Tryd.underlying9 rfl rfl rfl rfl rfl)) ?_
      refine rg_put (d := 17) (v := .d (.fl (.string v))) rfl (oy rfl rfl rfl h4 (op_move rfl rfl rfl)) ?_
      refine rg_put (d := 18) (v := .d (.fl (.bool (sEq o.plate v)))) rfl (oy rfl rfl rfl h4 (op_bin rfl rfl rfl (b_seq _ _ _) rfl)) ?_
      refine rg_put (d := 19) (v := .d (.fl (.bool (sEq o.plate v)))) rfl (oy rfl rfl rfl h1 (op_pick rfl rfl (by rw [h4]; rfl) rfl)) ?_
      refine rg_put (d := 20) (v := .d (.fl (.bool (sEq o.plate v)))) rfl (og rfl (op_pick rfl rfl (by rw [h1]; rfl) rfl)) ?_
      refine rg_put (d := 21) (v := .d (.fl (.bool (sEq o.plate v)))) rfl (og rfl (op_move rfl rfl rfl)) ?_
      rcases fot (sEq o.plate v) with h5 | h5
      · skip
        refine rg_put (d := 22) (v := .d (.fl undef)) rfl (on rfl rfl rfl h5) ?_
        refine rg_put (d := 23) (v := .d (.fl undef)) rfl (on rfl rfl rfl h5) ?_
        refine rg_put (d := 24) (v := .d (.fl undef)) rfl (on rfl rfl rfl h5) ?_
        refine rg_put (d := 25) (v := .d (.fl undef)) rfl (on rfl rfl rfl h5) ?_
        refine rg_put (d := 26) (v := .d (.fl undef)) rfl (on rfl rfl rfl h5) ?_
        refine rg_put (d := 27) (v := .d (.fl (.bool false))) rfl (og rfl (op_pick rfl rfl (by rw [h5]; rfl) rfl)) ?_
        refine rg_put (d := 6) (v := .d (.fl (.bool false))) rfl (og rfl (op_assign rfl rfl rfl)) ?_
        refine rg_done rfl ?_
        refine a_ret ?_
        show ∃ ds, ResL _ _ _ ds ∧ RV.of ds = _
        refine ⟨[.fl (.bool false)], (.cons (.tmp rfl (.d _)) .nil), ?_⟩
        have hu : hld o v t = false := by unfold hld; simp only [h1, h3, h4, h5, Bool.true_or, Bool.false_or, Bool.or_true, Bool.or_false, Bool.not_true, Bool.not_false, cond_true, cond_false, Bool.true_and, Bool.false_and, Bool.and_true, Bool.and_false] <;> rfl
        rw [hu]; rfl
      · skip
        refine rg_put (d := 22) (v := .pt 101 2) rfl (oy rfl rfl rfl h5 (of_eff (s_field_pt rfl Tryd.underlying69 rfl ti28 rfl rfl rfl) rfl)) ?_
        refine rg_put (d := 23) (v := .d (.ag (eIv o.time))) rfl (oy rfl rfl rfl h5 (of_eff (s_load_pts rfl Tryd.underlying28 rfl ti28 rfl rfl rfl rfl) rfl)) ?_
        refine rg_put (d := 24) (v := .d (.sl 2 (List.map eIv [o.time]))) rfl (oy rfl rfl rfl h5 (of_eff (op_slices rfl Tryd.underlying94 ti28 rfl rfl rfl (by kernel_rfl) (xs := [.ag (eIv o.time)]) rfl rfl (.cons rfl rfl (.d _) rfl rfl rfl .nil) rfl) rfl)) ?_
        refine rg_put (d := 25) (v := .d (.fl (.int .i64 t))) rfl (oy rfl rfl rfl h5 (op_move rfl rfl rfl)) ?_
        refine rg_put (d := 26) (v := .d (.fl (.bool (hasI o.time t)))) rfl (oy rfl rfl rfl h5 (op_call rfl Tryd.func19 nm19 rfl (.cons rfl (.d _) (.cons rfl (.d _) .nil)) (hasO o.time t) rfl)) ?_
        refine rg_put (d := 27) (v := .d (.fl (.bool (hasI o.time t)))) rfl (og rfl (op_pick rfl rfl (by rw [h5]; rfl) rfl)) ?_
        refine rg_put (d := 6) (v := .d (.fl (.bool (hasI o.time t)))) rfl (og rfl (op_assign rfl rfl rfl)) ?_
        refine rg_done rfl ?_
        refine a_ret ?_
        show ∃ ds, ResL _ _ _ ds ∧ RV.of ds = _
        refine ⟨[.fl (.bool (hasI o.time t))], (.cons (.tmp rfl (.d _)) .nil), ?_⟩
        have hu : hld o v t = (hasI o.time t) := by unfold hld; simp only [h1, h3, h4, h5, Bool.true_or, Bool.false_or, Bool.or_true, Bool.or_false, Bool.not_true, Bool.not_false, cond_true, cond_false, Bool.true_and, Bool.false_and, Bool.and_true, Bool.and_false] <;> rfl
        rw [hu]; rfl
    · skip
      refine rg_put (d := 15) (v := .d (.fl undef)) rfl (on rfl rfl rfl h4) ?_
      refine rg_put (d := 16) (v := .d (.fl undef)) rfl (on rfl rfl rfl h4) ?_
      refine rg_put (d := 17) (v := .d (.fl undef)) rfl (on rfl rfl rfl h4) ?_
      refine rg_put (d := 18) (v := .d (.fl undef)) rfl (on rfl rfl rfl h4) ?_
      refine rg_put (d := 19) (v := .d (.fl (.bool true))) rfl (oy rfl rfl rfl h1 (op_pick rfl rfl (by rw [h4]; rfl) rfl)) ?_
      refine rg_put (d := 20) (v := .d (.fl (.bool true))) rfl (og rfl (op_pick rfl rfl (by rw [h1]; rfl) rfl)) ?_
      refine rg_put (d := 21) (v := .d (.fl (.bool true))) rfl (og rfl (op_move rfl rfl rfl)) ?_
      refine rg_put (d := 22) (v := .pt 101 2) rfl (oy rfl rfl rfl rfl (of_eff (s_field_pt rfl Tryd.underlying69 rfl ti28 rfl rfl rfl) rfl)) ?_
      refine rg_put (d := 23) (v := .d (.ag (eIv o.time))) rfl (oy rfl rfl rfl rfl (of_eff (s_load_pts rfl Tryd.underlying28 rfl ti28 rfl rfl rfl rfl) rfl)) ?_
      refine rg_put (d := 24) (v := .d (.sl 2 (List.map eIv [o.time]))) rfl (oy rfl rfl rfl rfl (of_eff (op_slices rfl Tryd.underlying94 ti28 rfl rfl rfl (by kernel_rfl) (xs := [.ag (eIv o.time)]) rfl rfl (.cons rfl rfl (.d _) rfl rfl rfl .nil) rfl) rfl)) ?_
      refine rg_put (d := 25) (v := .d (.fl (.int .i64 t))) rfl (oy rfl rfl rfl rfl (op_move rfl rfl rfl)) ?_
      refine rg_put (d := 26) (v := .d (.fl (.bool (hasI o.time t)))) rfl (oy rfl rfl rfl rfl (op_call rfl Tryd.func19 nm19 rfl (.cons rfl (.d _) (.cons rfl (.d _) .nil)) (hasO o.time t) rfl)) ?_
      refine rg_put (d := 27) (v := .d (.fl (.bool (hasI o.time t)))) rfl (og rfl (op_pick rfl rfl rfl rfl)) ?_
      refine rg_put (d := 6) (v := .d (.fl (.bool (hasI o.time t)))) rfl (og rfl (op_assign rfl rfl rfl)) ?_
      refine rg_done rfl ?_
      refine a_ret ?_
      show ∃ ds, ResL _ _ _ ds ∧ RV.of ds = _
      refine ⟨[.fl (.bool (hasI o.time t))], (.cons (.tmp rfl (.d _)) .nil), ?_⟩
      have hu : hld o v t = (hasI o.time t) := by unfold hld; simp only [h1, h3, h4, Bool.true_or, Bool.false_or, Bool.or_true, Bool.or_false, Bool.not_true, Bool.not_false, cond_true, cond_false, Bool.true_and, Bool.false_and, Bool.and_true, Bool.and_false] <;> rfl
      rw [hu]; rfl
set_option maxHeartbeats 4000000 in
set_option maxRecDepth 100000 in
theorem owP (l : List Ac) (v : ByteArray) (t : Int) (hl : l.length ≤ 9223372036854775807) (ha : ∀ q, q < l.length → (ix l q).owned.length ≤ 80) : Ctr Tryd.prog 25 [.sl 9 (List.map eAc l), .fl (.string v), .fl (.int .i64 t)] (.tu [.fl (.string (own l v t).1), .fl (.bool (own l v t).2)]) := by
  refine ctr (n := 33) (rs := #[.tmp 6, .tmp 7]) (L := [(0, .d (.sl 9 (List.map eAc l))), (1, .d (.fl (.string v))), (2, .d (.fl (.int .i64 t)))]) Tryd.func25 rfl rfl rfl rfl rfl (fun w0 U0 => ?_)
  refine a_rseq ?_
  refine rg_put (d := 6) (v := .d (.fl (.string (⟨#[]⟩)))) rfl (og rfl (op_assign rfl rfl rfl)) ?_
  refine rg_put (d := 7) (v := .d (.fl (.bool false))) rfl (og rfl (op_assign rfl rfl rfl)) ?_
  refine rg_done rfl ?_
  refine a_seq ?_
  refine a_rseq ?_
  refine rg_put (d := 12) (v := .d (.sl 9 (List.map eAc l))) rfl (og rfl (op_move rfl rfl rfl)) ?_
  refine rg_put (d := 13) (v := .d (.fl (.int .i64 (l.length : Int)))) rfl (og rfl (s_len rfl Tryd.underlying22 rfl rfl)) ?_
  refine rg_put (d := 14) (v := .d (.fl (.int .i64 0))) rfl (og rfl (op_move rfl rfl rfl)) ?_
  refine rg_done rfl ?_
  refine a_block ?_
  refine a_loop (ι := Nat) (fun k => SS [(0, .d (.sl 9 (List.map eAc l))), (1, .d (.fl (.string v))), (2, .d (.fl (.int .i64 t))), (12, .d (.sl 9 (List.map eAc l))), (13, .d (.fl (.int .i64 (l.length : Int)))), (14, .d (.fl (.int .i64 (k : Int))))] []) (fun k => k ≤ l.length ∧ ∀ q, q < k → ownL (ix l q).owned v t = false) (fun k => l.length - k) 0 (⟨by omega, fun q h => by omega⟩) (imp_forget rfl ⟨rfl, rfl, rfl, rfl, rfl, (by first | rfl | exact ci (by omega) | exact ci (by simp) | exact cd (by simp) | simp), trivial⟩ trivial) (fun k hok => ?_)
  obtain ⟨hkk, hq⟩ := hok
  refine a_rseq ?_
  refine rg_put (d := 15) (v := .d (.fl (.bool ((decide ((k : Int) < (l.length : Int))))))) rfl (og rfl (op_bin rfl rfl rfl (b_lss _ _ _ _) rfl)) ?_
  refine rg_done rfl ?_
  refine a_seq ?_
  refine a_cond rfl (fun h1 => ?_) (fun h1 => ?_)
  · skip
    have h2 := t_dec h1
    refine a_skip ?_
    show A _ _ _ _ _ _ _
    refine a_seq ?_
    refine a_block ?_
    refine a_rseq ?_
    refine rg_put (d := 16) (v := .el ((eAc (ix l k)))) rfl (og rfl (s_index rfl Tryd.underlying22 ti67 rfl rfl (by omega) (row_at (by omega)) rfl)) ?_
    refine rg_put (d := 17) (v := .d (.ag (eAc (ix l k)))) rfl (og rfl (of_eff (s_load_els rfl Tryd.underlying67 rfl ti67 rfl rfl rfl) rfl)) ?_
    refine rg_nam (d := 9) (v := .pt 101 0) (m := 101) (nw := [(101, .bx 67 ([.fl (.string (⟨#[]⟩)), .fl (.string (⟨#[]⟩)), .fl (.bool false), .fl (.slice none 0 0), .fl (.int .i64 0), .fl (.int .i64 0), .fl (.int .i64 0), .fl (.int .i64 0), .fl (.bool false)]))]) rfl (og rfl (of_eff (s_alloc 101 rfl ti67 (by kernel_rfl) rfl) rfl)) rfl ?_
    refine rg_sto (nw := [(101, .bx 67 ((eAc (ix l k))))]) rfl (og rfl (of_eff (s_store rfl rfl ti67 rfl rfl rfl rfl rfl rfl) rfl)) ?_
    refine rg_done rfl ?_
    refine a_rseq ?_
    have ho := ha k (by omega)
    refine rg_put (d := 18) (v := .pt 101 3) rfl (og rfl (of_eff (s_field_pt rfl Tryd.underlying67 rfl ti63 rfl rfl rfl) rfl)) ?_
    refine rg_put (d := 19) (v := .d (.sl 4 (List.map eOw ((ix l k).owned)))) rfl (og rfl (op_load_pt rfl Tryd.underlying63 rfl rfl rfl rfl rfl)) ?_
    refine rg_put (d := 20) (v := .d (.fl (.int .i64 ((((ix l k).owned).length : Int))))) rfl (og rfl (s_len rfl Tryd.underlying63 rfl rfl)) ?_
    refine rg_put (d := 21) (v := .d (.fl (.int .i64 0))) rfl (og rfl (op_move rfl rfl rfl)) ?_
    refine rg_done rfl ?_
    refine a_block ?_
    refine a_loop (ι := Nat) (fun j => SS [(0, .d (.sl 9 (List.map eAc l))), (1, .d (.fl (.string v))), (2, .d (.fl (.int .i64 t))), (9, .pt 101 0), (12, .d (.sl 9 (List.map eAc l))), (13, .d (.fl (.int .i64 (l.length : Int)))), (14, .d (.fl (.int .i64 (k : Int)))), (15, .d (.fl (.bool ((decide ((k : Int) < (l.length : Int))))))), (19, .d (.sl 4 (List.map eOw ((ix l k).owned)))), (20, .d (.fl (.int .i64 ((((ix l k).owned).length : Int))))), (21, .d (.fl (.int .i64 (j : Int))))] [(101, .bx 67 ((eAc (ix l k))))]) (fun j => j ≤ (ix l k).owned.length ∧ ∀ q, q < j → hld (ix (ix l k).owned q) v t = false) (fun j => (ix l k).owned.length - j) 0 (⟨by omega, fun q h => by omega⟩) (imp_forget rfl ⟨rfl, rfl, rfl, rfl, rfl, rfl, rfl, rfl, rfl, rfl, (by first | rfl | exact ci (by omega) | exact ci (by simp) | exact cd (by simp) | simp), trivial⟩ ⟨rfl, trivial⟩) (fun j hok => ?_)
    obtain ⟨hkj, hr⟩ := hok
    refine a_rseq ?_
    refine rg_put (d := 22) (v := .d (.fl (.bool ((decide ((j : Int) < (((ix l k).owned).length : Int))))))) rfl (og rfl (op_bin rfl rfl rfl (b_lss _ _ _ _) rfl)) ?_
    refine rg_done rfl ?_
    refine a_seq ?_
    refine a_cond rfl (fun h3 => ?_) (fun h3 => ?_)
    · skip
      have h4 := t_dec h3
      refine a_skip ?_
      show A _ _ _ _ _ _ _
      refine a_seq ?_
      refine a_block ?_
      refine a_rseq ?_
      refine rg_put (d := 23) (v := .el ((eOw ((ix ((ix l k).owned) j))))) rfl (og rfl (s_index rfl Tryd.underlying63 ti69 rfl rfl (by omega) (row_at (by omega)) rfl)) ?_
      refine rg_put (d := 24) (v := .d (.ag (eOw (((ix ((ix l k).owned) j)))))) rfl (og rfl (of_eff (s_load_els rfl Tryd.underlying69 rfl ti69 rfl rfl rfl) rfl)) ?_
      refine rg_nam (d := 11) (v := .pt 102 0) (m := 102) (nw := [(102, .bx 69 ([.fl (.string (⟨#[]⟩)), .fl (.string (⟨#[]⟩)), .fl (.int .i64 0), .fl (.int .i64 0)]))]) rfl (og rfl (of_eff (s_alloc 102 rfl ti69 (by kernel_rfl) rfl) rfl)) rfl ?_
      refine rg_sto (nw := [(102, .bx 69 ((eOw (((ix ((ix l k).owned) j))))))]) rfl (og rfl (of_eff (s_store rfl rfl ti69 rfl rfl rfl rfl rfl rfl) rfl)) ?_
      refine rg_done rfl ?_
      refine a_rseq ?_
      refine rg_put (d := 25) (v := .d (.ag (eOw ((((ix ((ix l k).owned) j))))))) rfl (og rfl (of_eff (s_load_pts rfl Tryd.underlying69 rfl ti69 rfl rfl rfl rfl) rfl)) ?_
      refine rg_put (d := 26) (v := .d (.fl (.string v))) rfl (og rfl (op_move rfl rfl rfl)) ?_
      refine rg_put (d := 27) (v := .d (.fl (.int .i64 t))) rfl (og rfl (op_move rfl rfl rfl)) ?_
      refine rg_put (d := 28) (v := .d (.fl (.bool ((hld ((((ix ((ix l k).owned) j)))) v t))))) rfl (og rfl (op_call rfl Tryd.func42 nm42 rfl (.cons rfl (.d _) (.cons rfl (.d _) (.cons rfl (.d _) .nil))) (hldP ((((ix ((ix l k).owned) j)))) v t) rfl)) ?_
      refine rg_done rfl ?_
      refine a_cond rfl (fun h5 => ?_) (fun h5 => ?_)
      · skip
        refine a_rseq ?_
        refine rg_put (d := 29) (v := .pt 101 0) rfl (og rfl (of_eff (s_field_pt rfl Tryd.underlying67 rfl ti9 rfl rfl rfl) rfl)) ?_
        refine rg_put (d := 30) (v := .d (.fl (.string ((ix l k).name)))) rfl (og rfl (op_load_pt rfl Tryd.underlying9 rfl rfl rfl rfl rfl)) ?_
        refine rg_put (d := 6) (v := .d (.fl (.string ((ix l k).name)))) rfl (og rfl (op_assign rfl rfl rfl)) ?_
        refine rg_put (d := 7) (v := .d (.fl (.bool true))) rfl (og rfl (op_assign rfl rfl rfl)) ?_
        refine rg_done rfl ?_
        refine a_ret ?_
        show ∃ ds, ResL _ _ _ ds ∧ RV.of ds = _
        refine ⟨[.fl (.string ((ix l k).name)), .fl (.bool true)], (.cons (.tmp rfl (.d _)) (.cons (.tmp rfl (.d _)) .nil)), ?_⟩
        have hu : own l v t = ((ix l k).name, true) := own_at (by omega) hq (any_at (by omega) h5)
        rw [hu]; rfl
      · skip
        refine a_skip ?_
        show A _ _ _ _ _ _ _
        refine a_region ?_
        refine rg_put (d := 31) (v := .d (.fl (.int .i64 (((j : Int) + 1))))) rfl (og rfl (op_bin rfl rfl rfl (fun x y w => b_add64 _ _ _ x y w (by omega)) rfl)) ?_
        refine rg_put (d := 21) (v := .d (.fl (.int .i64 (((j : Int) + 1))))) rfl (og rfl (op_move rfl rfl rfl)) ?_
        refine rg_done rfl ?_
        have hxj : hld (ix (ix l k).owned j) v t = false := h5
        show ∃ i, _ ∧ _ ∧ Imp _ _ _ _ _
        refine ⟨j + 1, ⟨by omega, fun q h => (Nat.lt_succ_iff_lt_or_eq.1 h).elim (hr q) (fun e => by rw [e]; exact hxj)⟩, by omega, imp_forget rfl ⟨rfl, rfl, rfl, rfl, rfl, rfl, rfl, rfl, rfl, rfl, (by first | rfl | exact ci (by omega) | exact ci (by simp) | exact cd (by simp) | simp), trivial⟩ ⟨rfl, trivial⟩⟩
    · skip
      have h6 := f_dec h3
      refine a_exit ?_
      show A _ _ _ _ _ _ _
      refine a_region ?_
      refine rg_put (d := 32) (v := .d (.fl (.int .i64 (((k : Int) + 1))))) rfl (og rfl (op_bin rfl rfl rfl (fun x y w => b_add64 _ _ _ x y w (by omega)) rfl)) ?_
      refine rg_put (d := 14) (v := .d (.fl (.int .i64 (((k : Int) + 1))))) rfl (og rfl (op_move rfl rfl rfl)) ?_
      refine rg_done rfl ?_
      have hx : ownL (ix l k).owned v t = false := any_no (fun q h => hr q (by omega))
      show ∃ i, _ ∧ _ ∧ Imp _ _ _ _ _
      refine ⟨k + 1, ⟨by omega, fun q h => (Nat.lt_succ_iff_lt_or_eq.1 h).elim (hq q) (fun e => by rw [e]; exact hx)⟩, by omega, imp_forget rfl ⟨rfl, rfl, rfl, rfl, rfl, (by first | rfl | exact ci (by omega) | exact ci (by simp) | exact cd (by simp) | simp), trivial⟩ trivial⟩
  · skip
    have h7 := f_dec h1
    refine a_exit ?_
    show A _ _ _ _ _ _ _
    refine a_rseq ?_
    refine rg_put (d := 6) (v := .d (.fl (.string (⟨#[]⟩)))) rfl (og rfl (op_assign rfl rfl rfl)) ?_
    refine rg_put (d := 7) (v := .d (.fl (.bool false))) rfl (og rfl (op_assign rfl rfl rfl)) ?_
    refine rg_done rfl ?_
    refine a_ret ?_
    show ∃ ds, ResL _ _ _ ds ∧ RV.of ds = _
    refine ⟨[.fl (.string (⟨#[]⟩)), .fl (.bool false)], (.cons (.tmp rfl (.d _)) (.cons (.tmp rfl (.d _)) .nil)), ?_⟩
    have hu : own l v t = (⟨#[]⟩, false) := own_no (fun q h => hq q (by omega))
    rw [hu]; rfl
theorem few_a {b : Bil} {k : Nat} (hk : k < b.acc.length) (h : bA (ix b.acc k) = true) : few b = false := by unfold few; rw [any_at hk h]; rfl
theorem few_c {b : Bil} {k : Nat} (hk : k < b.caps.length) (h : bC (ix b.caps k) = true) : few b = false := by unfold few; rw [any_at hk h]; simp
theorem few_x {b : Bil} {k : Nat} (hk : k < b.chs.length) (h : bX (ix b.chs k) = true) : few b = false := by unfold few; rw [any_at hk h]; simp
set_option maxHeartbeats 4000000 in
set_option maxRecDepth 100000 in
theorem few13 (b : Bil) (hb1 : b.acc.length ≤ 9223372036854775807) (hb2 : b.caps.length ≤ 9223372036854775807) (hb3 : b.chs.length ≤ 9223372036854775807) : Ctr Tryd.prog 4 [.ag (eBil b)] (.d (.fl (.bool (few b)))) := by
  refine ctr (n := 155) (rs := #[.tmp 2]) (L := [(0, .d (.ag (eBil b)))]) Tryd.func4 rfl rfl rfl rfl rfl (fun w0 U0 => ?_)
  refine a_rseq ?_
  refine rg_nam (d := 1) (v := .pt 101 0) (m := 101) (nw := [(101, .bx 26 (eBil b))]) rfl (og rfl (of_eff (op_box 101 rfl rfl rfl rfl) rfl)) rfl ?_
  refine rg_put (d := 2) (v := .d (.fl (.bool false))) rfl (og rfl (op_assign rfl rfl rfl)) ?_
  refine rg_done rfl ?_
  refine a_seq ?_
  refine a_rseq ?_
  refine rg_put (d := 3) (v := .d (.fl (.int .i64 0))) rfl (og rfl (op_assign rfl rfl rfl)) ?_
  refine rg_done rfl ?_
  refine a_block ?_
  refine a_loop (ι := Nat) (fun k => SS [(0, .d (.ag (eBil b))), (1, .pt 101 0), (3, .d (.fl (.int .i64 (k : Int))))] [(101, .bx 26 (eBil b))]) (fun k => k ≤ b.acc.length ∧ ∀ q, q < k → bA (ix b.acc q) = false) (fun k => b.acc.length - k) 0 (⟨by omega, fun q h => by omega⟩) (imp_forget rfl ⟨rfl, rfl, (by first | rfl | exact ci (by omega) | exact ci (by simp) | exact cd (by simp) | simp), trivial⟩ ⟨rfl, trivial⟩) (fun k hok => ?_)
  obtain ⟨hkk, hq⟩ := hok
  refine a_seq ?_
  refine a_rseq ?_
  refine rg_put (d := 7) (v := .d (.fl (.int .i64 (k : Int)))) rfl (og rfl (op_move rfl rfl rfl)) ?_
  refine rg_put (d := 8) (v := .pt 101 0) rfl (og rfl (of_eff (s_field_pt rfl Tryd.underlying26 rfl ti22 rfl rfl rfl) rfl)) ?_
  refine rg_put (d := 9) (v := .d (.sl 9 (List.map eAc b.acc))) rfl (og rfl (op_load_pt rfl Tryd.underlying22 rfl rfl rfl rfl rfl)) ?_
  refine rg_put (d := 10) (v := .d (.fl (.int .i64 (b.acc.length : Int)))) rfl (og rfl (s_len rfl Tryd.underlying22 rfl rfl)) ?_
  refine rg_put (d := 11) (v := .d (.fl (.bool ((decide ((k : Int) < (b.acc.length : Int))))))) rfl (og rfl (op_bin rfl rfl rfl (b_lss _ _ _ _) rfl)) ?_
  refine rg_done rfl ?_
  refine a_cond rfl (fun h1 => ?_) (fun h1 => ?_)
  · skip
    have h2 := t_dec h1
    refine a_skip ?_
    show A _ _ _ _ _ _ _
    refine a_seq ?_
    refine a_block ?_
    refine a_seq ?_
    refine a_rseq ?_
    refine rg_put (d := 14) (v := .pt 101 0) rfl (og rfl (of_eff (s_field_pt rfl Tryd.underlying26 rfl ti22 rfl rfl rfl) rfl)) ?_
    refine rg_put (d := 15) (v := .d (.sl 9 (List.map eAc b.acc))) rfl (og rfl (op_load_pt rfl Tryd.underlying22 rfl rfl rfl rfl rfl)) ?_
    refine rg_put (d := 16) (v := .d (.fl (.int .i64 (k : Int)))) rfl (og rfl (op_move rfl rfl rfl)) ?_
    refine rg_put (d := 17) (v := .el ((eAc (ix b.acc k)))) rfl (og rfl (s_index rfl Tryd.underlying22 ti67 rfl rfl (by omega) (row_at (by omega)) rfl)) ?_
    refine rg_put (d := 18) (v := .el ((List.drop 0 ((eAc (ix b.acc k)))))) rfl (og rfl (of_eff (s_field_el rfl Tryd.underlying67 rfl ti9 rfl rfl rfl) rfl)) ?_
    refine rg_put (d := 19) (v := .d (.fl (.string ((ix b.acc k).name)))) rfl (og rfl (op_load_el rfl Tryd.underlying9 rfl rfl rfl rfl)) ?_
    refine rg_put (d := 20) (v := .d (.fl (.int .i64 ((((ix b.acc k).name).size : Int))))) rfl (og rfl (op_len_str rfl Tryd.underlying9 rfl rfl)) ?_
    refine rg_put (d := 21) (v := .d (.fl (.bool ((decide (40 < (((ix b.acc k).name).size : Int))))))) rfl (og rfl (op_bin rfl rfl rfl (b_gtr _ _ _ _) rfl)) ?_
    refine rg_put (d := 22) (v := .d (.fl (.bool ((decide (40 < (((ix b.acc k).name).size : Int))))))) rfl (og rfl (op_move rfl rfl rfl)) ?_
    rcases fot ((decide (40 < (((ix b.acc k).name).size : Int)))) with h3 | h3
    · skip
      have h4 := f_dec h3
      refine rg_put (d := 23) (v := .pt 101 0) rfl (oy rfl rfl rfl h3 (of_eff (s_field_pt rfl Tryd.underlying26 rfl ti22 rfl rfl rfl) rfl)) ?_
      refine rg_put (d := 24) (v := .d (.sl 9 (List.map eAc b.acc))) rfl (oy rfl rfl rfl h3 (op_load_pt rfl Tryd.underlying22 rfl rfl rfl rfl rfl)) ?_
      refine rg_put (d := 25) (v := .d (.fl (.int .i64 (k : Int)))) rfl (oy rfl rfl rfl h3 (op_move rfl rfl rfl)) ?_
      refine rg_put (d := 26) (v := .el ((eAc (ix b.acc k)))) rfl (oy rfl rfl rfl h3 (s_index rfl Tryd.underlying22 ti67 rfl rfl (by omega) (row_at (by omega)) rfl)) ?_
      refine rg_put (d := 27) (v := .el ((List.drop 3 ((eAc (ix b.acc k)))))) rfl (oy rfl rfl rfl h3 (of_eff (s_field_el rfl Tryd.underlying67 rfl ti63 rfl rfl rfl) rfl)) ?_
      refine rg_put (d := 28) (v := .d (.sl 4 (List.map eOw ((ix b.acc k).owned)))) rfl (oy rfl rfl rfl h3 (op_load_el rfl Tryd.underlying63 rfl rfl rfl rfl)) ?_
      refine rg_put (d := 29) (v := .d (.fl (.int .i64 ((((ix b.acc k).owned).length : Int))))) rfl (oy rfl rfl rfl h3 (s_len rfl Tryd.underlying63 rfl rfl)) ?_
      refine rg_put (d := 30) (v := .d (.fl (.bool ((decide (8 < (((ix b.acc k).owned).length : Int))))))) rfl (oy rfl rfl rfl h3 (op_bin rfl rfl rfl (b_gtr _ _ _ _) rfl)) ?_
      refine rg_put (d := 31) (v := .d (.fl (.bool ((decide (8 < (((ix b.acc k).owned).length : Int))))))) rfl (og rfl (op_pick rfl rfl (by rw [h3]; rfl) rfl)) ?_
      refine rg_done rfl ?_
      refine a_cond rfl (fun h5 => ?_) (fun h5 => ?_)
      · skip
        have h6 := t_dec h5
        refine a_rseq ?_
        refine rg_put (d := 2) (v := .d (.fl (.bool false))) rfl (og rfl (op_assign rfl rfl rfl)) ?_
        refine rg_done rfl ?_
        refine a_ret ?_
        show ∃ ds, ResL _ _ _ ds ∧ RV.of ds = _
        refine ⟨[.fl (.bool false)], (.cons (.tmp rfl (.d _)) .nil), ?_⟩
        have hx : bA (ix b.acc k) = true := by unfold bA; simp only [h1, h3, h5, Bool.true_or, Bool.false_or, Bool.or_true, Bool.or_false, Bool.not_true, Bool.not_false, cond_true, cond_false, Bool.true_and, Bool.false_and, Bool.and_true, Bool.and_false] <;> rfl
        rw [few_a (by omega) hx]; rfl
      · skip
        have h7 := f_dec h5
        refine a_skip ?_
        show A _ _ _ _ _ _ _
        refine a_rseq ?_
        refine rg_put (d := 4) (v := .d (.fl (.int .i64 0))) rfl (og rfl (op_assign rfl rfl rfl)) ?_
        refine rg_done rfl ?_
        refine a_block ?_
        refine a_loop (ι := Nat) (fun j => SS [(0, .d (.ag (eBil b))), (1, .pt 101 0), (3, .d (.fl (.int .i64 (k : Int)))), (11, .d (.fl (.bool ((decide ((k : Int) < (b.acc.length : Int))))))), (31, .d (.fl (.bool ((decide (8 < (((ix b.acc k).owned).length : Int))))))), (4, .d (.fl (.int .i64 (j : Int))))] [(101, .bx 26 (eBil b))]) (fun j => j ≤ (ix b.acc k).owned.length ∧ ∀ q, q < j → lrg (ix (ix b.acc k).owned q) = false) (fun j => (ix b.acc k).owned.length - j) 0 (⟨by omega, fun q h => by omega⟩) (imp_forget rfl ⟨rfl, rfl, rfl, rfl, rfl, (by first | rfl | exact ci (by omega) | exact ci (by simp) | exact cd (by simp) | simp), trivial⟩ ⟨rfl, trivial⟩) (fun j hok => ?_)
        obtain ⟨hkj, hr⟩ := hok
        refine a_seq ?_
        refine a_rseq ?_
        refine rg_put (d := 32) (v := .d (.fl (.int .i64 (j : Int)))) rfl (og rfl (op_move rfl rfl rfl)) ?_
        refine rg_put (d := 33) (v := .pt 101 0) rfl (og rfl (of_eff (s_field_pt rfl Tryd.underlying26 rfl ti22 rfl rfl rfl) rfl)) ?_
        refine rg_put (d := 34) (v := .d (.sl 9 (List.map eAc b.acc))) rfl (og rfl (op_load_pt rfl Tryd.underlying22 rfl rfl rfl rfl rfl)) ?_
        refine rg_put (d := 35) (v := .d (.fl (.int .i64 (k : Int)))) rfl (og rfl (op_move rfl rfl rfl)) ?_
        refine rg_put (d := 36) (v := .el ((eAc (ix b.acc k)))) rfl (og rfl (s_index rfl Tryd.underlying22 ti67 rfl rfl (by omega) (row_at (by omega)) rfl)) ?_
        refine rg_put (d := 37) (v := .el ((List.drop 3 ((eAc (ix b.acc k)))))) rfl (og rfl (of_eff (s_field_el rfl Tryd.underlying67 rfl ti63 rfl rfl rfl) rfl)) ?_
        refine rg_put (d := 38) (v := .d (.sl 4 (List.map eOw ((ix b.acc k).owned)))) rfl (og rfl (op_load_el rfl Tryd.underlying63 rfl rfl rfl rfl)) ?_
        refine rg_put (d := 39) (v := .d (.fl (.int .i64 ((((ix b.acc k).owned).length : Int))))) rfl (og rfl (s_len rfl Tryd.underlying63 rfl rfl)) ?_
        refine rg_put (d := 40) (v := .d (.fl (.bool ((decide ((j : Int) < (((ix b.acc k).owned).length : Int))))))) rfl (og rfl (op_bin rfl rfl rfl (b_lss _ _ _ _) rfl)) ?_
        refine rg_done rfl ?_
        refine a_cond rfl (fun h8 => ?_) (fun h8 => ?_)
        · skip
          have h9 := t_dec h8
          refine a_skip ?_
          show A _ _ _ _ _ _ _
          refine a_seq ?_
          refine a_block ?_
          refine a_rseq ?_
          refine rg_put (d := 43) (v := .pt 101 0) rfl (og rfl (of_eff (s_field_pt rfl Tryd.underlying26 rfl ti22 rfl rfl rfl) rfl)) ?_
          refine rg_put (d := 44) (v := .d (.sl 9 (List.map eAc b.acc))) rfl (og rfl (op_load_pt rfl Tryd.underlying22 rfl rfl rfl rfl rfl)) ?_
          refine rg_put (d := 45) (v := .d (.fl (.int .i64 (k : Int)))) rfl (og rfl (op_move rfl rfl rfl)) ?_
          refine rg_put (d := 46) (v := .el ((eAc (ix b.acc k)))) rfl (og rfl (s_index rfl Tryd.underlying22 ti67 rfl rfl (by omega) (row_at (by omega)) rfl)) ?_
          refine rg_put (d := 47) (v := .el ((List.drop 3 ((eAc (ix b.acc k)))))) rfl (og rfl (of_eff (s_field_el rfl Tryd.underlying67 rfl ti63 rfl rfl rfl) rfl)) ?_
          refine rg_put (d := 48) (v := .d (.sl 4 (List.map eOw ((ix b.acc k).owned)))) rfl (og rfl (op_load_el rfl Tryd.underlying63 rfl rfl rfl rfl)) ?_
          refine rg_put (d := 49) (v := .d (.fl (.int .i64 (j : Int)))) rfl (og rfl (op_move rfl rfl rfl)) ?_
          refine rg_put (d := 50) (v := .el ((eOw ((ix ((ix b.acc k).owned) j))))) rfl (og rfl (s_index rfl Tryd.underlying63 ti69 rfl rfl (by omega) (row_at (by omega)) rfl)) ?_
          refine rg_put (d := 51) (v := .el ((List.drop 0 ((eOw ((ix ((ix b.acc k).owned) j))))))) rfl (og rfl (of_eff (s_field_el rfl Tryd.underlying69 rfl ti9 rfl rfl rfl) rfl)) ?_
          refine rg_put (d := 52) (v := .d (.fl (.string (((ix ((ix b.acc k).owned) j)).tag)))) rfl (og rfl (op_load_el rfl Tryd.underlying9 rfl rfl rfl rfl)) ?_
          refine rg_put (d := 53) (v := .d (.fl (.int .i64 (((((ix ((ix b.acc k).owned) j)).tag).size : Int))))) rfl (og rfl (op_len_str rfl Tryd.underlying9 rfl rfl)) ?_
          refine rg_put (d := 54) (v := .d (.fl (.bool ((decide (40 < ((((ix ((ix b.acc k).owned) j)).tag).size : Int))))))) rfl (og rfl (op_bin rfl rfl rfl (b_gtr _ _ _ _) rfl)) ?_
          refine rg_put (d := 55) (v := .d (.fl (.bool ((decide (40 < ((((ix ((ix b.acc k).owned) j)).tag).size : Int))))))) rfl (og rfl (op_move rfl rfl rfl)) ?_
          rcases fot ((decide (40 < ((((ix ((ix b.acc k).owned) j)).tag).size : Int)))) with h10 | h10
          · skip
            have h11 := f_dec h10
            refine rg_put (d := 56) (v := .pt 101 0) rfl (oy rfl rfl rfl h10 (of_eff (s_field_pt rfl Tryd.underlying26 rfl ti22 rfl rfl rfl) rfl)) ?_
            refine rg_put (d := 57) (v := .d (.sl 9 (List.map eAc b.acc))) rfl (oy rfl rfl rfl h10 (op_load_pt rfl Tryd.underlying22 rfl rfl rfl rfl rfl)) ?_
            refine rg_put (d := 58) (v := .d (.fl (.int .i64 (k : Int)))) rfl (oy rfl rfl rfl h10 (op_move rfl rfl rfl)) ?_
            refine rg_put (d := 59) (v := .el ((eAc (ix b.acc k)))) rfl (oy rfl rfl rfl h10 (s_index rfl Tryd.underlying22 ti67 rfl rfl (by omega) (row_at (by omega)) rfl)) ?_
            refine rg_put (d := 60) (v := .el ((List.drop 3 ((eAc (ix b.acc k)))))) rfl (oy rfl rfl rfl h10 (of_eff (s_field_el rfl Tryd.underlying67 rfl ti63 rfl rfl rfl) rfl)) ?_
            refine rg_put (d := 61) (v := .d (.sl 4 (List.map eOw ((ix b.acc k).owned)))) rfl (oy rfl rfl rfl h10 (op_load_el rfl Tryd.underlying63 rfl rfl rfl rfl)) ?_
            refine rg_put (d := 62) (v := .d (.fl (.int .i64 (j : Int)))) rfl (oy rfl rfl rfl h10 (op_move rfl rfl rfl)) ?_
            refine rg_put (d := 63) (v := .el ((eOw ((ix ((ix b.acc k).owned) j))))) rfl (oy rfl rfl rfl h10 (s_index rfl Tryd.underlying63 ti69 rfl rfl (by omega) (row_at (by omega)) rfl)) ?_
            refine rg_put (d := 64) (v := .el ((List.drop 1 ((eOw ((ix ((ix b.acc k).owned) j))))))) rfl (oy rfl rfl rfl h10 (of_eff (s_field_el rfl Tryd.underlying69 rfl ti9 rfl rfl rfl) rfl)) ?_
            refine rg_put (d := 65) (v := .d (.fl (.string (((ix ((ix b.acc k).owned) j)).plate)))) rfl (oy rfl rfl rfl h10 (op_load_el rfl Tryd.underlying9 rfl rfl rfl rfl)) ?_
            refine rg_put (d := 66) (v := .d (.fl (.int .i64 (((((ix ((ix b.acc k).owned) j)).plate).size : Int))))) rfl (oy rfl rfl rfl h10 (op_len_str rfl Tryd.underlying9 rfl rfl)) ?_
            refine rg_put (d := 67) (v := .d (.fl (.bool ((decide (40 < ((((ix ((ix b.acc k).owned) j)).plate).size : Int))))))) rfl (oy rfl rfl rfl h10 (op_bin rfl rfl rfl (b_gtr _ _ _ _) rfl)) ?_
            refine rg_put (d := 68) (v := .d (.fl (.bool ((decide (40 < ((((ix ((ix b.acc k).owned) j)).plate).size : Int))))))) rfl (og rfl (op_pick rfl rfl (by rw [h10]; rfl) rfl)) ?_
            refine rg_done rfl ?_
            refine a_cond rfl (fun h12 => ?_) (fun h12 => ?_)
            · skip
              have h13 := t_dec h12
              refine a_rseq ?_
              refine rg_put (d := 2) (v := .d (.fl (.bool false))) rfl (og rfl (op_assign rfl rfl rfl)) ?_
              refine rg_done rfl ?_
              refine a_ret ?_
              show ∃ ds, ResL _ _ _ ds ∧ RV.of ds = _
              refine ⟨[.fl (.bool false)], (.cons (.tmp rfl (.d _)) .nil), ?_⟩
              have h9 : (ix b.acc k).owned.any lrg = true := any_at (by omega) (show lrg (ix (ix b.acc k).owned j) = true by unfold lrg; simp only [h1, h3, h5, h8, h10, h12, Bool.true_or, Bool.false_or, Bool.or_true, Bool.or_false, Bool.not_true, Bool.not_false, cond_true, cond_false, Bool.true_and, Bool.false_and, Bool.and_true, Bool.and_false] <;> rfl)
              have hx : bA (ix b.acc k) = true := by unfold bA; rw [h9, Bool.or_true]
              rw [few_a (by omega) hx]; rfl
            · skip
              have h14 := f_dec h12
              refine a_skip ?_
              show A _ _ _ _ _ _ _
              refine a_region ?_
              refine rg_put (d := 41) (v := .d (.fl (.int .i64 (j : Int)))) rfl (og rfl (op_move rfl rfl rfl)) ?_
              refine rg_put (d := 42) (v := .d (.fl (.int .i64 (((j : Int) + 1))))) rfl (og rfl (op_bin rfl rfl rfl (fun x y w => b_add64 _ _ _ x y w (by omega)) rfl)) ?_
              refine rg_put (d := 4) (v := .d (.fl (.int .i64 (((j : Int) + 1))))) rfl (og rfl (op_assign rfl rfl rfl)) ?_
              refine rg_done rfl ?_
              have hxj : lrg (ix (ix b.acc k).owned j) = false := by unfold lrg; simp only [h1, h3, h5, h8, h10, h12, Bool.true_or, Bool.false_or, Bool.or_true, Bool.or_false, Bool.not_true, Bool.not_false, cond_true, cond_false, Bool.true_and, Bool.false_and, Bool.and_true, Bool.and_false] <;> rfl
              show ∃ i, _ ∧ _ ∧ Imp _ _ _ _ _
              refine ⟨j + 1, ⟨by omega, fun q h => (Nat.lt_succ_iff_lt_or_eq.1 h).elim (hr q) (fun e => by rw [e]; exact hxj)⟩, by omega, imp_forget rfl ⟨rfl, rfl, rfl, rfl, rfl, (by first | rfl | exact ci (by omega) | exact ci (by simp) | exact cd (by simp) | simp), trivial⟩ ⟨rfl, trivial⟩⟩
          · skip
            have h15 := t_dec h10
            refine rg_put (d := 56) (v := .d (.fl undef)) rfl (on rfl rfl rfl h10) ?_
            refine rg_put (d := 57) (v := .d (.fl undef)) rfl (on rfl rfl rfl h10) ?_
            refine rg_put (d := 58) (v := .d (.fl undef)) rfl (on rfl rfl rfl h10) ?_
            refine rg_put (d := 59) (v := .d (.fl undef)) rfl (on rfl rfl rfl h10) ?_
            refine rg_put (d := 60) (v := .d (.fl undef)) rfl (on rfl rfl rfl h10) ?_
            refine rg_put (d := 61) (v := .d (.fl undef)) rfl (on rfl rfl rfl h10) ?_
            refine rg_put (d := 62) (v := .d (.fl undef)) rfl (on rfl rfl rfl h10) ?_
            refine rg_put (d := 63) (v := .d (.fl undef)) rfl (on rfl rfl rfl h10) ?_
            refine rg_put (d := 64) (v := .d (.fl undef)) rfl (on rfl rfl rfl h10) ?_
            refine rg_put (d := 65) (v := .d (.fl undef)) rfl (on rfl rfl rfl h10) ?_
            refine rg_put (d := 66) (v := .d (.fl undef)) rfl (on rfl rfl rfl h10) ?_
            refine rg_put (d := 67) (v := .d (.fl undef)) rfl (on rfl rfl rfl h10) ?_
            refine rg_put (d := 68) (v := .d (.fl (.bool true))) rfl (og rfl (op_pick rfl rfl (by rw [h10]; rfl) rfl)) ?_
            refine rg_done rfl ?_
            refine a_condK rfl rfl ?_
            refine a_rseq ?_
            refine rg_put (d := 2) (v := .d (.fl (.bool false))) rfl (og rfl (op_assign rfl rfl rfl)) ?_
            refine rg_done rfl ?_
            refine a_ret ?_
            show ∃ ds, ResL _ _ _ ds ∧ RV.of ds = _
            refine ⟨[.fl (.bool false)], (.cons (.tmp rfl (.d _)) .nil), ?_⟩
            have h9 : (ix b.acc k).owned.any lrg = true := any_at (by omega) (show lrg (ix (ix b.acc k).owned j) = true by unfold lrg; simp only [h1, h3, h5, h8, h10, Bool.true_or, Bool.false_or, Bool.or_true, Bool.or_false, Bool.not_true, Bool.not_false, cond_true, cond_false, Bool.true_and, Bool.false_and, Bool.and_true, Bool.and_false] <;> rfl)
            have hx : bA (ix b.acc k) = true := by unfold bA; rw [h9, Bool.or_true]
            rw [few_a (by omega) hx]; rfl
        · skip
          have h16 := f_dec h8
          refine a_exit ?_
          show A _ _ _ _ _ _ _
          refine a_region ?_
          refine rg_put (d := 12) (v := .d (.fl (.int .i64 (k : Int)))) rfl (og rfl (op_move rfl rfl rfl)) ?_
          refine rg_put (d := 13) (v := .d (.fl (.int .i64 (((k : Int) + 1))))) rfl (og rfl (op_bin rfl rfl rfl (fun x y w => b_add64 _ _ _ x y w (by omega)) rfl)) ?_
          refine rg_put (d := 3) (v := .d (.fl (.int .i64 (((k : Int) + 1))))) rfl (og rfl (op_assign rfl rfl rfl)) ?_
          refine rg_done rfl ?_
          have hx : bA (ix b.acc k) = false := by have h9 : (ix b.acc k).owned.any lrg = false := any_no (fun q h => hr q (by omega)); unfold bA; simp only [h9, h1, h3, h5, h8, Bool.true_or, Bool.false_or, Bool.or_true, Bool.or_false, Bool.not_true, Bool.not_false, cond_true, cond_false, Bool.true_and, Bool.false_and, Bool.and_true, Bool.and_false] <;> rfl
          show ∃ i, _ ∧ _ ∧ Imp _ _ _ _ _
          refine ⟨k + 1, ⟨by omega, fun q h => (Nat.lt_succ_iff_lt_or_eq.1 h).elim (hq q) (fun e => by rw [e]; exact hx)⟩, by omega, imp_forget rfl ⟨rfl, rfl, (by first | rfl | exact ci (by omega) | exact ci (by simp) | exact cd (by simp) | simp), trivial⟩ ⟨rfl, trivial⟩⟩
    · skip
      have h17 := t_dec h3
      refine rg_put (d := 23) (v := .d (.fl undef)) rfl (on rfl rfl rfl h3) ?_
      refine rg_put (d := 24) (v := .d (.fl undef)) rfl (on rfl rfl rfl h3) ?_
      refine rg_put (d := 25) (v := .d (.fl undef)) rfl (on rfl rfl rfl h3) ?_
      refine rg_put (d := 26) (v := .d (.fl undef)) rfl (on rfl rfl rfl h3) ?_
      refine rg_put (d := 27) (v := .d (.fl undef)) rfl (on rfl rfl rfl h3) ?_
      refine rg_put (d := 28) (v := .d (.fl undef)) rfl (on rfl rfl rfl h3) ?_
      refine rg_put (d := 29) (v := .d (.fl undef)) rfl (on rfl rfl rfl h3) ?_
      refine rg_put (d := 30) (v := .d (.fl undef)) rfl (on rfl rfl rfl h3) ?_
      refine rg_put (d := 31) (v := .d (.fl (.bool true))) rfl (og rfl (op_pick rfl rfl (by rw [h3]; rfl) rfl)) ?_
      refine rg_done rfl ?_
      refine a_condK rfl rfl ?_
      refine a_rseq ?_
      refine rg_put (d := 2) (v := .d (.fl (.bool false))) rfl (og rfl (op_assign rfl rfl rfl)) ?_
      refine rg_done rfl ?_
      refine a_ret ?_
      show ∃ ds, ResL _ _ _ ds ∧ RV.of ds = _
      refine ⟨[.fl (.bool false)], (.cons (.tmp rfl (.d _)) .nil), ?_⟩
      have hx : bA (ix b.acc k) = true := by unfold bA; simp only [h1, h3, Bool.true_or, Bool.false_or, Bool.or_true, Bool.or_false, Bool.not_true, Bool.not_false, cond_true, cond_false, Bool.true_and, Bool.false_and, Bool.and_true, Bool.and_false] <;> rfl
      rw [few_a (by omega) hx]; rfl
  · skip
    have h18 := f_dec h1
    refine a_exit ?_
    show A _ _ _ _ _ _ _
    refine a_seq ?_
    refine a_rseq ?_
    refine rg_put (d := 5) (v := .d (.fl (.int .i64 0))) rfl (og rfl (op_assign rfl rfl rfl)) ?_
    refine rg_done rfl ?_
    refine a_block ?_
    refine a_loop (ι := Nat) (fun m => SS [(0, .d (.ag (eBil b))), (1, .pt 101 0), (3, .d (.fl (.int .i64 (k : Int)))), (11, .d (.fl (.bool ((decide ((k : Int) < (b.acc.length : Int))))))), (5, .d (.fl (.int .i64 (m : Int))))] [(101, .bx 26 (eBil b))]) (fun m => m ≤ b.caps.length ∧ ∀ q, q < m → bC (ix b.caps q) = false) (fun m => b.caps.length - m) 0 (⟨by omega, fun q h => by omega⟩) (imp_forget rfl ⟨rfl, rfl, rfl, rfl, (by first | rfl | exact ci (by omega) | exact ci (by simp) | exact cd (by simp) | simp), trivial⟩ ⟨rfl, trivial⟩) (fun m hok => ?_)
    obtain ⟨hkm, hc⟩ := hok
    refine a_seq ?_
    refine a_rseq ?_
    refine rg_put (d := 69) (v := .d (.fl (.int .i64 (m : Int)))) rfl (og rfl (op_move rfl rfl rfl)) ?_
    refine rg_put (d := 70) (v := .pt 101 1) rfl (og rfl (of_eff (s_field_pt rfl Tryd.underlying26 rfl ti23 rfl rfl rfl) rfl)) ?_
    refine rg_put (d := 71) (v := .d (.sl 4 (List.map eCa b.caps))) rfl (og rfl (op_load_pt rfl Tryd.underlying23 rfl rfl rfl rfl rfl)) ?_
    refine rg_put (d := 72) (v := .d (.fl (.int .i64 (b.caps.length : Int)))) rfl (og rfl (s_len rfl Tryd.underlying23 rfl rfl)) ?_
    refine rg_put (d := 73) (v := .d (.fl (.bool ((decide ((m : Int) < (b.caps.length : Int))))))) rfl (og rfl (op_bin rfl rfl rfl (b_lss _ _ _ _) rfl)) ?_
    refine rg_done rfl ?_
    refine a_cond rfl (fun h19 => ?_) (fun h19 => ?_)
    · skip
      have h20 := t_dec h19
      refine a_skip ?_
      show A _ _ _ _ _ _ _
      refine a_seq ?_
      refine a_block ?_
      refine a_rseq ?_
      refine rg_put (d := 76) (v := .pt 101 1) rfl (og rfl (of_eff (s_field_pt rfl Tryd.underlying26 rfl ti23 rfl rfl rfl) rfl)) ?_
      refine rg_put (d := 77) (v := .d (.sl 4 (List.map eCa b.caps))) rfl (og rfl (op_load_pt rfl Tryd.underlying23 rfl rfl rfl rfl rfl)) ?_
      refine rg_put (d := 78) (v := .d (.fl (.int .i64 (m : Int)))) rfl (og rfl (op_move rfl rfl rfl)) ?_
      refine rg_put (d := 79) (v := .el ((eCa (ix b.caps m)))) rfl (og rfl (s_index rfl Tryd.underlying23 ti71 rfl rfl (by omega) (row_at (by omega)) rfl)) ?_
      refine rg_put (d := 80) (v := .el ((List.drop 0 ((eCa (ix b.caps m)))))) rfl (og rfl (of_eff (s_field_el rfl Tryd.underlying71 rfl ti9 rfl rfl rfl) rfl)) ?_
      refine rg_put (d := 81) (v := .d (.fl (.string ((ix b.caps m).name)))) rfl (og rfl (op_load_el rfl Tryd.underlying9 rfl rfl rfl rfl)) ?_
      refine rg_put (d := 82) (v := .d (.fl (.int .i64 ((((ix b.caps m).name).size : Int))))) rfl (og rfl (op_len_str rfl Tryd.underlying9 rfl rfl)) ?_
      refine rg_put (d := 83) (v := .d (.fl (.bool ((decide (40 < (((ix b.caps m).name).size : Int))))))) rfl (og rfl (op_bin rfl rfl rfl (b_gtr _ _ _ _) rfl)) ?_
      refine rg_put (d := 84) (v := .d (.fl (.bool ((decide (40 < (((ix b.caps m).name).size : Int))))))) rfl (og rfl (op_move rfl rfl rfl)) ?_
      rcases fot ((decide (40 < (((ix b.caps m).name).size : Int)))) with h21 | h21
      · skip
        have h22 := f_dec h21
        refine rg_put (d := 85) (v := .pt 101 1) rfl (oy rfl rfl rfl h21 (of_eff (s_field_pt rfl Tryd.underlying26 rfl ti23 rfl rfl rfl) rfl)) ?_
        refine rg_put (d := 86) (v := .d (.sl 4 (List.map eCa b.caps))) rfl (oy rfl rfl rfl h21 (op_load_pt rfl Tryd.underlying23 rfl rfl rfl rfl rfl)) ?_
        refine rg_put (d := 87) (v := .d (.fl (.int .i64 (m : Int)))) rfl (oy rfl rfl rfl h21 (op_move rfl rfl rfl)) ?_
        refine rg_put (d := 88) (v := .el ((eCa (ix b.caps m)))) rfl (oy rfl rfl rfl h21 (s_index rfl Tryd.underlying23 ti71 rfl rfl (by omega) (row_at (by omega)) rfl)) ?_
        refine rg_put (d := 89) (v := .el ((List.drop 1 ((eCa (ix b.caps m)))))) rfl (oy rfl rfl rfl h21 (of_eff (s_field_el rfl Tryd.underlying71 rfl ti9 rfl rfl rfl) rfl)) ?_
        refine rg_put (d := 90) (v := .d (.fl (.string ((ix b.caps m).sys)))) rfl (oy rfl rfl rfl h21 (op_load_el rfl Tryd.underlying9 rfl rfl rfl rfl)) ?_
        refine rg_put (d := 91) (v := .d (.fl (.int .i64 ((((ix b.caps m).sys).size : Int))))) rfl (oy rfl rfl rfl h21 (op_len_str rfl Tryd.underlying9 rfl rfl)) ?_
        refine rg_put (d := 92) (v := .d (.fl (.bool ((decide (40 < (((ix b.caps m).sys).size : Int))))))) rfl (oy rfl rfl rfl h21 (op_bin rfl rfl rfl (b_gtr _ _ _ _) rfl)) ?_
        refine rg_put (d := 93) (v := .d (.fl (.bool ((decide (40 < (((ix b.caps m).sys).size : Int))))))) rfl (og rfl (op_pick rfl rfl (by rw [h21]; rfl) rfl)) ?_
        refine rg_done rfl ?_
        refine a_cond rfl (fun h23 => ?_) (fun h23 => ?_)
        · skip
          have h24 := t_dec h23
          refine a_rseq ?_
          refine rg_put (d := 2) (v := .d (.fl (.bool false))) rfl (og rfl (op_assign rfl rfl rfl)) ?_
          refine rg_done rfl ?_
          refine a_ret ?_
          show ∃ ds, ResL _ _ _ ds ∧ RV.of ds = _
          refine ⟨[.fl (.bool false)], (.cons (.tmp rfl (.d _)) .nil), ?_⟩
          have hx : bC (ix b.caps m) = true := by unfold bC; simp only [h1, h19, h21, h23, Bool.true_or, Bool.false_or, Bool.or_true, Bool.or_false, Bool.not_true, Bool.not_false, cond_true, cond_false, Bool.true_and, Bool.false_and, Bool.and_true, Bool.and_false] <;> rfl
          rw [few_c (by omega) hx]; rfl
        · skip
          have h25 := f_dec h23
          refine a_skip ?_
          show A _ _ _ _ _ _ _
          refine a_region ?_
          refine rg_put (d := 74) (v := .d (.fl (.int .i64 (m : Int)))) rfl (og rfl (op_move rfl rfl rfl)) ?_
          refine rg_put (d := 75) (v := .d (.fl (.int .i64 (((m : Int) + 1))))) rfl (og rfl (op_bin rfl rfl rfl (fun x y w => b_add64 _ _ _ x y w (by omega)) rfl)) ?_
          refine rg_put (d := 5) (v := .d (.fl (.int .i64 (((m : Int) + 1))))) rfl (og rfl (op_assign rfl rfl rfl)) ?_
          refine rg_done rfl ?_
          have hxc : bC (ix b.caps m) = false := by unfold bC; simp only [h1, h19, h21, h23, Bool.true_or, Bool.false_or, Bool.or_true, Bool.or_false, Bool.not_true, Bool.not_false, cond_true, cond_false, Bool.true_and, Bool.false_and, Bool.and_true, Bool.and_false] <;> rfl
          show ∃ i, _ ∧ _ ∧ Imp _ _ _ _ _
          refine ⟨m + 1, ⟨by omega, fun q h => (Nat.lt_succ_iff_lt_or_eq.1 h).elim (hc q) (fun e => by rw [e]; exact hxc)⟩, by omega, imp_forget rfl ⟨rfl, rfl, rfl, rfl, (by first | rfl | exact ci (by omega) | exact ci (by simp) | exact cd (by simp) | simp), trivial⟩ ⟨rfl, trivial⟩⟩
      · skip
        have h26 := t_dec h21
        refine rg_put (d := 85) (v := .d (.fl undef)) rfl (on rfl rfl rfl h21) ?_
        refine rg_put (d := 86) (v := .d (.fl undef)) rfl (on rfl rfl rfl h21) ?_
        refine rg_put (d := 87) (v := .d (.fl undef)) rfl (on rfl rfl rfl h21) ?_
        refine rg_put (d := 88) (v := .d (.fl undef)) rfl (on rfl rfl rfl h21) ?_
        refine rg_put (d := 89) (v := .d (.fl undef)) rfl (on rfl rfl rfl h21) ?_
        refine rg_put (d := 90) (v := .d (.fl undef)) rfl (on rfl rfl rfl h21) ?_
        refine rg_put (d := 91) (v := .d (.fl undef)) rfl (on rfl rfl rfl h21) ?_
        refine rg_put (d := 92) (v := .d (.fl undef)) rfl (on rfl rfl rfl h21) ?_
        refine rg_put (d := 93) (v := .d (.fl (.bool true))) rfl (og rfl (op_pick rfl rfl (by rw [h21]; rfl) rfl)) ?_
        refine rg_done rfl ?_
        refine a_condK rfl rfl ?_
        refine a_rseq ?_
        refine rg_put (d := 2) (v := .d (.fl (.bool false))) rfl (og rfl (op_assign rfl rfl rfl)) ?_
        refine rg_done rfl ?_
        refine a_ret ?_
        show ∃ ds, ResL _ _ _ ds ∧ RV.of ds = _
        refine ⟨[.fl (.bool false)], (.cons (.tmp rfl (.d _)) .nil), ?_⟩
        have hx : bC (ix b.caps m) = true := by unfold bC; simp only [h1, h19, h21, Bool.true_or, Bool.false_or, Bool.or_true, Bool.or_false, Bool.not_true, Bool.not_false, cond_true, cond_false, Bool.true_and, Bool.false_and, Bool.and_true, Bool.and_false] <;> rfl
        rw [few_c (by omega) hx]; rfl
    · skip
      have h27 := f_dec h19
      refine a_exit ?_
      show A _ _ _ _ _ _ _
      refine a_seq ?_
      refine a_rseq ?_
      refine rg_put (d := 6) (v := .d (.fl (.int .i64 0))) rfl (og rfl (op_assign rfl rfl rfl)) ?_
      refine rg_done rfl ?_
      refine a_block ?_
      refine a_loop (ι := Nat) (fun n => SS [(0, .d (.ag (eBil b))), (1, .pt 101 0), (3, .d (.fl (.int .i64 (k : Int)))), (5, .d (.fl (.int .i64 (m : Int)))), (11, .d (.fl (.bool ((decide ((k : Int) < (b.acc.length : Int))))))), (73, .d (.fl (.bool ((decide ((m : Int) < (b.caps.length : Int))))))), (6, .d (.fl (.int .i64 (n : Int))))] [(101, .bx 26 (eBil b))]) (fun n => n ≤ b.chs.length ∧ ∀ q, q < n → bX (ix b.chs q) = false) (fun n => b.chs.length - n) 0 (⟨by omega, fun q h => by omega⟩) (imp_forget rfl ⟨rfl, rfl, rfl, rfl, rfl, rfl, (by first | rfl | exact ci (by omega) | exact ci (by simp) | exact cd (by simp) | simp), trivial⟩ ⟨rfl, trivial⟩) (fun n hok => ?_)
      obtain ⟨hkn, hx9⟩ := hok
      refine a_seq ?_
      refine a_rseq ?_
      refine rg_put (d := 94) (v := .d (.fl (.int .i64 (n : Int)))) rfl (og rfl (op_move rfl rfl rfl)) ?_
      refine rg_put (d := 95) (v := .pt 101 2) rfl (og rfl (of_eff (s_field_pt rfl Tryd.underlying26 rfl ti24 rfl rfl rfl) rfl)) ?_
      refine rg_put (d := 96) (v := .d (.sl 7 (List.map eChg b.chs))) rfl (og rfl (op_load_pt rfl Tryd.underlying24 rfl rfl rfl rfl rfl)) ?_
      refine rg_put (d := 97) (v := .d (.fl (.int .i64 (b.chs.length : Int)))) rfl (og rfl (s_len rfl Tryd.underlying24 rfl rfl)) ?_
      refine rg_put (d := 98) (v := .d (.fl (.bool ((decide ((n : Int) < (b.chs.length : Int))))))) rfl (og rfl (op_bin rfl rfl rfl (b_lss _ _ _ _) rfl)) ?_
      refine rg_done rfl ?_
      refine a_cond rfl (fun h28 => ?_) (fun h28 => ?_)
      · skip
        have h29 := t_dec h28
        refine a_skip ?_
        show A _ _ _ _ _ _ _
        refine a_seq ?_
        refine a_block ?_
        refine a_rseq ?_
        refine rg_put (d := 101) (v := .pt 101 2) rfl (og rfl (of_eff (s_field_pt rfl Tryd.underlying26 rfl ti24 rfl rfl rfl) rfl)) ?_
        refine rg_put (d := 102) (v := .d (.sl 7 (List.map eChg b.chs))) rfl (og rfl (op_load_pt rfl Tryd.underlying24 rfl rfl rfl rfl rfl)) ?_
        refine rg_put (d := 103) (v := .d (.fl (.int .i64 (n : Int)))) rfl (og rfl (op_move rfl rfl rfl)) ?_
        refine rg_put (d := 104) (v := .el ((eChg (ix b.chs n)))) rfl (og rfl (s_index rfl Tryd.underlying24 ti74 rfl rfl (by omega) (row_at (by omega)) rfl)) ?_
        refine rg_put (d := 105) (v := .el ((List.drop 0 ((eChg (ix b.chs n)))))) rfl (og rfl (of_eff (s_field_el rfl Tryd.underlying74 rfl ti9 rfl rfl rfl) rfl)) ?_
        refine rg_put (d := 106) (v := .d (.fl (.string ((ix b.chs n).key)))) rfl (og rfl (op_load_el rfl Tryd.underlying9 rfl rfl rfl rfl)) ?_
        refine rg_put (d := 107) (v := .d (.fl (.int .i64 ((((ix b.chs n).key).size : Int))))) rfl (og rfl (op_len_str rfl Tryd.underlying9 rfl rfl)) ?_
        refine rg_put (d := 108) (v := .d (.fl (.bool ((decide (80 < (((ix b.chs n).key).size : Int))))))) rfl (og rfl (op_bin rfl rfl rfl (b_gtr _ _ _ _) rfl)) ?_
        refine rg_put (d := 109) (v := .d (.fl (.bool ((decide (80 < (((ix b.chs n).key).size : Int))))))) rfl (og rfl (op_move rfl rfl rfl)) ?_
        rcases fot ((decide (80 < (((ix b.chs n).key).size : Int)))) with h30 | h30
        · skip
          have h31 := f_dec h30
          refine rg_put (d := 110) (v := .pt 101 2) rfl (oy rfl rfl rfl h30 (of_eff (s_field_pt rfl Tryd.underlying26 rfl ti24 rfl rfl rfl) rfl)) ?_
          refine rg_put (d := 111) (v := .d (.sl 7 (List.map eChg b.chs))) rfl (oy rfl rfl rfl h30 (op_load_pt rfl Tryd.underlying24 rfl rfl rfl rfl rfl)) ?_
          refine rg_put (d := 112) (v := .d (.fl (.int .i64 (n : Int)))) rfl (oy rfl rfl rfl h30 (op_move rfl rfl rfl)) ?_
          refine rg_put (d := 113) (v := .el ((eChg (ix b.chs n)))) rfl (oy rfl rfl rfl h30 (s_index rfl Tryd.underlying24 ti74 rfl rfl (by omega) (row_at (by omega)) rfl)) ?_
          refine rg_put (d := 114) (v := .el ((List.drop 1 ((eChg (ix b.chs n)))))) rfl (oy rfl rfl rfl h30 (of_eff (s_field_el rfl Tryd.underlying74 rfl ti9 rfl rfl rfl) rfl)) ?_
          refine rg_put (d := 115) (v := .d (.fl (.string ((ix b.chs n).veh)))) rfl (oy rfl rfl rfl h30 (op_load_el rfl Tryd.underlying9 rfl rfl rfl rfl)) ?_
          refine rg_put (d := 116) (v := .d (.fl (.int .i64 ((((ix b.chs n).veh).size : Int))))) rfl (oy rfl rfl rfl h30 (op_len_str rfl Tryd.underlying9 rfl rfl)) ?_
          refine rg_put (d := 117) (v := .d (.fl (.bool ((decide (40 < (((ix b.chs n).veh).size : Int))))))) rfl (oy rfl rfl rfl h30 (op_bin rfl rfl rfl (b_gtr _ _ _ _) rfl)) ?_
          refine rg_put (d := 118) (v := .d (.fl (.bool ((decide (40 < (((ix b.chs n).veh).size : Int))))))) rfl (og rfl (op_pick rfl rfl (by rw [h30]; rfl) rfl)) ?_
          refine rg_put (d := 119) (v := .d (.fl (.bool ((decide (40 < (((ix b.chs n).veh).size : Int))))))) rfl (og rfl (op_move rfl rfl rfl)) ?_
          rcases fot ((decide (40 < (((ix b.chs n).veh).size : Int)))) with h32 | h32
          · skip
            have h33 := f_dec h32
            refine rg_put (d := 120) (v := .pt 101 2) rfl (oy rfl rfl rfl h32 (of_eff (s_field_pt rfl Tryd.underlying26 rfl ti24 rfl rfl rfl) rfl)) ?_
            refine rg_put (d := 121) (v := .d (.sl 7 (List.map eChg b.chs))) rfl (oy rfl rfl rfl h32 (op_load_pt rfl Tryd.underlying24 rfl rfl rfl rfl rfl)) ?_
            refine rg_put (d := 122) (v := .d (.fl (.int .i64 (n : Int)))) rfl (oy rfl rfl rfl h32 (op_move rfl rfl rfl)) ?_
            refine rg_put (d := 123) (v := .el ((eChg (ix b.chs n)))) rfl (oy rfl rfl rfl h32 (s_index rfl Tryd.underlying24 ti74 rfl rfl (by omega) (row_at (by omega)) rfl)) ?_
            refine rg_put (d := 124) (v := .el ((List.drop 2 ((eChg (ix b.chs n)))))) rfl (oy rfl rfl rfl h32 (of_eff (s_field_el rfl Tryd.underlying74 rfl ti9 rfl rfl rfl) rfl)) ?_
            refine rg_put (d := 125) (v := .d (.fl (.string ((ix b.chs n).sys)))) rfl (oy rfl rfl rfl h32 (op_load_el rfl Tryd.underlying9 rfl rfl rfl rfl)) ?_
            refine rg_put (d := 126) (v := .d (.fl (.int .i64 ((((ix b.chs n).sys).size : Int))))) rfl (oy rfl rfl rfl h32 (op_len_str rfl Tryd.underlying9 rfl rfl)) ?_
            refine rg_put (d := 127) (v := .d (.fl (.bool ((decide (40 < (((ix b.chs n).sys).size : Int))))))) rfl (oy rfl rfl rfl h32 (op_bin rfl rfl rfl (b_gtr _ _ _ _) rfl)) ?_
            refine rg_put (d := 128) (v := .d (.fl (.bool ((decide (40 < (((ix b.chs n).sys).size : Int))))))) rfl (og rfl (op_pick rfl rfl (by rw [h32]; rfl) rfl)) ?_
            refine rg_put (d := 129) (v := .d (.fl (.bool ((decide (40 < (((ix b.chs n).sys).size : Int))))))) rfl (og rfl (op_move rfl rfl rfl)) ?_
            rcases fot ((decide (40 < (((ix b.chs n).sys).size : Int)))) with h34 | h34
            · skip
              have h35 := f_dec h34
              refine rg_put (d := 130) (v := .pt 101 2) rfl (oy rfl rfl rfl h34 (of_eff (s_field_pt rfl Tryd.underlying26 rfl ti24 rfl rfl rfl) rfl)) ?_
              refine rg_put (d := 131) (v := .d (.sl 7 (List.map eChg b.chs))) rfl (oy rfl rfl rfl h34 (op_load_pt rfl Tryd.underlying24 rfl rfl rfl rfl rfl)) ?_
              refine rg_put (d := 132) (v := .d (.fl (.int .i64 (n : Int)))) rfl (oy rfl rfl rfl h34 (op_move rfl rfl rfl)) ?_
              refine rg_put (d := 133) (v := .el ((eChg (ix b.chs n)))) rfl (oy rfl rfl rfl h34 (s_index rfl Tryd.underlying24 ti74 rfl rfl (by omega) (row_at (by omega)) rfl)) ?_
              refine rg_put (d := 134) (v := .el ((List.drop 5 ((eChg (ix b.chs n)))))) rfl (oy rfl rfl rfl h34 (of_eff (s_field_el rfl Tryd.underlying74 rfl ti72 rfl rfl rfl) rfl)) ?_
              refine rg_put (d := 135) (v := .d (.sl 2 (List.map eLin ((ix b.chs n).lines)))) rfl (oy rfl rfl rfl h34 (op_load_el rfl Tryd.underlying72 rfl rfl rfl rfl)) ?_
              refine rg_put (d := 136) (v := .d (.fl (.int .i64 ((((ix b.chs n).lines).length : Int))))) rfl (oy rfl rfl rfl h34 (s_len rfl Tryd.underlying72 rfl rfl)) ?_
              refine rg_put (d := 137) (v := .d (.fl (.bool ((decide (8 < (((ix b.chs n).lines).length : Int))))))) rfl (oy rfl rfl rfl h34 (op_bin rfl rfl rfl (b_gtr _ _ _ _) rfl)) ?_
              refine rg_put (d := 138) (v := .d (.fl (.bool ((decide (8 < (((ix b.chs n).lines).length : Int))))))) rfl (og rfl (op_pick rfl rfl (by rw [h34]; rfl) rfl)) ?_
              refine rg_done rfl ?_
              refine a_cond rfl (fun h36 => ?_) (fun h36 => ?_)
              · skip
                have h37 := t_dec h36
                refine a_rseq ?_
                refine rg_put (d := 2) (v := .d (.fl (.bool false))) rfl (og rfl (op_assign rfl rfl rfl)) ?_
                refine rg_done rfl ?_
                refine a_ret ?_
                show ∃ ds, ResL _ _ _ ds ∧ RV.of ds = _
                refine ⟨[.fl (.bool false)], (.cons (.tmp rfl (.d _)) .nil), ?_⟩
                have hx : bX (ix b.chs n) = true := by unfold bX; simp only [h1, h19, h28, h30, h32, h34, h36, Bool.true_or, Bool.false_or, Bool.or_true, Bool.or_false, Bool.not_true, Bool.not_false, cond_true, cond_false, Bool.true_and, Bool.false_and, Bool.and_true, Bool.and_false] <;> rfl
                rw [few_x (by omega) hx]; rfl
              · skip
                have h38 := f_dec h36
                refine a_skip ?_
                show A _ _ _ _ _ _ _
                refine a_region ?_
                refine rg_put (d := 99) (v := .d (.fl (.int .i64 (n : Int)))) rfl (og rfl (op_move rfl rfl rfl)) ?_
                refine rg_put (d := 100) (v := .d (.fl (.int .i64 (((n : Int) + 1))))) rfl (og rfl (op_bin rfl rfl rfl (fun x y w => b_add64 _ _ _ x y w (by omega)) rfl)) ?_
                refine rg_put (d := 6) (v := .d (.fl (.int .i64 (((n : Int) + 1))))) rfl (og rfl (op_assign rfl rfl rfl)) ?_
                refine rg_done rfl ?_
                have hxx : bX (ix b.chs n) = false := by unfold bX; simp only [h1, h19, h28, h30, h32, h34, h36, Bool.true_or, Bool.false_or, Bool.or_true, Bool.or_false, Bool.not_true, Bool.not_false, cond_true, cond_false, Bool.true_and, Bool.false_and, Bool.and_true, Bool.and_false] <;> rfl
                show ∃ i, _ ∧ _ ∧ Imp _ _ _ _ _
                refine ⟨n + 1, ⟨by omega, fun q h => (Nat.lt_succ_iff_lt_or_eq.1 h).elim (hx9 q) (fun e => by rw [e]; exact hxx)⟩, by omega, imp_forget rfl ⟨rfl, rfl, rfl, rfl, rfl, rfl, (by first | rfl | exact ci (by omega) | exact ci (by simp) | exact cd (by simp) | simp), trivial⟩ ⟨rfl, trivial⟩⟩
            · skip
              have h39 := t_dec h34
              refine rg_put (d := 130) (v := .d (.fl undef)) rfl (on rfl rfl rfl h34) ?_
              refine rg_put (d := 131) (v := .d (.fl undef)) rfl (on rfl rfl rfl h34) ?_
              refine rg_put (d := 132) (v := .d (.fl undef)) rfl (on rfl rfl rfl h34) ?_
              refine rg_put (d := 133) (v := .d (.fl undef)) rfl (on rfl rfl rfl h34) ?_
              refine rg_put (d := 134) (v := .d (.fl undef)) rfl (on rfl rfl rfl h34) ?_
              refine rg_put (d := 135) (v := .d (.fl undef)) rfl (on rfl rfl rfl h34) ?_
              refine rg_put (d := 136) (v := .d (.fl undef)) rfl (on rfl rfl rfl h34) ?_
              refine rg_put (d := 137) (v := .d (.fl undef)) rfl (on rfl rfl rfl h34) ?_
              refine rg_put (d := 138) (v := .d (.fl (.bool true))) rfl (og rfl (op_pick rfl rfl (by rw [h34]; rfl) rfl)) ?_
              refine rg_done rfl ?_
              refine a_condK rfl rfl ?_
              refine a_rseq ?_
              refine rg_put (d := 2) (v := .d (.fl (.bool false))) rfl (og rfl (op_assign rfl rfl rfl)) ?_
              refine rg_done rfl ?_
              refine a_ret ?_
              show ∃ ds, ResL _ _ _ ds ∧ RV.of ds = _
              refine ⟨[.fl (.bool false)], (.cons (.tmp rfl (.d _)) .nil), ?_⟩
              have hx : bX (ix b.chs n) = true := by unfold bX; simp only [h1, h19, h28, h30, h32, h34, Bool.true_or, Bool.false_or, Bool.or_true, Bool.or_false, Bool.not_true, Bool.not_false, cond_true, cond_false, Bool.true_and, Bool.false_and, Bool.and_true, Bool.and_false] <;> rfl
              rw [few_x (by omega) hx]; rfl
          · skip
            have h40 := t_dec h32
            refine rg_put (d := 120) (v := .d (.fl undef)) rfl (on rfl rfl rfl h32) ?_
            refine rg_put (d := 121) (v := .d (.fl undef)) rfl (on rfl rfl rfl h32) ?_
            refine rg_put (d := 122) (v := .d (.fl undef)) rfl (on rfl rfl rfl h32) ?_
            refine rg_put (d := 123) (v := .d (.fl undef)) rfl (on rfl rfl rfl h32) ?_
            refine rg_put (d := 124) (v := .d (.fl undef)) rfl (on rfl rfl rfl h32) ?_
            refine rg_put (d := 125) (v := .d (.fl undef)) rfl (on rfl rfl rfl h32) ?_
            refine rg_put (d := 126) (v := .d (.fl undef)) rfl (on rfl rfl rfl h32) ?_
            refine rg_put (d := 127) (v := .d (.fl undef)) rfl (on rfl rfl rfl h32) ?_
            refine rg_put (d := 128) (v := .d (.fl (.bool true))) rfl (og rfl (op_pick rfl rfl (by rw [h32]; rfl) rfl)) ?_
            refine rg_put (d := 129) (v := .d (.fl (.bool true))) rfl (og rfl (op_move rfl rfl rfl)) ?_
            refine rg_put (d := 130) (v := .d (.fl undef)) rfl (on rfl rfl rfl rfl) ?_
            refine rg_put (d := 131) (v := .d (.fl undef)) rfl (on rfl rfl rfl rfl) ?_
            refine rg_put (d := 132) (v := .d (.fl undef)) rfl (on rfl rfl rfl rfl) ?_
            refine rg_put (d := 133) (v := .d (.fl undef)) rfl (on rfl rfl rfl rfl) ?_
            refine rg_put (d := 134) (v := .d (.fl undef)) rfl (on rfl rfl rfl rfl) ?_
            refine rg_put (d := 135) (v := .d (.fl undef)) rfl (on rfl rfl rfl rfl) ?_
            refine rg_put (d := 136) (v := .d (.fl undef)) rfl (on rfl rfl rfl rfl) ?_
            refine rg_put (d := 137) (v := .d (.fl undef)) rfl (on rfl rfl rfl rfl) ?_
            refine rg_put (d := 138) (v := .d (.fl (.bool true))) rfl (og rfl (op_pick rfl rfl rfl rfl)) ?_
            refine rg_done rfl ?_
            refine a_condK rfl rfl ?_
            refine a_rseq ?_
            refine rg_put (d := 2) (v := .d (.fl (.bool false))) rfl (og rfl (op_assign rfl rfl rfl)) ?_
            refine rg_done rfl ?_
            refine a_ret ?_
            show ∃ ds, ResL _ _ _ ds ∧ RV.of ds = _
            refine ⟨[.fl (.bool false)], (.cons (.tmp rfl (.d _)) .nil), ?_⟩
            have hx : bX (ix b.chs n) = true := by unfold bX; simp only [h1, h19, h28, h30, h32, Bool.true_or, Bool.false_or, Bool.or_true, Bool.or_false, Bool.not_true, Bool.not_false, cond_true, cond_false, Bool.true_and, Bool.false_and, Bool.and_true, Bool.and_false] <;> rfl
            rw [few_x (by omega) hx]; rfl
        · skip
          have h41 := t_dec h30
          refine rg_put (d := 110) (v := .d (.fl undef)) rfl (on rfl rfl rfl h30) ?_
          refine rg_put (d := 111) (v := .d (.fl undef)) rfl (on rfl rfl rfl h30) ?_
          refine rg_put (d := 112) (v := .d (.fl undef)) rfl (on rfl rfl rfl h30) ?_
          refine rg_put (d := 113) (v := .d (.fl undef)) rfl (on rfl rfl rfl h30) ?_
          refine rg_put (d := 114) (v := .d (.fl undef)) rfl (on rfl rfl rfl h30) ?_
          refine rg_put (d := 115) (v := .d (.fl undef)) rfl (on rfl rfl rfl h30) ?_
          refine rg_put (d := 116) (v := .d (.fl undef)) rfl (on rfl rfl rfl h30) ?_
          refine rg_put (d := 117) (v := .d (.fl undef)) rfl (on rfl rfl rfl h30) ?_
          refine rg_put (d := 118) (v := .d (.fl (.bool true))) rfl (og rfl (op_pick rfl rfl (by rw [h30]; rfl) rfl)) ?_
          refine rg_put (d := 119) (v := .d (.fl (.bool true))) rfl (og rfl (op_move rfl rfl rfl)) ?_
          refine rg_put (d := 120) (v := .d (.fl undef)) rfl (on rfl rfl rfl rfl) ?_
          refine rg_put (d := 121) (v := .d (.fl undef)) rfl (on rfl rfl rfl rfl) ?_
          refine rg_put (d := 122) (v := .d (.fl undef)) rfl (on rfl rfl rfl rfl) ?_
          refine rg_put (d := 123) (v := .d (.fl undef)) rfl (on rfl rfl rfl rfl) ?_
          refine rg_put (d := 124) (v := .d (.fl undef)) rfl (on rfl rfl rfl rfl) ?_
          refine rg_put (d := 125) (v := .d (.fl undef)) rfl (on rfl rfl rfl rfl) ?_
          refine rg_put (d := 126) (v := .d (.fl undef)) rfl (on rfl rfl rfl rfl) ?_
          refine rg_put (d := 127) (v := .d (.fl undef)) rfl (on rfl rfl rfl rfl) ?_
          refine rg_put (d := 128) (v := .d (.fl (.bool true))) rfl (og rfl (op_pick rfl rfl rfl rfl)) ?_
          refine rg_put (d := 129) (v := .d (.fl (.bool true))) rfl (og rfl (op_move rfl rfl rfl)) ?_
          refine rg_put (d := 130) (v := .d (.fl undef)) rfl (on rfl rfl rfl rfl) ?_
          refine rg_put (d := 131) (v := .d (.fl undef)) rfl (on rfl rfl rfl rfl) ?_
          refine rg_put (d := 132) (v := .d (.fl undef)) rfl (on rfl rfl rfl rfl) ?_
          refine rg_put (d := 133) (v := .d (.fl undef)) rfl (on rfl rfl rfl rfl) ?_
          refine rg_put (d := 134) (v := .d (.fl undef)) rfl (on rfl rfl rfl rfl) ?_
          refine rg_put (d := 135) (v := .d (.fl undef)) rfl (on rfl rfl rfl rfl) ?_
          refine rg_put (d := 136) (v := .d (.fl undef)) rfl (on rfl rfl rfl rfl) ?_
          refine rg_put (d := 137) (v := .d (.fl undef)) rfl (on rfl rfl rfl rfl) ?_
          refine rg_put (d := 138) (v := .d (.fl (.bool true))) rfl (og rfl (op_pick rfl rfl rfl rfl)) ?_
          refine rg_done rfl ?_
          refine a_condK rfl rfl ?_
          refine a_rseq ?_
          refine rg_put (d := 2) (v := .d (.fl (.bool false))) rfl (og rfl (op_assign rfl rfl rfl)) ?_
          refine rg_done rfl ?_
          refine a_ret ?_
          show ∃ ds, ResL _ _ _ ds ∧ RV.of ds = _
          refine ⟨[.fl (.bool false)], (.cons (.tmp rfl (.d _)) .nil), ?_⟩
          have hx : bX (ix b.chs n) = true := by unfold bX; simp only [h1, h19, h28, h30, Bool.true_or, Bool.false_or, Bool.or_true, Bool.or_false, Bool.not_true, Bool.not_false, cond_true, cond_false, Bool.true_and, Bool.false_and, Bool.and_true, Bool.and_false] <;> rfl
          rw [few_x (by omega) hx]; rfl
      · skip
        have h42 := f_dec h28
        refine a_exit ?_
        show A _ _ _ _ _ _ _
        refine a_rseq ?_
        refine rg_put (d := 139) (v := .pt 101 0) rfl (og rfl (of_eff (s_field_pt rfl Tryd.underlying26 rfl ti22 rfl rfl rfl) rfl)) ?_
        refine rg_put (d := 140) (v := .d (.sl 9 (List.map eAc b.acc))) rfl (og rfl (op_load_pt rfl Tryd.underlying22 rfl rfl rfl rfl rfl)) ?_
        refine rg_put (d := 141) (v := .d (.fl (.int .i64 (b.acc.length : Int)))) rfl (og rfl (s_len rfl Tryd.underlying22 rfl rfl)) ?_
        refine rg_put (d := 142) (v := .d (.fl (.bool ((decide ((b.acc.length : Int) ≤ 8)))))) rfl (og rfl (op_bin rfl rfl rfl (b_leq _ _ _ _) rfl)) ?_
        refine rg_put (d := 143) (v := .d (.fl (.bool ((decide ((b.acc.length : Int) ≤ 8)))))) rfl (og rfl (op_move rfl rfl rfl)) ?_
        rcases fot ((decide ((b.acc.length : Int) ≤ 8))) with h43 | h43
        · skip
          have h44 := f_dec h43
          refine rg_put (d := 144) (v := .d (.fl undef)) rfl (on rfl rfl rfl h43) ?_
          refine rg_put (d := 145) (v := .d (.fl undef)) rfl (on rfl rfl rfl h43) ?_
          refine rg_put (d := 146) (v := .d (.fl undef)) rfl (on rfl rfl rfl h43) ?_
          refine rg_put (d := 147) (v := .d (.fl undef)) rfl (on rfl rfl rfl h43) ?_
          refine rg_put (d := 148) (v := .d (.fl (.bool false))) rfl (og rfl (op_pick rfl rfl (by rw [h43]; rfl) rfl)) ?_
          refine rg_put (d := 149) (v := .d (.fl (.bool false))) rfl (og rfl (op_move rfl rfl rfl)) ?_
          refine rg_put (d := 150) (v := .d (.fl undef)) rfl (on rfl rfl rfl rfl) ?_
          refine rg_put (d := 151) (v := .d (.fl undef)) rfl (on rfl rfl rfl rfl) ?_
          refine rg_put (d := 152) (v := .d (.fl undef)) rfl (on rfl rfl rfl rfl) ?_
          refine rg_put (d := 153) (v := .d (.fl undef)) rfl (on rfl rfl rfl rfl) ?_
          refine rg_put (d := 154) (v := .d (.fl (.bool false))) rfl (og rfl (op_pick rfl rfl rfl rfl)) ?_
          refine rg_put (d := 2) (v := .d (.fl (.bool false))) rfl (og rfl (op_assign rfl rfl rfl)) ?_
          refine rg_done rfl ?_
          refine a_ret ?_
          show ∃ ds, ResL _ _ _ ds ∧ RV.of ds = _
          refine ⟨[.fl (.bool false)], (.cons (.tmp rfl (.d _)) .nil), ?_⟩
          have hu : few b = false := by unfold few; rw [any_no (p := bA) (fun q h => hq q (by omega)), any_no (p := bC) (fun q h => hc q (by omega)), any_no (p := bX) (fun q h => hx9 q (by omega))]; simp only [h1, h19, h28, h43, Bool.true_or, Bool.false_or, Bool.or_true, Bool.or_false, Bool.not_true, Bool.not_false, cond_true, cond_false, Bool.true_and, Bool.false_and, Bool.and_true, Bool.and_false] <;> rfl
          rw [hu]; rfl
        · skip
          have h45 := t_dec h43
          refine rg_put (d := 144) (v := .pt 101 1) rfl (oy rfl rfl rfl h43 (of_eff (s_field_pt rfl Tryd.underlying26 rfl ti23 rfl rfl rfl) rfl)) ?_
          refine rg_put (d := 145) (v := .d (.sl 4 (List.map eCa b.caps))) rfl (oy rfl rfl rfl h43 (op_load_pt rfl Tryd.underlying23 rfl rfl rfl rfl rfl)) ?_
          refine rg_put (d := 146) (v := .d (.fl (.int .i64 (b.caps.length : Int)))) rfl (oy rfl rfl rfl h43 (s_len rfl Tryd.underlying23 rfl rfl)) ?_
          refine rg_put (d := 147) (v := .d (.fl (.bool ((decide ((b.caps.length : Int) ≤ 14)))))) rfl (oy rfl rfl rfl h43 (op_bin rfl rfl rfl (b_leq _ _ _ _) rfl)) ?_
          refine rg_put (d := 148) (v := .d (.fl (.bool ((decide ((b.caps.length : Int) ≤ 14)))))) rfl (og rfl (op_pick rfl rfl (by rw [h43]; rfl) rfl)) ?_
          refine rg_put (d := 149) (v := .d (.fl (.bool ((decide ((b.caps.length : Int) ≤ 14)))))) rfl (og rfl (op_move rfl rfl rfl)) ?_
          rcases fot ((decide ((b.caps.length : Int) ≤ 14))) with h46 | h46
          · skip
            have h47 := f_dec h46
            refine rg_put (d := 150) (v := .d (.fl undef)) rfl (on rfl rfl rfl h46) ?_
            refine rg_put (d := 151) (v := .d (.fl undef)) rfl (on rfl rfl rfl h46) ?_
            refine rg_put (d := 152) (v := .d (.fl undef)) rfl (on rfl rfl rfl h46) ?_
            refine rg_put (d := 153) (v := .d (.fl undef)) rfl (on rfl rfl rfl h46) ?_
            refine rg_put (d := 154) (v := .d (.fl (.bool false))) rfl (og rfl (op_pick rfl rfl (by rw [h46]; rfl) rfl)) ?_
            refine rg_put (d := 2) (v := .d (.fl (.bool false))) rfl (og rfl (op_assign rfl rfl rfl)) ?_
            refine rg_done rfl ?_
            refine a_ret ?_
            show ∃ ds, ResL _ _ _ ds ∧ RV.of ds = _
            refine ⟨[.fl (.bool false)], (.cons (.tmp rfl (.d _)) .nil), ?_⟩
            have hu : few b = false := by unfold few; rw [any_no (p := bA) (fun q h => hq q (by omega)), any_no (p := bC) (fun q h => hc q (by omega)), any_no (p := bX) (fun q h => hx9 q (by omega))]; simp only [h1, h19, h28, h43, h46, Bool.true_or, Bool.false_or, Bool.or_true, Bool.or_false, Bool.not_true, Bool.not_false, cond_true, cond_false, Bool.true_and, Bool.false_and, Bool.and_true, Bool.and_false] <;> rfl
            rw [hu]; rfl
          · skip
            have h48 := t_dec h46
            refine rg_put (d := 150) (v := .pt 101 2) rfl (oy rfl rfl rfl h46 (of_eff (s_field_pt rfl Tryd.underlying26 rfl ti24 rfl rfl rfl) rfl)) ?_
            refine rg_put (d := 151) (v := .d (.sl 7 (List.map eChg b.chs))) rfl (oy rfl rfl rfl h46 (op_load_pt rfl Tryd.underlying24 rfl rfl rfl rfl rfl)) ?_
            refine rg_put (d := 152) (v := .d (.fl (.int .i64 (b.chs.length : Int)))) rfl (oy rfl rfl rfl h46 (s_len rfl Tryd.underlying24 rfl rfl)) ?_
            refine rg_put (d := 153) (v := .d (.fl (.bool ((decide ((b.chs.length : Int) ≤ 30)))))) rfl (oy rfl rfl rfl h46 (op_bin rfl rfl rfl (b_leq _ _ _ _) rfl)) ?_
            refine rg_put (d := 154) (v := .d (.fl (.bool ((decide ((b.chs.length : Int) ≤ 30)))))) rfl (og rfl (op_pick rfl rfl (by rw [h46]; rfl) rfl)) ?_
            refine rg_put (d := 2) (v := .d (.fl (.bool ((decide ((b.chs.length : Int) ≤ 30)))))) rfl (og rfl (op_assign rfl rfl rfl)) ?_
            refine rg_done rfl ?_
            refine a_ret ?_
            show ∃ ds, ResL _ _ _ ds ∧ RV.of ds = _
            refine ⟨[.fl (.bool ((decide ((b.chs.length : Int) ≤ 30))))], (.cons (.tmp rfl (.d _)) .nil), ?_⟩
            have hu : few b = (decide ((b.chs.length : Int) ≤ 30)) := by unfold few; rw [any_no (p := bA) (fun q h => hq q (by omega)), any_no (p := bC) (fun q h => hc q (by omega)), any_no (p := bX) (fun q h => hx9 q (by omega))]; simp only [h1, h19, h28, h43, h46, Bool.true_or, Bool.false_or, Bool.or_true, Bool.or_false, Bool.not_true, Bool.not_false, cond_true, cond_false, Bool.true_and, Bool.false_and, Bool.and_true, Bool.and_false] <;> rfl
            rw [hu]; rfl
end Go.Proofs.YtaapmifdglaehaaDoor.Wk
