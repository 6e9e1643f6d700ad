/- Days, open cases, the rules of a law. No condition. -/
import Derived.Test.YtdafmaocbkmmgaaDoorTy
set_option linter.unusedSimpArgs false
set_option linter.unusedVariables false
namespace Go.Proofs.YtdafmaocbkmmgaaDoor.Wk
open Go Go.RowKit Go.Proofs.YtdafmaocbkmmgaaDoor.Av
theorem ne_self_b (a : Int) : (a != a) = false := by simp
theorem sEq_eq {a b : ByteArray} (h : sEq a b = true) : a = b := of_decide_eq_true h
theorem sEq_of {a b : ByteArray} (h : a = b) : sEq a b = true := decide_eq_true h
theorem nb {b : Bool} (h : ¬ b = true) : b = false := by cases b <;> simp at h ⊢
theorem nnb {b : Bool} (h : ¬ (!b) = true) : b = true := by cases b <;> simp at h ⊢
def isD (d : Int) : Bool := decide (0 ≤ d) && decide (d < 795364)
theorem isD_t {d : Int} (h : isD d = true) : 0 ≤ d ∧ d < 795364 := by simpa [isD] using h
theorem isD_f {d : Int} (h : isD d = false) : d < 0 ∨ 795364 ≤ d := by simp [isD] at h; omega
def opn (x : Cs) : Bool := decide (1 ≤ x.stage) && decide (x.stage ≤ 5)
def anyI (f : Nat → Bool) (n : Nat) : Bool := (List.range n).any f
theorem any_yes {f : Nat → Bool} {n k : Nat} (hk : k < n) (h : f k = true) : anyI f n = true := List.any_eq_true.2 ⟨k, by simpa using hk, h⟩
theorem any_no {f : Nat → Bool} {n : Nat} (h : ∀ q, q < n → f q = false) : anyI f n = false := by
  unfold anyI; rw [List.any_eq_false]; intro q hq; rw [h q (by simpa using hq)]; simp
theorem any_f {f : Nat → Bool} {n : Nat} (h : anyI f n = false) (q : Nat) (hq : q < n) : f q = false := by
  unfold anyI at h; rw [List.any_eq_false] at h
  have := h q (by simpa using hq)
  cases hx : f q with
  | false => rfl
  | true => exact absurd hx this
def bad1 (l : List Int) (k : Nat) : Bool := decide (ix l k < 1) || decide (4096 < ix l k)
def bad2 (l : List Int) (k : Nat) : Bool := decide (ix l k < 0) || decide (2147483648 < ix l k)
def ckL (w : Lw) : Int := if (((w.days.length : Int) != 4) || ((w.fees.length : Int) != 4)) = true then 3 else if anyI (bad1 w.days) 4 = true then 1 else if anyI (bad2 w.fees) 4 = true then 13 else if (decide (w.limit < 1) || decide (795364 ≤ w.limit)) = true then 12 else 0
theorem ckL_ok {w : Lw} (h : ckL w = 0) : w.days.length = 4 ∧ w.fees.length = 4 ∧ (∀ q, q < 4 → 1 ≤ ix w.days q ∧ ix w.days q ≤ 4096) ∧ (∀ q, q < 4 → 0 ≤ ix w.fees q ∧ ix w.fees q ≤ 2147483648) ∧ 1 ≤ w.limit ∧ w.limit < 795364 := by
  unfold ckL at h
  split at h
  · cases h
  · rename_i h1
    split at h
    · cases h
    · rename_i h2
      split at h
      · cases h
      · rename_i h3
        split at h
        · cases h
        · rename_i h4
          simp at h1 h4
          have h2 := nb h2
          have h3 := nb h3
          refine ⟨by omega, by omega, fun q hq => ?_, fun q hq => ?_, by omega, by omega⟩
          · have := any_f h2 q hq; simp [bad1] at this; omega
          · have := any_f h3 q hq; simp [bad2] at this; omega

set_option maxHeartbeats 4000000 in
set_option maxRecDepth 100000 in
theorem isD29 (d : Int) : Ctr Tryd.prog 16 [.fl (.int .i64 d)] (.d (.fl (.bool (isD d)))) := by
  refine ctr (n := 9) (rs := #[.tmp 2]) (L := [(0, .d (.fl (.int .i64 d)))]) Tryd.func16 rfl rfl rfl rfl rfl (fun w0 U0 => ?_)
  refine a_rseq ?_
  refine rg_put (d := 2) (v := .d (.fl (.bool false))) rfl (og rfl (op_assign rfl rfl rfl)) ?_
  refine rg_done rfl ?_
  refine a_rseq ?_
  refine rg_put (d := 3) (v := .d (.fl (.int .i64 d))) rfl (og rfl (op_move rfl rfl rfl)) ?_
  refine rg_put (d := 4) (v := .d (.fl (.bool ((decide (0 ≤ d)))))) rfl (og rfl (op_bin rfl rfl rfl (b_leq _ _ _ _) rfl)) ?_
  refine rg_put (d := 5) (v := .d (.fl (.bool ((decide (0 ≤ d)))))) rfl (og rfl (op_move rfl rfl rfl)) ?_
  rcases fot ((decide (0 ≤ d))) with h1 | h1
  · skip
    have h2 := f_dec h1
    refine rg_put (d := 6) (v := .d (.fl undef)) rfl (on rfl rfl rfl h1) ?_
    refine rg_put (d := 7) (v := .d (.fl undef)) rfl (on rfl rfl rfl h1) ?_
    refine rg_put (d := 8) (v := .d (.fl (.bool false))) rfl (og rfl (op_pick rfl rfl (by rw [h1]; rfl) rfl)) ?_
    refine rg_put (d := 2) (v := .d (.fl (.bool false))) rfl (og rfl (op_assign rfl rfl rfl)) ?_
    refine rg_done rfl ?_
    refine a_ret ?_
    show ∃ ds, ResL _ _ _ ds ∧ RV.of ds = _
    refine ⟨[.fl (.bool false)], (.cons (.tmp rfl (.d _)) .nil), ?_⟩
    have e : (false : Bool) = isD d := by
      unfold isD; rw [Bool.eq_iff_iff]; simp; omega
    exact congrArg (fun b => RV.d (.fl (.bool b))) e
  · skip
    have h3 := t_dec h1
    refine rg_put (d := 6) (v := .d (.fl (.int .i64 d))) rfl (oy rfl rfl rfl h1 (op_move rfl rfl rfl)) ?_
    refine rg_put (d := 7) (v := .d (.fl (.bool ((decide (d < 795364)))))) rfl (oy rfl rfl rfl h1 (op_bin rfl rfl rfl (b_lss _ _ _ _) rfl)) ?_
    refine rg_put (d := 8) (v := .d (.fl (.bool ((decide (d < 795364)))))) rfl (og rfl (op_pick rfl rfl (by rw [h1]; rfl) rfl)) ?_
    refine rg_put (d := 2) (v := .d (.fl (.bool ((decide (d < 795364)))))) rfl (og rfl (op_assign rfl rfl rfl)) ?_
    refine rg_done rfl ?_
    refine a_ret ?_
    show ∃ ds, ResL _ _ _ ds ∧ RV.of ds = _
    refine ⟨[.fl (.bool ((decide (d < 795364))))], (.cons (.tmp rfl (.d _)) .nil), ?_⟩
    have e : ((decide (d < 795364)) : Bool) = isD d := by
      unfold isD; rw [Bool.eq_iff_iff]; simp; omega
    exact congrArg (fun b => RV.d (.fl (.bool b))) e

set_option maxHeartbeats 4000000 in
set_option maxRecDepth 100000 in
theorem isD44 (d : Int) : Ctr Tryd.prog 32 [.fl (.int .i64 d)] (.d (.fl (.bool (isD d)))) := by
  refine ctr (n := 9) (rs := #[.tmp 2]) (L := [(0, .d (.fl (.int .i64 d)))]) Tryd.func32 rfl rfl rfl rfl rfl (fun w0 U0 => ?_)
  refine a_rseq ?_
  refine rg_put (d := 2) (v := .d (.fl (.bool false))) rfl (og rfl (op_assign rfl rfl rfl)) ?_
  refine rg_done rfl ?_
  refine a_rseq ?_
  refine rg_put (d := 3) (v := .d (.fl (.int .i64 d))) rfl (og rfl (op_move rfl rfl rfl)) ?_
  refine rg_put (d := 4) (v := .d (.fl (.bool ((decide (0 ≤ d)))))) rfl (og rfl (op_bin rfl rfl rfl (b_leq _ _ _ _) rfl)) ?_
  refine rg_put (d := 5) (v := .d (.fl (.bool ((decide (0 ≤ d)))))) rfl (og rfl (op_move rfl rfl rfl)) ?_
  rcases fot ((decide (0 ≤ d))) with h1 | h1
  · skip
    have h2 := f_dec h1
    refine rg_put (d := 6) (v := .d (.fl undef)) rfl (on rfl rfl rfl h1) ?_
    refine rg_put (d := 7) (v := .d (.fl undef)) rfl (on rfl rfl rfl h1) ?_
    refine rg_put (d := 8) (v := .d (.fl (.bool false))) rfl (og rfl (op_pick rfl rfl (by rw [h1]; rfl) rfl)) ?_
    refine rg_put (d := 2) (v := .d (.fl (.bool false))) rfl (og rfl (op_assign rfl rfl rfl)) ?_
    refine rg_done rfl ?_
    refine a_ret ?_
    show ∃ ds, ResL _ _ _ ds ∧ RV.of ds = _
    refine ⟨[.fl (.bool false)], (.cons (.tmp rfl (.d _)) .nil), ?_⟩
    have e : (false : Bool) = isD d := by
      unfold isD; rw [Bool.eq_iff_iff]; simp; omega
    exact congrArg (fun b => RV.d (.fl (.bool b))) e
  · skip
    have h3 := t_dec h1
    refine rg_put (d := 6) (v := .d (.fl (.int .i64 d))) rfl (oy rfl rfl rfl h1 (op_move rfl rfl rfl)) ?_
    refine rg_put (d := 7) (v := .d (.fl (.bool ((decide (d < 795364)))))) rfl (oy rfl rfl rfl h1 (op_bin rfl rfl rfl (b_lss _ _ _ _) rfl)) ?_
    refine rg_put (d := 8) (v := .d (.fl (.bool ((decide (d < 795364)))))) rfl (og rfl (op_pick rfl rfl (by rw [h1]; rfl) rfl)) ?_
    refine rg_put (d := 2) (v := .d (.fl (.bool ((decide (d < 795364)))))) rfl (og rfl (op_assign rfl rfl rfl)) ?_
    refine rg_done rfl ?_
    refine a_ret ?_
    show ∃ ds, ResL _ _ _ ds ∧ RV.of ds = _
    refine ⟨[.fl (.bool ((decide (d < 795364))))], (.cons (.tmp rfl (.d _)) .nil), ?_⟩
    have e : ((decide (d < 795364)) : Bool) = isD d := by
      unfold isD; rw [Bool.eq_iff_iff]; simp; omega
    exact congrArg (fun b => RV.d (.fl (.bool b))) e
set_option maxHeartbeats 4000000 in
set_option maxRecDepth 100000 in
theorem isD42 (d : Int) : Ctr Tryd.prog 28 [.fl (.int .i64 d)] (.d (.fl (.bool (isD d)))) := by
  refine ctr (n := 9) (rs := #[.tmp 2]) (L := [(0, .d (.fl (.int .i64 d)))]) Tryd.func28 rfl rfl rfl rfl rfl (fun w0 U0 => ?_)
  refine a_rseq ?_
  refine rg_put (d := 2) (v := .d (.fl (.bool false))) rfl (og rfl (op_assign rfl rfl rfl)) ?_
  refine rg_done rfl ?_
  refine a_rseq ?_
  refine rg_put (d := 3) (v := .d (.fl (.int .i64 d))) rfl (og rfl (op_move rfl rfl rfl)) ?_
  refine rg_put (d := 4) (v := .d (.fl (.bool ((decide (0 ≤ d)))))) rfl (og rfl (op_bin rfl rfl rfl (b_leq _ _ _ _) rfl)) ?_
  refine rg_put (d := 5) (v := .d (.fl (.bool ((decide (0 ≤ d)))))) rfl (og rfl (op_move rfl rfl rfl)) ?_
  rcases fot ((decide (0 ≤ d))) with h1 | h1
  · skip
    have h2 := f_dec h1
    refine rg_put (d := 6) (v := .d (.fl undef)) rfl (on rfl rfl rfl h1) ?_
    refine rg_put (d := 7) (v := .d (.fl undef)) rfl (on rfl rfl rfl h1) ?_
    refine rg_put (d := 8) (v := .d (.fl (.bool false))) rfl (og rfl (op_pick rfl rfl (by rw [h1]; rfl) rfl)) ?_
    refine rg_put (d := 2) (v := .d (.fl (.bool false))) rfl (og rfl (op_assign rfl rfl rfl)) ?_
    refine rg_done rfl ?_
    refine a_ret ?_
    show ∃ ds, ResL _ _ _ ds ∧ RV.of ds = _
    refine ⟨[.fl (.bool false)], (.cons (.tmp rfl (.d _)) .nil), ?_⟩
    have e : (false : Bool) = isD d := by
      unfold isD; rw [Bool.eq_iff_iff]; simp; omega
    exact congrArg (fun b => RV.d (.fl (.bool b))) e
  · skip
    have h3 := t_dec h1
    refine rg_put (d := 6) (v := .d (.fl (.int .i64 d))) rfl (oy rfl rfl rfl h1 (op_move rfl rfl rfl)) ?_
    refine rg_put (d := 7) (v := .d (.fl (.bool ((decide (d < 795364)))))) rfl (oy rfl rfl rfl h1 (op_bin rfl rfl rfl (b_lss _ _ _ _) rfl)) ?_
    refine rg_put (d := 8) (v := .d (.fl (.bool ((decide (d < 795364)))))) rfl (og rfl (op_pick rfl rfl (by rw [h1]; rfl) rfl)) ?_
    refine rg_put (d := 2) (v := .d (.fl (.bool ((decide (d < 795364)))))) rfl (og rfl (op_assign rfl rfl rfl)) ?_
    refine rg_done rfl ?_
    refine a_ret ?_
    show ∃ ds, ResL _ _ _ ds ∧ RV.of ds = _
    refine ⟨[.fl (.bool ((decide (d < 795364))))], (.cons (.tmp rfl (.d _)) .nil), ?_⟩
    have e : ((decide (d < 795364)) : Bool) = isD d := by
      unfold isD; rw [Bool.eq_iff_iff]; simp; omega
    exact congrArg (fun b => RV.d (.fl (.bool b))) e
set_option maxHeartbeats 4000000 in
set_option maxRecDepth 100000 in
theorem opn21 (x : Cs) : Ctr Tryd.prog 13 [.ag (eCs x)] (.d (.fl (.bool (opn x)))) := by
  refine ctr (n := 11) (rs := #[.tmp 2]) (L := [(0, .d (.ag (eCs x)))]) Tryd.func13 rfl rfl rfl rfl rfl (fun w0 U0 => ?_)
  refine a_rseq ?_
  refine rg_nam (d := 1) (v := .pt 101 0) (m := 101) (nw := [(101, .bx 32 (eCs x))]) rfl (og rfl (of_eff (op_box 101 rfl rfl rfl rfl) rfl)) rfl ?_
  refine rg_put (d := 2) (v := .d (.fl (.bool false))) rfl (og rfl (op_assign rfl rfl rfl)) ?_
  refine rg_done rfl ?_
  refine a_rseq ?_
  refine rg_put (d := 3) (v := .pt 101 5) rfl (og rfl (of_eff (s_field_pt rfl Tryd.underlying32 rfl ti3 rfl rfl rfl) rfl)) ?_
  refine rg_put (d := 4) (v := .d (.fl (.int .i64 x.stage))) rfl (og rfl (op_load_pt rfl Tryd.underlying3 rfl rfl rfl rfl rfl)) ?_
  refine rg_put (d := 5) (v := .d (.fl (.bool ((decide (1 ≤ x.stage)))))) rfl (og rfl (op_bin rfl rfl rfl (b_leq _ _ _ _) rfl)) ?_
  refine rg_put (d := 6) (v := .d (.fl (.bool ((decide (1 ≤ x.stage)))))) rfl (og rfl (op_move rfl rfl rfl)) ?_
  rcases fot ((decide (1 ≤ x.stage))) with h1 | h1
  · skip
    have h2 := f_dec h1
    refine rg_put (d := 7) (v := .d (.fl undef)) rfl (on rfl rfl rfl h1) ?_
    refine rg_put (d := 8) (v := .d (.fl undef)) rfl (on rfl rfl rfl h1) ?_
    refine rg_put (d := 9) (v := .d (.fl undef)) rfl (on rfl rfl rfl h1) ?_
    refine rg_put (d := 10) (v := .d (.fl (.bool false))) rfl (og rfl (op_pick rfl rfl (by rw [h1]; rfl) rfl)) ?_
    refine rg_put (d := 2) (v := .d (.fl (.bool false))) rfl (og rfl (op_assign rfl rfl rfl)) ?_
    refine rg_done rfl ?_
    refine a_ret ?_
    show ∃ ds, ResL _ _ _ ds ∧ RV.of ds = _
    refine ⟨[.fl (.bool false)], (.cons (.tmp rfl (.d _)) .nil), ?_⟩
    have e : (false : Bool) = opn x := by
      unfold opn; rw [Bool.eq_iff_iff]; simp; omega
    exact congrArg (fun b => RV.d (.fl (.bool b))) e
  · skip
    have h3 := t_dec h1
    refine rg_put (d := 7) (v := .pt 101 5) rfl (oy rfl rfl rfl h1 (of_eff (s_field_pt rfl Tryd.underlying32 rfl ti3 rfl rfl rfl) rfl)) ?_
    refine rg_put (d := 8) (v := .d (.fl (.int .i64 x.stage))) rfl (oy rfl rfl rfl h1 (op_load_pt rfl Tryd.underlying3 rfl rfl rfl rfl rfl)) ?_
    refine rg_put (d := 9) (v := .d (.fl (.bool ((decide (x.stage ≤ 5)))))) rfl (oy rfl rfl rfl h1 (op_bin rfl rfl rfl (b_leq _ _ _ _) rfl)) ?_
    refine rg_put (d := 10) (v := .d (.fl (.bool ((decide (x.stage ≤ 5)))))) rfl (og rfl (op_pick rfl rfl (by rw [h1]; rfl) rfl)) ?_
    refine rg_put (d := 2) (v := .d (.fl (.bool ((decide (x.stage ≤ 5)))))) rfl (og rfl (op_assign rfl rfl rfl)) ?_
    refine rg_done rfl ?_
    refine a_ret ?_
    show ∃ ds, ResL _ _ _ ds ∧ RV.of ds = _
    refine ⟨[.fl (.bool ((decide (x.stage ≤ 5))))], (.cons (.tmp rfl (.d _)) .nil), ?_⟩
    have e : ((decide (x.stage ≤ 5)) : Bool) = opn x := by
      unfold opn; rw [Bool.eq_iff_iff]; simp; omega
    exact congrArg (fun b => RV.d (.fl (.bool b))) e

set_option maxHeartbeats 4000000 in
set_option maxRecDepth 100000 in
theorem ck12 (w : Lw) : Ctr Tryd.prog 25 [.ag (eLw w)] (.d (.fl (.int .i64 (ckL w)))) := by
  refine ctr (n := 53) (rs := #[.tmp 2]) (L := [(0, .d (.ag (eLw w)))]) Tryd.func25 rfl rfl rfl rfl rfl (fun w0 U0 => ?_)
  refine a_rseq ?_
  refine rg_nam (d := 1) (v := .pt 101 0) (m := 101) (nw := [(101, .bx 24 (eLw w))]) rfl (og rfl (of_eff (op_box 101 rfl rfl rfl rfl) rfl)) rfl ?_
  refine rg_put (d := 2) (v := .d (.fl (.int .i64 0))) rfl (og rfl (op_assign rfl rfl rfl)) ?_
  refine rg_done rfl ?_
  refine a_seq ?_
  refine a_rseq ?_
  refine rg_put (d := 7) (v := .pt 101 0) rfl (og rfl (of_eff (s_field_pt rfl Tryd.underlying24 rfl ti22 rfl rfl rfl) rfl)) ?_
  refine rg_put (d := 8) (v := .d (.sl 1 (List.map (rI .i64) w.days))) rfl (og rfl (op_load_pt rfl Tryd.underlying22 rfl rfl rfl rfl rfl)) ?_
  refine rg_put (d := 9) (v := .d (.fl (.int .i64 (w.days.length : Int)))) rfl (og rfl (s_len rfl Tryd.underlying22 rfl rfl)) ?_
  refine rg_put (d := 10) (v := .d (.fl (.bool (((w.days.length : Int) != 4))))) rfl (og rfl (op_bin rfl rfl rfl (b_neq _ _ _ _) rfl)) ?_
  refine rg_put (d := 11) (v := .d (.fl (.bool (((w.days.length : Int) != 4))))) rfl (og rfl (op_move rfl rfl rfl)) ?_
  rcases fot (((w.days.length : Int) != 4)) with h1 | h1
  · skip
    have h2 := f_bne h1
    refine rg_put (d := 12) (v := .pt 101 1) rfl (oy rfl rfl rfl h1 (of_eff (s_field_pt rfl Tryd.underlying24 rfl ti22 rfl rfl rfl) rfl)) ?_
    refine rg_put (d := 13) (v := .d (.sl 1 (List.map (rI .i64) w.fees))) rfl (oy rfl rfl rfl h1 (op_load_pt rfl Tryd.underlying22 rfl rfl rfl rfl rfl)) ?_
    refine rg_put (d := 14) (v := .d (.fl (.int .i64 (w.fees.length : Int)))) rfl (oy rfl rfl rfl h1 (s_len rfl Tryd.underlying22 rfl rfl)) ?_
    refine rg_put (d := 15) (v := .d (.fl (.bool (((w.fees.length : Int) != 4))))) rfl (oy rfl rfl rfl h1 (op_bin rfl rfl rfl (b_neq _ _ _ _) rfl)) ?_
    refine rg_put (d := 16) (v := .d (.fl (.bool (((w.fees.length : Int) != 4))))) rfl (og rfl (op_pick rfl rfl (by rw [h1]; rfl) rfl)) ?_
    refine rg_done rfl ?_
    refine a_cond rfl (fun h3 => ?_) (fun h3 => ?_)
    · skip
      have h4 := t_bne h3
      refine a_rseq ?_
      refine rg_put (d := 2) (v := .d (.fl (.int .i64 3))) rfl (og rfl (op_assign rfl rfl rfl)) ?_
      refine rg_done rfl ?_
      refine a_ret ?_
      show ∃ ds, ResL _ _ _ ds ∧ RV.of ds = _
      refine ⟨[.fl (.int .i64 3)], (.cons (.tmp rfl (.d _)) .nil), ?_⟩
      have hu : ckL w = 3 := by
        unfold ckL; simp only [h1, h3]; rfl
      rw [hu]; rfl
    · skip
      have h5 := f_bne h3
      refine a_skip ?_
      show A _ _ _ _ _ _ _
      refine a_seq ?_
      refine a_rseq ?_
      have hd4 : w.days.length = 4 := by omega
      have hf4 : w.fees.length = 4 := by omega
      refine rg_put (d := 17) (v := .pt 101 0) rfl (og rfl (of_eff (s_field_pt rfl Tryd.underlying24 rfl ti22 rfl rfl rfl) rfl)) ?_
      refine rg_put (d := 18) (v := .d (.sl 1 (List.map (rI .i64) w.days))) rfl (og rfl (op_load_pt rfl Tryd.underlying22 rfl rfl rfl rfl rfl)) ?_
      refine rg_put (d := 19) (v := .d (.fl (.int .i64 (w.days.length : Int)))) rfl (og rfl (s_len rfl Tryd.underlying22 rfl rfl)) ?_
      refine rg_put (d := 20) (v := .d (.fl (.int .i64 0))) rfl (og rfl (op_move rfl rfl rfl)) ?_
      refine rg_done rfl ?_
      refine a_block ?_
      refine a_loop (ι := Nat) (fun k => SS [(0, .d (.ag (eLw w))), (1, .pt 101 0), (16, .d (.fl (.bool (((w.fees.length : Int) != 4))))), (18, .d (.sl 1 (List.map (rI .i64) w.days))), (19, .d (.fl (.int .i64 (w.days.length : Int)))), (20, .d (.fl (.int .i64 (k : Int))))] [(101, .bx 24 (eLw w))]) (fun k => k ≤ w.days.length ∧ ∀ q, q < k → bad1 w.days q = false) (fun k => w.days.length - k) 0 (⟨by omega, fun q h => by omega⟩) (imp_forget rfl ⟨rfl, rfl, rfl, rfl, rfl, (by first | rfl | exact ci (by omega) | exact ci (by simp) | exact cd (by simp) | simp), trivial⟩ ⟨rfl, trivial⟩) (fun k hok => ?_)
      obtain ⟨hkk, hqk⟩ := hok
      refine a_rseq ?_
      refine rg_put (d := 21) (v := .d (.fl (.bool ((decide ((k : Int) < (w.days.length : Int))))))) rfl (og rfl (op_bin rfl rfl rfl (b_lss _ _ _ _) rfl)) ?_
      refine rg_done rfl ?_
      refine a_seq ?_
      refine a_cond rfl (fun h6 => ?_) (fun h6 => ?_)
      · skip
        have h7 := t_dec h6
        refine a_skip ?_
        show A _ _ _ _ _ _ _
        refine a_seq ?_
        refine a_block ?_
        refine a_rseq ?_
        refine rg_put (d := 22) (v := .el ((rI .i64 (ix w.days k)))) rfl (og rfl (s_index rfl Tryd.underlying22 ti3 rfl rfl (by omega) (row_at (by omega)) rfl)) ?_
        refine rg_put (d := 23) (v := .d (.fl (.int .i64 (ix w.days k)))) rfl (og rfl (op_load_el rfl Tryd.underlying3 rfl rfl rfl rfl)) ?_
        refine rg_put (d := 4) (v := .d (.fl (.int .i64 (ix w.days k)))) rfl (og rfl (op_assign rfl rfl rfl)) ?_
        refine rg_done rfl ?_
        refine a_rseq ?_
        refine rg_put (d := 24) (v := .d (.fl (.int .i64 (ix w.days k)))) rfl (og rfl (op_move rfl rfl rfl)) ?_
        refine rg_put (d := 25) (v := .d (.fl (.bool ((decide ((ix w.days k) < 1)))))) rfl (og rfl (op_bin rfl rfl rfl (b_lss _ _ _ _) rfl)) ?_
        refine rg_put (d := 26) (v := .d (.fl (.bool ((decide ((ix w.days k) < 1)))))) rfl (og rfl (op_move rfl rfl rfl)) ?_
        rcases fot ((decide ((ix w.days k) < 1))) with h8 | h8
        · skip
          have h9 := f_dec h8
          refine rg_put (d := 27) (v := .d (.fl (.int .i64 (ix w.days k)))) rfl (oy rfl rfl rfl h8 (op_move rfl rfl rfl)) ?_
          refine rg_put (d := 28) (v := .d (.fl (.bool ((decide (4096 < (ix w.days k))))))) rfl (oy rfl rfl rfl h8 (op_bin rfl rfl rfl (b_gtr _ _ _ _) rfl)) ?_
          refine rg_put (d := 29) (v := .d (.fl (.bool ((decide (4096 < (ix w.days k))))))) rfl (og rfl (op_pick rfl rfl (by rw [h8]; rfl) rfl)) ?_
          refine rg_done rfl ?_
          refine a_cond rfl (fun h10 => ?_) (fun h10 => ?_)
          · skip
            have h11 := t_dec h10
            refine a_rseq ?_
            refine rg_put (d := 2) (v := .d (.fl (.int .i64 1))) rfl (og rfl (op_assign rfl rfl rfl)) ?_
            refine rg_done rfl ?_
            refine a_ret ?_
            show ∃ ds, ResL _ _ _ ds ∧ RV.of ds = _
            refine ⟨[.fl (.int .i64 1)], (.cons (.tmp rfl (.d _)) .nil), ?_⟩
            have hbd : bad1 w.days k = true := by
              unfold bad1; simp only [h8, h10]; rfl
            have ha1 := any_yes (n := 4) (by omega) hbd
            have hu : ckL w = 1 := by
              unfold ckL; simp only [h1, h3, h6, h8, h10, ha1]; rfl
            rw [hu]; rfl
          · skip
            have h12 := f_dec h10
            refine a_skip ?_
            show A _ _ _ _ _ _ _
            refine a_region ?_
            refine rg_put (d := 30) (v := .d (.fl (.int .i64 (((k : Int) + 1))))) rfl (og rfl (op_bin rfl rfl rfl (fun x y w => b_add64 _ _ _ x y w (by omega)) rfl)) ?_
            refine rg_put (d := 20) (v := .d (.fl (.int .i64 (((k : Int) + 1))))) rfl (og rfl (op_move rfl rfl rfl)) ?_
            refine rg_done rfl ?_
            have hbd : bad1 w.days k = false := by
              unfold bad1; simp only [h8, h10]; rfl
            show ∃ i, _ ∧ _ ∧ Imp _ _ _ _ _
            refine ⟨k + 1, ⟨by omega, fun q h => by
              rcases Nat.lt_succ_iff_lt_or_eq.1 h with h | h
              · exact hqk q h
              · subst h; exact hbd⟩, by omega, imp_forget rfl ⟨rfl, rfl, rfl, rfl, rfl, (by first | rfl | exact ci (by omega) | exact ci (by simp) | exact cd (by simp) | simp), trivial⟩ ⟨rfl, trivial⟩⟩
        · skip
          have h13 := t_dec h8
          refine rg_put (d := 27) (v := .d (.fl undef)) rfl (on rfl rfl rfl h8) ?_
          refine rg_put (d := 28) (v := .d (.fl undef)) rfl (on rfl rfl rfl h8) ?_
          refine rg_put (d := 29) (v := .d (.fl (.bool true))) rfl (og rfl (op_pick rfl rfl (by rw [h8]; rfl) rfl)) ?_
          refine rg_done rfl ?_
          refine a_condK rfl rfl ?_
          refine a_rseq ?_
          refine rg_put (d := 2) (v := .d (.fl (.int .i64 1))) rfl (og rfl (op_assign rfl rfl rfl)) ?_
          refine rg_done rfl ?_
          refine a_ret ?_
          show ∃ ds, ResL _ _ _ ds ∧ RV.of ds = _
          refine ⟨[.fl (.int .i64 1)], (.cons (.tmp rfl (.d _)) .nil), ?_⟩
          have hbd : bad1 w.days k = true := by
            unfold bad1; simp only [h8]; rfl
          have ha1 := any_yes (n := 4) (by omega) hbd
          have hu : ckL w = 1 := by
            unfold ckL; simp only [h1, h3, h6, h8, ha1]; rfl
          rw [hu]; rfl
      · skip
        have h14 := f_dec h6
        refine a_exit ?_
        show A _ _ _ _ _ _ _
        refine a_seq ?_
        refine a_rseq ?_
        refine rg_put (d := 31) (v := .pt 101 1) rfl (og rfl (of_eff (s_field_pt rfl Tryd.underlying24 rfl ti22 rfl rfl rfl) rfl)) ?_
        refine rg_put (d := 32) (v := .d (.sl 1 (List.map (rI .i64) w.fees))) rfl (og rfl (op_load_pt rfl Tryd.underlying22 rfl rfl rfl rfl rfl)) ?_
        refine rg_put (d := 33) (v := .d (.fl (.int .i64 (w.fees.length : Int)))) rfl (og rfl (s_len rfl Tryd.underlying22 rfl rfl)) ?_
        refine rg_put (d := 34) (v := .d (.fl (.int .i64 0))) rfl (og rfl (op_move rfl rfl rfl)) ?_
        refine rg_done rfl ?_
        refine a_block ?_
        refine a_loop (ι := Nat) (fun j => SS [(0, .d (.ag (eLw w))), (1, .pt 101 0), (16, .d (.fl (.bool (((w.fees.length : Int) != 4))))), (18, .d (.sl 1 (List.map (rI .i64) w.days))), (19, .d (.fl (.int .i64 (w.days.length : Int)))), (20, .d (.fl (.int .i64 (k : Int)))), (21, .d (.fl (.bool ((decide ((k : Int) < (w.days.length : Int))))))), (32, .d (.sl 1 (List.map (rI .i64) w.fees))), (33, .d (.fl (.int .i64 (w.fees.length : Int)))), (34, .d (.fl (.int .i64 (j : Int))))] [(101, .bx 24 (eLw w))]) (fun j => j ≤ w.fees.length ∧ ∀ q, q < j → bad2 w.fees q = false) (fun j => w.fees.length - j) 0 (⟨by omega, fun q h => by omega⟩) (imp_forget rfl ⟨rfl, rfl, rfl, rfl, rfl, rfl, rfl, rfl, rfl, (by first | rfl | exact ci (by omega) | exact ci (by simp) | exact cd (by simp) | simp), trivial⟩ ⟨rfl, trivial⟩) (fun j hok => ?_)
        obtain ⟨hkj, hqj⟩ := hok
        refine a_rseq ?_
        refine rg_put (d := 35) (v := .d (.fl (.bool ((decide ((j : Int) < (w.fees.length : Int))))))) rfl (og rfl (op_bin rfl rfl rfl (b_lss _ _ _ _) rfl)) ?_
        refine rg_done rfl ?_
        refine a_seq ?_
        refine a_cond rfl (fun h15 => ?_) (fun h15 => ?_)
        · skip
          have h16 := t_dec h15
          refine a_skip ?_
          show A _ _ _ _ _ _ _
          refine a_seq ?_
          refine a_block ?_
          refine a_rseq ?_
          refine rg_put (d := 36) (v := .el ((rI .i64 (ix w.fees j)))) rfl (og rfl (s_index rfl Tryd.underlying22 ti3 rfl rfl (by omega) (row_at (by omega)) rfl)) ?_
          refine rg_put (d := 37) (v := .d (.fl (.int .i64 (ix w.fees j)))) rfl (og rfl (op_load_el rfl Tryd.underlying3 rfl rfl rfl rfl)) ?_
          refine rg_put (d := 6) (v := .d (.fl (.int .i64 (ix w.fees j)))) rfl (og rfl (op_assign rfl rfl rfl)) ?_
          refine rg_done rfl ?_
          refine a_rseq ?_
          refine rg_put (d := 38) (v := .d (.fl (.int .i64 (ix w.fees j)))) rfl (og rfl (op_move rfl rfl rfl)) ?_
          refine rg_put (d := 39) (v := .d (.fl (.bool ((decide ((ix w.fees j) < 0)))))) rfl (og rfl (op_bin rfl rfl rfl (b_lss _ _ _ _) rfl)) ?_
          refine rg_put (d := 40) (v := .d (.fl (.bool ((decide ((ix w.fees j) < 0)))))) rfl (og rfl (op_move rfl rfl rfl)) ?_
          rcases fot ((decide ((ix w.fees j) < 0))) with h17 | h17
          · skip
            have h18 := f_dec h17
            refine rg_put (d := 41) (v := .d (.fl (.int .i64 (ix w.fees j)))) rfl (oy rfl rfl rfl h17 (op_move rfl rfl rfl)) ?_
            refine rg_put (d := 42) (v := .d (.fl (.bool ((decide (2147483648 < (ix w.fees j))))))) rfl (oy rfl rfl rfl h17 (op_bin rfl rfl rfl (b_gtr _ _ _ _) rfl)) ?_
            refine rg_put (d := 43) (v := .d (.fl (.bool ((decide (2147483648 < (ix w.fees j))))))) rfl (og rfl (op_pick rfl rfl (by rw [h17]; rfl) rfl)) ?_
            refine rg_done rfl ?_
            refine a_cond rfl (fun h19 => ?_) (fun h19 => ?_)
            · skip
              have h20 := t_dec h19
              refine a_rseq ?_
              refine rg_put (d := 2) (v := .d (.fl (.int .i64 13))) rfl (og rfl (op_assign rfl rfl rfl)) ?_
              refine rg_done rfl ?_
              refine a_ret ?_
              show ∃ ds, ResL _ _ _ ds ∧ RV.of ds = _
              refine ⟨[.fl (.int .i64 13)], (.cons (.tmp rfl (.d _)) .nil), ?_⟩
              have ha1 : anyI (bad1 w.days) 4 = false := any_no (fun q h => hqk q (by omega))
              have hbd : bad2 w.fees j = true := by
                unfold bad2; simp only [h17, h19]; rfl
              have ha2 := any_yes (n := 4) (by omega) hbd
              have hu : ckL w = 13 := by
                unfold ckL; simp only [h1, h3, h6, h15, h17, h19, ha1, ha2]; rfl
              rw [hu]; rfl
            · skip
              have h21 := f_dec h19
              refine a_skip ?_
              show A _ _ _ _ _ _ _
              refine a_region ?_
              refine rg_put (d := 44) (v := .d (.fl (.int .i64 (((j : Int) + 1))))) rfl (og rfl (op_bin rfl rfl rfl (fun x y w => b_add64 _ _ _ x y w (by omega)) rfl)) ?_
              refine rg_put (d := 34) (v := .d (.fl (.int .i64 (((j : Int) + 1))))) rfl (og rfl (op_move rfl rfl rfl)) ?_
              refine rg_done rfl ?_
              have hbd : bad2 w.fees j = false := by
                unfold bad2; simp only [h17, h19]; rfl
              show ∃ i, _ ∧ _ ∧ Imp _ _ _ _ _
              refine ⟨j + 1, ⟨by omega, fun q h => by
                rcases Nat.lt_succ_iff_lt_or_eq.1 h with h | h
                · exact hqj q h
                · subst h; exact hbd⟩, by omega, imp_forget rfl ⟨rfl, rfl, rfl, rfl, rfl, rfl, rfl, rfl, rfl, (by first | rfl | exact ci (by omega) | exact ci (by simp) | exact cd (by simp) | simp), trivial⟩ ⟨rfl, trivial⟩⟩
          · skip
            have h22 := t_dec h17
            refine rg_put (d := 41) (v := .d (.fl undef)) rfl (on rfl rfl rfl h17) ?_
            refine rg_put (d := 42) (v := .d (.fl undef)) rfl (on rfl rfl rfl h17) ?_
            refine rg_put (d := 43) (v := .d (.fl (.bool true))) rfl (og rfl (op_pick rfl rfl (by rw [h17]; rfl) rfl)) ?_
            refine rg_done rfl ?_
            refine a_condK rfl rfl ?_
            refine a_rseq ?_
            refine rg_put (d := 2) (v := .d (.fl (.int .i64 13))) rfl (og rfl (op_assign rfl rfl rfl)) ?_
            refine rg_done rfl ?_
            refine a_ret ?_
            show ∃ ds, ResL _ _ _ ds ∧ RV.of ds = _
            refine ⟨[.fl (.int .i64 13)], (.cons (.tmp rfl (.d _)) .nil), ?_⟩
            have ha1 : anyI (bad1 w.days) 4 = false := any_no (fun q h => hqk q (by omega))
            have hbd : bad2 w.fees j = true := by
              unfold bad2; simp only [h17]; rfl
            have ha2 := any_yes (n := 4) (by omega) hbd
            have hu : ckL w = 13 := by
              unfold ckL; simp only [h1, h3, h6, h15, h17, ha1, ha2]; rfl
            rw [hu]; rfl
        · skip
          have h23 := f_dec h15
          refine a_exit ?_
          show A _ _ _ _ _ _ _
          refine a_seq ?_
          refine a_rseq ?_
          refine rg_put (d := 45) (v := .pt 101 2) rfl (og rfl (of_eff (s_field_pt rfl Tryd.underlying24 rfl ti3 rfl rfl rfl) rfl)) ?_
          refine rg_put (d := 46) (v := .d (.fl (.int .i64 w.limit))) rfl (og rfl (op_load_pt rfl Tryd.underlying3 rfl rfl rfl rfl rfl)) ?_
          refine rg_put (d := 47) (v := .d (.fl (.bool ((decide (w.limit < 1)))))) rfl (og rfl (op_bin rfl rfl rfl (b_lss _ _ _ _) rfl)) ?_
          refine rg_put (d := 48) (v := .d (.fl (.bool ((decide (w.limit < 1)))))) rfl (og rfl (op_move rfl rfl rfl)) ?_
          rcases fot ((decide (w.limit < 1))) with h24 | h24
          · skip
            have h25 := f_dec h24
            refine rg_put (d := 49) (v := .pt 101 2) rfl (oy rfl rfl rfl h24 (of_eff (s_field_pt rfl Tryd.underlying24 rfl ti3 rfl rfl rfl) rfl)) ?_
            refine rg_put (d := 50) (v := .d (.fl (.int .i64 w.limit))) rfl (oy rfl rfl rfl h24 (op_load_pt rfl Tryd.underlying3 rfl rfl rfl rfl rfl)) ?_
            refine rg_put (d := 51) (v := .d (.fl (.bool ((decide (795364 ≤ w.limit)))))) rfl (oy rfl rfl rfl h24 (op_bin rfl rfl rfl (b_geq _ _ _ _) rfl)) ?_
            refine rg_put (d := 52) (v := .d (.fl (.bool ((decide (795364 ≤ w.limit)))))) rfl (og rfl (op_pick rfl rfl (by rw [h24]; rfl) rfl)) ?_
            refine rg_done rfl ?_
            refine a_cond rfl (fun h26 => ?_) (fun h26 => ?_)
            · skip
              have h27 := t_dec h26
              refine a_rseq ?_
              refine rg_put (d := 2) (v := .d (.fl (.int .i64 12))) rfl (og rfl (op_assign rfl rfl rfl)) ?_
              refine rg_done rfl ?_
              refine a_ret ?_
              show ∃ ds, ResL _ _ _ ds ∧ RV.of ds = _
              refine ⟨[.fl (.int .i64 12)], (.cons (.tmp rfl (.d _)) .nil), ?_⟩
              have ha1 : anyI (bad1 w.days) 4 = false := any_no (fun q h => hqk q (by omega))
              have ha2 : anyI (bad2 w.fees) 4 = false := any_no (fun q h => hqj q (by omega))
              have hu : ckL w = 12 := by
                unfold ckL; simp only [h1, h3, h6, h15, h24, h26, ha1, ha2]; rfl
              rw [hu]; rfl
            · skip
              have h28 := f_dec h26
              refine a_skip ?_
              show A _ _ _ _ _ _ _
              refine a_rseq ?_
              refine rg_put (d := 2) (v := .d (.fl (.int .i64 0))) rfl (og rfl (op_assign rfl rfl rfl)) ?_
              refine rg_done rfl ?_
              refine a_ret ?_
              show ∃ ds, ResL _ _ _ ds ∧ RV.of ds = _
              refine ⟨[.fl (.int .i64 0)], (.cons (.tmp rfl (.d _)) .nil), ?_⟩
              have ha1 : anyI (bad1 w.days) 4 = false := any_no (fun q h => hqk q (by omega))
              have ha2 : anyI (bad2 w.fees) 4 = false := any_no (fun q h => hqj q (by omega))
              have hu : ckL w = 0 := by
                unfold ckL; simp only [h1, h3, h6, h15, h24, h26, ha1, ha2]; rfl
              rw [hu]; rfl
          · skip
            have h29 := t_dec h24
            refine rg_put (d := 49) (v := .d (.fl undef)) rfl (on rfl rfl rfl h24) ?_
            refine rg_put (d := 50) (v := .d (.fl undef)) rfl (on rfl rfl rfl h24) ?_
            refine rg_put (d := 51) (v := .d (.fl undef)) rfl (on rfl rfl rfl h24) ?_
            refine rg_put (d := 52) (v := .d (.fl (.bool true))) rfl (og rfl (op_pick rfl rfl (by rw [h24]; rfl) rfl)) ?_
            refine rg_done rfl ?_
            refine a_condK rfl rfl ?_
            refine a_rseq ?_
            refine rg_put (d := 2) (v := .d (.fl (.int .i64 12))) rfl (og rfl (op_assign rfl rfl rfl)) ?_
            refine rg_done rfl ?_
            refine a_ret ?_
            show ∃ ds, ResL _ _ _ ds ∧ RV.of ds = _
            refine ⟨[.fl (.int .i64 12)], (.cons (.tmp rfl (.d _)) .nil), ?_⟩
            have ha1 : anyI (bad1 w.days) 4 = false := any_no (fun q h => hqk q (by omega))
            have ha2 : anyI (bad2 w.fees) 4 = false := any_no (fun q h => hqj q (by omega))
            have hu : ckL w = 12 := by
              unfold ckL; simp only [h1, h3, h6, h15, h24, ha1, ha2]; rfl
            rw [hu]; rfl
  · skip
    have h30 := t_bne h1
    refine rg_put (d := 12) (v := .d (.fl undef)) rfl (on rfl rfl rfl h1) ?_
    refine rg_put (d := 13) (v := .d (.fl undef)) rfl (on rfl rfl rfl h1) ?_
    refine rg_put (d := 14) (v := .d (.fl undef)) rfl (on rfl rfl rfl h1) ?_
    refine rg_put (d := 15) (v := .d (.fl undef)) rfl (on rfl rfl rfl h1) ?_
    refine rg_put (d := 16) (v := .d (.fl (.bool true))) rfl (og rfl (op_pick rfl rfl (by rw [h1]; rfl) rfl)) ?_
    refine rg_done rfl ?_
    refine a_condK rfl rfl ?_
    refine a_rseq ?_
    refine rg_put (d := 2) (v := .d (.fl (.int .i64 3))) rfl (og rfl (op_assign rfl rfl rfl)) ?_
    refine rg_done rfl ?_
    refine a_ret ?_
    show ∃ ds, ResL _ _ _ ds ∧ RV.of ds = _
    refine ⟨[.fl (.int .i64 3)], (.cons (.tmp rfl (.d _)) .nil), ?_⟩
    have hu : ckL w = 3 := by
      unfold ckL; simp only [h1]; rfl
    rw [hu]; rfl
set_option maxHeartbeats 4000000 in
set_option maxRecDepth 100000 in
theorem ck13 (w : Lw) : Ctr Tryd.prog 4 [.ag (eLw w)] (.d (.fl (.int .i64 (ckL w)))) := by
  refine ctr (n := 59) (rs := #[.tmp 2]) (L := [(0, .d (.ag (eLw w)))]) Tryd.func4 rfl rfl rfl rfl rfl (fun w0 U0 => ?_)
  refine a_rseq ?_
  refine rg_nam (d := 1) (v := .pt 101 0) (m := 101) (nw := [(101, .bx 24 (eLw w))]) rfl (og rfl (of_eff (op_box 101 rfl rfl rfl rfl) rfl)) rfl ?_
  refine rg_put (d := 2) (v := .d (.fl (.int .i64 0))) rfl (og rfl (op_assign rfl rfl rfl)) ?_
  refine rg_done rfl ?_
  refine a_seq ?_
  refine a_rseq ?_
  refine rg_put (d := 5) (v := .pt 101 0) rfl (og rfl (of_eff (s_field_pt rfl Tryd.underlying24 rfl ti22 rfl rfl rfl) rfl)) ?_
  refine rg_put (d := 6) (v := .d (.sl 1 (List.map (rI .i64) w.days))) rfl (og rfl (op_load_pt rfl Tryd.underlying22 rfl rfl rfl rfl rfl)) ?_
  refine rg_put (d := 7) (v := .d (.fl (.int .i64 (w.days.length : Int)))) rfl (og rfl (s_len rfl Tryd.underlying22 rfl rfl)) ?_
  refine rg_put (d := 8) (v := .d (.fl (.bool (((w.days.length : Int) != 4))))) rfl (og rfl (op_bin rfl rfl rfl (b_neq _ _ _ _) rfl)) ?_
  refine rg_put (d := 9) (v := .d (.fl (.bool (((w.days.length : Int) != 4))))) rfl (og rfl (op_move rfl rfl rfl)) ?_
  rcases fot (((w.days.length : Int) != 4)) with h1 | h1
  · skip
    have h2 := f_bne h1
    refine rg_put (d := 10) (v := .pt 101 1) rfl (oy rfl rfl rfl h1 (of_eff (s_field_pt rfl Tryd.underlying24 rfl ti22 rfl rfl rfl) rfl)) ?_
    refine rg_put (d := 11) (v := .d (.sl 1 (List.map (rI .i64) w.fees))) rfl (oy rfl rfl rfl h1 (op_load_pt rfl Tryd.underlying22 rfl rfl rfl rfl rfl)) ?_
    refine rg_put (d := 12) (v := .d (.fl (.int .i64 (w.fees.length : Int)))) rfl (oy rfl rfl rfl h1 (s_len rfl Tryd.underlying22 rfl rfl)) ?_
    refine rg_put (d := 13) (v := .d (.fl (.bool (((w.fees.length : Int) != 4))))) rfl (oy rfl rfl rfl h1 (op_bin rfl rfl rfl (b_neq _ _ _ _) rfl)) ?_
    refine rg_put (d := 14) (v := .d (.fl (.bool (((w.fees.length : Int) != 4))))) rfl (og rfl (op_pick rfl rfl (by rw [h1]; rfl) rfl)) ?_
    refine rg_done rfl ?_
    refine a_cond rfl (fun h3 => ?_) (fun h3 => ?_)
    · skip
      have h4 := t_bne h3
      refine a_rseq ?_
      refine rg_put (d := 2) (v := .d (.fl (.int .i64 3))) rfl (og rfl (op_assign rfl rfl rfl)) ?_
      refine rg_done rfl ?_
      refine a_ret ?_
      show ∃ ds, ResL _ _ _ ds ∧ RV.of ds = _
      refine ⟨[.fl (.int .i64 3)], (.cons (.tmp rfl (.d _)) .nil), ?_⟩
      have hu : ckL w = 3 := by
        unfold ckL; simp only [h1, h3]; rfl
      rw [hu]; rfl
    · skip
      have h5 := f_bne h3
      refine a_skip ?_
      show A _ _ _ _ _ _ _
      refine a_seq ?_
      refine a_rseq ?_
      have hd4 : w.days.length = 4 := by omega
      have hf4 : w.fees.length = 4 := by omega
      refine rg_put (d := 3) (v := .d (.fl (.int .i64 0))) rfl (og rfl (op_assign rfl rfl rfl)) ?_
      refine rg_done rfl ?_
      refine a_block ?_
      refine a_loop (ι := Nat) (fun k => SS [(0, .d (.ag (eLw w))), (1, .pt 101 0), (14, .d (.fl (.bool (((w.fees.length : Int) != 4))))), (3, .d (.fl (.int .i64 (k : Int))))] [(101, .bx 24 (eLw w))]) (fun k => k ≤ 4 ∧ ∀ q, q < k → bad1 w.days q = false) (fun k => 4 - k) 0 (⟨by omega, fun q h => by omega⟩) (imp_forget rfl ⟨rfl, rfl, rfl, (by first | rfl | exact ci (by omega) | exact ci (by simp) | exact cd (by simp) | simp), trivial⟩ ⟨rfl, trivial⟩) (fun k hok => ?_)
      obtain ⟨hkk, hqk⟩ := hok
      refine a_seq ?_
      refine a_rseq ?_
      refine rg_put (d := 15) (v := .d (.fl (.int .i64 (k : Int)))) rfl (og rfl (op_move rfl rfl rfl)) ?_
      refine rg_put (d := 16) (v := .d (.fl (.bool ((decide ((k : Int) < 4)))))) rfl (og rfl (op_bin rfl rfl rfl (b_lss _ _ _ _) rfl)) ?_
      refine rg_done rfl ?_
      refine a_cond rfl (fun h6 => ?_) (fun h6 => ?_)
      · skip
        have h7 := t_dec h6
        refine a_skip ?_
        show A _ _ _ _ _ _ _
        refine a_seq ?_
        refine a_block ?_
        refine a_rseq ?_
        refine rg_put (d := 19) (v := .pt 101 0) rfl (og rfl (of_eff (s_field_pt rfl Tryd.underlying24 rfl ti22 rfl rfl rfl) rfl)) ?_
        refine rg_put (d := 20) (v := .d (.sl 1 (List.map (rI .i64) w.days))) rfl (og rfl (op_load_pt rfl Tryd.underlying22 rfl rfl rfl rfl rfl)) ?_
        refine rg_put (d := 21) (v := .d (.fl (.int .i64 (k : Int)))) rfl (og rfl (op_move rfl rfl rfl)) ?_
        refine rg_put (d := 22) (v := .el ((rI .i64 (ix w.days k)))) rfl (og rfl (s_index rfl Tryd.underlying22 ti3 rfl rfl (by omega) (row_at (by omega)) rfl)) ?_
        refine rg_put (d := 23) (v := .d (.fl (.int .i64 (ix w.days k)))) rfl (og rfl (op_load_el rfl Tryd.underlying3 rfl rfl rfl rfl)) ?_
        refine rg_put (d := 24) (v := .d (.fl (.bool ((decide ((ix w.days k) < 1)))))) rfl (og rfl (op_bin rfl rfl rfl (b_lss _ _ _ _) rfl)) ?_
        refine rg_put (d := 25) (v := .d (.fl (.bool ((decide ((ix w.days k) < 1)))))) rfl (og rfl (op_move rfl rfl rfl)) ?_
        rcases fot ((decide ((ix w.days k) < 1))) with h8 | h8
        · skip
          have h9 := f_dec h8
          refine rg_put (d := 26) (v := .pt 101 0) rfl (oy rfl rfl rfl h8 (of_eff (s_field_pt rfl Tryd.underlying24 rfl ti22 rfl rfl rfl) rfl)) ?_
          refine rg_put (d := 27) (v := .d (.sl 1 (List.map (rI .i64) w.days))) rfl (oy rfl rfl rfl h8 (op_load_pt rfl Tryd.underlying22 rfl rfl rfl rfl rfl)) ?_
          refine rg_put (d := 28) (v := .d (.fl (.int .i64 (k : Int)))) rfl (oy rfl rfl rfl h8 (op_move rfl rfl rfl)) ?_
          refine rg_put (d := 29) (v := .el ((rI .i64 (ix w.days k)))) rfl (oy rfl rfl rfl h8 (s_index rfl Tryd.underlying22 ti3 rfl rfl (by omega) (row_at (by omega)) rfl)) ?_
          refine rg_put (d := 30) (v := .d (.fl (.int .i64 (ix w.days k)))) rfl (oy rfl rfl rfl h8 (op_load_el rfl Tryd.underlying3 rfl rfl rfl rfl)) ?_
          refine rg_put (d := 31) (v := .d (.fl (.bool ((decide (4096 < (ix w.days k))))))) rfl (oy rfl rfl rfl h8 (op_bin rfl rfl rfl (b_gtr _ _ _ _) rfl)) ?_
          refine rg_put (d := 32) (v := .d (.fl (.bool ((decide (4096 < (ix w.days k))))))) rfl (og rfl (op_pick rfl rfl (by rw [h8]; rfl) rfl)) ?_
          refine rg_done rfl ?_
          refine a_cond rfl (fun h10 => ?_) (fun h10 => ?_)
          · skip
            have h11 := t_dec h10
            refine a_rseq ?_
            refine rg_put (d := 2) (v := .d (.fl (.int .i64 1))) rfl (og rfl (op_assign rfl rfl rfl)) ?_
            refine rg_done rfl ?_
            refine a_ret ?_
            show ∃ ds, ResL _ _ _ ds ∧ RV.of ds = _
            refine ⟨[.fl (.int .i64 1)], (.cons (.tmp rfl (.d _)) .nil), ?_⟩
            have hbd : bad1 w.days k = true := by
              unfold bad1; simp only [h8, h10]; rfl
            have ha1 := any_yes (n := 4) (by omega) hbd
            have hu : ckL w = 1 := by
              unfold ckL; simp only [h1, h3, h6, h8, h10, ha1]; rfl
            rw [hu]; rfl
          · skip
            have h12 := f_dec h10
            refine a_skip ?_
            show A _ _ _ _ _ _ _
            refine a_region ?_
            refine rg_put (d := 17) (v := .d (.fl (.int .i64 (k : Int)))) rfl (og rfl (op_move rfl rfl rfl)) ?_
            refine rg_put (d := 18) (v := .d (.fl (.int .i64 (((k : Int) + 1))))) rfl (og rfl (op_bin rfl rfl rfl (fun x y w => b_add64 _ _ _ x y w (by omega)) rfl)) ?_
            refine rg_put (d := 3) (v := .d (.fl (.int .i64 (((k : Int) + 1))))) rfl (og rfl (op_assign rfl rfl rfl)) ?_
            refine rg_done rfl ?_
            have hbd : bad1 w.days k = false := by
              unfold bad1; simp only [h8, h10]; rfl
            show ∃ i, _ ∧ _ ∧ Imp _ _ _ _ _
            refine ⟨k + 1, ⟨by omega, fun q h => by
              rcases Nat.lt_succ_iff_lt_or_eq.1 h with h | h
              · exact hqk q h
              · subst h; exact hbd⟩, by omega, imp_forget rfl ⟨rfl, rfl, rfl, (by first | rfl | exact ci (by omega) | exact ci (by simp) | exact cd (by simp) | simp), trivial⟩ ⟨rfl, trivial⟩⟩
        · skip
          have h13 := t_dec h8
          refine rg_put (d := 26) (v := .d (.fl undef)) rfl (on rfl rfl rfl h8) ?_
          refine rg_put (d := 27) (v := .d (.fl undef)) rfl (on rfl rfl rfl h8) ?_
          refine rg_put (d := 28) (v := .d (.fl undef)) rfl (on rfl rfl rfl h8) ?_
          refine rg_put (d := 29) (v := .d (.fl undef)) rfl (on rfl rfl rfl h8) ?_
          refine rg_put (d := 30) (v := .d (.fl undef)) rfl (on rfl rfl rfl h8) ?_
          refine rg_put (d := 31) (v := .d (.fl undef)) rfl (on rfl rfl rfl h8) ?_
          refine rg_put (d := 32) (v := .d (.fl (.bool true))) rfl (og rfl (op_pick rfl rfl (by rw [h8]; rfl) rfl)) ?_
          refine rg_done rfl ?_
          refine a_condK rfl rfl ?_
          refine a_rseq ?_
          refine rg_put (d := 2) (v := .d (.fl (.int .i64 1))) rfl (og rfl (op_assign rfl rfl rfl)) ?_
          refine rg_done rfl ?_
          refine a_ret ?_
          show ∃ ds, ResL _ _ _ ds ∧ RV.of ds = _
          refine ⟨[.fl (.int .i64 1)], (.cons (.tmp rfl (.d _)) .nil), ?_⟩
          have hbd : bad1 w.days k = true := by
            unfold bad1; simp only [h8]; rfl
          have ha1 := any_yes (n := 4) (by omega) hbd
          have hu : ckL w = 1 := by
            unfold ckL; simp only [h1, h3, h6, h8, ha1]; rfl
          rw [hu]; rfl
      · skip
        have h14 := f_dec h6
        refine a_exit ?_
        show A _ _ _ _ _ _ _
        refine a_seq ?_
        refine a_rseq ?_
        refine rg_put (d := 4) (v := .d (.fl (.int .i64 0))) rfl (og rfl (op_assign rfl rfl rfl)) ?_
        refine rg_done rfl ?_
        refine a_block ?_
        refine a_loop (ι := Nat) (fun j => SS [(0, .d (.ag (eLw w))), (1, .pt 101 0), (3, .d (.fl (.int .i64 (k : Int)))), (14, .d (.fl (.bool (((w.fees.length : Int) != 4))))), (16, .d (.fl (.bool ((decide ((k : Int) < 4)))))), (4, .d (.fl (.int .i64 (j : Int))))] [(101, .bx 24 (eLw w))]) (fun j => j ≤ 4 ∧ ∀ q, q < j → bad2 w.fees q = false) (fun j => 4 - j) 0 (⟨by omega, fun q h => by omega⟩) (imp_forget rfl ⟨rfl, rfl, rfl, rfl, rfl, (by first | rfl | exact ci (by omega) | exact ci (by simp) | exact cd (by simp) | simp), trivial⟩ ⟨rfl, trivial⟩) (fun j hok => ?_)
        obtain ⟨hkj, hqj⟩ := hok
        refine a_seq ?_
        refine a_rseq ?_
        refine rg_put (d := 33) (v := .d (.fl (.int .i64 (j : Int)))) rfl (og rfl (op_move rfl rfl rfl)) ?_
        refine rg_put (d := 34) (v := .d (.fl (.bool ((decide ((j : Int) < 4)))))) rfl (og rfl (op_bin rfl rfl rfl (b_lss _ _ _ _) rfl)) ?_
        refine rg_done rfl ?_
        refine a_cond rfl (fun h15 => ?_) (fun h15 => ?_)
        · skip
          have h16 := t_dec h15
          refine a_skip ?_
          show A _ _ _ _ _ _ _
          refine a_seq ?_
          refine a_block ?_
          refine a_rseq ?_
          refine rg_put (d := 37) (v := .pt 101 1) rfl (og rfl (of_eff (s_field_pt rfl Tryd.underlying24 rfl ti22 rfl rfl rfl) rfl)) ?_
          refine rg_put (d := 38) (v := .d (.sl 1 (List.map (rI .i64) w.fees))) rfl (og rfl (op_load_pt rfl Tryd.underlying22 rfl rfl rfl rfl rfl)) ?_
          refine rg_put (d := 39) (v := .d (.fl (.int .i64 (j : Int)))) rfl (og rfl (op_move rfl rfl rfl)) ?_
          refine rg_put (d := 40) (v := .el ((rI .i64 (ix w.fees j)))) rfl (og rfl (s_index rfl Tryd.underlying22 ti3 rfl rfl (by omega) (row_at (by omega)) rfl)) ?_
          refine rg_put (d := 41) (v := .d (.fl (.int .i64 (ix w.fees j)))) rfl (og rfl (op_load_el rfl Tryd.underlying3 rfl rfl rfl rfl)) ?_
          refine rg_put (d := 42) (v := .d (.fl (.bool ((decide ((ix w.fees j) < 0)))))) rfl (og rfl (op_bin rfl rfl rfl (b_lss _ _ _ _) rfl)) ?_
          refine rg_put (d := 43) (v := .d (.fl (.bool ((decide ((ix w.fees j) < 0)))))) rfl (og rfl (op_move rfl rfl rfl)) ?_
          rcases fot ((decide ((ix w.fees j) < 0))) with h17 | h17
          · skip
            have h18 := f_dec h17
            refine rg_put (d := 44) (v := .pt 101 1) rfl (oy rfl rfl rfl h17 (of_eff (s_field_pt rfl Tryd.underlying24 rfl ti22 rfl rfl rfl) rfl)) ?_
            refine rg_put (d := 45) (v := .d (.sl 1 (List.map (rI .i64) w.fees))) rfl (oy rfl rfl rfl h17 (op_load_pt rfl Tryd.underlying22 rfl rfl rfl rfl rfl)) ?_
            refine rg_put (d := 46) (v := .d (.fl (.int .i64 (j : Int)))) rfl (oy rfl rfl rfl h17 (op_move rfl rfl rfl)) ?_
            refine rg_put (d := 47) (v := .el ((rI .i64 (ix w.fees j)))) rfl (oy rfl rfl rfl h17 (s_index rfl Tryd.underlying22 ti3 rfl rfl (by omega) (row_at (by omega)) rfl)) ?_
            refine rg_put (d := 48) (v := .d (.fl (.int .i64 (ix w.fees j)))) rfl (oy rfl rfl rfl h17 (op_load_el rfl Tryd.underlying3 rfl rfl rfl rfl)) ?_
            refine rg_put (d := 49) (v := .d (.fl (.bool ((decide (2147483648 < (ix w.fees j))))))) rfl (oy rfl rfl rfl h17 (op_bin rfl rfl rfl (b_gtr _ _ _ _) rfl)) ?_
            refine rg_put (d := 50) (v := .d (.fl (.bool ((decide (2147483648 < (ix w.fees j))))))) rfl (og rfl (op_pick rfl rfl (by rw [h17]; rfl) rfl)) ?_
            refine rg_done rfl ?_
            refine a_cond rfl (fun h19 => ?_) (fun h19 => ?_)
            · skip
              have h20 := t_dec h19
              refine a_rseq ?_
              refine rg_put (d := 2) (v := .d (.fl (.int .i64 13))) rfl (og rfl (op_assign rfl rfl rfl)) ?_
              refine rg_done rfl ?_
              refine a_ret ?_
              show ∃ ds, ResL _ _ _ ds ∧ RV.of ds = _
              refine ⟨[.fl (.int .i64 13)], (.cons (.tmp rfl (.d _)) .nil), ?_⟩
              have ha1 : anyI (bad1 w.days) 4 = false := any_no (fun q h => hqk q (by omega))
              have hbd : bad2 w.fees j = true := by
                unfold bad2; simp only [h17, h19]; rfl
              have ha2 := any_yes (n := 4) (by omega) hbd
              have hu : ckL w = 13 := by
                unfold ckL; simp only [h1, h3, h6, h15, h17, h19, ha1, ha2]; rfl
              rw [hu]; rfl
            · skip
              have h21 := f_dec h19
              refine a_skip ?_
              show A _ _ _ _ _ _ _
              refine a_region ?_
              refine rg_put (d := 35) (v := .d (.fl (.int .i64 (j : Int)))) rfl (og rfl (op_move rfl rfl rfl)) ?_
              refine rg_put (d := 36) (v := .d (.fl (.int .i64 (((j : Int) + 1))))) rfl (og rfl (op_bin rfl rfl rfl (fun x y w => b_add64 _ _ _ x y w (by omega)) rfl)) ?_
              refine rg_put (d := 4) (v := .d (.fl (.int .i64 (((j : Int) + 1))))) rfl (og rfl (op_assign rfl rfl rfl)) ?_
              refine rg_done rfl ?_
              have hbd : bad2 w.fees j = false := by
                unfold bad2; simp only [h17, h19]; rfl
              show ∃ i, _ ∧ _ ∧ Imp _ _ _ _ _
              refine ⟨j + 1, ⟨by omega, fun q h => by
                rcases Nat.lt_succ_iff_lt_or_eq.1 h with h | h
                · exact hqj q h
                · subst h; exact hbd⟩, by omega, imp_forget rfl ⟨rfl, rfl, rfl, rfl, rfl, (by first | rfl | exact ci (by omega) | exact ci (by simp) | exact cd (by simp) | simp), trivial⟩ ⟨rfl, trivial⟩⟩
          · skip
            have h22 := t_dec h17
            refine rg_put (d := 44) (v := .d (.fl undef)) rfl (on rfl rfl rfl h17) ?_
            refine rg_put (d := 45) (v := .d (.fl undef)) rfl (on rfl rfl rfl h17) ?_
            refine rg_put (d := 46) (v := .d (.fl undef)) rfl (on rfl rfl rfl h17) ?_
            refine rg_put (d := 47) (v := .d (.fl undef)) rfl (on rfl rfl rfl h17) ?_
            refine rg_put (d := 48) (v := .d (.fl undef)) rfl (on rfl rfl rfl h17) ?_
            refine rg_put (d := 49) (v := .d (.fl undef)) rfl (on rfl rfl rfl h17) ?_
            refine rg_put (d := 50) (v := .d (.fl (.bool true))) rfl (og rfl (op_pick rfl rfl (by rw [h17]; rfl) rfl)) ?_
            refine rg_done rfl ?_
            refine a_condK rfl rfl ?_
            refine a_rseq ?_
            refine rg_put (d := 2) (v := .d (.fl (.int .i64 13))) rfl (og rfl (op_assign rfl rfl rfl)) ?_
            refine rg_done rfl ?_
            refine a_ret ?_
            show ∃ ds, ResL _ _ _ ds ∧ RV.of ds = _
            refine ⟨[.fl (.int .i64 13)], (.cons (.tmp rfl (.d _)) .nil), ?_⟩
            have ha1 : anyI (bad1 w.days) 4 = false := any_no (fun q h => hqk q (by omega))
            have hbd : bad2 w.fees j = true := by
              unfold bad2; simp only [h17]; rfl
            have ha2 := any_yes (n := 4) (by omega) hbd
            have hu : ckL w = 13 := by
              unfold ckL; simp only [h1, h3, h6, h15, h17, ha1, ha2]; rfl
            rw [hu]; rfl
        · skip
          have h23 := f_dec h15
          refine a_exit ?_
          show A _ _ _ _ _ _ _
          refine a_seq ?_
          refine a_rseq ?_
          refine rg_put (d := 51) (v := .pt 101 2) rfl (og rfl (of_eff (s_field_pt rfl Tryd.underlying24 rfl ti3 rfl rfl rfl) rfl)) ?_
          refine rg_put (d := 52) (v := .d (.fl (.int .i64 w.limit))) rfl (og rfl (op_load_pt rfl Tryd.underlying3 rfl rfl rfl rfl rfl)) ?_
          refine rg_put (d := 53) (v := .d (.fl (.bool ((decide (w.limit < 1)))))) rfl (og rfl (op_bin rfl rfl rfl (b_lss _ _ _ _) rfl)) ?_
          refine rg_put (d := 54) (v := .d (.fl (.bool ((decide (w.limit < 1)))))) rfl (og rfl (op_move rfl rfl rfl)) ?_
          rcases fot ((decide (w.limit < 1))) with h24 | h24
          · skip
            have h25 := f_dec h24
            refine rg_put (d := 55) (v := .pt 101 2) rfl (oy rfl rfl rfl h24 (of_eff (s_field_pt rfl Tryd.underlying24 rfl ti3 rfl rfl rfl) rfl)) ?_
            refine rg_put (d := 56) (v := .d (.fl (.int .i64 w.limit))) rfl (oy rfl rfl rfl h24 (op_load_pt rfl Tryd.underlying3 rfl rfl rfl rfl rfl)) ?_
            refine rg_put (d := 57) (v := .d (.fl (.bool ((decide (795363 < w.limit)))))) rfl (oy rfl rfl rfl h24 (op_bin rfl rfl rfl (b_gtr _ _ _ _) rfl)) ?_
            refine rg_put (d := 58) (v := .d (.fl (.bool ((decide (795363 < w.limit)))))) rfl (og rfl (op_pick rfl rfl (by rw [h24]; rfl) rfl)) ?_
            refine rg_done rfl ?_
            refine a_cond rfl (fun h26 => ?_) (fun h26 => ?_)
            · skip
              have h27 := t_dec h26
              refine a_rseq ?_
              refine rg_put (d := 2) (v := .d (.fl (.int .i64 12))) rfl (og rfl (op_assign rfl rfl rfl)) ?_
              refine rg_done rfl ?_
              refine a_ret ?_
              show ∃ ds, ResL _ _ _ ds ∧ RV.of ds = _
              refine ⟨[.fl (.int .i64 12)], (.cons (.tmp rfl (.d _)) .nil), ?_⟩
              have hlm : decide (795364 ≤ w.limit) = true := decide_eq_true (by omega)
              have ha1 : anyI (bad1 w.days) 4 = false := any_no (fun q h => hqk q (by omega))
              have ha2 : anyI (bad2 w.fees) 4 = false := any_no (fun q h => hqj q (by omega))
              have hu : ckL w = 12 := by
                unfold ckL; simp only [h1, h3, h6, h15, h24, h26, hlm, ha1, ha2]; rfl
              rw [hu]; rfl
            · skip
              have h28 := f_dec h26
              refine a_skip ?_
              show A _ _ _ _ _ _ _
              refine a_rseq ?_
              refine rg_put (d := 2) (v := .d (.fl (.int .i64 0))) rfl (og rfl (op_assign rfl rfl rfl)) ?_
              refine rg_done rfl ?_
              refine a_ret ?_
              show ∃ ds, ResL _ _ _ ds ∧ RV.of ds = _
              refine ⟨[.fl (.int .i64 0)], (.cons (.tmp rfl (.d _)) .nil), ?_⟩
              have hlm : decide (795364 ≤ w.limit) = false := decide_eq_false (by omega)
              have ha1 : anyI (bad1 w.days) 4 = false := any_no (fun q h => hqk q (by omega))
              have ha2 : anyI (bad2 w.fees) 4 = false := any_no (fun q h => hqj q (by omega))
              have hu : ckL w = 0 := by
                unfold ckL; simp only [h1, h3, h6, h15, h24, h26, hlm, ha1, ha2]; rfl
              rw [hu]; rfl
          · skip
            have h29 := t_dec h24
            refine rg_put (d := 55) (v := .d (.fl undef)) rfl (on rfl rfl rfl h24) ?_
            refine rg_put (d := 56) (v := .d (.fl undef)) rfl (on rfl rfl rfl h24) ?_
            refine rg_put (d := 57) (v := .d (.fl undef)) rfl (on rfl rfl rfl h24) ?_
            refine rg_put (d := 58) (v := .d (.fl (.bool true))) rfl (og rfl (op_pick rfl rfl (by rw [h24]; rfl) rfl)) ?_
            refine rg_done rfl ?_
            refine a_condK rfl rfl ?_
            refine a_rseq ?_
            refine rg_put (d := 2) (v := .d (.fl (.int .i64 12))) rfl (og rfl (op_assign rfl rfl rfl)) ?_
            refine rg_done rfl ?_
            refine a_ret ?_
            show ∃ ds, ResL _ _ _ ds ∧ RV.of ds = _
            refine ⟨[.fl (.int .i64 12)], (.cons (.tmp rfl (.d _)) .nil), ?_⟩
            have ha1 : anyI (bad1 w.days) 4 = false := any_no (fun q h => hqk q (by omega))
            have ha2 : anyI (bad2 w.fees) 4 = false := any_no (fun q h => hqj q (by omega))
            have hu : ckL w = 12 := by
              unfold ckL; simp only [h1, h3, h6, h15, h24, ha1, ha2]; rfl
            rw [hu]; rfl
  · skip
    have h30 := t_bne h1
    refine rg_put (d := 10) (v := .d (.fl undef)) rfl (on rfl rfl rfl h1) ?_
    refine rg_put (d := 11) (v := .d (.fl undef)) rfl (on rfl rfl rfl h1) ?_
    refine rg_put (d := 12) (v := .d (.fl undef)) rfl (on rfl rfl rfl h1) ?_
    refine rg_put (d := 13) (v := .d (.fl undef)) rfl (on rfl rfl rfl h1) ?_
    refine rg_put (d := 14) (v := .d (.fl (.bool true))) rfl (og rfl (op_pick rfl rfl (by rw [h1]; rfl) rfl)) ?_
    refine rg_done rfl ?_
    refine a_condK rfl rfl ?_
    refine a_rseq ?_
    refine rg_put (d := 2) (v := .d (.fl (.int .i64 3))) rfl (og rfl (op_assign rfl rfl rfl)) ?_
    refine rg_done rfl ?_
    refine a_ret ?_
    show ∃ ds, ResL _ _ _ ds ∧ RV.of ds = _
    refine ⟨[.fl (.int .i64 3)], (.cons (.tmp rfl (.d _)) .nil), ?_⟩
    have hu : ckL w = 3 := by
      unfold ckL; simp only [h1]; rfl
    rw [hu]; rfl
end Go.Proofs.YtdafmaocbkmmgaaDoor.Wk
