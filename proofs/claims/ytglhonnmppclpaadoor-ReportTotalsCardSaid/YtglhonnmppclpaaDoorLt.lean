/- Laws, later days, due days, both sides. Conditions: lists of machine length. -/
import Derived.Test.YtglhonnmppclpaaDoorTy
set_option linter.unusedSimpArgs false
set_option linter.unusedVariables false
set_option linter.unusedSimpArgs false
set_option linter.unusedVariables false
namespace Go.Proofs.YtglhonnmppclpaaDoor.Lq
open Go Go.RowKit Go.Proofs.YtglhonnmppclpaaDoor.Av Go.Proofs.YtglhonnmppclpaaDoor.Wk
theorem nb {b : Bool} (h : ¬ b = true) : b = false := by cases b <;> simp at h ⊢
def isD (d : Int) : Bool := decide (0 ≤ d) && decide (d < 795364)
theorem isD_t {d : Int} (h : isD d = true) : 0 ≤ d ∧ d < 795364 := by simpa [isD] using h
theorem isD_f {d : Int} (h : isD d = false) : d < 0 ∨ 795364 ≤ d := by simp [isD] at h; omega
def opn (x : Cs) : Bool := decide (1 ≤ x.stage) && decide (x.stage ≤ 5)
def anyI (f : Nat → Bool) (n : Nat) : Bool := (List.range n).any f
theorem any_yes {f : Nat → Bool} {n k : Nat} (hk : k < n) (h : f k = true) : anyI f n = true := List.any_eq_true.2 ⟨k, by simpa using hk, h⟩
theorem any_no {f : Nat → Bool} {n : Nat} (h : ∀ q, q < n → f q = false) : anyI f n = false := by
  unfold anyI; rw [List.any_eq_false]; intro q hq; rw [h q (by simpa using hq)]; simp
theorem any_f {f : Nat → Bool} {n : Nat} (h : anyI f n = false) (q : Nat) (hq : q < n) : f q = false := by
  unfold anyI at h; rw [List.any_eq_false] at h
  have := h q (by simpa using hq)
  cases hx : f q with
  | false => rfl
  | true => exact absurd hx this
def bad1 (l : List Int) (k : Nat) : Bool := decide (ix l k < 1) || decide (4096 < ix l k)
def bad2 (l : List Int) (k : Nat) : Bool := decide (ix l k < 0) || decide (2147483648 < ix l k)
def ckL (w : Lw) : Int := if (((w.days.length : Int) != 4) || ((w.fees.length : Int) != 4)) = true then 3 else if anyI (bad1 w.days) 4 = true then 1 else if anyI (bad2 w.fees) 4 = true then 13 else if (decide (w.limit < 1) || decide (795364 ≤ w.limit)) = true then 12 else 0
theorem ckL_ok {w : Lw} (h : ckL w = 0) : w.days.length = 4 ∧ w.fees.length = 4 ∧ (∀ q, q < 4 → 1 ≤ ix w.days q ∧ ix w.days q ≤ 4096) ∧ (∀ q, q < 4 → 0 ≤ ix w.fees q ∧ ix w.fees q ≤ 2147483648) ∧ 1 ≤ w.limit ∧ w.limit < 795364 := by
  unfold ckL at h
  split at h
  · cases h
  · rename_i h1
    split at h
    · cases h
    · rename_i h2
      split at h
      · cases h
      · rename_i h3
        split at h
        · cases h
        · rename_i h4
          simp at h1 h4
          have h2 := nb h2
          have h3 := nb h3
          refine ⟨by omega, by omega, fun q hq => ?_, fun q hq => ?_, by omega, by omega⟩
          · have := any_f h2 q hq; simp [bad1] at this; omega
          · have := any_f h3 q hq; simp [bad2] at this; omega
set_option maxHeartbeats 4000000 in
set_option maxRecDepth 100000 in
theorem isD33 (d : Int) : Ctr Tryd.prog 36 [.fl (.int .i64 d)] (.d (.fl (.bool (isD d)))) := by
  refine ctr (n := 9) (rs := #[.tmp 2]) (L := [(0, .d (.fl (.int .i64 d)))]) Tryd.func36 rfl rfl rfl rfl rfl (fun w0 U0 => ?_)
  refine a_rseq ?_
  refine rg_put (d := 2) (v := .d (.fl (.bool false))) rfl (og rfl (op_assign rfl rfl rfl)) ?_
  refine rg_done rfl ?_
  refine a_rseq ?_
  refine rg_put (d := 3) (v := .d (.fl (.int .i64 d))) rfl (og rfl (op_move rfl rfl rfl)) ?_
  refine rg_put (d := 4) (v := .d (.fl (.bool ((decide (0 ≤ d)))))) rfl (og rfl (op_bin rfl rfl rfl (b_geq _ _ _ _) rfl)) ?_
  refine rg_put (d := 5) (v := .d (.fl (.bool ((decide (0 ≤ d)))))) rfl (og rfl (op_move rfl rfl rfl)) ?_
  rcases fot ((decide (0 ≤ d))) with h1 | h1
  · skip
    have h2 := f_dec h1
    refine rg_put (d := 6) (v := .d (.fl undef)) rfl (on rfl rfl rfl h1) ?_
    refine rg_put (d := 7) (v := .d (.fl undef)) rfl (on rfl rfl rfl h1) ?_
    refine rg_put (d := 8) (v := .d (.fl (.bool false))) rfl (og rfl (op_pick rfl rfl (by rw [h1]; rfl) rfl)) ?_
    refine rg_put (d := 2) (v := .d (.fl (.bool false))) rfl (og rfl (op_assign rfl rfl rfl)) ?_
    refine rg_done rfl ?_
    refine a_ret ?_
    show ∃ ds, ResL _ _ _ ds ∧ RV.of ds = _
    refine ⟨[.fl (.bool false)], (.cons (.tmp rfl (.d _)) .nil), ?_⟩
    have e : (false : Bool) = isD d := by
      unfold isD; rw [Bool.eq_iff_iff]; simp; omega
    exact congrArg (fun b => RV.d (.fl (.bool b))) e
  · skip
    have h3 := t_dec h1
    refine rg_put (d := 6) (v := .d (.fl (.int .i64 d))) rfl (oy rfl rfl rfl h1 (op_move rfl rfl rfl)) ?_
    refine rg_put (d := 7) (v := .d (.fl (.bool ((decide (d < 795364)))))) rfl (oy rfl rfl rfl h1 (op_bin rfl rfl rfl (b_lss _ _ _ _) rfl)) ?_
    refine rg_put (d := 8) (v := .d (.fl (.bool ((decide (d < 795364)))))) rfl (og rfl (op_pick rfl rfl (by rw [h1]; rfl) rfl)) ?_
    refine rg_put (d := 2) (v := .d (.fl (.bool ((decide (d < 795364)))))) rfl (og rfl (op_assign rfl rfl rfl)) ?_
    refine rg_done rfl ?_
    refine a_ret ?_
    show ∃ ds, ResL _ _ _ ds ∧ RV.of ds = _
    refine ⟨[.fl (.bool ((decide (d < 795364))))], (.cons (.tmp rfl (.d _)) .nil), ?_⟩
    have e : ((decide (d < 795364)) : Bool) = isD d := by
      unfold isD; rw [Bool.eq_iff_iff]; simp; omega
    exact congrArg (fun b => RV.d (.fl (.bool b))) e
set_option maxHeartbeats 4000000 in
set_option maxRecDepth 100000 in
theorem isD44 (d : Int) : Ctr Tryd.prog 68 [.fl (.int .i64 d)] (.d (.fl (.bool (isD d)))) := by
  refine ctr (n := 9) (rs := #[.tmp 2]) (L := [(0, .d (.fl (.int .i64 d)))]) Tryd.func68 rfl rfl rfl rfl rfl (fun w0 U0 => ?_)
  refine a_rseq ?_
  refine rg_put (d := 2) (v := .d (.fl (.bool false))) rfl (og rfl (op_assign rfl rfl rfl)) ?_
  refine rg_done rfl ?_
  refine a_rseq ?_
  refine rg_put (d := 3) (v := .d (.fl (.int .i64 d))) rfl (og rfl (op_move rfl rfl rfl)) ?_
  refine rg_put (d := 4) (v := .d (.fl (.bool ((decide (0 ≤ d)))))) rfl (og rfl (op_bin rfl rfl rfl (b_leq _ _ _ _) rfl)) ?_
  refine rg_put (d := 5) (v := .d (.fl (.bool ((decide (0 ≤ d)))))) rfl (og rfl (op_move rfl rfl rfl)) ?_
  rcases fot ((decide (0 ≤ d))) with h1 | h1
  · skip
    have h2 := f_dec h1
    refine rg_put (d := 6) (v := .d (.fl undef)) rfl (on rfl rfl rfl h1) ?_
    refine rg_put (d := 7) (v := .d (.fl undef)) rfl (on rfl rfl rfl h1) ?_
    refine rg_put (d := 8) (v := .d (.fl (.bool false))) rfl (og rfl (op_pick rfl rfl (by rw [h1]; rfl) rfl)) ?_
    refine rg_put (d := 2) (v := .d (.fl (.bool false))) rfl (og rfl (op_assign rfl rfl rfl)) ?_
    refine rg_done rfl ?_
    refine a_ret ?_
    show ∃ ds, ResL _ _ _ ds ∧ RV.of ds = _
    refine ⟨[.fl (.bool false)], (.cons (.tmp rfl (.d _)) .nil), ?_⟩
    have e : (false : Bool) = isD d := by
      unfold isD; rw [Bool.eq_iff_iff]; simp; omega
    exact congrArg (fun b => RV.d (.fl (.bool b))) e
  · skip
    have h3 := t_dec h1
    refine rg_put (d := 6) (v := .d (.fl (.int .i64 d))) rfl (oy rfl rfl rfl h1 (op_move rfl rfl rfl)) ?_
    refine rg_put (d := 7) (v := .d (.fl (.bool ((decide (d < 795364)))))) rfl (oy rfl rfl rfl h1 (op_bin rfl rfl rfl (b_lss _ _ _ _) rfl)) ?_
    refine rg_put (d := 8) (v := .d (.fl (.bool ((decide (d < 795364)))))) rfl (og rfl (op_pick rfl rfl (by rw [h1]; rfl) rfl)) ?_
    refine rg_put (d := 2) (v := .d (.fl (.bool ((decide (d < 795364)))))) rfl (og rfl (op_assign rfl rfl rfl)) ?_
    refine rg_done rfl ?_
    refine a_ret ?_
    show ∃ ds, ResL _ _ _ ds ∧ RV.of ds = _
    refine ⟨[.fl (.bool ((decide (d < 795364))))], (.cons (.tmp rfl (.d _)) .nil), ?_⟩
    have e : ((decide (d < 795364)) : Bool) = isD d := by
      unfold isD; rw [Bool.eq_iff_iff]; simp; omega
    exact congrArg (fun b => RV.d (.fl (.bool b))) e
set_option maxHeartbeats 4000000 in
set_option maxRecDepth 100000 in
theorem opn21 (x : Cs) : Ctr Tryd.prog 80 [.ag (eCs x)] (.d (.fl (.bool (opn x)))) := by
  refine ctr (n := 11) (rs := #[.tmp 2]) (L := [(0, .d (.ag (eCs x)))]) Tryd.func80 rfl rfl rfl rfl rfl (fun w0 U0 => ?_)
  refine a_rseq ?_
  refine rg_nam (d := 1) (v := .pt 101 0) (m := 101) (nw := [(101, .bx 102 (eCs x))]) rfl (og rfl (of_eff (op_box 101 rfl rfl rfl rfl) rfl)) rfl ?_
  refine rg_put (d := 2) (v := .d (.fl (.bool false))) rfl (og rfl (op_assign rfl rfl rfl)) ?_
  refine rg_done rfl ?_
  refine a_rseq ?_
  refine rg_put (d := 3) (v := .pt 101 5) rfl (og rfl (of_eff (s_field_pt rfl Tryd.underlying102 rfl ti3 rfl rfl rfl) rfl)) ?_
  refine rg_put (d := 4) (v := .d (.fl (.int .i64 x.stage))) rfl (og rfl (op_load_pt rfl Tryd.underlying3 rfl rfl rfl rfl rfl)) ?_
  refine rg_put (d := 5) (v := .d (.fl (.bool ((decide (1 ≤ x.stage)))))) rfl (og rfl (op_bin rfl rfl rfl (b_leq _ _ _ _) rfl)) ?_
  refine rg_put (d := 6) (v := .d (.fl (.bool ((decide (1 ≤ x.stage)))))) rfl (og rfl (op_move rfl rfl rfl)) ?_
  rcases fot ((decide (1 ≤ x.stage))) with h1 | h1
  · skip
    have h2 := f_dec h1
    refine rg_put (d := 7) (v := .d (.fl undef)) rfl (on rfl rfl rfl h1) ?_
    refine rg_put (d := 8) (v := .d (.fl undef)) rfl (on rfl rfl rfl h1) ?_
    refine rg_put (d := 9) (v := .d (.fl undef)) rfl (on rfl rfl rfl h1) ?_
    refine rg_put (d := 10) (v := .d (.fl (.bool false))) rfl (og rfl (op_pick rfl rfl (by rw [h1]; rfl) rfl)) ?_
    refine rg_put (d := 2) (v := .d (.fl (.bool false))) rfl (og rfl (op_assign rfl rfl rfl)) ?_
    refine rg_done rfl ?_
    refine a_ret ?_
    show ∃ ds, ResL _ _ _ ds ∧ RV.of ds = _
    refine ⟨[.fl (.bool false)], (.cons (.tmp rfl (.d _)) .nil), ?_⟩
    have e : (false : Bool) = opn x := by
      unfold opn; rw [Bool.eq_iff_iff]; simp; omega
    exact congrArg (fun b => RV.d (.fl (.bool b))) e
  · skip
    have h3 := t_dec h1
    refine rg_put (d := 7) (v := .pt 101 5) rfl (oy rfl rfl rfl h1 (of_eff (s_field_pt rfl Tryd.underlying102 rfl ti3 rfl rfl rfl) rfl)) ?_
    refine rg_put (d := 8) (v := .d (.fl (.int .i64 x.stage))) rfl (oy rfl rfl rfl h1 (op_load_pt rfl Tryd.underlying3 rfl rfl rfl rfl rfl)) ?_
    refine rg_put (d := 9) (v := .d (.fl (.bool ((decide (x.stage ≤ 5)))))) rfl (oy rfl rfl rfl h1 (op_bin rfl rfl rfl (b_leq _ _ _ _) rfl)) ?_
    refine rg_put (d := 10) (v := .d (.fl (.bool ((decide (x.stage ≤ 5)))))) rfl (og rfl (op_pick rfl rfl (by rw [h1]; rfl) rfl)) ?_
    refine rg_put (d := 2) (v := .d (.fl (.bool ((decide (x.stage ≤ 5)))))) rfl (og rfl (op_assign rfl rfl rfl)) ?_
    refine rg_done rfl ?_
    refine a_ret ?_
    show ∃ ds, ResL _ _ _ ds ∧ RV.of ds = _
    refine ⟨[.fl (.bool ((decide (x.stage ≤ 5))))], (.cons (.tmp rfl (.d _)) .nil), ?_⟩
    have e : ((decide (x.stage ≤ 5)) : Bool) = opn x := by
      unfold opn; rw [Bool.eq_iff_iff]; simp; omega
    exact congrArg (fun b => RV.d (.fl (.bool b))) e
set_option maxHeartbeats 4000000 in
set_option maxRecDepth 100000 in
theorem opn22 (x : Cs) : Ctr Tryd.prog 55 [.ag (eCs x)] (.d (.fl (.bool (opn x)))) := by
  refine ctr (n := 11) (rs := #[.tmp 2]) (L := [(0, .d (.ag (eCs x)))]) Tryd.func55 rfl rfl rfl rfl rfl (fun w0 U0 => ?_)
  refine a_rseq ?_
  refine rg_nam (d := 1) (v := .pt 101 0) (m := 101) (nw := [(101, .bx 102 (eCs x))]) rfl (og rfl (of_eff (op_box 101 rfl rfl rfl rfl) rfl)) rfl ?_
  refine rg_put (d := 2) (v := .d (.fl (.bool false))) rfl (og rfl (op_assign rfl rfl rfl)) ?_
  refine rg_done rfl ?_
  refine a_rseq ?_
  refine rg_put (d := 3) (v := .pt 101 5) rfl (og rfl (of_eff (s_field_pt rfl Tryd.underlying102 rfl ti3 rfl rfl rfl) rfl)) ?_
  refine rg_put (d := 4) (v := .d (.fl (.int .i64 x.stage))) rfl (og rfl (op_load_pt rfl Tryd.underlying3 rfl rfl rfl rfl rfl)) ?_
  refine rg_put (d := 5) (v := .d (.fl (.bool ((decide (1 ≤ x.stage)))))) rfl (og rfl (op_bin rfl rfl rfl (b_geq _ _ _ _) rfl)) ?_
  refine rg_put (d := 6) (v := .d (.fl (.bool ((decide (1 ≤ x.stage)))))) rfl (og rfl (op_move rfl rfl rfl)) ?_
  rcases fot ((decide (1 ≤ x.stage))) with h1 | h1
  · skip
    have h2 := f_dec h1
    refine rg_put (d := 7) (v := .d (.fl undef)) rfl (on rfl rfl rfl h1) ?_
    refine rg_put (d := 8) (v := .d (.fl undef)) rfl (on rfl rfl rfl h1) ?_
    refine rg_put (d := 9) (v := .d (.fl undef)) rfl (on rfl rfl rfl h1) ?_
    refine rg_put (d := 10) (v := .d (.fl (.bool false))) rfl (og rfl (op_pick rfl rfl (by rw [h1]; rfl) rfl)) ?_
    refine rg_put (d := 2) (v := .d (.fl (.bool false))) rfl (og rfl (op_assign rfl rfl rfl)) ?_
    refine rg_done rfl ?_
    refine a_ret ?_
    show ∃ ds, ResL _ _ _ ds ∧ RV.of ds = _
    refine ⟨[.fl (.bool false)], (.cons (.tmp rfl (.d _)) .nil), ?_⟩
    have e : (false : Bool) = opn x := by
      unfold opn; rw [Bool.eq_iff_iff]; simp; omega
    exact congrArg (fun b => RV.d (.fl (.bool b))) e
  · skip
    have h3 := t_dec h1
    refine rg_put (d := 7) (v := .pt 101 5) rfl (oy rfl rfl rfl h1 (of_eff (s_field_pt rfl Tryd.underlying102 rfl ti3 rfl rfl rfl) rfl)) ?_
    refine rg_put (d := 8) (v := .d (.fl (.int .i64 x.stage))) rfl (oy rfl rfl rfl h1 (op_load_pt rfl Tryd.underlying3 rfl rfl rfl rfl rfl)) ?_
    refine rg_put (d := 9) (v := .d (.fl (.bool ((decide (x.stage ≤ 5)))))) rfl (oy rfl rfl rfl h1 (op_bin rfl rfl rfl (b_leq _ _ _ _) rfl)) ?_
    refine rg_put (d := 10) (v := .d (.fl (.bool ((decide (x.stage ≤ 5)))))) rfl (og rfl (op_pick rfl rfl (by rw [h1]; rfl) rfl)) ?_
    refine rg_put (d := 2) (v := .d (.fl (.bool ((decide (x.stage ≤ 5)))))) rfl (og rfl (op_assign rfl rfl rfl)) ?_
    refine rg_done rfl ?_
    refine a_ret ?_
    show ∃ ds, ResL _ _ _ ds ∧ RV.of ds = _
    refine ⟨[.fl (.bool ((decide (x.stage ≤ 5))))], (.cons (.tmp rfl (.d _)) .nil), ?_⟩
    have e : ((decide (x.stage ≤ 5)) : Bool) = opn x := by
      unfold opn; rw [Bool.eq_iff_iff]; simp; omega
    exact congrArg (fun b => RV.d (.fl (.bool b))) e
set_option maxHeartbeats 4000000 in
set_option maxRecDepth 100000 in
theorem ck12 (w : Lw) : Ctr Tryd.prog 79 [.ag (eLw w)] (.d (.fl (.int .i64 (ckL w)))) := by
  refine ctr (n := 53) (rs := #[.tmp 2]) (L := [(0, .d (.ag (eLw w)))]) Tryd.func79 rfl rfl rfl rfl rfl (fun w0 U0 => ?_)
  refine a_rseq ?_
  refine rg_nam (d := 1) (v := .pt 101 0) (m := 101) (nw := [(101, .bx 49 (eLw w))]) rfl (og rfl (of_eff (op_box 101 rfl rfl rfl rfl) rfl)) rfl ?_
  refine rg_put (d := 2) (v := .d (.fl (.int .i64 0))) rfl (og rfl (op_assign rfl rfl rfl)) ?_
  refine rg_done rfl ?_
  refine a_seq ?_
  refine a_rseq ?_
  refine rg_put (d := 7) (v := .pt 101 0) rfl (og rfl (of_eff (s_field_pt rfl Tryd.underlying49 rfl ti39 rfl rfl rfl) rfl)) ?_
  refine rg_put (d := 8) (v := .d (.sl 1 (List.map (rI .i64) w.days))) rfl (og rfl (op_load_pt rfl Tryd.underlying39 rfl rfl rfl rfl rfl)) ?_
  refine rg_put (d := 9) (v := .d (.fl (.int .i64 (w.days.length : Int)))) rfl (og rfl (s_len rfl Tryd.underlying39 rfl rfl)) ?_
  refine rg_put (d := 10) (v := .d (.fl (.bool (((w.days.length : Int) != 4))))) rfl (og rfl (op_bin rfl rfl rfl (b_neq _ _ _ _) rfl)) ?_
  refine rg_put (d := 11) (v := .d (.fl (.bool (((w.days.length : Int) != 4))))) rfl (og rfl (op_move rfl rfl rfl)) ?_
  rcases fot (((w.days.length : Int) != 4)) with h1 | h1
  · skip
    have h2 := f_bne h1
    refine rg_put (d := 12) (v := .pt 101 1) rfl (oy rfl rfl rfl h1 (of_eff (s_field_pt rfl Tryd.underlying49 rfl ti39 rfl rfl rfl) rfl)) ?_
    refine rg_put (d := 13) (v := .d (.sl 1 (List.map (rI .i64) w.fees))) rfl (oy rfl rfl rfl h1 (op_load_pt rfl Tryd.underlying39 rfl rfl rfl rfl rfl)) ?_
    refine rg_put (d := 14) (v := .d (.fl (.int .i64 (w.fees.length : Int)))) rfl (oy rfl rfl rfl h1 (s_len rfl Tryd.underlying39 rfl rfl)) ?_
    refine rg_put (d := 15) (v := .d (.fl (.bool (((w.fees.length : Int) != 4))))) rfl (oy rfl rfl rfl h1 (op_bin rfl rfl rfl (b_neq _ _ _ _) rfl)) ?_
    refine rg_put (d := 16) (v := .d (.fl (.bool (((w.fees.length : Int) != 4))))) rfl (og rfl (op_pick rfl rfl (by rw [h1]; rfl) rfl)) ?_
    refine rg_done rfl ?_
    refine a_cond rfl (fun h3 => ?_) (fun h3 => ?_)
    · skip
      have h4 := t_bne h3
      refine a_rseq ?_
      refine rg_put (d := 2) (v := .d (.fl (.int .i64 3))) rfl (og rfl (op_assign rfl rfl rfl)) ?_
      refine rg_done rfl ?_
      refine a_ret ?_
      show ∃ ds, ResL _ _ _ ds ∧ RV.of ds = _
      refine ⟨[.fl (.int .i64 3)], (.cons (.tmp rfl (.d _)) .nil), ?_⟩
      have hu : ckL w = 3 := by
        unfold ckL; simp only [h1, h3]; rfl
      rw [hu]; rfl
    · skip
      have h5 := f_bne h3
      refine a_skip ?_
      show A _ _ _ _ _ _ _
      refine a_seq ?_
      refine a_rseq ?_
      have hd4 : w.days.length = 4 := by omega
      have hf4 : w.fees.length = 4 := by omega
      refine rg_put (d := 17) (v := .pt 101 0) rfl (og rfl (of_eff (s_field_pt rfl Tryd.underlying49 rfl ti39 rfl rfl rfl) rfl)) ?_
      refine rg_put (d := 18) (v := .d (.sl 1 (List.map (rI .i64) w.days))) rfl (og rfl (op_load_pt rfl Tryd.underlying39 rfl rfl rfl rfl rfl)) ?_
      refine rg_put (d := 19) (v := .d (.fl (.int .i64 (w.days.length : Int)))) rfl (og rfl (s_len rfl Tryd.underlying39 rfl rfl)) ?_
      refine rg_put (d := 20) (v := .d (.fl (.int .i64 0))) rfl (og rfl (op_move rfl rfl rfl)) ?_
      refine rg_done rfl ?_
      refine a_block ?_
      refine a_loop (ι := Nat) (fun k => SS [(0, .d (.ag (eLw w))), (1, .pt 101 0), (16, .d (.fl (.bool (((w.fees.length : Int) != 4))))), (18, .d (.sl 1 (List.map (rI .i64) w.days))), (19, .d (.fl (.int .i64 (w.days.length : Int)))), (20, .d (.fl (.int .i64 (k : Int))))] [(101, .bx 49 (eLw w))]) (fun k => k ≤ w.days.length ∧ ∀ q, q < k → bad1 w.days q = false) (fun k => w.days.length - k) 0 (⟨by omega, fun q h => by omega⟩) (imp_forget rfl ⟨rfl, rfl, rfl, rfl, rfl, (by first | rfl | exact ci (by omega) | exact ci (by simp) | exact cd (by simp) | simp), trivial⟩ ⟨rfl, trivial⟩) (fun k hok => ?_)
      obtain ⟨hkk, hqk⟩ := hok
      refine a_rseq ?_
      refine rg_put (d := 21) (v := .d (.fl (.bool ((decide ((k : Int) < (w.days.length : Int))))))) rfl (og rfl (op_bin rfl rfl rfl (b_lss _ _ _ _) rfl)) ?_
      refine rg_done rfl ?_
      refine a_seq ?_
      refine a_cond rfl (fun h6 => ?_) (fun h6 => ?_)
      · skip
        have h7 := t_dec h6
        refine a_skip ?_
        show A _ _ _ _ _ _ _
        refine a_seq ?_
        refine a_block ?_
        refine a_rseq ?_
        refine rg_put (d := 22) (v := .el ((rI .i64 (ix w.days k)))) rfl (og rfl (s_index rfl Tryd.underlying39 ti3 rfl rfl (by omega) (row_at (by omega)) rfl)) ?_
        refine rg_put (d := 23) (v := .d (.fl (.int .i64 (ix w.days k)))) rfl (og rfl (op_load_el rfl Tryd.underlying3 rfl rfl rfl rfl)) ?_
        refine rg_put (d := 4) (v := .d (.fl (.int .i64 (ix w.days k)))) rfl (og rfl (op_assign rfl rfl rfl)) ?_
        refine rg_done rfl ?_
        refine a_rseq ?_
        refine rg_put (d := 24) (v := .d (.fl (.int .i64 (ix w.days k)))) rfl (og rfl (op_move rfl rfl rfl)) ?_
        refine rg_put (d := 25) (v := .d (.fl (.bool ((decide ((ix w.days k) < 1)))))) rfl (og rfl (op_bin rfl rfl rfl (b_lss _ _ _ _) rfl)) ?_
        refine rg_put (d := 26) (v := .d (.fl (.bool ((decide ((ix w.days k) < 1)))))) rfl (og rfl (op_move rfl rfl rfl)) ?_
        rcases fot ((decide ((ix w.days k) < 1))) with h8 | h8
        · skip
          have h9 := f_dec h8
          refine rg_put (d := 27) (v := .d (.fl (.int .i64 (ix w.days k)))) rfl (oy rfl rfl rfl h8 (op_move rfl rfl rfl)) ?_
          refine rg_put (d := 28) (v := .d (.fl (.bool ((decide (4096 < (ix w.days k))))))) rfl (oy rfl rfl rfl h8 (op_bin rfl rfl rfl (b_gtr _ _ _ _) rfl)) ?_
          refine rg_put (d := 29) (v := .d (.fl (.bool ((decide (4096 < (ix w.days k))))))) rfl (og rfl (op_pick rfl rfl (by rw [h8]; rfl) rfl)) ?_
          refine rg_done rfl ?_
          refine a_cond rfl (fun h10 => ?_) (fun h10 => ?_)
          · skip
            have h11 := t_dec h10
            refine a_rseq ?_
            refine rg_put (d := 2) (v := .d (.fl (.int .i64 1))) rfl (og rfl (op_assign rfl rfl rfl)) ?_
            refine rg_done rfl ?_
            refine a_ret ?_
            show ∃ ds, ResL _ _ _ ds ∧ RV.of ds = _
            refine ⟨[.fl (.int .i64 1)], (.cons (.tmp rfl (.d _)) .nil), ?_⟩
            have hbd : bad1 w.days k = true := by
              unfold bad1; simp only [h8, h10]; rfl
            have ha1 := any_yes (n := 4) (by omega) hbd
            have hu : ckL w = 1 := by
              unfold ckL; simp only [h1, h3, h6, h8, h10, ha1]; rfl
            rw [hu]; rfl
          · skip
            have h12 := f_dec h10
            refine a_skip ?_
            show A _ _ _ _ _ _ _
            refine a_region ?_
            refine rg_put (d := 30) (v := .d (.fl (.int .i64 (((k : Int) + 1))))) rfl (og rfl (op_bin rfl rfl rfl (fun x y w => b_add64 _ _ _ x y w (by omega)) rfl)) ?_
            refine rg_put (d := 20) (v := .d (.fl (.int .i64 (((k : Int) + 1))))) rfl (og rfl (op_move rfl rfl rfl)) ?_
            refine rg_done rfl ?_
            have hbd : bad1 w.days k = false := by
              unfold bad1; simp only [h8, h10]; rfl
            show ∃ i, _ ∧ _ ∧ Imp _ _ _ _ _
            refine ⟨k + 1, ⟨by omega, fun q h => by
              rcases Nat.lt_succ_iff_lt_or_eq.1 h with h | h
              · exact hqk q h
              · subst h; exact hbd⟩, by omega, imp_forget rfl ⟨rfl, rfl, rfl, rfl, rfl, (by first | rfl | exact ci (by omega) | exact ci (by simp) | exact cd (by simp) | simp), trivial⟩ ⟨rfl, trivial⟩⟩
        · skip
          have h13 := t_dec h8
          refine rg_put (d := 27) (v := .d (.fl undef)) rfl (on rfl rfl rfl h8) ?_
          refine rg_put (d := 28) (v := .d (.fl undef)) rfl (on rfl rfl rfl h8) ?_
          refine rg_put (d := 29) (v := .d (.fl (.bool true))) rfl (og rfl (op_pick rfl rfl (by rw [h8]; rfl) rfl)) ?_
          refine rg_done rfl ?_
          refine a_condK rfl rfl ?_
          refine a_rseq ?_
          refine rg_put (d := 2) (v := .d (.fl (.int .i64 1))) rfl (og rfl (op_assign rfl rfl rfl)) ?_
          refine rg_done rfl ?_
          refine a_ret ?_
          show ∃ ds, ResL _ _ _ ds ∧ RV.of ds = _
          refine ⟨[.fl (.int .i64 1)], (.cons (.tmp rfl (.d _)) .nil), ?_⟩
          have hbd : bad1 w.days k = true := by
            unfold bad1; simp only [h8]; rfl
          have ha1 := any_yes (n := 4) (by omega) hbd
          have hu : ckL w = 1 := by
            unfold ckL; simp only [h1, h3, h6, h8, ha1]; rfl
          rw [hu]; rfl
      · skip
        have h14 := f_dec h6
        refine a_exit ?_
        show A _ _ _ _ _ _ _
        refine a_seq ?_
        refine a_rseq ?_
        refine rg_put (d := 31) (v := .pt 101 1) rfl (og rfl (of_eff (s_field_pt rfl Tryd.underlying49 rfl ti39 rfl rfl rfl) rfl)) ?_
        refine rg_put (d := 32) (v := .d (.sl 1 (List.map (rI .i64) w.fees))) rfl (og rfl (op_load_pt rfl Tryd.underlying39 rfl rfl rfl rfl rfl)) ?_
        refine rg_put (d := 33) (v := .d (.fl (.int .i64 (w.fees.length : Int)))) rfl (og rfl (s_len rfl Tryd.underlying39 rfl rfl)) ?_
        refine rg_put (d := 34) (v := .d (.fl (.int .i64 0))) rfl (og rfl (op_move rfl rfl rfl)) ?_
        refine rg_done rfl ?_
        refine a_block ?_
        refine a_loop (ι := Nat) (fun j => SS [(0, .d (.ag (eLw w))), (1, .pt 101 0), (16, .d (.fl (.bool (((w.fees.length : Int) != 4))))), (18, .d (.sl 1 (List.map (rI .i64) w.days))), (19, .d (.fl (.int .i64 (w.days.length : Int)))), (20, .d (.fl (.int .i64 (k : Int)))), (21, .d (.fl (.bool ((decide ((k : Int) < (w.days.length : Int))))))), (32, .d (.sl 1 (List.map (rI .i64) w.fees))), (33, .d (.fl (.int .i64 (w.fees.length : Int)))), (34, .d (.fl (.int .i64 (j : Int))))] [(101, .bx 49 (eLw w))]) (fun j => j ≤ w.fees.length ∧ ∀ q, q < j → bad2 w.fees q = false) (fun j => w.fees.length - j) 0 (⟨by omega, fun q h => by omega⟩) (imp_forget rfl ⟨rfl, rfl, rfl, rfl, rfl, rfl, rfl, rfl, rfl, (by first | rfl | exact ci (by omega) | exact ci (by simp) | exact cd (by simp) | simp), trivial⟩ ⟨rfl, trivial⟩) (fun j hok => ?_)
        obtain ⟨hkj, hqj⟩ := hok
        refine a_rseq ?_
        refine rg_put (d := 35) (v := .d (.fl (.bool ((decide ((j : Int) < (w.fees.length : Int))))))) rfl (og rfl (op_bin rfl rfl rfl (b_lss _ _ _ _) rfl)) ?_
        refine rg_done rfl ?_
        refine a_seq ?_
        refine a_cond rfl (fun h15 => ?_) (fun h15 => ?_)
        · skip
          have h16 := t_dec h15
          refine a_skip ?_
          show A _ _ _ _ _ _ _
          refine a_seq ?_
          refine a_block ?_
          refine a_rseq ?_
          refine rg_put (d := 36) (v := .el ((rI .i64 (ix w.fees j)))) rfl (og rfl (s_index rfl Tryd.underlying39 ti3 rfl rfl (by omega) (row_at (by omega)) rfl)) ?_
          refine rg_put (d := 37) (v := .d (.fl (.int .i64 (ix w.fees j)))) rfl (og rfl (op_load_el rfl Tryd.underlying3 rfl rfl rfl rfl)) ?_
          refine rg_put (d := 6) (v := .d (.fl (.int .i64 (ix w.fees j)))) rfl (og rfl (op_assign rfl rfl rfl)) ?_
          refine rg_done rfl ?_
          refine a_rseq ?_
          refine rg_put (d := 38) (v := .d (.fl (.int .i64 (ix w.fees j)))) rfl (og rfl (op_move rfl rfl rfl)) ?_
          refine rg_put (d := 39) (v := .d (.fl (.bool ((decide ((ix w.fees j) < 0)))))) rfl (og rfl (op_bin rfl rfl rfl (b_lss _ _ _ _) rfl)) ?_
          refine rg_put (d := 40) (v := .d (.fl (.bool ((decide ((ix w.fees j) < 0)))))) rfl (og rfl (op_move rfl rfl rfl)) ?_
          rcases fot ((decide ((ix w.fees j) < 0))) with h17 | h17
          · skip
            have h18 := f_dec h17
            refine rg_put (d := 41) (v := .d (.fl (.int .i64 (ix w.fees j)))) rfl (oy rfl rfl rfl h17 (op_move rfl rfl rfl)) ?_
            refine rg_put (d := 42) (v := .d (.fl (.bool ((decide (2147483648 < (ix w.fees j))))))) rfl (oy rfl rfl rfl h17 (op_bin rfl rfl rfl (b_gtr _ _ _ _) rfl)) ?_
            refine rg_put (d := 43) (v := .d (.fl (.bool ((decide (2147483648 < (ix w.fees j))))))) rfl (og rfl (op_pick rfl rfl (by rw [h17]; rfl) rfl)) ?_
            refine rg_done rfl ?_
            refine a_cond rfl (fun h19 => ?_) (fun h19 => ?_)
            · skip
              have h20 := t_dec h19
              refine a_rseq ?_
              refine rg_put (d := 2) (v := .d (.fl (.int .i64 13))) rfl (og rfl (op_assign rfl rfl rfl)) ?_
              refine rg_done rfl ?_
              refine a_ret ?_
              show ∃ ds, ResL _ _ _ ds ∧ RV.of ds = _
              refine ⟨[.fl (.int .i64 13)], (.cons (.tmp rfl (.d _)) .nil), ?_⟩
              have ha1 : anyI (bad1 w.days) 4 = false := any_no (fun q h => hqk q (by omega))
              have hbd : bad2 w.fees j = true := by
                unfold bad2; simp only [h17, h19]; rfl
              have ha2 := any_yes (n := 4) (by omega) hbd
              have hu : ckL w = 13 := by
                unfold ckL; simp only [h1, h3, h6, h15, h17, h19, ha1, ha2]; rfl
              rw [hu]; rfl
            · skip
              have h21 := f_dec h19
              refine a_skip ?_
              show A _ _ _ _ _ _ _
              refine a_region ?_
              refine rg_put (d := 44) (v := .d (.fl (.int .i64 (((j : Int) + 1))))) rfl (og rfl (op_bin rfl rfl rfl (fun x y w => b_add64 _ _ _ x y w (by omega)) rfl)) ?_
              refine rg_put (d := 34) (v := .d (.fl (.int .i64 (((j : Int) + 1))))) rfl (og rfl (op_move rfl rfl rfl)) ?_
              refine rg_done rfl ?_
              have hbd : bad2 w.fees j = false := by
                unfold bad2; simp only [h17, h19]; rfl
              show ∃ i, _ ∧ _ ∧ Imp _ _ _ _ _
              refine ⟨j + 1, ⟨by omega, fun q h => by
                rcases Nat.lt_succ_iff_lt_or_eq.1 h with h | h
                · exact hqj q h
                · subst h; exact hbd⟩, by omega, imp_forget rfl ⟨rfl, rfl, rfl, rfl, rfl, rfl, rfl, rfl, rfl, (by first | rfl | exact ci (by omega) | exact ci (by simp) | exact cd (by simp) | simp), trivial⟩ ⟨rfl, trivial⟩⟩
          · skip
            have h22 := t_dec h17
            refine rg_put (d := 41) (v := .d (.fl undef)) rfl (on rfl rfl rfl h17) ?_
            refine rg_put (d := 42) (v := .d (.fl undef)) rfl (on rfl rfl rfl h17) ?_
            refine rg_put (d := 43) (v := .d (.fl (.bool true))) rfl (og rfl (op_pick rfl rfl (by rw [h17]; rfl) rfl)) ?_
            refine rg_done rfl ?_
            refine a_condK rfl rfl ?_
            refine a_rseq ?_
            refine rg_put (d := 2) (v := .d (.fl (.int .i64 13))) rfl (og rfl (op_assign rfl rfl rfl)) ?_
            refine rg_done rfl ?_
            refine a_ret ?_
            show ∃ ds, ResL _ _ _ ds ∧ RV.of ds = _
            refine ⟨[.fl (.int .i64 13)], (.cons (.tmp rfl (.d _)) .nil), ?_⟩
            have ha1 : anyI (bad1 w.days) 4 = false := any_no (fun q h => hqk q (by omega))
            have hbd : bad2 w.fees j = true := by
              unfold bad2; simp only [h17]; rfl
            have ha2 := any_yes (n := 4) (by omega) hbd
            have hu : ckL w = 13 := by
              unfold ckL; simp only [h1, h3, h6, h15, h17, ha1, ha2]; rfl
            rw [hu]; rfl
        · skip
          have h23 := f_dec h15
          refine a_exit ?_
          show A _ _ _ _ _ _ _
          refine a_seq ?_
          refine a_rseq ?_
          refine rg_put (d := 45) (v := .pt 101 2) rfl (og rfl (of_eff (s_field_pt rfl Tryd.underlying49 rfl ti3 rfl rfl rfl) rfl)) ?_
          refine rg_put (d := 46) (v := .d (.fl (.int .i64 w.limit))) rfl (og rfl (op_load_pt rfl Tryd.underlying3 rfl rfl rfl rfl rfl)) ?_
          refine rg_put (d := 47) (v := .d (.fl (.bool ((decide (w.limit < 1)))))) rfl (og rfl (op_bin rfl rfl rfl (b_lss _ _ _ _) rfl)) ?_
          refine rg_put (d := 48) (v := .d (.fl (.bool ((decide (w.limit < 1)))))) rfl (og rfl (op_move rfl rfl rfl)) ?_
          rcases fot ((decide (w.limit < 1))) with h24 | h24
          · skip
            have h25 := f_dec h24
            refine rg_put (d := 49) (v := .pt 101 2) rfl (oy rfl rfl rfl h24 (of_eff (s_field_pt rfl Tryd.underlying49 rfl ti3 rfl rfl rfl) rfl)) ?_
            refine rg_put (d := 50) (v := .d (.fl (.int .i64 w.limit))) rfl (oy rfl rfl rfl h24 (op_load_pt rfl Tryd.underlying3 rfl rfl rfl rfl rfl)) ?_
            refine rg_put (d := 51) (v := .d (.fl (.bool ((decide (795364 ≤ w.limit)))))) rfl (oy rfl rfl rfl h24 (op_bin rfl rfl rfl (b_geq _ _ _ _) rfl)) ?_
            refine rg_put (d := 52) (v := .d (.fl (.bool ((decide (795364 ≤ w.limit)))))) rfl (og rfl (op_pick rfl rfl (by rw [h24]; rfl) rfl)) ?_
            refine rg_done rfl ?_
            refine a_cond rfl (fun h26 => ?_) (fun h26 => ?_)
            · skip
              have h27 := t_dec h26
              refine a_rseq ?_
              refine rg_put (d := 2) (v := .d (.fl (.int .i64 12))) rfl (og rfl (op_assign rfl rfl rfl)) ?_
              refine rg_done rfl ?_
              refine a_ret ?_
              show ∃ ds, ResL _ _ _ ds ∧ RV.of ds = _
              refine ⟨[.fl (.int .i64 12)], (.cons (.tmp rfl (.d _)) .nil), ?_⟩
              have ha1 : anyI (bad1 w.days) 4 = false := any_no (fun q h => hqk q (by omega))
              have ha2 : anyI (bad2 w.fees) 4 = false := any_no (fun q h => hqj q (by omega))
              have hu : ckL w = 12 := by
                unfold ckL; simp only [h1, h3, h6, h15, h24, h26, ha1, ha2]; rfl
              rw [hu]; rfl
            · skip
              have h28 := f_dec h26
              refine a_skip ?_
              show A _ _ _ _ _ _ _
              refine a_rseq ?_
              refine rg_put (d := 2) (v := .d (.fl (.int .i64 0))) rfl (og rfl (op_assign rfl rfl rfl)) ?_
              refine rg_done rfl ?_
              refine a_ret ?_
              show ∃ ds, ResL _ _ _ ds ∧ RV.of ds = _
              refine ⟨[.fl (.int .i64 0)], (.cons (.tmp rfl (.d _)) .nil), ?_⟩
              have ha1 : anyI (bad1 w.days) 4 = false := any_no (fun q h => hqk q (by omega))
              have ha2 : anyI (bad2 w.fees) 4 = false := any_no (fun q h => hqj q (by omega))
              have hu : ckL w = 0 := by
                unfold ckL; simp only [h1, h3, h6, h15, h24, h26, ha1, ha2]; rfl
              rw [hu]; rfl
          · skip
            have h29 := t_dec h24
            refine rg_put (d := 49) (v := .d (.fl undef)) rfl (on rfl rfl rfl h24) ?_
            refine rg_put (d := 50) (v := .d (.fl undef)) rfl (on rfl rfl rfl h24) ?_
            refine rg_put (d := 51) (v := .d (.fl undef)) rfl (on rfl rfl rfl h24) ?_
            refine rg_put (d := 52) (v := .d (.fl (.bool true))) rfl (og rfl (op_pick rfl rfl (by rw [h24]; rfl) rfl)) ?_
            refine rg_done rfl ?_
            refine a_condK rfl rfl ?_
            refine a_rseq ?_
            refine rg_put (d := 2) (v := .d (.fl (.int .i64 12))) rfl (og rfl (op_assign rfl rfl rfl)) ?_
            refine rg_done rfl ?_
            refine a_ret ?_
            show ∃ ds, ResL _ _ _ ds ∧ RV.of ds = _
            refine ⟨[.fl (.int .i64 12)], (.cons (.tmp rfl (.d _)) .nil), ?_⟩
            have ha1 : anyI (bad1 w.days) 4 = false := any_no (fun q h => hqk q (by omega))
            have ha2 : anyI (bad2 w.fees) 4 = false := any_no (fun q h => hqj q (by omega))
            have hu : ckL w = 12 := by
              unfold ckL; simp only [h1, h3, h6, h15, h24, ha1, ha2]; rfl
            rw [hu]; rfl
  · skip
    have h30 := t_bne h1
    refine rg_put (d := 12) (v := .d (.fl undef)) rfl (on rfl rfl rfl h1) ?_
    refine rg_put (d := 13) (v := .d (.fl undef)) rfl (on rfl rfl rfl h1) ?_
    refine rg_put (d := 14) (v := .d (.fl undef)) rfl (on rfl rfl rfl h1) ?_
    refine rg_put (d := 15) (v := .d (.fl undef)) rfl (on rfl rfl rfl h1) ?_
    refine rg_put (d := 16) (v := .d (.fl (.bool true))) rfl (og rfl (op_pick rfl rfl (by rw [h1]; rfl) rfl)) ?_
    refine rg_done rfl ?_
    refine a_condK rfl rfl ?_
    refine a_rseq ?_
    refine rg_put (d := 2) (v := .d (.fl (.int .i64 3))) rfl (og rfl (op_assign rfl rfl rfl)) ?_
    refine rg_done rfl ?_
    refine a_ret ?_
    show ∃ ds, ResL _ _ _ ds ∧ RV.of ds = _
    refine ⟨[.fl (.int .i64 3)], (.cons (.tmp rfl (.d _)) .nil), ?_⟩
    have hu : ckL w = 3 := by
      unfold ckL; simp only [h1]; rfl
    rw [hu]; rfl
set_option maxHeartbeats 4000000 in
set_option maxRecDepth 100000 in
theorem ck13 (w : Lw) : Ctr Tryd.prog 83 [.ag (eLw w)] (.d (.fl (.int .i64 (ckL w)))) := by
  refine ctr (n := 59) (rs := #[.tmp 2]) (L := [(0, .d (.ag (eLw w)))]) Tryd.func83 rfl rfl rfl rfl rfl (fun w0 U0 => ?_)
  refine a_rseq ?_
  refine rg_nam (d := 1) (v := .pt 101 0) (m := 101) (nw := [(101, .bx 49 (eLw w))]) rfl (og rfl (of_eff (op_box 101 rfl rfl rfl rfl) rfl)) rfl ?_
  refine rg_put (d := 2) (v := .d (.fl (.int .i64 0))) rfl (og rfl (op_assign rfl rfl rfl)) ?_
  refine rg_done rfl ?_
  refine a_seq ?_
  refine a_rseq ?_
  refine rg_put (d := 5) (v := .pt 101 0) rfl (og rfl (of_eff (s_field_pt rfl Tryd.underlying49 rfl ti39 rfl rfl rfl) rfl)) ?_
  refine rg_put (d := 6) (v := .d (.sl 1 (List.map (rI .i64) w.days))) rfl (og rfl (op_load_pt rfl Tryd.underlying39 rfl rfl rfl rfl rfl)) ?_
  refine rg_put (d := 7) (v := .d (.fl (.int .i64 (w.days.length : Int)))) rfl (og rfl (s_len rfl Tryd.underlying39 rfl rfl)) ?_
  refine rg_put (d := 8) (v := .d (.fl (.bool (((w.days.length : Int) != 4))))) rfl (og rfl (op_bin rfl rfl rfl (b_neq _ _ _ _) rfl)) ?_
  refine rg_put (d := 9) (v := .d (.fl (.bool (((w.days.length : Int) != 4))))) rfl (og rfl (op_move rfl rfl rfl)) ?_
  rcases fot (((w.days.length : Int) != 4)) with h1 | h1
  · skip
    have h2 := f_bne h1
    refine rg_put (d := 10) (v := .pt 101 1) rfl (oy rfl rfl rfl h1 (of_eff (s_field_pt rfl Tryd.underlying49 rfl ti39 rfl rfl rfl) rfl)) ?_
    refine rg_put (d := 11) (v := .d (.sl 1 (List.map (rI .i64) w.fees))) rfl (oy rfl rfl rfl h1 (op_load_pt rfl Tryd.underlying39 rfl rfl rfl rfl rfl)) ?_
    refine rg_put (d := 12) (v := .d (.fl (.int .i64 (w.fees.length : Int)))) rfl (oy rfl rfl rfl h1 (s_len rfl Tryd.underlying39 rfl rfl)) ?_
    refine rg_put (d := 13) (v := .d (.fl (.bool (((w.fees.length : Int) != 4))))) rfl (oy rfl rfl rfl h1 (op_bin rfl rfl rfl (b_neq _ _ _ _) rfl)) ?_
    refine rg_put (d := 14) (v := .d (.fl (.bool (((w.fees.length : Int) != 4))))) rfl (og rfl (op_pick rfl rfl (by rw [h1]; rfl) rfl)) ?_
    refine rg_done rfl ?_
    refine a_cond rfl (fun h3 => ?_) (fun h3 => ?_)
    · skip
      have h4 := t_bne h3
      refine a_rseq ?_
      refine rg_put (d := 2) (v := .d (.fl (.int .i64 3))) rfl (og rfl (op_assign rfl rfl rfl)) ?_
      refine rg_done rfl ?_
      refine a_ret ?_
      show ∃ ds, ResL _ _ _ ds ∧ RV.of ds = _
      refine ⟨[.fl (.int .i64 3)], (.cons (.tmp rfl (.d _)) .nil), ?_⟩
      have hu : ckL w = 3 := by
        unfold ckL; simp only [h1, h3]; rfl
      rw [hu]; rfl
    · skip
      have h5 := f_bne h3
      refine a_skip ?_
      show A _ _ _ _ _ _ _
      refine a_seq ?_
      refine a_rseq ?_
      have hd4 : w.days.length = 4 := by omega
      have hf4 : w.fees.length = 4 := by omega
      refine rg_put (d := 3) (v := .d (.fl (.int .i64 0))) rfl (og rfl (op_assign rfl rfl rfl)) ?_
      refine rg_done rfl ?_
      refine a_block ?_
      refine a_loop (ι := Nat) (fun k => SS [(0, .d (.ag (eLw w))), (1, .pt 101 0), (14, .d (.fl (.bool (((w.fees.length : Int) != 4))))), (3, .d (.fl (.int .i64 (k : Int))))] [(101, .bx 49 (eLw w))]) (fun k => k ≤ 4 ∧ ∀ q, q < k → bad1 w.days q = false) (fun k => 4 - k) 0 (⟨by omega, fun q h => by omega⟩) (imp_forget rfl ⟨rfl, rfl, rfl, (by first | rfl | exact ci (by omega) | exact ci (by simp) | exact cd (by simp) | simp), trivial⟩ ⟨rfl, trivial⟩) (fun k hok => ?_)
      obtain ⟨hkk, hqk⟩ := hok
      refine a_seq ?_
      refine a_rseq ?_
      refine rg_put (d := 15) (v := .d (.fl (.int .i64 (k : Int)))) rfl (og rfl (op_move rfl rfl rfl)) ?_
      refine rg_put (d := 16) (v := .d (.fl (.bool ((decide ((k : Int) < 4)))))) rfl (og rfl (op_bin rfl rfl rfl (b_lss _ _ _ _) rfl)) ?_
      refine rg_done rfl ?_
      refine a_cond rfl (fun h6 => ?_) (fun h6 => ?_)
      · skip
        have h7 := t_dec h6
        refine a_skip ?_
        show A _ _ _ _ _ _ _
        refine a_seq ?_
        refine a_block ?_
        refine a_rseq ?_
        refine rg_put (d := 19) (v := .pt 101 0) rfl (og rfl (of_eff (s_field_pt rfl Tryd.underlying49 rfl ti39 rfl rfl rfl) rfl)) ?_
        refine rg_put (d := 20) (v := .d (.sl 1 (List.map (rI .i64) w.days))) rfl (og rfl (op_load_pt rfl Tryd.underlying39 rfl rfl rfl rfl rfl)) ?_
        refine rg_put (d := 21) (v := .d (.fl (.int .i64 (k : Int)))) rfl (og rfl (op_move rfl rfl rfl)) ?_
        refine rg_put (d := 22) (v := .el ((rI .i64 (ix w.days k)))) rfl (og rfl (s_index rfl Tryd.underlying39 ti3 rfl rfl (by omega) (row_at (by omega)) rfl)) ?_
        refine rg_put (d := 23) (v := .d (.fl (.int .i64 (ix w.days k)))) rfl (og rfl (op_load_el rfl Tryd.underlying3 rfl rfl rfl rfl)) ?_
        refine rg_put (d := 24) (v := .d (.fl (.bool ((decide ((ix w.days k) < 1)))))) rfl (og rfl (op_bin rfl rfl rfl (b_lss _ _ _ _) rfl)) ?_
        refine rg_put (d := 25) (v := .d (.fl (.bool ((decide ((ix w.days k) < 1)))))) rfl (og rfl (op_move rfl rfl rfl)) ?_
        rcases fot ((decide ((ix w.days k) < 1))) with h8 | h8
        · skip
          have h9 := f_dec h8
          refine rg_put (d := 26) (v := .pt 101 0) rfl (oy rfl rfl rfl h8 (of_eff (s_field_pt rfl Tryd.underlying49 rfl ti39 rfl rfl rfl) rfl)) ?_
          refine rg_put (d := 27) (v := .d (.sl 1 (List.map (rI .i64) w.days))) rfl (oy rfl rfl rfl h8 (op_load_pt rfl Tryd.underlying39 rfl rfl rfl rfl rfl)) ?_
          refine rg_put (d := 28) (v := .d (.fl (.int .i64 (k : Int)))) rfl (oy rfl rfl rfl h8 (op_move rfl rfl rfl)) ?_
          refine rg_put (d := 29) (v := .el ((rI .i64 (ix w.days k)))) rfl (oy rfl rfl rfl h8 (s_index rfl Tryd.underlying39 ti3 rfl rfl (by omega) (row_at (by omega)) rfl)) ?_
          refine rg_put (d := 30) (v := .d (.fl (.int .i64 (ix w.days k)))) rfl (oy rfl rfl rfl h8 (op_load_el rfl Tryd.underlying3 rfl rfl rfl rfl)) ?_
          refine rg_put (d := 31) (v := .d (.fl (.bool ((decide (4096 < (ix w.days k))))))) rfl (oy rfl rfl rfl h8 (op_bin rfl rfl rfl (b_gtr _ _ _ _) rfl)) ?_
          refine rg_put (d := 32) (v := .d (.fl (.bool ((decide (4096 < (ix w.days k))))))) rfl (og rfl (op_pick rfl rfl (by rw [h8]; rfl) rfl)) ?_
          refine rg_done rfl ?_
          refine a_cond rfl (fun h10 => ?_) (fun h10 => ?_)
          · skip
            have h11 := t_dec h10
            refine a_rseq ?_
            refine rg_put (d := 2) (v := .d (.fl (.int .i64 1))) rfl (og rfl (op_assign rfl rfl rfl)) ?_
            refine rg_done rfl ?_
            refine a_ret ?_
            show ∃ ds, ResL _ _ _ ds ∧ RV.of ds = _
            refine ⟨[.fl (.int .i64 1)], (.cons (.tmp rfl (.d _)) .nil), ?_⟩
            have hbd : bad1 w.days k = true := by
              unfold bad1; simp only [h8, h10]; rfl
            have ha1 := any_yes (n := 4) (by omega) hbd
            have hu : ckL w = 1 := by
              unfold ckL; simp only [h1, h3, h6, h8, h10, ha1]; rfl
            rw [hu]; rfl
          · skip
            have h12 := f_dec h10
            refine a_skip ?_
            show A _ _ _ _ _ _ _
            refine a_region ?_
            refine rg_put (d := 17) (v := .d (.fl (.int .i64 (k : Int)))) rfl (og rfl (op_move rfl rfl rfl)) ?_
            refine rg_put (d := 18) (v := .d (.fl (.int .i64 (((k : Int) + 1))))) rfl (og rfl (op_bin rfl rfl rfl (fun x y w => b_add64 _ _ _ x y w (by omega)) rfl)) ?_
            refine rg_put (d := 3) (v := .d (.fl (.int .i64 (((k : Int) + 1))))) rfl (og rfl (op_assign rfl rfl rfl)) ?_
            refine rg_done rfl ?_
            have hbd : bad1 w.days k = false := by
              unfold bad1; simp only [h8, h10]; rfl
            show ∃ i, _ ∧ _ ∧ Imp _ _ _ _ _
            refine ⟨k + 1, ⟨by omega, fun q h => by
              rcases Nat.lt_succ_iff_lt_or_eq.1 h with h | h
              · exact hqk q h
              · subst h; exact hbd⟩, by omega, imp_forget rfl ⟨rfl, rfl, rfl, (by first | rfl | exact ci (by omega) | exact ci (by simp) | exact cd (by simp) | simp), trivial⟩ ⟨rfl, trivial⟩⟩
        · skip
          have h13 := t_dec h8
          refine rg_put (d := 26) (v := .d (.fl undef)) rfl (on rfl rfl rfl h8) ?_
          refine rg_put (d := 27) (v := .d (.fl undef)) rfl (on rfl rfl rfl h8) ?_
          refine rg_put (d := 28) (v := .d (.fl undef)) rfl (on rfl rfl rfl h8) ?_
          refine rg_put (d := 29) (v := .d (.fl undef)) rfl (on rfl rfl rfl h8) ?_
          refine rg_put (d := 30) (v := .d (.fl undef)) rfl (on rfl rfl rfl h8) ?_
          refine rg_put (d := 31) (v := .d (.fl undef)) rfl (on rfl rfl rfl h8) ?_
          refine rg_put (d := 32) (v := .d (.fl (.bool true))) rfl (og rfl (op_pick rfl rfl (by rw [h8]; rfl) rfl)) ?_
          refine rg_done rfl ?_
          refine a_condK rfl rfl ?_
          refine a_rseq ?_
          refine rg_put (d := 2) (v := .d (.fl (.int .i64 1))) rfl (og rfl (op_assign rfl rfl rfl)) ?_
          refine rg_done rfl ?_
          refine a_ret ?_
          show ∃ ds, ResL _ _ _ ds ∧ RV.of ds = _
          refine ⟨[.fl (.int .i64 1)], (.cons (.tmp rfl (.d _)) .nil), ?_⟩
          have hbd : bad1 w.days k = true := by
            unfold bad1; simp only [h8]; rfl
          have ha1 := any_yes (n := 4) (by omega) hbd
          have hu : ckL w = 1 := by
            unfold ckL; simp only [h1, h3, h6, h8, ha1]; rfl
          rw [hu]; rfl
      · skip
        have h14 := f_dec h6
        refine a_exit ?_
        show A _ _ _ _ _ _ _
        refine a_seq ?_
        refine a_rseq ?_
        refine rg_put (d := 4) (v := .d (.fl (.int .i64 0))) rfl (og rfl (op_assign rfl rfl rfl)) ?_
        refine rg_done rfl ?_
        refine a_block ?_
        refine a_loop (ι := Nat) (fun j => SS [(0, .d (.ag (eLw w))), (1, .pt 101 0), (3, .d (.fl (.int .i64 (k : Int)))), (14, .d (.fl (.bool (((w.fees.length : Int) != 4))))), (16, .d (.fl (.bool ((decide ((k : Int) < 4)))))), (4, .d (.fl (.int .i64 (j : Int))))] [(101, .bx 49 (eLw w))]) (fun j => j ≤ 4 ∧ ∀ q, q < j → bad2 w.fees q = false) (fun j => 4 - j) 0 (⟨by omega, fun q h => by omega⟩) (imp_forget rfl ⟨rfl, rfl, rfl, rfl, rfl, (by first | rfl | exact ci (by omega) | exact ci (by simp) | exact cd (by simp) | simp), trivial⟩ ⟨rfl, trivial⟩) (fun j hok => ?_)
        obtain ⟨hkj, hqj⟩ := hok
        refine a_seq ?_
        refine a_rseq ?_
        refine rg_put (d := 33) (v := .d (.fl (.int .i64 (j : Int)))) rfl (og rfl (op_move rfl rfl rfl)) ?_
        refine rg_put (d := 34) (v := .d (.fl (.bool ((decide ((j : Int) < 4)))))) rfl (og rfl (op_bin rfl rfl rfl (b_lss _ _ _ _) rfl)) ?_
        refine rg_done rfl ?_
        refine a_cond rfl (fun h15 => ?_) (fun h15 => ?_)
        · skip
          have h16 := t_dec h15
          refine a_skip ?_
          show A _ _ _ _ _ _ _
          refine a_seq ?_
          refine a_block ?_
          refine a_rseq ?_
          refine rg_put (d := 37) (v := .pt 101 1) rfl (og rfl (of_eff (s_field_pt rfl Tryd.underlying49 rfl ti39 rfl rfl rfl) rfl)) ?_
          refine rg_put (d := 38) (v := .d (.sl 1 (List.map (rI .i64) w.fees))) rfl (og rfl (op_load_pt rfl Tryd.underlying39 rfl rfl rfl rfl rfl)) ?_
          refine rg_put (d := 39) (v := .d (.fl (.int .i64 (j : Int)))) rfl (og rfl (op_move rfl rfl rfl)) ?_
          refine rg_put (d := 40) (v := .el ((rI .i64 (ix w.fees j)))) rfl (og rfl (s_index rfl Tryd.underlying39 ti3 rfl rfl (by omega) (row_at (by omega)) rfl)) ?_
          refine rg_put (d := 41) (v := .d (.fl (.int .i64 (ix w.fees j)))) rfl (og rfl (op_load_el rfl Tryd.underlying3 rfl rfl rfl rfl)) ?_
          refine rg_put (d := 42) (v := .d (.fl (.bool ((decide ((ix w.fees j) < 0)))))) rfl (og rfl (op_bin rfl rfl rfl (b_lss _ _ _ _) rfl)) ?_
          refine rg_put (d := 43) (v := .d (.fl (.bool ((decide ((ix w.fees j) < 0)))))) rfl (og rfl (op_move rfl rfl rfl)) ?_
          rcases fot ((decide ((ix w.fees j) < 0))) with h17 | h17
          · skip
            have h18 := f_dec h17
            refine rg_put (d := 44) (v := .pt 101 1) rfl (oy rfl rfl rfl h17 (of_eff (s_field_pt rfl Tryd.underlying49 rfl ti39 rfl rfl rfl) rfl)) ?_
            refine rg_put (d := 45) (v := .d (.sl 1 (List.map (rI .i64) w.fees))) rfl (oy rfl rfl rfl h17 (op_load_pt rfl Tryd.underlying39 rfl rfl rfl rfl rfl)) ?_
            refine rg_put (d := 46) (v := .d (.fl (.int .i64 (j : Int)))) rfl (oy rfl rfl rfl h17 (op_move rfl rfl rfl)) ?_
            refine rg_put (d := 47) (v := .el ((rI .i64 (ix w.fees j)))) rfl (oy rfl rfl rfl h17 (s_index rfl Tryd.underlying39 ti3 rfl rfl (by omega) (row_at (by omega)) rfl)) ?_
            refine rg_put (d := 48) (v := .d (.fl (.int .i64 (ix w.fees j)))) rfl (oy rfl rfl rfl h17 (op_load_el rfl Tryd.underlying3 rfl rfl rfl rfl)) ?_
            refine rg_put (d := 49) (v := .d (.fl (.bool ((decide (2147483648 < (ix w.fees j))))))) rfl (oy rfl rfl rfl h17 (op_bin rfl rfl rfl (b_gtr _ _ _ _) rfl)) ?_
            refine rg_put (d := 50) (v := .d (.fl (.bool ((decide (2147483648 < (ix w.fees j))))))) rfl (og rfl (op_pick rfl rfl (by rw [h17]; rfl) rfl)) ?_
            refine rg_done rfl ?_
            refine a_cond rfl (fun h19 => ?_) (fun h19 => ?_)
            · skip
              have h20 := t_dec h19
              refine a_rseq ?_
              refine rg_put (d := 2) (v := .d (.fl (.int .i64 13))) rfl (og rfl (op_assign rfl rfl rfl)) ?_
              refine rg_done rfl ?_
              refine a_ret ?_
              show ∃ ds, ResL _ _ _ ds ∧ RV.of ds = _
              refine ⟨[.fl (.int .i64 13)], (.cons (.tmp rfl (.d _)) .nil), ?_⟩
              have ha1 : anyI (bad1 w.days) 4 = false := any_no (fun q h => hqk q (by omega))
              have hbd : bad2 w.fees j = true := by
                unfold bad2; simp only [h17, h19]; rfl
              have ha2 := any_yes (n := 4) (by omega) hbd
              have hu : ckL w = 13 := by
                unfold ckL; simp only [h1, h3, h6, h15, h17, h19, ha1, ha2]; rfl
              rw [hu]; rfl
            · skip
              have h21 := f_dec h19
              refine a_skip ?_
              show A _ _ _ _ _ _ _
              refine a_region ?_
              refine rg_put (d := 35) (v := .d (.fl (.int .i64 (j : Int)))) rfl (og rfl (op_move rfl rfl rfl)) ?_
              refine rg_put (d := 36) (v := .d (.fl (.int .i64 (((j : Int) + 1))))) rfl (og rfl (op_bin rfl rfl rfl (fun x y w => b_add64 _ _ _ x y w (by omega)) rfl)) ?_
              refine rg_put (d := 4) (v := .d (.fl (.int .i64 (((j : Int) + 1))))) rfl (og rfl (op_assign rfl rfl rfl)) ?_
              refine rg_done rfl ?_
              have hbd : bad2 w.fees j = false := by
                unfold bad2; simp only [h17, h19]; rfl
              show ∃ i, _ ∧ _ ∧ Imp _ _ _ _ _
              refine ⟨j + 1, ⟨by omega, fun q h => by
                rcases Nat.lt_succ_iff_lt_or_eq.1 h with h | h
                · exact hqj q h
                · subst h; exact hbd⟩, by omega, imp_forget rfl ⟨rfl, rfl, rfl, rfl, rfl, (by first | rfl | exact ci (by omega) | exact ci (by simp) | exact cd (by simp) | simp), trivial⟩ ⟨rfl, trivial⟩⟩
          · skip
            have h22 := t_dec h17
            refine rg_put (d := 44) (v := .d (.fl undef)) rfl (on rfl rfl rfl h17) ?_
            refine rg_put (d := 45) (v := .d (.fl undef)) rfl (on rfl rfl rfl h17) ?_
            refine rg_put (d := 46) (v := .d (.fl undef)) rfl (on rfl rfl rfl h17) ?_
            refine rg_put (d := 47) (v := .d (.fl undef)) rfl (on rfl rfl rfl h17) ?_
            refine rg_put (d := 48) (v := .d (.fl undef)) rfl (on rfl rfl rfl h17) ?_
            refine rg_put (d := 49) (v := .d (.fl undef)) rfl (on rfl rfl rfl h17) ?_
            refine rg_put (d := 50) (v := .d (.fl (.bool true))) rfl (og rfl (op_pick rfl rfl (by rw [h17]; rfl) rfl)) ?_
            refine rg_done rfl ?_
            refine a_condK rfl rfl ?_
            refine a_rseq ?_
            refine rg_put (d := 2) (v := .d (.fl (.int .i64 13))) rfl (og rfl (op_assign rfl rfl rfl)) ?_
            refine rg_done rfl ?_
            refine a_ret ?_
            show ∃ ds, ResL _ _ _ ds ∧ RV.of ds = _
            refine ⟨[.fl (.int .i64 13)], (.cons (.tmp rfl (.d _)) .nil), ?_⟩
            have ha1 : anyI (bad1 w.days) 4 = false := any_no (fun q h => hqk q (by omega))
            have hbd : bad2 w.fees j = true := by
              unfold bad2; simp only [h17]; rfl
            have ha2 := any_yes (n := 4) (by omega) hbd
            have hu : ckL w = 13 := by
              unfold ckL; simp only [h1, h3, h6, h15, h17, ha1, ha2]; rfl
            rw [hu]; rfl
        · skip
          have h23 := f_dec h15
          refine a_exit ?_
          show A _ _ _ _ _ _ _
          refine a_seq ?_
          refine a_rseq ?_
          refine rg_put (d := 51) (v := .pt 101 2) rfl (og rfl (of_eff (s_field_pt rfl Tryd.underlying49 rfl ti3 rfl rfl rfl) rfl)) ?_
          refine rg_put (d := 52) (v := .d (.fl (.int .i64 w.limit))) rfl (og rfl (op_load_pt rfl Tryd.underlying3 rfl rfl rfl rfl rfl)) ?_
          refine rg_put (d := 53) (v := .d (.fl (.bool ((decide (w.limit < 1)))))) rfl (og rfl (op_bin rfl rfl rfl (b_lss _ _ _ _) rfl)) ?_
          refine rg_put (d := 54) (v := .d (.fl (.bool ((decide (w.limit < 1)))))) rfl (og rfl (op_move rfl rfl rfl)) ?_
          rcases fot ((decide (w.limit < 1))) with h24 | h24
          · skip
            have h25 := f_dec h24
            refine rg_put (d := 55) (v := .pt 101 2) rfl (oy rfl rfl rfl h24 (of_eff (s_field_pt rfl Tryd.underlying49 rfl ti3 rfl rfl rfl) rfl)) ?_
            refine rg_put (d := 56) (v := .d (.fl (.int .i64 w.limit))) rfl (oy rfl rfl rfl h24 (op_load_pt rfl Tryd.underlying3 rfl rfl rfl rfl rfl)) ?_
            refine rg_put (d := 57) (v := .d (.fl (.bool ((decide (795363 < w.limit)))))) rfl (oy rfl rfl rfl h24 (op_bin rfl rfl rfl (b_gtr _ _ _ _) rfl)) ?_
            refine rg_put (d := 58) (v := .d (.fl (.bool ((decide (795363 < w.limit)))))) rfl (og rfl (op_pick rfl rfl (by rw [h24]; rfl) rfl)) ?_
            refine rg_done rfl ?_
            refine a_cond rfl (fun h26 => ?_) (fun h26 => ?_)
            · skip
              have h27 := t_dec h26
              refine a_rseq ?_
              refine rg_put (d := 2) (v := .d (.fl (.int .i64 12))) rfl (og rfl (op_assign rfl rfl rfl)) ?_
              refine rg_done rfl ?_
              refine a_ret ?_
              show ∃ ds, ResL _ _ _ ds ∧ RV.of ds = _
              refine ⟨[.fl (.int .i64 12)], (.cons (.tmp rfl (.d _)) .nil), ?_⟩
              have hlm : decide (795364 ≤ w.limit) = true := decide_eq_true (by omega)
              have ha1 : anyI (bad1 w.days) 4 = false := any_no (fun q h => hqk q (by omega))
              have ha2 : anyI (bad2 w.fees) 4 = false := any_no (fun q h => hqj q (by omega))
              have hu : ckL w = 12 := by
                unfold ckL; simp only [h1, h3, h6, h15, h24, h26, hlm, ha1, ha2]; rfl
              rw [hu]; rfl
            · skip
              have h28 := f_dec h26
              refine a_skip ?_
              show A _ _ _ _ _ _ _
              refine a_rseq ?_
              refine rg_put (d := 2) (v := .d (.fl (.int .i64 0))) rfl (og rfl (op_assign rfl rfl rfl)) ?_
              refine rg_done rfl ?_
              refine a_ret ?_
              show ∃ ds, ResL _ _ _ ds ∧ RV.of ds = _
              refine ⟨[.fl (.int .i64 0)], (.cons (.tmp rfl (.d _)) .nil), ?_⟩
              have hlm : decide (795364 ≤ w.limit) = false := decide_eq_false (by omega)
              have ha1 : anyI (bad1 w.days) 4 = false := any_no (fun q h => hqk q (by omega))
              have ha2 : anyI (bad2 w.fees) 4 = false := any_no (fun q h => hqj q (by omega))
              have hu : ckL w = 0 := by
                unfold ckL; simp only [h1, h3, h6, h15, h24, h26, hlm, ha1, ha2]; rfl
              rw [hu]; rfl
          · skip
            have h29 := t_dec h24
            refine rg_put (d := 55) (v := .d (.fl undef)) rfl (on rfl rfl rfl h24) ?_
            refine rg_put (d := 56) (v := .d (.fl undef)) rfl (on rfl rfl rfl h24) ?_
            refine rg_put (d := 57) (v := .d (.fl undef)) rfl (on rfl rfl rfl h24) ?_
            refine rg_put (d := 58) (v := .d (.fl (.bool true))) rfl (og rfl (op_pick rfl rfl (by rw [h24]; rfl) rfl)) ?_
            refine rg_done rfl ?_
            refine a_condK rfl rfl ?_
            refine a_rseq ?_
            refine rg_put (d := 2) (v := .d (.fl (.int .i64 12))) rfl (og rfl (op_assign rfl rfl rfl)) ?_
            refine rg_done rfl ?_
            refine a_ret ?_
            show ∃ ds, ResL _ _ _ ds ∧ RV.of ds = _
            refine ⟨[.fl (.int .i64 12)], (.cons (.tmp rfl (.d _)) .nil), ?_⟩
            have ha1 : anyI (bad1 w.days) 4 = false := any_no (fun q h => hqk q (by omega))
            have ha2 : anyI (bad2 w.fees) 4 = false := any_no (fun q h => hqj q (by omega))
            have hu : ckL w = 12 := by
              unfold ckL; simp only [h1, h3, h6, h15, h24, ha1, ha2]; rfl
            rw [hu]; rfl
  · skip
    have h30 := t_bne h1
    refine rg_put (d := 10) (v := .d (.fl undef)) rfl (on rfl rfl rfl h1) ?_
    refine rg_put (d := 11) (v := .d (.fl undef)) rfl (on rfl rfl rfl h1) ?_
    refine rg_put (d := 12) (v := .d (.fl undef)) rfl (on rfl rfl rfl h1) ?_
    refine rg_put (d := 13) (v := .d (.fl undef)) rfl (on rfl rfl rfl h1) ?_
    refine rg_put (d := 14) (v := .d (.fl (.bool true))) rfl (og rfl (op_pick rfl rfl (by rw [h1]; rfl) rfl)) ?_
    refine rg_done rfl ?_
    refine a_condK rfl rfl ?_
    refine a_rseq ?_
    refine rg_put (d := 2) (v := .d (.fl (.int .i64 3))) rfl (og rfl (op_assign rfl rfl rfl)) ?_
    refine rg_done rfl ?_
    refine a_ret ?_
    show ∃ ds, ResL _ _ _ ds ∧ RV.of ds = _
    refine ⟨[.fl (.int .i64 3)], (.cons (.tmp rfl (.d _)) .nil), ?_⟩
    have hu : ckL w = 3 := by
      unfold ckL; simp only [h1]; rfl
    rw [hu]; rfl
end Go.Proofs.YtglhonnmppclpaaDoor.Lq
set_option linter.unusedSimpArgs false
set_option linter.unusedVariables false
namespace Go.Proofs.YtglhonnmppclpaaDoor.Lq
open Go Go.RowKit Go.Proofs.YtglhonnmppclpaaDoor.Av Go.Proofs.YtglhonnmppclpaaDoor.Wk
def hol (cal : List Int) (d : Int) : Bool := cal.any fun c => c == d
def biz (cal : List Int) (d : Int) : Bool := decide (d % 7 < 5) && !(hol cal d)
def lat (cal : List Int) : Nat → Int → Int → Int × Int
  | 0, d, n => if n ≤ 0 then (d, 0) else (0, 12)
  | f + 1, d, n => if n ≤ 0 then (d, 0) else lat cal f (d + 1) (if biz cal (d + 1) = true then n - 1 else n)
def latS (cal : List Int) (day n : Int) : Int × Int := if (!isD day) = true then (0, 12) else if (decide (n < 0) || decide (4096 < n)) = true then (0, 1) else lat cal (795363 - day).toNat day n
theorem lat_done {cal : List Int} {f : Nat} {d n : Int} (h : n ≤ 0) : lat cal f d n = (d, 0) := by cases f <;> simp [lat, h]
theorem lat_out {cal : List Int} {f : Nat} {d n : Int} (h : 0 < n) (hf : f = 0) : lat cal f d n = (0, 12) := by subst hf; simp [lat]; omega
theorem lat_go {cal : List Int} {f k : Nat} {d n : Int} (hk : k < f) (hn : 0 < n) : lat cal (f - k) d n = lat cal (f - (k + 1)) (d + 1) (if biz cal (d + 1) = true then n - 1 else n) := by
  rw [show f - k = (f - (k + 1)) + 1 by omega]
  show (if n ≤ 0 then _ else _) = _
  rw [if_neg (by omega)]
theorem hol_yes {cal : List Int} {d : Int} {k : Nat} (hk : k < cal.length) (h : (ix cal k == d) = true) : hol cal d = true := List.any_eq_true.2 ⟨_, ix_mem hk, h⟩
theorem ix_eqI {α : Type} [Inhabited α] {l : List α} {i : Nat} (h : i < l.length) : l[i] = ix l i := by
  have := ix_get h
  rw [List.getElem?_eq_getElem h] at this
  exact Option.some.inj this
theorem hol_no {cal : List Int} {d : Int} (h : ∀ q, q < cal.length → (ix cal q == d) = false) : hol cal d = false := by
  unfold hol; rw [List.any_eq_false]
  intro x hx
  obtain ⟨j, hj, he⟩ := List.mem_iff_getElem.1 hx
  rw [ix_eqI hj] at he
  rw [← he, h j hj]; simp
def fr (cal : List Int) (day : Int) : Nat → List Int
  | 0 => []
  | k + 1 => if decide (day < ix cal k) = true then (if (fr cal day k).contains (ix cal k) = true then fr cal day k else fr cal day k ++ [ix cal k]) else fr cal day k
theorem fr_succ (cal : List Int) (day : Int) (k : Nat) : fr cal day (k + 1) = if decide (day < ix cal k) = true then (if (fr cal day k).contains (ix cal k) = true then fr cal day k else fr cal day k ++ [ix cal k]) else fr cal day k := rfl
def mkE (l : List Int) : List (Value × DV) := l.map fun x => (Value.int .i64 x, DV.fl (.bool true))
theorem mkE_push (l : List Int) (c : Int) : mkE l ++ [(Value.int .i64 c, DV.fl (.bool true))] = mkE (l ++ [c]) := by simp [mkE]
theorem mkE_find {l : List Int} {p : Int} : mfind (.int .i64) (.int .i64 p) (mkE l) = some (if l.contains p = true then some (.fl (.bool true)) else none) := by
  have := mfind_map .i64 (fun x : Int => x) (fun _ => DV.fl (.bool true)) p l
  unfold mkE
  rw [this]
  congr 1
  cases h : l.find? fun x => p == x with
  | none =>
    have h1 : l.contains p = false := by
      rw [List.find?_eq_none] at h
      rw [← Bool.not_eq_true, List.contains_iff_mem]
      intro hm
      have := h p hm
      simp at this
    rw [h1]; rfl
  | some a =>
    have h1 : l.contains p = true := by
      rw [List.contains_iff_mem]
      have h2 := List.find?_some h
      have h3 := List.mem_of_find?_eq_some h
      have : p = a := by simpa using h2
      rw [this]; exact h3
    rw [h1]; rfl
theorem mkE_t {l : List Int} {p : Int} (h : l.contains p = true) : mfind (.int .i64) (.int .i64 p) (mkE l) = some (some (.fl (.bool true))) := by rw [mkE_find, if_pos h]
theorem mkE_f {l : List Int} {p : Int} (h : l.contains p = false) : mfind (.int .i64) (.int .i64 p) (mkE l) = some none := by rw [mkE_find, if_neg (by rw [h]; simp)]
theorem fr_mem {cal : List Int} {day d : Int} (hd : day < d) : ∀ k, k ≤ cal.length → (fr cal day k).contains d = (cal.take k).any fun c => c == d
  | 0, _ => by simp [fr]
  | k + 1, hk => by
    have ih := fr_mem (cal := cal) hd k (by omega)
    rw [fr_succ, take_ix (by omega), List.any_append, ← ih]
    by_cases h1 : day < ix cal k
    · rw [if_pos (decide_eq_true h1)]
      cases h2 : (fr cal day k).contains (ix cal k) with
      | true =>
        rw [if_pos rfl]
        by_cases h3 : ix cal k = d
        · rw [h3] at h2; rw [h2]; simp
        · simp [h3]
      | false =>
        rw [if_neg (by simp)]
        simp only [List.contains_eq_mem, List.mem_append, List.mem_singleton, List.any_cons, List.any_nil, Bool.or_false]
        by_cases h3 : ix cal k = d
        · subst h3; simp
        · have h4 : (ix cal k == d) = false := by simpa using h3
          rw [h4, Bool.or_false]
          have h5 : ¬ d = ix cal k := fun e => h3 e.symm
          simp [h5]
    · rw [if_neg (by simpa using h1)]
      have : (ix cal k == d) = false := by rw [beq_eq_false_iff_ne]; intro e; subst e; exact h1 hd
      simp [this]
theorem fr_hol {cal : List Int} {day d : Int} {j : Nat} (hd : day < d) (hj : j ≤ cal.length) (hj2 : ¬ j < cal.length) : (fr cal day j).contains d = hol cal d := by
  rw [fr_mem hd j hj, List.take_of_length_le (by omega)]; rfl
def bz (cal : List Int) (day : Int) : Nat → Int
  | 0 => 0
  | k + 1 => bz cal day k + if biz cal (day + (k : Int) + 1) = true then 1 else 0
theorem bz_succ (cal : List Int) (day : Int) (k : Nat) : bz cal day (k + 1) = bz cal day k + if biz cal (day + (k : Int) + 1) = true then 1 else 0 := rfl
theorem bz_le (cal : List Int) (day : Int) : ∀ k, 0 ≤ bz cal day k ∧ bz cal day k ≤ (k : Int)
  | 0 => by simp [bz]
  | k + 1 => by
    have := bz_le cal day k
    rw [bz_succ]
    split <;> (constructor <;> omega)
set_option maxHeartbeats 4000000 in
set_option maxRecDepth 100000 in
theorem wd45 (d : Int) (h : isD d = true) : Ctr Tryd.prog 32 [.fl (.int .i64 d)] (.d (.fl (.int .i64 (d % 7)))) := by
  have hd := isD_t h
  refine ctr (n := 8) (rs := #[.tmp 2]) (L := [(0, .d (.fl (.int .i64 d)))]) Tryd.func32 rfl rfl rfl rfl rfl (fun w0 U0 => ?_)
  refine a_rseq ?_
  refine rg_put (d := 2) (v := .d (.fl (.int .i64 0))) rfl (og rfl (op_assign rfl rfl rfl)) ?_
  refine rg_done rfl ?_
  refine a_seq ?_
  refine a_rseq ?_
  refine rg_put (d := 3) (v := .d (.fl (.int .i64 d))) rfl (og rfl (op_move rfl rfl rfl)) ?_
  refine rg_put (d := 4) (v := .d (.fl (.bool (isD d)))) rfl (og rfl (op_call rfl Tryd.func68 nm68 rfl (.cons rfl (.d _) .nil) (isD44 d) rfl)) ?_
  refine rg_put (d := 5) (v := .d (.fl (.bool ((!(isD d)))))) rfl (og rfl (op_un rfl rfl (u_not _) rfl)) ?_
  refine rg_done rfl ?_
  refine a_condF rfl (not_f h) ?_
  refine a_skip ?_
  show A _ _ _ _ _ _ _
  refine a_rseq ?_
  refine rg_put (d := 6) (v := .d (.fl (.int .i64 d))) rfl (og rfl (op_move rfl rfl rfl)) ?_
  refine rg_put (d := 7) (v := .d (.fl (.int .i64 (d % 7)))) rfl (og rfl (op_bin rfl rfl rfl (fun x y w => b_rem _ _ _ x y w (by omega) (by omega)) rfl)) ?_
  refine rg_put (d := 2) (v := .d (.fl (.int .i64 (d % 7)))) rfl (og rfl (op_assign rfl rfl rfl)) ?_
  refine rg_done rfl ?_
  refine a_ret ?_
  show ∃ ds, ResL _ _ _ ds ∧ RV.of ds = _
  refine ⟨[.fl (.int .i64 (d % 7))], (.cons (.tmp rfl (.d _)) .nil), ?_⟩
  rfl
set_option maxHeartbeats 4000000 in
set_option maxRecDepth 100000 in
theorem biz46 (cal : List Int) (d : Int) (h : isD d = true) (hl : cal.length < 9223372036854775807) : Ctr Tryd.prog 95 [.sl 1 (List.map (rI .i64) cal), .fl (.int .i64 d)] (.d (.fl (.bool (biz cal d)))) := by
  have hd := isD_t h
  refine ctr (n := 26) (rs := #[.tmp 4]) (L := [(0, .d (.sl 1 (List.map (rI .i64) cal))), (1, .d (.fl (.int .i64 d)))]) Tryd.func95 rfl rfl rfl rfl rfl (fun w0 U0 => ?_)
  refine a_rseq ?_
  refine rg_put (d := 4) (v := .d (.fl (.bool false))) rfl (og rfl (op_assign rfl rfl rfl)) ?_
  refine rg_done rfl ?_
  refine a_seq ?_
  refine a_rseq ?_
  refine rg_put (d := 6) (v := .d (.fl (.int .i64 d))) rfl (og rfl (op_move rfl rfl rfl)) ?_
  refine rg_put (d := 7) (v := .d (.fl (.bool (isD d)))) rfl (og rfl (op_call rfl Tryd.func36 nm36 rfl (.cons rfl (.d _) .nil) (isD33 d) rfl)) ?_
  refine rg_put (d := 8) (v := .d (.fl (.bool ((!(isD d)))))) rfl (og rfl (op_un rfl rfl (u_not _) rfl)) ?_
  refine rg_put (d := 9) (v := .d (.fl (.bool ((!(isD d)))))) rfl (og rfl (op_move rfl rfl rfl)) ?_
  refine rg_put (d := 10) (v := .d (.fl (.int .i64 d))) rfl (oy rfl rfl rfl (not_f h) (op_move rfl rfl rfl)) ?_
  refine rg_put (d := 11) (v := .d (.fl (.int .i64 (d % 7)))) rfl (oy rfl rfl rfl (not_f h) (op_bin rfl rfl rfl (fun x y w => b_rem _ _ _ x y w (by omega) (by omega)) rfl)) ?_
  refine rg_put (d := 12) (v := .d (.fl (.bool ((decide (4 < (d % 7))))))) rfl (oy rfl rfl rfl (not_f h) (op_bin rfl rfl rfl (b_gtr _ _ _ _) rfl)) ?_
  refine rg_put (d := 13) (v := .d (.fl (.bool ((decide (4 < (d % 7))))))) rfl (og rfl (op_pick rfl rfl (by rw [(not_f h)]; rfl) rfl)) ?_
  refine rg_done rfl ?_
  refine a_cond rfl (fun h1 => ?_) (fun h1 => ?_)
  · skip
    have h2 := t_dec h1
    refine a_rseq ?_
    refine rg_put (d := 4) (v := .d (.fl (.bool false))) rfl (og rfl (op_assign rfl rfl rfl)) ?_
    refine rg_done rfl ?_
    refine a_ret ?_
    show ∃ ds, ResL _ _ _ ds ∧ RV.of ds = _
    refine ⟨[.fl (.bool false)], (.cons (.tmp rfl (.d _)) .nil), ?_⟩
    have hb : decide (d % 7 < 5) = false := decide_eq_false (by omega)
    have hu : biz cal d = false := by unfold biz; rw [hb]; rfl
    rw [hu]; rfl
  · skip
    have h3 := f_dec h1
    refine a_skip ?_
    show A _ _ _ _ _ _ _
    refine a_seq ?_
    refine a_rseq ?_
    refine rg_put (d := 5) (v := .d (.fl (.int .i64 0))) rfl (og rfl (op_assign rfl rfl rfl)) ?_
    refine rg_done rfl ?_
    refine a_block ?_
    refine a_loop (ι := Nat) (fun k => SS [(0, .d (.sl 1 (List.map (rI .i64) cal))), (1, .d (.fl (.int .i64 d))), (13, .d (.fl (.bool ((decide (4 < (d % 7))))))), (5, .d (.fl (.int .i64 (k : Int))))] []) (fun k => k ≤ cal.length ∧ ∀ q, q < k → (ix cal q == d) = false) (fun k => cal.length - k) 0 (⟨by omega, fun q h => by omega⟩) (imp_forget rfl ⟨rfl, rfl, rfl, (by first | rfl | exact ci (by omega) | exact ci (by simp) | exact cd (by simp) | simp), trivial⟩ trivial) (fun k hok => ?_)
    obtain ⟨hk, hq⟩ := hok
    refine a_seq ?_
    refine a_rseq ?_
    refine rg_put (d := 14) (v := .d (.fl (.int .i64 (k : Int)))) rfl (og rfl (op_move rfl rfl rfl)) ?_
    refine rg_put (d := 15) (v := .d (.sl 1 (List.map (rI .i64) cal))) rfl (og rfl (op_move rfl rfl rfl)) ?_
    refine rg_put (d := 16) (v := .d (.fl (.int .i64 (cal.length : Int)))) rfl (og rfl (s_len rfl Tryd.underlying39 rfl rfl)) ?_
    refine rg_put (d := 17) (v := .d (.fl (.bool ((decide ((k : Int) < (cal.length : Int))))))) rfl (og rfl (op_bin rfl rfl rfl (b_lss _ _ _ _) rfl)) ?_
    refine rg_done rfl ?_
    refine a_cond rfl (fun h4 => ?_) (fun h4 => ?_)
    · skip
      have h5 := t_dec h4
      refine a_skip ?_
      show A _ _ _ _ _ _ _
      refine a_seq ?_
      refine a_block ?_
      refine a_rseq ?_
      refine rg_put (d := 20) (v := .d (.sl 1 (List.map (rI .i64) cal))) rfl (og rfl (op_move rfl rfl rfl)) ?_
      refine rg_put (d := 21) (v := .d (.fl (.int .i64 (k : Int)))) rfl (og rfl (op_move rfl rfl rfl)) ?_
      refine rg_put (d := 22) (v := .el ((rI .i64 (ix cal k)))) rfl (og rfl (s_index rfl Tryd.underlying39 ti3 rfl rfl (by omega) (row_at (by omega)) rfl)) ?_
      refine rg_put (d := 23) (v := .d (.fl (.int .i64 (ix cal k)))) rfl (og rfl (op_load_el rfl Tryd.underlying3 rfl rfl rfl rfl)) ?_
      refine rg_put (d := 24) (v := .d (.fl (.int .i64 d))) rfl (og rfl (op_move rfl rfl rfl)) ?_
      refine rg_put (d := 25) (v := .d (.fl (.bool (((ix cal k) == d))))) rfl (og rfl (op_bin rfl rfl rfl (b_eql _ _ _ _) rfl)) ?_
      refine rg_done rfl ?_
      refine a_cond rfl (fun h6 => ?_) (fun h6 => ?_)
      · skip
        have h7 := t_beq h6
        refine a_rseq ?_
        refine rg_put (d := 4) (v := .d (.fl (.bool false))) rfl (og rfl (op_assign rfl rfl rfl)) ?_
        refine rg_done rfl ?_
        refine a_ret ?_
        show ∃ ds, ResL _ _ _ ds ∧ RV.of ds = _
        refine ⟨[.fl (.bool false)], (.cons (.tmp rfl (.d _)) .nil), ?_⟩
        have hb : decide (d % 7 < 5) = true := decide_eq_true (by omega)
        have hh := hol_yes (k := k) (by omega) h6
        have hu : biz cal d = false := by unfold biz; rw [hb, hh]; rfl
        rw [hu]; rfl
      · skip
        have h8 := f_beq h6
        refine a_skip ?_
        show A _ _ _ _ _ _ _
        refine a_region ?_
        refine rg_put (d := 18) (v := .d (.fl (.int .i64 (k : Int)))) rfl (og rfl (op_move rfl rfl rfl)) ?_
        refine rg_put (d := 19) (v := .d (.fl (.int .i64 (((k : Int) + 1))))) rfl (og rfl (op_bin rfl rfl rfl (fun x y w => b_add64 _ _ _ x y w (by omega)) rfl)) ?_
        refine rg_put (d := 5) (v := .d (.fl (.int .i64 (((k : Int) + 1))))) rfl (og rfl (op_assign rfl rfl rfl)) ?_
        refine rg_done rfl ?_
        show ∃ i, _ ∧ _ ∧ Imp _ _ _ _ _
        refine ⟨k + 1, ⟨by omega, fun q h => by
          rcases Nat.lt_succ_iff_lt_or_eq.1 h with h | h
          · exact hq q h
          · subst h; exact h6⟩, by omega, imp_forget rfl ⟨rfl, rfl, rfl, (by first | rfl | exact ci (by omega) | exact ci (by simp) | exact cd (by simp) | simp), trivial⟩ trivial⟩
    · skip
      have h9 := f_dec h4
      refine a_exit ?_
      show A _ _ _ _ _ _ _
      refine a_rseq ?_
      refine rg_put (d := 4) (v := .d (.fl (.bool true))) rfl (og rfl (op_assign rfl rfl rfl)) ?_
      refine rg_done rfl ?_
      refine a_ret ?_
      show ∃ ds, ResL _ _ _ ds ∧ RV.of ds = _
      refine ⟨[.fl (.bool true)], (.cons (.tmp rfl (.d _)) .nil), ?_⟩
      have hb : decide (d % 7 < 5) = true := decide_eq_true (by omega)
      have hh := hol_no (cal := cal) (d := d) (fun q h => hq q (by omega))
      have hu : biz cal d = true := by unfold biz; rw [hb, hh]; rfl
      rw [hu]; rfl
set_option maxHeartbeats 4000000 in
set_option maxRecDepth 100000 in
theorem later37 (cal : List Int) (day n : Int) (hl0 : cal.length < 9223372036854775807) : Ctr Tryd.prog 81 [.sl 1 (List.map (rI .i64) cal), .fl (.int .i64 day), .fl (.int .i64 n)] (.tu [.fl (.int .i64 (latS cal day n).1), .fl (.int .i64 (latS cal day n).2)]) := by
  refine ctr (n := 52) (rs := #[.tmp 6, .tmp 7]) (L := [(0, .d (.sl 1 (List.map (rI .i64) cal))), (1, .d (.fl (.int .i64 day))), (2, .d (.fl (.int .i64 n)))]) Tryd.func81 rfl rfl rfl rfl rfl (fun w0 U0 => ?_)
  refine a_rseq ?_
  refine rg_put (d := 6) (v := .d (.fl (.int .i64 0))) rfl (og rfl (op_assign rfl rfl rfl)) ?_
  refine rg_put (d := 7) (v := .d (.fl (.int .i64 0))) rfl (og rfl (op_assign rfl rfl rfl)) ?_
  refine rg_done rfl ?_
  refine a_seq ?_
  refine a_rseq ?_
  refine rg_put (d := 11) (v := .d (.fl (.int .i64 day))) rfl (og rfl (op_move rfl rfl rfl)) ?_
  refine rg_put (d := 12) (v := .d (.fl (.bool (isD day)))) rfl (og rfl (op_call rfl Tryd.func68 nm68 rfl (.cons rfl (.d _) .nil) (isD44 day) rfl)) ?_
  refine rg_put (d := 13) (v := .d (.fl (.bool ((!(isD day)))))) rfl (og rfl (op_un rfl rfl (u_not _) rfl)) ?_
  refine rg_done rfl ?_
  refine a_cond rfl (fun h1 => ?_) (fun h1 => ?_)
  · skip
    have h2 := t_not h1
    have := isD_f h2
    refine a_rseq ?_
    refine rg_put (d := 6) (v := .d (.fl (.int .i64 0))) rfl (og rfl (op_assign rfl rfl rfl)) ?_
    refine rg_put (d := 7) (v := .d (.fl (.int .i64 12))) rfl (og rfl (op_assign rfl rfl rfl)) ?_
    refine rg_done rfl ?_
    refine a_ret ?_
    show ∃ ds, ResL _ _ _ ds ∧ RV.of ds = _
    refine ⟨[.fl (.int .i64 0), .fl (.int .i64 12)], (.cons (.tmp rfl (.d _)) (.cons (.tmp rfl (.d _)) .nil)), ?_⟩
    have hu : latS cal day n = (0, 12) := by
      unfold latS; simp only [h1, h2]; rfl
    rw [hu]; rfl
  · skip
    have h3 := f_not h1
    have := isD_t h3
    refine a_skip ?_
    show A _ _ _ _ _ _ _
    refine a_seq ?_
    refine a_rseq ?_
    refine rg_put (d := 14) (v := .d (.fl (.int .i64 n))) rfl (og rfl (op_move rfl rfl rfl)) ?_
    refine rg_put (d := 15) (v := .d (.fl (.bool ((decide (n < 0)))))) rfl (og rfl (op_bin rfl rfl rfl (b_lss _ _ _ _) rfl)) ?_
    refine rg_put (d := 16) (v := .d (.fl (.bool ((decide (n < 0)))))) rfl (og rfl (op_move rfl rfl rfl)) ?_
    rcases fot ((decide (n < 0))) with h4 | h4
    · skip
      have h5 := f_dec h4
      refine rg_put (d := 17) (v := .d (.fl (.int .i64 n))) rfl (oy rfl rfl rfl h4 (op_move rfl rfl rfl)) ?_
      refine rg_put (d := 18) (v := .d (.fl (.bool ((decide (4096 < n)))))) rfl (oy rfl rfl rfl h4 (op_bin rfl rfl rfl (b_gtr _ _ _ _) rfl)) ?_
      refine rg_put (d := 19) (v := .d (.fl (.bool ((decide (4096 < n)))))) rfl (og rfl (op_pick rfl rfl (by rw [h4]; rfl) rfl)) ?_
      refine rg_done rfl ?_
      refine a_cond rfl (fun h6 => ?_) (fun h6 => ?_)
      · skip
        have h7 := t_dec h6
        refine a_rseq ?_
        refine rg_put (d := 6) (v := .d (.fl (.int .i64 0))) rfl (og rfl (op_assign rfl rfl rfl)) ?_
        refine rg_put (d := 7) (v := .d (.fl (.int .i64 1))) rfl (og rfl (op_assign rfl rfl rfl)) ?_
        refine rg_done rfl ?_
        refine a_ret ?_
        show ∃ ds, ResL _ _ _ ds ∧ RV.of ds = _
        refine ⟨[.fl (.int .i64 0), .fl (.int .i64 1)], (.cons (.tmp rfl (.d _)) (.cons (.tmp rfl (.d _)) .nil)), ?_⟩
        have hu : latS cal day n = (0, 1) := by
          unfold latS; simp only [h1, h3, h4, h6]; rfl
        rw [hu]; rfl
      · skip
        have h8 := f_dec h6
        refine a_skip ?_
        show A _ _ _ _ _ _ _
        refine a_rseq ?_
        refine rg_nam (d := 20) (v := .ow 101) (m := 101) (nw := [(101, .mp [])]) rfl (og rfl (op_makeMap 101 rfl rfl)) rfl ?_
        refine rg_put (d := 8) (v := .ow 101) rfl (og rfl (op_assign rfl rfl rfl)) ?_
        refine rg_done rfl ?_
        refine a_seq ?_
        refine a_rseq ?_
        refine rg_put (d := 21) (v := .d (.sl 1 (List.map (rI .i64) cal))) rfl (og rfl (op_move rfl rfl rfl)) ?_
        refine rg_put (d := 22) (v := .d (.fl (.int .i64 (cal.length : Int)))) rfl (og rfl (s_len rfl Tryd.underlying39 rfl rfl)) ?_
        refine rg_put (d := 23) (v := .d (.fl (.int .i64 0))) rfl (og rfl (op_move rfl rfl rfl)) ?_
        refine rg_done rfl ?_
        refine a_block ?_
        refine a_loop (ι := Nat) (fun j => SS [(0, .d (.sl 1 (List.map (rI .i64) cal))), (1, .d (.fl (.int .i64 day))), (2, .d (.fl (.int .i64 n))), (6, .d (.fl (.int .i64 0))), (7, .d (.fl (.int .i64 0))), (8, .ow 101), (13, .d (.fl (.bool ((!(isD day)))))), (19, .d (.fl (.bool ((decide (4096 < n)))))), (21, .d (.sl 1 (List.map (rI .i64) cal))), (22, .d (.fl (.int .i64 (cal.length : Int)))), (23, .d (.fl (.int .i64 (j : Int))))] [(101, .mp ((mkE (fr cal day j))))]) (fun j => j ≤ cal.length) (fun j => cal.length - j) 0 (by omega) (imp_forget rfl ⟨rfl, rfl, rfl, rfl, rfl, rfl, rfl, rfl, rfl, rfl, (by first | rfl | exact ci (by omega) | exact ci (by simp) | exact cd (by simp) | simp), trivial⟩ ⟨(by first | rfl | simp), trivial⟩) (fun j hok => ?_)
        have hj := hok
        refine a_rseq ?_
        refine rg_put (d := 24) (v := .d (.fl (.bool ((decide ((j : Int) < (cal.length : Int))))))) rfl (og rfl (op_bin rfl rfl rfl (b_lss _ _ _ _) rfl)) ?_
        refine rg_done rfl ?_
        refine a_seq ?_
        refine a_cond rfl (fun h9 => ?_) (fun h9 => ?_)
        · skip
          have h10 := t_dec h9
          refine a_skip ?_
          show A _ _ _ _ _ _ _
          refine a_seq ?_
          refine a_block ?_
          refine a_rseq ?_
          refine rg_put (d := 25) (v := .el ((rI .i64 (ix cal j)))) rfl (og rfl (s_index rfl Tryd.underlying39 ti3 rfl rfl (by omega) (row_at (by omega)) rfl)) ?_
          refine rg_put (d := 26) (v := .d (.fl (.int .i64 (ix cal j)))) rfl (og rfl (op_load_el rfl Tryd.underlying3 rfl rfl rfl rfl)) ?_
          refine rg_put (d := 10) (v := .d (.fl (.int .i64 (ix cal j)))) rfl (og rfl (op_assign rfl rfl rfl)) ?_
          refine rg_done rfl ?_
          refine a_rseq ?_
          refine rg_put (d := 27) (v := .d (.fl (.int .i64 (ix cal j)))) rfl (og rfl (op_move rfl rfl rfl)) ?_
          refine rg_put (d := 28) (v := .d (.fl (.int .i64 day))) rfl (og rfl (op_move rfl rfl rfl)) ?_
          refine rg_put (d := 29) (v := .d (.fl (.bool ((decide (day < (ix cal j))))))) rfl (og rfl (op_bin rfl rfl rfl (b_gtr _ _ _ _) rfl)) ?_
          refine rg_done rfl ?_
          refine a_cond rfl (fun h11 => ?_) (fun h11 => ?_)
          · skip
            have h12 := t_dec h11
            refine a_region ?_
            refine rg_put (d := 30) (v := .ow 101) rfl (og rfl (op_move rfl rfl rfl)) ?_
            refine rg_put (d := 31) (v := .d (.fl (.int .i64 (ix cal j)))) rfl (og rfl (op_move rfl rfl rfl)) ?_
            rcases fot (((fr cal day j).contains (ix cal j))) with h13 | h13
            · skip
              refine rg_sto (nw := [(101, .mp ((mkE (fr cal day j)) ++ [((.int .i64 (ix cal j)), .fl (.bool true))]))]) rfl (og rfl (op_mapPush rfl rfl Tryd.underlying157 Tryd.underlying3 rfl rfl rfl rfl (mkE_f h13) rfl)) ?_
              refine rg_done rfl ?_
              show A _ _ _ _ _ _ _
              refine a_region ?_
              refine rg_put (d := 32) (v := .d (.fl (.int .i64 (((j : Int) + 1))))) rfl (og rfl (op_bin rfl rfl rfl (fun x y w => b_add64 _ _ _ x y w (by omega)) rfl)) ?_
              refine rg_put (d := 23) (v := .d (.fl (.int .i64 (((j : Int) + 1))))) rfl (og rfl (op_move rfl rfl rfl)) ?_
              refine rg_done rfl ?_
              have hfr : ((mkE (fr cal day j)) ++ [((.int .i64 (ix cal j)), .fl (.bool true))]) = mkE (fr cal day (j + 1)) := by
                rw [fr_succ]; simp only [h11, h13]; first | rfl | exact mkE_push _ _
              show ∃ i, _ ∧ _ ∧ Imp _ _ _ _ _
              refine ⟨j + 1, (by omega), by omega, imp_forget rfl ⟨rfl, rfl, rfl, rfl, rfl, rfl, rfl, rfl, rfl, rfl, (by first | rfl | exact ci (by omega) | exact ci (by simp) | exact cd (by simp) | simp), trivial⟩ ⟨(congrArg Ob.mp hfr), trivial⟩⟩
            · skip
              refine rg_sto (nw := [(101, .mp ((mkE (fr cal day j))))]) rfl (og rfl (op_mapSame rfl rfl Tryd.underlying157 Tryd.underlying3 rfl rfl rfl rfl (mkE_t h13) rfl)) ?_
              refine rg_done rfl ?_
              show A _ _ _ _ _ _ _
              refine a_region ?_
              refine rg_put (d := 32) (v := .d (.fl (.int .i64 (((j : Int) + 1))))) rfl (og rfl (op_bin rfl rfl rfl (fun x y w => b_add64 _ _ _ x y w (by omega)) rfl)) ?_
              refine rg_put (d := 23) (v := .d (.fl (.int .i64 (((j : Int) + 1))))) rfl (og rfl (op_move rfl rfl rfl)) ?_
              refine rg_done rfl ?_
              have hfr : (mkE (fr cal day j)) = mkE (fr cal day (j + 1)) := by
                rw [fr_succ]; simp only [h11, h13]; first | rfl | exact mkE_push _ _
              show ∃ i, _ ∧ _ ∧ Imp _ _ _ _ _
              refine ⟨j + 1, (by omega), by omega, imp_forget rfl ⟨rfl, rfl, rfl, rfl, rfl, rfl, rfl, rfl, rfl, rfl, (by first | rfl | exact ci (by omega) | exact ci (by simp) | exact cd (by simp) | simp), trivial⟩ ⟨(congrArg Ob.mp hfr), trivial⟩⟩
          · skip
            have h14 := f_dec h11
            refine a_skip ?_
            show A _ _ _ _ _ _ _
            refine a_region ?_
            refine rg_put (d := 32) (v := .d (.fl (.int .i64 (((j : Int) + 1))))) rfl (og rfl (op_bin rfl rfl rfl (fun x y w => b_add64 _ _ _ x y w (by omega)) rfl)) ?_
            refine rg_put (d := 23) (v := .d (.fl (.int .i64 (((j : Int) + 1))))) rfl (og rfl (op_move rfl rfl rfl)) ?_
            refine rg_done rfl ?_
            have hfr : (mkE (fr cal day j)) = mkE (fr cal day (j + 1)) := by
              rw [fr_succ]; simp only [h11]; first | rfl | exact mkE_push _ _
            show ∃ i, _ ∧ _ ∧ Imp _ _ _ _ _
            refine ⟨j + 1, (by omega), by omega, imp_forget rfl ⟨rfl, rfl, rfl, rfl, rfl, rfl, rfl, rfl, rfl, rfl, (by first | rfl | exact ci (by omega) | exact ci (by simp) | exact cd (by simp) | simp), trivial⟩ ⟨(congrArg Ob.mp hfr), trivial⟩⟩
        · skip
          have h15 := f_dec h9
          refine a_exit ?_
          show A _ _ _ _ _ _ _
          refine a_seq ?_
          refine a_block ?_
          refine a_loop (ι := Nat) (fun k => SS [(0, .d (.sl 1 (List.map (rI .i64) cal))), (8, .ow 101), (13, .d (.fl (.bool ((!(isD day)))))), (19, .d (.fl (.bool ((decide (4096 < n)))))), (21, .d (.sl 1 (List.map (rI .i64) cal))), (22, .d (.fl (.int .i64 (cal.length : Int)))), (23, .d (.fl (.int .i64 (j : Int)))), (24, .d (.fl (.bool ((decide ((j : Int) < (cal.length : Int))))))), (1, .d (.fl (.int .i64 ((day + (k : Int)))))), (2, .d (.fl (.int .i64 (n - bz cal day k))))] [(101, .mp ((mkE (fr cal day j))))]) (fun k => k ≤ (795363 - day).toNat ∧ 0 ≤ n - bz cal day k ∧ lat cal (795363 - day).toNat day n = lat cal ((795363 - day).toNat - k) (day + (k : Int)) (n - bz cal day k)) (fun k => (795363 - day).toNat - k) 0 (⟨by omega, by show 0 ≤ n - 0; omega, by show _ = lat cal _ (day + 0) (n - 0); rw [Int.add_zero, Int.sub_zero, Nat.sub_zero]⟩) (imp_forget rfl ⟨rfl, rfl, rfl, rfl, rfl, rfl, rfl, rfl, (ci (by omega)), (ci (by show n = n - 0; omega)), trivial⟩ ⟨(by first | rfl | simp), trivial⟩) (fun k hok => ?_)
          obtain ⟨hk, hn0, hl⟩ := hok
          have hbl := bz_le cal day k
          refine a_seq ?_
          refine a_rseq ?_
          refine rg_put (d := 33) (v := .d (.fl (.int .i64 (n - bz cal day k)))) rfl (og rfl (op_move rfl rfl rfl)) ?_
          refine rg_put (d := 34) (v := .d (.fl (.bool ((decide (0 < (n - bz cal day k))))))) rfl (og rfl (op_bin rfl rfl rfl (b_gtr _ _ _ _) rfl)) ?_
          refine rg_done rfl ?_
          refine a_cond rfl (fun h16 => ?_) (fun h16 => ?_)
          · skip
            have h17 := t_dec h16
            refine a_skip ?_
            show A _ _ _ _ _ _ _
            refine a_block ?_
            refine a_rseq ?_
            refine rg_put (d := 35) (v := .d (.fl (.int .i64 ((day + (k : Int)))))) rfl (og rfl (op_move rfl rfl rfl)) ?_
            refine rg_put (d := 36) (v := .d (.fl (.int .i64 (((day + (k : Int)) + 1))))) rfl (og rfl (op_bin rfl rfl rfl (fun x y w => b_add64 _ _ _ x y w (by omega)) rfl)) ?_
            refine rg_put (d := 1) (v := .d (.fl (.int .i64 (((day + (k : Int)) + 1))))) rfl (og rfl (op_assign rfl rfl rfl)) ?_
            refine rg_done rfl ?_
            refine a_seq ?_
            refine a_rseq ?_
            refine rg_put (d := 37) (v := .d (.fl (.int .i64 (((day + (k : Int)) + 1))))) rfl (og rfl (op_move rfl rfl rfl)) ?_
            refine rg_put (d := 38) (v := .d (.fl (.bool ((isD (((day + (k : Int)) + 1))))))) rfl (og rfl (op_call rfl Tryd.func68 nm68 rfl (.cons rfl (.d _) .nil) (isD44 (((day + (k : Int)) + 1))) rfl)) ?_
            refine rg_put (d := 39) (v := .d (.fl (.bool ((!((isD (((day + (k : Int)) + 1))))))))) rfl (og rfl (op_un rfl rfl (u_not _) rfl)) ?_
            refine rg_done rfl ?_
            refine a_cond rfl (fun h18 => ?_) (fun h18 => ?_)
            · skip
              have h19 := t_not h18
              have := isD_f h19
              refine a_rseq ?_
              refine rg_put (d := 6) (v := .d (.fl (.int .i64 0))) rfl (og rfl (op_assign rfl rfl rfl)) ?_
              refine rg_put (d := 7) (v := .d (.fl (.int .i64 12))) rfl (og rfl (op_assign rfl rfl rfl)) ?_
              refine rg_done rfl ?_
              refine a_ret ?_
              show ∃ ds, ResL _ _ _ ds ∧ RV.of ds = _
              refine ⟨[.fl (.int .i64 0), .fl (.int .i64 12)], (.cons (.tmp rfl (.d _)) (.cons (.tmp rfl (.d _)) .nil)), ?_⟩
              have hu : latS cal day n = (0, 12) := by
                unfold latS; simp only [h1, h3, h4, h6, h9, h16, h18, h19]
                show lat cal _ day n = _
                rw [hl, lat_out (by omega) (by omega)]
              rw [hu]; rfl
            · skip
              have h20 := f_not h18
              have := isD_t h20
              refine a_skip ?_
              show A _ _ _ _ _ _ _
              refine a_rseq ?_
              refine rg_put (d := 40) (v := .d (.fl (.int .i64 (((day + (k : Int)) + 1))))) rfl (og rfl (op_move rfl rfl rfl)) ?_
              refine rg_put (d := 41) (v := .d (.fl (.int .i64 ((((day + (k : Int)) + 1) % 7))))) rfl (og rfl (op_call rfl Tryd.func32 nm32 rfl (.cons rfl (.d _) .nil) (wd45 (((day + (k : Int)) + 1)) h20) rfl)) ?_
              refine rg_put (d := 42) (v := .d (.fl (.bool ((decide ((((day + (k : Int)) + 1) % 7) < 5)))))) rfl (og rfl (op_bin rfl rfl rfl (b_lss _ _ _ _) rfl)) ?_
              refine rg_put (d := 43) (v := .d (.fl (.bool ((decide ((((day + (k : Int)) + 1) % 7) < 5)))))) rfl (og rfl (op_move rfl rfl rfl)) ?_
              rcases fot ((decide ((((day + (k : Int)) + 1) % 7) < 5))) with h21 | h21
              · skip
                have h22 := f_dec h21
                refine rg_put (d := 44) (v := .d (.fl undef)) rfl (on rfl rfl rfl h21) ?_
                refine rg_put (d := 45) (v := .d (.fl undef)) rfl (on rfl rfl rfl h21) ?_
                refine rg_put (d := 46) (v := .d (.fl undef)) rfl (on rfl rfl rfl h21) ?_
                refine rg_put (d := 47) (v := .d (.fl undef)) rfl (on rfl rfl rfl h21) ?_
                refine rg_put (d := 48) (v := .d (.fl (.bool false))) rfl (og rfl (op_pick rfl rfl (by rw [h21]; rfl) rfl)) ?_
                refine rg_done rfl ?_
                refine a_condF rfl rfl ?_
                refine a_skip ?_
                have hin := isD_t h20
                have hbz : biz cal (day + (k : Int) + 1) = false := by unfold biz; simp only [h21]; rfl
                have hbs : bz cal day (k + 1) = bz cal day k + 0 := by rw [bz_succ, hbz]; rfl
                have hst := hl.trans (lat_go (by omega) (by omega))
                rw [hbz] at hst
                have hst : lat cal (795363 - day).toNat day n = lat cal ((795363 - day).toNat - (k + 1)) (day + ((k + 1 : Nat) : Int)) (n - bz cal day (k + 1)) := by
                  rw [hst, hbs, show day + ((k + 1 : Nat) : Int) = day + (k : Int) + 1 by omega]
                  congr 1; show n - bz cal day k = _; omega
                show ∃ i, _ ∧ _ ∧ Imp _ _ _ _ _
                refine ⟨k + 1, ⟨by omega, by omega, hst⟩, by omega, imp_forget rfl ⟨rfl, rfl, rfl, rfl, rfl, rfl, rfl, rfl, (by first | rfl | exact ci (by omega) | exact ci (by simp) | exact cd (by simp) | simp), (by first | rfl | exact ci (by omega) | exact ci (by simp) | exact cd (by simp) | simp), trivial⟩ ⟨(by first | rfl | simp), trivial⟩⟩
              · skip
                have h23 := t_dec h21
                refine rg_put (d := 44) (v := .ow 101) rfl (oy rfl rfl rfl h21 (op_move rfl rfl rfl)) ?_
                refine rg_put (d := 45) (v := .d (.fl (.int .i64 (((day + (k : Int)) + 1))))) rfl (oy rfl rfl rfl h21 (op_move rfl rfl rfl)) ?_
                rcases fot (((fr cal day j).contains (((day + (k : Int)) + 1)))) with h24 | h24
                · skip
                  refine rg_put (d := 46) (v := .d (.fl (.bool false))) rfl (oy rfl rfl rfl h21 (op_lookup1 rfl Tryd.underlying157 Tryd.underlying3 rfl ti4 rfl rfl (.ow rfl) rfl (r := none) (mkE_f h24) rfl rfl)) ?_
                  refine rg_put (d := 47) (v := .d (.fl (.bool (!false)))) rfl (oy rfl rfl rfl h21 (op_un rfl rfl (u_not _) rfl)) ?_
                  refine rg_put (d := 48) (v := .d (.fl (.bool (!false)))) rfl (og rfl (op_pick rfl rfl (by rw [h21]; rfl) rfl)) ?_
                  refine rg_done rfl ?_
                  refine a_condK rfl (not_t' rfl) ?_
                  refine a_region ?_
                  refine rg_put (d := 49) (v := .d (.fl (.int .i64 (n - bz cal day k)))) rfl (og rfl (op_move rfl rfl rfl)) ?_
                  refine rg_put (d := 50) (v := .d (.fl (.int .i64 (((n - bz cal day k) - 1))))) rfl (og rfl (op_bin rfl rfl rfl (fun x y w => b_sub64 _ _ _ x y w (by omega)) rfl)) ?_
                  refine rg_put (d := 2) (v := .d (.fl (.int .i64 (((n - bz cal day k) - 1))))) rfl (og rfl (op_assign rfl rfl rfl)) ?_
                  refine rg_done rfl ?_
                  have hin := isD_t h20
                  have hh : hol cal (day + (k : Int) + 1) = false := (fr_hol (by omega) hj (by omega)).symm.trans h24
                  have hbz : biz cal (day + (k : Int) + 1) = true := by unfold biz; simp only [h21, hh]; rfl
                  have hbs : bz cal day (k + 1) = bz cal day k + 1 := by rw [bz_succ, hbz]; rfl
                  have hst := hl.trans (lat_go (by omega) (by omega))
                  rw [hbz] at hst
                  have hst : lat cal (795363 - day).toNat day n = lat cal ((795363 - day).toNat - (k + 1)) (day + ((k + 1 : Nat) : Int)) (n - bz cal day (k + 1)) := by
                    rw [hst, hbs, show day + ((k + 1 : Nat) : Int) = day + (k : Int) + 1 by omega]
                    congr 1; show (n - bz cal day k) - 1 = _; omega
                  show ∃ i, _ ∧ _ ∧ Imp _ _ _ _ _
                  refine ⟨k + 1, ⟨by omega, by omega, hst⟩, by omega, imp_forget rfl ⟨rfl, rfl, rfl, rfl, rfl, rfl, rfl, rfl, (by first | rfl | exact ci (by omega) | exact ci (by simp) | exact cd (by simp) | simp), (by first | rfl | exact ci (by omega) | exact ci (by simp) | exact cd (by simp) | simp), trivial⟩ ⟨(by first | rfl | simp), trivial⟩⟩
                · skip
                  refine rg_put (d := 46) (v := .d (.fl (.bool true))) rfl (oy rfl rfl rfl h21 (op_lookup1 rfl Tryd.underlying157 Tryd.underlying3 rfl ti4 rfl rfl (.ow rfl) rfl (r := (some (.fl (.bool true)))) (mkE_t h24) rfl rfl)) ?_
                  refine rg_put (d := 47) (v := .d (.fl (.bool (!true)))) rfl (oy rfl rfl rfl h21 (op_un rfl rfl (u_not _) rfl)) ?_
                  refine rg_put (d := 48) (v := .d (.fl (.bool (!true)))) rfl (og rfl (op_pick rfl rfl (by rw [h21]; rfl) rfl)) ?_
                  refine rg_done rfl ?_
                  refine a_condF rfl (not_f rfl) ?_
                  refine a_skip ?_
                  have hin := isD_t h20
                  have hh : hol cal (day + (k : Int) + 1) = true := (fr_hol (by omega) hj (by omega)).symm.trans h24
                  have hbz : biz cal (day + (k : Int) + 1) = false := by unfold biz; simp only [h21, hh]; rfl
                  have hbs : bz cal day (k + 1) = bz cal day k + 0 := by rw [bz_succ, hbz]; rfl
                  have hst := hl.trans (lat_go (by omega) (by omega))
                  rw [hbz] at hst
                  have hst : lat cal (795363 - day).toNat day n = lat cal ((795363 - day).toNat - (k + 1)) (day + ((k + 1 : Nat) : Int)) (n - bz cal day (k + 1)) := by
                    rw [hst, hbs, show day + ((k + 1 : Nat) : Int) = day + (k : Int) + 1 by omega]
                    congr 1; show n - bz cal day k = _; omega
                  show ∃ i, _ ∧ _ ∧ Imp _ _ _ _ _
                  refine ⟨k + 1, ⟨by omega, by omega, hst⟩, by omega, imp_forget rfl ⟨rfl, rfl, rfl, rfl, rfl, rfl, rfl, rfl, (by first | rfl | exact ci (by omega) | exact ci (by simp) | exact cd (by simp) | simp), (by first | rfl | exact ci (by omega) | exact ci (by simp) | exact cd (by simp) | simp), trivial⟩ ⟨(by first | rfl | simp), trivial⟩⟩
          · skip
            have h25 := f_dec h16
            refine a_exit ?_
            show A _ _ _ _ _ _ _
            refine a_rseq ?_
            refine rg_put (d := 51) (v := .d (.fl (.int .i64 ((day + (k : Int)))))) rfl (og rfl (op_move rfl rfl rfl)) ?_
            refine rg_put (d := 6) (v := .d (.fl (.int .i64 ((day + (k : Int)))))) rfl (og rfl (op_assign rfl rfl rfl)) ?_
            refine rg_put (d := 7) (v := .d (.fl (.int .i64 0))) rfl (og rfl (op_assign rfl rfl rfl)) ?_
            refine rg_done rfl ?_
            refine a_ret ?_
            show ∃ ds, ResL _ _ _ ds ∧ RV.of ds = _
            refine ⟨[.fl (.int .i64 ((day + (k : Int)))), .fl (.int .i64 0)], (.cons (.tmp rfl (.d _)) (.cons (.tmp rfl (.d _)) .nil)), ?_⟩
            have hu : latS cal day n = ((day + (k : Int)), 0) := by
              unfold latS; simp only [h1, h3, h4, h6, h9, h16]
              show lat cal _ day n = _
              rw [hl, lat_done (by omega)]
            rw [hu]; rfl
    · skip
      have h26 := t_dec h4
      refine rg_put (d := 17) (v := .d (.fl undef)) rfl (on rfl rfl rfl h4) ?_
      refine rg_put (d := 18) (v := .d (.fl undef)) rfl (on rfl rfl rfl h4) ?_
      refine rg_put (d := 19) (v := .d (.fl (.bool true))) rfl (og rfl (op_pick rfl rfl (by rw [h4]; rfl) rfl)) ?_
      refine rg_done rfl ?_
      refine a_condK rfl rfl ?_
      refine a_rseq ?_
      refine rg_put (d := 6) (v := .d (.fl (.int .i64 0))) rfl (og rfl (op_assign rfl rfl rfl)) ?_
      refine rg_put (d := 7) (v := .d (.fl (.int .i64 1))) rfl (og rfl (op_assign rfl rfl rfl)) ?_
      refine rg_done rfl ?_
      refine a_ret ?_
      show ∃ ds, ResL _ _ _ ds ∧ RV.of ds = _
      refine ⟨[.fl (.int .i64 0), .fl (.int .i64 1)], (.cons (.tmp rfl (.d _)) (.cons (.tmp rfl (.d _)) .nil)), ?_⟩
      have hu : latS cal day n = (0, 1) := by
        unfold latS; simp only [h1, h3, h4]; rfl
      rw [hu]; rfl
set_option maxHeartbeats 4000000 in
set_option maxRecDepth 100000 in
theorem later38 (cal : List Int) (day n : Int) (hl0 : cal.length < 9223372036854775807) : Ctr Tryd.prog 84 [.sl 1 (List.map (rI .i64) cal), .fl (.int .i64 day), .fl (.int .i64 n)] (.tu [.fl (.int .i64 (latS cal day n).1), .fl (.int .i64 (latS cal day n).2)]) := by
  refine ctr (n := 41) (rs := #[.tmp 6, .tmp 7]) (L := [(0, .d (.sl 1 (List.map (rI .i64) cal))), (1, .d (.fl (.int .i64 day))), (2, .d (.fl (.int .i64 n)))]) Tryd.func84 rfl rfl rfl rfl rfl (fun w0 U0 => ?_)
  refine a_rseq ?_
  refine rg_put (d := 6) (v := .d (.fl (.int .i64 0))) rfl (og rfl (op_assign rfl rfl rfl)) ?_
  refine rg_put (d := 7) (v := .d (.fl (.int .i64 0))) rfl (og rfl (op_assign rfl rfl rfl)) ?_
  refine rg_done rfl ?_
  refine a_seq ?_
  refine a_rseq ?_
  refine rg_put (d := 10) (v := .d (.fl (.int .i64 day))) rfl (og rfl (op_move rfl rfl rfl)) ?_
  refine rg_put (d := 11) (v := .d (.fl (.bool (isD day)))) rfl (og rfl (op_call rfl Tryd.func36 nm36 rfl (.cons rfl (.d _) .nil) (isD33 day) rfl)) ?_
  refine rg_put (d := 12) (v := .d (.fl (.bool ((!(isD day)))))) rfl (og rfl (op_un rfl rfl (u_not _) rfl)) ?_
  refine rg_done rfl ?_
  refine a_cond rfl (fun h1 => ?_) (fun h1 => ?_)
  · skip
    have h2 := t_not h1
    have := isD_f h2
    refine a_rseq ?_
    refine rg_put (d := 6) (v := .d (.fl (.int .i64 0))) rfl (og rfl (op_assign rfl rfl rfl)) ?_
    refine rg_put (d := 7) (v := .d (.fl (.int .i64 12))) rfl (og rfl (op_assign rfl rfl rfl)) ?_
    refine rg_done rfl ?_
    refine a_ret ?_
    show ∃ ds, ResL _ _ _ ds ∧ RV.of ds = _
    refine ⟨[.fl (.int .i64 0), .fl (.int .i64 12)], (.cons (.tmp rfl (.d _)) (.cons (.tmp rfl (.d _)) .nil)), ?_⟩
    have hu : latS cal day n = (0, 12) := by
      unfold latS; simp only [h1, h2]; rfl
    rw [hu]; rfl
  · skip
    have h3 := f_not h1
    have := isD_t h3
    refine a_skip ?_
    show A _ _ _ _ _ _ _
    refine a_seq ?_
    refine a_rseq ?_
    refine rg_put (d := 13) (v := .d (.fl (.int .i64 n))) rfl (og rfl (op_move rfl rfl rfl)) ?_
    refine rg_put (d := 14) (v := .d (.fl (.bool ((decide (n < 0)))))) rfl (og rfl (op_bin rfl rfl rfl (b_lss _ _ _ _) rfl)) ?_
    refine rg_put (d := 15) (v := .d (.fl (.bool ((decide (n < 0)))))) rfl (og rfl (op_move rfl rfl rfl)) ?_
    rcases fot ((decide (n < 0))) with h4 | h4
    · skip
      have h5 := f_dec h4
      refine rg_put (d := 16) (v := .d (.fl (.int .i64 n))) rfl (oy rfl rfl rfl h4 (op_move rfl rfl rfl)) ?_
      refine rg_put (d := 17) (v := .d (.fl (.bool ((decide (4096 < n)))))) rfl (oy rfl rfl rfl h4 (op_bin rfl rfl rfl (b_gtr _ _ _ _) rfl)) ?_
      refine rg_put (d := 18) (v := .d (.fl (.bool ((decide (4096 < n)))))) rfl (og rfl (op_pick rfl rfl (by rw [h4]; rfl) rfl)) ?_
      refine rg_done rfl ?_
      refine a_cond rfl (fun h6 => ?_) (fun h6 => ?_)
      · skip
        have h7 := t_dec h6
        refine a_rseq ?_
        refine rg_put (d := 6) (v := .d (.fl (.int .i64 0))) rfl (og rfl (op_assign rfl rfl rfl)) ?_
        refine rg_put (d := 7) (v := .d (.fl (.int .i64 1))) rfl (og rfl (op_assign rfl rfl rfl)) ?_
        refine rg_done rfl ?_
        refine a_ret ?_
        show ∃ ds, ResL _ _ _ ds ∧ RV.of ds = _
        refine ⟨[.fl (.int .i64 0), .fl (.int .i64 1)], (.cons (.tmp rfl (.d _)) (.cons (.tmp rfl (.d _)) .nil)), ?_⟩
        have hu : latS cal day n = (0, 1) := by
          unfold latS; simp only [h1, h3, h4, h6]; rfl
        rw [hu]; rfl
      · skip
        have h8 := f_dec h6
        refine a_skip ?_
        show A _ _ _ _ _ _ _
        refine a_rseq ?_
        refine rg_put (d := 19) (v := .d (.fl (.int .i64 day))) rfl (og rfl (op_move rfl rfl rfl)) ?_
        refine rg_put (d := 8) (v := .d (.fl (.int .i64 day))) rfl (og rfl (op_assign rfl rfl rfl)) ?_
        refine rg_done rfl ?_
        refine a_seq ?_
        refine a_rseq ?_
        refine rg_put (d := 9) (v := .d (.fl (.int .i64 0))) rfl (og rfl (op_assign rfl rfl rfl)) ?_
        refine rg_done rfl ?_
        refine a_block ?_
        refine a_loop (ι := Nat × Nat) (fun p => SS [(0, .d (.sl 1 (List.map (rI .i64) cal))), (1, .d (.fl (.int .i64 day))), (2, .d (.fl (.int .i64 n))), (12, .d (.fl (.bool ((!(isD day)))))), (18, .d (.fl (.bool ((decide (4096 < n)))))), (8, .d (.fl (.int .i64 ((day + (p.2 : Int)))))), (9, .d (.fl (.int .i64 (p.1 : Int))))] []) (fun p => (p.1 : Int) ≤ n ∧ p.2 ≤ (795363 - day).toNat ∧ lat cal (795363 - day).toNat day n = lat cal ((795363 - day).toNat - p.2) (day + (p.2 : Int)) (n - (p.1 : Int))) (fun p => n.toNat - p.1) (0, 0) (⟨by show (0 : Int) ≤ n; omega, by show 0 ≤ _; omega, by show _ = lat cal _ (day + 0) (n - 0); rw [Int.add_zero, Int.sub_zero, Nat.sub_zero]⟩) (imp_forget rfl ⟨rfl, rfl, rfl, rfl, rfl, (ci (by show day = day + 0; omega)), rfl, trivial⟩ trivial) (fun p hok => ?_)
        obtain ⟨hk, hp2, hl⟩ := hok
        refine a_seq ?_
        refine a_rseq ?_
        refine rg_put (d := 20) (v := .d (.fl (.int .i64 (p.1 : Int)))) rfl (og rfl (op_move rfl rfl rfl)) ?_
        refine rg_put (d := 21) (v := .d (.fl (.int .i64 n))) rfl (og rfl (op_move rfl rfl rfl)) ?_
        refine rg_put (d := 22) (v := .d (.fl (.bool ((decide ((p.1 : Int) < n)))))) rfl (og rfl (op_bin rfl rfl rfl (b_lss _ _ _ _) rfl)) ?_
        refine rg_done rfl ?_
        refine a_cond rfl (fun h9 => ?_) (fun h9 => ?_)
        · skip
          have h10 := t_dec h9
          refine a_skip ?_
          show A _ _ _ _ _ _ _
          refine a_seq ?_
          refine a_block ?_
          refine a_rseq ?_
          refine rg_put (d := 25) (v := .d (.fl (.int .i64 ((day + (p.2 : Int)))))) rfl (og rfl (op_move rfl rfl rfl)) ?_
          refine rg_put (d := 26) (v := .d (.fl (.int .i64 (((day + (p.2 : Int)) + 1))))) rfl (og rfl (op_bin rfl rfl rfl (fun x y w => b_add64 _ _ _ x y w (by omega)) rfl)) ?_
          refine rg_put (d := 8) (v := .d (.fl (.int .i64 (((day + (p.2 : Int)) + 1))))) rfl (og rfl (op_assign rfl rfl rfl)) ?_
          refine rg_done rfl ?_
          refine a_seq ?_
          refine a_block ?_
          refine a_loop (ι := Nat) (fun q => SS [(0, .d (.sl 1 (List.map (rI .i64) cal))), (1, .d (.fl (.int .i64 day))), (2, .d (.fl (.int .i64 n))), (9, .d (.fl (.int .i64 (p.1 : Int)))), (12, .d (.fl (.bool ((!(isD day)))))), (18, .d (.fl (.bool ((decide (4096 < n)))))), (22, .d (.fl (.bool ((decide ((p.1 : Int) < n)))))), (8, .d (.fl (.int .i64 ((day + (q : Int))))))] []) (fun q => p.2 + 1 ≤ q ∧ q ≤ (795363 - day).toNat + 1 ∧ lat cal (795363 - day).toNat day n = lat cal ((795363 - day).toNat - (q - 1)) (day + (q : Int) - 1) (n - (p.1 : Int))) (fun q => (795363 - day).toNat + 2 - q) (p.2 + 1) (⟨by omega, by omega, by rw [hl, show p.2 + 1 - 1 = p.2 by omega, show day + ((p.2 + 1 : Nat) : Int) - 1 = day + (p.2 : Int) by omega]⟩) (imp_forget rfl ⟨rfl, rfl, rfl, rfl, rfl, rfl, rfl, (ci (by omega)), trivial⟩ trivial) (fun q hok => ?_)
          obtain ⟨hq1, hq2, hi⟩ := hok
          refine a_seq ?_
          refine a_rseq ?_
          refine rg_put (d := 27) (v := .d (.fl (.int .i64 ((day + (q : Int)))))) rfl (og rfl (op_move rfl rfl rfl)) ?_
          refine rg_put (d := 28) (v := .d (.fl (.bool ((isD ((day + (q : Int)))))))) rfl (og rfl (op_call rfl Tryd.func36 nm36 rfl (.cons rfl (.d _) .nil) (isD33 ((day + (q : Int)))) rfl)) ?_
          refine rg_put (d := 29) (v := .d (.fl (.bool ((isD ((day + (q : Int)))))))) rfl (og rfl (op_move rfl rfl rfl)) ?_
          rcases fot ((isD ((day + (q : Int))))) with h11 | h11
          · skip
            have := isD_f h11
            refine rg_put (d := 30) (v := .d (.fl undef)) rfl (on rfl rfl rfl h11) ?_
            refine rg_put (d := 31) (v := .d (.fl undef)) rfl (on rfl rfl rfl h11) ?_
            refine rg_put (d := 32) (v := .d (.fl undef)) rfl (on rfl rfl rfl h11) ?_
            refine rg_put (d := 33) (v := .d (.fl undef)) rfl (on rfl rfl rfl h11) ?_
            refine rg_put (d := 34) (v := .d (.fl (.bool false))) rfl (og rfl (op_pick rfl rfl (by rw [h11]; rfl) rfl)) ?_
            refine rg_done rfl ?_
            refine a_condF rfl rfl ?_
            refine a_exit ?_
            show A _ _ _ _ _ _ _
            refine a_rseq ?_
            refine rg_put (d := 37) (v := .d (.fl (.int .i64 ((day + (q : Int)))))) rfl (og rfl (op_move rfl rfl rfl)) ?_
            refine rg_put (d := 38) (v := .d (.fl (.bool ((isD ((day + (q : Int)))))))) rfl (og rfl (op_call rfl Tryd.func36 nm36 rfl (.cons rfl (.d _) .nil) (isD33 ((day + (q : Int)))) rfl)) ?_
            refine rg_put (d := 39) (v := .d (.fl (.bool ((!((isD ((day + (q : Int)))))))))) rfl (og rfl (op_un rfl rfl (u_not _) rfl)) ?_
            refine rg_done rfl ?_
            refine a_condK rfl (not_t' h11) ?_
            refine a_rseq ?_
            refine rg_put (d := 6) (v := .d (.fl (.int .i64 0))) rfl (og rfl (op_assign rfl rfl rfl)) ?_
            refine rg_put (d := 7) (v := .d (.fl (.int .i64 12))) rfl (og rfl (op_assign rfl rfl rfl)) ?_
            refine rg_done rfl ?_
            refine a_ret ?_
            show ∃ ds, ResL _ _ _ ds ∧ RV.of ds = _
            refine ⟨[.fl (.int .i64 0), .fl (.int .i64 12)], (.cons (.tmp rfl (.d _)) (.cons (.tmp rfl (.d _)) .nil)), ?_⟩
            have hu : latS cal day n = (0, 12) := by
              unfold latS; simp only [h1, h3, h4, h6, h9, h11]
              show lat cal _ day n = _
              rw [hi, lat_out (by omega) (by omega)]
            rw [hu]; rfl
          · skip
            have := isD_t h11
            refine rg_put (d := 30) (v := .d (.sl 1 (List.map (rI .i64) cal))) rfl (oy rfl rfl rfl h11 (op_move rfl rfl rfl)) ?_
            refine rg_put (d := 31) (v := .d (.fl (.int .i64 ((day + (q : Int)))))) rfl (oy rfl rfl rfl h11 (op_move rfl rfl rfl)) ?_
            refine rg_put (d := 32) (v := .d (.fl (.bool ((biz cal ((day + (q : Int)))))))) rfl (oy rfl rfl rfl h11 (op_call rfl Tryd.func95 nm95 rfl (.cons rfl (.d _) (.cons rfl (.d _) .nil)) (biz46 cal ((day + (q : Int))) h11 (by omega)) rfl)) ?_
            refine rg_put (d := 33) (v := .d (.fl (.bool ((!((biz cal ((day + (q : Int)))))))))) rfl (oy rfl rfl rfl h11 (op_un rfl rfl (u_not _) rfl)) ?_
            refine rg_put (d := 34) (v := .d (.fl (.bool ((!((biz cal ((day + (q : Int)))))))))) rfl (og rfl (op_pick rfl rfl (by rw [h11]; rfl) rfl)) ?_
            refine rg_done rfl ?_
            refine a_cond rfl (fun h12 => ?_) (fun h12 => ?_)
            · skip
              have h13 := t_not h12
              refine a_skip ?_
              show A _ _ _ _ _ _ _
              refine a_block ?_
              refine a_region ?_
              refine rg_put (d := 35) (v := .d (.fl (.int .i64 ((day + (q : Int)))))) rfl (og rfl (op_move rfl rfl rfl)) ?_
              refine rg_put (d := 36) (v := .d (.fl (.int .i64 (((day + (q : Int)) + 1))))) rfl (og rfl (op_bin rfl rfl rfl (fun x y w => b_add64 _ _ _ x y w (by omega)) rfl)) ?_
              refine rg_put (d := 8) (v := .d (.fl (.int .i64 (((day + (q : Int)) + 1))))) rfl (og rfl (op_assign rfl rfl rfl)) ?_
              refine rg_done rfl ?_
              have hin := isD_t h11
              have hst := hi.trans (lat_go (k := q - 1) (by omega) (by omega))
              rw [show q - 1 + 1 = q by omega, show day + (q : Int) - 1 + 1 = day + (q : Int) by omega, h13] at hst
              have hst : lat cal (795363 - day).toNat day n = lat cal ((795363 - day).toNat - (q + 1 - 1)) (day + ((q + 1 : Nat) : Int) - 1) (n - (p.1 : Int)) := by rw [hst, show q + 1 - 1 = q by omega, show day + ((q + 1 : Nat) : Int) - 1 = day + (q : Int) by omega]; rfl
              show ∃ i, _ ∧ _ ∧ Imp _ _ _ _ _
              refine ⟨q + 1, ⟨by omega, by omega, hst⟩, by omega, imp_forget rfl ⟨rfl, rfl, rfl, rfl, rfl, rfl, rfl, (by first | rfl | exact ci (by omega) | exact ci (by simp) | exact cd (by simp) | simp), trivial⟩ trivial⟩
            · skip
              have h14 := f_not h12
              refine a_exit ?_
              show A _ _ _ _ _ _ _
              refine a_rseq ?_
              refine rg_put (d := 37) (v := .d (.fl (.int .i64 ((day + (q : Int)))))) rfl (og rfl (op_move rfl rfl rfl)) ?_
              refine rg_put (d := 38) (v := .d (.fl (.bool ((isD ((day + (q : Int)))))))) rfl (og rfl (op_call rfl Tryd.func36 nm36 rfl (.cons rfl (.d _) .nil) (isD33 ((day + (q : Int)))) rfl)) ?_
              refine rg_put (d := 39) (v := .d (.fl (.bool ((!((isD ((day + (q : Int)))))))))) rfl (og rfl (op_un rfl rfl (u_not _) rfl)) ?_
              refine rg_done rfl ?_
              refine a_condF rfl (not_f h11) ?_
              refine a_skip ?_
              show A _ _ _ _ _ _ _
              refine a_region ?_
              refine rg_put (d := 23) (v := .d (.fl (.int .i64 (p.1 : Int)))) rfl (og rfl (op_move rfl rfl rfl)) ?_
              refine rg_put (d := 24) (v := .d (.fl (.int .i64 (((p.1 : Int) + 1))))) rfl (og rfl (op_bin rfl rfl rfl (fun x y w => b_add64 _ _ _ x y w (by omega)) rfl)) ?_
              refine rg_put (d := 9) (v := .d (.fl (.int .i64 (((p.1 : Int) + 1))))) rfl (og rfl (op_assign rfl rfl rfl)) ?_
              refine rg_done rfl ?_
              have hin := isD_t h11
              have hst := hi.trans (lat_go (k := q - 1) (by omega) (by omega))
              rw [show q - 1 + 1 = q by omega, show day + (q : Int) - 1 + 1 = day + (q : Int) by omega, h14] at hst
              have hst : lat cal (795363 - day).toNat day n = lat cal ((795363 - day).toNat - q) (day + (q : Int)) (n - ((p.1 + 1 : Nat) : Int)) := by rw [hst]; congr 1; show n - (p.1 : Int) - 1 = _; omega
              show ∃ i, _ ∧ _ ∧ Imp _ _ _ _ _
              refine ⟨(p.1 + 1, q), ⟨by show ((p.1 + 1 : Nat) : Int) ≤ n; omega, by show q ≤ _; omega, hst⟩, by show n.toNat - (p.1 + 1) < _; omega, imp_forget rfl ⟨rfl, rfl, rfl, rfl, rfl, rfl, (ci (by show (p.1 : Int) + 1 = ((p.1 + 1 : Nat) : Int); omega)), trivial⟩ trivial⟩
        · skip
          have h15 := f_dec h9
          refine a_exit ?_
          show A _ _ _ _ _ _ _
          refine a_rseq ?_
          refine rg_put (d := 40) (v := .d (.fl (.int .i64 ((day + (p.2 : Int)))))) rfl (og rfl (op_move rfl rfl rfl)) ?_
          refine rg_put (d := 6) (v := .d (.fl (.int .i64 ((day + (p.2 : Int)))))) rfl (og rfl (op_assign rfl rfl rfl)) ?_
          refine rg_put (d := 7) (v := .d (.fl (.int .i64 0))) rfl (og rfl (op_assign rfl rfl rfl)) ?_
          refine rg_done rfl ?_
          refine a_ret ?_
          show ∃ ds, ResL _ _ _ ds ∧ RV.of ds = _
          refine ⟨[.fl (.int .i64 ((day + (p.2 : Int)))), .fl (.int .i64 0)], (.cons (.tmp rfl (.d _)) (.cons (.tmp rfl (.d _)) .nil)), ?_⟩
          have hu : latS cal day n = ((day + (p.2 : Int)), 0) := by
            unfold latS; simp only [h1, h3, h4, h6, h9]
            show lat cal _ day n = _
            rw [hl, lat_done (by omega)]
          rw [hu]; rfl
    · skip
      have h16 := t_dec h4
      refine rg_put (d := 16) (v := .d (.fl undef)) rfl (on rfl rfl rfl h4) ?_
      refine rg_put (d := 17) (v := .d (.fl undef)) rfl (on rfl rfl rfl h4) ?_
      refine rg_put (d := 18) (v := .d (.fl (.bool true))) rfl (og rfl (op_pick rfl rfl (by rw [h4]; rfl) rfl)) ?_
      refine rg_done rfl ?_
      refine a_condK rfl rfl ?_
      refine a_rseq ?_
      refine rg_put (d := 6) (v := .d (.fl (.int .i64 0))) rfl (og rfl (op_assign rfl rfl rfl)) ?_
      refine rg_put (d := 7) (v := .d (.fl (.int .i64 1))) rfl (og rfl (op_assign rfl rfl rfl)) ?_
      refine rg_done rfl ?_
      refine a_ret ?_
      show ∃ ds, ResL _ _ _ ds ∧ RV.of ds = _
      refine ⟨[.fl (.int .i64 0), .fl (.int .i64 1)], (.cons (.tmp rfl (.d _)) (.cons (.tmp rfl (.d _)) .nil)), ?_⟩
      have hu : latS cal day n = (0, 1) := by
        unfold latS; simp only [h1, h3, h4]; rfl
      rw [hu]; rfl
end Go.Proofs.YtglhonnmppclpaaDoor.Lq
set_option linter.unusedSimpArgs false
set_option linter.unusedVariables false
namespace Go.Proofs.YtglhonnmppclpaaDoor.Lq
open Go Go.RowKit Go.Proofs.YtglhonnmppclpaaDoor.Av Go.Proofs.YtglhonnmppclpaaDoor.Wk
theorem opn_t {x : Cs} (h : opn x = true) : 1 ≤ x.stage ∧ x.stage ≤ 5 := by simpa [opn] using h
def dueB (w : Lw) (x : Cs) : Bool := (ckL w != 0) || !(opn x) || (x.stage == 5) || (x.ap.state == 1)
def due (w : Lw) (cal : List Int) (x : Cs) : Int × Bool := if dueB w x = true then (0, false) else ((latS cal x.since (ix w.days (x.stage - 1).toNat)).1, ((latS cal x.since (ix w.days (x.stage - 1).toNat)).2 == 0))
theorem dueB_alt (w : Lw) (x : Cs) : dueB w x = ((ckL w != 0) || decide (x.stage < 1) || decide (4 < x.stage) || (x.ap.state == 1)) := by
  rw [Bool.eq_iff_iff]
  simp [dueB, opn]
  omega
set_option maxHeartbeats 4000000 in
set_option maxRecDepth 100000 in
theorem due19 (w : Lw) (cal : List Int) (x : Cs) (hl0 : cal.length < 9223372036854775807) : Ctr Tryd.prog 47 [.ag (eLw w), .sl 1 (List.map (rI .i64) cal), .ag (eCs x)] (.tu [.fl (.int .i64 (due w cal x).1), .fl (.bool (due w cal x).2)]) := by
  refine ctr (n := 46) (rs := #[.tmp 6, .tmp 7]) (L := [(0, .d (.ag (eLw w))), (1, .d (.sl 1 (List.map (rI .i64) cal))), (2, .d (.ag (eCs x)))]) Tryd.func47 rfl rfl rfl rfl rfl (fun w0 U0 => ?_)
  refine a_rseq ?_
  refine rg_nam (d := 3) (v := .pt 101 0) (m := 101) (nw := [(101, .bx 49 (eLw w))]) rfl (og rfl (of_eff (op_box 101 rfl rfl rfl rfl) rfl)) rfl ?_
  refine rg_nam (d := 5) (v := .pt 102 0) (m := 102) (nw := [(102, .bx 102 (eCs x))]) rfl (og rfl (of_eff (op_box 102 rfl rfl rfl rfl) rfl)) rfl ?_
  refine rg_put (d := 6) (v := .d (.fl (.int .i64 0))) rfl (og rfl (op_assign rfl rfl rfl)) ?_
  refine rg_put (d := 7) (v := .d (.fl (.bool false))) rfl (og rfl (op_assign rfl rfl rfl)) ?_
  refine rg_done rfl ?_
  refine a_seq ?_
  refine a_rseq ?_
  refine rg_put (d := 10) (v := .d (.ag (eLw w))) rfl (og rfl (of_eff (s_load_pts rfl Tryd.underlying49 rfl ti49 rfl rfl rfl rfl) rfl)) ?_
  refine rg_put (d := 11) (v := .d (.fl (.int .i64 (ckL w)))) rfl (og rfl (op_call rfl Tryd.func79 nm79 rfl (.cons rfl (.d _) .nil) (ck12 w) rfl)) ?_
  refine rg_put (d := 12) (v := .d (.fl (.bool (((ckL w) != 0))))) rfl (og rfl (op_bin rfl rfl rfl (b_neq _ _ _ _) rfl)) ?_
  refine rg_put (d := 13) (v := .d (.fl (.bool (((ckL w) != 0))))) rfl (og rfl (op_move rfl rfl rfl)) ?_
  rcases fot (((ckL w) != 0)) with h1 | h1
  · skip
    obtain ⟨c1, c2, c3, c4, c5, c6⟩ := ckL_ok (f_bne h1)
    have h2 := f_bne h1
    refine rg_put (d := 14) (v := .d (.ag (eCs x))) rfl (oy rfl rfl rfl h1 (of_eff (s_load_pts rfl Tryd.underlying102 rfl ti102 rfl rfl rfl rfl) rfl)) ?_
    refine rg_put (d := 15) (v := .d (.fl (.bool (opn x)))) rfl (oy rfl rfl rfl h1 (op_call rfl Tryd.func80 nm80 rfl (.cons rfl (.d _) .nil) (opn21 x) rfl)) ?_
    refine rg_put (d := 16) (v := .d (.fl (.bool ((!(opn x)))))) rfl (oy rfl rfl rfl h1 (op_un rfl rfl (u_not _) rfl)) ?_
    refine rg_put (d := 17) (v := .d (.fl (.bool ((!(opn x)))))) rfl (og rfl (op_pick rfl rfl (by rw [h1]; rfl) rfl)) ?_
    refine rg_put (d := 18) (v := .d (.fl (.bool ((!(opn x)))))) rfl (og rfl (op_move rfl rfl rfl)) ?_
    rcases fot ((!(opn x))) with h3 | h3
    · skip
      have h4 := f_not h3
      have hop := opn_t h4
      refine rg_put (d := 19) (v := .pt 102 5) rfl (oy rfl rfl rfl h3 (of_eff (s_field_pt rfl Tryd.underlying102 rfl ti3 rfl rfl rfl) rfl)) ?_
      refine rg_put (d := 20) (v := .d (.fl (.int .i64 x.stage))) rfl (oy rfl rfl rfl h3 (op_load_pt rfl Tryd.underlying3 rfl rfl rfl rfl rfl)) ?_
      refine rg_put (d := 21) (v := .d (.fl (.bool (x.stage == 5)))) rfl (oy rfl rfl rfl h3 (op_bin rfl rfl rfl (b_eql _ _ _ _) rfl)) ?_
      refine rg_put (d := 22) (v := .d (.fl (.bool (x.stage == 5)))) rfl (og rfl (op_pick rfl rfl (by rw [h3]; rfl) rfl)) ?_
      refine rg_put (d := 23) (v := .d (.fl (.bool (x.stage == 5)))) rfl (og rfl (op_move rfl rfl rfl)) ?_
      rcases fot (x.stage == 5) with h5 | h5
      · skip
        have h6 := f_beq h5
        refine rg_put (d := 24) (v := .pt 102 9) rfl (oy rfl rfl rfl h5 (of_eff (s_field_pt rfl Tryd.underlying102 rfl ti100 rfl rfl rfl) rfl)) ?_
        refine rg_put (d := 25) (v := .pt 102 9) rfl (oy rfl rfl rfl h5 (of_eff (s_field_pt rfl Tryd.underlying100 rfl ti3 rfl rfl rfl) rfl)) ?_
        refine rg_put (d := 26) (v := .d (.fl (.int .i64 x.ap.state))) rfl (oy rfl rfl rfl h5 (op_load_pt rfl Tryd.underlying3 rfl rfl rfl rfl rfl)) ?_
        refine rg_put (d := 27) (v := .d (.fl (.bool (x.ap.state == 1)))) rfl (oy rfl rfl rfl h5 (op_bin rfl rfl rfl (b_eql _ _ _ _) rfl)) ?_
        refine rg_put (d := 28) (v := .d (.fl (.bool (x.ap.state == 1)))) rfl (og rfl (op_pick rfl rfl (by rw [h5]; rfl) rfl)) ?_
        refine rg_done rfl ?_
        refine a_cond rfl (fun h7 => ?_) (fun h7 => ?_)
        · skip
          have h8 := t_beq h7
          refine a_rseq ?_
          refine rg_put (d := 6) (v := .d (.fl (.int .i64 0))) rfl (og rfl (op_assign rfl rfl rfl)) ?_
          refine rg_put (d := 7) (v := .d (.fl (.bool false))) rfl (og rfl (op_assign rfl rfl rfl)) ?_
          refine rg_done rfl ?_
          refine a_ret ?_
          show ∃ ds, ResL _ _ _ ds ∧ RV.of ds = _
          refine ⟨[.fl (.int .i64 0), .fl (.bool false)], (.cons (.tmp rfl (.d _)) (.cons (.tmp rfl (.d _)) .nil)), ?_⟩
          have hu : due w cal x = (0, false) := by
            unfold due dueB; simp only [h1, h3, h4, h5, h7]; rfl
          rw [hu]; rfl
        · skip
          have h9 := f_beq h7
          refine a_skip ?_
          show A _ _ _ _ _ _ _
          refine a_dseq (by kernel_rfl) ?_
          refine dr_put (d := 30) (v := .d (.sl 1 (List.map (rI .i64) cal))) rfl (og rfl (op_move rfl rfl rfl)) ?_
          refine dr_put (d := 31) (v := .pt 102 4) rfl (og rfl (of_eff (s_field_pt rfl Tryd.underlying102 rfl ti3 rfl rfl rfl) rfl)) ?_
          refine dr_put (d := 32) (v := .d (.fl (.int .i64 x.since))) rfl (og rfl (op_load_pt rfl Tryd.underlying3 rfl rfl rfl rfl rfl)) ?_
          refine dr_put (d := 33) (v := .pt 101 0) rfl (og rfl (of_eff (s_field_pt rfl Tryd.underlying49 rfl ti39 rfl rfl rfl) rfl)) ?_
          refine dr_put (d := 34) (v := .d (.sl 1 (List.map (rI .i64) w.days))) rfl (og rfl (op_load_pt rfl Tryd.underlying39 rfl rfl rfl rfl rfl)) ?_
          refine dr_put (d := 35) (v := .pt 102 5) rfl (og rfl (of_eff (s_field_pt rfl Tryd.underlying102 rfl ti3 rfl rfl rfl) rfl)) ?_
          refine dr_put (d := 36) (v := .d (.fl (.int .i64 x.stage))) rfl (og rfl (op_load_pt rfl Tryd.underlying3 rfl rfl rfl rfl rfl)) ?_
          refine dr_put (d := 37) (v := .d (.fl (.int .i64 (x.stage - 1)))) rfl (og rfl (op_bin rfl rfl rfl (fun x y w => b_sub64 _ _ _ x y w (by omega)) rfl)) ?_
          refine dr_put (d := 38) (v := .el ((rI .i64 ((ix w.days ((x.stage - 1)).toNat))))) rfl (og rfl (s_index rfl Tryd.underlying39 ti3 rfl rfl (by omega) (row_atI (by omega) (by omega)) rfl)) ?_
          refine dr_put (d := 39) (v := .d (.fl (.int .i64 ((ix w.days ((x.stage - 1)).toNat))))) rfl (og rfl (op_load_el rfl Tryd.underlying3 rfl rfl rfl rfl)) ?_
          refine dr_put (d := 40) (v := .tu [.fl (.int .i64 ((latS cal x.since ((ix w.days ((x.stage - 1)).toNat))).1)), .fl (.int .i64 ((latS cal x.since ((ix w.days ((x.stage - 1)).toNat))).2))]) rfl (og rfl (op_call rfl Tryd.func81 nm81 rfl (.cons rfl (.d _) (.cons rfl (.d _) (.cons rfl (.d _) .nil))) (later37 cal x.since ((ix w.days ((x.stage - 1)).toNat)) (by omega)) rfl)) ?_
          refine dr_put (d := 29) (v := .tu [.fl (.int .i64 ((latS cal x.since ((ix w.days ((x.stage - 1)).toNat))).1)), .fl (.int .i64 ((latS cal x.since ((ix w.days ((x.stage - 1)).toNat))).2))]) rfl (og rfl (op_move rfl rfl rfl)) ?_
          refine dr_put (d := 41) (v := .d (.fl (.int .i64 ((latS cal x.since ((ix w.days ((x.stage - 1)).toNat))).1)))) rfl (og rfl (op_extract rfl rfl rfl rfl)) ?_
          refine dr_put (d := 42) (v := .d (.fl (.int .i64 ((latS cal x.since ((ix w.days ((x.stage - 1)).toNat))).2)))) rfl (og rfl (op_extract rfl rfl rfl rfl)) ?_
          refine dr_put (d := 8) (v := .d (.fl (.int .i64 ((latS cal x.since ((ix w.days ((x.stage - 1)).toNat))).1)))) rfl (og rfl (op_assign rfl rfl rfl)) ?_
          refine dr_put (d := 9) (v := .d (.fl (.int .i64 ((latS cal x.since ((ix w.days ((x.stage - 1)).toNat))).2)))) rfl (og rfl (op_assign rfl rfl rfl)) ?_
          refine dr_done rfl (sepB_of [0, 0, 2, 0, 8, 0, 32, 96, 248, 504, 1023, 2047, 4095, 4095, 8191, 32767] (by kernel_rfl)) (by kernel_rfl) ?_
          refine a_rseq ?_
          refine rg_put (d := 43) (v := .d (.fl (.int .i64 ((latS cal x.since ((ix w.days ((x.stage - 1)).toNat))).1)))) rfl (og rfl (op_move rfl rfl rfl)) ?_
          refine rg_put (d := 44) (v := .d (.fl (.int .i64 ((latS cal x.since ((ix w.days ((x.stage - 1)).toNat))).2)))) rfl (og rfl (op_move rfl rfl rfl)) ?_
          refine rg_put (d := 45) (v := .d (.fl (.bool (((latS cal x.since ((ix w.days ((x.stage - 1)).toNat))).2 == 0))))) rfl (og rfl (op_bin rfl rfl rfl (b_eql _ _ _ _) rfl)) ?_
          refine rg_put (d := 6) (v := .d (.fl (.int .i64 ((latS cal x.since ((ix w.days ((x.stage - 1)).toNat))).1)))) rfl (og rfl (op_assign rfl rfl rfl)) ?_
          refine rg_put (d := 7) (v := .d (.fl (.bool (((latS cal x.since ((ix w.days ((x.stage - 1)).toNat))).2 == 0))))) rfl (og rfl (op_assign rfl rfl rfl)) ?_
          refine rg_done rfl ?_
          refine a_ret ?_
          show ∃ ds, ResL _ _ _ ds ∧ RV.of ds = _
          refine ⟨[.fl (.int .i64 ((latS cal x.since ((ix w.days ((x.stage - 1)).toNat))).1)), .fl (.bool (((latS cal x.since ((ix w.days ((x.stage - 1)).toNat))).2 == 0)))], (.cons (.tmp rfl (.d _)) (.cons (.tmp rfl (.d _)) .nil)), ?_⟩
          have hu : due w cal x = ((latS cal x.since ((ix w.days ((x.stage - 1)).toNat))).1, ((latS cal x.since ((ix w.days ((x.stage - 1)).toNat))).2 == 0)) := by
            unfold due dueB; simp only [h1, h3, h4, h5, h7]; rfl
          rw [hu]; rfl
      · skip
        have h10 := t_beq h5
        refine rg_put (d := 24) (v := .d (.fl undef)) rfl (on rfl rfl rfl h5) ?_
        refine rg_put (d := 25) (v := .d (.fl undef)) rfl (on rfl rfl rfl h5) ?_
        refine rg_put (d := 26) (v := .d (.fl undef)) rfl (on rfl rfl rfl h5) ?_
        refine rg_put (d := 27) (v := .d (.fl undef)) rfl (on rfl rfl rfl h5) ?_
        refine rg_put (d := 28) (v := .d (.fl (.bool true))) rfl (og rfl (op_pick rfl rfl (by rw [h5]; rfl) rfl)) ?_
        refine rg_done rfl ?_
        refine a_condK rfl rfl ?_
        refine a_rseq ?_
        refine rg_put (d := 6) (v := .d (.fl (.int .i64 0))) rfl (og rfl (op_assign rfl rfl rfl)) ?_
        refine rg_put (d := 7) (v := .d (.fl (.bool false))) rfl (og rfl (op_assign rfl rfl rfl)) ?_
        refine rg_done rfl ?_
        refine a_ret ?_
        show ∃ ds, ResL _ _ _ ds ∧ RV.of ds = _
        refine ⟨[.fl (.int .i64 0), .fl (.bool false)], (.cons (.tmp rfl (.d _)) (.cons (.tmp rfl (.d _)) .nil)), ?_⟩
        have hu : due w cal x = (0, false) := by
          unfold due dueB; simp only [h1, h3, h4, h5]; rfl
        rw [hu]; rfl
    · skip
      have h11 := t_not h3
      refine rg_put (d := 19) (v := .d (.fl undef)) rfl (on rfl rfl rfl h3) ?_
      refine rg_put (d := 20) (v := .d (.fl undef)) rfl (on rfl rfl rfl h3) ?_
      refine rg_put (d := 21) (v := .d (.fl undef)) rfl (on rfl rfl rfl h3) ?_
      refine rg_put (d := 22) (v := .d (.fl (.bool true))) rfl (og rfl (op_pick rfl rfl (by rw [h3]; rfl) rfl)) ?_
      refine rg_put (d := 23) (v := .d (.fl (.bool true))) rfl (og rfl (op_move rfl rfl rfl)) ?_
      refine rg_put (d := 24) (v := .d (.fl undef)) rfl (on rfl rfl rfl rfl) ?_
      refine rg_put (d := 25) (v := .d (.fl undef)) rfl (on rfl rfl rfl rfl) ?_
      refine rg_put (d := 26) (v := .d (.fl undef)) rfl (on rfl rfl rfl rfl) ?_
      refine rg_put (d := 27) (v := .d (.fl undef)) rfl (on rfl rfl rfl rfl) ?_
      refine rg_put (d := 28) (v := .d (.fl (.bool true))) rfl (og rfl (op_pick rfl rfl rfl rfl)) ?_
      refine rg_done rfl ?_
      refine a_condK rfl rfl ?_
      refine a_rseq ?_
      refine rg_put (d := 6) (v := .d (.fl (.int .i64 0))) rfl (og rfl (op_assign rfl rfl rfl)) ?_
      refine rg_put (d := 7) (v := .d (.fl (.bool false))) rfl (og rfl (op_assign rfl rfl rfl)) ?_
      refine rg_done rfl ?_
      refine a_ret ?_
      show ∃ ds, ResL _ _ _ ds ∧ RV.of ds = _
      refine ⟨[.fl (.int .i64 0), .fl (.bool false)], (.cons (.tmp rfl (.d _)) (.cons (.tmp rfl (.d _)) .nil)), ?_⟩
      have hu : due w cal x = (0, false) := by
        unfold due dueB; simp only [h1, h3, h11]; rfl
      rw [hu]; rfl
  · skip
    have h12 := t_bne h1
    refine rg_put (d := 14) (v := .d (.fl undef)) rfl (on rfl rfl rfl h1) ?_
    refine rg_put (d := 15) (v := .d (.fl undef)) rfl (on rfl rfl rfl h1) ?_
    refine rg_put (d := 16) (v := .d (.fl undef)) rfl (on rfl rfl rfl h1) ?_
    refine rg_put (d := 17) (v := .d (.fl (.bool true))) rfl (og rfl (op_pick rfl rfl (by rw [h1]; rfl) rfl)) ?_
    refine rg_put (d := 18) (v := .d (.fl (.bool true))) rfl (og rfl (op_move rfl rfl rfl)) ?_
    refine rg_put (d := 19) (v := .d (.fl undef)) rfl (on rfl rfl rfl rfl) ?_
    refine rg_put (d := 20) (v := .d (.fl undef)) rfl (on rfl rfl rfl rfl) ?_
    refine rg_put (d := 21) (v := .d (.fl undef)) rfl (on rfl rfl rfl rfl) ?_
    refine rg_put (d := 22) (v := .d (.fl (.bool true))) rfl (og rfl (op_pick rfl rfl rfl rfl)) ?_
    refine rg_put (d := 23) (v := .d (.fl (.bool true))) rfl (og rfl (op_move rfl rfl rfl)) ?_
    refine rg_put (d := 24) (v := .d (.fl undef)) rfl (on rfl rfl rfl rfl) ?_
    refine rg_put (d := 25) (v := .d (.fl undef)) rfl (on rfl rfl rfl rfl) ?_
    refine rg_put (d := 26) (v := .d (.fl undef)) rfl (on rfl rfl rfl rfl) ?_
    refine rg_put (d := 27) (v := .d (.fl undef)) rfl (on rfl rfl rfl rfl) ?_
    refine rg_put (d := 28) (v := .d (.fl (.bool true))) rfl (og rfl (op_pick rfl rfl rfl rfl)) ?_
    refine rg_done rfl ?_
    refine a_condK rfl rfl ?_
    refine a_rseq ?_
    refine rg_put (d := 6) (v := .d (.fl (.int .i64 0))) rfl (og rfl (op_assign rfl rfl rfl)) ?_
    refine rg_put (d := 7) (v := .d (.fl (.bool false))) rfl (og rfl (op_assign rfl rfl rfl)) ?_
    refine rg_done rfl ?_
    refine a_ret ?_
    show ∃ ds, ResL _ _ _ ds ∧ RV.of ds = _
    refine ⟨[.fl (.int .i64 0), .fl (.bool false)], (.cons (.tmp rfl (.d _)) (.cons (.tmp rfl (.d _)) .nil)), ?_⟩
    have hu : due w cal x = (0, false) := by
      unfold due dueB; simp only [h1]; rfl
    rw [hu]; rfl
set_option maxHeartbeats 4000000 in
set_option maxRecDepth 100000 in
theorem due20 (w : Lw) (cal : List Int) (x : Cs) (hl0 : cal.length < 9223372036854775807) : Ctr Tryd.prog 52 [.ag (eLw w), .sl 1 (List.map (rI .i64) cal), .ag (eCs x)] (.tu [.fl (.int .i64 (due w cal x).1), .fl (.bool (due w cal x).2)]) := by
  refine ctr (n := 46) (rs := #[.tmp 6, .tmp 7]) (L := [(0, .d (.ag (eLw w))), (1, .d (.sl 1 (List.map (rI .i64) cal))), (2, .d (.ag (eCs x)))]) Tryd.func52 rfl rfl rfl rfl rfl (fun w0 U0 => ?_)
  refine a_rseq ?_
  refine rg_nam (d := 3) (v := .pt 101 0) (m := 101) (nw := [(101, .bx 49 (eLw w))]) rfl (og rfl (of_eff (op_box 101 rfl rfl rfl rfl) rfl)) rfl ?_
  refine rg_nam (d := 5) (v := .pt 102 0) (m := 102) (nw := [(102, .bx 102 (eCs x))]) rfl (og rfl (of_eff (op_box 102 rfl rfl rfl rfl) rfl)) rfl ?_
  refine rg_put (d := 6) (v := .d (.fl (.int .i64 0))) rfl (og rfl (op_assign rfl rfl rfl)) ?_
  refine rg_put (d := 7) (v := .d (.fl (.bool false))) rfl (og rfl (op_assign rfl rfl rfl)) ?_
  refine rg_done rfl ?_
  refine a_seq ?_
  refine a_rseq ?_
  refine rg_put (d := 10) (v := .d (.ag (eLw w))) rfl (og rfl (of_eff (s_load_pts rfl Tryd.underlying49 rfl ti49 rfl rfl rfl rfl) rfl)) ?_
  refine rg_put (d := 11) (v := .d (.fl (.int .i64 (ckL w)))) rfl (og rfl (op_call rfl Tryd.func83 nm83 rfl (.cons rfl (.d _) .nil) (ck13 w) rfl)) ?_
  refine rg_put (d := 12) (v := .d (.fl (.bool (((ckL w) != 0))))) rfl (og rfl (op_bin rfl rfl rfl (b_neq _ _ _ _) rfl)) ?_
  refine rg_put (d := 13) (v := .d (.fl (.bool (((ckL w) != 0))))) rfl (og rfl (op_move rfl rfl rfl)) ?_
  rcases fot (((ckL w) != 0)) with h1 | h1
  · skip
    obtain ⟨c1, c2, c3, c4, c5, c6⟩ := ckL_ok (f_bne h1)
    have h2 := f_bne h1
    refine rg_put (d := 14) (v := .pt 102 5) rfl (oy rfl rfl rfl h1 (of_eff (s_field_pt rfl Tryd.underlying102 rfl ti3 rfl rfl rfl) rfl)) ?_
    refine rg_put (d := 15) (v := .d (.fl (.int .i64 x.stage))) rfl (oy rfl rfl rfl h1 (op_load_pt rfl Tryd.underlying3 rfl rfl rfl rfl rfl)) ?_
    refine rg_put (d := 16) (v := .d (.fl (.bool ((decide (x.stage < 1)))))) rfl (oy rfl rfl rfl h1 (op_bin rfl rfl rfl (b_lss _ _ _ _) rfl)) ?_
    refine rg_put (d := 17) (v := .d (.fl (.bool ((decide (x.stage < 1)))))) rfl (og rfl (op_pick rfl rfl (by rw [h1]; rfl) rfl)) ?_
    refine rg_put (d := 18) (v := .d (.fl (.bool ((decide (x.stage < 1)))))) rfl (og rfl (op_move rfl rfl rfl)) ?_
    rcases fot ((decide (x.stage < 1))) with h3 | h3
    · skip
      have h4 := f_dec h3
      refine rg_put (d := 19) (v := .pt 102 5) rfl (oy rfl rfl rfl h3 (of_eff (s_field_pt rfl Tryd.underlying102 rfl ti3 rfl rfl rfl) rfl)) ?_
      refine rg_put (d := 20) (v := .d (.fl (.int .i64 x.stage))) rfl (oy rfl rfl rfl h3 (op_load_pt rfl Tryd.underlying3 rfl rfl rfl rfl rfl)) ?_
      refine rg_put (d := 21) (v := .d (.fl (.bool ((decide (4 < x.stage)))))) rfl (oy rfl rfl rfl h3 (op_bin rfl rfl rfl (b_gtr _ _ _ _) rfl)) ?_
      refine rg_put (d := 22) (v := .d (.fl (.bool ((decide (4 < x.stage)))))) rfl (og rfl (op_pick rfl rfl (by rw [h3]; rfl) rfl)) ?_
      refine rg_put (d := 23) (v := .d (.fl (.bool ((decide (4 < x.stage)))))) rfl (og rfl (op_move rfl rfl rfl)) ?_
      rcases fot ((decide (4 < x.stage))) with h5 | h5
      · skip
        have h6 := f_dec h5
        refine rg_put (d := 24) (v := .pt 102 9) rfl (oy rfl rfl rfl h5 (of_eff (s_field_pt rfl Tryd.underlying102 rfl ti100 rfl rfl rfl) rfl)) ?_
        refine rg_put (d := 25) (v := .pt 102 9) rfl (oy rfl rfl rfl h5 (of_eff (s_field_pt rfl Tryd.underlying100 rfl ti3 rfl rfl rfl) rfl)) ?_
        refine rg_put (d := 26) (v := .d (.fl (.int .i64 x.ap.state))) rfl (oy rfl rfl rfl h5 (op_load_pt rfl Tryd.underlying3 rfl rfl rfl rfl rfl)) ?_
        refine rg_put (d := 27) (v := .d (.fl (.bool (x.ap.state == 1)))) rfl (oy rfl rfl rfl h5 (op_bin rfl rfl rfl (b_eql _ _ _ _) rfl)) ?_
        refine rg_put (d := 28) (v := .d (.fl (.bool (x.ap.state == 1)))) rfl (og rfl (op_pick rfl rfl (by rw [h5]; rfl) rfl)) ?_
        refine rg_done rfl ?_
        refine a_cond rfl (fun h7 => ?_) (fun h7 => ?_)
        · skip
          have h8 := t_beq h7
          refine a_rseq ?_
          refine rg_put (d := 6) (v := .d (.fl (.int .i64 0))) rfl (og rfl (op_assign rfl rfl rfl)) ?_
          refine rg_put (d := 7) (v := .d (.fl (.bool false))) rfl (og rfl (op_assign rfl rfl rfl)) ?_
          refine rg_done rfl ?_
          refine a_ret ?_
          show ∃ ds, ResL _ _ _ ds ∧ RV.of ds = _
          refine ⟨[.fl (.int .i64 0), .fl (.bool false)], (.cons (.tmp rfl (.d _)) (.cons (.tmp rfl (.d _)) .nil)), ?_⟩
          have hu : due w cal x = (0, false) := by
            unfold due; rw [dueB_alt]; simp only [h1, h3, h5, h7]; rfl
          rw [hu]; rfl
        · skip
          have h9 := f_beq h7
          refine a_skip ?_
          show A _ _ _ _ _ _ _
          refine a_dseq (by kernel_rfl) ?_
          refine dr_put (d := 30) (v := .d (.sl 1 (List.map (rI .i64) cal))) rfl (og rfl (op_move rfl rfl rfl)) ?_
          refine dr_put (d := 31) (v := .pt 102 4) rfl (og rfl (of_eff (s_field_pt rfl Tryd.underlying102 rfl ti3 rfl rfl rfl) rfl)) ?_
          refine dr_put (d := 32) (v := .d (.fl (.int .i64 x.since))) rfl (og rfl (op_load_pt rfl Tryd.underlying3 rfl rfl rfl rfl rfl)) ?_
          refine dr_put (d := 33) (v := .pt 101 0) rfl (og rfl (of_eff (s_field_pt rfl Tryd.underlying49 rfl ti39 rfl rfl rfl) rfl)) ?_
          refine dr_put (d := 34) (v := .d (.sl 1 (List.map (rI .i64) w.days))) rfl (og rfl (op_load_pt rfl Tryd.underlying39 rfl rfl rfl rfl rfl)) ?_
          refine dr_put (d := 35) (v := .pt 102 5) rfl (og rfl (of_eff (s_field_pt rfl Tryd.underlying102 rfl ti3 rfl rfl rfl) rfl)) ?_
          refine dr_put (d := 36) (v := .d (.fl (.int .i64 x.stage))) rfl (og rfl (op_load_pt rfl Tryd.underlying3 rfl rfl rfl rfl rfl)) ?_
          refine dr_put (d := 37) (v := .d (.fl (.int .i64 (x.stage - 1)))) rfl (og rfl (op_bin rfl rfl rfl (fun x y w => b_sub64 _ _ _ x y w (by omega)) rfl)) ?_
          refine dr_put (d := 38) (v := .el ((rI .i64 ((ix w.days ((x.stage - 1)).toNat))))) rfl (og rfl (s_index rfl Tryd.underlying39 ti3 rfl rfl (by omega) (row_atI (by omega) (by omega)) rfl)) ?_
          refine dr_put (d := 39) (v := .d (.fl (.int .i64 ((ix w.days ((x.stage - 1)).toNat))))) rfl (og rfl (op_load_el rfl Tryd.underlying3 rfl rfl rfl rfl)) ?_
          refine dr_put (d := 40) (v := .tu [.fl (.int .i64 ((latS cal x.since ((ix w.days ((x.stage - 1)).toNat))).1)), .fl (.int .i64 ((latS cal x.since ((ix w.days ((x.stage - 1)).toNat))).2))]) rfl (og rfl (op_call rfl Tryd.func84 nm84 rfl (.cons rfl (.d _) (.cons rfl (.d _) (.cons rfl (.d _) .nil))) (later38 cal x.since ((ix w.days ((x.stage - 1)).toNat)) (by omega)) rfl)) ?_
          refine dr_put (d := 29) (v := .tu [.fl (.int .i64 ((latS cal x.since ((ix w.days ((x.stage - 1)).toNat))).1)), .fl (.int .i64 ((latS cal x.since ((ix w.days ((x.stage - 1)).toNat))).2))]) rfl (og rfl (op_move rfl rfl rfl)) ?_
          refine dr_put (d := 41) (v := .d (.fl (.int .i64 ((latS cal x.since ((ix w.days ((x.stage - 1)).toNat))).1)))) rfl (og rfl (op_extract rfl rfl rfl rfl)) ?_
          refine dr_put (d := 42) (v := .d (.fl (.int .i64 ((latS cal x.since ((ix w.days ((x.stage - 1)).toNat))).2)))) rfl (og rfl (op_extract rfl rfl rfl rfl)) ?_
          refine dr_put (d := 8) (v := .d (.fl (.int .i64 ((latS cal x.since ((ix w.days ((x.stage - 1)).toNat))).1)))) rfl (og rfl (op_assign rfl rfl rfl)) ?_
          refine dr_put (d := 9) (v := .d (.fl (.int .i64 ((latS cal x.since ((ix w.days ((x.stage - 1)).toNat))).2)))) rfl (og rfl (op_assign rfl rfl rfl)) ?_
          refine dr_done rfl (sepB_of [0, 0, 2, 0, 8, 0, 32, 96, 248, 504, 1023, 2047, 4095, 4095, 8191, 32767] (by kernel_rfl)) (by kernel_rfl) ?_
          refine a_rseq ?_
          refine rg_put (d := 43) (v := .d (.fl (.int .i64 ((latS cal x.since ((ix w.days ((x.stage - 1)).toNat))).1)))) rfl (og rfl (op_move rfl rfl rfl)) ?_
          refine rg_put (d := 44) (v := .d (.fl (.int .i64 ((latS cal x.since ((ix w.days ((x.stage - 1)).toNat))).2)))) rfl (og rfl (op_move rfl rfl rfl)) ?_
          refine rg_put (d := 45) (v := .d (.fl (.bool (((latS cal x.since ((ix w.days ((x.stage - 1)).toNat))).2 == 0))))) rfl (og rfl (op_bin rfl rfl rfl (b_eql _ _ _ _) rfl)) ?_
          refine rg_put (d := 6) (v := .d (.fl (.int .i64 ((latS cal x.since ((ix w.days ((x.stage - 1)).toNat))).1)))) rfl (og rfl (op_assign rfl rfl rfl)) ?_
          refine rg_put (d := 7) (v := .d (.fl (.bool (((latS cal x.since ((ix w.days ((x.stage - 1)).toNat))).2 == 0))))) rfl (og rfl (op_assign rfl rfl rfl)) ?_
          refine rg_done rfl ?_
          refine a_ret ?_
          show ∃ ds, ResL _ _ _ ds ∧ RV.of ds = _
          refine ⟨[.fl (.int .i64 ((latS cal x.since ((ix w.days ((x.stage - 1)).toNat))).1)), .fl (.bool (((latS cal x.since ((ix w.days ((x.stage - 1)).toNat))).2 == 0)))], (.cons (.tmp rfl (.d _)) (.cons (.tmp rfl (.d _)) .nil)), ?_⟩
          have hu : due w cal x = ((latS cal x.since ((ix w.days ((x.stage - 1)).toNat))).1, ((latS cal x.since ((ix w.days ((x.stage - 1)).toNat))).2 == 0)) := by
            unfold due; rw [dueB_alt]; simp only [h1, h3, h5, h7]; rfl
          rw [hu]; rfl
      · skip
        have h10 := t_dec h5
        refine rg_put (d := 24) (v := .d (.fl undef)) rfl (on rfl rfl rfl h5) ?_
        refine rg_put (d := 25) (v := .d (.fl undef)) rfl (on rfl rfl rfl h5) ?_
        refine rg_put (d := 26) (v := .d (.fl undef)) rfl (on rfl rfl rfl h5) ?_
        refine rg_put (d := 27) (v := .d (.fl undef)) rfl (on rfl rfl rfl h5) ?_
        refine rg_put (d := 28) (v := .d (.fl (.bool true))) rfl (og rfl (op_pick rfl rfl (by rw [h5]; rfl) rfl)) ?_
        refine rg_done rfl ?_
        refine a_condK rfl rfl ?_
        refine a_rseq ?_
        refine rg_put (d := 6) (v := .d (.fl (.int .i64 0))) rfl (og rfl (op_assign rfl rfl rfl)) ?_
        refine rg_put (d := 7) (v := .d (.fl (.bool false))) rfl (og rfl (op_assign rfl rfl rfl)) ?_
        refine rg_done rfl ?_
        refine a_ret ?_
        show ∃ ds, ResL _ _ _ ds ∧ RV.of ds = _
        refine ⟨[.fl (.int .i64 0), .fl (.bool false)], (.cons (.tmp rfl (.d _)) (.cons (.tmp rfl (.d _)) .nil)), ?_⟩
        have hu : due w cal x = (0, false) := by
          unfold due; rw [dueB_alt]; simp only [h1, h3, h5]; rfl
        rw [hu]; rfl
    · skip
      have h11 := t_dec h3
      refine rg_put (d := 19) (v := .d (.fl undef)) rfl (on rfl rfl rfl h3) ?_
      refine rg_put (d := 20) (v := .d (.fl undef)) rfl (on rfl rfl rfl h3) ?_
      refine rg_put (d := 21) (v := .d (.fl undef)) rfl (on rfl rfl rfl h3) ?_
      refine rg_put (d := 22) (v := .d (.fl (.bool true))) rfl (og rfl (op_pick rfl rfl (by rw [h3]; rfl) rfl)) ?_
      refine rg_put (d := 23) (v := .d (.fl (.bool true))) rfl (og rfl (op_move rfl rfl rfl)) ?_
      refine rg_put (d := 24) (v := .d (.fl undef)) rfl (on rfl rfl rfl rfl) ?_
      refine rg_put (d := 25) (v := .d (.fl undef)) rfl (on rfl rfl rfl rfl) ?_
      refine rg_put (d := 26) (v := .d (.fl undef)) rfl (on rfl rfl rfl rfl) ?_
      refine rg_put (d := 27) (v := .d (.fl undef)) rfl (on rfl rfl rfl rfl) ?_
      refine rg_put (d := 28) (v := .d (.fl (.bool true))) rfl (og rfl (op_pick rfl rfl rfl rfl)) ?_
      refine rg_done rfl ?_
      refine a_condK rfl rfl ?_
      refine a_rseq ?_
      refine rg_put (d := 6) (v := .d (.fl (.int .i64 0))) rfl (og rfl (op_assign rfl rfl rfl)) ?_
      refine rg_put (d := 7) (v := .d (.fl (.bool false))) rfl (og rfl (op_assign rfl rfl rfl)) ?_
      refine rg_done rfl ?_
      refine a_ret ?_
      show ∃ ds, ResL _ _ _ ds ∧ RV.of ds = _
      refine ⟨[.fl (.int .i64 0), .fl (.bool false)], (.cons (.tmp rfl (.d _)) (.cons (.tmp rfl (.d _)) .nil)), ?_⟩
      have hu : due w cal x = (0, false) := by
        unfold due; rw [dueB_alt]; simp only [h1, h3]; rfl
      rw [hu]; rfl
  · skip
    have h12 := t_bne h1
    refine rg_put (d := 14) (v := .d (.fl undef)) rfl (on rfl rfl rfl h1) ?_
    refine rg_put (d := 15) (v := .d (.fl undef)) rfl (on rfl rfl rfl h1) ?_
    refine rg_put (d := 16) (v := .d (.fl undef)) rfl (on rfl rfl rfl h1) ?_
    refine rg_put (d := 17) (v := .d (.fl (.bool true))) rfl (og rfl (op_pick rfl rfl (by rw [h1]; rfl) rfl)) ?_
    refine rg_put (d := 18) (v := .d (.fl (.bool true))) rfl (og rfl (op_move rfl rfl rfl)) ?_
    refine rg_put (d := 19) (v := .d (.fl undef)) rfl (on rfl rfl rfl rfl) ?_
    refine rg_put (d := 20) (v := .d (.fl undef)) rfl (on rfl rfl rfl rfl) ?_
    refine rg_put (d := 21) (v := .d (.fl undef)) rfl (on rfl rfl rfl rfl) ?_
    refine rg_put (d := 22) (v := .d (.fl (.bool true))) rfl (og rfl (op_pick rfl rfl rfl rfl)) ?_
    refine rg_put (d := 23) (v := .d (.fl (.bool true))) rfl (og rfl (op_move rfl rfl rfl)) ?_
    refine rg_put (d := 24) (v := .d (.fl undef)) rfl (on rfl rfl rfl rfl) ?_
    refine rg_put (d := 25) (v := .d (.fl undef)) rfl (on rfl rfl rfl rfl) ?_
    refine rg_put (d := 26) (v := .d (.fl undef)) rfl (on rfl rfl rfl rfl) ?_
    refine rg_put (d := 27) (v := .d (.fl undef)) rfl (on rfl rfl rfl rfl) ?_
    refine rg_put (d := 28) (v := .d (.fl (.bool true))) rfl (og rfl (op_pick rfl rfl rfl rfl)) ?_
    refine rg_done rfl ?_
    refine a_condK rfl rfl ?_
    refine a_rseq ?_
    refine rg_put (d := 6) (v := .d (.fl (.int .i64 0))) rfl (og rfl (op_assign rfl rfl rfl)) ?_
    refine rg_put (d := 7) (v := .d (.fl (.bool false))) rfl (og rfl (op_assign rfl rfl rfl)) ?_
    refine rg_done rfl ?_
    refine a_ret ?_
    show ∃ ds, ResL _ _ _ ds ∧ RV.of ds = _
    refine ⟨[.fl (.int .i64 0), .fl (.bool false)], (.cons (.tmp rfl (.d _)) (.cons (.tmp rfl (.d _)) .nil)), ?_⟩
    have hu : due w cal x = (0, false) := by
      unfold due; rw [dueB_alt]; simp only [h1]; rfl
    rw [hu]; rfl
end Go.Proofs.YtglhonnmppclpaaDoor.Lq
