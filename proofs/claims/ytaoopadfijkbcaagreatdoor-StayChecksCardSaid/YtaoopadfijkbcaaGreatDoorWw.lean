/- Windows of the week, both sides. Conditions: as each theorem names them. -/
import Derived.Test.YtaoopadfijkbcaaGreatDoorTy
set_option linter.unusedSimpArgs false
set_option linter.unusedVariables false
set_option linter.unusedSimpArgs false
set_option linter.unusedVariables false
namespace Go.Proofs.YtaoopadfijkbcaaGreatDoor.Wk
open Go Go.RowKit Go.Proofs.YtaoopadfijkbcaaGreatDoor.Av
def vW (w : Wd) : Bool := (((decide (1 ≤ w.days) && decide (w.days ≤ 127)) && decide (0 ≤ w.fr)) && decide (w.fr < w.to)) && decide (w.to ≤ 1440)
def isT (t : Int) : Bool := decide (0 ≤ t) && decide (t < 68719476736)
set_option maxHeartbeats 4000000 in
set_option maxRecDepth 100000 in
theorem vW28 (w : Wd) : Ctr Tryz.prog 77 [.ag (eWd w)] (.d (.fl (.bool (vW w)))) := by
  refine ctr (n := 28) (rs := #[.tmp 2]) (L := [(0, .d (.ag (eWd w)))]) Tryz.func77 rfl rfl rfl rfl rfl (fun w0 U0 => ?_)
  refine a_rseq ?_
  refine rg_nam (d := 1) (v := .pt 101 0) (m := 101) (nw := [(101, .bx 147 (eWd w))]) rfl (og rfl (of_eff (op_box 101 rfl rfl rfl rfl) rfl)) rfl ?_
  refine rg_put (d := 2) (v := .d (.fl (.bool false))) rfl (og rfl (op_assign rfl rfl rfl)) ?_
  refine rg_done rfl ?_
  refine a_rseq ?_
  refine rg_put (d := 3) (v := .pt 101 0) rfl (og rfl (of_eff (s_field_pt rfl Tryz.underlying147 rfl ti3 rfl rfl rfl) rfl)) ?_
  refine rg_put (d := 4) (v := .d (.fl (.int .i64 w.days))) rfl (og rfl (op_load_pt rfl Tryz.underlying3 rfl rfl rfl rfl rfl)) ?_
  refine rg_put (d := 5) (v := .d (.fl (.bool ((decide (1 ≤ w.days)))))) rfl (og rfl (op_bin rfl rfl rfl (b_leq _ _ _ _) rfl)) ?_
  refine rg_put (d := 6) (v := .d (.fl (.bool ((decide (1 ≤ w.days)))))) rfl (og rfl (op_move rfl rfl rfl)) ?_
  rcases fot ((decide (1 ≤ w.days))) with h1 | h1
  · skip
    have h2 := f_dec h1
    refine rg_put (d := 7) (v := .d (.fl undef)) rfl (on rfl rfl rfl h1) ?_
    refine rg_put (d := 8) (v := .d (.fl undef)) rfl (on rfl rfl rfl h1) ?_
    refine rg_put (d := 9) (v := .d (.fl undef)) rfl (on rfl rfl rfl h1) ?_
    refine rg_put (d := 10) (v := .d (.fl (.bool false))) rfl (og rfl (op_pick rfl rfl (by rw [h1]; rfl) rfl)) ?_
    refine rg_put (d := 11) (v := .d (.fl (.bool false))) rfl (og rfl (op_move rfl rfl rfl)) ?_
    refine rg_put (d := 12) (v := .d (.fl undef)) rfl (on rfl rfl rfl rfl) ?_
    refine rg_put (d := 13) (v := .d (.fl undef)) rfl (on rfl rfl rfl rfl) ?_
    refine rg_put (d := 14) (v := .d (.fl undef)) rfl (on rfl rfl rfl rfl) ?_
    refine rg_put (d := 15) (v := .d (.fl (.bool false))) rfl (og rfl (op_pick rfl rfl rfl rfl)) ?_
    refine rg_put (d := 16) (v := .d (.fl (.bool false))) rfl (og rfl (op_move rfl rfl rfl)) ?_
    refine rg_put (d := 17) (v := .d (.fl undef)) rfl (on rfl rfl rfl rfl) ?_
    refine rg_put (d := 18) (v := .d (.fl undef)) rfl (on rfl rfl rfl rfl) ?_
    refine rg_put (d := 19) (v := .d (.fl undef)) rfl (on rfl rfl rfl rfl) ?_
    refine rg_put (d := 20) (v := .d (.fl undef)) rfl (on rfl rfl rfl rfl) ?_
    refine rg_put (d := 21) (v := .d (.fl undef)) rfl (on rfl rfl rfl rfl) ?_
    refine rg_put (d := 22) (v := .d (.fl (.bool false))) rfl (og rfl (op_pick rfl rfl rfl rfl)) ?_
    refine rg_put (d := 23) (v := .d (.fl (.bool false))) rfl (og rfl (op_move rfl rfl rfl)) ?_
    refine rg_put (d := 24) (v := .d (.fl undef)) rfl (on rfl rfl rfl rfl) ?_
    refine rg_put (d := 25) (v := .d (.fl undef)) rfl (on rfl rfl rfl rfl) ?_
    refine rg_put (d := 26) (v := .d (.fl undef)) rfl (on rfl rfl rfl rfl) ?_
    refine rg_put (d := 27) (v := .d (.fl (.bool false))) rfl (og rfl (op_pick rfl rfl rfl rfl)) ?_
    refine rg_put (d := 2) (v := .d (.fl (.bool false))) rfl (og rfl (op_assign rfl rfl rfl)) ?_
    refine rg_done rfl ?_
    refine a_ret ?_
    show ∃ ds, ResL _ _ _ ds ∧ RV.of ds = _
    refine ⟨[.fl (.bool false)], (.cons (.tmp rfl (.d _)) .nil), ?_⟩
    have hu : vW w = false := by
      unfold vW; simp only [h1, Bool.true_and, Bool.false_and, Bool.and_true, Bool.and_false] <;> rfl
    rw [hu]; rfl
  · skip
    have h3 := t_dec h1
    refine rg_put (d := 7) (v := .pt 101 0) rfl (oy rfl rfl rfl h1 (of_eff (s_field_pt rfl Tryz.underlying147 rfl ti3 rfl rfl rfl) rfl)) ?_
    refine rg_put (d := 8) (v := .d (.fl (.int .i64 w.days))) rfl (oy rfl rfl rfl h1 (op_load_pt rfl Tryz.underlying3 rfl rfl rfl rfl rfl)) ?_
    refine rg_put (d := 9) (v := .d (.fl (.bool ((decide (w.days ≤ 127)))))) rfl (oy rfl rfl rfl h1 (op_bin rfl rfl rfl (b_leq _ _ _ _) rfl)) ?_
    refine rg_put (d := 10) (v := .d (.fl (.bool ((decide (w.days ≤ 127)))))) rfl (og rfl (op_pick rfl rfl (by rw [h1]; rfl) rfl)) ?_
    refine rg_put (d := 11) (v := .d (.fl (.bool ((decide (w.days ≤ 127)))))) rfl (og rfl (op_move rfl rfl rfl)) ?_
    rcases fot ((decide (w.days ≤ 127))) with h4 | h4
    · skip
      have h5 := f_dec h4
      refine rg_put (d := 12) (v := .d (.fl undef)) rfl (on rfl rfl rfl h4) ?_
      refine rg_put (d := 13) (v := .d (.fl undef)) rfl (on rfl rfl rfl h4) ?_
      refine rg_put (d := 14) (v := .d (.fl undef)) rfl (on rfl rfl rfl h4) ?_
      refine rg_put (d := 15) (v := .d (.fl (.bool false))) rfl (og rfl (op_pick rfl rfl (by rw [h4]; rfl) rfl)) ?_
      refine rg_put (d := 16) (v := .d (.fl (.bool false))) rfl (og rfl (op_move rfl rfl rfl)) ?_
      refine rg_put (d := 17) (v := .d (.fl undef)) rfl (on rfl rfl rfl rfl) ?_
      refine rg_put (d := 18) (v := .d (.fl undef)) rfl (on rfl rfl rfl rfl) ?_
      refine rg_put (d := 19) (v := .d (.fl undef)) rfl (on rfl rfl rfl rfl) ?_
      refine rg_put (d := 20) (v := .d (.fl undef)) rfl (on rfl rfl rfl rfl) ?_
      refine rg_put (d := 21) (v := .d (.fl undef)) rfl (on rfl rfl rfl rfl) ?_
      refine rg_put (d := 22) (v := .d (.fl (.bool false))) rfl (og rfl (op_pick rfl rfl rfl rfl)) ?_
      refine rg_put (d := 23) (v := .d (.fl (.bool false))) rfl (og rfl (op_move rfl rfl rfl)) ?_
      refine rg_put (d := 24) (v := .d (.fl undef)) rfl (on rfl rfl rfl rfl) ?_
      refine rg_put (d := 25) (v := .d (.fl undef)) rfl (on rfl rfl rfl rfl) ?_
      refine rg_put (d := 26) (v := .d (.fl undef)) rfl (on rfl rfl rfl rfl) ?_
      refine rg_put (d := 27) (v := .d (.fl (.bool false))) rfl (og rfl (op_pick rfl rfl rfl rfl)) ?_
      refine rg_put (d := 2) (v := .d (.fl (.bool false))) rfl (og rfl (op_assign rfl rfl rfl)) ?_
      refine rg_done rfl ?_
      refine a_ret ?_
      show ∃ ds, ResL _ _ _ ds ∧ RV.of ds = _
      refine ⟨[.fl (.bool false)], (.cons (.tmp rfl (.d _)) .nil), ?_⟩
      have hu : vW w = false := by
        unfold vW; simp only [h1, h4, Bool.true_and, Bool.false_and, Bool.and_true, Bool.and_false] <;> rfl
      rw [hu]; rfl
    · skip
      have h6 := t_dec h4
      refine rg_put (d := 12) (v := .pt 101 1) rfl (oy rfl rfl rfl h4 (of_eff (s_field_pt rfl Tryz.underlying147 rfl ti3 rfl rfl rfl) rfl)) ?_
      refine rg_put (d := 13) (v := .d (.fl (.int .i64 w.fr))) rfl (oy rfl rfl rfl h4 (op_load_pt rfl Tryz.underlying3 rfl rfl rfl rfl rfl)) ?_
      refine rg_put (d := 14) (v := .d (.fl (.bool ((decide (0 ≤ w.fr)))))) rfl (oy rfl rfl rfl h4 (op_bin rfl rfl rfl (b_leq _ _ _ _) rfl)) ?_
      refine rg_put (d := 15) (v := .d (.fl (.bool ((decide (0 ≤ w.fr)))))) rfl (og rfl (op_pick rfl rfl (by rw [h4]; rfl) rfl)) ?_
      refine rg_put (d := 16) (v := .d (.fl (.bool ((decide (0 ≤ w.fr)))))) rfl (og rfl (op_move rfl rfl rfl)) ?_
      rcases fot ((decide (0 ≤ w.fr))) with h7 | h7
      · skip
        have h8 := f_dec h7
        refine rg_put (d := 17) (v := .d (.fl undef)) rfl (on rfl rfl rfl h7) ?_
        refine rg_put (d := 18) (v := .d (.fl undef)) rfl (on rfl rfl rfl h7) ?_
        refine rg_put (d := 19) (v := .d (.fl undef)) rfl (on rfl rfl rfl h7) ?_
        refine rg_put (d := 20) (v := .d (.fl undef)) rfl (on rfl rfl rfl h7) ?_
        refine rg_put (d := 21) (v := .d (.fl undef)) rfl (on rfl rfl rfl h7) ?_
        refine rg_put (d := 22) (v := .d (.fl (.bool false))) rfl (og rfl (op_pick rfl rfl (by rw [h7]; rfl) rfl)) ?_
        refine rg_put (d := 23) (v := .d (.fl (.bool false))) rfl (og rfl (op_move rfl rfl rfl)) ?_
        refine rg_put (d := 24) (v := .d (.fl undef)) rfl (on rfl rfl rfl rfl) ?_
        refine rg_put (d := 25) (v := .d (.fl undef)) rfl (on rfl rfl rfl rfl) ?_
        refine rg_put (d := 26) (v := .d (.fl undef)) rfl (on rfl rfl rfl rfl) ?_
        refine rg_put (d := 27) (v := .d (.fl (.bool false))) rfl (og rfl (op_pick rfl rfl rfl rfl)) ?_
        refine rg_put (d := 2) (v := .d (.fl (.bool false))) rfl (og rfl (op_assign rfl rfl rfl)) ?_
        refine rg_done rfl ?_
        refine a_ret ?_
        show ∃ ds, ResL _ _ _ ds ∧ RV.of ds = _
        refine ⟨[.fl (.bool false)], (.cons (.tmp rfl (.d _)) .nil), ?_⟩
        have hu : vW w = false := by
          unfold vW; simp only [h1, h4, h7, Bool.true_and, Bool.false_and, Bool.and_true, Bool.and_false] <;> rfl
        rw [hu]; rfl
      · skip
        have h9 := t_dec h7
        refine rg_put (d := 17) (v := .pt 101 1) rfl (oy rfl rfl rfl h7 (of_eff (s_field_pt rfl Tryz.underlying147 rfl ti3 rfl rfl rfl) rfl)) ?_
        refine rg_put (d := 18) (v := .d (.fl (.int .i64 w.fr))) rfl (oy rfl rfl rfl h7 (op_load_pt rfl Tryz.underlying3 rfl rfl rfl rfl rfl)) ?_
        refine rg_put (d := 19) (v := .pt 101 2) rfl (oy rfl rfl rfl h7 (of_eff (s_field_pt rfl Tryz.underlying147 rfl ti3 rfl rfl rfl) rfl)) ?_
        refine rg_put (d := 20) (v := .d (.fl (.int .i64 w.to))) rfl (oy rfl rfl rfl h7 (op_load_pt rfl Tryz.underlying3 rfl rfl rfl rfl rfl)) ?_
        refine rg_put (d := 21) (v := .d (.fl (.bool ((decide (w.fr < w.to)))))) rfl (oy rfl rfl rfl h7 (op_bin rfl rfl rfl (b_lss _ _ _ _) rfl)) ?_
        refine rg_put (d := 22) (v := .d (.fl (.bool ((decide (w.fr < w.to)))))) rfl (og rfl (op_pick rfl rfl (by rw [h7]; rfl) rfl)) ?_
        refine rg_put (d := 23) (v := .d (.fl (.bool ((decide (w.fr < w.to)))))) rfl (og rfl (op_move rfl rfl rfl)) ?_
        rcases fot ((decide (w.fr < w.to))) with h10 | h10
        · skip
          have h11 := f_dec h10
          refine rg_put (d := 24) (v := .d (.fl undef)) rfl (on rfl rfl rfl h10) ?_
          refine rg_put (d := 25) (v := .d (.fl undef)) rfl (on rfl rfl rfl h10) ?_
          refine rg_put (d := 26) (v := .d (.fl undef)) rfl (on rfl rfl rfl h10) ?_
          refine rg_put (d := 27) (v := .d (.fl (.bool false))) rfl (og rfl (op_pick rfl rfl (by rw [h10]; rfl) rfl)) ?_
          refine rg_put (d := 2) (v := .d (.fl (.bool false))) rfl (og rfl (op_assign rfl rfl rfl)) ?_
          refine rg_done rfl ?_
          refine a_ret ?_
          show ∃ ds, ResL _ _ _ ds ∧ RV.of ds = _
          refine ⟨[.fl (.bool false)], (.cons (.tmp rfl (.d _)) .nil), ?_⟩
          have hu : vW w = false := by
            unfold vW; simp only [h1, h4, h7, h10, Bool.true_and, Bool.false_and, Bool.and_true, Bool.and_false] <;> rfl
          rw [hu]; rfl
        · skip
          have h12 := t_dec h10
          refine rg_put (d := 24) (v := .pt 101 2) rfl (oy rfl rfl rfl h10 (of_eff (s_field_pt rfl Tryz.underlying147 rfl ti3 rfl rfl rfl) rfl)) ?_
          refine rg_put (d := 25) (v := .d (.fl (.int .i64 w.to))) rfl (oy rfl rfl rfl h10 (op_load_pt rfl Tryz.underlying3 rfl rfl rfl rfl rfl)) ?_
          refine rg_put (d := 26) (v := .d (.fl (.bool ((decide (w.to ≤ 1440)))))) rfl (oy rfl rfl rfl h10 (op_bin rfl rfl rfl (b_leq _ _ _ _) rfl)) ?_
          refine rg_put (d := 27) (v := .d (.fl (.bool ((decide (w.to ≤ 1440)))))) rfl (og rfl (op_pick rfl rfl (by rw [h10]; rfl) rfl)) ?_
          refine rg_put (d := 2) (v := .d (.fl (.bool ((decide (w.to ≤ 1440)))))) rfl (og rfl (op_assign rfl rfl rfl)) ?_
          refine rg_done rfl ?_
          refine a_ret ?_
          show ∃ ds, ResL _ _ _ ds ∧ RV.of ds = _
          refine ⟨[.fl (.bool ((decide (w.to ≤ 1440))))], (.cons (.tmp rfl (.d _)) .nil), ?_⟩
          have hu : vW w = (decide (w.to ≤ 1440)) := by
            unfold vW; simp only [h1, h4, h7, h10, Bool.true_and, Bool.false_and, Bool.and_true, Bool.and_false] <;> rfl
          rw [hu]; rfl
end Go.Proofs.YtaoopadfijkbcaaGreatDoor.Wk
