/- What is left out. No condition. -/
import Derived.Test.YtniefocnfcaebaaAvF
import Derived.Test.YtniefocnfcaebaaTy
set_option linter.unusedSimpArgs false
set_option linter.unusedVariables false
namespace Go.Proofs.Ytniefocnfcaebaa.Wk
open Go Go.RowKit Go.Proofs.Ytniefocnfcaebaa.Av
def grt (z : Zn) : Bool := decide (60 < (z.hours.length : Int)) || decide (40 < (z.steps.length : Int))
theorem grt_f {z : Zn} (h : grt z = false) : z.hours.length ≤ 60 ∧ z.steps.length ≤ 40 := by simp [grt] at h; omega
set_option maxHeartbeats 4000000 in
set_option maxRecDepth 100000 in
theorem grt6 (z : Zn) : Ctr Try.prog 8 [.ag (eZn z)] (.d (.fl (.bool (grt z)))) := by
  refine ctr (n := 13) (rs := #[.tmp 2]) (L := [(0, .d (.ag (eZn z)))]) Try.func8 rfl rfl rfl rfl rfl (fun w0 U0 => ?_)
  refine a_rseq ?_
  refine rg_nam (d := 1) (v := .pt 101 0) (m := 101) (nw := [(101, .bx 25 (eZn z))]) rfl (og rfl (of_eff (op_box 101 rfl rfl rfl rfl) rfl)) rfl ?_
  refine rg_put (d := 2) (v := .d (.fl (.bool false))) rfl (og rfl (op_assign rfl rfl rfl)) ?_
  refine rg_done rfl ?_
  refine a_rseq ?_
  refine rg_put (d := 3) (v := .pt 101 1) rfl (og rfl (of_eff (s_field_pt rfl Try.underlying25 rfl ti22 rfl rfl rfl) rfl)) ?_
  refine rg_put (d := 4) (v := .d (.sl 3 (List.map eWd z.hours))) rfl (og rfl (op_load_pt rfl Try.underlying22 rfl rfl rfl rfl rfl)) ?_
  refine rg_put (d := 5) (v := .d (.fl (.int .i64 (z.hours.length : Int)))) rfl (og rfl (s_len rfl Try.underlying22 rfl rfl)) ?_
  refine rg_put (d := 6) (v := .d (.fl (.bool ((decide (60 < (z.hours.length : Int))))))) rfl (og rfl (op_bin rfl rfl rfl (b_gtr _ _ _ _) rfl)) ?_
  refine rg_put (d := 7) (v := .d (.fl (.bool ((decide (60 < (z.hours.length : Int))))))) rfl (og rfl (op_move rfl rfl rfl)) ?_
  rcases fot ((decide (60 < (z.hours.length : Int)))) with h1 | h1
  · skip
    have h2 := f_dec h1
    refine rg_put (d := 8) (v := .pt 101 2) rfl (oy rfl rfl rfl h1 (of_eff (s_field_pt rfl Try.underlying25 rfl ti23 rfl rfl rfl) rfl)) ?_
    refine rg_put (d := 9) (v := .d (.sl 3 (List.map eStp z.steps))) rfl (oy rfl rfl rfl h1 (op_load_pt rfl Try.underlying23 rfl rfl rfl rfl rfl)) ?_
    refine rg_put (d := 10) (v := .d (.fl (.int .i64 (z.steps.length : Int)))) rfl (oy rfl rfl rfl h1 (s_len rfl Try.underlying23 rfl rfl)) ?_
    refine rg_put (d := 11) (v := .d (.fl (.bool ((decide (40 < (z.steps.length : Int))))))) rfl (oy rfl rfl rfl h1 (op_bin rfl rfl rfl (b_gtr _ _ _ _) rfl)) ?_
    refine rg_put (d := 12) (v := .d (.fl (.bool ((decide (40 < (z.steps.length : Int))))))) rfl (og rfl (op_pick rfl rfl (by rw [h1]; rfl) rfl)) ?_
    refine rg_put (d := 2) (v := .d (.fl (.bool ((decide (40 < (z.steps.length : Int))))))) rfl (og rfl (op_assign rfl rfl rfl)) ?_
    refine rg_done rfl ?_
    refine a_ret ?_
    show ∃ ds, ResL _ _ _ ds ∧ RV.of ds = _
    refine ⟨[.fl (.bool ((decide (40 < (z.steps.length : Int)))))], (.cons (.tmp rfl (.d _)) .nil), ?_⟩
    first
      | (have hu : grt z = (decide (40 < (z.steps.length : Int))) := by
          unfold grt; simp only [h1, Bool.true_or, Bool.false_or, Bool.or_true, Bool.or_false, Bool.not_true, Bool.not_false, cond_true, cond_false, Bool.true_and, Bool.false_and, Bool.and_true, Bool.and_false] <;> rfl
         rw [hu]; rfl)
      | (exfalso; omega)
  · skip
    have h3 := t_dec h1
    refine rg_put (d := 8) (v := .d (.fl undef)) rfl (on rfl rfl rfl h1) ?_
    refine rg_put (d := 9) (v := .d (.fl undef)) rfl (on rfl rfl rfl h1) ?_
    refine rg_put (d := 10) (v := .d (.fl undef)) rfl (on rfl rfl rfl h1) ?_
    refine rg_put (d := 11) (v := .d (.fl undef)) rfl (on rfl rfl rfl h1) ?_
    refine rg_put (d := 12) (v := .d (.fl (.bool true))) rfl (og rfl (op_pick rfl rfl (by rw [h1]; rfl) rfl)) ?_
    refine rg_put (d := 2) (v := .d (.fl (.bool true))) rfl (og rfl (op_assign rfl rfl rfl)) ?_
    refine rg_done rfl ?_
    refine a_ret ?_
    show ∃ ds, ResL _ _ _ ds ∧ RV.of ds = _
    refine ⟨[.fl (.bool true)], (.cons (.tmp rfl (.d _)) .nil), ?_⟩
    first
      | (have hu : grt z = true := by
          unfold grt; simp only [h1, Bool.true_or, Bool.false_or, Bool.or_true, Bool.or_false, Bool.not_true, Bool.not_false, cond_true, cond_false, Bool.true_and, Bool.false_and, Bool.and_true, Bool.and_false] <;> rfl
         rw [hu]; rfl)
      | (exfalso; omega)
end Go.Proofs.Ytniefocnfcaebaa.Wk
