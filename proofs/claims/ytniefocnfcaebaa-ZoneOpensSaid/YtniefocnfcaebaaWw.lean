/- Windows of the week, both sides. Conditions: as each theorem names them. -/
import Derived.Test.YtniefocnfcaebaaTy
set_option linter.unusedSimpArgs false
set_option linter.unusedVariables false
set_option linter.unusedSimpArgs false
set_option linter.unusedVariables false
namespace Go.Proofs.Ytniefocnfcaebaa.Wk
open Go Go.RowKit Go.Proofs.Ytniefocnfcaebaa.Av
def vW (w : Wd) : Bool := (((decide (1 ≤ w.days) && decide (w.days ≤ 127)) && decide (0 ≤ w.fr)) && decide (w.fr < w.to)) && decide (w.to ≤ 1440)
def isT (t : Int) : Bool := decide (0 ≤ t) && decide (t < 68719476736)
theorem isT_t {t : Int} (h : isT t = true) : 0 ≤ t ∧ t < 68719476736 := by simpa [isT] using h
theorem isT_of {t : Int} (h : 0 ≤ t ∧ t < 68719476736) : isT t = true := by simpa [isT] using h
theorem vW_d {w : Wd} (h : vW w = true) : 1 ≤ w.days ∧ w.days ≤ 127 := by
  unfold vW at h
  simp only [Bool.and_eq_true, decide_eq_true_eq] at h
  exact h.1.1.1
def bitd (d : Int) (k : Nat) : Bool := d / 2 ^ k % 2 == 1
theorem and_one : ∀ n : Fin 128, bits .and .i64 (n.val : Int) 1 = (n.val : Int) % 2 := by decide
theorem div_in {d : Int} (h : 1 ≤ d ∧ d ≤ 127) (k : Nat) : 0 ≤ d / 2 ^ k ∧ d / 2 ^ k ≤ 127 := by
  have h2 : (0 : Int) < 2 ^ k := Int.pow_pos (by decide)
  exact ⟨Int.ediv_nonneg (by omega) (by omega), Int.le_trans (Int.ediv_le_self _ (by omega)) h.2⟩
theorem and_bit {d : Int} (h : 1 ≤ d ∧ d ≤ 127) {k : Int} (hk : 0 ≤ k ∧ k < 7) : (bits .and .i64 (d / 2 ^ min ((k : Int)).toNat IntKind.i64.bits) 1 == 1) = bitd d k.toNat := by
  have hm : min ((k : Int)).toNat IntKind.i64.bits = k.toNat := Nat.min_eq_left (by show k.toNat ≤ 64; omega)
  rw [hm]
  obtain ⟨h1, h2⟩ := div_in h k.toNat
  have h3 := and_one ⟨(d / 2 ^ k.toNat).toNat, by omega⟩
  have h4 : (((d / 2 ^ k.toNat).toNat : Nat) : Int) = d / 2 ^ k.toNat := by omega
  have h5 : bits .and .i64 (d / 2 ^ k.toNat) 1 = d / 2 ^ k.toNat % 2 := by rw [← h4]; exact h3
  unfold bitd; rw [h5]
def inW (w : Wd) (t : Int) : Bool := (vW w && isT t) && ((bitd w.days (t / 86400 % 7).toNat && decide (w.fr ≤ t % 86400 / 60)) && decide (t % 86400 / 60 < w.to))
theorem inW_no {w : Wd} {t : Int} (h : (vW w && isT t) = false) : inW w t = false := by unfold inW; rw [h]; rfl
theorem inW_yes {w : Wd} {t : Int} (h1 : vW w = true) (h2 : isT t = true) : inW w t = ((bitd w.days (t / 86400 % 7).toNat && decide (w.fr ≤ t % 86400 / 60)) && decide (t % 86400 / 60 < w.to)) := by unfold inW; rw [h1, h2]; rfl
set_option maxHeartbeats 4000000 in
set_option maxRecDepth 100000 in
theorem vW28 (w : Wd) : Ctr Try.prog 33 [.ag (eWd w)] (.d (.fl (.bool (vW w)))) := by
  refine ctr (n := 28) (rs := #[.tmp 2]) (L := [(0, .d (.ag (eWd w)))]) Try.func33 rfl rfl rfl rfl rfl (fun w0 U0 => ?_)
  refine a_rseq ?_
  refine rg_nam (d := 1) (v := .pt 101 0) (m := 101) (nw := [(101, .bx 48 (eWd w))]) rfl (og rfl (of_eff (op_box 101 rfl rfl rfl rfl) rfl)) rfl ?_
  refine rg_put (d := 2) (v := .d (.fl (.bool false))) rfl (og rfl (op_assign rfl rfl rfl)) ?_
  refine rg_done rfl ?_
  refine a_rseq ?_
  refine rg_put (d := 3) (v := .pt 101 0) rfl (og rfl (of_eff (s_field_pt rfl Try.underlying48 rfl ti3 rfl rfl rfl) rfl)) ?_
  refine rg_put (d := 4) (v := .d (.fl (.int .i64 w.days))) rfl (og rfl (op_load_pt rfl Try.underlying3 rfl rfl rfl rfl rfl)) ?_
  refine rg_put (d := 5) (v := .d (.fl (.bool ((decide (1 ≤ w.days)))))) rfl (og rfl (op_bin rfl rfl rfl (b_leq _ _ _ _) rfl)) ?_
  refine rg_put (d := 6) (v := .d (.fl (.bool ((decide (1 ≤ w.days)))))) rfl (og rfl (op_move rfl rfl rfl)) ?_
  rcases fot ((decide (1 ≤ w.days))) with h1 | h1
  · skip
    have h2 := f_dec h1
    refine rg_put (d := 7) (v := .d (.fl undef)) rfl (on rfl rfl rfl h1) ?_
    refine rg_put (d := 8) (v := .d (.fl undef)) rfl (on rfl rfl rfl h1) ?_
    refine rg_put (d := 9) (v := .d (.fl undef)) rfl (on rfl rfl rfl h1) ?_
    refine rg_put (d := 10) (v := .d (.fl (.bool false))) rfl (og rfl (op_pick rfl rfl (by rw [h1]; rfl) rfl)) ?_
    refine rg_put (d := 11) (v := .d (.fl (.bool false))) rfl (og rfl (op_move rfl rfl rfl)) ?_
    refine rg_put (d := 12) (v := .d (.fl undef)) rfl (on rfl rfl rfl rfl) ?_
    refine rg_put (d := 13) (v := .d (.fl undef)) rfl (on rfl rfl rfl rfl) ?_
    refine rg_put (d := 14) (v := .d (.fl undef)) rfl (on rfl rfl rfl rfl) ?_
    refine rg_put (d := 15) (v := .d (.fl (.bool false))) rfl (og rfl (op_pick rfl rfl rfl rfl)) ?_
    refine rg_put (d := 16) (v := .d (.fl (.bool false))) rfl (og rfl (op_move rfl rfl rfl)) ?_
    refine rg_put (d := 17) (v := .d (.fl undef)) rfl (on rfl rfl rfl rfl) ?_
    refine rg_put (d := 18) (v := .d (.fl undef)) rfl (on rfl rfl rfl rfl) ?_
    refine rg_put (d := 19) (v := .d (.fl undef)) rfl (on rfl rfl rfl rfl) ?_
    refine rg_put (d := 20) (v := .d (.fl undef)) rfl (on rfl rfl rfl rfl) ?_
    refine rg_put (d := 21) (v := .d (.fl undef)) rfl (on rfl rfl rfl rfl) ?_
    refine rg_put (d := 22) (v := .d (.fl (.bool false))) rfl (og rfl (op_pick rfl rfl rfl rfl)) ?_
    refine rg_put (d := 23) (v := .d (.fl (.bool false))) rfl (og rfl (op_move rfl rfl rfl)) ?_
    refine rg_put (d := 24) (v := .d (.fl undef)) rfl (on rfl rfl rfl rfl) ?_
    refine rg_put (d := 25) (v := .d (.fl undef)) rfl (on rfl rfl rfl rfl) ?_
    refine rg_put (d := 26) (v := .d (.fl undef)) rfl (on rfl rfl rfl rfl) ?_
    refine rg_put (d := 27) (v := .d (.fl (.bool false))) rfl (og rfl (op_pick rfl rfl rfl rfl)) ?_
    refine rg_put (d := 2) (v := .d (.fl (.bool false))) rfl (og rfl (op_assign rfl rfl rfl)) ?_
    refine rg_done rfl ?_
    refine a_ret ?_
    show ∃ ds, ResL _ _ _ ds ∧ RV.of ds = _
    refine ⟨[.fl (.bool false)], (.cons (.tmp rfl (.d _)) .nil), ?_⟩
    have hu : vW w = false := by
      unfold vW; simp only [h1, Bool.true_and, Bool.false_and, Bool.and_true, Bool.and_false] <;> rfl
    rw [hu]; rfl
  · skip
    have h3 := t_dec h1
    refine rg_put (d := 7) (v := .pt 101 0) rfl (oy rfl rfl rfl h1 (of_eff (s_field_pt rfl Try.underlying48 rfl ti3 rfl rfl rfl) rfl)) ?_
    refine rg_put (d := 8) (v := .d (.fl (.int .i64 w.days))) rfl (oy rfl rfl rfl h1 (op_load_pt rfl Try.underlying3 rfl rfl rfl rfl rfl)) ?_
    refine rg_put (d := 9) (v := .d (.fl (.bool ((decide (w.days ≤ 127)))))) rfl (oy rfl rfl rfl h1 (op_bin rfl rfl rfl (b_leq _ _ _ _) rfl)) ?_
    refine rg_put (d := 10) (v := .d (.fl (.bool ((decide (w.days ≤ 127)))))) rfl (og rfl (op_pick rfl rfl (by rw [h1]; rfl) rfl)) ?_
    refine rg_put (d := 11) (v := .d (.fl (.bool ((decide (w.days ≤ 127)))))) rfl (og rfl (op_move rfl rfl rfl)) ?_
    rcases fot ((decide (w.days ≤ 127))) with h4 | h4
    · skip
      have h5 := f_dec h4
      refine rg_put (d := 12) (v := .d (.fl undef)) rfl (on rfl rfl rfl h4) ?_
      refine rg_put (d := 13) (v := .d (.fl undef)) rfl (on rfl rfl rfl h4) ?_
      refine rg_put (d := 14) (v := .d (.fl undef)) rfl (on rfl rfl rfl h4) ?_
      refine rg_put (d := 15) (v := .d (.fl (.bool false))) rfl (og rfl (op_pick rfl rfl (by rw [h4]; rfl) rfl)) ?_
      refine rg_put (d := 16) (v := .d (.fl (.bool false))) rfl (og rfl (op_move rfl rfl rfl)) ?_
      refine rg_put (d := 17) (v := .d (.fl undef)) rfl (on rfl rfl rfl rfl) ?_
      refine rg_put (d := 18) (v := .d (.fl undef)) rfl (on rfl rfl rfl rfl) ?_
      refine rg_put (d := 19) (v := .d (.fl undef)) rfl (on rfl rfl rfl rfl) ?_
      refine rg_put (d := 20) (v := .d (.fl undef)) rfl (on rfl rfl rfl rfl) ?_
      refine rg_put (d := 21) (v := .d (.fl undef)) rfl (on rfl rfl rfl rfl) ?_
      refine rg_put (d := 22) (v := .d (.fl (.bool false))) rfl (og rfl (op_pick rfl rfl rfl rfl)) ?_
      refine rg_put (d := 23) (v := .d (.fl (.bool false))) rfl (og rfl (op_move rfl rfl rfl)) ?_
      refine rg_put (d := 24) (v := .d (.fl undef)) rfl (on rfl rfl rfl rfl) ?_
      refine rg_put (d := 25) (v := .d (.fl undef)) rfl (on rfl rfl rfl rfl) ?_
      refine rg_put (d := 26) (v := .d (.fl undef)) rfl (on rfl rfl rfl rfl) ?_
      refine rg_put (d := 27) (v := .d (.fl (.bool false))) rfl (og rfl (op_pick rfl rfl rfl rfl)) ?_
      refine rg_put (d := 2) (v := .d (.fl (.bool false))) rfl (og rfl (op_assign rfl rfl rfl)) ?_
      refine rg_done rfl ?_
      refine a_ret ?_
      show ∃ ds, ResL _ _ _ ds ∧ RV.of ds = _
      refine ⟨[.fl (.bool false)], (.cons (.tmp rfl (.d _)) .nil), ?_⟩
      have hu : vW w = false := by
        unfold vW; simp only [h1, h4, Bool.true_and, Bool.false_and, Bool.and_true, Bool.and_false] <;> rfl
      rw [hu]; rfl
    · skip
      have h6 := t_dec h4
      refine rg_put (d := 12) (v := .pt 101 1) rfl (oy rfl rfl rfl h4 (of_eff (s_field_pt rfl Try.underlying48 rfl ti3 rfl rfl rfl) rfl)) ?_
      refine rg_put (d := 13) (v := .d (.fl (.int .i64 w.fr))) rfl (oy rfl rfl rfl h4 (op_load_pt rfl Try.underlying3 rfl rfl rfl rfl rfl)) ?_
      refine rg_put (d := 14) (v := .d (.fl (.bool ((decide (0 ≤ w.fr)))))) rfl (oy rfl rfl rfl h4 (op_bin rfl rfl rfl (b_leq _ _ _ _) rfl)) ?_
      refine rg_put (d := 15) (v := .d (.fl (.bool ((decide (0 ≤ w.fr)))))) rfl (og rfl (op_pick rfl rfl (by rw [h4]; rfl) rfl)) ?_
      refine rg_put (d := 16) (v := .d (.fl (.bool ((decide (0 ≤ w.fr)))))) rfl (og rfl (op_move rfl rfl rfl)) ?_
      rcases fot ((decide (0 ≤ w.fr))) with h7 | h7
      · skip
        have h8 := f_dec h7
        refine rg_put (d := 17) (v := .d (.fl undef)) rfl (on rfl rfl rfl h7) ?_
        refine rg_put (d := 18) (v := .d (.fl undef)) rfl (on rfl rfl rfl h7) ?_
        refine rg_put (d := 19) (v := .d (.fl undef)) rfl (on rfl rfl rfl h7) ?_
        refine rg_put (d := 20) (v := .d (.fl undef)) rfl (on rfl rfl rfl h7) ?_
        refine rg_put (d := 21) (v := .d (.fl undef)) rfl (on rfl rfl rfl h7) ?_
        refine rg_put (d := 22) (v := .d (.fl (.bool false))) rfl (og rfl (op_pick rfl rfl (by rw [h7]; rfl) rfl)) ?_
        refine rg_put (d := 23) (v := .d (.fl (.bool false))) rfl (og rfl (op_move rfl rfl rfl)) ?_
        refine rg_put (d := 24) (v := .d (.fl undef)) rfl (on rfl rfl rfl rfl) ?_
        refine rg_put (d := 25) (v := .d (.fl undef)) rfl (on rfl rfl rfl rfl) ?_
        refine rg_put (d := 26) (v := .d (.fl undef)) rfl (on rfl rfl rfl rfl) ?_
        refine rg_put (d := 27) (v := .d (.fl (.bool false))) rfl (og rfl (op_pick rfl rfl rfl rfl)) ?_
        refine rg_put (d := 2) (v := .d (.fl (.bool false))) rfl (og rfl (op_assign rfl rfl rfl)) ?_
        refine rg_done rfl ?_
        refine a_ret ?_
        show ∃ ds, ResL _ _ _ ds ∧ RV.of ds = _
        refine ⟨[.fl (.bool false)], (.cons (.tmp rfl (.d _)) .nil), ?_⟩
        have hu : vW w = false := by
          unfold vW; simp only [h1, h4, h7, Bool.true_and, Bool.false_and, Bool.and_true, Bool.and_false] <;> rfl
        rw [hu]; rfl
      · skip
        have h9 := t_dec h7
        refine rg_put (d := 17) (v := .pt 101 1) rfl (oy rfl rfl rfl h7 (of_eff (s_field_pt rfl Try.underlying48 rfl ti3 rfl rfl rfl) rfl)) ?_
        refine rg_put (d := 18) (v := .d (.fl (.int .i64 w.fr))) rfl (oy rfl rfl rfl h7 (op_load_pt rfl Try.underlying3 rfl rfl rfl rfl rfl)) ?_
        refine rg_put (d := 19) (v := .pt 101 2) rfl (oy rfl rfl rfl h7 (of_eff (s_field_pt rfl Try.underlying48 rfl ti3 rfl rfl rfl) rfl)) ?_
        refine rg_put (d := 20) (v := .d (.fl (.int .i64 w.to))) rfl (oy rfl rfl rfl h7 (op_load_pt rfl Try.underlying3 rfl rfl rfl rfl rfl)) ?_
        refine rg_put (d := 21) (v := .d (.fl (.bool ((decide (w.fr < w.to)))))) rfl (oy rfl rfl rfl h7 (op_bin rfl rfl rfl (b_lss _ _ _ _) rfl)) ?_
        refine rg_put (d := 22) (v := .d (.fl (.bool ((decide (w.fr < w.to)))))) rfl (og rfl (op_pick rfl rfl (by rw [h7]; rfl) rfl)) ?_
        refine rg_put (d := 23) (v := .d (.fl (.bool ((decide (w.fr < w.to)))))) rfl (og rfl (op_move rfl rfl rfl)) ?_
        rcases fot ((decide (w.fr < w.to))) with h10 | h10
        · skip
          have h11 := f_dec h10
          refine rg_put (d := 24) (v := .d (.fl undef)) rfl (on rfl rfl rfl h10) ?_
          refine rg_put (d := 25) (v := .d (.fl undef)) rfl (on rfl rfl rfl h10) ?_
          refine rg_put (d := 26) (v := .d (.fl undef)) rfl (on rfl rfl rfl h10) ?_
          refine rg_put (d := 27) (v := .d (.fl (.bool false))) rfl (og rfl (op_pick rfl rfl (by rw [h10]; rfl) rfl)) ?_
          refine rg_put (d := 2) (v := .d (.fl (.bool false))) rfl (og rfl (op_assign rfl rfl rfl)) ?_
          refine rg_done rfl ?_
          refine a_ret ?_
          show ∃ ds, ResL _ _ _ ds ∧ RV.of ds = _
          refine ⟨[.fl (.bool false)], (.cons (.tmp rfl (.d _)) .nil), ?_⟩
          have hu : vW w = false := by
            unfold vW; simp only [h1, h4, h7, h10, Bool.true_and, Bool.false_and, Bool.and_true, Bool.and_false] <;> rfl
          rw [hu]; rfl
        · skip
          have h12 := t_dec h10
          refine rg_put (d := 24) (v := .pt 101 2) rfl (oy rfl rfl rfl h10 (of_eff (s_field_pt rfl Try.underlying48 rfl ti3 rfl rfl rfl) rfl)) ?_
          refine rg_put (d := 25) (v := .d (.fl (.int .i64 w.to))) rfl (oy rfl rfl rfl h10 (op_load_pt rfl Try.underlying3 rfl rfl rfl rfl rfl)) ?_
          refine rg_put (d := 26) (v := .d (.fl (.bool ((decide (w.to ≤ 1440)))))) rfl (oy rfl rfl rfl h10 (op_bin rfl rfl rfl (b_leq _ _ _ _) rfl)) ?_
          refine rg_put (d := 27) (v := .d (.fl (.bool ((decide (w.to ≤ 1440)))))) rfl (og rfl (op_pick rfl rfl (by rw [h10]; rfl) rfl)) ?_
          refine rg_put (d := 2) (v := .d (.fl (.bool ((decide (w.to ≤ 1440)))))) rfl (og rfl (op_assign rfl rfl rfl)) ?_
          refine rg_done rfl ?_
          refine a_ret ?_
          show ∃ ds, ResL _ _ _ ds ∧ RV.of ds = _
          refine ⟨[.fl (.bool ((decide (w.to ≤ 1440))))], (.cons (.tmp rfl (.d _)) .nil), ?_⟩
          have hu : vW w = (decide (w.to ≤ 1440)) := by
            unfold vW; simp only [h1, h4, h7, h10, Bool.true_and, Bool.false_and, Bool.and_true, Bool.and_false] <;> rfl
          rw [hu]; rfl
set_option maxHeartbeats 4000000 in
set_option maxRecDepth 100000 in
theorem isT29 (t : Int) : Ctr Try.prog 38 [.fl (.int .i64 t)] (.d (.fl (.bool (isT t)))) := by
  refine ctr (n := 9) (rs := #[.tmp 2]) (L := [(0, .d (.fl (.int .i64 t)))]) Try.func38 rfl rfl rfl rfl rfl (fun w0 U0 => ?_)
  refine a_rseq ?_
  refine rg_put (d := 2) (v := .d (.fl (.bool false))) rfl (og rfl (op_assign rfl rfl rfl)) ?_
  refine rg_done rfl ?_
  refine a_rseq ?_
  refine rg_put (d := 3) (v := .d (.fl (.int .i64 t))) rfl (og rfl (op_move rfl rfl rfl)) ?_
  refine rg_put (d := 4) (v := .d (.fl (.bool ((decide (0 ≤ t)))))) rfl (og rfl (op_bin rfl rfl rfl (b_leq _ _ _ _) rfl)) ?_
  refine rg_put (d := 5) (v := .d (.fl (.bool ((decide (0 ≤ t)))))) rfl (og rfl (op_move rfl rfl rfl)) ?_
  rcases fot ((decide (0 ≤ t))) with h1 | h1
  · skip
    have h2 := f_dec h1
    refine rg_put (d := 6) (v := .d (.fl undef)) rfl (on rfl rfl rfl h1) ?_
    refine rg_put (d := 7) (v := .d (.fl undef)) rfl (on rfl rfl rfl h1) ?_
    refine rg_put (d := 8) (v := .d (.fl (.bool false))) rfl (og rfl (op_pick rfl rfl (by rw [h1]; rfl) rfl)) ?_
    refine rg_put (d := 2) (v := .d (.fl (.bool false))) rfl (og rfl (op_assign rfl rfl rfl)) ?_
    refine rg_done rfl ?_
    refine a_ret ?_
    show ∃ ds, ResL _ _ _ ds ∧ RV.of ds = _
    refine ⟨[.fl (.bool false)], (.cons (.tmp rfl (.d _)) .nil), ?_⟩
    have hu : isT t = false := by
      unfold isT; simp only [h1, Bool.true_and, Bool.false_and, Bool.and_true, Bool.and_false] <;> rfl
    rw [hu]; rfl
  · skip
    have h3 := t_dec h1
    refine rg_put (d := 6) (v := .d (.fl (.int .i64 t))) rfl (oy rfl rfl rfl h1 (op_move rfl rfl rfl)) ?_
    refine rg_put (d := 7) (v := .d (.fl (.bool ((decide (t < 68719476736)))))) rfl (oy rfl rfl rfl h1 (op_bin rfl rfl rfl (b_lss _ _ _ _) rfl)) ?_
    refine rg_put (d := 8) (v := .d (.fl (.bool ((decide (t < 68719476736)))))) rfl (og rfl (op_pick rfl rfl (by rw [h1]; rfl) rfl)) ?_
    refine rg_put (d := 2) (v := .d (.fl (.bool ((decide (t < 68719476736)))))) rfl (og rfl (op_assign rfl rfl rfl)) ?_
    refine rg_done rfl ?_
    refine a_ret ?_
    show ∃ ds, ResL _ _ _ ds ∧ RV.of ds = _
    refine ⟨[.fl (.bool ((decide (t < 68719476736))))], (.cons (.tmp rfl (.d _)) .nil), ?_⟩
    have hu : isT t = (decide (t < 68719476736)) := by
      unfold isT; simp only [h1, Bool.true_and, Bool.false_and, Bool.and_true, Bool.and_false] <;> rfl
    rw [hu]; rfl
theorem isTk29 (t : Int) (h : 0 ≤ t ∧ t < 68719476736) : Ctr Try.prog 38 [.fl (.int .i64 t)] (.d (.fl (.bool true))) := by
  have := isT29 t
  rw [isT_of h] at this; exact this
set_option maxHeartbeats 4000000 in
set_option maxRecDepth 100000 in
theorem min30 (t : Int) (h : 0 ≤ t ∧ t < 68719476736) : Ctr Try.prog 39 [.fl (.int .i64 t)] (.d (.fl (.int .i64 (t % 86400 / 60)))) := by
  refine ctr (n := 9) (rs := #[.tmp 2]) (L := [(0, .d (.fl (.int .i64 t)))]) Try.func39 rfl rfl rfl rfl rfl (fun w0 U0 => ?_)
  refine a_rseq ?_
  refine rg_put (d := 2) (v := .d (.fl (.int .i64 0))) rfl (og rfl (op_assign rfl rfl rfl)) ?_
  refine rg_done rfl ?_
  refine a_seq ?_
  refine a_rseq ?_
  refine rg_put (d := 3) (v := .d (.fl (.int .i64 t))) rfl (og rfl (op_move rfl rfl rfl)) ?_
  refine rg_put (d := 4) (v := .d (.fl (.bool true))) rfl (og rfl (op_call rfl Try.func38 nm38 rfl (.cons rfl (.d _) .nil) (isTk29 t h) rfl)) ?_
  refine rg_put (d := 5) (v := .d (.fl (.bool (!true)))) rfl (og rfl (op_un rfl rfl (u_not _) rfl)) ?_
  refine rg_done rfl ?_
  refine a_condF rfl rfl ?_
  refine a_skip ?_
  show A _ _ _ _ _ _ _
  refine a_rseq ?_
  refine rg_put (d := 6) (v := .d (.fl (.int .i64 t))) rfl (og rfl (op_move rfl rfl rfl)) ?_
  refine rg_put (d := 7) (v := .d (.fl (.int .i64 (t % 86400)))) rfl (og rfl (op_bin rfl rfl rfl (fun x y w => b_rem _ _ _ x y w (by omega) (by omega)) rfl)) ?_
  refine rg_put (d := 8) (v := .d (.fl (.int .i64 ((IntKind.i64.wrap ((t % 86400) / 60)))))) rfl (og rfl (op_bin rfl rfl rfl (fun x y w => b_quoK _ _ _ _ x y w (by omega) (by omega)) rfl)) ?_
  refine rg_put (d := 2) (v := .d (.fl (.int .i64 ((IntKind.i64.wrap ((t % 86400) / 60)))))) rfl (og rfl (op_assign rfl rfl rfl)) ?_
  refine rg_done rfl ?_
  refine a_ret ?_
  show ∃ ds, ResL _ _ _ ds ∧ RV.of ds = _
  refine ⟨[.fl (.int .i64 ((IntKind.i64.wrap ((t % 86400) / 60))))], (.cons (.tmp rfl (.d _)) .nil), ?_⟩
  exact congrArg (fun z => RV.d (.fl (.int .i64 z))) (w64 (by omega))
set_option maxHeartbeats 4000000 in
set_option maxRecDepth 100000 in
theorem day32 (t : Int) (h : 0 ≤ t ∧ t < 68719476736) : Ctr Try.prog 41 [.fl (.int .i64 t)] (.d (.fl (.int .i64 (t / 86400)))) := by
  refine ctr (n := 8) (rs := #[.tmp 2]) (L := [(0, .d (.fl (.int .i64 t)))]) Try.func41 rfl rfl rfl rfl rfl (fun w0 U0 => ?_)
  refine a_rseq ?_
  refine rg_put (d := 2) (v := .d (.fl (.int .i64 0))) rfl (og rfl (op_assign rfl rfl rfl)) ?_
  refine rg_done rfl ?_
  refine a_seq ?_
  refine a_rseq ?_
  refine rg_put (d := 3) (v := .d (.fl (.int .i64 t))) rfl (og rfl (op_move rfl rfl rfl)) ?_
  refine rg_put (d := 4) (v := .d (.fl (.bool true))) rfl (og rfl (op_call rfl Try.func38 nm38 rfl (.cons rfl (.d _) .nil) (isTk29 t h) rfl)) ?_
  refine rg_put (d := 5) (v := .d (.fl (.bool (!true)))) rfl (og rfl (op_un rfl rfl (u_not _) rfl)) ?_
  refine rg_done rfl ?_
  refine a_condF rfl rfl ?_
  refine a_skip ?_
  show A _ _ _ _ _ _ _
  refine a_rseq ?_
  refine rg_put (d := 6) (v := .d (.fl (.int .i64 t))) rfl (og rfl (op_move rfl rfl rfl)) ?_
  refine rg_put (d := 7) (v := .d (.fl (.int .i64 ((IntKind.i64.wrap (t / 86400)))))) rfl (og rfl (op_bin rfl rfl rfl (fun x y w => b_quoK _ _ _ _ x y w (by omega) (by omega)) rfl)) ?_
  refine rg_put (d := 2) (v := .d (.fl (.int .i64 ((IntKind.i64.wrap (t / 86400)))))) rfl (og rfl (op_assign rfl rfl rfl)) ?_
  refine rg_done rfl ?_
  refine a_ret ?_
  show ∃ ds, ResL _ _ _ ds ∧ RV.of ds = _
  refine ⟨[.fl (.int .i64 ((IntKind.i64.wrap (t / 86400))))], (.cons (.tmp rfl (.d _)) .nil), ?_⟩
  exact congrArg (fun z => RV.d (.fl (.int .i64 z))) (w64 (by omega))
set_option maxHeartbeats 4000000 in
set_option maxRecDepth 100000 in
theorem onDay31 (w : Wd) (d : Int) (hw : 1 ≤ w.days ∧ w.days ≤ 127) (h : 0 ≤ d ∧ d ≤ 1000000000) : Ctr Try.prog 40 [.ag (eWd w), .fl (.int .i64 d)] (.d (.fl (.bool (bitd w.days (d % 7).toNat)))) := by
  refine ctr (n := 12) (rs := #[.tmp 4]) (L := [(0, .d (.ag (eWd w))), (1, .d (.fl (.int .i64 d)))]) Try.func40 rfl rfl rfl rfl rfl (fun w0 U0 => ?_)
  refine a_rseq ?_
  refine rg_nam (d := 2) (v := .pt 101 0) (m := 101) (nw := [(101, .bx 48 (eWd w))]) rfl (og rfl (of_eff (op_box 101 rfl rfl rfl rfl) rfl)) rfl ?_
  refine rg_put (d := 4) (v := .d (.fl (.bool false))) rfl (og rfl (op_assign rfl rfl rfl)) ?_
  refine rg_done rfl ?_
  refine a_rseq ?_
  refine rg_put (d := 5) (v := .pt 101 0) rfl (og rfl (of_eff (s_field_pt rfl Try.underlying48 rfl ti3 rfl rfl rfl) rfl)) ?_
  refine rg_put (d := 6) (v := .d (.fl (.int .i64 w.days))) rfl (og rfl (op_load_pt rfl Try.underlying3 rfl rfl rfl rfl rfl)) ?_
  refine rg_put (d := 7) (v := .d (.fl (.int .i64 d))) rfl (og rfl (op_move rfl rfl rfl)) ?_
  refine rg_put (d := 8) (v := .d (.fl (.int .i64 (d % 7)))) rfl (og rfl (op_bin rfl rfl rfl (fun x y w => b_rem _ _ _ x y w (by omega) (by omega)) rfl)) ?_
  refine rg_put (d := 9) (v := .d (.fl (.int .i64 ((w.days / 2 ^ min (((d % 7) : Int)).toNat IntKind.i64.bits))))) rfl (og rfl (op_bin rfl rfl rfl (fun x y w => b_shr _ _ _ _ _ x y w (by omega)) rfl)) ?_
  refine rg_put (d := 10) (v := .d (.fl (.int .i64 ((bits .and .i64 ((w.days / 2 ^ min (((d % 7) : Int)).toNat IntKind.i64.bits)) 1))))) rfl (og rfl (op_bin rfl rfl rfl (b_and _ _ _ _) rfl)) ?_
  refine rg_put (d := 11) (v := .d (.fl (.bool (((bits .and .i64 ((w.days / 2 ^ min (((d % 7) : Int)).toNat IntKind.i64.bits)) 1) == 1))))) rfl (og rfl (op_bin rfl rfl rfl (b_eql _ _ _ _) rfl)) ?_
  refine rg_put (d := 4) (v := .d (.fl (.bool (((bits .and .i64 ((w.days / 2 ^ min (((d % 7) : Int)).toNat IntKind.i64.bits)) 1) == 1))))) rfl (og rfl (op_assign rfl rfl rfl)) ?_
  refine rg_done rfl ?_
  refine a_ret ?_
  show ∃ ds, ResL _ _ _ ds ∧ RV.of ds = _
  refine ⟨[.fl (.bool (((bits .and .i64 ((w.days / 2 ^ min (((d % 7) : Int)).toNat IntKind.i64.bits)) 1) == 1)))], (.cons (.tmp rfl (.d _)) .nil), ?_⟩
  exact congrArg (fun z => RV.d (.fl (.bool z))) (and_bit hw (by omega))
set_option maxHeartbeats 4000000 in
set_option maxRecDepth 100000 in
theorem inW19 (w : Wd) (t : Int) : Ctr Try.prog 25 [.ag (eWd w), .fl (.int .i64 t)] (.d (.fl (.bool (inW w t)))) := by
  refine ctr (n := 32) (rs := #[.tmp 4]) (L := [(0, .d (.ag (eWd w))), (1, .d (.fl (.int .i64 t)))]) Try.func25 rfl rfl rfl rfl rfl (fun w0 U0 => ?_)
  refine a_rseq ?_
  refine rg_nam (d := 2) (v := .pt 101 0) (m := 101) (nw := [(101, .bx 48 (eWd w))]) rfl (og rfl (of_eff (op_box 101 rfl rfl rfl rfl) rfl)) rfl ?_
  refine rg_put (d := 4) (v := .d (.fl (.bool false))) rfl (og rfl (op_assign rfl rfl rfl)) ?_
  refine rg_done rfl ?_
  refine a_seq ?_
  refine a_rseq ?_
  refine rg_put (d := 6) (v := .d (.ag (eWd w))) rfl (og rfl (of_eff (s_load_pts rfl Try.underlying48 rfl ti48 rfl rfl rfl rfl) rfl)) ?_
  refine rg_put (d := 7) (v := .d (.fl (.bool (vW w)))) rfl (og rfl (op_call rfl Try.func33 nm33 rfl (.cons rfl (.d _) .nil) (vW28 w) rfl)) ?_
  refine rg_put (d := 8) (v := .d (.fl (.bool ((!(vW w)))))) rfl (og rfl (op_un rfl rfl (u_not _) rfl)) ?_
  refine rg_put (d := 9) (v := .d (.fl (.bool ((!(vW w)))))) rfl (og rfl (op_move rfl rfl rfl)) ?_
  rcases fot ((!(vW w))) with h1 | h1
  · skip
    have h2 := f_not h1
    refine rg_put (d := 10) (v := .d (.fl (.int .i64 t))) rfl (oy rfl rfl rfl h1 (op_move rfl rfl rfl)) ?_
    refine rg_put (d := 11) (v := .d (.fl (.bool (isT t)))) rfl (oy rfl rfl rfl h1 (op_call rfl Try.func38 nm38 rfl (.cons rfl (.d _) .nil) (isT29 t) rfl)) ?_
    refine rg_put (d := 12) (v := .d (.fl (.bool ((!(isT t)))))) rfl (oy rfl rfl rfl h1 (op_un rfl rfl (u_not _) rfl)) ?_
    refine rg_put (d := 13) (v := .d (.fl (.bool ((!(isT t)))))) rfl (og rfl (op_pick rfl rfl (by rw [h1]; rfl) rfl)) ?_
    refine rg_done rfl ?_
    refine a_cond rfl (fun h3 => ?_) (fun h3 => ?_)
    · skip
      have h4 := t_not h3
      refine a_rseq ?_
      refine rg_put (d := 4) (v := .d (.fl (.bool false))) rfl (og rfl (op_assign rfl rfl rfl)) ?_
      refine rg_done rfl ?_
      refine a_ret ?_
      show ∃ ds, ResL _ _ _ ds ∧ RV.of ds = _
      refine ⟨[.fl (.bool false)], (.cons (.tmp rfl (.d _)) .nil), ?_⟩
      rw [inW_no (by rw [h4, Bool.and_false])]; rfl
    · skip
      have h5 := f_not h3
      refine a_skip ?_
      show A _ _ _ _ _ _ _
      refine a_rseq ?_
      refine rg_put (d := 14) (v := .d (.fl (.int .i64 t))) rfl (og rfl (op_move rfl rfl rfl)) ?_
      refine rg_put (d := 15) (v := .d (.fl (.int .i64 (t % 86400 / 60)))) rfl (og rfl (op_call rfl Try.func39 nm39 rfl (.cons rfl (.d _) .nil) (min30 t (isT_t h5)) rfl)) ?_
      refine rg_put (d := 5) (v := .d (.fl (.int .i64 (t % 86400 / 60)))) rfl (og rfl (op_assign rfl rfl rfl)) ?_
      refine rg_done rfl ?_
      refine a_dseq (by kernel_rfl) ?_
      refine dr_put (d := 16) (v := .d (.ag (eWd w))) rfl (og rfl (of_eff (s_load_pts rfl Try.underlying48 rfl ti48 rfl rfl rfl rfl) rfl)) ?_
      refine dr_put (d := 17) (v := .d (.fl (.int .i64 t))) rfl (og rfl (op_move rfl rfl rfl)) ?_
      refine dr_put (d := 18) (v := .d (.fl (.int .i64 (t / 86400)))) rfl (og rfl (op_call rfl Try.func41 nm41 rfl (.cons rfl (.d _) .nil) (day32 t (isT_t h5)) rfl)) ?_
      refine dr_put (d := 19) (v := .d (.fl (.bool ((bitd w.days ((t / 86400) % 7).toNat))))) rfl (og rfl (op_call rfl Try.func40 nm40 rfl (.cons rfl (.d _) (.cons rfl (.d _) .nil)) (onDay31 w (t / 86400) (vW_d h2) (by have := (isT_t h5); omega)) rfl)) ?_
      refine dr_put (d := 20) (v := .d (.fl (.bool ((bitd w.days ((t / 86400) % 7).toNat))))) rfl (og rfl (op_move rfl rfl rfl)) ?_
      rcases fot ((bitd w.days ((t / 86400) % 7).toNat)) with h6 | h6
      · skip
        refine dr_put (d := 21) (v := .d (.fl undef)) rfl (on rfl rfl rfl h6) ?_
        refine dr_put (d := 22) (v := .d (.fl undef)) rfl (on rfl rfl rfl h6) ?_
        refine dr_put (d := 23) (v := .d (.fl undef)) rfl (on rfl rfl rfl h6) ?_
        refine dr_put (d := 24) (v := .d (.fl undef)) rfl (on rfl rfl rfl h6) ?_
        refine dr_put (d := 25) (v := .d (.fl (.bool false))) rfl (og rfl (op_pick rfl rfl (by rw [h6]; rfl) rfl)) ?_
        refine dr_put (d := 26) (v := .d (.fl (.bool false))) rfl (og rfl (op_move rfl rfl rfl)) ?_
        refine dr_put (d := 27) (v := .d (.fl undef)) rfl (on rfl rfl rfl rfl) ?_
        refine dr_put (d := 28) (v := .d (.fl undef)) rfl (on rfl rfl rfl rfl) ?_
        refine dr_put (d := 29) (v := .d (.fl undef)) rfl (on rfl rfl rfl rfl) ?_
        refine dr_put (d := 30) (v := .d (.fl undef)) rfl (on rfl rfl rfl rfl) ?_
        refine dr_put (d := 31) (v := .d (.fl (.bool false))) rfl (og rfl (op_pick rfl rfl rfl rfl)) ?_
        refine dr_put (d := 4) (v := .d (.fl (.bool false))) rfl (og rfl (op_assign rfl rfl rfl)) ?_
        refine dr_done rfl (sepB_of [0, 0, 2, 7, 15, 31, 63, 31, 255, 511, 1023, 2047, 2047, 6143, 16383, 32767, 65535] (by kernel_rfl)) (by kernel_rfl) ?_
        refine a_ret ?_
        show ∃ ds, ResL _ _ _ ds ∧ RV.of ds = _
        refine ⟨[.fl (.bool false)], (.cons (.tmp rfl (.d _)) .nil), ?_⟩
        have hu : inW w t = false := by
          rw [inW_yes h2 h5]; simp only [h1, h3, h6, Bool.true_and, Bool.false_and, Bool.and_true, Bool.and_false] <;> rfl
        rw [hu]; rfl
      · skip
        refine dr_put (d := 21) (v := .pt 101 1) rfl (oy rfl rfl rfl h6 (of_eff (s_field_pt rfl Try.underlying48 rfl ti3 rfl rfl rfl) rfl)) ?_
        refine dr_put (d := 22) (v := .d (.fl (.int .i64 w.fr))) rfl (oy rfl rfl rfl h6 (op_load_pt rfl Try.underlying3 rfl rfl rfl rfl rfl)) ?_
        refine dr_put (d := 23) (v := .d (.fl (.int .i64 (t % 86400 / 60)))) rfl (oy rfl rfl rfl h6 (op_move rfl rfl rfl)) ?_
        refine dr_put (d := 24) (v := .d (.fl (.bool ((decide (w.fr ≤ (t % 86400 / 60))))))) rfl (oy rfl rfl rfl h6 (op_bin rfl rfl rfl (b_leq _ _ _ _) rfl)) ?_
        refine dr_put (d := 25) (v := .d (.fl (.bool ((decide (w.fr ≤ (t % 86400 / 60))))))) rfl (og rfl (op_pick rfl rfl (by rw [h6]; rfl) rfl)) ?_
        refine dr_put (d := 26) (v := .d (.fl (.bool ((decide (w.fr ≤ (t % 86400 / 60))))))) rfl (og rfl (op_move rfl rfl rfl)) ?_
        rcases fot ((decide (w.fr ≤ (t % 86400 / 60)))) with h7 | h7
        · skip
          have h8 := f_dec h7
          refine dr_put (d := 27) (v := .d (.fl undef)) rfl (on rfl rfl rfl h7) ?_
          refine dr_put (d := 28) (v := .d (.fl undef)) rfl (on rfl rfl rfl h7) ?_
          refine dr_put (d := 29) (v := .d (.fl undef)) rfl (on rfl rfl rfl h7) ?_
          refine dr_put (d := 30) (v := .d (.fl undef)) rfl (on rfl rfl rfl h7) ?_
          refine dr_put (d := 31) (v := .d (.fl (.bool false))) rfl (og rfl (op_pick rfl rfl (by rw [h7]; rfl) rfl)) ?_
          refine dr_put (d := 4) (v := .d (.fl (.bool false))) rfl (og rfl (op_assign rfl rfl rfl)) ?_
          refine dr_done rfl (sepB_of [0, 0, 2, 7, 15, 31, 63, 31, 255, 511, 1023, 2047, 2047, 6143, 16383, 32767, 65535] (by kernel_rfl)) (by kernel_rfl) ?_
          refine a_ret ?_
          show ∃ ds, ResL _ _ _ ds ∧ RV.of ds = _
          refine ⟨[.fl (.bool false)], (.cons (.tmp rfl (.d _)) .nil), ?_⟩
          have hu : inW w t = false := by
            rw [inW_yes h2 h5]; simp only [h1, h3, h6, h7, Bool.true_and, Bool.false_and, Bool.and_true, Bool.and_false] <;> rfl
          rw [hu]; rfl
        · skip
          have h9 := t_dec h7
          refine dr_put (d := 27) (v := .d (.fl (.int .i64 (t % 86400 / 60)))) rfl (oy rfl rfl rfl h7 (op_move rfl rfl rfl)) ?_
          refine dr_put (d := 28) (v := .pt 101 2) rfl (oy rfl rfl rfl h7 (of_eff (s_field_pt rfl Try.underlying48 rfl ti3 rfl rfl rfl) rfl)) ?_
          refine dr_put (d := 29) (v := .d (.fl (.int .i64 w.to))) rfl (oy rfl rfl rfl h7 (op_load_pt rfl Try.underlying3 rfl rfl rfl rfl rfl)) ?_
          refine dr_put (d := 30) (v := .d (.fl (.bool ((decide ((t % 86400 / 60) < w.to)))))) rfl (oy rfl rfl rfl h7 (op_bin rfl rfl rfl (b_lss _ _ _ _) rfl)) ?_
          refine dr_put (d := 31) (v := .d (.fl (.bool ((decide ((t % 86400 / 60) < w.to)))))) rfl (og rfl (op_pick rfl rfl (by rw [h7]; rfl) rfl)) ?_
          refine dr_put (d := 4) (v := .d (.fl (.bool ((decide ((t % 86400 / 60) < w.to)))))) rfl (og rfl (op_assign rfl rfl rfl)) ?_
          refine dr_done rfl (sepB_of [0, 0, 2, 7, 15, 31, 63, 31, 255, 511, 1023, 2047, 2047, 6143, 16383, 32767, 65535] (by kernel_rfl)) (by kernel_rfl) ?_
          refine a_ret ?_
          show ∃ ds, ResL _ _ _ ds ∧ RV.of ds = _
          refine ⟨[.fl (.bool ((decide ((t % 86400 / 60) < w.to))))], (.cons (.tmp rfl (.d _)) .nil), ?_⟩
          have hu : inW w t = (decide ((t % 86400 / 60) < w.to)) := by
            rw [inW_yes h2 h5]; simp only [h1, h3, h6, h7, Bool.true_and, Bool.false_and, Bool.and_true, Bool.and_false] <;> rfl
          rw [hu]; rfl
  · skip
    have h10 := t_not h1
    refine rg_put (d := 10) (v := .d (.fl undef)) rfl (on rfl rfl rfl h1) ?_
    refine rg_put (d := 11) (v := .d (.fl undef)) rfl (on rfl rfl rfl h1) ?_
    refine rg_put (d := 12) (v := .d (.fl undef)) rfl (on rfl rfl rfl h1) ?_
    refine rg_put (d := 13) (v := .d (.fl (.bool true))) rfl (og rfl (op_pick rfl rfl (by rw [h1]; rfl) rfl)) ?_
    refine rg_done rfl ?_
    refine a_condK rfl rfl ?_
    refine a_rseq ?_
    refine rg_put (d := 4) (v := .d (.fl (.bool false))) rfl (og rfl (op_assign rfl rfl rfl)) ?_
    refine rg_done rfl ?_
    refine a_ret ?_
    show ∃ ds, ResL _ _ _ ds ∧ RV.of ds = _
    refine ⟨[.fl (.bool false)], (.cons (.tmp rfl (.d _)) .nil), ?_⟩
    rw [inW_no (by rw [h10]; rfl)]; rfl
end Go.Proofs.Ytniefocnfcaebaa.Wk
