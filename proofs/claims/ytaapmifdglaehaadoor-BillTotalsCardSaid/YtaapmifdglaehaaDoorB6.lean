/- Totals, both sides. Conditions: as each theorem names them. -/
import Derived.Test.YtaapmifdglaehaaDoorAvH
import Derived.Test.YtaapmifdglaehaaDoorB5
set_option linter.unusedSimpArgs false
set_option linter.unusedVariables false
namespace Go.Proofs.YtaapmifdglaehaaDoor.Wk
open Go Go.RowKit Go.Proofs.YtaapmifdglaehaaDoor.Av
def ai (l : List Ac) (s : ByteArray) : Int := idx (fun a : Ac => sEq a.name s) l
theorem ai_in (l : List Ac) (s : ByteArray) : -1 ≤ ai l s ∧ ai l s < (l.length : Int) := idx_in _ l
def fin_ (l : List Ac) (s : ByteArray) : Ac × Bool := if ai l s < 0 then (⟨⟨#[]⟩, ⟨#[]⟩, false, [], ⟨0, 0, 0, 0⟩, false⟩, false) else (ix l (ai l s).toNat, true)

def fitB (n : Int) : Bool := decide (-1125899906842624 ≤ n) && decide (n ≤ 1125899906842624)
theorem fit_t {n : Int} (h : fitB n = true) : -1125899906842624 ≤ n ∧ n ≤ 1125899906842624 := by
  unfold fitB at h
  simp only [Bool.and_eq_true, decide_eq_true_eq] at h
  exact h
def sI (l : List Int) : Nat → Int
  | 0 => 0
  | k + 1 => sI l k + ix l k
theorem sI_in {l : List Int} : ∀ k, (∀ q, q < k → fitB (ix l q) = true) → -(1125899906842624 * (k : Int)) ≤ sI l k ∧ sI l k ≤ 1125899906842624 * (k : Int)
  | 0, _ => by simp [sI]
  | k + 1, h => by
    have ih := sI_in k (fun q hq => h q (by omega))
    have h1 := fit_t (h k (by omega))
    simp only [sI]
    omega
def tot (l : List Int) : Int × Int := bif l.all fitB then (bif fitB (sI l l.length) then (sI l l.length, 0) else (0, 13)) else (0, 13)
theorem tot_bad {l : List Int} {k : Nat} (hk : k < l.length) (h : fitB (ix l k) = false) : tot l = (0, 13) := by unfold tot; rw [all_no hk h]; rfl
theorem tot_end {l : List Int} (hq : ∀ q, q < l.length → fitB (ix l q) = true) : tot l = bif fitB (sI l l.length) then (sI l l.length, 0) else (0, 13) := by unfold tot; rw [all_yes hq]; rfl
def ctl (i : Iv) (l : List Chg) (k : Nat) : List Int := ((l.take k).filter (fun x => hasI i x.time)).map (·.cents)
theorem ctl_y {i : Iv} {l : List Chg} {k : Nat} (hk : k < l.length) (h : hasI i (ix l k).time = true) : ctl i l k ++ [(ix l k).cents] = ctl i l (k + 1) := by
  unfold ctl
  rw [take_ix hk, List.filter_append, List.map_append]
  simp [h]
theorem ctl_n {i : Iv} {l : List Chg} {k : Nat} (hk : k < l.length) (h : hasI i (ix l k).time = false) : ctl i l k = ctl i l (k + 1) := by
  unfold ctl
  rw [take_ix hk, List.filter_append, List.map_append]
  simp [h]
theorem ctl_len (i : Iv) (l : List Chg) (k : Nat) : (ctl i l k).length ≤ k := by
  unfold ctl
  have := List.length_filter_le (fun x : Chg => hasI i x.time) (l.take k)
  rw [List.length_take] at this
  rw [List.length_map]; omega
def tt (l : List Ac) (n : ByteArray) (c : List Chg) (i : Iv) : Int × Int := bif !(fin_ l n).2 then (0, 25) else bif !(vI i) then (0, 12) else tot (ctl i (ofl l n c) (ofl l n c).length)

set_option maxHeartbeats 4000000 in
set_option maxRecDepth 100000 in
theorem vIR (i : Iv) : Ctr Tryd.prog 62 [.ag (eIv i)] (.d (.fl (.bool (vI i)))) := by
  refine ctr (n := 18) (rs := #[.tmp 2]) (L := [(0, .d (.ag (eIv i)))]) Tryd.func62 rfl rfl rfl rfl rfl (fun w0 U0 => ?_)
  refine a_rseq ?_
  refine rg_nam (d := 1) (v := .pt 101 0) (m := 101) (nw := [(101, .bx 28 (eIv i))]) rfl (og rfl (of_eff (op_box 101 rfl rfl rfl rfl) rfl)) rfl ?_
  refine rg_put (d := 2) (v := .d (.fl (.bool false))) rfl (og rfl (op_assign rfl rfl rfl)) ?_
  refine rg_done rfl ?_
  refine a_rseq ?_
  refine rg_put (d := 3) (v := .pt 101 0) rfl (og rfl (of_eff (s_field_pt rfl Tryd.underlying28 rfl ti3 rfl rfl rfl) rfl)) ?_
  refine rg_put (d := 4) (v := .d (.fl (.int .i64 i.fr))) rfl (og rfl (op_load_pt rfl Tryd.underlying3 rfl rfl rfl rfl rfl)) ?_
  refine rg_put (d := 5) (v := .d (.fl (.bool ((decide (0 ≤ i.fr)))))) rfl (og rfl (op_bin rfl rfl rfl (b_geq _ _ _ _) rfl)) ?_
  refine rg_put (d := 6) (v := .d (.fl (.bool ((decide (0 ≤ i.fr)))))) rfl (og rfl (op_move rfl rfl rfl)) ?_
  rcases fot ((decide (0 ≤ i.fr))) with h1 | h1
  · skip
    have h2 := f_dec h1
    refine rg_put (d := 7) (v := .d (.fl undef)) rfl (on rfl rfl rfl h1) ?_
    refine rg_put (d := 8) (v := .d (.fl undef)) rfl (on rfl rfl rfl h1) ?_
    refine rg_put (d := 9) (v := .d (.fl undef)) rfl (on rfl rfl rfl h1) ?_
    refine rg_put (d := 10) (v := .d (.fl undef)) rfl (on rfl rfl rfl h1) ?_
    refine rg_put (d := 11) (v := .d (.fl undef)) rfl (on rfl rfl rfl h1) ?_
    refine rg_put (d := 12) (v := .d (.fl (.bool false))) rfl (og rfl (op_pick rfl rfl (by rw [h1]; rfl) rfl)) ?_
    refine rg_put (d := 13) (v := .d (.fl (.bool false))) rfl (og rfl (op_move rfl rfl rfl)) ?_
    refine rg_put (d := 14) (v := .d (.fl undef)) rfl (on rfl rfl rfl rfl) ?_
    refine rg_put (d := 15) (v := .d (.fl undef)) rfl (on rfl rfl rfl rfl) ?_
    refine rg_put (d := 16) (v := .d (.fl undef)) rfl (on rfl rfl rfl rfl) ?_
    refine rg_put (d := 17) (v := .d (.fl (.bool false))) rfl (og rfl (op_pick rfl rfl rfl rfl)) ?_
    refine rg_put (d := 2) (v := .d (.fl (.bool false))) rfl (og rfl (op_assign rfl rfl rfl)) ?_
    refine rg_done rfl ?_
    refine a_ret ?_
    show ∃ ds, ResL _ _ _ ds ∧ RV.of ds = _
    refine ⟨[.fl (.bool false)], (.cons (.tmp rfl (.d _)) .nil), ?_⟩
    have hu : vI i = false := by unfold vI; simp only [h1, Bool.true_or, Bool.false_or, Bool.or_true, Bool.or_false, Bool.not_true, Bool.not_false, cond_true, cond_false, Bool.true_and, Bool.false_and, Bool.and_true, Bool.and_false] <;> rfl
    rw [hu]; rfl
  · skip
    have h3 := t_dec h1
    refine rg_put (d := 7) (v := .pt 101 0) rfl (oy rfl rfl rfl h1 (of_eff (s_field_pt rfl Tryd.underlying28 rfl ti3 rfl rfl rfl) rfl)) ?_
    refine rg_put (d := 8) (v := .d (.fl (.int .i64 i.fr))) rfl (oy rfl rfl rfl h1 (op_load_pt rfl Tryd.underlying3 rfl rfl rfl rfl rfl)) ?_
    refine rg_put (d := 9) (v := .pt 101 1) rfl (oy rfl rfl rfl h1 (of_eff (s_field_pt rfl Tryd.underlying28 rfl ti3 rfl rfl rfl) rfl)) ?_
    refine rg_put (d := 10) (v := .d (.fl (.int .i64 i.to))) rfl (oy rfl rfl rfl h1 (op_load_pt rfl Tryd.underlying3 rfl rfl rfl rfl rfl)) ?_
    refine rg_put (d := 11) (v := .d (.fl (.bool ((decide (i.fr < i.to)))))) rfl (oy rfl rfl rfl h1 (op_bin rfl rfl rfl (b_lss _ _ _ _) rfl)) ?_
    refine rg_put (d := 12) (v := .d (.fl (.bool ((decide (i.fr < i.to)))))) rfl (og rfl (op_pick rfl rfl (by rw [h1]; rfl) rfl)) ?_
    refine rg_put (d := 13) (v := .d (.fl (.bool ((decide (i.fr < i.to)))))) rfl (og rfl (op_move rfl rfl rfl)) ?_
    rcases fot ((decide (i.fr < i.to))) with h4 | h4
    · skip
      have h5 := f_dec h4
      refine rg_put (d := 14) (v := .d (.fl undef)) rfl (on rfl rfl rfl h4) ?_
      refine rg_put (d := 15) (v := .d (.fl undef)) rfl (on rfl rfl rfl h4) ?_
      refine rg_put (d := 16) (v := .d (.fl undef)) rfl (on rfl rfl rfl h4) ?_
      refine rg_put (d := 17) (v := .d (.fl (.bool false))) rfl (og rfl (op_pick rfl rfl (by rw [h4]; rfl) rfl)) ?_
      refine rg_put (d := 2) (v := .d (.fl (.bool false))) rfl (og rfl (op_assign rfl rfl rfl)) ?_
      refine rg_done rfl ?_
      refine a_ret ?_
      show ∃ ds, ResL _ _ _ ds ∧ RV.of ds = _
      refine ⟨[.fl (.bool false)], (.cons (.tmp rfl (.d _)) .nil), ?_⟩
      have hu : vI i = false := by unfold vI; simp only [h1, h4, Bool.true_or, Bool.false_or, Bool.or_true, Bool.or_false, Bool.not_true, Bool.not_false, cond_true, cond_false, Bool.true_and, Bool.false_and, Bool.and_true, Bool.and_false] <;> rfl
      rw [hu]; rfl
    · skip
      have h6 := t_dec h4
      refine rg_put (d := 14) (v := .pt 101 1) rfl (oy rfl rfl rfl h4 (of_eff (s_field_pt rfl Tryd.underlying28 rfl ti3 rfl rfl rfl) rfl)) ?_
      refine rg_put (d := 15) (v := .d (.fl (.int .i64 i.to))) rfl (oy rfl rfl rfl h4 (op_load_pt rfl Tryd.underlying3 rfl rfl rfl rfl rfl)) ?_
      refine rg_put (d := 16) (v := .d (.fl (.bool ((decide (i.to ≤ 68719476736)))))) rfl (oy rfl rfl rfl h4 (op_bin rfl rfl rfl (b_leq _ _ _ _) rfl)) ?_
      refine rg_put (d := 17) (v := .d (.fl (.bool ((decide (i.to ≤ 68719476736)))))) rfl (og rfl (op_pick rfl rfl (by rw [h4]; rfl) rfl)) ?_
      refine rg_put (d := 2) (v := .d (.fl (.bool ((decide (i.to ≤ 68719476736)))))) rfl (og rfl (op_assign rfl rfl rfl)) ?_
      refine rg_done rfl ?_
      refine a_ret ?_
      show ∃ ds, ResL _ _ _ ds ∧ RV.of ds = _
      refine ⟨[.fl (.bool ((decide (i.to ≤ 68719476736))))], (.cons (.tmp rfl (.d _)) .nil), ?_⟩
      have hu : vI i = (decide (i.to ≤ 68719476736)) := by unfold vI; simp only [h1, h4, Bool.true_or, Bool.false_or, Bool.or_true, Bool.or_false, Bool.not_true, Bool.not_false, cond_true, cond_false, Bool.true_and, Bool.false_and, Bool.and_true, Bool.and_false] <;> rfl
      rw [hu]; rfl
set_option maxHeartbeats 4000000 in
set_option maxRecDepth 100000 in
theorem vI4 (i : Iv) : Ctr Tryd.prog 22 [.ag (eIv i)] (.d (.fl (.bool (vI i)))) := by
  refine ctr (n := 18) (rs := #[.tmp 2]) (L := [(0, .d (.ag (eIv i)))]) Tryd.func22 rfl rfl rfl rfl rfl (fun w0 U0 => ?_)
  refine a_rseq ?_
  refine rg_nam (d := 1) (v := .pt 101 0) (m := 101) (nw := [(101, .bx 28 (eIv i))]) rfl (og rfl (of_eff (op_box 101 rfl rfl rfl rfl) rfl)) rfl ?_
  refine rg_put (d := 2) (v := .d (.fl (.bool false))) rfl (og rfl (op_assign rfl rfl rfl)) ?_
  refine rg_done rfl ?_
  refine a_rseq ?_
  refine rg_put (d := 3) (v := .pt 101 0) rfl (og rfl (of_eff (s_field_pt rfl Tryd.underlying28 rfl ti3 rfl rfl rfl) rfl)) ?_
  refine rg_put (d := 4) (v := .d (.fl (.int .i64 i.fr))) rfl (og rfl (op_load_pt rfl Tryd.underlying3 rfl rfl rfl rfl rfl)) ?_
  refine rg_put (d := 5) (v := .d (.fl (.bool ((decide (0 ≤ i.fr)))))) rfl (og rfl (op_bin rfl rfl rfl (b_geq _ _ _ _) rfl)) ?_
  refine rg_put (d := 6) (v := .d (.fl (.bool ((decide (0 ≤ i.fr)))))) rfl (og rfl (op_move rfl rfl rfl)) ?_
  rcases fot ((decide (0 ≤ i.fr))) with h1 | h1
  · skip
    have h2 := f_dec h1
    refine rg_put (d := 7) (v := .d (.fl undef)) rfl (on rfl rfl rfl h1) ?_
    refine rg_put (d := 8) (v := .d (.fl undef)) rfl (on rfl rfl rfl h1) ?_
    refine rg_put (d := 9) (v := .d (.fl undef)) rfl (on rfl rfl rfl h1) ?_
    refine rg_put (d := 10) (v := .d (.fl undef)) rfl (on rfl rfl rfl h1) ?_
    refine rg_put (d := 11) (v := .d (.fl undef)) rfl (on rfl rfl rfl h1) ?_
    refine rg_put (d := 12) (v := .d (.fl (.bool false))) rfl (og rfl (op_pick rfl rfl (by rw [h1]; rfl) rfl)) ?_
    refine rg_put (d := 13) (v := .d (.fl (.bool false))) rfl (og rfl (op_move rfl rfl rfl)) ?_
    refine rg_put (d := 14) (v := .d (.fl undef)) rfl (on rfl rfl rfl rfl) ?_
    refine rg_put (d := 15) (v := .d (.fl undef)) rfl (on rfl rfl rfl rfl) ?_
    refine rg_put (d := 16) (v := .d (.fl undef)) rfl (on rfl rfl rfl rfl) ?_
    refine rg_put (d := 17) (v := .d (.fl (.bool false))) rfl (og rfl (op_pick rfl rfl rfl rfl)) ?_
    refine rg_put (d := 2) (v := .d (.fl (.bool false))) rfl (og rfl (op_assign rfl rfl rfl)) ?_
    refine rg_done rfl ?_
    refine a_ret ?_
    show ∃ ds, ResL _ _ _ ds ∧ RV.of ds = _
    refine ⟨[.fl (.bool false)], (.cons (.tmp rfl (.d _)) .nil), ?_⟩
    have hu : vI i = false := by unfold vI; simp only [h1, Bool.true_or, Bool.false_or, Bool.or_true, Bool.or_false, Bool.not_true, Bool.not_false, cond_true, cond_false, Bool.true_and, Bool.false_and, Bool.and_true, Bool.and_false] <;> rfl
    rw [hu]; rfl
  · skip
    have h3 := t_dec h1
    refine rg_put (d := 7) (v := .pt 101 0) rfl (oy rfl rfl rfl h1 (of_eff (s_field_pt rfl Tryd.underlying28 rfl ti3 rfl rfl rfl) rfl)) ?_
    refine rg_put (d := 8) (v := .d (.fl (.int .i64 i.fr))) rfl (oy rfl rfl rfl h1 (op_load_pt rfl Tryd.underlying3 rfl rfl rfl rfl rfl)) ?_
    refine rg_put (d := 9) (v := .pt 101 1) rfl (oy rfl rfl rfl h1 (of_eff (s_field_pt rfl Tryd.underlying28 rfl ti3 rfl rfl rfl) rfl)) ?_
    refine rg_put (d := 10) (v := .d (.fl (.int .i64 i.to))) rfl (oy rfl rfl rfl h1 (op_load_pt rfl Tryd.underlying3 rfl rfl rfl rfl rfl)) ?_
    refine rg_put (d := 11) (v := .d (.fl (.bool ((decide (i.fr < i.to)))))) rfl (oy rfl rfl rfl h1 (op_bin rfl rfl rfl (b_lss _ _ _ _) rfl)) ?_
    refine rg_put (d := 12) (v := .d (.fl (.bool ((decide (i.fr < i.to)))))) rfl (og rfl (op_pick rfl rfl (by rw [h1]; rfl) rfl)) ?_
    refine rg_put (d := 13) (v := .d (.fl (.bool ((decide (i.fr < i.to)))))) rfl (og rfl (op_move rfl rfl rfl)) ?_
    rcases fot ((decide (i.fr < i.to))) with h4 | h4
    · skip
      have h5 := f_dec h4
      refine rg_put (d := 14) (v := .d (.fl undef)) rfl (on rfl rfl rfl h4) ?_
      refine rg_put (d := 15) (v := .d (.fl undef)) rfl (on rfl rfl rfl h4) ?_
      refine rg_put (d := 16) (v := .d (.fl undef)) rfl (on rfl rfl rfl h4) ?_
      refine rg_put (d := 17) (v := .d (.fl (.bool false))) rfl (og rfl (op_pick rfl rfl (by rw [h4]; rfl) rfl)) ?_
      refine rg_put (d := 2) (v := .d (.fl (.bool false))) rfl (og rfl (op_assign rfl rfl rfl)) ?_
      refine rg_done rfl ?_
      refine a_ret ?_
      show ∃ ds, ResL _ _ _ ds ∧ RV.of ds = _
      refine ⟨[.fl (.bool false)], (.cons (.tmp rfl (.d _)) .nil), ?_⟩
      have hu : vI i = false := by unfold vI; simp only [h1, h4, Bool.true_or, Bool.false_or, Bool.or_true, Bool.or_false, Bool.not_true, Bool.not_false, cond_true, cond_false, Bool.true_and, Bool.false_and, Bool.and_true, Bool.and_false] <;> rfl
      rw [hu]; rfl
    · skip
      have h6 := t_dec h4
      refine rg_put (d := 14) (v := .pt 101 1) rfl (oy rfl rfl rfl h4 (of_eff (s_field_pt rfl Tryd.underlying28 rfl ti3 rfl rfl rfl) rfl)) ?_
      refine rg_put (d := 15) (v := .d (.fl (.int .i64 i.to))) rfl (oy rfl rfl rfl h4 (op_load_pt rfl Tryd.underlying3 rfl rfl rfl rfl rfl)) ?_
      refine rg_put (d := 16) (v := .d (.fl (.bool ((decide (i.to ≤ 68719476736)))))) rfl (oy rfl rfl rfl h4 (op_bin rfl rfl rfl (b_leq _ _ _ _) rfl)) ?_
      refine rg_put (d := 17) (v := .d (.fl (.bool ((decide (i.to ≤ 68719476736)))))) rfl (og rfl (op_pick rfl rfl (by rw [h4]; rfl) rfl)) ?_
      refine rg_put (d := 2) (v := .d (.fl (.bool ((decide (i.to ≤ 68719476736)))))) rfl (og rfl (op_assign rfl rfl rfl)) ?_
      refine rg_done rfl ?_
      refine a_ret ?_
      show ∃ ds, ResL _ _ _ ds ∧ RV.of ds = _
      refine ⟨[.fl (.bool ((decide (i.to ≤ 68719476736))))], (.cons (.tmp rfl (.d _)) .nil), ?_⟩
      have hu : vI i = (decide (i.to ≤ 68719476736)) := by unfold vI; simp only [h1, h4, Bool.true_or, Bool.false_or, Bool.or_true, Bool.or_false, Bool.not_true, Bool.not_false, cond_true, cond_false, Bool.true_and, Bool.false_and, Bool.and_true, Bool.and_false] <;> rfl
      rw [hu]; rfl
set_option maxHeartbeats 4000000 in
set_option maxRecDepth 100000 in
theorem own24 (l : List Ow) (v : ByteArray) (t : Int) (hl : l.length ≤ 9223372036854775807) : Ctr Tryd.prog 45 [.sl 4 (List.map eOw l), .fl (.string v), .fl (.int .i64 t)] (.d (.fl (.int .i64 (idx (fun o => hld o v t) l)))) := by
  refine ctr (n := 63) (rs := #[.tmp 6]) (L := [(0, .d (.sl 4 (List.map eOw l))), (1, .d (.fl (.string v))), (2, .d (.fl (.int .i64 t)))]) Tryd.func45 rfl rfl rfl rfl rfl (fun w0 U0 => ?_)
  refine a_rseq ?_
  refine rg_put (d := 6) (v := .d (.fl (.int .i64 0))) rfl (og rfl (op_assign rfl rfl rfl)) ?_
  refine rg_done rfl ?_
  refine a_seq ?_
  refine a_rseq ?_
  refine rg_put (d := 7) (v := .d (.fl (.int .i64 0))) rfl (og rfl (op_assign rfl rfl rfl)) ?_
  refine rg_done rfl ?_
  refine a_block ?_
  refine a_loop (ι := Nat) (fun k => SS [(0, .d (.sl 4 (List.map eOw l))), (1, .d (.fl (.string v))), (2, .d (.fl (.int .i64 t))), (7, .d (.fl (.int .i64 (k : Int))))] []) (fun k => k ≤ l.length ∧ ∀ q, q < k → hld (ix l q) v t = false) (fun k => l.length - k) 0 (⟨by omega, fun q h => by omega⟩) (imp_forget rfl ⟨rfl, rfl, rfl, (by first | rfl | exact ci (by omega) | exact ci (by simp) | exact cd (by simp) | simp), trivial⟩ trivial) (fun k hok => ?_)
  obtain ⟨hkk, hq⟩ := hok
  refine a_seq ?_
  refine a_rseq ?_
  refine rg_put (d := 8) (v := .d (.fl (.int .i64 (k : Int)))) rfl (og rfl (op_move rfl rfl rfl)) ?_
  refine rg_put (d := 9) (v := .d (.sl 4 (List.map eOw l))) rfl (og rfl (op_move rfl rfl rfl)) ?_
  refine rg_put (d := 10) (v := .d (.fl (.int .i64 (l.length : Int)))) rfl (og rfl (s_len rfl Tryd.underlying63 rfl rfl)) ?_
  refine rg_put (d := 11) (v := .d (.fl (.bool ((decide ((k : Int) < (l.length : Int))))))) rfl (og rfl (op_bin rfl rfl rfl (b_lss _ _ _ _) rfl)) ?_
  refine rg_done rfl ?_
  refine a_cond rfl (fun h1 => ?_) (fun h1 => ?_)
  · skip
    have h2 := t_dec h1
    refine a_skip ?_
    show A _ _ _ _ _ _ _
    refine a_seq ?_
    refine a_block ?_
    refine a_rseq ?_
    refine rg_put (d := 14) (v := .d (.fl (.string v))) rfl (og rfl (op_move rfl rfl rfl)) ?_
    refine rg_put (d := 15) (v := .d (.fl (.bool ((!(sEq v (⟨#[]⟩))))))) rfl (og rfl (op_bin rfl rfl rfl (b_sne _ _ _) rfl)) ?_
    refine rg_put (d := 16) (v := .d (.fl (.bool ((!(sEq v (⟨#[]⟩))))))) rfl (og rfl (op_move rfl rfl rfl)) ?_
    rcases fot ((!(sEq v (⟨#[]⟩)))) with h3 | h3
    · skip
      have h4 := f_not h3
      refine rg_put (d := 17) (v := .d (.fl undef)) rfl (on rfl rfl rfl h3) ?_
      refine rg_put (d := 18) (v := .d (.fl undef)) rfl (on rfl rfl rfl h3) ?_
      refine rg_put (d := 19) (v := .d (.fl undef)) rfl (on rfl rfl rfl h3) ?_
      refine rg_put (d := 20) (v := .d (.fl undef)) rfl (on rfl rfl rfl h3) ?_
      refine rg_put (d := 21) (v := .d (.fl undef)) rfl (on rfl rfl rfl h3) ?_
      refine rg_put (d := 22) (v := .d (.fl undef)) rfl (on rfl rfl rfl h3) ?_
      refine rg_put (d := 23) (v := .d (.fl undef)) rfl (on rfl rfl rfl h3) ?_
      refine rg_put (d := 24) (v := .d (.fl undef)) rfl (on rfl rfl rfl h3) ?_
      refine rg_put (d := 25) (v := .d (.fl undef)) rfl (ou rfl rfl rfl) ?_
      refine rg_put (d := 26) (v := .d (.fl undef)) rfl (ou rfl rfl rfl) ?_
      refine rg_put (d := 27) (v := .d (.fl undef)) rfl (ou rfl rfl rfl) ?_
      refine rg_put (d := 28) (v := .d (.fl undef)) rfl (ou rfl rfl rfl) ?_
      refine rg_put (d := 29) (v := .d (.fl undef)) rfl (ou rfl rfl rfl) ?_
      refine rg_put (d := 30) (v := .d (.fl undef)) rfl (ou rfl rfl rfl) ?_
      refine rg_put (d := 31) (v := .d (.fl undef)) rfl (ou rfl rfl rfl) ?_
      refine rg_put (d := 32) (v := .d (.fl undef)) rfl (on rfl rfl rfl h3) ?_
      refine rg_put (d := 33) (v := .d (.fl (.bool false))) rfl (og rfl (op_pick rfl rfl (by rw [h3]; rfl) rfl)) ?_
      refine rg_put (d := 34) (v := .d (.fl (.bool false))) rfl (og rfl (op_move rfl rfl rfl)) ?_
      refine rg_put (d := 35) (v := .d (.fl undef)) rfl (on rfl rfl rfl rfl) ?_
      refine rg_put (d := 36) (v := .d (.fl undef)) rfl (on rfl rfl rfl rfl) ?_
      refine rg_put (d := 37) (v := .d (.fl undef)) rfl (on rfl rfl rfl rfl) ?_
      refine rg_put (d := 38) (v := .d (.fl undef)) rfl (on rfl rfl rfl rfl) ?_
      refine rg_put (d := 39) (v := .d (.fl undef)) rfl (on rfl rfl rfl rfl) ?_
      refine rg_put (d := 40) (v := .d (.fl undef)) rfl (on rfl rfl rfl rfl) ?_
      refine rg_put (d := 41) (v := .d (.fl (.bool false))) rfl (og rfl (op_pick rfl rfl rfl rfl)) ?_
      refine rg_put (d := 42) (v := .d (.fl (.bool false))) rfl (og rfl (op_move rfl rfl rfl)) ?_
      refine rg_put (d := 43) (v := .d (.fl undef)) rfl (on rfl rfl rfl rfl) ?_
      refine rg_put (d := 44) (v := .d (.fl undef)) rfl (on rfl rfl rfl rfl) ?_
      refine rg_put (d := 45) (v := .d (.fl undef)) rfl (on rfl rfl rfl rfl) ?_
      refine rg_put (d := 46) (v := .d (.fl undef)) rfl (on rfl rfl rfl rfl) ?_
      refine rg_put (d := 47) (v := .d (.fl undef)) rfl (on rfl rfl rfl rfl) ?_
      refine rg_put (d := 48) (v := .d (.fl undef)) rfl (on rfl rfl rfl rfl) ?_
      refine rg_put (d := 49) (v := .d (.fl undef)) rfl (on rfl rfl rfl rfl) ?_
      refine rg_put (d := 50) (v := .d (.fl undef)) rfl (on rfl rfl rfl rfl) ?_
      refine rg_put (d := 51) (v := .d (.fl (.bool false))) rfl (og rfl (op_pick rfl rfl rfl rfl)) ?_
      refine rg_put (d := 52) (v := .d (.fl (.bool false))) rfl (og rfl (op_move rfl rfl rfl)) ?_
      refine rg_put (d := 53) (v := .d (.fl undef)) rfl (on rfl rfl rfl rfl) ?_
      refine rg_put (d := 54) (v := .d (.fl undef)) rfl (on rfl rfl rfl rfl) ?_
      refine rg_put (d := 55) (v := .d (.fl undef)) rfl (on rfl rfl rfl rfl) ?_
      refine rg_put (d := 56) (v := .d (.fl undef)) rfl (on rfl rfl rfl rfl) ?_
      refine rg_put (d := 57) (v := .d (.fl undef)) rfl (on rfl rfl rfl rfl) ?_
      refine rg_put (d := 58) (v := .d (.fl undef)) rfl (on rfl rfl rfl rfl) ?_
      refine rg_put (d := 59) (v := .d (.fl undef)) rfl (on rfl rfl rfl rfl) ?_
      refine rg_put (d := 60) (v := .d (.fl undef)) rfl (on rfl rfl rfl rfl) ?_
      refine rg_put (d := 61) (v := .d (.fl (.bool false))) rfl (og rfl (op_pick rfl rfl rfl rfl)) ?_
      refine rg_done rfl ?_
      refine a_condF rfl rfl ?_
      refine a_skip ?_
      show A _ _ _ _ _ _ _
      refine a_region ?_
      refine rg_put (d := 12) (v := .d (.fl (.int .i64 (k : Int)))) rfl (og rfl (op_move rfl rfl rfl)) ?_
      refine rg_put (d := 13) (v := .d (.fl (.int .i64 (((k : Int) + 1))))) rfl (og rfl (op_bin rfl rfl rfl (fun x y w => b_add64 _ _ _ x y w (by omega)) rfl)) ?_
      refine rg_put (d := 7) (v := .d (.fl (.int .i64 (((k : Int) + 1))))) rfl (og rfl (op_assign rfl rfl rfl)) ?_
      refine rg_done rfl ?_
      have hx : hld (ix l k) v t = false := by unfold hld hasI; simp only [h1, h3, h4, Bool.true_or, Bool.false_or, Bool.or_true, Bool.or_false, Bool.not_true, Bool.not_false, cond_true, cond_false, Bool.true_and, Bool.false_and, Bool.and_true, Bool.and_false] <;> rfl
      show ∃ i, _ ∧ _ ∧ Imp _ _ _ _ _
      refine ⟨k + 1, ⟨by omega, fun q h => (Nat.lt_succ_iff_lt_or_eq.1 h).elim (hq q) (fun e => by rw [e]; exact hx)⟩, by omega, imp_forget rfl ⟨rfl, rfl, rfl, (by first | rfl | exact ci (by omega) | exact ci (by simp) | exact cd (by simp) | simp), trivial⟩ trivial⟩
    · skip
      have h5 := t_not h3
      refine rg_put (d := 17) (v := .d (.sl 4 (List.map eOw l))) rfl (oy rfl rfl rfl h3 (op_move rfl rfl rfl)) ?_
      refine rg_put (d := 18) (v := .d (.fl (.int .i64 (k : Int)))) rfl (oy rfl rfl rfl h3 (op_move rfl rfl rfl)) ?_
      refine rg_put (d := 19) (v := .el ((eOw (ix l k)))) rfl (oy rfl rfl rfl h3 (s_index rfl Tryd.underlying63 ti69 rfl rfl (by omega) (row_at (by omega)) rfl)) ?_
      refine rg_put (d := 20) (v := .el ((List.drop 0 ((eOw (ix l k)))))) rfl (oy rfl rfl rfl h3 (of_eff (s_field_el rfl Tryd.underlying69 rfl ti9 rfl rfl rfl) rfl)) ?_
      refine rg_put (d := 21) (v := .d (.fl (.string ((ix l k).tag)))) rfl (oy rfl rfl rfl h3 (op_load_el rfl Tryd.underlying9 rfl rfl rfl rfl)) ?_
      refine rg_put (d := 22) (v := .d (.fl (.string v))) rfl (oy rfl rfl rfl h3 (op_move rfl rfl rfl)) ?_
      refine rg_put (d := 23) (v := .d (.fl (.bool ((sEq ((ix l k).tag) v))))) rfl (oy rfl rfl rfl h3 (op_bin rfl rfl rfl (b_seq _ _ _) rfl)) ?_
      refine rg_put (d := 24) (v := .d (.fl (.bool ((sEq ((ix l k).tag) v))))) rfl (oy rfl rfl rfl h3 (op_move rfl rfl rfl)) ?_
      rcases fot ((sEq ((ix l k).tag) v)) with h6 | h6
      · skip
        refine rg_put (d := 25) (v := .d (.sl 4 (List.map eOw l))) rfl (oy rfl rfl rfl h6 (op_move rfl rfl rfl)) ?_
        refine rg_put (d := 26) (v := .d (.fl (.int .i64 (k : Int)))) rfl (oy rfl rfl rfl h6 (op_move rfl rfl rfl)) ?_
        refine rg_put (d := 27) (v := .el ((eOw (ix l k)))) rfl (oy rfl rfl rfl h6 (s_index rfl Tryd.underlying63 ti69 rfl rfl (by omega) (row_at (by omega)) rfl)) ?_
        refine rg_put (d := 28) (v := .el ((List.drop 1 ((eOw (ix l k)))))) rfl (oy rfl rfl rfl h6 (of_eff (s_field_el rfl Tryd.underlying69 rfl ti9 rfl rfl rfl) rfl)) ?_
        refine rg_put (d := 29) (v := .d (.fl (.string ((ix l k).plate)))) rfl (oy rfl rfl rfl h6 (op_load_el rfl Tryd.underlying9 rfl rfl rfl rfl)) ?_
        refine rg_put (d := 30) (v := .d (.fl (.string v))) rfl (oy rfl rfl rfl h6 (op_move rfl rfl rfl)) ?_
        refine rg_put (d := 31) (v := .d (.fl (.bool ((sEq ((ix l k).plate) v))))) rfl (oy rfl rfl rfl h6 (op_bin rfl rfl rfl (b_seq _ _ _) rfl)) ?_
        refine rg_put (d := 32) (v := .d (.fl (.bool ((sEq ((ix l k).plate) v))))) rfl (oy rfl rfl rfl h3 (op_pick rfl rfl (by rw [h6]; rfl) rfl)) ?_
        refine rg_put (d := 33) (v := .d (.fl (.bool ((sEq ((ix l k).plate) v))))) rfl (og rfl (op_pick rfl rfl (by rw [h3]; rfl) rfl)) ?_
        refine rg_put (d := 34) (v := .d (.fl (.bool ((sEq ((ix l k).plate) v))))) rfl (og rfl (op_move rfl rfl rfl)) ?_
        rcases fot ((sEq ((ix l k).plate) v)) with h7 | h7
        · skip
          refine rg_put (d := 35) (v := .d (.fl undef)) rfl (on rfl rfl rfl h7) ?_
          refine rg_put (d := 36) (v := .d (.fl undef)) rfl (on rfl rfl rfl h7) ?_
          refine rg_put (d := 37) (v := .d (.fl undef)) rfl (on rfl rfl rfl h7) ?_
          refine rg_put (d := 38) (v := .d (.fl undef)) rfl (on rfl rfl rfl h7) ?_
          refine rg_put (d := 39) (v := .d (.fl undef)) rfl (on rfl rfl rfl h7) ?_
          refine rg_put (d := 40) (v := .d (.fl undef)) rfl (on rfl rfl rfl h7) ?_
          refine rg_put (d := 41) (v := .d (.fl (.bool false))) rfl (og rfl (op_pick rfl rfl (by rw [h7]; rfl) rfl)) ?_
          refine rg_put (d := 42) (v := .d (.fl (.bool false))) rfl (og rfl (op_move rfl rfl rfl)) ?_
          refine rg_put (d := 43) (v := .d (.fl undef)) rfl (on rfl rfl rfl rfl) ?_
          refine rg_put (d := 44) (v := .d (.fl undef)) rfl (on rfl rfl rfl rfl) ?_
          refine rg_put (d := 45) (v := .d (.fl undef)) rfl (on rfl rfl rfl rfl) ?_
          refine rg_put (d := 46) (v := .d (.fl undef)) rfl (on rfl rfl rfl rfl) ?_
          refine rg_put (d := 47) (v := .d (.fl undef)) rfl (on rfl rfl rfl rfl) ?_
          refine rg_put (d := 48) (v := .d (.fl undef)) rfl (on rfl rfl rfl rfl) ?_
          refine rg_put (d := 49) (v := .d (.fl undef)) rfl (on rfl rfl rfl rfl) ?_
          refine rg_put (d := 50) (v := .d (.fl undef)) rfl (on rfl rfl rfl rfl) ?_
          refine rg_put (d := 51) (v := .d (.fl (.bool false))) rfl (og rfl (op_pick rfl rfl rfl rfl)) ?_
          refine rg_put (d := 52) (v := .d (.fl (.bool false))) rfl (og rfl (op_move rfl rfl rfl)) ?_
          refine rg_put (d := 53) (v := .d (.fl undef)) rfl (on rfl rfl rfl rfl) ?_
          refine rg_put (d := 54) (v := .d (.fl undef)) rfl (on rfl rfl rfl rfl) ?_
          refine rg_put (d := 55) (v := .d (.fl undef)) rfl (on rfl rfl rfl rfl) ?_
          refine rg_put (d := 56) (v := .d (.fl undef)) rfl (on rfl rfl rfl rfl) ?_
          refine rg_put (d := 57) (v := .d (.fl undef)) rfl (on rfl rfl rfl rfl) ?_
          refine rg_put (d := 58) (v := .d (.fl undef)) rfl (on rfl rfl rfl rfl) ?_
          refine rg_put (d := 59) (v := .d (.fl undef)) rfl (on rfl rfl rfl rfl) ?_
          refine rg_put (d := 60) (v := .d (.fl undef)) rfl (on rfl rfl rfl rfl) ?_
          refine rg_put (d := 61) (v := .d (.fl (.bool false))) rfl (og rfl (op_pick rfl rfl rfl rfl)) ?_
          refine rg_done rfl ?_
          refine a_condF rfl rfl ?_
          refine a_skip ?_
          show A _ _ _ _ _ _ _
          refine a_region ?_
          refine rg_put (d := 12) (v := .d (.fl (.int .i64 (k : Int)))) rfl (og rfl (op_move rfl rfl rfl)) ?_
          refine rg_put (d := 13) (v := .d (.fl (.int .i64 (((k : Int) + 1))))) rfl (og rfl (op_bin rfl rfl rfl (fun x y w => b_add64 _ _ _ x y w (by omega)) rfl)) ?_
          refine rg_put (d := 7) (v := .d (.fl (.int .i64 (((k : Int) + 1))))) rfl (og rfl (op_assign rfl rfl rfl)) ?_
          refine rg_done rfl ?_
          have hx : hld (ix l k) v t = false := by unfold hld hasI; simp only [h1, h3, h5, h6, h7, Bool.true_or, Bool.false_or, Bool.or_true, Bool.or_false, Bool.not_true, Bool.not_false, cond_true, cond_false, Bool.true_and, Bool.false_and, Bool.and_true, Bool.and_false] <;> rfl
          show ∃ i, _ ∧ _ ∧ Imp _ _ _ _ _
          refine ⟨k + 1, ⟨by omega, fun q h => (Nat.lt_succ_iff_lt_or_eq.1 h).elim (hq q) (fun e => by rw [e]; exact hx)⟩, by omega, imp_forget rfl ⟨rfl, rfl, rfl, (by first | rfl | exact ci (by omega) | exact ci (by simp) | exact cd (by simp) | simp), trivial⟩ trivial⟩
        · skip
          refine rg_put (d := 35) (v := .d (.sl 4 (List.map eOw l))) rfl (oy rfl rfl rfl h7 (op_move rfl rfl rfl)) ?_
          refine rg_put (d := 36) (v := .d (.fl (.int .i64 (k : Int)))) rfl (oy rfl rfl rfl h7 (op_move rfl rfl rfl)) ?_
          refine rg_put (d := 37) (v := .el ((eOw (ix l k)))) rfl (oy rfl rfl rfl h7 (s_index rfl Tryd.underlying63 ti69 rfl rfl (by omega) (row_at (by omega)) rfl)) ?_
          refine rg_put (d := 38) (v := .el ((List.drop 2 ((eOw (ix l k)))))) rfl (oy rfl rfl rfl h7 (of_eff (s_field_el rfl Tryd.underlying69 rfl ti28 rfl rfl rfl) rfl)) ?_
          refine rg_put (d := 39) (v := .d (.ag (eIv ((ix l k).time)))) rfl (oy rfl rfl rfl h7 (of_eff (s_load_els rfl Tryd.underlying28 rfl ti28 rfl rfl rfl) rfl)) ?_
          refine rg_put (d := 40) (v := .d (.fl (.bool ((vI ((ix l k).time)))))) rfl (oy rfl rfl rfl h7 (op_call rfl Tryd.func62 nm62 rfl (.cons rfl (.d _) .nil) (vIR ((ix l k).time)) rfl)) ?_
          refine rg_put (d := 41) (v := .d (.fl (.bool ((vI ((ix l k).time)))))) rfl (og rfl (op_pick rfl rfl (by rw [h7]; rfl) rfl)) ?_
          refine rg_put (d := 42) (v := .d (.fl (.bool ((vI ((ix l k).time)))))) rfl (og rfl (op_move rfl rfl rfl)) ?_
          rcases fot ((vI ((ix l k).time))) with h8 | h8
          · skip
            refine rg_put (d := 43) (v := .d (.fl undef)) rfl (on rfl rfl rfl h8) ?_
            refine rg_put (d := 44) (v := .d (.fl undef)) rfl (on rfl rfl rfl h8) ?_
            refine rg_put (d := 45) (v := .d (.fl undef)) rfl (on rfl rfl rfl h8) ?_
            refine rg_put (d := 46) (v := .d (.fl undef)) rfl (on rfl rfl rfl h8) ?_
            refine rg_put (d := 47) (v := .d (.fl undef)) rfl (on rfl rfl rfl h8) ?_
            refine rg_put (d := 48) (v := .d (.fl undef)) rfl (on rfl rfl rfl h8) ?_
            refine rg_put (d := 49) (v := .d (.fl undef)) rfl (on rfl rfl rfl h8) ?_
            refine rg_put (d := 50) (v := .d (.fl undef)) rfl (on rfl rfl rfl h8) ?_
            refine rg_put (d := 51) (v := .d (.fl (.bool false))) rfl (og rfl (op_pick rfl rfl (by rw [h8]; rfl) rfl)) ?_
            refine rg_put (d := 52) (v := .d (.fl (.bool false))) rfl (og rfl (op_move rfl rfl rfl)) ?_
            refine rg_put (d := 53) (v := .d (.fl undef)) rfl (on rfl rfl rfl rfl) ?_
            refine rg_put (d := 54) (v := .d (.fl undef)) rfl (on rfl rfl rfl rfl) ?_
            refine rg_put (d := 55) (v := .d (.fl undef)) rfl (on rfl rfl rfl rfl) ?_
            refine rg_put (d := 56) (v := .d (.fl undef)) rfl (on rfl rfl rfl rfl) ?_
            refine rg_put (d := 57) (v := .d (.fl undef)) rfl (on rfl rfl rfl rfl) ?_
            refine rg_put (d := 58) (v := .d (.fl undef)) rfl (on rfl rfl rfl rfl) ?_
            refine rg_put (d := 59) (v := .d (.fl undef)) rfl (on rfl rfl rfl rfl) ?_
            refine rg_put (d := 60) (v := .d (.fl undef)) rfl (on rfl rfl rfl rfl) ?_
            refine rg_put (d := 61) (v := .d (.fl (.bool false))) rfl (og rfl (op_pick rfl rfl rfl rfl)) ?_
            refine rg_done rfl ?_
            refine a_condF rfl rfl ?_
            refine a_skip ?_
            show A _ _ _ _ _ _ _
            refine a_region ?_
            refine rg_put (d := 12) (v := .d (.fl (.int .i64 (k : Int)))) rfl (og rfl (op_move rfl rfl rfl)) ?_
            refine rg_put (d := 13) (v := .d (.fl (.int .i64 (((k : Int) + 1))))) rfl (og rfl (op_bin rfl rfl rfl (fun x y w => b_add64 _ _ _ x y w (by omega)) rfl)) ?_
            refine rg_put (d := 7) (v := .d (.fl (.int .i64 (((k : Int) + 1))))) rfl (og rfl (op_assign rfl rfl rfl)) ?_
            refine rg_done rfl ?_
            have hx : hld (ix l k) v t = false := by unfold hld hasI; simp only [h1, h3, h5, h6, h7, h8, Bool.true_or, Bool.false_or, Bool.or_true, Bool.or_false, Bool.not_true, Bool.not_false, cond_true, cond_false, Bool.true_and, Bool.false_and, Bool.and_true, Bool.and_false] <;> rfl
            show ∃ i, _ ∧ _ ∧ Imp _ _ _ _ _
            refine ⟨k + 1, ⟨by omega, fun q h => (Nat.lt_succ_iff_lt_or_eq.1 h).elim (hq q) (fun e => by rw [e]; exact hx)⟩, by omega, imp_forget rfl ⟨rfl, rfl, rfl, (by first | rfl | exact ci (by omega) | exact ci (by simp) | exact cd (by simp) | simp), trivial⟩ trivial⟩
          · skip
            refine rg_put (d := 43) (v := .d (.sl 4 (List.map eOw l))) rfl (oy rfl rfl rfl h8 (op_move rfl rfl rfl)) ?_
            refine rg_put (d := 44) (v := .d (.fl (.int .i64 (k : Int)))) rfl (oy rfl rfl rfl h8 (op_move rfl rfl rfl)) ?_
            refine rg_put (d := 45) (v := .el ((eOw (ix l k)))) rfl (oy rfl rfl rfl h8 (s_index rfl Tryd.underlying63 ti69 rfl rfl (by omega) (row_at (by omega)) rfl)) ?_
            refine rg_put (d := 46) (v := .el ((List.drop 2 ((eOw (ix l k)))))) rfl (oy rfl rfl rfl h8 (of_eff (s_field_el rfl Tryd.underlying69 rfl ti28 rfl rfl rfl) rfl)) ?_
            refine rg_put (d := 47) (v := .el ((List.drop 0 ((List.drop 2 ((eOw (ix l k)))))))) rfl (oy rfl rfl rfl h8 (of_eff (s_field_el rfl Tryd.underlying28 rfl ti3 rfl rfl rfl) rfl)) ?_
            refine rg_put (d := 48) (v := .d (.fl (.int .i64 (((ix l k).time).fr)))) rfl (oy rfl rfl rfl h8 (op_load_el rfl Tryd.underlying3 rfl rfl rfl rfl)) ?_
            refine rg_put (d := 49) (v := .d (.fl (.int .i64 t))) rfl (oy rfl rfl rfl h8 (op_move rfl rfl rfl)) ?_
            refine rg_put (d := 50) (v := .d (.fl (.bool ((decide (((ix l k).time).fr ≤ t)))))) rfl (oy rfl rfl rfl h8 (op_bin rfl rfl rfl (b_leq _ _ _ _) rfl)) ?_
            refine rg_put (d := 51) (v := .d (.fl (.bool ((decide (((ix l k).time).fr ≤ t)))))) rfl (og rfl (op_pick rfl rfl (by rw [h8]; rfl) rfl)) ?_
            refine rg_put (d := 52) (v := .d (.fl (.bool ((decide (((ix l k).time).fr ≤ t)))))) rfl (og rfl (op_move rfl rfl rfl)) ?_
            rcases fot ((decide (((ix l k).time).fr ≤ t))) with h9 | h9
            · skip
              have h10 := f_dec h9
              refine rg_put (d := 53) (v := .d (.fl undef)) rfl (on rfl rfl rfl h9) ?_
              refine rg_put (d := 54) (v := .d (.fl undef)) rfl (on rfl rfl rfl h9) ?_
              refine rg_put (d := 55) (v := .d (.fl undef)) rfl (on rfl rfl rfl h9) ?_
              refine rg_put (d := 56) (v := .d (.fl undef)) rfl (on rfl rfl rfl h9) ?_
              refine rg_put (d := 57) (v := .d (.fl undef)) rfl (on rfl rfl rfl h9) ?_
              refine rg_put (d := 58) (v := .d (.fl undef)) rfl (on rfl rfl rfl h9) ?_
              refine rg_put (d := 59) (v := .d (.fl undef)) rfl (on rfl rfl rfl h9) ?_
              refine rg_put (d := 60) (v := .d (.fl undef)) rfl (on rfl rfl rfl h9) ?_
              refine rg_put (d := 61) (v := .d (.fl (.bool false))) rfl (og rfl (op_pick rfl rfl (by rw [h9]; rfl) rfl)) ?_
              refine rg_done rfl ?_
              refine a_condF rfl rfl ?_
              refine a_skip ?_
              show A _ _ _ _ _ _ _
              refine a_region ?_
              refine rg_put (d := 12) (v := .d (.fl (.int .i64 (k : Int)))) rfl (og rfl (op_move rfl rfl rfl)) ?_
              refine rg_put (d := 13) (v := .d (.fl (.int .i64 (((k : Int) + 1))))) rfl (og rfl (op_bin rfl rfl rfl (fun x y w => b_add64 _ _ _ x y w (by omega)) rfl)) ?_
              refine rg_put (d := 7) (v := .d (.fl (.int .i64 (((k : Int) + 1))))) rfl (og rfl (op_assign rfl rfl rfl)) ?_
              refine rg_done rfl ?_
              have hx : hld (ix l k) v t = false := by unfold hld hasI; simp only [h1, h3, h5, h6, h7, h8, h9, Bool.true_or, Bool.false_or, Bool.or_true, Bool.or_false, Bool.not_true, Bool.not_false, cond_true, cond_false, Bool.true_and, Bool.false_and, Bool.and_true, Bool.and_false] <;> rfl
              show ∃ i, _ ∧ _ ∧ Imp _ _ _ _ _
              refine ⟨k + 1, ⟨by omega, fun q h => (Nat.lt_succ_iff_lt_or_eq.1 h).elim (hq q) (fun e => by rw [e]; exact hx)⟩, by omega, imp_forget rfl ⟨rfl, rfl, rfl, (by first | rfl | exact ci (by omega) | exact ci (by simp) | exact cd (by simp) | simp), trivial⟩ trivial⟩
            · skip
              have h11 := t_dec h9
              refine rg_put (d := 53) (v := .d (.fl (.int .i64 t))) rfl (oy rfl rfl rfl h9 (op_move rfl rfl rfl)) ?_
              refine rg_put (d := 54) (v := .d (.sl 4 (List.map eOw l))) rfl (oy rfl rfl rfl h9 (op_move rfl rfl rfl)) ?_
              refine rg_put (d := 55) (v := .d (.fl (.int .i64 (k : Int)))) rfl (oy rfl rfl rfl h9 (op_move rfl rfl rfl)) ?_
              refine rg_put (d := 56) (v := .el ((eOw (ix l k)))) rfl (oy rfl rfl rfl h9 (s_index rfl Tryd.underlying63 ti69 rfl rfl (by omega) (row_at (by omega)) rfl)) ?_
              refine rg_put (d := 57) (v := .el ((List.drop 2 ((eOw (ix l k)))))) rfl (oy rfl rfl rfl h9 (of_eff (s_field_el rfl Tryd.underlying69 rfl ti28 rfl rfl rfl) rfl)) ?_
              refine rg_put (d := 58) (v := .el ((List.drop 1 ((List.drop 2 ((eOw (ix l k)))))))) rfl (oy rfl rfl rfl h9 (of_eff (s_field_el rfl Tryd.underlying28 rfl ti3 rfl rfl rfl) rfl)) ?_
              refine rg_put (d := 59) (v := .d (.fl (.int .i64 (((ix l k).time).to)))) rfl (oy rfl rfl rfl h9 (op_load_el rfl Tryd.underlying3 rfl rfl rfl rfl)) ?_
              refine rg_put (d := 60) (v := .d (.fl (.bool ((decide (t < ((ix l k).time).to)))))) rfl (oy rfl rfl rfl h9 (op_bin rfl rfl rfl (b_lss _ _ _ _) rfl)) ?_
              refine rg_put (d := 61) (v := .d (.fl (.bool ((decide (t < ((ix l k).time).to)))))) rfl (og rfl (op_pick rfl rfl (by rw [h9]; rfl) rfl)) ?_
              refine rg_done rfl ?_
              refine a_cond rfl (fun h12 => ?_) (fun h12 => ?_)
              · skip
                have h13 := t_dec h12
                refine a_rseq ?_
                refine rg_put (d := 62) (v := .d (.fl (.int .i64 (k : Int)))) rfl (og rfl (op_move rfl rfl rfl)) ?_
                refine rg_put (d := 6) (v := .d (.fl (.int .i64 (k : Int)))) rfl (og rfl (op_assign rfl rfl rfl)) ?_
                refine rg_done rfl ?_
                refine a_ret ?_
                show ∃ ds, ResL _ _ _ ds ∧ RV.of ds = _
                refine ⟨[.fl (.int .i64 (k : Int))], (.cons (.tmp rfl (.d _)) .nil), ?_⟩
                have hx : hld (ix l k) v t = true := by unfold hld hasI; simp only [h1, h3, h5, h6, h7, h8, h9, h12, Bool.true_or, Bool.false_or, Bool.or_true, Bool.or_false, Bool.not_true, Bool.not_false, cond_true, cond_false, Bool.true_and, Bool.false_and, Bool.and_true, Bool.and_false] <;> rfl
                have hu : idx (fun o => hld o v t) l = (k : Int) := idx_at (by omega) hq hx
                rw [hu]; rfl
              · skip
                have h14 := f_dec h12
                refine a_skip ?_
                show A _ _ _ _ _ _ _
                refine a_region ?_
                refine rg_put (d := 12) (v := .d (.fl (.int .i64 (k : Int)))) rfl (og rfl (op_move rfl rfl rfl)) ?_
                refine rg_put (d := 13) (v := .d (.fl (.int .i64 (((k : Int) + 1))))) rfl (og rfl (op_bin rfl rfl rfl (fun x y w => b_add64 _ _ _ x y w (by omega)) rfl)) ?_
                refine rg_put (d := 7) (v := .d (.fl (.int .i64 (((k : Int) + 1))))) rfl (og rfl (op_assign rfl rfl rfl)) ?_
                refine rg_done rfl ?_
                have hx : hld (ix l k) v t = false := by unfold hld hasI; simp only [h1, h3, h5, h6, h7, h8, h9, h12, Bool.true_or, Bool.false_or, Bool.or_true, Bool.or_false, Bool.not_true, Bool.not_false, cond_true, cond_false, Bool.true_and, Bool.false_and, Bool.and_true, Bool.and_false] <;> rfl
                show ∃ i, _ ∧ _ ∧ Imp _ _ _ _ _
                refine ⟨k + 1, ⟨by omega, fun q h => (Nat.lt_succ_iff_lt_or_eq.1 h).elim (hq q) (fun e => by rw [e]; exact hx)⟩, by omega, imp_forget rfl ⟨rfl, rfl, rfl, (by first | rfl | exact ci (by omega) | exact ci (by simp) | exact cd (by simp) | simp), trivial⟩ trivial⟩
      · skip
        refine rg_put (d := 25) (v := .d (.fl undef)) rfl (on rfl rfl rfl h6) ?_
        refine rg_put (d := 26) (v := .d (.fl undef)) rfl (on rfl rfl rfl h6) ?_
        refine rg_put (d := 27) (v := .d (.fl undef)) rfl (on rfl rfl rfl h6) ?_
        refine rg_put (d := 28) (v := .d (.fl undef)) rfl (on rfl rfl rfl h6) ?_
        refine rg_put (d := 29) (v := .d (.fl undef)) rfl (on rfl rfl rfl h6) ?_
        refine rg_put (d := 30) (v := .d (.fl undef)) rfl (on rfl rfl rfl h6) ?_
        refine rg_put (d := 31) (v := .d (.fl undef)) rfl (on rfl rfl rfl h6) ?_
        refine rg_put (d := 32) (v := .d (.fl (.bool true))) rfl (oy rfl rfl rfl h3 (op_pick rfl rfl (by rw [h6]; rfl) rfl)) ?_
        refine rg_put (d := 33) (v := .d (.fl (.bool true))) rfl (og rfl (op_pick rfl rfl (by rw [h3]; rfl) rfl)) ?_
        refine rg_put (d := 34) (v := .d (.fl (.bool true))) rfl (og rfl (op_move rfl rfl rfl)) ?_
        refine rg_put (d := 35) (v := .d (.sl 4 (List.map eOw l))) rfl (oy rfl rfl rfl rfl (op_move rfl rfl rfl)) ?_
        refine rg_put (d := 36) (v := .d (.fl (.int .i64 (k : Int)))) rfl (oy rfl rfl rfl rfl (op_move rfl rfl rfl)) ?_
        refine rg_put (d := 37) (v := .el ((eOw (ix l k)))) rfl (oy rfl rfl rfl rfl (s_index rfl Tryd.underlying63 ti69 rfl rfl (by omega) (row_at (by omega)) rfl)) ?_
        refine rg_put (d := 38) (v := .el ((List.drop 2 ((eOw (ix l k)))))) rfl (oy rfl rfl rfl rfl (of_eff (s_field_el rfl Tryd.underlying69 rfl ti28 rfl rfl rfl) rfl)) ?_
        refine rg_put (d := 39) (v := .d (.ag (eIv ((ix l k).time)))) rfl (oy rfl rfl rfl rfl (of_eff (s_load_els rfl Tryd.underlying28 rfl ti28 rfl rfl rfl) rfl)) ?_
        refine rg_put (d := 40) (v := .d (.fl (.bool ((vI ((ix l k).time)))))) rfl (oy rfl rfl rfl rfl (op_call rfl Tryd.func62 nm62 rfl (.cons rfl (.d _) .nil) (vIR ((ix l k).time)) rfl)) ?_
        refine rg_put (d := 41) (v := .d (.fl (.bool ((vI ((ix l k).time)))))) rfl (og rfl (op_pick rfl rfl rfl rfl)) ?_
        refine rg_put (d := 42) (v := .d (.fl (.bool ((vI ((ix l k).time)))))) rfl (og rfl (op_move rfl rfl rfl)) ?_
        rcases fot ((vI ((ix l k).time))) with h15 | h15
        · skip
          refine rg_put (d := 43) (v := .d (.fl undef)) rfl (on rfl rfl rfl h15) ?_
          refine rg_put (d := 44) (v := .d (.fl undef)) rfl (on rfl rfl rfl h15) ?_
          refine rg_put (d := 45) (v := .d (.fl undef)) rfl (on rfl rfl rfl h15) ?_
          refine rg_put (d := 46) (v := .d (.fl undef)) rfl (on rfl rfl rfl h15) ?_
          refine rg_put (d := 47) (v := .d (.fl undef)) rfl (on rfl rfl rfl h15) ?_
          refine rg_put (d := 48) (v := .d (.fl undef)) rfl (on rfl rfl rfl h15) ?_
          refine rg_put (d := 49) (v := .d (.fl undef)) rfl (on rfl rfl rfl h15) ?_
          refine rg_put (d := 50) (v := .d (.fl undef)) rfl (on rfl rfl rfl h15) ?_
          refine rg_put (d := 51) (v := .d (.fl (.bool false))) rfl (og rfl (op_pick rfl rfl (by rw [h15]; rfl) rfl)) ?_
          refine rg_put (d := 52) (v := .d (.fl (.bool false))) rfl (og rfl (op_move rfl rfl rfl)) ?_
          refine rg_put (d := 53) (v := .d (.fl undef)) rfl (on rfl rfl rfl rfl) ?_
          refine rg_put (d := 54) (v := .d (.fl undef)) rfl (on rfl rfl rfl rfl) ?_
          refine rg_put (d := 55) (v := .d (.fl undef)) rfl (on rfl rfl rfl rfl) ?_
          refine rg_put (d := 56) (v := .d (.fl undef)) rfl (on rfl rfl rfl rfl) ?_
          refine rg_put (d := 57) (v := .d (.fl undef)) rfl (on rfl rfl rfl rfl) ?_
          refine rg_put (d := 58) (v := .d (.fl undef)) rfl (on rfl rfl rfl rfl) ?_
          refine rg_put (d := 59) (v := .d (.fl undef)) rfl (on rfl rfl rfl rfl) ?_
          refine rg_put (d := 60) (v := .d (.fl undef)) rfl (on rfl rfl rfl rfl) ?_
          refine rg_put (d := 61) (v := .d (.fl (.bool false))) rfl (og rfl (op_pick rfl rfl rfl rfl)) ?_
          refine rg_done rfl ?_
          refine a_condF rfl rfl ?_
          refine a_skip ?_
          show A _ _ _ _ _ _ _
          refine a_region ?_
          refine rg_put (d := 12) (v := .d (.fl (.int .i64 (k : Int)))) rfl (og rfl (op_move rfl rfl rfl)) ?_
          refine rg_put (d := 13) (v := .d (.fl (.int .i64 (((k : Int) + 1))))) rfl (og rfl (op_bin rfl rfl rfl (fun x y w => b_add64 _ _ _ x y w (by omega)) rfl)) ?_
          refine rg_put (d := 7) (v := .d (.fl (.int .i64 (((k : Int) + 1))))) rfl (og rfl (op_assign rfl rfl rfl)) ?_
          refine rg_done rfl ?_
          have hx : hld (ix l k) v t = false := by unfold hld hasI; simp only [h1, h3, h5, h6, h15, Bool.true_or, Bool.false_or, Bool.or_true, Bool.or_false, Bool.not_true, Bool.not_false, cond_true, cond_false, Bool.true_and, Bool.false_and, Bool.and_true, Bool.and_false] <;> rfl
          show ∃ i, _ ∧ _ ∧ Imp _ _ _ _ _
          refine ⟨k + 1, ⟨by omega, fun q h => (Nat.lt_succ_iff_lt_or_eq.1 h).elim (hq q) (fun e => by rw [e]; exact hx)⟩, by omega, imp_forget rfl ⟨rfl, rfl, rfl, (by first | rfl | exact ci (by omega) | exact ci (by simp) | exact cd (by simp) | simp), trivial⟩ trivial⟩
        · skip
          refine rg_put (d := 43) (v := .d (.sl 4 (List.map eOw l))) rfl (oy rfl rfl rfl h15 (op_move rfl rfl rfl)) ?_
          refine rg_put (d := 44) (v := .d (.fl (.int .i64 (k : Int)))) rfl (oy rfl rfl rfl h15 (op_move rfl rfl rfl)) ?_
          refine rg_put (d := 45) (v := .el ((eOw (ix l k)))) rfl (oy rfl rfl rfl h15 (s_index rfl Tryd.underlying63 ti69 rfl rfl (by omega) (row_at (by omega)) rfl)) ?_
          refine rg_put (d := 46) (v := .el ((List.drop 2 ((eOw (ix l k)))))) rfl (oy rfl rfl rfl h15 (of_eff (s_field_el rfl Tryd.underlying69 rfl ti28 rfl rfl rfl) rfl)) ?_
          refine rg_put (d := 47) (v := .el ((List.drop 0 ((List.drop 2 ((eOw (ix l k)))))))) rfl (oy rfl rfl rfl h15 (of_eff (s_field_el rfl Tryd.underlying28 rfl ti3 rfl rfl rfl) rfl)) ?_
          refine rg_put (d := 48) (v := .d (.fl (.int .i64 (((ix l k).time).fr)))) rfl (oy rfl rfl rfl h15 (op_load_el rfl Tryd.underlying3 rfl rfl rfl rfl)) ?_
          refine rg_put (d := 49) (v := .d (.fl (.int .i64 t))) rfl (oy rfl rfl rfl h15 (op_move rfl rfl rfl)) ?_
          refine rg_put (d := 50) (v := .d (.fl (.bool ((decide (((ix l k).time).fr ≤ t)))))) rfl (oy rfl rfl rfl h15 (op_bin rfl rfl rfl (b_leq _ _ _ _) rfl)) ?_
          refine rg_put (d := 51) (v := .d (.fl (.bool ((decide (((ix l k).time).fr ≤ t)))))) rfl (og rfl (op_pick rfl rfl (by rw [h15]; rfl) rfl)) ?_
          refine rg_put (d := 52) (v := .d (.fl (.bool ((decide (((ix l k).time).fr ≤ t)))))) rfl (og rfl (op_move rfl rfl rfl)) ?_
          rcases fot ((decide (((ix l k).time).fr ≤ t))) with h16 | h16
          · skip
            have h17 := f_dec h16
            refine rg_put (d := 53) (v := .d (.fl undef)) rfl (on rfl rfl rfl h16) ?_
            refine rg_put (d := 54) (v := .d (.fl undef)) rfl (on rfl rfl rfl h16) ?_
            refine rg_put (d := 55) (v := .d (.fl undef)) rfl (on rfl rfl rfl h16) ?_
            refine rg_put (d := 56) (v := .d (.fl undef)) rfl (on rfl rfl rfl h16) ?_
            refine rg_put (d := 57) (v := .d (.fl undef)) rfl (on rfl rfl rfl h16) ?_
            refine rg_put (d := 58) (v := .d (.fl undef)) rfl (on rfl rfl rfl h16) ?_
            refine rg_put (d := 59) (v := .d (.fl undef)) rfl (on rfl rfl rfl h16) ?_
            refine rg_put (d := 60) (v := .d (.fl undef)) rfl (on rfl rfl rfl h16) ?_
            refine rg_put (d := 61) (v := .d (.fl (.bool false))) rfl (og rfl (op_pick rfl rfl (by rw [h16]; rfl) rfl)) ?_
            refine rg_done rfl ?_
            refine a_condF rfl rfl ?_
            refine a_skip ?_
            show A _ _ _ _ _ _ _
            refine a_region ?_
            refine rg_put (d := 12) (v := .d (.fl (.int .i64 (k : Int)))) rfl (og rfl (op_move rfl rfl rfl)) ?_
            refine rg_put (d := 13) (v := .d (.fl (.int .i64 (((k : Int) + 1))))) rfl (og rfl (op_bin rfl rfl rfl (fun x y w => b_add64 _ _ _ x y w (by omega)) rfl)) ?_
            refine rg_put (d := 7) (v := .d (.fl (.int .i64 (((k : Int) + 1))))) rfl (og rfl (op_assign rfl rfl rfl)) ?_
            refine rg_done rfl ?_
            have hx : hld (ix l k) v t = false := by unfold hld hasI; simp only [h1, h3, h5, h6, h15, h16, Bool.true_or, Bool.false_or, Bool.or_true, Bool.or_false, Bool.not_true, Bool.not_false, cond_true, cond_false, Bool.true_and, Bool.false_and, Bool.and_true, Bool.and_false] <;> rfl
            show ∃ i, _ ∧ _ ∧ Imp _ _ _ _ _
            refine ⟨k + 1, ⟨by omega, fun q h => (Nat.lt_succ_iff_lt_or_eq.1 h).elim (hq q) (fun e => by rw [e]; exact hx)⟩, by omega, imp_forget rfl ⟨rfl, rfl, rfl, (by first | rfl | exact ci (by omega) | exact ci (by simp) | exact cd (by simp) | simp), trivial⟩ trivial⟩
          · skip
            have h18 := t_dec h16
            refine rg_put (d := 53) (v := .d (.fl (.int .i64 t))) rfl (oy rfl rfl rfl h16 (op_move rfl rfl rfl)) ?_
            refine rg_put (d := 54) (v := .d (.sl 4 (List.map eOw l))) rfl (oy rfl rfl rfl h16 (op_move rfl rfl rfl)) ?_
            refine rg_put (d := 55) (v := .d (.fl (.int .i64 (k : Int)))) rfl (oy rfl rfl rfl h16 (op_move rfl rfl rfl)) ?_
            refine rg_put (d := 56) (v := .el ((eOw (ix l k)))) rfl (oy rfl rfl rfl h16 (s_index rfl Tryd.underlying63 ti69 rfl rfl (by omega) (row_at (by omega)) rfl)) ?_
            refine rg_put (d := 57) (v := .el ((List.drop 2 ((eOw (ix l k)))))) rfl (oy rfl rfl rfl h16 (of_eff (s_field_el rfl Tryd.underlying69 rfl ti28 rfl rfl rfl) rfl)) ?_
            refine rg_put (d := 58) (v := .el ((List.drop 1 ((List.drop 2 ((eOw (ix l k)))))))) rfl (oy rfl rfl rfl h16 (of_eff (s_field_el rfl Tryd.underlying28 rfl ti3 rfl rfl rfl) rfl)) ?_
            refine rg_put (d := 59) (v := .d (.fl (.int .i64 (((ix l k).time).to)))) rfl (oy rfl rfl rfl h16 (op_load_el rfl Tryd.underlying3 rfl rfl rfl rfl)) ?_
            refine rg_put (d := 60) (v := .d (.fl (.bool ((decide (t < ((ix l k).time).to)))))) rfl (oy rfl rfl rfl h16 (op_bin rfl rfl rfl (b_lss _ _ _ _) rfl)) ?_
            refine rg_put (d := 61) (v := .d (.fl (.bool ((decide (t < ((ix l k).time).to)))))) rfl (og rfl (op_pick rfl rfl (by rw [h16]; rfl) rfl)) ?_
            refine rg_done rfl ?_
            refine a_cond rfl (fun h19 => ?_) (fun h19 => ?_)
            · skip
              have h20 := t_dec h19
              refine a_rseq ?_
              refine rg_put (d := 62) (v := .d (.fl (.int .i64 (k : Int)))) rfl (og rfl (op_move rfl rfl rfl)) ?_
              refine rg_put (d := 6) (v := .d (.fl (.int .i64 (k : Int)))) rfl (og rfl (op_assign rfl rfl rfl)) ?_
              refine rg_done rfl ?_
              refine a_ret ?_
              show ∃ ds, ResL _ _ _ ds ∧ RV.of ds = _
              refine ⟨[.fl (.int .i64 (k : Int))], (.cons (.tmp rfl (.d _)) .nil), ?_⟩
              have hx : hld (ix l k) v t = true := by unfold hld hasI; simp only [h1, h3, h5, h6, h15, h16, h19, Bool.true_or, Bool.false_or, Bool.or_true, Bool.or_false, Bool.not_true, Bool.not_false, cond_true, cond_false, Bool.true_and, Bool.false_and, Bool.and_true, Bool.and_false] <;> rfl
              have hu : idx (fun o => hld o v t) l = (k : Int) := idx_at (by omega) hq hx
              rw [hu]; rfl
            · skip
              have h21 := f_dec h19
              refine a_skip ?_
              show A _ _ _ _ _ _ _
              refine a_region ?_
              refine rg_put (d := 12) (v := .d (.fl (.int .i64 (k : Int)))) rfl (og rfl (op_move rfl rfl rfl)) ?_
              refine rg_put (d := 13) (v := .d (.fl (.int .i64 (((k : Int) + 1))))) rfl (og rfl (op_bin rfl rfl rfl (fun x y w => b_add64 _ _ _ x y w (by omega)) rfl)) ?_
              refine rg_put (d := 7) (v := .d (.fl (.int .i64 (((k : Int) + 1))))) rfl (og rfl (op_assign rfl rfl rfl)) ?_
              refine rg_done rfl ?_
              have hx : hld (ix l k) v t = false := by unfold hld hasI; simp only [h1, h3, h5, h6, h15, h16, h19, Bool.true_or, Bool.false_or, Bool.or_true, Bool.or_false, Bool.not_true, Bool.not_false, cond_true, cond_false, Bool.true_and, Bool.false_and, Bool.and_true, Bool.and_false] <;> rfl
              show ∃ i, _ ∧ _ ∧ Imp _ _ _ _ _
              refine ⟨k + 1, ⟨by omega, fun q h => (Nat.lt_succ_iff_lt_or_eq.1 h).elim (hq q) (fun e => by rw [e]; exact hx)⟩, by omega, imp_forget rfl ⟨rfl, rfl, rfl, (by first | rfl | exact ci (by omega) | exact ci (by simp) | exact cd (by simp) | simp), trivial⟩ trivial⟩
  · skip
    have h22 := f_dec h1
    refine a_exit ?_
    show A _ _ _ _ _ _ _
    refine a_rseq ?_
    refine rg_put (d := 6) (v := .d (.fl (.int .i64 (-1)))) rfl (og rfl (op_assign rfl rfl rfl)) ?_
    refine rg_done rfl ?_
    refine a_ret ?_
    show ∃ ds, ResL _ _ _ ds ∧ RV.of ds = _
    refine ⟨[.fl (.int .i64 (-1))], (.cons (.tmp rfl (.d _)) .nil), ?_⟩
    have hu : idx (fun o => hld o v t) l = -1 := idx_no (fun q h => hq q (by omega))
    rw [hu]; rfl
set_option maxHeartbeats 4000000 in
set_option maxRecDepth 100000 in
theorem owR (l : List Ac) (v : ByteArray) (t : Int) (hl : l.length ≤ 9223372036854775807) (ha : ∀ q, q < l.length → (ix l q).owned.length ≤ 80) : Ctr Tryd.prog 27 [.sl 9 (List.map eAc l), .fl (.string v), .fl (.int .i64 t)] (.tu [.fl (.string (own l v t).1), .fl (.bool (own l v t).2)]) := by
  refine ctr (n := 29) (rs := #[.tmp 6, .tmp 7]) (L := [(0, .d (.sl 9 (List.map eAc l))), (1, .d (.fl (.string v))), (2, .d (.fl (.int .i64 t)))]) Tryd.func27 rfl rfl rfl rfl rfl (fun w0 U0 => ?_)
  refine a_rseq ?_
  refine rg_put (d := 6) (v := .d (.fl (.string (⟨#[]⟩)))) rfl (og rfl (op_assign rfl rfl rfl)) ?_
  refine rg_put (d := 7) (v := .d (.fl (.bool false))) rfl (og rfl (op_assign rfl rfl rfl)) ?_
  refine rg_done rfl ?_
  refine a_seq ?_
  refine a_rseq ?_
  refine rg_put (d := 8) (v := .d (.fl (.int .i64 0))) rfl (og rfl (op_assign rfl rfl rfl)) ?_
  refine rg_done rfl ?_
  refine a_block ?_
  refine a_loop (ι := Nat) (fun k => SS [(0, .d (.sl 9 (List.map eAc l))), (1, .d (.fl (.string v))), (2, .d (.fl (.int .i64 t))), (8, .d (.fl (.int .i64 (k : Int))))] []) (fun k => k ≤ l.length ∧ ∀ q, q < k → ownL (ix l q).owned v t = false) (fun k => l.length - k) 0 (⟨by omega, fun q h => by omega⟩) (imp_forget rfl ⟨rfl, rfl, rfl, (by first | rfl | exact ci (by omega) | exact ci (by simp) | exact cd (by simp) | simp), trivial⟩ trivial) (fun k hok => ?_)
  obtain ⟨hkk, hq⟩ := hok
  refine a_seq ?_
  refine a_rseq ?_
  refine rg_put (d := 9) (v := .d (.fl (.int .i64 (k : Int)))) rfl (og rfl (op_move rfl rfl rfl)) ?_
  refine rg_put (d := 10) (v := .d (.sl 9 (List.map eAc l))) rfl (og rfl (op_move rfl rfl rfl)) ?_
  refine rg_put (d := 11) (v := .d (.fl (.int .i64 (l.length : Int)))) rfl (og rfl (s_len rfl Tryd.underlying22 rfl rfl)) ?_
  refine rg_put (d := 12) (v := .d (.fl (.bool ((decide ((k : Int) < (l.length : Int))))))) rfl (og rfl (op_bin rfl rfl rfl (b_lss _ _ _ _) rfl)) ?_
  refine rg_done rfl ?_
  refine a_cond rfl (fun h1 => ?_) (fun h1 => ?_)
  · skip
    have h2 := t_dec h1
    refine a_skip ?_
    show A _ _ _ _ _ _ _
    refine a_seq ?_
    refine a_block ?_
    refine a_rseq ?_
    refine rg_put (d := 15) (v := .d (.sl 9 (List.map eAc l))) rfl (og rfl (op_move rfl rfl rfl)) ?_
    refine rg_put (d := 16) (v := .d (.fl (.int .i64 (k : Int)))) rfl (og rfl (op_move rfl rfl rfl)) ?_
    refine rg_put (d := 17) (v := .el ((eAc (ix l k)))) rfl (og rfl (s_index rfl Tryd.underlying22 ti67 rfl rfl (by omega) (row_at (by omega)) rfl)) ?_
    refine rg_put (d := 18) (v := .el ((List.drop 3 ((eAc (ix l k)))))) rfl (og rfl (of_eff (s_field_el rfl Tryd.underlying67 rfl ti63 rfl rfl rfl) rfl)) ?_
    refine rg_put (d := 19) (v := .d (.sl 4 (List.map eOw ((ix l k).owned)))) rfl (og rfl (op_load_el rfl Tryd.underlying63 rfl rfl rfl rfl)) ?_
    refine rg_put (d := 20) (v := .d (.fl (.string v))) rfl (og rfl (op_move rfl rfl rfl)) ?_
    refine rg_put (d := 21) (v := .d (.fl (.int .i64 t))) rfl (og rfl (op_move rfl rfl rfl)) ?_
    refine rg_put (d := 22) (v := .d (.fl (.int .i64 ((idx (fun o => hld o v t) ((ix l k).owned)))))) rfl (og rfl (op_call rfl Tryd.func45 nm45 rfl (.cons rfl (.d _) (.cons rfl (.d _) (.cons rfl (.d _) .nil))) (own24 ((ix l k).owned) v t (by have := ha k (by omega); omega)) rfl)) ?_
    refine rg_put (d := 23) (v := .d (.fl (.bool ((decide (0 ≤ (idx (fun o => hld o v t) ((ix l k).owned)))))))) rfl (og rfl (op_bin rfl rfl rfl (b_geq _ _ _ _) rfl)) ?_
    refine rg_done rfl ?_
    refine a_cond rfl (fun h3 => ?_) (fun h3 => ?_)
    · skip
      have h4 := t_dec h3
      refine a_rseq ?_
      refine rg_put (d := 24) (v := .d (.sl 9 (List.map eAc l))) rfl (og rfl (op_move rfl rfl rfl)) ?_
      refine rg_put (d := 25) (v := .d (.fl (.int .i64 (k : Int)))) rfl (og rfl (op_move rfl rfl rfl)) ?_
      refine rg_put (d := 26) (v := .el ((eAc (ix l k)))) rfl (og rfl (s_index rfl Tryd.underlying22 ti67 rfl rfl (by omega) (row_at (by omega)) rfl)) ?_
      refine rg_put (d := 27) (v := .el ((List.drop 0 ((eAc (ix l k)))))) rfl (og rfl (of_eff (s_field_el rfl Tryd.underlying67 rfl ti9 rfl rfl rfl) rfl)) ?_
      refine rg_put (d := 28) (v := .d (.fl (.string ((ix l k).name)))) rfl (og rfl (op_load_el rfl Tryd.underlying9 rfl rfl rfl rfl)) ?_
      refine rg_put (d := 6) (v := .d (.fl (.string ((ix l k).name)))) rfl (og rfl (op_assign rfl rfl rfl)) ?_
      refine rg_put (d := 7) (v := .d (.fl (.bool true))) rfl (og rfl (op_assign rfl rfl rfl)) ?_
      refine rg_done rfl ?_
      refine a_ret ?_
      show ∃ ds, ResL _ _ _ ds ∧ RV.of ds = _
      refine ⟨[.fl (.string ((ix l k).name)), .fl (.bool true)], (.cons (.tmp rfl (.d _)) (.cons (.tmp rfl (.d _)) .nil)), ?_⟩
      have hu : own l v t = ((ix l k).name, true) := own_at (by omega) hq ((idx_any _ _).symm.trans h3)
      rw [hu]; rfl
    · skip
      have h5 := f_dec h3
      refine a_skip ?_
      show A _ _ _ _ _ _ _
      refine a_region ?_
      refine rg_put (d := 13) (v := .d (.fl (.int .i64 (k : Int)))) rfl (og rfl (op_move rfl rfl rfl)) ?_
      refine rg_put (d := 14) (v := .d (.fl (.int .i64 (((k : Int) + 1))))) rfl (og rfl (op_bin rfl rfl rfl (fun x y w => b_add64 _ _ _ x y w (by omega)) rfl)) ?_
      refine rg_put (d := 8) (v := .d (.fl (.int .i64 (((k : Int) + 1))))) rfl (og rfl (op_assign rfl rfl rfl)) ?_
      refine rg_done rfl ?_
      have hx : ownL (ix l k).owned v t = false := (idx_any _ _).symm.trans h3
      show ∃ i, _ ∧ _ ∧ Imp _ _ _ _ _
      refine ⟨k + 1, ⟨by omega, fun q h => (Nat.lt_succ_iff_lt_or_eq.1 h).elim (hq q) (fun e => by rw [e]; exact hx)⟩, by omega, imp_forget rfl ⟨rfl, rfl, rfl, (by first | rfl | exact ci (by omega) | exact ci (by simp) | exact cd (by simp) | simp), trivial⟩ trivial⟩
  · skip
    have h6 := f_dec h1
    refine a_exit ?_
    show A _ _ _ _ _ _ _
    refine a_rseq ?_
    refine rg_put (d := 6) (v := .d (.fl (.string (⟨#[]⟩)))) rfl (og rfl (op_assign rfl rfl rfl)) ?_
    refine rg_put (d := 7) (v := .d (.fl (.bool false))) rfl (og rfl (op_assign rfl rfl rfl)) ?_
    refine rg_done rfl ?_
    refine a_ret ?_
    show ∃ ds, ResL _ _ _ ds ∧ RV.of ds = _
    refine ⟨[.fl (.string (⟨#[]⟩)), .fl (.bool false)], (.cons (.tmp rfl (.d _)) (.cons (.tmp rfl (.d _)) .nil)), ?_⟩
    have hu : own l v t = (⟨#[]⟩, false) := own_no (fun q h => hq q (by omega))
    rw [hu]; rfl
set_option maxHeartbeats 4000000 in
set_option maxRecDepth 100000 in
theorem cl36 (a : Ac) (s : ByteArray) : Ctr Tryd.prog 59 [.ag (eAc a), .el [.fl (.string s)]] (.d (.fl (.bool (sEq a.name s)))) := by
  refine ctr (n := 8) (rs := #[.tmp 3]) (L := [(0, .d (.ag (eAc a))), (1, .el [.fl (.string s)])]) Tryd.func59 rfl rfl rfl rfl rfl (fun w0 U0 => ?_)
  refine a_rseq ?_
  refine rg_nam (d := 2) (v := .pt 101 0) (m := 101) (nw := [(101, .bx 67 (eAc a))]) rfl (og rfl (of_eff (op_box 101 rfl rfl rfl rfl) rfl)) rfl ?_
  refine rg_put (d := 3) (v := .d (.fl (.bool false))) rfl (og rfl (op_assign rfl rfl rfl)) ?_
  refine rg_done rfl ?_
  refine a_rseq ?_
  refine rg_put (d := 4) (v := .pt 101 0) rfl (og rfl (of_eff (s_field_pt rfl Tryd.underlying67 rfl ti9 rfl rfl rfl) rfl)) ?_
  refine rg_put (d := 5) (v := .d (.fl (.string a.name))) rfl (og rfl (op_load_pt rfl Tryd.underlying9 rfl rfl rfl rfl rfl)) ?_
  refine rg_put (d := 6) (v := .d (.fl (.string s))) rfl (og rfl (op_load_el rfl Tryd.underlying9 rfl rfl rfl rfl)) ?_
  refine rg_put (d := 7) (v := .d (.fl (.bool (sEq a.name s)))) rfl (og rfl (op_bin rfl rfl rfl (b_seq _ _ _) rfl)) ?_
  refine rg_put (d := 3) (v := .d (.fl (.bool (sEq a.name s)))) rfl (og rfl (op_assign rfl rfl rfl)) ?_
  refine rg_done rfl ?_
  refine a_ret ?_
  show ∃ ds, ResL _ _ _ ds ∧ RV.of ds = _
  refine ⟨[.fl (.bool (sEq a.name s))], (.cons (.tmp rfl (.d _)) .nil), ?_⟩
  rfl
set_option maxHeartbeats 4000000 in
set_option maxRecDepth 100000 in
theorem ix35 (l : List Ac) (s : ByteArray) (hl : l.length ≤ 9223372036854775807) : Ctr Tryd.prog 58 [.sl 9 (List.map eAc l), .fn 59 [.el [.fl (.string s)]]] (.d (.fl (.int .i64 (ai l s)))) := by
  refine ctr (n := 19) (rs := #[.tmp 4]) (L := [(0, .d (.sl 9 (List.map eAc l))), (1, .d (.fn 59 [.el [.fl (.string s)]]))]) Tryd.func58 rfl rfl rfl rfl rfl (fun w0 U0 => ?_)
  refine a_rseq ?_
  refine rg_put (d := 4) (v := .d (.fl (.int .i64 0))) rfl (og rfl (op_assign rfl rfl rfl)) ?_
  refine rg_done rfl ?_
  refine a_seq ?_
  refine a_rseq ?_
  refine rg_put (d := 6) (v := .d (.sl 9 (List.map eAc l))) rfl (og rfl (op_move rfl rfl rfl)) ?_
  refine rg_put (d := 7) (v := .d (.fl (.int .i64 (l.length : Int)))) rfl (og rfl (s_len rfl Tryd.underlying22 rfl rfl)) ?_
  refine rg_put (d := 8) (v := .d (.fl (.int .i64 0))) rfl (og rfl (op_move rfl rfl rfl)) ?_
  refine rg_done rfl ?_
  refine a_block ?_
  refine a_loop (ι := Nat) (fun k => SS [(0, .d (.sl 9 (List.map eAc l))), (1, .d (.fn 59 [.el [.fl (.string s)]])), (7, .d (.fl (.int .i64 (l.length : Int)))), (8, .d (.fl (.int .i64 (k : Int))))] []) (fun k => k ≤ l.length ∧ ∀ q, q < k → (sEq (ix l q).name s) = false) (fun k => l.length - k) 0 (⟨by omega, fun q h => by omega⟩) (imp_forget rfl ⟨rfl, rfl, rfl, (by first | rfl | exact ci (by omega) | exact ci (by simp) | exact cd (by simp) | simp), trivial⟩ trivial) (fun k hok => ?_)
  obtain ⟨hkk, hq⟩ := hok
  refine a_rseq ?_
  refine rg_put (d := 9) (v := .d (.fl (.bool ((decide ((k : Int) < (l.length : Int))))))) rfl (og rfl (op_bin rfl rfl rfl (b_lss _ _ _ _) rfl)) ?_
  refine rg_done rfl ?_
  refine a_seq ?_
  refine a_cond rfl (fun h1 => ?_) (fun h1 => ?_)
  · skip
    have h2 := t_dec h1
    refine a_skip ?_
    show A _ _ _ _ _ _ _
    refine a_seq ?_
    refine a_block ?_
    refine a_rseq ?_
    refine rg_put (d := 10) (v := .d (.fl (.int .i64 (k : Int)))) rfl (og rfl (op_move rfl rfl rfl)) ?_
    refine rg_put (d := 5) (v := .d (.fl (.int .i64 (k : Int)))) rfl (og rfl (op_assign rfl rfl rfl)) ?_
    refine rg_done rfl ?_
    refine a_rseq ?_
    refine rg_put (d := 11) (v := .d (.fn 59 [.el [.fl (.string s)]])) rfl (og rfl (op_move rfl rfl rfl)) ?_
    refine rg_put (d := 12) (v := .d (.sl 9 (List.map eAc l))) rfl (og rfl (op_move rfl rfl rfl)) ?_
    refine rg_put (d := 13) (v := .d (.fl (.int .i64 (k : Int)))) rfl (og rfl (op_move rfl rfl rfl)) ?_
    refine rg_put (d := 14) (v := .el ((eAc (ix l k)))) rfl (og rfl (s_index rfl Tryd.underlying22 ti67 rfl rfl (by omega) (row_at (by omega)) rfl)) ?_
    refine rg_put (d := 15) (v := .d (.ag (eAc (ix l k)))) rfl (og rfl (of_eff (s_load_els rfl Tryd.underlying67 rfl ti67 rfl rfl rfl) rfl)) ?_
    refine rg_put (d := 16) (v := .d (.fl (.bool ((sEq (ix l k).name s))))) rfl (og rfl (op_callV rfl rfl ⟨_, Tryd.func59, nm59, rfl⟩ (.cons rfl (.d _) .nil) (cl36 (ix l k) s) rfl)) ?_
    refine rg_done rfl ?_
    refine a_cond rfl (fun h3 => ?_) (fun h3 => ?_)
    · skip
      refine a_rseq ?_
      refine rg_put (d := 17) (v := .d (.fl (.int .i64 (k : Int)))) rfl (og rfl (op_move rfl rfl rfl)) ?_
      refine rg_put (d := 4) (v := .d (.fl (.int .i64 (k : Int)))) rfl (og rfl (op_assign rfl rfl rfl)) ?_
      refine rg_done rfl ?_
      refine a_ret ?_
      show ∃ ds, ResL _ _ _ ds ∧ RV.of ds = _
      refine ⟨[.fl (.int .i64 (k : Int))], (.cons (.tmp rfl (.d _)) .nil), ?_⟩
      have hu : ai l s = (k : Int) := idx_at (by omega) hq h3
      rw [hu]; rfl
    · skip
      refine a_skip ?_
      show A _ _ _ _ _ _ _
      refine a_region ?_
      refine rg_put (d := 18) (v := .d (.fl (.int .i64 (((k : Int) + 1))))) rfl (og rfl (op_bin rfl rfl rfl (fun x y w => b_add64 _ _ _ x y w (by omega)) rfl)) ?_
      refine rg_put (d := 8) (v := .d (.fl (.int .i64 (((k : Int) + 1))))) rfl (og rfl (op_move rfl rfl rfl)) ?_
      refine rg_done rfl ?_
      have hx : (sEq (ix l k).name s) = false := h3
      show ∃ i, _ ∧ _ ∧ Imp _ _ _ _ _
      refine ⟨k + 1, ⟨by omega, fun q h => (Nat.lt_succ_iff_lt_or_eq.1 h).elim (hq q) (fun e => by rw [e]; exact hx)⟩, by omega, imp_forget rfl ⟨rfl, rfl, rfl, (by first | rfl | exact ci (by omega) | exact ci (by simp) | exact cd (by simp) | simp), trivial⟩ trivial⟩
  · skip
    have h4 := f_dec h1
    refine a_exit ?_
    show A _ _ _ _ _ _ _
    refine a_rseq ?_
    refine rg_put (d := 4) (v := .d (.fl (.int .i64 (-1)))) rfl (og rfl (op_assign rfl rfl rfl)) ?_
    refine rg_done rfl ?_
    refine a_ret ?_
    show ∃ ds, ResL _ _ _ ds ∧ RV.of ds = _
    refine ⟨[.fl (.int .i64 (-1))], (.cons (.tmp rfl (.d _)) .nil), ?_⟩
    have hu : ai l s = -1 := idx_no (fun q h => hq q (by omega))
    rw [hu]; rfl
set_option maxHeartbeats 4000000 in
set_option maxRecDepth 100000 in
theorem ixP (l : List Ac) (s : ByteArray) (hl : l.length ≤ 9223372036854775807) : Ctr Tryd.prog 36 [.sl 9 (List.map eAc l), .fl (.string s)] (.d (.fl (.int .i64 (ai l s)))) := by
  refine ctr (n := 8) (rs := #[.tmp 4]) (L := [(0, .d (.sl 9 (List.map eAc l))), (1, .d (.fl (.string s)))]) Tryd.func36 rfl rfl rfl rfl rfl (fun w0 U0 => ?_)
  refine a_rseq ?_
  refine rg_nam (d := 3) (v := .pt 101 0) (m := 101) (nw := [(101, .bx 9 [.fl (.string s)])]) rfl (og rfl (of_eff (op_box 101 rfl rfl rfl rfl) rfl)) rfl ?_
  refine rg_put (d := 4) (v := .d (.fl (.int .i64 0))) rfl (og rfl (op_assign rfl rfl rfl)) ?_
  refine rg_done rfl ?_
  refine a_rseq ?_
  refine rg_imp (imp_freeze 3 101 rfl rfl) ?_
  refine rg_put (d := 5) (v := .d (.sl 9 (List.map eAc l))) rfl (og rfl (op_move rfl rfl rfl)) ?_
  refine rg_put (d := 6) (v := .d (.fn 59 [.el [.fl (.string s)]])) rfl (og rfl (op_mkfn rfl (.cons rfl .nil) rfl)) ?_
  refine rg_put (d := 7) (v := .d (.fl (.int .i64 (ai l s)))) rfl (og rfl (op_call rfl Tryd.func58 nm58 rfl (.cons rfl (.d _) (.cons rfl (.d _) .nil)) (ix35 l s (by omega)) rfl)) ?_
  refine rg_put (d := 4) (v := .d (.fl (.int .i64 (ai l s)))) rfl (og rfl (op_assign rfl rfl rfl)) ?_
  refine rg_done rfl ?_
  refine a_ret ?_
  show ∃ ds, ResL _ _ _ ds ∧ RV.of ds = _
  refine ⟨[.fl (.int .i64 (ai l s))], (.cons (.tmp rfl (.d _)) .nil), ?_⟩
  rfl
set_option maxHeartbeats 4000000 in
set_option maxRecDepth 100000 in
theorem ixR (l : List Ac) (s : ByteArray) (hl : l.length ≤ 9223372036854775807) : Ctr Tryd.prog 39 [.sl 9 (List.map eAc l), .fl (.string s)] (.d (.fl (.int .i64 (ai l s)))) := by
  refine ctr (n := 20) (rs := #[.tmp 4]) (L := [(0, .d (.sl 9 (List.map eAc l))), (1, .d (.fl (.string s)))]) Tryd.func39 rfl rfl rfl rfl rfl (fun w0 U0 => ?_)
  refine a_rseq ?_
  refine rg_put (d := 4) (v := .d (.fl (.int .i64 0))) rfl (og rfl (op_assign rfl rfl rfl)) ?_
  refine rg_done rfl ?_
  refine a_seq ?_
  refine a_rseq ?_
  refine rg_put (d := 5) (v := .d (.fl (.int .i64 0))) rfl (og rfl (op_assign rfl rfl rfl)) ?_
  refine rg_done rfl ?_
  refine a_block ?_
  refine a_loop (ι := Nat) (fun k => SS [(0, .d (.sl 9 (List.map eAc l))), (1, .d (.fl (.string s))), (5, .d (.fl (.int .i64 (k : Int))))] []) (fun k => k ≤ l.length ∧ ∀ q, q < k → (sEq (ix l q).name s) = false) (fun k => l.length - k) 0 (⟨by omega, fun q h => by omega⟩) (imp_forget rfl ⟨rfl, rfl, (by first | rfl | exact ci (by omega) | exact ci (by simp) | exact cd (by simp) | simp), trivial⟩ trivial) (fun k hok => ?_)
  obtain ⟨hkk, hq⟩ := hok
  refine a_seq ?_
  refine a_rseq ?_
  refine rg_put (d := 6) (v := .d (.fl (.int .i64 (k : Int)))) rfl (og rfl (op_move rfl rfl rfl)) ?_
  refine rg_put (d := 7) (v := .d (.sl 9 (List.map eAc l))) rfl (og rfl (op_move rfl rfl rfl)) ?_
  refine rg_put (d := 8) (v := .d (.fl (.int .i64 (l.length : Int)))) rfl (og rfl (s_len rfl Tryd.underlying22 rfl rfl)) ?_
  refine rg_put (d := 9) (v := .d (.fl (.bool ((decide ((k : Int) < (l.length : Int))))))) rfl (og rfl (op_bin rfl rfl rfl (b_lss _ _ _ _) rfl)) ?_
  refine rg_done rfl ?_
  refine a_cond rfl (fun h1 => ?_) (fun h1 => ?_)
  · skip
    have h2 := t_dec h1
    refine a_skip ?_
    show A _ _ _ _ _ _ _
    refine a_seq ?_
    refine a_block ?_
    refine a_rseq ?_
    refine rg_put (d := 12) (v := .d (.sl 9 (List.map eAc l))) rfl (og rfl (op_move rfl rfl rfl)) ?_
    refine rg_put (d := 13) (v := .d (.fl (.int .i64 (k : Int)))) rfl (og rfl (op_move rfl rfl rfl)) ?_
    refine rg_put (d := 14) (v := .el ((eAc (ix l k)))) rfl (og rfl (s_index rfl Tryd.underlying22 ti67 rfl rfl (by omega) (row_at (by omega)) rfl)) ?_
    refine rg_put (d := 15) (v := .el ((List.drop 0 ((eAc (ix l k)))))) rfl (og rfl (of_eff (s_field_el rfl Tryd.underlying67 rfl ti9 rfl rfl rfl) rfl)) ?_
    refine rg_put (d := 16) (v := .d (.fl (.string ((ix l k).name)))) rfl (og rfl (op_load_el rfl Tryd.underlying9 rfl rfl rfl rfl)) ?_
    refine rg_put (d := 17) (v := .d (.fl (.string s))) rfl (og rfl (op_move rfl rfl rfl)) ?_
    refine rg_put (d := 18) (v := .d (.fl (.bool ((sEq ((ix l k).name) s))))) rfl (og rfl (op_bin rfl rfl rfl (b_seq _ _ _) rfl)) ?_
    refine rg_done rfl ?_
    refine a_cond rfl (fun h3 => ?_) (fun h3 => ?_)
    · skip
      refine a_rseq ?_
      refine rg_put (d := 19) (v := .d (.fl (.int .i64 (k : Int)))) rfl (og rfl (op_move rfl rfl rfl)) ?_
      refine rg_put (d := 4) (v := .d (.fl (.int .i64 (k : Int)))) rfl (og rfl (op_assign rfl rfl rfl)) ?_
      refine rg_done rfl ?_
      refine a_ret ?_
      show ∃ ds, ResL _ _ _ ds ∧ RV.of ds = _
      refine ⟨[.fl (.int .i64 (k : Int))], (.cons (.tmp rfl (.d _)) .nil), ?_⟩
      have hu : ai l s = (k : Int) := idx_at (by omega) hq h3
      rw [hu]; rfl
    · skip
      refine a_skip ?_
      show A _ _ _ _ _ _ _
      refine a_region ?_
      refine rg_put (d := 10) (v := .d (.fl (.int .i64 (k : Int)))) rfl (og rfl (op_move rfl rfl rfl)) ?_
      refine rg_put (d := 11) (v := .d (.fl (.int .i64 (((k : Int) + 1))))) rfl (og rfl (op_bin rfl rfl rfl (fun x y w => b_add64 _ _ _ x y w (by omega)) rfl)) ?_
      refine rg_put (d := 5) (v := .d (.fl (.int .i64 (((k : Int) + 1))))) rfl (og rfl (op_assign rfl rfl rfl)) ?_
      refine rg_done rfl ?_
      have hx : (sEq (ix l k).name s) = false := h3
      show ∃ i, _ ∧ _ ∧ Imp _ _ _ _ _
      refine ⟨k + 1, ⟨by omega, fun q h => (Nat.lt_succ_iff_lt_or_eq.1 h).elim (hq q) (fun e => by rw [e]; exact hx)⟩, by omega, imp_forget rfl ⟨rfl, rfl, (by first | rfl | exact ci (by omega) | exact ci (by simp) | exact cd (by simp) | simp), trivial⟩ trivial⟩
  · skip
    have h4 := f_dec h1
    refine a_exit ?_
    show A _ _ _ _ _ _ _
    refine a_rseq ?_
    refine rg_put (d := 4) (v := .d (.fl (.int .i64 (-1)))) rfl (og rfl (op_assign rfl rfl rfl)) ?_
    refine rg_done rfl ?_
    refine a_ret ?_
    show ∃ ds, ResL _ _ _ ds ∧ RV.of ds = _
    refine ⟨[.fl (.int .i64 (-1))], (.cons (.tmp rfl (.d _)) .nil), ?_⟩
    have hu : ai l s = -1 := idx_no (fun q h => hq q (by omega))
    rw [hu]; rfl
set_option maxHeartbeats 4000000 in
set_option maxRecDepth 100000 in
theorem cop21 (l : List Ow) (c : Int) (hl : l.length ≤ 1000) (hc : 0 ≤ c ∧ c ≤ 1000) : Ctr Tryd.prog 37 [.sl 4 (List.map eOw l), .fl (.int .i64 c)] (.d (.sl 4 (List.map eOw l))) := by
  refine ctr (n := 17) (rs := #[.tmp 4]) (L := [(0, .d (.sl 4 (List.map eOw l))), (1, .d (.fl (.int .i64 c)))]) Tryd.func37 rfl rfl rfl rfl rfl (fun w0 U0 => ?_)
  refine a_rseq ?_
  refine rg_put (d := 4) (v := .d (.fl (.slice none 0 0))) rfl (og rfl (op_assign rfl rfl rfl)) ?_
  refine rg_done rfl ?_
  refine a_rseq ?_
  refine rg_put (d := 6) (v := .d (.sl 4 (List.map eOw l))) rfl (og rfl (op_move rfl rfl rfl)) ?_
  refine rg_put (d := 7) (v := .d (.fl (.int .i64 (l.length : Int)))) rfl (og rfl (s_len rfl Tryd.underlying63 rfl rfl)) ?_
  refine rg_put (d := 8) (v := .d (.sl 4 (List.map eOw l))) rfl (og rfl (op_move rfl rfl rfl)) ?_
  refine rg_put (d := 9) (v := .d (.fl (.int .i64 (l.length : Int)))) rfl (og rfl (s_len rfl Tryd.underlying63 rfl rfl)) ?_
  refine rg_put (d := 10) (v := .d (.fl (.int .i64 c))) rfl (og rfl (op_move rfl rfl rfl)) ?_
  refine rg_put (d := 11) (v := .d (.fl (.int .i64 (((l.length : Int) + c))))) rfl (og rfl (op_bin rfl rfl rfl (fun x y w => b_add64 _ _ _ x y w (by omega)) rfl)) ?_
  refine rg_nam (d := 12) (v := .ow 101) (m := 101) (nw := [(101, .tr 69 4 (tD eOw ((List.replicate l.length (⟨⟨#[]⟩, ⟨#[]⟩, ⟨0, 0⟩⟩ : Ow)))))]) rfl (og rfl (of_eff (of_eff (op_makeS 101 rfl Tryd.underlying63 ti69 (n := l.length) rfl rfl (by omega) (by omega) (by omega) (by omega) (enc := eOw) (z0 := (⟨⟨#[]⟩, ⟨#[]⟩, ⟨0, 0⟩⟩ : Ow)) rfl rfl (List.forall_mem_cons.2 ⟨rfl, List.forall_mem_cons.2 ⟨rfl, List.forall_mem_cons.2 ⟨rfl, List.forall_mem_cons.2 ⟨rfl, fun _ h => (List.not_mem_nil h).elim⟩⟩⟩⟩) rfl) rfl) rfl)) rfl ?_
  refine rg_put (d := 5) (v := .ow 101) rfl (og rfl (op_assign rfl rfl rfl)) ?_
  refine rg_done rfl ?_
  refine a_rseq ?_
  refine rg_put (d := 13) (v := .ow 101) rfl (og rfl (op_move rfl rfl rfl)) ?_
  refine rg_put (d := 14) (v := .d (.sl 4 (List.map eOw l))) rfl (og rfl (op_move rfl rfl rfl)) ?_
  refine rg_upd (d := 15) (v := .d (.fl (.int .i64 (l.length : Int)))) (nw := [(101, .tr 69 4 (tD eOw ((l ++ List.drop l.length ((List.replicate l.length (⟨⟨#[]⟩, ⟨#[]⟩, ⟨0, 0⟩⟩ : Ow)))))))]) rfl (og rfl (of_eff (op_copyS rfl Tryd.underlying63 ti69 (by decide) (enc := eOw) (fun _ => rfl) (B := l) rfl rfl rfl (.d _) (by simp) rfl) rfl)) ?_
  refine rg_done rfl ?_
  refine a_rseq ?_
  rw [show (l ++ List.drop l.length ((List.replicate l.length (⟨⟨#[]⟩, ⟨#[]⟩, ⟨0, 0⟩⟩ : Ow)))) = l from by simp]
  refine rg_put (d := 16) (v := .ow 101) rfl (og rfl (op_move rfl rfl rfl)) ?_
  refine rg_put (d := 4) (v := .ow 101) rfl (og rfl (op_assign rfl rfl rfl)) ?_
  refine rg_done rfl ?_
  refine a_imp (imp_leakT 4 101 rfl rfl) ?_
  refine a_ret ?_
  show ∃ ds, ResL _ _ _ ds ∧ RV.of ds = _
  refine ⟨[.sl 4 (List.map eOw l)], (.cons (.tmp rfl (.d _)) .nil), ?_⟩
  rfl
set_option maxHeartbeats 4000000 in
set_option maxRecDepth 100000 in
theorem fiP (l : List Ac) (s : ByteArray) (hl : l.length ≤ 30) (ha : ∀ q, q < l.length → (ix l q).owned.length ≤ 80) : Ctr Tryd.prog 17 [.sl 9 (List.map eAc l), .fl (.string s)] (.tu [.ag (eAc (fin_ l s).1), .fl (.bool (fin_ l s).2)]) := by
  refine ctr (n := 23) (rs := #[.cell 4 67, .tmp 5]) (L := [(0, .d (.sl 9 (List.map eAc l))), (1, .d (.fl (.string s)))]) Tryd.func17 rfl rfl rfl rfl rfl (fun w0 U0 => ?_)
  refine a_rseq ?_
  refine rg_nam (d := 4) (v := .pt 101 0) (m := 101) (nw := [(101, .bx 67 ([.fl (.string (⟨#[]⟩)), .fl (.string (⟨#[]⟩)), .fl (.bool false), .fl (.slice none 0 0), .fl (.int .i64 0), .fl (.int .i64 0), .fl (.int .i64 0), .fl (.int .i64 0), .fl (.bool false)]))]) rfl (og rfl (of_eff (s_alloc 101 rfl ti67 (by kernel_rfl) rfl) rfl)) rfl ?_
  refine rg_put (d := 5) (v := .d (.fl (.bool false))) rfl (og rfl (op_assign rfl rfl rfl)) ?_
  refine rg_done rfl ?_
  refine a_rseq ?_
  have hai := ai_in l s
  refine rg_put (d := 8) (v := .d (.sl 9 (List.map eAc l))) rfl (og rfl (op_move rfl rfl rfl)) ?_
  refine rg_put (d := 9) (v := .d (.fl (.string s))) rfl (og rfl (op_move rfl rfl rfl)) ?_
  refine rg_put (d := 10) (v := .d (.fl (.int .i64 (ai l s)))) rfl (og rfl (op_call rfl Tryd.func36 nm36 rfl (.cons rfl (.d _) (.cons rfl (.d _) .nil)) (ixP l s (by omega)) rfl)) ?_
  refine rg_put (d := 6) (v := .d (.fl (.int .i64 (ai l s)))) rfl (og rfl (op_assign rfl rfl rfl)) ?_
  refine rg_done rfl ?_
  refine a_seq ?_
  refine a_rseq ?_
  refine rg_put (d := 11) (v := .d (.fl (.int .i64 (ai l s)))) rfl (og rfl (op_move rfl rfl rfl)) ?_
  refine rg_put (d := 12) (v := .d (.fl (.bool ((decide ((ai l s) < 0)))))) rfl (og rfl (op_bin rfl rfl rfl (b_lss _ _ _ _) rfl)) ?_
  refine rg_done rfl ?_
  refine a_cond rfl (fun h1 => ?_) (fun h1 => ?_)
  · skip
    have h2 := t_dec h1
    refine a_rseq ?_
    refine rg_put (d := 13) (v := .d (.ag [.fl (.string (⟨#[]⟩)), .fl (.string (⟨#[]⟩)), .fl (.bool false), .fl (.slice none 0 0), .fl (.int .i64 0), .fl (.int .i64 0), .fl (.int .i64 0), .fl (.int .i64 0), .fl (.bool false)])) rfl (og rfl (of_eff (op_build rfl Tryd.underlying67 ti67 rfl (by kernel_rfl) (by kernel_rfl) (pl := #[(0, 1), (1, 1), (2, 1), (3, 1), (4, 4), (8, 1)]) (by kernel_rfl) .nil rfl) rfl)) ?_
    refine rg_sto (nw := [(101, .bx 67 ([.fl (.string (⟨#[]⟩)), .fl (.string (⟨#[]⟩)), .fl (.bool false), .fl (.slice none 0 0), .fl (.int .i64 0), .fl (.int .i64 0), .fl (.int .i64 0), .fl (.int .i64 0), .fl (.bool false)]))]) rfl (og rfl (of_eff (s_store rfl rfl ti67 rfl rfl rfl rfl rfl rfl) rfl)) ?_
    refine rg_put (d := 5) (v := .d (.fl (.bool false))) rfl (og rfl (op_assign rfl rfl rfl)) ?_
    refine rg_done rfl ?_
    refine a_ret ?_
    show ∃ ds, ResL _ _ _ ds ∧ RV.of ds = _
    refine ⟨[.ag [.fl (.string (⟨#[]⟩)), .fl (.string (⟨#[]⟩)), .fl (.bool false), .sl 4 (List.map eOw []), .fl (.int .i64 0), .fl (.int .i64 0), .fl (.int .i64 0), .fl (.int .i64 0), .fl (.bool false)], .fl (.bool false)], (.cons (.cellT rfl rfl Tryd.underlying67 rfl ti67 rfl (Cv.ag (xs := [.fl (.string (⟨#[]⟩)), .fl (.string (⟨#[]⟩)), .fl (.bool false), .fl (.slice none 0 0), .fl (.int .i64 0), .fl (.int .i64 0), .fl (.int .i64 0), .fl (.int .i64 0), .fl (.bool false)]) (ys := [.fl (.string (⟨#[]⟩)), .fl (.string (⟨#[]⟩)), .fl (.bool false), .sl 4 (List.map eOw []), .fl (.int .i64 0), .fl (.int .i64 0), .fl (.int .i64 0), .fl (.int .i64 0), .fl (.bool false)]) ⟨Cv.refl _, Cv.refl _, Cv.refl _, Cv.nil _, Cv.refl _, Cv.refl _, Cv.refl _, Cv.refl _, Cv.refl _, trivial⟩)) (.cons (.tmp rfl (.d _)) .nil)), ?_⟩
    have hu : fin_ l s = (⟨⟨#[]⟩, ⟨#[]⟩, false, [], ⟨0, 0, 0, 0⟩, false⟩, false) := by unfold fin_; rw [if_pos (by omega)]
    rw [hu]; rfl
  · skip
    have h3 := f_dec h1
    refine a_skip ?_
    show A _ _ _ _ _ _ _
    refine a_rseq ?_
    refine rg_put (d := 14) (v := .d (.sl 9 (List.map eAc l))) rfl (og rfl (op_move rfl rfl rfl)) ?_
    refine rg_put (d := 15) (v := .d (.fl (.int .i64 (ai l s)))) rfl (og rfl (op_move rfl rfl rfl)) ?_
    refine rg_put (d := 16) (v := .el ((eAc ((ix l ((ai l s)).toNat))))) rfl (og rfl (s_index rfl Tryd.underlying22 ti67 rfl rfl (by omega) (row_atI (by omega) (by omega)) rfl)) ?_
    refine rg_put (d := 17) (v := .d (.ag (eAc (((ix l ((ai l s)).toNat)))))) rfl (og rfl (of_eff (s_load_els rfl Tryd.underlying67 rfl ti67 rfl rfl rfl) rfl)) ?_
    refine rg_nam (d := 7) (v := .pt 102 0) (m := 102) (nw := [(102, .bx 67 ([.fl (.string (⟨#[]⟩)), .fl (.string (⟨#[]⟩)), .fl (.bool false), .fl (.slice none 0 0), .fl (.int .i64 0), .fl (.int .i64 0), .fl (.int .i64 0), .fl (.int .i64 0), .fl (.bool false)]))]) rfl (og rfl (of_eff (s_alloc 102 rfl ti67 (by kernel_rfl) rfl) rfl)) rfl ?_
    refine rg_sto (nw := [(102, .bx 67 ((eAc (((ix l ((ai l s)).toNat))))))]) rfl (og rfl (of_eff (s_store rfl rfl ti67 rfl rfl rfl rfl rfl rfl) rfl)) ?_
    refine rg_done rfl ?_
    refine a_rseq ?_
    refine rg_put (d := 18) (v := .pt 102 3) rfl (og rfl (of_eff (s_field_pt rfl Tryd.underlying67 rfl ti63 rfl rfl rfl) rfl)) ?_
    refine rg_put (d := 19) (v := .d (.sl 4 (List.map eOw ((((ix l ((ai l s)).toNat))).owned)))) rfl (og rfl (op_load_pt rfl Tryd.underlying63 rfl rfl rfl rfl rfl)) ?_
    refine rg_put (d := 20) (v := .d (.sl 4 (List.map eOw ((((ix l ((ai l s)).toNat))).owned)))) rfl (og rfl (op_call rfl Tryd.func37 nm37 rfl (.cons rfl (.d _) (.cons rfl (.d _) .nil)) (cop21 ((((ix l ((ai l s)).toNat))).owned) 0 (by have := ha (ai l s).toNat (by omega); omega) (by omega)) rfl)) ?_
    refine rg_put (d := 21) (v := .pt 102 3) rfl (og rfl (of_eff (s_field_pt rfl Tryd.underlying67 rfl ti63 rfl rfl rfl) rfl)) ?_
    refine rg_sto (nw := [(102, .bx 67 [.fl (.string ((((ix l ((ai l s)).toNat))).name)), .fl (.string ((((ix l ((ai l s)).toNat))).agency)), .fl (.bool ((((ix l ((ai l s)).toNat))).prepay)), .sl 4 (List.map eOw ((((ix l ((ai l s)).toNat))).owned)), .fl (.int .i64 (((((ix l ((ai l s)).toNat))).refill).below)), .fl (.int .i64 (((((ix l ((ai l s)).toNat))).refill).cents)), .fl (.int .i64 (((((ix l ((ai l s)).toNat))).refill).tries)), .fl (.int .i64 (((((ix l ((ai l s)).toNat))).refill).wait)), .fl (.bool ((((ix l ((ai l s)).toNat))).exempt))])]) rfl (og rfl (of_eff (s_store rfl rfl ti63 rfl rfl rfl rfl rfl rfl) rfl)) ?_
    refine rg_done rfl ?_
    refine a_rseq ?_
    refine rg_put (d := 22) (v := .d (.ag (eAc ((Ac.mk ((((ix l ((ai l s)).toNat))).name) ((((ix l ((ai l s)).toNat))).agency) ((((ix l ((ai l s)).toNat))).prepay) ((((ix l ((ai l s)).toNat))).owned) ((Rf.mk (((((ix l ((ai l s)).toNat))).refill).below) (((((ix l ((ai l s)).toNat))).refill).cents) (((((ix l ((ai l s)).toNat))).refill).tries) (((((ix l ((ai l s)).toNat))).refill).wait))) ((((ix l ((ai l s)).toNat))).exempt)))))) rfl (og rfl (of_eff (s_load_pts rfl Tryd.underlying67 rfl ti67 rfl rfl rfl rfl) rfl)) ?_
    refine rg_sto (nw := [(101, .bx 67 ((eAc ((Ac.mk ((((ix l ((ai l s)).toNat))).name) ((((ix l ((ai l s)).toNat))).agency) ((((ix l ((ai l s)).toNat))).prepay) ((((ix l ((ai l s)).toNat))).owned) ((Rf.mk (((((ix l ((ai l s)).toNat))).refill).below) (((((ix l ((ai l s)).toNat))).refill).cents) (((((ix l ((ai l s)).toNat))).refill).tries) (((((ix l ((ai l s)).toNat))).refill).wait))) ((((ix l ((ai l s)).toNat))).exempt))))))]) rfl (og rfl (of_eff (s_store rfl rfl ti67 rfl rfl rfl rfl rfl rfl) rfl)) ?_
    refine rg_put (d := 5) (v := .d (.fl (.bool true))) rfl (og rfl (op_assign rfl rfl rfl)) ?_
    refine rg_done rfl ?_
    refine a_ret ?_
    show ∃ ds, ResL _ _ _ ds ∧ RV.of ds = _
    refine ⟨[.ag [.fl (.string ((Ac.mk ((ix l (ai l s).toNat).name) ((ix l (ai l s).toNat).agency) ((ix l (ai l s).toNat).prepay) ((ix l (ai l s).toNat).owned) (Rf.mk (((ix l (ai l s).toNat).refill).below) (((ix l (ai l s).toNat).refill).cents) (((ix l (ai l s).toNat).refill).tries) (((ix l (ai l s).toNat).refill).wait)) ((ix l (ai l s).toNat).exempt)).name)), .fl (.string ((Ac.mk ((ix l (ai l s).toNat).name) ((ix l (ai l s).toNat).agency) ((ix l (ai l s).toNat).prepay) ((ix l (ai l s).toNat).owned) (Rf.mk (((ix l (ai l s).toNat).refill).below) (((ix l (ai l s).toNat).refill).cents) (((ix l (ai l s).toNat).refill).tries) (((ix l (ai l s).toNat).refill).wait)) ((ix l (ai l s).toNat).exempt)).agency)), .fl (.bool ((Ac.mk ((ix l (ai l s).toNat).name) ((ix l (ai l s).toNat).agency) ((ix l (ai l s).toNat).prepay) ((ix l (ai l s).toNat).owned) (Rf.mk (((ix l (ai l s).toNat).refill).below) (((ix l (ai l s).toNat).refill).cents) (((ix l (ai l s).toNat).refill).tries) (((ix l (ai l s).toNat).refill).wait)) ((ix l (ai l s).toNat).exempt)).prepay)), .sl 4 (List.map eOw ((Ac.mk ((ix l (ai l s).toNat).name) ((ix l (ai l s).toNat).agency) ((ix l (ai l s).toNat).prepay) ((ix l (ai l s).toNat).owned) (Rf.mk (((ix l (ai l s).toNat).refill).below) (((ix l (ai l s).toNat).refill).cents) (((ix l (ai l s).toNat).refill).tries) (((ix l (ai l s).toNat).refill).wait)) ((ix l (ai l s).toNat).exempt)).owned)), .fl (.int .i64 (((Ac.mk ((ix l (ai l s).toNat).name) ((ix l (ai l s).toNat).agency) ((ix l (ai l s).toNat).prepay) ((ix l (ai l s).toNat).owned) (Rf.mk (((ix l (ai l s).toNat).refill).below) (((ix l (ai l s).toNat).refill).cents) (((ix l (ai l s).toNat).refill).tries) (((ix l (ai l s).toNat).refill).wait)) ((ix l (ai l s).toNat).exempt)).refill).below)), .fl (.int .i64 (((Ac.mk ((ix l (ai l s).toNat).name) ((ix l (ai l s).toNat).agency) ((ix l (ai l s).toNat).prepay) ((ix l (ai l s).toNat).owned) (Rf.mk (((ix l (ai l s).toNat).refill).below) (((ix l (ai l s).toNat).refill).cents) (((ix l (ai l s).toNat).refill).tries) (((ix l (ai l s).toNat).refill).wait)) ((ix l (ai l s).toNat).exempt)).refill).cents)), .fl (.int .i64 (((Ac.mk ((ix l (ai l s).toNat).name) ((ix l (ai l s).toNat).agency) ((ix l (ai l s).toNat).prepay) ((ix l (ai l s).toNat).owned) (Rf.mk (((ix l (ai l s).toNat).refill).below) (((ix l (ai l s).toNat).refill).cents) (((ix l (ai l s).toNat).refill).tries) (((ix l (ai l s).toNat).refill).wait)) ((ix l (ai l s).toNat).exempt)).refill).tries)), .fl (.int .i64 (((Ac.mk ((ix l (ai l s).toNat).name) ((ix l (ai l s).toNat).agency) ((ix l (ai l s).toNat).prepay) ((ix l (ai l s).toNat).owned) (Rf.mk (((ix l (ai l s).toNat).refill).below) (((ix l (ai l s).toNat).refill).cents) (((ix l (ai l s).toNat).refill).tries) (((ix l (ai l s).toNat).refill).wait)) ((ix l (ai l s).toNat).exempt)).refill).wait)), .fl (.bool ((Ac.mk ((ix l (ai l s).toNat).name) ((ix l (ai l s).toNat).agency) ((ix l (ai l s).toNat).prepay) ((ix l (ai l s).toNat).owned) (Rf.mk (((ix l (ai l s).toNat).refill).below) (((ix l (ai l s).toNat).refill).cents) (((ix l (ai l s).toNat).refill).tries) (((ix l (ai l s).toNat).refill).wait)) ((ix l (ai l s).toNat).exempt)).exempt))], .fl (.bool true)], (.cons (.cellT rfl rfl Tryd.underlying67 rfl ti67 rfl (Cv.ag (xs := [.fl (.string ((Ac.mk ((ix l (ai l s).toNat).name) ((ix l (ai l s).toNat).agency) ((ix l (ai l s).toNat).prepay) ((ix l (ai l s).toNat).owned) (Rf.mk (((ix l (ai l s).toNat).refill).below) (((ix l (ai l s).toNat).refill).cents) (((ix l (ai l s).toNat).refill).tries) (((ix l (ai l s).toNat).refill).wait)) ((ix l (ai l s).toNat).exempt)).name)), .fl (.string ((Ac.mk ((ix l (ai l s).toNat).name) ((ix l (ai l s).toNat).agency) ((ix l (ai l s).toNat).prepay) ((ix l (ai l s).toNat).owned) (Rf.mk (((ix l (ai l s).toNat).refill).below) (((ix l (ai l s).toNat).refill).cents) (((ix l (ai l s).toNat).refill).tries) (((ix l (ai l s).toNat).refill).wait)) ((ix l (ai l s).toNat).exempt)).agency)), .fl (.bool ((Ac.mk ((ix l (ai l s).toNat).name) ((ix l (ai l s).toNat).agency) ((ix l (ai l s).toNat).prepay) ((ix l (ai l s).toNat).owned) (Rf.mk (((ix l (ai l s).toNat).refill).below) (((ix l (ai l s).toNat).refill).cents) (((ix l (ai l s).toNat).refill).tries) (((ix l (ai l s).toNat).refill).wait)) ((ix l (ai l s).toNat).exempt)).prepay)), .sl 4 (List.map eOw ((Ac.mk ((ix l (ai l s).toNat).name) ((ix l (ai l s).toNat).agency) ((ix l (ai l s).toNat).prepay) ((ix l (ai l s).toNat).owned) (Rf.mk (((ix l (ai l s).toNat).refill).below) (((ix l (ai l s).toNat).refill).cents) (((ix l (ai l s).toNat).refill).tries) (((ix l (ai l s).toNat).refill).wait)) ((ix l (ai l s).toNat).exempt)).owned)), .fl (.int .i64 (((Ac.mk ((ix l (ai l s).toNat).name) ((ix l (ai l s).toNat).agency) ((ix l (ai l s).toNat).prepay) ((ix l (ai l s).toNat).owned) (Rf.mk (((ix l (ai l s).toNat).refill).below) (((ix l (ai l s).toNat).refill).cents) (((ix l (ai l s).toNat).refill).tries) (((ix l (ai l s).toNat).refill).wait)) ((ix l (ai l s).toNat).exempt)).refill).below)), .fl (.int .i64 (((Ac.mk ((ix l (ai l s).toNat).name) ((ix l (ai l s).toNat).agency) ((ix l (ai l s).toNat).prepay) ((ix l (ai l s).toNat).owned) (Rf.mk (((ix l (ai l s).toNat).refill).below) (((ix l (ai l s).toNat).refill).cents) (((ix l (ai l s).toNat).refill).tries) (((ix l (ai l s).toNat).refill).wait)) ((ix l (ai l s).toNat).exempt)).refill).cents)), .fl (.int .i64 (((Ac.mk ((ix l (ai l s).toNat).name) ((ix l (ai l s).toNat).agency) ((ix l (ai l s).toNat).prepay) ((ix l (ai l s).toNat).owned) (Rf.mk (((ix l (ai l s).toNat).refill).below) (((ix l (ai l s).toNat).refill).cents) (((ix l (ai l s).toNat).refill).tries) (((ix l (ai l s).toNat).refill).wait)) ((ix l (ai l s).toNat).exempt)).refill).tries)), .fl (.int .i64 (((Ac.mk ((ix l (ai l s).toNat).name) ((ix l (ai l s).toNat).agency) ((ix l (ai l s).toNat).prepay) ((ix l (ai l s).toNat).owned) (Rf.mk (((ix l (ai l s).toNat).refill).below) (((ix l (ai l s).toNat).refill).cents) (((ix l (ai l s).toNat).refill).tries) (((ix l (ai l s).toNat).refill).wait)) ((ix l (ai l s).toNat).exempt)).refill).wait)), .fl (.bool ((Ac.mk ((ix l (ai l s).toNat).name) ((ix l (ai l s).toNat).agency) ((ix l (ai l s).toNat).prepay) ((ix l (ai l s).toNat).owned) (Rf.mk (((ix l (ai l s).toNat).refill).below) (((ix l (ai l s).toNat).refill).cents) (((ix l (ai l s).toNat).refill).tries) (((ix l (ai l s).toNat).refill).wait)) ((ix l (ai l s).toNat).exempt)).exempt))]) (ys := [.fl (.string ((Ac.mk ((ix l (ai l s).toNat).name) ((ix l (ai l s).toNat).agency) ((ix l (ai l s).toNat).prepay) ((ix l (ai l s).toNat).owned) (Rf.mk (((ix l (ai l s).toNat).refill).below) (((ix l (ai l s).toNat).refill).cents) (((ix l (ai l s).toNat).refill).tries) (((ix l (ai l s).toNat).refill).wait)) ((ix l (ai l s).toNat).exempt)).name)), .fl (.string ((Ac.mk ((ix l (ai l s).toNat).name) ((ix l (ai l s).toNat).agency) ((ix l (ai l s).toNat).prepay) ((ix l (ai l s).toNat).owned) (Rf.mk (((ix l (ai l s).toNat).refill).below) (((ix l (ai l s).toNat).refill).cents) (((ix l (ai l s).toNat).refill).tries) (((ix l (ai l s).toNat).refill).wait)) ((ix l (ai l s).toNat).exempt)).agency)), .fl (.bool ((Ac.mk ((ix l (ai l s).toNat).name) ((ix l (ai l s).toNat).agency) ((ix l (ai l s).toNat).prepay) ((ix l (ai l s).toNat).owned) (Rf.mk (((ix l (ai l s).toNat).refill).below) (((ix l (ai l s).toNat).refill).cents) (((ix l (ai l s).toNat).refill).tries) (((ix l (ai l s).toNat).refill).wait)) ((ix l (ai l s).toNat).exempt)).prepay)), .sl 4 (List.map eOw ((Ac.mk ((ix l (ai l s).toNat).name) ((ix l (ai l s).toNat).agency) ((ix l (ai l s).toNat).prepay) ((ix l (ai l s).toNat).owned) (Rf.mk (((ix l (ai l s).toNat).refill).below) (((ix l (ai l s).toNat).refill).cents) (((ix l (ai l s).toNat).refill).tries) (((ix l (ai l s).toNat).refill).wait)) ((ix l (ai l s).toNat).exempt)).owned)), .fl (.int .i64 (((Ac.mk ((ix l (ai l s).toNat).name) ((ix l (ai l s).toNat).agency) ((ix l (ai l s).toNat).prepay) ((ix l (ai l s).toNat).owned) (Rf.mk (((ix l (ai l s).toNat).refill).below) (((ix l (ai l s).toNat).refill).cents) (((ix l (ai l s).toNat).refill).tries) (((ix l (ai l s).toNat).refill).wait)) ((ix l (ai l s).toNat).exempt)).refill).below)), .fl (.int .i64 (((Ac.mk ((ix l (ai l s).toNat).name) ((ix l (ai l s).toNat).agency) ((ix l (ai l s).toNat).prepay) ((ix l (ai l s).toNat).owned) (Rf.mk (((ix l (ai l s).toNat).refill).below) (((ix l (ai l s).toNat).refill).cents) (((ix l (ai l s).toNat).refill).tries) (((ix l (ai l s).toNat).refill).wait)) ((ix l (ai l s).toNat).exempt)).refill).cents)), .fl (.int .i64 (((Ac.mk ((ix l (ai l s).toNat).name) ((ix l (ai l s).toNat).agency) ((ix l (ai l s).toNat).prepay) ((ix l (ai l s).toNat).owned) (Rf.mk (((ix l (ai l s).toNat).refill).below) (((ix l (ai l s).toNat).refill).cents) (((ix l (ai l s).toNat).refill).tries) (((ix l (ai l s).toNat).refill).wait)) ((ix l (ai l s).toNat).exempt)).refill).tries)), .fl (.int .i64 (((Ac.mk ((ix l (ai l s).toNat).name) ((ix l (ai l s).toNat).agency) ((ix l (ai l s).toNat).prepay) ((ix l (ai l s).toNat).owned) (Rf.mk (((ix l (ai l s).toNat).refill).below) (((ix l (ai l s).toNat).refill).cents) (((ix l (ai l s).toNat).refill).tries) (((ix l (ai l s).toNat).refill).wait)) ((ix l (ai l s).toNat).exempt)).refill).wait)), .fl (.bool ((Ac.mk ((ix l (ai l s).toNat).name) ((ix l (ai l s).toNat).agency) ((ix l (ai l s).toNat).prepay) ((ix l (ai l s).toNat).owned) (Rf.mk (((ix l (ai l s).toNat).refill).below) (((ix l (ai l s).toNat).refill).cents) (((ix l (ai l s).toNat).refill).tries) (((ix l (ai l s).toNat).refill).wait)) ((ix l (ai l s).toNat).exempt)).exempt))]) ⟨Cv.refl _, Cv.refl _, Cv.refl _, Cv.refl _, Cv.refl _, Cv.refl _, Cv.refl _, Cv.refl _, Cv.refl _, trivial⟩)) (.cons (.tmp rfl (.d _)) .nil)), ?_⟩
    have hu : fin_ l s = (ix l (ai l s).toNat, true) := by unfold fin_; rw [if_neg (by omega)]
    rw [hu]; rfl
set_option maxHeartbeats 4000000 in
set_option maxRecDepth 100000 in
theorem fiR (l : List Ac) (s : ByteArray) (hl : l.length ≤ 30) (ha : ∀ q, q < l.length → (ix l q).owned.length ≤ 80) : Ctr Tryd.prog 21 [.sl 9 (List.map eAc l), .fl (.string s)] (.tu [.ag (eAc (fin_ l s).1), .fl (.bool (fin_ l s).2)]) := by
  refine ctr (n := 17) (rs := #[.cell 4 67, .tmp 5]) (L := [(0, .d (.sl 9 (List.map eAc l))), (1, .d (.fl (.string s)))]) Tryd.func21 rfl rfl rfl rfl rfl (fun w0 U0 => ?_)
  refine a_rseq ?_
  refine rg_nam (d := 4) (v := .pt 101 0) (m := 101) (nw := [(101, .bx 67 ([.fl (.string (⟨#[]⟩)), .fl (.string (⟨#[]⟩)), .fl (.bool false), .fl (.slice none 0 0), .fl (.int .i64 0), .fl (.int .i64 0), .fl (.int .i64 0), .fl (.int .i64 0), .fl (.bool false)]))]) rfl (og rfl (of_eff (s_alloc 101 rfl ti67 (by kernel_rfl) rfl) rfl)) rfl ?_
  refine rg_put (d := 5) (v := .d (.fl (.bool false))) rfl (og rfl (op_assign rfl rfl rfl)) ?_
  refine rg_done rfl ?_
  refine a_rseq ?_
  have hai := ai_in l s
  refine rg_put (d := 7) (v := .d (.sl 9 (List.map eAc l))) rfl (og rfl (op_move rfl rfl rfl)) ?_
  refine rg_put (d := 8) (v := .d (.fl (.string s))) rfl (og rfl (op_move rfl rfl rfl)) ?_
  refine rg_put (d := 9) (v := .d (.fl (.int .i64 (ai l s)))) rfl (og rfl (op_call rfl Tryd.func39 nm39 rfl (.cons rfl (.d _) (.cons rfl (.d _) .nil)) (ixR l s (by omega)) rfl)) ?_
  refine rg_put (d := 6) (v := .d (.fl (.int .i64 (ai l s)))) rfl (og rfl (op_assign rfl rfl rfl)) ?_
  refine rg_done rfl ?_
  refine a_seq ?_
  refine a_rseq ?_
  refine rg_put (d := 10) (v := .d (.fl (.int .i64 (ai l s)))) rfl (og rfl (op_move rfl rfl rfl)) ?_
  refine rg_put (d := 11) (v := .d (.fl (.bool ((decide ((ai l s) < 0)))))) rfl (og rfl (op_bin rfl rfl rfl (b_lss _ _ _ _) rfl)) ?_
  refine rg_done rfl ?_
  refine a_cond rfl (fun h1 => ?_) (fun h1 => ?_)
  · skip
    have h2 := t_dec h1
    refine a_rseq ?_
    refine rg_put (d := 12) (v := .d (.ag [.fl (.string (⟨#[]⟩)), .fl (.string (⟨#[]⟩)), .fl (.bool false), .fl (.slice none 0 0), .fl (.int .i64 0), .fl (.int .i64 0), .fl (.int .i64 0), .fl (.int .i64 0), .fl (.bool false)])) rfl (og rfl (of_eff (op_build rfl Tryd.underlying67 ti67 rfl (by kernel_rfl) (by kernel_rfl) (pl := #[(0, 1), (1, 1), (2, 1), (3, 1), (4, 4), (8, 1)]) (by kernel_rfl) .nil rfl) rfl)) ?_
    refine rg_sto (nw := [(101, .bx 67 ([.fl (.string (⟨#[]⟩)), .fl (.string (⟨#[]⟩)), .fl (.bool false), .fl (.slice none 0 0), .fl (.int .i64 0), .fl (.int .i64 0), .fl (.int .i64 0), .fl (.int .i64 0), .fl (.bool false)]))]) rfl (og rfl (of_eff (s_store rfl rfl ti67 rfl rfl rfl rfl rfl rfl) rfl)) ?_
    refine rg_put (d := 5) (v := .d (.fl (.bool false))) rfl (og rfl (op_assign rfl rfl rfl)) ?_
    refine rg_done rfl ?_
    refine a_ret ?_
    show ∃ ds, ResL _ _ _ ds ∧ RV.of ds = _
    refine ⟨[.ag [.fl (.string (⟨#[]⟩)), .fl (.string (⟨#[]⟩)), .fl (.bool false), .sl 4 (List.map eOw []), .fl (.int .i64 0), .fl (.int .i64 0), .fl (.int .i64 0), .fl (.int .i64 0), .fl (.bool false)], .fl (.bool false)], (.cons (.cellT rfl rfl Tryd.underlying67 rfl ti67 rfl (Cv.ag (xs := [.fl (.string (⟨#[]⟩)), .fl (.string (⟨#[]⟩)), .fl (.bool false), .fl (.slice none 0 0), .fl (.int .i64 0), .fl (.int .i64 0), .fl (.int .i64 0), .fl (.int .i64 0), .fl (.bool false)]) (ys := [.fl (.string (⟨#[]⟩)), .fl (.string (⟨#[]⟩)), .fl (.bool false), .sl 4 (List.map eOw []), .fl (.int .i64 0), .fl (.int .i64 0), .fl (.int .i64 0), .fl (.int .i64 0), .fl (.bool false)]) ⟨Cv.refl _, Cv.refl _, Cv.refl _, Cv.nil _, Cv.refl _, Cv.refl _, Cv.refl _, Cv.refl _, Cv.refl _, trivial⟩)) (.cons (.tmp rfl (.d _)) .nil)), ?_⟩
    have hu : fin_ l s = (⟨⟨#[]⟩, ⟨#[]⟩, false, [], ⟨0, 0, 0, 0⟩, false⟩, false) := by unfold fin_; rw [if_pos (by omega)]
    rw [hu]; rfl
  · skip
    have h3 := f_dec h1
    refine a_skip ?_
    show A _ _ _ _ _ _ _
    refine a_rseq ?_
    refine rg_put (d := 13) (v := .d (.sl 9 (List.map eAc l))) rfl (og rfl (op_move rfl rfl rfl)) ?_
    refine rg_put (d := 14) (v := .d (.fl (.int .i64 (ai l s)))) rfl (og rfl (op_move rfl rfl rfl)) ?_
    refine rg_put (d := 15) (v := .el ((eAc ((ix l ((ai l s)).toNat))))) rfl (og rfl (s_index rfl Tryd.underlying22 ti67 rfl rfl (by omega) (row_atI (by omega) (by omega)) rfl)) ?_
    refine rg_put (d := 16) (v := .d (.ag (eAc (((ix l ((ai l s)).toNat)))))) rfl (og rfl (of_eff (s_load_els rfl Tryd.underlying67 rfl ti67 rfl rfl rfl) rfl)) ?_
    refine rg_sto (nw := [(101, .bx 67 ((eAc (((ix l ((ai l s)).toNat))))))]) rfl (og rfl (of_eff (s_store rfl rfl ti67 rfl rfl rfl rfl rfl rfl) rfl)) ?_
    refine rg_put (d := 5) (v := .d (.fl (.bool true))) rfl (og rfl (op_assign rfl rfl rfl)) ?_
    refine rg_done rfl ?_
    refine a_ret ?_
    show ∃ ds, ResL _ _ _ ds ∧ RV.of ds = _
    refine ⟨[.ag [.fl (.string ((ix l (ai l s).toNat).name)), .fl (.string ((ix l (ai l s).toNat).agency)), .fl (.bool ((ix l (ai l s).toNat).prepay)), .sl 4 (List.map eOw ((ix l (ai l s).toNat).owned)), .fl (.int .i64 (((ix l (ai l s).toNat).refill).below)), .fl (.int .i64 (((ix l (ai l s).toNat).refill).cents)), .fl (.int .i64 (((ix l (ai l s).toNat).refill).tries)), .fl (.int .i64 (((ix l (ai l s).toNat).refill).wait)), .fl (.bool ((ix l (ai l s).toNat).exempt))], .fl (.bool true)], (.cons (.cellT rfl rfl Tryd.underlying67 rfl ti67 rfl (Cv.ag (xs := [.fl (.string ((ix l (ai l s).toNat).name)), .fl (.string ((ix l (ai l s).toNat).agency)), .fl (.bool ((ix l (ai l s).toNat).prepay)), .sl 4 (List.map eOw ((ix l (ai l s).toNat).owned)), .fl (.int .i64 (((ix l (ai l s).toNat).refill).below)), .fl (.int .i64 (((ix l (ai l s).toNat).refill).cents)), .fl (.int .i64 (((ix l (ai l s).toNat).refill).tries)), .fl (.int .i64 (((ix l (ai l s).toNat).refill).wait)), .fl (.bool ((ix l (ai l s).toNat).exempt))]) (ys := [.fl (.string ((ix l (ai l s).toNat).name)), .fl (.string ((ix l (ai l s).toNat).agency)), .fl (.bool ((ix l (ai l s).toNat).prepay)), .sl 4 (List.map eOw ((ix l (ai l s).toNat).owned)), .fl (.int .i64 (((ix l (ai l s).toNat).refill).below)), .fl (.int .i64 (((ix l (ai l s).toNat).refill).cents)), .fl (.int .i64 (((ix l (ai l s).toNat).refill).tries)), .fl (.int .i64 (((ix l (ai l s).toNat).refill).wait)), .fl (.bool ((ix l (ai l s).toNat).exempt))]) ⟨Cv.refl _, Cv.refl _, Cv.refl _, Cv.refl _, Cv.refl _, Cv.refl _, Cv.refl _, Cv.refl _, Cv.refl _, trivial⟩)) (.cons (.tmp rfl (.d _)) .nil)), ?_⟩
    have hu : fin_ l s = (ix l (ai l s).toNat, true) := by unfold fin_; rw [if_neg (by omega)]
    rw [hu]; rfl
set_option maxHeartbeats 4000000 in
set_option maxRecDepth 100000 in
theorem fiC (n : Int) : Ctr Tryd.prog 31 [.fl (.int .i64 n)] (.d (.fl (.bool (fitB n)))) := by
  refine ctr (n := 9) (rs := #[.tmp 2]) (L := [(0, .d (.fl (.int .i64 n)))]) Tryd.func31 rfl rfl rfl rfl rfl (fun w0 U0 => ?_)
  refine a_rseq ?_
  refine rg_put (d := 2) (v := .d (.fl (.bool false))) rfl (og rfl (op_assign rfl rfl rfl)) ?_
  refine rg_done rfl ?_
  refine a_rseq ?_
  refine rg_put (d := 3) (v := .d (.fl (.int .i64 n))) rfl (og rfl (op_move rfl rfl rfl)) ?_
  refine rg_put (d := 4) (v := .d (.fl (.bool ((decide ((-1125899906842624) ≤ n)))))) rfl (og rfl (op_bin rfl rfl rfl (b_leq _ _ _ _) rfl)) ?_
  refine rg_put (d := 5) (v := .d (.fl (.bool ((decide ((-1125899906842624) ≤ n)))))) rfl (og rfl (op_move rfl rfl rfl)) ?_
  rcases fot ((decide ((-1125899906842624) ≤ n))) with h1 | h1
  · skip
    have h2 := f_dec h1
    refine rg_put (d := 6) (v := .d (.fl undef)) rfl (on rfl rfl rfl h1) ?_
    refine rg_put (d := 7) (v := .d (.fl undef)) rfl (on rfl rfl rfl h1) ?_
    refine rg_put (d := 8) (v := .d (.fl (.bool false))) rfl (og rfl (op_pick rfl rfl (by rw [h1]; rfl) rfl)) ?_
    refine rg_put (d := 2) (v := .d (.fl (.bool false))) rfl (og rfl (op_assign rfl rfl rfl)) ?_
    refine rg_done rfl ?_
    refine a_ret ?_
    show ∃ ds, ResL _ _ _ ds ∧ RV.of ds = _
    refine ⟨[.fl (.bool false)], (.cons (.tmp rfl (.d _)) .nil), ?_⟩
    first
      | (have hu : fitB n = false := by
          unfold fitB; simp only [h1, Bool.true_or, Bool.false_or, Bool.or_true, Bool.or_false, Bool.not_true, Bool.not_false, cond_true, cond_false, Bool.true_and, Bool.false_and, Bool.and_true, Bool.and_false] <;> rfl
         rw [hu]; rfl)
      | (exfalso; omega)
  · skip
    have h3 := t_dec h1
    refine rg_put (d := 6) (v := .d (.fl (.int .i64 n))) rfl (oy rfl rfl rfl h1 (op_move rfl rfl rfl)) ?_
    refine rg_put (d := 7) (v := .d (.fl (.bool ((decide (n ≤ 1125899906842624)))))) rfl (oy rfl rfl rfl h1 (op_bin rfl rfl rfl (b_leq _ _ _ _) rfl)) ?_
    refine rg_put (d := 8) (v := .d (.fl (.bool ((decide (n ≤ 1125899906842624)))))) rfl (og rfl (op_pick rfl rfl (by rw [h1]; rfl) rfl)) ?_
    refine rg_put (d := 2) (v := .d (.fl (.bool ((decide (n ≤ 1125899906842624)))))) rfl (og rfl (op_assign rfl rfl rfl)) ?_
    refine rg_done rfl ?_
    refine a_ret ?_
    show ∃ ds, ResL _ _ _ ds ∧ RV.of ds = _
    refine ⟨[.fl (.bool ((decide (n ≤ 1125899906842624))))], (.cons (.tmp rfl (.d _)) .nil), ?_⟩
    first
      | (have hu : fitB n = (decide (n ≤ 1125899906842624)) := by
          unfold fitB; simp only [h1, Bool.true_or, Bool.false_or, Bool.or_true, Bool.or_false, Bool.not_true, Bool.not_false, cond_true, cond_false, Bool.true_and, Bool.false_and, Bool.and_true, Bool.and_false] <;> rfl
         rw [hu]; rfl)
      | (exfalso; omega)
set_option maxHeartbeats 4000000 in
set_option maxRecDepth 100000 in
theorem fiRf (n : Int) : Ctr Tryd.prog 40 [.fl (.int .i64 n)] (.d (.fl (.bool (fitB n)))) := by
  refine ctr (n := 9) (rs := #[.tmp 2]) (L := [(0, .d (.fl (.int .i64 n)))]) Tryd.func40 rfl rfl rfl rfl rfl (fun w0 U0 => ?_)
  refine a_rseq ?_
  refine rg_put (d := 2) (v := .d (.fl (.bool false))) rfl (og rfl (op_assign rfl rfl rfl)) ?_
  refine rg_done rfl ?_
  refine a_rseq ?_
  refine rg_put (d := 3) (v := .d (.fl (.int .i64 n))) rfl (og rfl (op_move rfl rfl rfl)) ?_
  refine rg_put (d := 4) (v := .d (.fl (.bool ((decide ((-1125899906842624) ≤ n)))))) rfl (og rfl (op_bin rfl rfl rfl (b_geq _ _ _ _) rfl)) ?_
  refine rg_put (d := 5) (v := .d (.fl (.bool ((decide ((-1125899906842624) ≤ n)))))) rfl (og rfl (op_move rfl rfl rfl)) ?_
  rcases fot ((decide ((-1125899906842624) ≤ n))) with h1 | h1
  · skip
    have h2 := f_dec h1
    refine rg_put (d := 6) (v := .d (.fl undef)) rfl (on rfl rfl rfl h1) ?_
    refine rg_put (d := 7) (v := .d (.fl undef)) rfl (on rfl rfl rfl h1) ?_
    refine rg_put (d := 8) (v := .d (.fl (.bool false))) rfl (og rfl (op_pick rfl rfl (by rw [h1]; rfl) rfl)) ?_
    refine rg_put (d := 2) (v := .d (.fl (.bool false))) rfl (og rfl (op_assign rfl rfl rfl)) ?_
    refine rg_done rfl ?_
    refine a_ret ?_
    show ∃ ds, ResL _ _ _ ds ∧ RV.of ds = _
    refine ⟨[.fl (.bool false)], (.cons (.tmp rfl (.d _)) .nil), ?_⟩
    first
      | (have hu : fitB n = false := by
          unfold fitB; simp only [h1, Bool.true_or, Bool.false_or, Bool.or_true, Bool.or_false, Bool.not_true, Bool.not_false, cond_true, cond_false, Bool.true_and, Bool.false_and, Bool.and_true, Bool.and_false] <;> rfl
         rw [hu]; rfl)
      | (exfalso; omega)
  · skip
    have h3 := t_dec h1
    refine rg_put (d := 6) (v := .d (.fl (.int .i64 n))) rfl (oy rfl rfl rfl h1 (op_move rfl rfl rfl)) ?_
    refine rg_put (d := 7) (v := .d (.fl (.bool ((decide (n ≤ 1125899906842624)))))) rfl (oy rfl rfl rfl h1 (op_bin rfl rfl rfl (b_leq _ _ _ _) rfl)) ?_
    refine rg_put (d := 8) (v := .d (.fl (.bool ((decide (n ≤ 1125899906842624)))))) rfl (og rfl (op_pick rfl rfl (by rw [h1]; rfl) rfl)) ?_
    refine rg_put (d := 2) (v := .d (.fl (.bool ((decide (n ≤ 1125899906842624)))))) rfl (og rfl (op_assign rfl rfl rfl)) ?_
    refine rg_done rfl ?_
    refine a_ret ?_
    show ∃ ds, ResL _ _ _ ds ∧ RV.of ds = _
    refine ⟨[.fl (.bool ((decide (n ≤ 1125899906842624))))], (.cons (.tmp rfl (.d _)) .nil), ?_⟩
    first
      | (have hu : fitB n = (decide (n ≤ 1125899906842624)) := by
          unfold fitB; simp only [h1, Bool.true_or, Bool.false_or, Bool.or_true, Bool.or_false, Bool.not_true, Bool.not_false, cond_true, cond_false, Bool.true_and, Bool.false_and, Bool.and_true, Bool.and_false] <;> rfl
         rw [hu]; rfl)
      | (exfalso; omega)
set_option maxHeartbeats 4000000 in
set_option maxRecDepth 100000 in
theorem toP (l : List Int) (hl : l.length ≤ 30) : Ctr Tryd.prog 38 [.sl 1 (List.map (rI .i64) l)] (.tu [.fl (.int .i64 (tot l).1), .fl (.int .i64 (tot l).2)]) := by
  refine ctr (n := 24) (rs := #[.tmp 2, .tmp 3]) (L := [(0, .d (.sl 1 (List.map (rI .i64) l)))]) Tryd.func38 rfl rfl rfl rfl rfl (fun w0 U0 => ?_)
  refine a_rseq ?_
  refine rg_put (d := 2) (v := .d (.fl (.int .i64 0))) rfl (og rfl (op_assign rfl rfl rfl)) ?_
  refine rg_put (d := 3) (v := .d (.fl (.int .i64 0))) rfl (og rfl (op_assign rfl rfl rfl)) ?_
  refine rg_done rfl ?_
  refine a_rseq ?_
  refine rg_put (d := 4) (v := .d (.fl (.int .i64 0))) rfl (og rfl (op_assign rfl rfl rfl)) ?_
  refine rg_done rfl ?_
  refine a_seq ?_
  refine a_rseq ?_
  refine rg_put (d := 7) (v := .d (.sl 1 (List.map (rI .i64) l))) rfl (og rfl (op_move rfl rfl rfl)) ?_
  refine rg_put (d := 8) (v := .d (.fl (.int .i64 (l.length : Int)))) rfl (og rfl (s_len rfl Tryd.underlying45 rfl rfl)) ?_
  refine rg_put (d := 9) (v := .d (.fl (.int .i64 0))) rfl (og rfl (op_move rfl rfl rfl)) ?_
  refine rg_done rfl ?_
  refine a_block ?_
  refine a_loop (ι := Nat) (fun k => SS [(0, .d (.sl 1 (List.map (rI .i64) l))), (7, .d (.sl 1 (List.map (rI .i64) l))), (8, .d (.fl (.int .i64 (l.length : Int)))), (9, .d (.fl (.int .i64 (k : Int)))), (4, .d (.fl (.int .i64 (sI l k))))] []) (fun k => k ≤ l.length ∧ ∀ q, q < k → fitB (ix l q) = true) (fun k => l.length - k) 0 (⟨by omega, fun q h => by omega⟩) (imp_forget rfl ⟨rfl, rfl, rfl, rfl, rfl, trivial⟩ trivial) (fun k hok => ?_)
  obtain ⟨hk, hq⟩ := hok
  have hs9 := sI_in k hq
  refine a_rseq ?_
  refine rg_put (d := 10) (v := .d (.fl (.bool ((decide ((k : Int) < (l.length : Int))))))) rfl (og rfl (op_bin rfl rfl rfl (b_lss _ _ _ _) rfl)) ?_
  refine rg_done rfl ?_
  refine a_seq ?_
  refine a_cond rfl (fun h1 => ?_) (fun h1 => ?_)
  · skip
    have h2 := t_dec h1
    refine a_skip ?_
    show A _ _ _ _ _ _ _
    refine a_seq ?_
    refine a_block ?_
    refine a_rseq ?_
    refine rg_put (d := 11) (v := .el ((rI .i64 (ix l k)))) rfl (og rfl (s_index rfl Tryd.underlying45 ti3 rfl rfl (by omega) (row_at (by omega)) rfl)) ?_
    refine rg_put (d := 12) (v := .d (.fl (.int .i64 (ix l k)))) rfl (og rfl (op_load_el rfl Tryd.underlying3 rfl rfl rfl rfl)) ?_
    refine rg_put (d := 6) (v := .d (.fl (.int .i64 (ix l k)))) rfl (og rfl (op_assign rfl rfl rfl)) ?_
    refine rg_done rfl ?_
    refine a_seq ?_
    refine a_rseq ?_
    refine rg_put (d := 13) (v := .d (.fl (.int .i64 (ix l k)))) rfl (og rfl (op_move rfl rfl rfl)) ?_
    refine rg_put (d := 14) (v := .d (.fl (.bool ((fitB (ix l k)))))) rfl (og rfl (op_call rfl Tryd.func31 nm31 rfl (.cons rfl (.d _) .nil) (fiC (ix l k)) rfl)) ?_
    refine rg_put (d := 15) (v := .d (.fl (.bool ((!((fitB (ix l k)))))))) rfl (og rfl (op_un rfl rfl (u_not _) rfl)) ?_
    refine rg_done rfl ?_
    refine a_cond rfl (fun h3 => ?_) (fun h3 => ?_)
    · skip
      have h4 := t_not h3
      refine a_rseq ?_
      refine rg_put (d := 2) (v := .d (.fl (.int .i64 0))) rfl (og rfl (op_assign rfl rfl rfl)) ?_
      refine rg_put (d := 3) (v := .d (.fl (.int .i64 13))) rfl (og rfl (op_assign rfl rfl rfl)) ?_
      refine rg_done rfl ?_
      refine a_ret ?_
      show ∃ ds, ResL _ _ _ ds ∧ RV.of ds = _
      refine ⟨[.fl (.int .i64 0), .fl (.int .i64 13)], (.cons (.tmp rfl (.d _)) (.cons (.tmp rfl (.d _)) .nil)), ?_⟩
      rw [tot_bad (by omega) h4]; rfl
    · skip
      have h5 := f_not h3
      refine a_skip ?_
      show A _ _ _ _ _ _ _
      refine a_region ?_
      have hft := fit_t h5
      refine rg_put (d := 16) (v := .d (.fl (.int .i64 (sI l k)))) rfl (og rfl (op_move rfl rfl rfl)) ?_
      refine rg_put (d := 17) (v := .d (.fl (.int .i64 (ix l k)))) rfl (og rfl (op_move rfl rfl rfl)) ?_
      refine rg_put (d := 18) (v := .d (.fl (.int .i64 (((sI l k) + (ix l k)))))) rfl (og rfl (op_bin rfl rfl rfl (fun x y w => b_add64 _ _ _ x y w (by omega)) rfl)) ?_
      refine rg_put (d := 4) (v := .d (.fl (.int .i64 (((sI l k) + (ix l k)))))) rfl (og rfl (op_assign rfl rfl rfl)) ?_
      refine rg_done rfl ?_
      show A _ _ _ _ _ _ _
      refine a_region ?_
      refine rg_put (d := 19) (v := .d (.fl (.int .i64 (((k : Int) + 1))))) rfl (og rfl (op_bin rfl rfl rfl (fun x y w => b_add64 _ _ _ x y w (by omega)) rfl)) ?_
      refine rg_put (d := 9) (v := .d (.fl (.int .i64 (((k : Int) + 1))))) rfl (og rfl (op_move rfl rfl rfl)) ?_
      refine rg_done rfl ?_
      have hx : (fitB (ix l k)) = true := h5
      show ∃ i, _ ∧ _ ∧ Imp _ _ _ _ _
      refine ⟨k + 1, ⟨by omega, fun q h => (Nat.lt_succ_iff_lt_or_eq.1 h).elim (hq q) (fun e => by rw [e]; exact hx)⟩, by omega, imp_forget rfl ⟨rfl, rfl, rfl, (ci (by omega)), rfl, trivial⟩ trivial⟩
  · skip
    have h6 := f_dec h1
    refine a_exit ?_
    show A _ _ _ _ _ _ _
    refine a_seq ?_
    refine a_rseq ?_
    rw [show (sI l k) = (sI l l.length) from (by rw [show k = l.length by omega])]
    refine rg_put (d := 20) (v := .d (.fl (.int .i64 (sI l l.length)))) rfl (og rfl (op_move rfl rfl rfl)) ?_
    refine rg_put (d := 21) (v := .d (.fl (.bool ((fitB (sI l l.length)))))) rfl (og rfl (op_call rfl Tryd.func31 nm31 rfl (.cons rfl (.d _) .nil) (fiC (sI l l.length)) rfl)) ?_
    refine rg_put (d := 22) (v := .d (.fl (.bool ((!((fitB (sI l l.length)))))))) rfl (og rfl (op_un rfl rfl (u_not _) rfl)) ?_
    refine rg_done rfl ?_
    refine a_cond rfl (fun h7 => ?_) (fun h7 => ?_)
    · skip
      have h8 := t_not h7
      refine a_rseq ?_
      refine rg_put (d := 2) (v := .d (.fl (.int .i64 0))) rfl (og rfl (op_assign rfl rfl rfl)) ?_
      refine rg_put (d := 3) (v := .d (.fl (.int .i64 13))) rfl (og rfl (op_assign rfl rfl rfl)) ?_
      refine rg_done rfl ?_
      refine a_ret ?_
      show ∃ ds, ResL _ _ _ ds ∧ RV.of ds = _
      refine ⟨[.fl (.int .i64 0), .fl (.int .i64 13)], (.cons (.tmp rfl (.d _)) (.cons (.tmp rfl (.d _)) .nil)), ?_⟩
      rw [tot_end (fun q h => hq q (by omega)), h8]; rfl
    · skip
      have h9 := f_not h7
      refine a_skip ?_
      show A _ _ _ _ _ _ _
      refine a_rseq ?_
      refine rg_put (d := 23) (v := .d (.fl (.int .i64 (sI l l.length)))) rfl (og rfl (op_move rfl rfl rfl)) ?_
      refine rg_put (d := 2) (v := .d (.fl (.int .i64 (sI l l.length)))) rfl (og rfl (op_assign rfl rfl rfl)) ?_
      refine rg_put (d := 3) (v := .d (.fl (.int .i64 0))) rfl (og rfl (op_assign rfl rfl rfl)) ?_
      refine rg_done rfl ?_
      refine a_ret ?_
      show ∃ ds, ResL _ _ _ ds ∧ RV.of ds = _
      refine ⟨[.fl (.int .i64 (sI l l.length)), .fl (.int .i64 0)], (.cons (.tmp rfl (.d _)) (.cons (.tmp rfl (.d _)) .nil)), ?_⟩
      rw [tot_end (fun q h => hq q (by omega)), h9]; rfl
set_option maxHeartbeats 4000000 in
set_option maxRecDepth 100000 in
theorem suP (l : List Int) (hl : l.length ≤ 30) : Ctr Tryd.prog 20 [.sl 1 (List.map (rI .i64) l)] (.tu [.fl (.int .i64 (tot l).1), .fl (.int .i64 (tot l).2)]) := by
  refine ctr (n := 11) (rs := #[.tmp 2, .tmp 3]) (L := [(0, .d (.sl 1 (List.map (rI .i64) l)))]) Tryd.func20 rfl rfl rfl rfl rfl (fun w0 U0 => ?_)
  refine a_rseq ?_
  refine rg_put (d := 2) (v := .d (.fl (.int .i64 0))) rfl (og rfl (op_assign rfl rfl rfl)) ?_
  refine rg_put (d := 3) (v := .d (.fl (.int .i64 0))) rfl (og rfl (op_assign rfl rfl rfl)) ?_
  refine rg_done rfl ?_
  refine a_seq ?_
  refine a_rseq ?_
  refine rg_put (d := 4) (v := .d (.sl 1 (List.map (rI .i64) l))) rfl (og rfl (op_move rfl rfl rfl)) ?_
  refine rg_put (d := 5) (v := .d (.fl (.int .i64 (l.length : Int)))) rfl (og rfl (s_len rfl Tryd.underlying45 rfl rfl)) ?_
  refine rg_put (d := 6) (v := .d (.fl (.bool ((decide (1024 < (l.length : Int))))))) rfl (og rfl (op_bin rfl rfl rfl (b_gtr _ _ _ _) rfl)) ?_
  refine rg_done rfl ?_
  refine a_condF rfl (decide_eq_false (by omega)) ?_
  refine a_skip ?_
  show A _ _ _ _ _ _ _
  refine a_rseq ?_
  refine rg_put (d := 7) (v := .d (.sl 1 (List.map (rI .i64) l))) rfl (og rfl (op_move rfl rfl rfl)) ?_
  refine rg_put (d := 8) (v := .tu [.fl (.int .i64 ((tot l).1)), .fl (.int .i64 ((tot l).2))]) rfl (og rfl (op_call rfl Tryd.func38 nm38 rfl (.cons rfl (.d _) .nil) (toP l hl) rfl)) ?_
  refine rg_put (d := 9) (v := .d (.fl (.int .i64 ((tot l).1)))) rfl (og rfl (op_extract rfl rfl rfl rfl)) ?_
  refine rg_put (d := 10) (v := .d (.fl (.int .i64 ((tot l).2)))) rfl (og rfl (op_extract rfl rfl rfl rfl)) ?_
  refine rg_put (d := 2) (v := .d (.fl (.int .i64 ((tot l).1)))) rfl (og rfl (op_assign rfl rfl rfl)) ?_
  refine rg_put (d := 3) (v := .d (.fl (.int .i64 ((tot l).2)))) rfl (og rfl (op_assign rfl rfl rfl)) ?_
  refine rg_done rfl ?_
  refine a_ret ?_
  show ∃ ds, ResL _ _ _ ds ∧ RV.of ds = _
  refine ⟨[.fl (.int .i64 ((tot l).1)), .fl (.int .i64 ((tot l).2))], (.cons (.tmp rfl (.d _)) (.cons (.tmp rfl (.d _)) .nil)), ?_⟩
  rfl
set_option maxHeartbeats 4000000 in
set_option maxRecDepth 100000 in
theorem suR (l : List Int) (hl : l.length ≤ 30) : Ctr Tryd.prog 23 [.sl 1 (List.map (rI .i64) l)] (.tu [.fl (.int .i64 (tot l).1), .fl (.int .i64 (tot l).2)]) := by
  refine ctr (n := 31) (rs := #[.tmp 2, .tmp 3]) (L := [(0, .d (.sl 1 (List.map (rI .i64) l)))]) Tryd.func23 rfl rfl rfl rfl rfl (fun w0 U0 => ?_)
  refine a_rseq ?_
  refine rg_put (d := 2) (v := .d (.fl (.int .i64 0))) rfl (og rfl (op_assign rfl rfl rfl)) ?_
  refine rg_put (d := 3) (v := .d (.fl (.int .i64 0))) rfl (og rfl (op_assign rfl rfl rfl)) ?_
  refine rg_done rfl ?_
  refine a_seq ?_
  refine a_rseq ?_
  refine rg_put (d := 6) (v := .d (.sl 1 (List.map (rI .i64) l))) rfl (og rfl (op_move rfl rfl rfl)) ?_
  refine rg_put (d := 7) (v := .d (.fl (.int .i64 (l.length : Int)))) rfl (og rfl (s_len rfl Tryd.underlying45 rfl rfl)) ?_
  refine rg_put (d := 8) (v := .d (.fl (.bool ((decide (1024 < (l.length : Int))))))) rfl (og rfl (op_bin rfl rfl rfl (b_gtr _ _ _ _) rfl)) ?_
  refine rg_done rfl ?_
  refine a_condF rfl (decide_eq_false (by omega)) ?_
  refine a_skip ?_
  show A _ _ _ _ _ _ _
  refine a_rseq ?_
  refine rg_put (d := 4) (v := .d (.fl (.int .i64 0))) rfl (og rfl (op_assign rfl rfl rfl)) ?_
  refine rg_done rfl ?_
  refine a_seq ?_
  refine a_rseq ?_
  refine rg_put (d := 5) (v := .d (.fl (.int .i64 0))) rfl (og rfl (op_assign rfl rfl rfl)) ?_
  refine rg_done rfl ?_
  refine a_block ?_
  refine a_loop (ι := Nat) (fun k => SS [(0, .d (.sl 1 (List.map (rI .i64) l))), (8, .d (.fl (.bool ((decide (1024 < (l.length : Int))))))), (5, .d (.fl (.int .i64 (k : Int)))), (4, .d (.fl (.int .i64 (sI l k))))] []) (fun k => k ≤ l.length ∧ ∀ q, q < k → fitB (ix l q) = true) (fun k => l.length - k) 0 (⟨by omega, fun q h => by omega⟩) (imp_forget rfl ⟨rfl, rfl, rfl, rfl, trivial⟩ trivial) (fun k hok => ?_)
  obtain ⟨hk, hq⟩ := hok
  have hs9 := sI_in k hq
  refine a_seq ?_
  refine a_rseq ?_
  refine rg_put (d := 9) (v := .d (.fl (.int .i64 (k : Int)))) rfl (og rfl (op_move rfl rfl rfl)) ?_
  refine rg_put (d := 10) (v := .d (.sl 1 (List.map (rI .i64) l))) rfl (og rfl (op_move rfl rfl rfl)) ?_
  refine rg_put (d := 11) (v := .d (.fl (.int .i64 (l.length : Int)))) rfl (og rfl (s_len rfl Tryd.underlying45 rfl rfl)) ?_
  refine rg_put (d := 12) (v := .d (.fl (.bool ((decide ((k : Int) < (l.length : Int))))))) rfl (og rfl (op_bin rfl rfl rfl (b_lss _ _ _ _) rfl)) ?_
  refine rg_done rfl ?_
  refine a_cond rfl (fun h1 => ?_) (fun h1 => ?_)
  · skip
    have h2 := t_dec h1
    refine a_skip ?_
    show A _ _ _ _ _ _ _
    refine a_seq ?_
    refine a_block ?_
    refine a_seq ?_
    refine a_rseq ?_
    refine rg_put (d := 15) (v := .d (.sl 1 (List.map (rI .i64) l))) rfl (og rfl (op_move rfl rfl rfl)) ?_
    refine rg_put (d := 16) (v := .d (.fl (.int .i64 (k : Int)))) rfl (og rfl (op_move rfl rfl rfl)) ?_
    refine rg_put (d := 17) (v := .el ((rI .i64 (ix l k)))) rfl (og rfl (s_index rfl Tryd.underlying45 ti3 rfl rfl (by omega) (row_at (by omega)) rfl)) ?_
    refine rg_put (d := 18) (v := .d (.fl (.int .i64 (ix l k)))) rfl (og rfl (op_load_el rfl Tryd.underlying3 rfl rfl rfl rfl)) ?_
    refine rg_put (d := 19) (v := .d (.fl (.bool ((fitB (ix l k)))))) rfl (og rfl (op_call rfl Tryd.func40 nm40 rfl (.cons rfl (.d _) .nil) (fiRf (ix l k)) rfl)) ?_
    refine rg_put (d := 20) (v := .d (.fl (.bool ((!((fitB (ix l k)))))))) rfl (og rfl (op_un rfl rfl (u_not _) rfl)) ?_
    refine rg_done rfl ?_
    refine a_cond rfl (fun h3 => ?_) (fun h3 => ?_)
    · skip
      have h4 := t_not h3
      refine a_rseq ?_
      refine rg_put (d := 2) (v := .d (.fl (.int .i64 0))) rfl (og rfl (op_assign rfl rfl rfl)) ?_
      refine rg_put (d := 3) (v := .d (.fl (.int .i64 13))) rfl (og rfl (op_assign rfl rfl rfl)) ?_
      refine rg_done rfl ?_
      refine a_ret ?_
      show ∃ ds, ResL _ _ _ ds ∧ RV.of ds = _
      refine ⟨[.fl (.int .i64 0), .fl (.int .i64 13)], (.cons (.tmp rfl (.d _)) (.cons (.tmp rfl (.d _)) .nil)), ?_⟩
      rw [tot_bad (by omega) h4]; rfl
    · skip
      have h5 := f_not h3
      refine a_skip ?_
      show A _ _ _ _ _ _ _
      refine a_region ?_
      have hft := fit_t h5
      refine rg_put (d := 21) (v := .d (.fl (.int .i64 (sI l k)))) rfl (og rfl (op_move rfl rfl rfl)) ?_
      refine rg_put (d := 22) (v := .d (.sl 1 (List.map (rI .i64) l))) rfl (og rfl (op_move rfl rfl rfl)) ?_
      refine rg_put (d := 23) (v := .d (.fl (.int .i64 (k : Int)))) rfl (og rfl (op_move rfl rfl rfl)) ?_
      refine rg_put (d := 24) (v := .el ((rI .i64 (ix l k)))) rfl (og rfl (s_index rfl Tryd.underlying45 ti3 rfl rfl (by omega) (row_at (by omega)) rfl)) ?_
      refine rg_put (d := 25) (v := .d (.fl (.int .i64 (ix l k)))) rfl (og rfl (op_load_el rfl Tryd.underlying3 rfl rfl rfl rfl)) ?_
      refine rg_put (d := 26) (v := .d (.fl (.int .i64 (((sI l k) + (ix l k)))))) rfl (og rfl (op_bin rfl rfl rfl (fun x y w => b_add64 _ _ _ x y w (by omega)) rfl)) ?_
      refine rg_put (d := 4) (v := .d (.fl (.int .i64 (((sI l k) + (ix l k)))))) rfl (og rfl (op_assign rfl rfl rfl)) ?_
      refine rg_done rfl ?_
      show A _ _ _ _ _ _ _
      refine a_region ?_
      refine rg_put (d := 13) (v := .d (.fl (.int .i64 (k : Int)))) rfl (og rfl (op_move rfl rfl rfl)) ?_
      refine rg_put (d := 14) (v := .d (.fl (.int .i64 (((k : Int) + 1))))) rfl (og rfl (op_bin rfl rfl rfl (fun x y w => b_add64 _ _ _ x y w (by omega)) rfl)) ?_
      refine rg_put (d := 5) (v := .d (.fl (.int .i64 (((k : Int) + 1))))) rfl (og rfl (op_assign rfl rfl rfl)) ?_
      refine rg_done rfl ?_
      have hx : (fitB (ix l k)) = true := h5
      show ∃ i, _ ∧ _ ∧ Imp _ _ _ _ _
      refine ⟨k + 1, ⟨by omega, fun q h => (Nat.lt_succ_iff_lt_or_eq.1 h).elim (hq q) (fun e => by rw [e]; exact hx)⟩, by omega, imp_forget rfl ⟨rfl, rfl, (ci (by omega)), rfl, trivial⟩ trivial⟩
  · skip
    have h6 := f_dec h1
    refine a_exit ?_
    show A _ _ _ _ _ _ _
    refine a_seq ?_
    refine a_rseq ?_
    rw [show (sI l k) = (sI l l.length) from (by rw [show k = l.length by omega])]
    refine rg_put (d := 27) (v := .d (.fl (.int .i64 (sI l l.length)))) rfl (og rfl (op_move rfl rfl rfl)) ?_
    refine rg_put (d := 28) (v := .d (.fl (.bool ((fitB (sI l l.length)))))) rfl (og rfl (op_call rfl Tryd.func40 nm40 rfl (.cons rfl (.d _) .nil) (fiRf (sI l l.length)) rfl)) ?_
    refine rg_put (d := 29) (v := .d (.fl (.bool ((!((fitB (sI l l.length)))))))) rfl (og rfl (op_un rfl rfl (u_not _) rfl)) ?_
    refine rg_done rfl ?_
    refine a_cond rfl (fun h7 => ?_) (fun h7 => ?_)
    · skip
      have h8 := t_not h7
      refine a_rseq ?_
      refine rg_put (d := 2) (v := .d (.fl (.int .i64 0))) rfl (og rfl (op_assign rfl rfl rfl)) ?_
      refine rg_put (d := 3) (v := .d (.fl (.int .i64 13))) rfl (og rfl (op_assign rfl rfl rfl)) ?_
      refine rg_done rfl ?_
      refine a_ret ?_
      show ∃ ds, ResL _ _ _ ds ∧ RV.of ds = _
      refine ⟨[.fl (.int .i64 0), .fl (.int .i64 13)], (.cons (.tmp rfl (.d _)) (.cons (.tmp rfl (.d _)) .nil)), ?_⟩
      rw [tot_end (fun q h => hq q (by omega)), h8]; rfl
    · skip
      have h9 := f_not h7
      refine a_skip ?_
      show A _ _ _ _ _ _ _
      refine a_rseq ?_
      refine rg_put (d := 30) (v := .d (.fl (.int .i64 (sI l l.length)))) rfl (og rfl (op_move rfl rfl rfl)) ?_
      refine rg_put (d := 2) (v := .d (.fl (.int .i64 (sI l l.length)))) rfl (og rfl (op_assign rfl rfl rfl)) ?_
      refine rg_put (d := 3) (v := .d (.fl (.int .i64 0))) rfl (og rfl (op_assign rfl rfl rfl)) ?_
      refine rg_done rfl ?_
      refine a_ret ?_
      show ∃ ds, ResL _ _ _ ds ∧ RV.of ds = _
      refine ⟨[.fl (.int .i64 (sI l l.length)), .fl (.int .i64 0)], (.cons (.tmp rfl (.d _)) (.cons (.tmp rfl (.d _)) .nil)), ?_⟩
      rw [tot_end (fun q h => hq q (by omega)), h9]; rfl
set_option maxHeartbeats 4000000 in
set_option maxRecDepth 100000 in
theorem ofR (c : Cfg) (n : ByteArray) (l : List Chg) (hc : c.c17.length ≤ 8) (ha : ∀ q, q < c.c17.length → (ix c.c17 q).owned.length ≤ 80) (hl : l.length ≤ 30) (hz : ∀ q, q < l.length → (ix l q).lines.length ≤ 8) : Ctr Tryd.prog 11 [.ag (eCfg c), .fl (.string n), .sl 7 (List.map eChg l)] (.d (.sl 7 (List.map eChg (ofl c.c17 n l)))) := by
  refine ctr (n := 47) (rs := #[.tmp 6]) (L := [(0, .d (.ag (eCfg c))), (1, .d (.fl (.string n))), (2, .d (.sl 7 (List.map eChg l)))]) Tryd.func11 rfl rfl rfl rfl rfl (fun w0 U0 => ?_)
  refine a_rseq ?_
  refine rg_nam (d := 3) (v := .pt 101 0) (m := 101) (nw := [(101, .bx 56 (eCfg c))]) rfl (og rfl (of_eff (op_box 101 rfl rfl rfl rfl) rfl)) rfl ?_
  refine rg_put (d := 6) (v := .d (.fl (.slice none 0 0))) rfl (og rfl (op_assign rfl rfl rfl)) ?_
  refine rg_done rfl ?_
  refine a_rseq ?_
  refine rg_put (d := 7) (v := .d (.fl (.slice none 0 0))) rfl (og rfl (op_assign rfl rfl rfl)) ?_
  refine rg_done rfl ?_
  refine a_seq ?_
  refine a_rseq ?_
  refine rg_imp (imp_nilT 7 102 74 7 rfl rfl) ?_
  refine rg_put (d := 8) (v := .d (.fl (.int .i64 0))) rfl (og rfl (op_assign rfl rfl rfl)) ?_
  refine rg_done rfl ?_
  refine a_block ?_
  refine a_loop (ι := Nat) (fun k => SS [(0, .d (.ag (eCfg c))), (1, .d (.fl (.string n))), (2, .d (.sl 7 (List.map eChg l))), (3, .pt 101 0), (6, .d (.fl (.slice none 0 0))), (8, .d (.fl (.int .i64 (k : Int)))), (7, .ow 102)] [(101, .bx 56 (eCfg c)), (102, .tr 74 7 (tD eChg ((ofl c.c17 n (l.take k)))))]) (fun k => k ≤ l.length) (fun k => l.length - k) 0 (by omega) (imp_forget rfl ⟨rfl, rfl, rfl, rfl, rfl, (by first | rfl | exact ci (by omega) | exact ci (by simp) | exact cd (by simp) | simp), (by first | rfl | exact ci (by omega) | exact ci (by simp) | exact cd (by simp) | simp), trivial⟩ ⟨rfl, rfl, trivial⟩) (fun k hok => ?_)
  have hk := hok
  refine a_seq ?_
  refine a_rseq ?_
  refine rg_put (d := 11) (v := .d (.fl (.int .i64 (k : Int)))) rfl (og rfl (op_move rfl rfl rfl)) ?_
  refine rg_put (d := 12) (v := .d (.sl 7 (List.map eChg l))) rfl (og rfl (op_move rfl rfl rfl)) ?_
  refine rg_put (d := 13) (v := .d (.fl (.int .i64 (l.length : Int)))) rfl (og rfl (s_len rfl Tryd.underlying24 rfl rfl)) ?_
  refine rg_put (d := 14) (v := .d (.fl (.bool ((decide ((k : Int) < (l.length : Int))))))) rfl (og rfl (op_bin rfl rfl rfl (b_lss _ _ _ _) rfl)) ?_
  refine rg_done rfl ?_
  refine a_cond rfl (fun h1 => ?_) (fun h1 => ?_)
  · skip
    have h2 := t_dec h1
    refine a_skip ?_
    show A _ _ _ _ _ _ _
    refine a_seq ?_
    refine a_block ?_
    refine a_dseq (by kernel_rfl) ?_
    refine dr_put (d := 18) (v := .pt 101 17) rfl (og rfl (of_eff (s_field_pt rfl Tryd.underlying56 rfl ti22 rfl rfl rfl) rfl)) ?_
    refine dr_put (d := 19) (v := .d (.sl 9 (List.map eAc c.c17))) rfl (og rfl (op_load_pt rfl Tryd.underlying22 rfl rfl rfl rfl rfl)) ?_
    refine dr_put (d := 20) (v := .d (.sl 7 (List.map eChg l))) rfl (og rfl (op_move rfl rfl rfl)) ?_
    refine dr_put (d := 21) (v := .d (.fl (.int .i64 (k : Int)))) rfl (og rfl (op_move rfl rfl rfl)) ?_
    refine dr_put (d := 22) (v := .el ((eChg (ix l k)))) rfl (og rfl (s_index rfl Tryd.underlying24 ti74 rfl rfl (by omega) (row_at (by omega)) rfl)) ?_
    refine dr_put (d := 23) (v := .el ((List.drop 1 ((eChg (ix l k)))))) rfl (og rfl (of_eff (s_field_el rfl Tryd.underlying74 rfl ti9 rfl rfl rfl) rfl)) ?_
    refine dr_put (d := 24) (v := .d (.fl (.string ((ix l k).veh)))) rfl (og rfl (op_load_el rfl Tryd.underlying9 rfl rfl rfl rfl)) ?_
    refine dr_put (d := 25) (v := .d (.sl 7 (List.map eChg l))) rfl (og rfl (op_move rfl rfl rfl)) ?_
    refine dr_put (d := 26) (v := .d (.fl (.int .i64 (k : Int)))) rfl (og rfl (op_move rfl rfl rfl)) ?_
    refine dr_put (d := 27) (v := .el ((eChg (ix l k)))) rfl (og rfl (s_index rfl Tryd.underlying24 ti74 rfl rfl (by omega) (row_at (by omega)) rfl)) ?_
    refine dr_put (d := 28) (v := .el ((List.drop 4 ((eChg (ix l k)))))) rfl (og rfl (of_eff (s_field_el rfl Tryd.underlying74 rfl ti3 rfl rfl rfl) rfl)) ?_
    refine dr_put (d := 29) (v := .d (.fl (.int .i64 ((ix l k).time)))) rfl (og rfl (op_load_el rfl Tryd.underlying3 rfl rfl rfl rfl)) ?_
    refine dr_put (d := 30) (v := .tu [.fl (.string ((own c.c17 ((ix l k).veh) ((ix l k).time)).1)), .fl (.bool ((own c.c17 ((ix l k).veh) ((ix l k).time)).2))]) rfl (og rfl (op_call rfl Tryd.func27 nm27 rfl (.cons rfl (.d _) (.cons rfl (.d _) (.cons rfl (.d _) .nil))) (owR c.c17 ((ix l k).veh) ((ix l k).time) (by omega) ha) rfl)) ?_
    refine dr_put (d := 17) (v := .tu [.fl (.string ((own c.c17 ((ix l k).veh) ((ix l k).time)).1)), .fl (.bool ((own c.c17 ((ix l k).veh) ((ix l k).time)).2))]) rfl (og rfl (op_move rfl rfl rfl)) ?_
    refine dr_put (d := 31) (v := .d (.fl (.string ((own c.c17 ((ix l k).veh) ((ix l k).time)).1)))) rfl (og rfl (op_extract rfl rfl rfl rfl)) ?_
    refine dr_put (d := 32) (v := .d (.fl (.bool ((own c.c17 ((ix l k).veh) ((ix l k).time)).2)))) rfl (og rfl (op_extract rfl rfl rfl rfl)) ?_
    refine dr_put (d := 9) (v := .d (.fl (.string ((own c.c17 ((ix l k).veh) ((ix l k).time)).1)))) rfl (og rfl (op_assign rfl rfl rfl)) ?_
    refine dr_put (d := 10) (v := .d (.fl (.bool ((own c.c17 ((ix l k).veh) ((ix l k).time)).2)))) rfl (og rfl (op_assign rfl rfl rfl)) ?_
    refine dr_done rfl (sepB_of [0, 1, 0, 0, 12, 28, 60, 0, 0, 384, 896, 1920, 4095, 8191, 16383, 16383, 32767, 131071] (by kernel_rfl)) (by kernel_rfl) ?_
    refine a_rseq ?_
    refine rg_put (d := 33) (v := .d (.fl (.bool ((own c.c17 ((ix l k).veh) ((ix l k).time)).2)))) rfl (og rfl (op_move rfl rfl rfl)) ?_
    refine rg_put (d := 34) (v := .d (.fl (.bool ((own c.c17 ((ix l k).veh) ((ix l k).time)).2)))) rfl (og rfl (op_move rfl rfl rfl)) ?_
    rcases fot ((own c.c17 ((ix l k).veh) ((ix l k).time)).2) with h3 | h3
    · skip
      refine rg_put (d := 35) (v := .d (.fl undef)) rfl (on rfl rfl rfl h3) ?_
      refine rg_put (d := 36) (v := .d (.fl undef)) rfl (on rfl rfl rfl h3) ?_
      refine rg_put (d := 37) (v := .d (.fl undef)) rfl (on rfl rfl rfl h3) ?_
      refine rg_put (d := 38) (v := .d (.fl (.bool false))) rfl (og rfl (op_pick rfl rfl (by rw [h3]; rfl) rfl)) ?_
      refine rg_done rfl ?_
      refine a_condF rfl rfl ?_
      refine a_skip ?_
      show A _ _ _ _ _ _ _
      refine a_region ?_
      refine rg_put (d := 15) (v := .d (.fl (.int .i64 (k : Int)))) rfl (og rfl (op_move rfl rfl rfl)) ?_
      refine rg_put (d := 16) (v := .d (.fl (.int .i64 (((k : Int) + 1))))) rfl (og rfl (op_bin rfl rfl rfl (fun x y w => b_add64 _ _ _ x y w (by omega)) rfl)) ?_
      refine rg_put (d := 8) (v := .d (.fl (.int .i64 (((k : Int) + 1))))) rfl (og rfl (op_assign rfl rfl rfl)) ?_
      refine rg_done rfl ?_
      show ∃ i, _ ∧ _ ∧ Imp _ _ _ _ _
      refine ⟨k + 1, (by omega), by omega, imp_forget rfl ⟨rfl, rfl, rfl, rfl, rfl, (by first | rfl | exact ci (by omega) | exact ci (by simp) | exact cd (by simp) | simp), rfl, trivial⟩ ⟨rfl, (congrArg (fun z => Ob.tr 74 7 (tD eChg z)) (ofl_n (by omega) (by unfold isO o2 o1; simp only [h1, h3, Bool.true_or, Bool.false_or, Bool.or_true, Bool.or_false, Bool.not_true, Bool.not_false, cond_true, cond_false, Bool.true_and, Bool.false_and, Bool.and_true, Bool.and_false] <;> rfl))), trivial⟩⟩
    · skip
      refine rg_put (d := 35) (v := .d (.fl (.string ((own c.c17 ((ix l k).veh) ((ix l k).time)).1)))) rfl (oy rfl rfl rfl h3 (op_move rfl rfl rfl)) ?_
      refine rg_put (d := 36) (v := .d (.fl (.string n))) rfl (oy rfl rfl rfl h3 (op_move rfl rfl rfl)) ?_
      refine rg_put (d := 37) (v := .d (.fl (.bool ((sEq ((own c.c17 ((ix l k).veh) ((ix l k).time)).1) n))))) rfl (oy rfl rfl rfl h3 (op_bin rfl rfl rfl (b_seq _ _ _) rfl)) ?_
      refine rg_put (d := 38) (v := .d (.fl (.bool ((sEq ((own c.c17 ((ix l k).veh) ((ix l k).time)).1) n))))) rfl (og rfl (op_pick rfl rfl (by rw [h3]; rfl) rfl)) ?_
      refine rg_done rfl ?_
      refine a_cond rfl (fun h4 => ?_) (fun h4 => ?_)
      · skip
        refine a_region ?_
        refine rg_put (d := 39) (v := .ow 102) rfl (og rfl (op_move rfl rfl rfl)) ?_
        refine rg_put (d := 40) (v := .d (.sl 7 (List.map eChg l))) rfl (og rfl (op_move rfl rfl rfl)) ?_
        refine rg_put (d := 41) (v := .d (.fl (.int .i64 (k : Int)))) rfl (og rfl (op_move rfl rfl rfl)) ?_
        refine rg_put (d := 42) (v := .el ((eChg (ix l k)))) rfl (og rfl (s_index rfl Tryd.underlying24 ti74 rfl rfl (by omega) (row_at (by omega)) rfl)) ?_
        refine rg_put (d := 43) (v := .d (.ag (eChg (ix l k)))) rfl (og rfl (of_eff (s_load_els rfl Tryd.underlying74 rfl ti74 rfl rfl rfl) rfl)) ?_
        refine rg_put (d := 44) (v := .d (.sl 7 (List.map eChg [(ix l k)]))) rfl (og rfl (of_eff (op_slices rfl Tryd.underlying24 ti74 rfl rfl rfl (by kernel_rfl) (xs := [.ag (eChg (ix l k))]) rfl rfl (.cons rfl rfl (.d _) rfl rfl rfl .nil) rfl) rfl)) ?_
        refine rg_nam (d := 45) (v := .ow 103) (m := 103) (nw := [(103, .tr 74 7 (tD eChg (((ofl c.c17 n (l.take k)) ++ [(ix l k)])))), (102, .no)]) rfl (og rfl (of_eff (s_append_td 103 rfl Tryd.underlying24 ti74 rfl rfl rfl rfl rfl (.d _) (by simp only [List.length_append, List.length_cons, List.length_nil]; have := ofl_tk c.c17 n l k; omega) rfl) rfl)) rfl ?_
        refine rg_put (d := 7) (v := .ow 103) rfl (og rfl (op_assign rfl rfl rfl)) ?_
        refine rg_done rfl ?_
        show A _ _ _ _ _ _ _
        refine a_region ?_
        refine rg_put (d := 15) (v := .d (.fl (.int .i64 (k : Int)))) rfl (og rfl (op_move rfl rfl rfl)) ?_
        refine rg_put (d := 16) (v := .d (.fl (.int .i64 (((k : Int) + 1))))) rfl (og rfl (op_bin rfl rfl rfl (fun x y w => b_add64 _ _ _ x y w (by omega)) rfl)) ?_
        refine rg_put (d := 8) (v := .d (.fl (.int .i64 (((k : Int) + 1))))) rfl (og rfl (op_assign rfl rfl rfl)) ?_
        refine rg_done rfl ?_
        show ∃ i, _ ∧ _ ∧ Imp _ _ _ _ _
        refine ⟨k + 1, (by omega), by omega, imp_ren (fun m => bif Nat.beq m 102 then 103 else m) rfl ⟨rfl, rfl, rfl, rfl, rfl, (by first | rfl | exact ci (by omega) | exact ci (by simp) | exact cd (by simp) | simp), rfl, trivial⟩ ⟨rfl, (congrArg (fun z => Ob.tr 74 7 (tD eChg z)) (ofl_y (by omega) (by unfold isO o2 o1; simp only [h1, h3, h4, Bool.true_or, Bool.false_or, Bool.or_true, Bool.or_false, Bool.not_true, Bool.not_false, cond_true, cond_false, Bool.true_and, Bool.false_and, Bool.and_true, Bool.and_false] <;> rfl))), trivial⟩⟩
      · skip
        refine a_skip ?_
        show A _ _ _ _ _ _ _
        refine a_region ?_
        refine rg_put (d := 15) (v := .d (.fl (.int .i64 (k : Int)))) rfl (og rfl (op_move rfl rfl rfl)) ?_
        refine rg_put (d := 16) (v := .d (.fl (.int .i64 (((k : Int) + 1))))) rfl (og rfl (op_bin rfl rfl rfl (fun x y w => b_add64 _ _ _ x y w (by omega)) rfl)) ?_
        refine rg_put (d := 8) (v := .d (.fl (.int .i64 (((k : Int) + 1))))) rfl (og rfl (op_assign rfl rfl rfl)) ?_
        refine rg_done rfl ?_
        show ∃ i, _ ∧ _ ∧ Imp _ _ _ _ _
        refine ⟨k + 1, (by omega), by omega, imp_forget rfl ⟨rfl, rfl, rfl, rfl, rfl, (by first | rfl | exact ci (by omega) | exact ci (by simp) | exact cd (by simp) | simp), rfl, trivial⟩ ⟨rfl, (congrArg (fun z => Ob.tr 74 7 (tD eChg z)) (ofl_n (by omega) (by unfold isO o2 o1; simp only [h1, h3, h4, Bool.true_or, Bool.false_or, Bool.or_true, Bool.or_false, Bool.not_true, Bool.not_false, cond_true, cond_false, Bool.true_and, Bool.false_and, Bool.and_true, Bool.and_false] <;> rfl))), trivial⟩⟩
  · skip
    have h5 := f_dec h1
    refine a_exit ?_
    show A _ _ _ _ _ _ _
    refine a_rseq ?_
    rw [show (ofl c.c17 n (l.take k)) = (ofl c.c17 n l) from by rw [show k = l.length by omega, List.take_length]]
    refine rg_put (d := 46) (v := .ow 102) rfl (og rfl (op_move rfl rfl rfl)) ?_
    refine rg_put (d := 6) (v := .ow 102) rfl (og rfl (op_assign rfl rfl rfl)) ?_
    refine rg_done rfl ?_
    refine a_imp (imp_leakT 6 102 rfl rfl) ?_
    refine a_ret ?_
    show ∃ ds, ResL _ _ _ ds ∧ RV.of ds = _
    refine ⟨[.sl 7 (List.map eChg (ofl c.c17 n l))], (.cons (.tmp rfl (.d _)) .nil), ?_⟩
    rfl
set_option maxHeartbeats 4000000 in
set_option maxRecDepth 100000 in
theorem ttP (c : Cfg) (n : ByteArray) (l : List Chg) (i : Iv) (hc : c.c17.length ≤ 8) (ha : ∀ q, q < c.c17.length → (ix c.c17 q).owned.length ≤ 80) (hl : l.length ≤ 30) (hz : ∀ q, q < l.length → (ix l q).lines.length ≤ 8) : Ctr Tryd.prog 6 [.ag (eCfg c), .fl (.string n), .sl 7 (List.map eChg l), .ag (eIv i)] (.tu [.fl (.int .i64 (tt c.c17 n l i).1), .fl (.int .i64 (tt c.c17 n l i).2)]) := by
  refine ctr (n := 51) (rs := #[.tmp 8, .tmp 9]) (L := [(0, .d (.ag (eCfg c))), (1, .d (.fl (.string n))), (2, .d (.sl 7 (List.map eChg l))), (3, .d (.ag (eIv i)))]) Tryd.func6 rfl rfl rfl rfl rfl (fun w0 U0 => ?_)
  refine a_rseq ?_
  refine rg_nam (d := 4) (v := .pt 101 0) (m := 101) (nw := [(101, .bx 56 (eCfg c))]) rfl (og rfl (of_eff (op_box 101 rfl rfl rfl rfl) rfl)) rfl ?_
  refine rg_nam (d := 7) (v := .pt 102 0) (m := 102) (nw := [(102, .bx 28 (eIv i))]) rfl (og rfl (of_eff (op_box 102 rfl rfl rfl rfl) rfl)) rfl ?_
  refine rg_put (d := 8) (v := .d (.fl (.int .i64 0))) rfl (og rfl (op_assign rfl rfl rfl)) ?_
  refine rg_put (d := 9) (v := .d (.fl (.int .i64 0))) rfl (og rfl (op_assign rfl rfl rfl)) ?_
  refine rg_done rfl ?_
  refine a_seq ?_
  refine a_rseq ?_
  refine rg_put (d := 16) (v := .pt 101 17) rfl (og rfl (of_eff (s_field_pt rfl Tryd.underlying56 rfl ti22 rfl rfl rfl) rfl)) ?_
  refine rg_put (d := 17) (v := .d (.sl 9 (List.map eAc c.c17))) rfl (og rfl (op_load_pt rfl Tryd.underlying22 rfl rfl rfl rfl rfl)) ?_
  refine rg_put (d := 18) (v := .d (.fl (.string n))) rfl (og rfl (op_move rfl rfl rfl)) ?_
  refine rg_put (d := 19) (v := .tu [.ag (eAc ((fin_ c.c17 n).1)), .fl (.bool ((fin_ c.c17 n).2))]) rfl (og rfl (op_call rfl Tryd.func17 nm17 rfl (.cons rfl (.d _) (.cons rfl (.d _) .nil)) (fiP c.c17 n (by omega) ha) rfl)) ?_
  refine rg_put (d := 15) (v := .tu [.ag (eAc ((fin_ c.c17 n).1)), .fl (.bool ((fin_ c.c17 n).2))]) rfl (og rfl (op_move rfl rfl rfl)) ?_
  refine rg_put (d := 20) (v := .d (.ag (eAc ((fin_ c.c17 n).1)))) rfl (og rfl (op_extract rfl rfl rfl rfl)) ?_
  refine rg_put (d := 21) (v := .d (.fl (.bool ((fin_ c.c17 n).2)))) rfl (og rfl (op_extract rfl rfl rfl rfl)) ?_
  refine rg_nam (d := 10) (v := .pt 103 0) (m := 103) (nw := [(103, .bx 67 ([.fl (.string (⟨#[]⟩)), .fl (.string (⟨#[]⟩)), .fl (.bool false), .fl (.slice none 0 0), .fl (.int .i64 0), .fl (.int .i64 0), .fl (.int .i64 0), .fl (.int .i64 0), .fl (.bool false)]))]) rfl (og rfl (of_eff (s_alloc 103 rfl ti67 (by kernel_rfl) rfl) rfl)) rfl ?_
  refine rg_sto (nw := [(103, .bx 67 ((eAc ((fin_ c.c17 n).1))))]) rfl (og rfl (of_eff (s_store rfl rfl ti67 rfl rfl rfl rfl rfl rfl) rfl)) ?_
  refine rg_put (d := 11) (v := .d (.fl (.bool ((fin_ c.c17 n).2)))) rfl (og rfl (op_assign rfl rfl rfl)) ?_
  refine rg_done rfl ?_
  refine a_rseq ?_
  refine rg_put (d := 22) (v := .d (.fl (.bool ((fin_ c.c17 n).2)))) rfl (og rfl (op_move rfl rfl rfl)) ?_
  refine rg_put (d := 23) (v := .d (.fl (.bool ((!((fin_ c.c17 n).2)))))) rfl (og rfl (op_un rfl rfl (u_not _) rfl)) ?_
  refine rg_done rfl ?_
  refine a_cond rfl (fun h1 => ?_) (fun h1 => ?_)
  · skip
    have h2 := t_not h1
    refine a_rseq ?_
    refine rg_put (d := 8) (v := .d (.fl (.int .i64 0))) rfl (og rfl (op_assign rfl rfl rfl)) ?_
    refine rg_put (d := 9) (v := .d (.fl (.int .i64 25))) rfl (og rfl (op_assign rfl rfl rfl)) ?_
    refine rg_done rfl ?_
    refine a_ret ?_
    show ∃ ds, ResL _ _ _ ds ∧ RV.of ds = _
    refine ⟨[.fl (.int .i64 0), .fl (.int .i64 25)], (.cons (.tmp rfl (.d _)) (.cons (.tmp rfl (.d _)) .nil)), ?_⟩
    rw [show tt c.c17 n l i = (0, 25) from by unfold tt; simp only [h1, h2, Bool.true_or, Bool.false_or, Bool.or_true, Bool.or_false, Bool.not_true, Bool.not_false, cond_true, cond_false, Bool.true_and, Bool.false_and, Bool.and_true, Bool.and_false] <;> rfl]; rfl
  · skip
    have h3 := f_not h1
    refine a_skip ?_
    show A _ _ _ _ _ _ _
    refine a_seq ?_
    refine a_rseq ?_
    refine rg_put (d := 24) (v := .d (.ag (eIv i))) rfl (og rfl (of_eff (s_load_pts rfl Tryd.underlying28 rfl ti28 rfl rfl rfl rfl) rfl)) ?_
    refine rg_put (d := 25) (v := .d (.fl (.bool (vI i)))) rfl (og rfl (op_call rfl Tryd.func18 nm18 rfl (.cons rfl (.d _) .nil) (vIV i) rfl)) ?_
    refine rg_put (d := 26) (v := .d (.fl (.bool ((!(vI i)))))) rfl (og rfl (op_un rfl rfl (u_not _) rfl)) ?_
    refine rg_done rfl ?_
    refine a_cond rfl (fun h4 => ?_) (fun h4 => ?_)
    · skip
      have h5 := t_not h4
      refine a_rseq ?_
      refine rg_put (d := 8) (v := .d (.fl (.int .i64 0))) rfl (og rfl (op_assign rfl rfl rfl)) ?_
      refine rg_put (d := 9) (v := .d (.fl (.int .i64 12))) rfl (og rfl (op_assign rfl rfl rfl)) ?_
      refine rg_done rfl ?_
      refine a_ret ?_
      show ∃ ds, ResL _ _ _ ds ∧ RV.of ds = _
      refine ⟨[.fl (.int .i64 0), .fl (.int .i64 12)], (.cons (.tmp rfl (.d _)) (.cons (.tmp rfl (.d _)) .nil)), ?_⟩
      rw [show tt c.c17 n l i = (0, 12) from by unfold tt; simp only [h1, h3, h4, h5, Bool.true_or, Bool.false_or, Bool.or_true, Bool.or_false, Bool.not_true, Bool.not_false, cond_true, cond_false, Bool.true_and, Bool.false_and, Bool.and_true, Bool.and_false] <;> rfl]; rfl
    · skip
      have h6 := f_not h4
      refine a_skip ?_
      show A _ _ _ _ _ _ _
      refine a_rseq ?_
      refine rg_put (d := 12) (v := .d (.fl (.slice none 0 0))) rfl (og rfl (op_assign rfl rfl rfl)) ?_
      refine rg_done rfl ?_
      refine a_seq ?_
      refine a_rseq ?_
      refine rg_imp (imp_nilT 12 104 3 1 rfl rfl) ?_
      have hol := ofl_len c.c17 n l
      refine rg_put (d := 27) (v := .d (.ag (eCfg c))) rfl (og rfl (of_eff (s_load_pts rfl Tryd.underlying56 rfl ti56 rfl rfl rfl rfl) rfl)) ?_
      refine rg_put (d := 28) (v := .d (.fl (.string n))) rfl (og rfl (op_move rfl rfl rfl)) ?_
      refine rg_put (d := 29) (v := .d (.sl 7 (List.map eChg l))) rfl (og rfl (op_move rfl rfl rfl)) ?_
      refine rg_put (d := 30) (v := .d (.sl 7 (List.map eChg (ofl c.c17 n l)))) rfl (og rfl (op_call rfl Tryd.func10 nm10 rfl (.cons rfl (.d _) (.cons rfl (.d _) (.cons rfl (.d _) .nil))) (of15 c n l hc ha hl hz) rfl)) ?_
      refine rg_put (d := 31) (v := .d (.fl (.int .i64 (((ofl c.c17 n l).length : Int))))) rfl (og rfl (s_len rfl Tryd.underlying24 rfl rfl)) ?_
      refine rg_put (d := 32) (v := .d (.fl (.int .i64 0))) rfl (og rfl (op_move rfl rfl rfl)) ?_
      refine rg_done rfl ?_
      refine a_block ?_
      refine a_loop (ι := Nat) (fun k => SS [(0, .d (.ag (eCfg c))), (1, .d (.fl (.string n))), (2, .d (.sl 7 (List.map eChg l))), (3, .d (.ag (eIv i))), (4, .pt 101 0), (7, .pt 102 0), (8, .d (.fl (.int .i64 0))), (9, .d (.fl (.int .i64 0))), (11, .d (.fl (.bool ((fin_ c.c17 n).2)))), (23, .d (.fl (.bool ((!((fin_ c.c17 n).2)))))), (26, .d (.fl (.bool ((!(vI i)))))), (30, .d (.sl 7 (List.map eChg (ofl c.c17 n l)))), (31, .d (.fl (.int .i64 (((ofl c.c17 n l).length : Int))))), (32, .d (.fl (.int .i64 (k : Int)))), (12, .ow 104)] [(101, .bx 56 (eCfg c)), (102, .bx 28 (eIv i)), (104, .tr 3 1 (tD (rI .i64) ((ctl i (ofl c.c17 n l) k))))]) (fun k => k ≤ (ofl c.c17 n l).length) (fun k => (ofl c.c17 n l).length - k) 0 (by omega) (imp_forget rfl ⟨rfl, rfl, rfl, rfl, rfl, rfl, rfl, rfl, rfl, rfl, rfl, rfl, rfl, (by first | rfl | exact ci (by omega) | exact ci (by simp) | exact cd (by simp) | simp), (by first | rfl | exact ci (by omega) | exact ci (by simp) | exact cd (by simp) | simp), trivial⟩ ⟨rfl, rfl, rfl, trivial⟩) (fun k hok => ?_)
      have hk := hok
      have hcl := ctl_len i (ofl c.c17 n l) k
      refine a_rseq ?_
      refine rg_put (d := 33) (v := .d (.fl (.bool ((decide ((k : Int) < ((ofl c.c17 n l).length : Int))))))) rfl (og rfl (op_bin rfl rfl rfl (b_lss _ _ _ _) rfl)) ?_
      refine rg_done rfl ?_
      refine a_seq ?_
      refine a_cond rfl (fun h7 => ?_) (fun h7 => ?_)
      · skip
        have h8 := t_dec h7
        refine a_skip ?_
        show A _ _ _ _ _ _ _
        refine a_seq ?_
        refine a_block ?_
        refine a_rseq ?_
        refine rg_put (d := 34) (v := .el ((eChg ((ix (ofl c.c17 n l) k))))) rfl (og rfl (s_index rfl Tryd.underlying24 ti74 rfl rfl (by omega) (row_at (by omega)) rfl)) ?_
        refine rg_put (d := 35) (v := .d (.ag (eChg (((ix (ofl c.c17 n l) k)))))) rfl (og rfl (of_eff (s_load_els rfl Tryd.underlying74 rfl ti74 rfl rfl rfl) rfl)) ?_
        refine rg_nam (d := 14) (v := .pt 105 0) (m := 105) (nw := [(105, .bx 74 ([.fl (.string (⟨#[]⟩)), .fl (.string (⟨#[]⟩)), .fl (.string (⟨#[]⟩)), .fl (.int .i64 0), .fl (.int .i64 0), .fl (.slice none 0 0), .fl (.int .i64 0)]))]) rfl (og rfl (of_eff (s_alloc 105 rfl ti74 (by kernel_rfl) rfl) rfl)) rfl ?_
        refine rg_sto (nw := [(105, .bx 74 ((eChg (((ix (ofl c.c17 n l) k))))))]) rfl (og rfl (of_eff (s_store rfl rfl ti74 rfl rfl rfl rfl rfl rfl) rfl)) ?_
        refine rg_done rfl ?_
        refine a_rseq ?_
        refine rg_put (d := 36) (v := .d (.ag (eIv i))) rfl (og rfl (of_eff (s_load_pts rfl Tryd.underlying28 rfl ti28 rfl rfl rfl rfl) rfl)) ?_
        refine rg_put (d := 37) (v := .d (.sl 2 (List.map eIv [i]))) rfl (og rfl (of_eff (op_slices rfl Tryd.underlying94 ti28 rfl rfl rfl (by kernel_rfl) (xs := [.ag (eIv i)]) rfl rfl (.cons rfl rfl (.d _) rfl rfl rfl .nil) rfl) rfl)) ?_
        refine rg_put (d := 38) (v := .pt 105 4) rfl (og rfl (of_eff (s_field_pt rfl Tryd.underlying74 rfl ti3 rfl rfl rfl) rfl)) ?_
        refine rg_put (d := 39) (v := .d (.fl (.int .i64 ((((ix (ofl c.c17 n l) k))).time)))) rfl (og rfl (op_load_pt rfl Tryd.underlying3 rfl rfl rfl rfl rfl)) ?_
        refine rg_put (d := 40) (v := .d (.fl (.bool ((hasI i ((((ix (ofl c.c17 n l) k))).time)))))) rfl (og rfl (op_call rfl Tryd.func19 nm19 rfl (.cons rfl (.d _) (.cons rfl (.d _) .nil)) (hasO i ((((ix (ofl c.c17 n l) k))).time)) rfl)) ?_
        refine rg_done rfl ?_
        refine a_cond rfl (fun h9 => ?_) (fun h9 => ?_)
        · skip
          refine a_region ?_
          refine rg_put (d := 41) (v := .ow 104) rfl (og rfl (op_move rfl rfl rfl)) ?_
          refine rg_put (d := 42) (v := .pt 105 6) rfl (og rfl (of_eff (s_field_pt rfl Tryd.underlying74 rfl ti3 rfl rfl rfl) rfl)) ?_
          refine rg_put (d := 43) (v := .d (.fl (.int .i64 ((((ix (ofl c.c17 n l) k))).cents)))) rfl (og rfl (op_load_pt rfl Tryd.underlying3 rfl rfl rfl rfl rfl)) ?_
          refine rg_put (d := 44) (v := .d (.sl 1 (List.map (rI .i64) [(((ix (ofl c.c17 n l) k))).cents]))) rfl (og rfl (of_eff (op_slices rfl Tryd.underlying45 ti3 rfl rfl rfl (by kernel_rfl) (xs := [.fl (.int .i64 ((((ix (ofl c.c17 n l) k))).cents))]) rfl rfl (.cons rfl rfl (.d _) rfl rfl rfl .nil) rfl) rfl)) ?_
          refine rg_nam (d := 45) (v := .ow 106) (m := 106) (nw := [(106, .tr 3 1 (tD (rI .i64) (((ctl i (ofl c.c17 n l) k) ++ [(((ix (ofl c.c17 n l) k))).cents])))), (104, .no)]) rfl (og rfl (of_eff (s_append_td 106 rfl Tryd.underlying45 ti3 rfl rfl rfl rfl rfl (.d _) (by simp only [List.length_append, List.length_cons, List.length_nil]; omega) rfl) rfl)) rfl ?_
          refine rg_put (d := 12) (v := .ow 106) rfl (og rfl (op_assign rfl rfl rfl)) ?_
          refine rg_done rfl ?_
          show A _ _ _ _ _ _ _
          refine a_region ?_
          refine rg_put (d := 46) (v := .d (.fl (.int .i64 (((k : Int) + 1))))) rfl (og rfl (op_bin rfl rfl rfl (fun x y w => b_add64 _ _ _ x y w (by omega)) rfl)) ?_
          refine rg_put (d := 32) (v := .d (.fl (.int .i64 (((k : Int) + 1))))) rfl (og rfl (op_move rfl rfl rfl)) ?_
          refine rg_done rfl ?_
          have hhi : hasI i (ix (ofl c.c17 n l) k).time = true := h9
          have hst : _ = ctl i (ofl c.c17 n l) (k + 1) := ctl_y (by omega) hhi
          show ∃ i, _ ∧ _ ∧ Imp _ _ _ _ _
          refine ⟨k + 1, (by omega), by omega, imp_ren (fun m => bif Nat.beq m 104 then 106 else m) rfl ⟨rfl, rfl, rfl, rfl, rfl, rfl, rfl, rfl, rfl, rfl, rfl, rfl, rfl, (by first | rfl | exact ci (by omega) | exact ci (by simp) | exact cd (by simp) | simp), rfl, trivial⟩ ⟨rfl, rfl, (congrArg (fun z => Ob.tr 3 1 (tD (rI .i64) z)) hst), trivial⟩⟩
        · skip
          refine a_skip ?_
          show A _ _ _ _ _ _ _
          refine a_region ?_
          refine rg_put (d := 46) (v := .d (.fl (.int .i64 (((k : Int) + 1))))) rfl (og rfl (op_bin rfl rfl rfl (fun x y w => b_add64 _ _ _ x y w (by omega)) rfl)) ?_
          refine rg_put (d := 32) (v := .d (.fl (.int .i64 (((k : Int) + 1))))) rfl (og rfl (op_move rfl rfl rfl)) ?_
          refine rg_done rfl ?_
          have hhi : hasI i (ix (ofl c.c17 n l) k).time = false := h9
          have hst : _ = ctl i (ofl c.c17 n l) (k + 1) := ctl_n (by omega) hhi
          show ∃ i, _ ∧ _ ∧ Imp _ _ _ _ _
          refine ⟨k + 1, (by omega), by omega, imp_forget rfl ⟨rfl, rfl, rfl, rfl, rfl, rfl, rfl, rfl, rfl, rfl, rfl, rfl, rfl, (by first | rfl | exact ci (by omega) | exact ci (by simp) | exact cd (by simp) | simp), rfl, trivial⟩ ⟨rfl, rfl, (congrArg (fun z => Ob.tr 3 1 (tD (rI .i64) z)) hst), trivial⟩⟩
      · skip
        have h10 := f_dec h7
        refine a_exit ?_
        show A _ _ _ _ _ _ _
        refine a_rseq ?_
        rw [show (ctl i (ofl c.c17 n l) k) = (ctl i (ofl c.c17 n l) (ofl c.c17 n l).length) from (by rw [show k = (ofl c.c17 n l).length by omega])]
        have hcl2 := ctl_len i (ofl c.c17 n l) (ofl c.c17 n l).length
        refine rg_put (d := 47) (v := .ow 104) rfl (og rfl (op_move rfl rfl rfl)) ?_
        refine rg_imp (imp_leakT 47 104 rfl rfl) ?_
        refine rg_put (d := 48) (v := .tu [.fl (.int .i64 ((tot ((ctl i (ofl c.c17 n l) (ofl c.c17 n l).length))).1)), .fl (.int .i64 ((tot ((ctl i (ofl c.c17 n l) (ofl c.c17 n l).length))).2))]) rfl (og rfl (op_call rfl Tryd.func20 nm20 rfl (.cons rfl (.d _) .nil) (suP ((ctl i (ofl c.c17 n l) (ofl c.c17 n l).length)) (by omega)) rfl)) ?_
        refine rg_put (d := 49) (v := .d (.fl (.int .i64 ((tot ((ctl i (ofl c.c17 n l) (ofl c.c17 n l).length))).1)))) rfl (og rfl (op_extract rfl rfl rfl rfl)) ?_
        refine rg_put (d := 50) (v := .d (.fl (.int .i64 ((tot ((ctl i (ofl c.c17 n l) (ofl c.c17 n l).length))).2)))) rfl (og rfl (op_extract rfl rfl rfl rfl)) ?_
        refine rg_put (d := 8) (v := .d (.fl (.int .i64 ((tot ((ctl i (ofl c.c17 n l) (ofl c.c17 n l).length))).1)))) rfl (og rfl (op_assign rfl rfl rfl)) ?_
        refine rg_put (d := 9) (v := .d (.fl (.int .i64 ((tot ((ctl i (ofl c.c17 n l) (ofl c.c17 n l).length))).2)))) rfl (og rfl (op_assign rfl rfl rfl)) ?_
        refine rg_done rfl ?_
        refine a_ret ?_
        show ∃ ds, ResL _ _ _ ds ∧ RV.of ds = _
        refine ⟨[.fl (.int .i64 ((tot ((ctl i (ofl c.c17 n l) (ofl c.c17 n l).length))).1)), .fl (.int .i64 ((tot ((ctl i (ofl c.c17 n l) (ofl c.c17 n l).length))).2))], (.cons (.tmp rfl (.d _)) (.cons (.tmp rfl (.d _)) .nil)), ?_⟩
        rw [show tt c.c17 n l i = tot (ctl i (ofl c.c17 n l) (ofl c.c17 n l).length) from by unfold tt; simp only [h1, h3, h4, h6, h7, Bool.true_or, Bool.false_or, Bool.or_true, Bool.or_false, Bool.not_true, Bool.not_false, cond_true, cond_false, Bool.true_and, Bool.false_and, Bool.and_true, Bool.and_false] <;> rfl]; rfl
set_option maxHeartbeats 4000000 in
set_option maxRecDepth 100000 in
theorem ttR (c : Cfg) (n : ByteArray) (l : List Chg) (i : Iv) (hc : c.c17.length ≤ 8) (ha : ∀ q, q < c.c17.length → (ix c.c17 q).owned.length ≤ 80) (hl : l.length ≤ 30) (hz : ∀ q, q < l.length → (ix l q).lines.length ≤ 8) : Ctr Tryd.prog 8 [.ag (eCfg c), .fl (.string n), .sl 7 (List.map eChg l), .ag (eIv i)] (.tu [.fl (.int .i64 (tt c.c17 n l i).1), .fl (.int .i64 (tt c.c17 n l i).2)]) := by
  refine ctr (n := 67) (rs := #[.tmp 8, .tmp 9]) (L := [(0, .d (.ag (eCfg c))), (1, .d (.fl (.string n))), (2, .d (.sl 7 (List.map eChg l))), (3, .d (.ag (eIv i)))]) Tryd.func8 rfl rfl rfl rfl rfl (fun w0 U0 => ?_)
  refine a_rseq ?_
  refine rg_nam (d := 4) (v := .pt 101 0) (m := 101) (nw := [(101, .bx 56 (eCfg c))]) rfl (og rfl (of_eff (op_box 101 rfl rfl rfl rfl) rfl)) rfl ?_
  refine rg_nam (d := 7) (v := .pt 102 0) (m := 102) (nw := [(102, .bx 28 (eIv i))]) rfl (og rfl (of_eff (op_box 102 rfl rfl rfl rfl) rfl)) rfl ?_
  refine rg_put (d := 8) (v := .d (.fl (.int .i64 0))) rfl (og rfl (op_assign rfl rfl rfl)) ?_
  refine rg_put (d := 9) (v := .d (.fl (.int .i64 0))) rfl (og rfl (op_assign rfl rfl rfl)) ?_
  refine rg_done rfl ?_
  refine a_rseq ?_
  refine rg_put (d := 16) (v := .pt 101 17) rfl (og rfl (of_eff (s_field_pt rfl Tryd.underlying56 rfl ti22 rfl rfl rfl) rfl)) ?_
  refine rg_put (d := 17) (v := .d (.sl 9 (List.map eAc c.c17))) rfl (og rfl (op_load_pt rfl Tryd.underlying22 rfl rfl rfl rfl rfl)) ?_
  refine rg_put (d := 18) (v := .d (.fl (.string n))) rfl (og rfl (op_move rfl rfl rfl)) ?_
  refine rg_put (d := 19) (v := .tu [.ag (eAc ((fin_ c.c17 n).1)), .fl (.bool ((fin_ c.c17 n).2))]) rfl (og rfl (op_call rfl Tryd.func21 nm21 rfl (.cons rfl (.d _) (.cons rfl (.d _) .nil)) (fiR c.c17 n (by omega) ha) rfl)) ?_
  refine rg_put (d := 15) (v := .tu [.ag (eAc ((fin_ c.c17 n).1)), .fl (.bool ((fin_ c.c17 n).2))]) rfl (og rfl (op_move rfl rfl rfl)) ?_
  refine rg_put (d := 20) (v := .d (.ag (eAc ((fin_ c.c17 n).1)))) rfl (og rfl (op_extract rfl rfl rfl rfl)) ?_
  refine rg_put (d := 21) (v := .d (.fl (.bool ((fin_ c.c17 n).2)))) rfl (og rfl (op_extract rfl rfl rfl rfl)) ?_
  refine rg_nam (d := 10) (v := .pt 103 0) (m := 103) (nw := [(103, .bx 67 ([.fl (.string (⟨#[]⟩)), .fl (.string (⟨#[]⟩)), .fl (.bool false), .fl (.slice none 0 0), .fl (.int .i64 0), .fl (.int .i64 0), .fl (.int .i64 0), .fl (.int .i64 0), .fl (.bool false)]))]) rfl (og rfl (of_eff (s_alloc 103 rfl ti67 (by kernel_rfl) rfl) rfl)) rfl ?_
  refine rg_sto (nw := [(103, .bx 67 ((eAc ((fin_ c.c17 n).1))))]) rfl (og rfl (of_eff (s_store rfl rfl ti67 rfl rfl rfl rfl rfl rfl) rfl)) ?_
  refine rg_put (d := 11) (v := .d (.fl (.bool ((fin_ c.c17 n).2)))) rfl (og rfl (op_assign rfl rfl rfl)) ?_
  refine rg_done rfl ?_
  refine a_seq ?_
  refine a_rseq ?_
  refine rg_put (d := 22) (v := .d (.fl (.bool ((fin_ c.c17 n).2)))) rfl (og rfl (op_move rfl rfl rfl)) ?_
  refine rg_put (d := 23) (v := .d (.fl (.bool ((!((fin_ c.c17 n).2)))))) rfl (og rfl (op_un rfl rfl (u_not _) rfl)) ?_
  refine rg_done rfl ?_
  refine a_cond rfl (fun h1 => ?_) (fun h1 => ?_)
  · skip
    have h2 := t_not h1
    refine a_rseq ?_
    refine rg_put (d := 8) (v := .d (.fl (.int .i64 0))) rfl (og rfl (op_assign rfl rfl rfl)) ?_
    refine rg_put (d := 9) (v := .d (.fl (.int .i64 25))) rfl (og rfl (op_assign rfl rfl rfl)) ?_
    refine rg_done rfl ?_
    refine a_ret ?_
    show ∃ ds, ResL _ _ _ ds ∧ RV.of ds = _
    refine ⟨[.fl (.int .i64 0), .fl (.int .i64 25)], (.cons (.tmp rfl (.d _)) (.cons (.tmp rfl (.d _)) .nil)), ?_⟩
    rw [show tt c.c17 n l i = (0, 25) from by unfold tt; simp only [h1, h2, Bool.true_or, Bool.false_or, Bool.or_true, Bool.or_false, Bool.not_true, Bool.not_false, cond_true, cond_false, Bool.true_and, Bool.false_and, Bool.and_true, Bool.and_false] <;> rfl]; rfl
  · skip
    have h3 := f_not h1
    refine a_skip ?_
    show A _ _ _ _ _ _ _
    refine a_seq ?_
    refine a_rseq ?_
    refine rg_put (d := 24) (v := .d (.ag (eIv i))) rfl (og rfl (of_eff (s_load_pts rfl Tryd.underlying28 rfl ti28 rfl rfl rfl rfl) rfl)) ?_
    refine rg_put (d := 25) (v := .d (.fl (.bool (vI i)))) rfl (og rfl (op_call rfl Tryd.func22 nm22 rfl (.cons rfl (.d _) .nil) (vI4 i) rfl)) ?_
    refine rg_put (d := 26) (v := .d (.fl (.bool ((!(vI i)))))) rfl (og rfl (op_un rfl rfl (u_not _) rfl)) ?_
    refine rg_done rfl ?_
    refine a_cond rfl (fun h4 => ?_) (fun h4 => ?_)
    · skip
      have h5 := t_not h4
      refine a_rseq ?_
      refine rg_put (d := 8) (v := .d (.fl (.int .i64 0))) rfl (og rfl (op_assign rfl rfl rfl)) ?_
      refine rg_put (d := 9) (v := .d (.fl (.int .i64 12))) rfl (og rfl (op_assign rfl rfl rfl)) ?_
      refine rg_done rfl ?_
      refine a_ret ?_
      show ∃ ds, ResL _ _ _ ds ∧ RV.of ds = _
      refine ⟨[.fl (.int .i64 0), .fl (.int .i64 12)], (.cons (.tmp rfl (.d _)) (.cons (.tmp rfl (.d _)) .nil)), ?_⟩
      rw [show tt c.c17 n l i = (0, 12) from by unfold tt; simp only [h1, h3, h4, h5, Bool.true_or, Bool.false_or, Bool.or_true, Bool.or_false, Bool.not_true, Bool.not_false, cond_true, cond_false, Bool.true_and, Bool.false_and, Bool.and_true, Bool.and_false] <;> rfl]; rfl
    · skip
      have h6 := f_not h4
      refine a_skip ?_
      show A _ _ _ _ _ _ _
      refine a_rseq ?_
      refine rg_put (d := 12) (v := .d (.fl (.slice none 0 0))) rfl (og rfl (op_assign rfl rfl rfl)) ?_
      refine rg_done rfl ?_
      refine a_rseq ?_
      refine rg_imp (imp_nilT 12 104 3 1 rfl rfl) ?_
      have hol := ofl_len c.c17 n l
      refine rg_put (d := 27) (v := .d (.ag (eCfg c))) rfl (og rfl (of_eff (s_load_pts rfl Tryd.underlying56 rfl ti56 rfl rfl rfl rfl) rfl)) ?_
      refine rg_put (d := 28) (v := .d (.fl (.string n))) rfl (og rfl (op_move rfl rfl rfl)) ?_
      refine rg_put (d := 29) (v := .d (.sl 7 (List.map eChg l))) rfl (og rfl (op_move rfl rfl rfl)) ?_
      refine rg_put (d := 30) (v := .d (.sl 7 (List.map eChg (ofl c.c17 n l)))) rfl (og rfl (op_call rfl Tryd.func11 nm11 rfl (.cons rfl (.d _) (.cons rfl (.d _) (.cons rfl (.d _) .nil))) (ofR c n l hc ha hl hz) rfl)) ?_
      refine rg_put (d := 13) (v := .d (.sl 7 (List.map eChg (ofl c.c17 n l)))) rfl (og rfl (op_assign rfl rfl rfl)) ?_
      refine rg_done rfl ?_
      refine a_seq ?_
      refine a_rseq ?_
      refine rg_put (d := 14) (v := .d (.fl (.int .i64 0))) rfl (og rfl (op_assign rfl rfl rfl)) ?_
      refine rg_done rfl ?_
      refine a_block ?_
      refine a_loop (ι := Nat) (fun k => SS [(0, .d (.ag (eCfg c))), (1, .d (.fl (.string n))), (2, .d (.sl 7 (List.map eChg l))), (3, .d (.ag (eIv i))), (4, .pt 101 0), (7, .pt 102 0), (8, .d (.fl (.int .i64 0))), (9, .d (.fl (.int .i64 0))), (11, .d (.fl (.bool ((fin_ c.c17 n).2)))), (13, .d (.sl 7 (List.map eChg (ofl c.c17 n l)))), (23, .d (.fl (.bool ((!((fin_ c.c17 n).2)))))), (26, .d (.fl (.bool ((!(vI i)))))), (14, .d (.fl (.int .i64 (k : Int)))), (12, .ow 104)] [(101, .bx 56 (eCfg c)), (102, .bx 28 (eIv i)), (104, .tr 3 1 (tD (rI .i64) ((ctl i (ofl c.c17 n l) k))))]) (fun k => k ≤ (ofl c.c17 n l).length) (fun k => (ofl c.c17 n l).length - k) 0 (by omega) (imp_forget rfl ⟨rfl, rfl, rfl, rfl, rfl, rfl, rfl, rfl, rfl, rfl, rfl, rfl, (by first | rfl | exact ci (by omega) | exact ci (by simp) | exact cd (by simp) | simp), (by first | rfl | exact ci (by omega) | exact ci (by simp) | exact cd (by simp) | simp), trivial⟩ ⟨rfl, rfl, rfl, trivial⟩) (fun k hok => ?_)
      have hk := hok
      have hcl := ctl_len i (ofl c.c17 n l) k
      refine a_seq ?_
      refine a_rseq ?_
      refine rg_put (d := 31) (v := .d (.fl (.int .i64 (k : Int)))) rfl (og rfl (op_move rfl rfl rfl)) ?_
      refine rg_put (d := 32) (v := .d (.sl 7 (List.map eChg (ofl c.c17 n l)))) rfl (og rfl (op_move rfl rfl rfl)) ?_
      refine rg_put (d := 33) (v := .d (.fl (.int .i64 (((ofl c.c17 n l).length : Int))))) rfl (og rfl (s_len rfl Tryd.underlying24 rfl rfl)) ?_
      refine rg_put (d := 34) (v := .d (.fl (.bool ((decide ((k : Int) < ((ofl c.c17 n l).length : Int))))))) rfl (og rfl (op_bin rfl rfl rfl (b_lss _ _ _ _) rfl)) ?_
      refine rg_done rfl ?_
      refine a_cond rfl (fun h7 => ?_) (fun h7 => ?_)
      · skip
        have h8 := t_dec h7
        refine a_skip ?_
        show A _ _ _ _ _ _ _
        refine a_seq ?_
        refine a_block ?_
        refine a_dseq (by kernel_rfl) ?_
        refine dr_put (d := 37) (v := .d (.sl 7 (List.map eChg (ofl c.c17 n l)))) rfl (og rfl (op_move rfl rfl rfl)) ?_
        refine dr_put (d := 38) (v := .d (.fl (.int .i64 (k : Int)))) rfl (og rfl (op_move rfl rfl rfl)) ?_
        refine dr_put (d := 39) (v := .el ((eChg ((ix (ofl c.c17 n l) k))))) rfl (og rfl (s_index rfl Tryd.underlying24 ti74 rfl rfl (by omega) (row_at (by omega)) rfl)) ?_
        refine dr_put (d := 40) (v := .el ((List.drop 4 ((eChg ((ix (ofl c.c17 n l) k))))))) rfl (og rfl (of_eff (s_field_el rfl Tryd.underlying74 rfl ti3 rfl rfl rfl) rfl)) ?_
        refine dr_put (d := 41) (v := .d (.fl (.int .i64 (((ix (ofl c.c17 n l) k)).time)))) rfl (og rfl (op_load_el rfl Tryd.underlying3 rfl rfl rfl rfl)) ?_
        refine dr_put (d := 42) (v := .pt 102 0) rfl (og rfl (of_eff (s_field_pt rfl Tryd.underlying28 rfl ti3 rfl rfl rfl) rfl)) ?_
        refine dr_put (d := 43) (v := .d (.fl (.int .i64 i.fr))) rfl (og rfl (op_load_pt rfl Tryd.underlying3 rfl rfl rfl rfl rfl)) ?_
        refine dr_put (d := 44) (v := .d (.fl (.bool ((decide (i.fr ≤ ((ix (ofl c.c17 n l) k)).time)))))) rfl (og rfl (op_bin rfl rfl rfl (b_geq _ _ _ _) rfl)) ?_
        refine dr_put (d := 45) (v := .d (.fl (.bool ((decide (i.fr ≤ ((ix (ofl c.c17 n l) k)).time)))))) rfl (og rfl (op_move rfl rfl rfl)) ?_
        rcases fot ((decide (i.fr ≤ ((ix (ofl c.c17 n l) k)).time))) with h9 | h9
        · skip
          have h10 := f_dec h9
          refine dr_put (d := 46) (v := .d (.fl undef)) rfl (on rfl rfl rfl h9) ?_
          refine dr_put (d := 47) (v := .d (.fl undef)) rfl (on rfl rfl rfl h9) ?_
          refine dr_put (d := 48) (v := .d (.fl undef)) rfl (on rfl rfl rfl h9) ?_
          refine dr_put (d := 49) (v := .d (.fl undef)) rfl (on rfl rfl rfl h9) ?_
          refine dr_put (d := 50) (v := .d (.fl undef)) rfl (on rfl rfl rfl h9) ?_
          refine dr_put (d := 51) (v := .d (.fl undef)) rfl (on rfl rfl rfl h9) ?_
          refine dr_put (d := 52) (v := .d (.fl undef)) rfl (on rfl rfl rfl h9) ?_
          refine dr_put (d := 53) (v := .d (.fl undef)) rfl (on rfl rfl rfl h9) ?_
          refine dr_put (d := 54) (v := .d (.fl (.bool false))) rfl (og rfl (op_pick rfl rfl (by rw [h9]; rfl) rfl)) ?_
          refine dr_done rfl (sepB_of [0, 0, 3, 7, 15, 0, 32, 127, 255, 511, 511, 2047, 4095, 8191, 511, 16895, 65535, 131071] (by kernel_rfl)) (by kernel_rfl) ?_
          refine a_condF rfl rfl ?_
          refine a_skip ?_
          show A _ _ _ _ _ _ _
          refine a_region ?_
          refine rg_put (d := 35) (v := .d (.fl (.int .i64 (k : Int)))) rfl (og rfl (op_move rfl rfl rfl)) ?_
          refine rg_put (d := 36) (v := .d (.fl (.int .i64 (((k : Int) + 1))))) rfl (og rfl (op_bin rfl rfl rfl (fun x y w => b_add64 _ _ _ x y w (by omega)) rfl)) ?_
          refine rg_put (d := 14) (v := .d (.fl (.int .i64 (((k : Int) + 1))))) rfl (og rfl (op_assign rfl rfl rfl)) ?_
          refine rg_done rfl ?_
          have hhi : hasI i (ix (ofl c.c17 n l) k).time = false := by unfold hasI; simp only [h1, h3, h4, h6, h7, h9, Bool.true_or, Bool.false_or, Bool.or_true, Bool.or_false, Bool.not_true, Bool.not_false, cond_true, cond_false, Bool.true_and, Bool.false_and, Bool.and_true, Bool.and_false] <;> rfl
          have hst : _ = ctl i (ofl c.c17 n l) (k + 1) := ctl_n (by omega) hhi
          show ∃ i, _ ∧ _ ∧ Imp _ _ _ _ _
          refine ⟨k + 1, (by omega), by omega, imp_forget rfl ⟨rfl, rfl, rfl, rfl, rfl, rfl, rfl, rfl, rfl, rfl, rfl, rfl, (by first | rfl | exact ci (by omega) | exact ci (by simp) | exact cd (by simp) | simp), rfl, trivial⟩ ⟨rfl, rfl, (congrArg (fun z => Ob.tr 3 1 (tD (rI .i64) z)) hst), trivial⟩⟩
        · skip
          have h11 := t_dec h9
          refine dr_put (d := 46) (v := .d (.sl 7 (List.map eChg (ofl c.c17 n l)))) rfl (oy rfl rfl rfl h9 (op_move rfl rfl rfl)) ?_
          refine dr_put (d := 47) (v := .d (.fl (.int .i64 (k : Int)))) rfl (oy rfl rfl rfl h9 (op_move rfl rfl rfl)) ?_
          refine dr_put (d := 48) (v := .el ((eChg ((ix (ofl c.c17 n l) k))))) rfl (oy rfl rfl rfl h9 (s_index rfl Tryd.underlying24 ti74 rfl rfl (by omega) (row_at (by omega)) rfl)) ?_
          refine dr_put (d := 49) (v := .el ((List.drop 4 ((eChg ((ix (ofl c.c17 n l) k))))))) rfl (oy rfl rfl rfl h9 (of_eff (s_field_el rfl Tryd.underlying74 rfl ti3 rfl rfl rfl) rfl)) ?_
          refine dr_put (d := 50) (v := .d (.fl (.int .i64 (((ix (ofl c.c17 n l) k)).time)))) rfl (oy rfl rfl rfl h9 (op_load_el rfl Tryd.underlying3 rfl rfl rfl rfl)) ?_
          refine dr_put (d := 51) (v := .pt 102 1) rfl (oy rfl rfl rfl h9 (of_eff (s_field_pt rfl Tryd.underlying28 rfl ti3 rfl rfl rfl) rfl)) ?_
          refine dr_put (d := 52) (v := .d (.fl (.int .i64 i.to))) rfl (oy rfl rfl rfl h9 (op_load_pt rfl Tryd.underlying3 rfl rfl rfl rfl rfl)) ?_
          refine dr_put (d := 53) (v := .d (.fl (.bool ((decide (((ix (ofl c.c17 n l) k)).time < i.to)))))) rfl (oy rfl rfl rfl h9 (op_bin rfl rfl rfl (b_lss _ _ _ _) rfl)) ?_
          refine dr_put (d := 54) (v := .d (.fl (.bool ((decide (((ix (ofl c.c17 n l) k)).time < i.to)))))) rfl (og rfl (op_pick rfl rfl (by rw [h9]; rfl) rfl)) ?_
          refine dr_done rfl (sepB_of [0, 0, 3, 7, 15, 0, 32, 127, 255, 511, 511, 2047, 4095, 8191, 511, 16895, 65535, 131071] (by kernel_rfl)) (by kernel_rfl) ?_
          refine a_cond rfl (fun h12 => ?_) (fun h12 => ?_)
          · skip
            have h13 := t_dec h12
            refine a_region ?_
            refine rg_put (d := 55) (v := .ow 104) rfl (og rfl (op_move rfl rfl rfl)) ?_
            refine rg_put (d := 56) (v := .d (.sl 7 (List.map eChg (ofl c.c17 n l)))) rfl (og rfl (op_move rfl rfl rfl)) ?_
            refine rg_put (d := 57) (v := .d (.fl (.int .i64 (k : Int)))) rfl (og rfl (op_move rfl rfl rfl)) ?_
            refine rg_put (d := 58) (v := .el ((eChg ((ix (ofl c.c17 n l) k))))) rfl (og rfl (s_index rfl Tryd.underlying24 ti74 rfl rfl (by omega) (row_at (by omega)) rfl)) ?_
            refine rg_put (d := 59) (v := .el ((List.drop 6 ((eChg ((ix (ofl c.c17 n l) k))))))) rfl (og rfl (of_eff (s_field_el rfl Tryd.underlying74 rfl ti3 rfl rfl rfl) rfl)) ?_
            refine rg_put (d := 60) (v := .d (.fl (.int .i64 (((ix (ofl c.c17 n l) k)).cents)))) rfl (og rfl (op_load_el rfl Tryd.underlying3 rfl rfl rfl rfl)) ?_
            refine rg_put (d := 61) (v := .d (.sl 1 (List.map (rI .i64) [((ix (ofl c.c17 n l) k)).cents]))) rfl (og rfl (of_eff (op_slices rfl Tryd.underlying45 ti3 rfl rfl rfl (by kernel_rfl) (xs := [.fl (.int .i64 (((ix (ofl c.c17 n l) k)).cents))]) rfl rfl (.cons rfl rfl (.d _) rfl rfl rfl .nil) rfl) rfl)) ?_
            refine rg_nam (d := 62) (v := .ow 105) (m := 105) (nw := [(105, .tr 3 1 (tD (rI .i64) (((ctl i (ofl c.c17 n l) k) ++ [((ix (ofl c.c17 n l) k)).cents])))), (104, .no)]) rfl (og rfl (of_eff (s_append_td 105 rfl Tryd.underlying45 ti3 rfl rfl rfl rfl rfl (.d _) (by simp only [List.length_append, List.length_cons, List.length_nil]; omega) rfl) rfl)) rfl ?_
            refine rg_put (d := 12) (v := .ow 105) rfl (og rfl (op_assign rfl rfl rfl)) ?_
            refine rg_done rfl ?_
            show A _ _ _ _ _ _ _
            refine a_region ?_
            refine rg_put (d := 35) (v := .d (.fl (.int .i64 (k : Int)))) rfl (og rfl (op_move rfl rfl rfl)) ?_
            refine rg_put (d := 36) (v := .d (.fl (.int .i64 (((k : Int) + 1))))) rfl (og rfl (op_bin rfl rfl rfl (fun x y w => b_add64 _ _ _ x y w (by omega)) rfl)) ?_
            refine rg_put (d := 14) (v := .d (.fl (.int .i64 (((k : Int) + 1))))) rfl (og rfl (op_assign rfl rfl rfl)) ?_
            refine rg_done rfl ?_
            have hhi : hasI i (ix (ofl c.c17 n l) k).time = true := by unfold hasI; simp only [h1, h3, h4, h6, h7, h9, h12, Bool.true_or, Bool.false_or, Bool.or_true, Bool.or_false, Bool.not_true, Bool.not_false, cond_true, cond_false, Bool.true_and, Bool.false_and, Bool.and_true, Bool.and_false] <;> rfl
            have hst : _ = ctl i (ofl c.c17 n l) (k + 1) := ctl_y (by omega) hhi
            show ∃ i, _ ∧ _ ∧ Imp _ _ _ _ _
            refine ⟨k + 1, (by omega), by omega, imp_ren (fun m => bif Nat.beq m 104 then 105 else m) rfl ⟨rfl, rfl, rfl, rfl, rfl, rfl, rfl, rfl, rfl, rfl, rfl, rfl, (by first | rfl | exact ci (by omega) | exact ci (by simp) | exact cd (by simp) | simp), rfl, trivial⟩ ⟨rfl, rfl, (congrArg (fun z => Ob.tr 3 1 (tD (rI .i64) z)) hst), trivial⟩⟩
          · skip
            have h14 := f_dec h12
            refine a_skip ?_
            show A _ _ _ _ _ _ _
            refine a_region ?_
            refine rg_put (d := 35) (v := .d (.fl (.int .i64 (k : Int)))) rfl (og rfl (op_move rfl rfl rfl)) ?_
            refine rg_put (d := 36) (v := .d (.fl (.int .i64 (((k : Int) + 1))))) rfl (og rfl (op_bin rfl rfl rfl (fun x y w => b_add64 _ _ _ x y w (by omega)) rfl)) ?_
            refine rg_put (d := 14) (v := .d (.fl (.int .i64 (((k : Int) + 1))))) rfl (og rfl (op_assign rfl rfl rfl)) ?_
            refine rg_done rfl ?_
            have hhi : hasI i (ix (ofl c.c17 n l) k).time = false := by unfold hasI; simp only [h1, h3, h4, h6, h7, h9, h12, Bool.true_or, Bool.false_or, Bool.or_true, Bool.or_false, Bool.not_true, Bool.not_false, cond_true, cond_false, Bool.true_and, Bool.false_and, Bool.and_true, Bool.and_false] <;> rfl
            have hst : _ = ctl i (ofl c.c17 n l) (k + 1) := ctl_n (by omega) hhi
            show ∃ i, _ ∧ _ ∧ Imp _ _ _ _ _
            refine ⟨k + 1, (by omega), by omega, imp_forget rfl ⟨rfl, rfl, rfl, rfl, rfl, rfl, rfl, rfl, rfl, rfl, rfl, rfl, (by first | rfl | exact ci (by omega) | exact ci (by simp) | exact cd (by simp) | simp), rfl, trivial⟩ ⟨rfl, rfl, (congrArg (fun z => Ob.tr 3 1 (tD (rI .i64) z)) hst), trivial⟩⟩
      · skip
        have h15 := f_dec h7
        refine a_exit ?_
        show A _ _ _ _ _ _ _
        refine a_rseq ?_
        rw [show (ctl i (ofl c.c17 n l) k) = (ctl i (ofl c.c17 n l) (ofl c.c17 n l).length) from (by rw [show k = (ofl c.c17 n l).length by omega])]
        have hcl2 := ctl_len i (ofl c.c17 n l) (ofl c.c17 n l).length
        refine rg_put (d := 63) (v := .ow 104) rfl (og rfl (op_move rfl rfl rfl)) ?_
        refine rg_imp (imp_leakT 63 104 rfl rfl) ?_
        refine rg_put (d := 64) (v := .tu [.fl (.int .i64 ((tot ((ctl i (ofl c.c17 n l) (ofl c.c17 n l).length))).1)), .fl (.int .i64 ((tot ((ctl i (ofl c.c17 n l) (ofl c.c17 n l).length))).2))]) rfl (og rfl (op_call rfl Tryd.func23 nm23 rfl (.cons rfl (.d _) .nil) (suR ((ctl i (ofl c.c17 n l) (ofl c.c17 n l).length)) (by omega)) rfl)) ?_
        refine rg_put (d := 65) (v := .d (.fl (.int .i64 ((tot ((ctl i (ofl c.c17 n l) (ofl c.c17 n l).length))).1)))) rfl (og rfl (op_extract rfl rfl rfl rfl)) ?_
        refine rg_put (d := 66) (v := .d (.fl (.int .i64 ((tot ((ctl i (ofl c.c17 n l) (ofl c.c17 n l).length))).2)))) rfl (og rfl (op_extract rfl rfl rfl rfl)) ?_
        refine rg_put (d := 8) (v := .d (.fl (.int .i64 ((tot ((ctl i (ofl c.c17 n l) (ofl c.c17 n l).length))).1)))) rfl (og rfl (op_assign rfl rfl rfl)) ?_
        refine rg_put (d := 9) (v := .d (.fl (.int .i64 ((tot ((ctl i (ofl c.c17 n l) (ofl c.c17 n l).length))).2)))) rfl (og rfl (op_assign rfl rfl rfl)) ?_
        refine rg_done rfl ?_
        refine a_ret ?_
        show ∃ ds, ResL _ _ _ ds ∧ RV.of ds = _
        refine ⟨[.fl (.int .i64 ((tot ((ctl i (ofl c.c17 n l) (ofl c.c17 n l).length))).1)), .fl (.int .i64 ((tot ((ctl i (ofl c.c17 n l) (ofl c.c17 n l).length))).2))], (.cons (.tmp rfl (.d _)) (.cons (.tmp rfl (.d _)) .nil)), ?_⟩
        rw [show tt c.c17 n l i = tot (ctl i (ofl c.c17 n l) (ofl c.c17 n l).length) from by unfold tt; simp only [h1, h3, h4, h6, h7, Bool.true_or, Bool.false_or, Bool.or_true, Bool.or_false, Bool.not_true, Bool.not_false, cond_true, cond_false, Bool.true_and, Bool.false_and, Bool.and_true, Bool.and_false] <;> rfl]; rfl
set_option maxHeartbeats 4000000 in
set_option maxRecDepth 100000 in
theorem salC (l : List Lin) (hl : l.length ≤ 1000) : Ctr Tryd.prog 41 [.sl 2 (List.map eLin l), .sl 2 (List.map eLin l)] (.d (.fl (.bool (true)))) := by
  refine ctr (n := 41) (rs := #[.tmp 4]) (L := [(0, .d (.sl 2 (List.map eLin l))), (1, .d (.sl 2 (List.map eLin l)))]) Tryd.func41 rfl rfl rfl rfl rfl (fun w0 U0 => ?_)
  refine a_rseq ?_
  refine rg_put (d := 4) (v := .d (.fl (.bool false))) rfl (og rfl (op_assign rfl rfl rfl)) ?_
  refine rg_done rfl ?_
  refine a_seq ?_
  refine a_rseq ?_
  refine rg_put (d := 6) (v := .d (.sl 2 (List.map eLin l))) rfl (og rfl (op_move rfl rfl rfl)) ?_
  refine rg_put (d := 7) (v := .d (.fl (.int .i64 (l.length : Int)))) rfl (og rfl (s_len rfl Tryd.underlying72 rfl rfl)) ?_
  refine rg_put (d := 8) (v := .d (.sl 2 (List.map eLin l))) rfl (og rfl (op_move rfl rfl rfl)) ?_
  refine rg_put (d := 9) (v := .d (.fl (.int .i64 (l.length : Int)))) rfl (og rfl (s_len rfl Tryd.underlying72 rfl rfl)) ?_
  refine rg_put (d := 10) (v := .d (.fl (.bool (((l.length : Int) != (l.length : Int)))))) rfl (og rfl (op_bin rfl rfl rfl (b_neq _ _ _ _) rfl)) ?_
  refine rg_done rfl ?_
  refine a_condF rfl (bne_self_eq_false _) ?_
  refine a_skip ?_
  show A _ _ _ _ _ _ _
  refine a_seq ?_
  refine a_rseq ?_
  refine rg_put (d := 5) (v := .d (.fl (.int .i64 0))) rfl (og rfl (op_assign rfl rfl rfl)) ?_
  refine rg_done rfl ?_
  refine a_block ?_
  refine a_loop (ι := Nat) (fun k => SS [(0, .d (.sl 2 (List.map eLin l))), (1, .d (.sl 2 (List.map eLin l))), (10, .d (.fl (.bool (((l.length : Int) != (l.length : Int)))))), (5, .d (.fl (.int .i64 (k : Int))))] []) (fun k => k ≤ l.length) (fun k => l.length - k) 0 (by omega) (imp_forget rfl ⟨rfl, rfl, rfl, (by first | rfl | exact ci (by omega) | exact ci (by simp) | exact cd (by simp) | simp), trivial⟩ trivial) (fun k hok => ?_)
  have hk := hok
  refine a_seq ?_
  refine a_rseq ?_
  refine rg_put (d := 11) (v := .d (.fl (.int .i64 (k : Int)))) rfl (og rfl (op_move rfl rfl rfl)) ?_
  refine rg_put (d := 12) (v := .d (.sl 2 (List.map eLin l))) rfl (og rfl (op_move rfl rfl rfl)) ?_
  refine rg_put (d := 13) (v := .d (.fl (.int .i64 (l.length : Int)))) rfl (og rfl (s_len rfl Tryd.underlying72 rfl rfl)) ?_
  refine rg_put (d := 14) (v := .d (.fl (.bool ((decide ((k : Int) < (l.length : Int))))))) rfl (og rfl (op_bin rfl rfl rfl (b_lss _ _ _ _) rfl)) ?_
  refine rg_done rfl ?_
  refine a_cond rfl (fun h1 => ?_) (fun h1 => ?_)
  · skip
    have h2 := t_dec h1
    refine a_skip ?_
    show A _ _ _ _ _ _ _
    refine a_seq ?_
    refine a_block ?_
    refine a_dseq (by kernel_rfl) ?_
    refine dr_put (d := 17) (v := .d (.sl 2 (List.map eLin l))) rfl (og rfl (op_move rfl rfl rfl)) ?_
    refine dr_put (d := 18) (v := .d (.fl (.int .i64 (k : Int)))) rfl (og rfl (op_move rfl rfl rfl)) ?_
    refine dr_put (d := 19) (v := .el ((eLin (ix l k)))) rfl (og rfl (s_index rfl Tryd.underlying72 ti78 rfl rfl (by omega) (row_at (by omega)) rfl)) ?_
    refine dr_put (d := 20) (v := .el ((List.drop 0 ((eLin (ix l k)))))) rfl (og rfl (of_eff (s_field_el rfl Tryd.underlying78 rfl ti9 rfl rfl rfl) rfl)) ?_
    refine dr_put (d := 21) (v := .d (.fl (.string ((ix l k).f0)))) rfl (og rfl (op_load_el rfl Tryd.underlying9 rfl rfl rfl rfl)) ?_
    refine dr_put (d := 22) (v := .d (.sl 2 (List.map eLin l))) rfl (og rfl (op_move rfl rfl rfl)) ?_
    refine dr_put (d := 23) (v := .d (.fl (.int .i64 (k : Int)))) rfl (og rfl (op_move rfl rfl rfl)) ?_
    refine dr_put (d := 24) (v := .el ((eLin (ix l k)))) rfl (og rfl (s_index rfl Tryd.underlying72 ti78 rfl rfl (by omega) (row_at (by omega)) rfl)) ?_
    refine dr_put (d := 25) (v := .el ((List.drop 0 ((eLin (ix l k)))))) rfl (og rfl (of_eff (s_field_el rfl Tryd.underlying78 rfl ti9 rfl rfl rfl) rfl)) ?_
    refine dr_put (d := 26) (v := .d (.fl (.string ((ix l k).f0)))) rfl (og rfl (op_load_el rfl Tryd.underlying9 rfl rfl rfl rfl)) ?_
    refine dr_put (d := 27) (v := .d (.fl (.bool ((!(sEq ((ix l k).f0) ((ix l k).f0))))))) rfl (og rfl (op_bin rfl rfl rfl (b_sne _ _ _) rfl)) ?_
    refine dr_put (d := 28) (v := .d (.fl (.bool ((!(sEq ((ix l k).f0) ((ix l k).f0))))))) rfl (og rfl (op_move rfl rfl rfl)) ?_
    refine dr_put (d := 29) (v := .d (.sl 2 (List.map eLin l))) rfl (oy rfl rfl rfl (not_f (eq_self_s _)) (op_move rfl rfl rfl)) ?_
    refine dr_put (d := 30) (v := .d (.fl (.int .i64 (k : Int)))) rfl (oy rfl rfl rfl (not_f (eq_self_s _)) (op_move rfl rfl rfl)) ?_
    refine dr_put (d := 31) (v := .el ((eLin (ix l k)))) rfl (oy rfl rfl rfl (not_f (eq_self_s _)) (s_index rfl Tryd.underlying72 ti78 rfl rfl (by omega) (row_at (by omega)) rfl)) ?_
    refine dr_put (d := 32) (v := .el ((List.drop 1 ((eLin (ix l k)))))) rfl (oy rfl rfl rfl (not_f (eq_self_s _)) (of_eff (s_field_el rfl Tryd.underlying78 rfl ti3 rfl rfl rfl) rfl)) ?_
    refine dr_put (d := 33) (v := .d (.fl (.int .i64 ((ix l k).f1)))) rfl (oy rfl rfl rfl (not_f (eq_self_s _)) (op_load_el rfl Tryd.underlying3 rfl rfl rfl rfl)) ?_
    refine dr_put (d := 34) (v := .d (.sl 2 (List.map eLin l))) rfl (oy rfl rfl rfl (not_f (eq_self_s _)) (op_move rfl rfl rfl)) ?_
    refine dr_put (d := 35) (v := .d (.fl (.int .i64 (k : Int)))) rfl (oy rfl rfl rfl (not_f (eq_self_s _)) (op_move rfl rfl rfl)) ?_
    refine dr_put (d := 36) (v := .el ((eLin (ix l k)))) rfl (oy rfl rfl rfl (not_f (eq_self_s _)) (s_index rfl Tryd.underlying72 ti78 rfl rfl (by omega) (row_at (by omega)) rfl)) ?_
    refine dr_put (d := 37) (v := .el ((List.drop 1 ((eLin (ix l k)))))) rfl (oy rfl rfl rfl (not_f (eq_self_s _)) (of_eff (s_field_el rfl Tryd.underlying78 rfl ti3 rfl rfl rfl) rfl)) ?_
    refine dr_put (d := 38) (v := .d (.fl (.int .i64 ((ix l k).f1)))) rfl (oy rfl rfl rfl (not_f (eq_self_s _)) (op_load_el rfl Tryd.underlying3 rfl rfl rfl rfl)) ?_
    refine dr_put (d := 39) (v := .d (.fl (.bool (((ix l k).f1 != (ix l k).f1))))) rfl (oy rfl rfl rfl (not_f (eq_self_s _)) (op_bin rfl rfl rfl (b_neq _ _ _ _) rfl)) ?_
    refine dr_put (d := 40) (v := .d (.fl (.bool (((ix l k).f1 != (ix l k).f1))))) rfl (og rfl (op_pick rfl rfl (by rw [(not_f (eq_self_s _))]; rfl) rfl)) ?_
    refine dr_done rfl (sepB_of [0, 0, 3, 7, 15, 0, 0, 96, 224, 480, 1023, 2047, 4095, 4095, 16383, 32767, 65535, 4095, 4095, 397311, 921599, 1970175, 4194303, 8388607] (by kernel_rfl)) (by kernel_rfl) ?_
    refine a_condF rfl (bne_self_eq_false _) ?_
    refine a_skip ?_
    show A _ _ _ _ _ _ _
    refine a_region ?_
    refine rg_put (d := 15) (v := .d (.fl (.int .i64 (k : Int)))) rfl (og rfl (op_move rfl rfl rfl)) ?_
    refine rg_put (d := 16) (v := .d (.fl (.int .i64 (((k : Int) + 1))))) rfl (og rfl (op_bin rfl rfl rfl (fun x y w => b_add64 _ _ _ x y w (by omega)) rfl)) ?_
    refine rg_put (d := 5) (v := .d (.fl (.int .i64 (((k : Int) + 1))))) rfl (og rfl (op_assign rfl rfl rfl)) ?_
    refine rg_done rfl ?_
    show ∃ i, _ ∧ _ ∧ Imp _ _ _ _ _
    refine ⟨k + 1, (by omega), by omega, imp_forget rfl ⟨rfl, rfl, rfl, (by first | rfl | exact ci (by omega) | exact ci (by simp) | exact cd (by simp) | simp), trivial⟩ trivial⟩
  · skip
    have h3 := f_dec h1
    refine a_exit ?_
    show A _ _ _ _ _ _ _
    refine a_rseq ?_
    refine rg_put (d := 4) (v := .d (.fl (.bool true))) rfl (og rfl (op_assign rfl rfl rfl)) ?_
    refine rg_done rfl ?_
    refine a_ret ?_
    show ∃ ds, ResL _ _ _ ds ∧ RV.of ds = _
    refine ⟨[.fl (.bool true)], (.cons (.tmp rfl (.d _)) .nil), ?_⟩
    rfl
set_option maxHeartbeats 4000000 in
set_option maxRecDepth 100000 in
theorem sacC (x : Chg) (h1 : x.lines.length ≤ 8) : Ctr Tryd.prog 24 [.ag (eChg x), .ag (eChg x)] (.d (.fl (.bool (true)))) := by
  refine ctr (n := 52) (rs := #[.tmp 4]) (L := [(0, .d (.ag (eChg x))), (1, .d (.ag (eChg x)))]) Tryd.func24 rfl rfl rfl rfl rfl (fun w0 U0 => ?_)
  refine a_rseq ?_
  refine rg_nam (d := 2) (v := .pt 101 0) (m := 101) (nw := [(101, .bx 74 (eChg x))]) rfl (og rfl (of_eff (op_box 101 rfl rfl rfl rfl) rfl)) rfl ?_
  refine rg_nam (d := 3) (v := .pt 102 0) (m := 102) (nw := [(102, .bx 74 (eChg x))]) rfl (og rfl (of_eff (op_box 102 rfl rfl rfl rfl) rfl)) rfl ?_
  refine rg_put (d := 4) (v := .d (.fl (.bool false))) rfl (og rfl (op_assign rfl rfl rfl)) ?_
  refine rg_done rfl ?_
  refine a_rseq ?_
  refine rg_put (d := 5) (v := .pt 101 0) rfl (og rfl (of_eff (s_field_pt rfl Tryd.underlying74 rfl ti9 rfl rfl rfl) rfl)) ?_
  refine rg_put (d := 6) (v := .d (.fl (.string x.key))) rfl (og rfl (op_load_pt rfl Tryd.underlying9 rfl rfl rfl rfl rfl)) ?_
  refine rg_put (d := 7) (v := .pt 102 0) rfl (og rfl (of_eff (s_field_pt rfl Tryd.underlying74 rfl ti9 rfl rfl rfl) rfl)) ?_
  refine rg_put (d := 8) (v := .d (.fl (.string x.key))) rfl (og rfl (op_load_pt rfl Tryd.underlying9 rfl rfl rfl rfl rfl)) ?_
  refine rg_put (d := 9) (v := .d (.fl (.bool (sEq x.key x.key)))) rfl (og rfl (op_bin rfl rfl rfl (b_seq _ _ _) rfl)) ?_
  refine rg_put (d := 10) (v := .d (.fl (.bool (sEq x.key x.key)))) rfl (og rfl (op_move rfl rfl rfl)) ?_
  refine rg_put (d := 11) (v := .pt 101 1) rfl (oy rfl rfl rfl (eq_self_s _) (of_eff (s_field_pt rfl Tryd.underlying74 rfl ti9 rfl rfl rfl) rfl)) ?_
  refine rg_put (d := 12) (v := .d (.fl (.string x.veh))) rfl (oy rfl rfl rfl (eq_self_s _) (op_load_pt rfl Tryd.underlying9 rfl rfl rfl rfl rfl)) ?_
  refine rg_put (d := 13) (v := .pt 102 1) rfl (oy rfl rfl rfl (eq_self_s _) (of_eff (s_field_pt rfl Tryd.underlying74 rfl ti9 rfl rfl rfl) rfl)) ?_
  refine rg_put (d := 14) (v := .d (.fl (.string x.veh))) rfl (oy rfl rfl rfl (eq_self_s _) (op_load_pt rfl Tryd.underlying9 rfl rfl rfl rfl rfl)) ?_
  refine rg_put (d := 15) (v := .d (.fl (.bool (sEq x.veh x.veh)))) rfl (oy rfl rfl rfl (eq_self_s _) (op_bin rfl rfl rfl (b_seq _ _ _) rfl)) ?_
  refine rg_put (d := 16) (v := .d (.fl (.bool (sEq x.veh x.veh)))) rfl (og rfl (op_pick rfl rfl (by rw [(eq_self_s _)]; rfl) rfl)) ?_
  refine rg_put (d := 17) (v := .d (.fl (.bool (sEq x.veh x.veh)))) rfl (og rfl (op_move rfl rfl rfl)) ?_
  refine rg_put (d := 18) (v := .pt 101 2) rfl (oy rfl rfl rfl (eq_self_s _) (of_eff (s_field_pt rfl Tryd.underlying74 rfl ti9 rfl rfl rfl) rfl)) ?_
  refine rg_put (d := 19) (v := .d (.fl (.string x.sys))) rfl (oy rfl rfl rfl (eq_self_s _) (op_load_pt rfl Tryd.underlying9 rfl rfl rfl rfl rfl)) ?_
  refine rg_put (d := 20) (v := .pt 102 2) rfl (oy rfl rfl rfl (eq_self_s _) (of_eff (s_field_pt rfl Tryd.underlying74 rfl ti9 rfl rfl rfl) rfl)) ?_
  refine rg_put (d := 21) (v := .d (.fl (.string x.sys))) rfl (oy rfl rfl rfl (eq_self_s _) (op_load_pt rfl Tryd.underlying9 rfl rfl rfl rfl rfl)) ?_
  refine rg_put (d := 22) (v := .d (.fl (.bool (sEq x.sys x.sys)))) rfl (oy rfl rfl rfl (eq_self_s _) (op_bin rfl rfl rfl (b_seq _ _ _) rfl)) ?_
  refine rg_put (d := 23) (v := .d (.fl (.bool (sEq x.sys x.sys)))) rfl (og rfl (op_pick rfl rfl (by rw [(eq_self_s _)]; rfl) rfl)) ?_
  refine rg_put (d := 24) (v := .d (.fl (.bool (sEq x.sys x.sys)))) rfl (og rfl (op_move rfl rfl rfl)) ?_
  refine rg_put (d := 25) (v := .pt 101 3) rfl (oy rfl rfl rfl (eq_self_s _) (of_eff (s_field_pt rfl Tryd.underlying74 rfl ti3 rfl rfl rfl) rfl)) ?_
  refine rg_put (d := 26) (v := .d (.fl (.int .i64 x.cls))) rfl (oy rfl rfl rfl (eq_self_s _) (op_load_pt rfl Tryd.underlying3 rfl rfl rfl rfl rfl)) ?_
  refine rg_put (d := 27) (v := .pt 102 3) rfl (oy rfl rfl rfl (eq_self_s _) (of_eff (s_field_pt rfl Tryd.underlying74 rfl ti3 rfl rfl rfl) rfl)) ?_
  refine rg_put (d := 28) (v := .d (.fl (.int .i64 x.cls))) rfl (oy rfl rfl rfl (eq_self_s _) (op_load_pt rfl Tryd.underlying3 rfl rfl rfl rfl rfl)) ?_
  refine rg_put (d := 29) (v := .d (.fl (.bool (x.cls == x.cls)))) rfl (oy rfl rfl rfl (eq_self_s _) (op_bin rfl rfl rfl (b_eql _ _ _ _) rfl)) ?_
  refine rg_put (d := 30) (v := .d (.fl (.bool (x.cls == x.cls)))) rfl (og rfl (op_pick rfl rfl (by rw [(eq_self_s _)]; rfl) rfl)) ?_
  refine rg_put (d := 31) (v := .d (.fl (.bool (x.cls == x.cls)))) rfl (og rfl (op_move rfl rfl rfl)) ?_
  refine rg_put (d := 32) (v := .pt 101 4) rfl (oy rfl rfl rfl (beq_self_eq_true _) (of_eff (s_field_pt rfl Tryd.underlying74 rfl ti3 rfl rfl rfl) rfl)) ?_
  refine rg_put (d := 33) (v := .d (.fl (.int .i64 x.time))) rfl (oy rfl rfl rfl (beq_self_eq_true _) (op_load_pt rfl Tryd.underlying3 rfl rfl rfl rfl rfl)) ?_
  refine rg_put (d := 34) (v := .pt 102 4) rfl (oy rfl rfl rfl (beq_self_eq_true _) (of_eff (s_field_pt rfl Tryd.underlying74 rfl ti3 rfl rfl rfl) rfl)) ?_
  refine rg_put (d := 35) (v := .d (.fl (.int .i64 x.time))) rfl (oy rfl rfl rfl (beq_self_eq_true _) (op_load_pt rfl Tryd.underlying3 rfl rfl rfl rfl rfl)) ?_
  refine rg_put (d := 36) (v := .d (.fl (.bool (x.time == x.time)))) rfl (oy rfl rfl rfl (beq_self_eq_true _) (op_bin rfl rfl rfl (b_eql _ _ _ _) rfl)) ?_
  refine rg_put (d := 37) (v := .d (.fl (.bool (x.time == x.time)))) rfl (og rfl (op_pick rfl rfl (by rw [(beq_self_eq_true _)]; rfl) rfl)) ?_
  refine rg_put (d := 38) (v := .d (.fl (.bool (x.time == x.time)))) rfl (og rfl (op_move rfl rfl rfl)) ?_
  refine rg_put (d := 39) (v := .pt 101 6) rfl (oy rfl rfl rfl (beq_self_eq_true _) (of_eff (s_field_pt rfl Tryd.underlying74 rfl ti3 rfl rfl rfl) rfl)) ?_
  refine rg_put (d := 40) (v := .d (.fl (.int .i64 x.cents))) rfl (oy rfl rfl rfl (beq_self_eq_true _) (op_load_pt rfl Tryd.underlying3 rfl rfl rfl rfl rfl)) ?_
  refine rg_put (d := 41) (v := .pt 102 6) rfl (oy rfl rfl rfl (beq_self_eq_true _) (of_eff (s_field_pt rfl Tryd.underlying74 rfl ti3 rfl rfl rfl) rfl)) ?_
  refine rg_put (d := 42) (v := .d (.fl (.int .i64 x.cents))) rfl (oy rfl rfl rfl (beq_self_eq_true _) (op_load_pt rfl Tryd.underlying3 rfl rfl rfl rfl rfl)) ?_
  refine rg_put (d := 43) (v := .d (.fl (.bool (x.cents == x.cents)))) rfl (oy rfl rfl rfl (beq_self_eq_true _) (op_bin rfl rfl rfl (b_eql _ _ _ _) rfl)) ?_
  refine rg_put (d := 44) (v := .d (.fl (.bool (x.cents == x.cents)))) rfl (og rfl (op_pick rfl rfl (by rw [(beq_self_eq_true _)]; rfl) rfl)) ?_
  refine rg_put (d := 45) (v := .d (.fl (.bool (x.cents == x.cents)))) rfl (og rfl (op_move rfl rfl rfl)) ?_
  refine rg_put (d := 46) (v := .pt 101 5) rfl (oy rfl rfl rfl (beq_self_eq_true _) (of_eff (s_field_pt rfl Tryd.underlying74 rfl ti72 rfl rfl rfl) rfl)) ?_
  refine rg_put (d := 47) (v := .d (.sl 2 (List.map eLin x.lines))) rfl (oy rfl rfl rfl (beq_self_eq_true _) (op_load_pt rfl Tryd.underlying72 rfl rfl rfl rfl rfl)) ?_
  refine rg_put (d := 48) (v := .pt 102 5) rfl (oy rfl rfl rfl (beq_self_eq_true _) (of_eff (s_field_pt rfl Tryd.underlying74 rfl ti72 rfl rfl rfl) rfl)) ?_
  refine rg_put (d := 49) (v := .d (.sl 2 (List.map eLin x.lines))) rfl (oy rfl rfl rfl (beq_self_eq_true _) (op_load_pt rfl Tryd.underlying72 rfl rfl rfl rfl rfl)) ?_
  refine rg_put (d := 50) (v := .d (.fl (.bool true))) rfl (oy rfl rfl rfl (beq_self_eq_true _) (op_call rfl Tryd.func41 nm41 rfl (.cons rfl (.d _) (.cons rfl (.d _) .nil)) (salC x.lines (by omega)) rfl)) ?_
  refine rg_put (d := 51) (v := .d (.fl (.bool true))) rfl (og rfl (op_pick rfl rfl (by rw [(beq_self_eq_true _)]; rfl) rfl)) ?_
  refine rg_put (d := 4) (v := .d (.fl (.bool true))) rfl (og rfl (op_assign rfl rfl rfl)) ?_
  refine rg_done rfl ?_
  refine a_ret ?_
  show ∃ ds, ResL _ _ _ ds ∧ RV.of ds = _
  refine ⟨[.fl (.bool true)], (.cons (.tmp rfl (.d _)) .nil), ?_⟩
  rfl
set_option maxHeartbeats 4000000 in
set_option maxRecDepth 100000 in
theorem sasC (l : List Chg) (hl : l.length ≤ 30) (hz : ∀ q, q < l.length → (ix l q).lines.length ≤ 8) : Ctr Tryd.prog 9 [.sl 7 (List.map eChg l), .sl 7 (List.map eChg l)] (.d (.fl (.bool (true)))) := by
  refine ctr (n := 27) (rs := #[.tmp 4]) (L := [(0, .d (.sl 7 (List.map eChg l))), (1, .d (.sl 7 (List.map eChg l)))]) Tryd.func9 rfl rfl rfl rfl rfl (fun w0 U0 => ?_)
  refine a_rseq ?_
  refine rg_put (d := 4) (v := .d (.fl (.bool false))) rfl (og rfl (op_assign rfl rfl rfl)) ?_
  refine rg_done rfl ?_
  refine a_seq ?_
  refine a_rseq ?_
  refine rg_put (d := 6) (v := .d (.sl 7 (List.map eChg l))) rfl (og rfl (op_move rfl rfl rfl)) ?_
  refine rg_put (d := 7) (v := .d (.fl (.int .i64 (l.length : Int)))) rfl (og rfl (s_len rfl Tryd.underlying24 rfl rfl)) ?_
  refine rg_put (d := 8) (v := .d (.sl 7 (List.map eChg l))) rfl (og rfl (op_move rfl rfl rfl)) ?_
  refine rg_put (d := 9) (v := .d (.fl (.int .i64 (l.length : Int)))) rfl (og rfl (s_len rfl Tryd.underlying24 rfl rfl)) ?_
  refine rg_put (d := 10) (v := .d (.fl (.bool (((l.length : Int) != (l.length : Int)))))) rfl (og rfl (op_bin rfl rfl rfl (b_neq _ _ _ _) rfl)) ?_
  refine rg_done rfl ?_
  refine a_condF rfl (bne_self_eq_false _) ?_
  refine a_skip ?_
  show A _ _ _ _ _ _ _
  refine a_seq ?_
  refine a_rseq ?_
  refine rg_put (d := 5) (v := .d (.fl (.int .i64 0))) rfl (og rfl (op_assign rfl rfl rfl)) ?_
  refine rg_done rfl ?_
  refine a_block ?_
  refine a_loop (ι := Nat) (fun k => SS [(0, .d (.sl 7 (List.map eChg l))), (1, .d (.sl 7 (List.map eChg l))), (10, .d (.fl (.bool (((l.length : Int) != (l.length : Int)))))), (5, .d (.fl (.int .i64 (k : Int))))] []) (fun k => k ≤ l.length) (fun k => l.length - k) 0 (by omega) (imp_forget rfl ⟨rfl, rfl, rfl, (by first | rfl | exact ci (by omega) | exact ci (by simp) | exact cd (by simp) | simp), trivial⟩ trivial) (fun k hok => ?_)
  have hk := hok
  refine a_seq ?_
  refine a_rseq ?_
  refine rg_put (d := 11) (v := .d (.fl (.int .i64 (k : Int)))) rfl (og rfl (op_move rfl rfl rfl)) ?_
  refine rg_put (d := 12) (v := .d (.sl 7 (List.map eChg l))) rfl (og rfl (op_move rfl rfl rfl)) ?_
  refine rg_put (d := 13) (v := .d (.fl (.int .i64 (l.length : Int)))) rfl (og rfl (s_len rfl Tryd.underlying24 rfl rfl)) ?_
  refine rg_put (d := 14) (v := .d (.fl (.bool ((decide ((k : Int) < (l.length : Int))))))) rfl (og rfl (op_bin rfl rfl rfl (b_lss _ _ _ _) rfl)) ?_
  refine rg_done rfl ?_
  refine a_cond rfl (fun h1 => ?_) (fun h1 => ?_)
  · skip
    have h2 := t_dec h1
    refine a_skip ?_
    show A _ _ _ _ _ _ _
    refine a_seq ?_
    refine a_block ?_
    refine a_dseq (by kernel_rfl) ?_
    refine dr_put (d := 17) (v := .d (.sl 7 (List.map eChg l))) rfl (og rfl (op_move rfl rfl rfl)) ?_
    refine dr_put (d := 18) (v := .d (.fl (.int .i64 (k : Int)))) rfl (og rfl (op_move rfl rfl rfl)) ?_
    refine dr_put (d := 19) (v := .el ((eChg (ix l k)))) rfl (og rfl (s_index rfl Tryd.underlying24 ti74 rfl rfl (by omega) (row_at (by omega)) rfl)) ?_
    refine dr_put (d := 20) (v := .d (.ag (eChg (ix l k)))) rfl (og rfl (of_eff (s_load_els rfl Tryd.underlying74 rfl ti74 rfl rfl rfl) rfl)) ?_
    refine dr_put (d := 21) (v := .d (.sl 7 (List.map eChg l))) rfl (og rfl (op_move rfl rfl rfl)) ?_
    refine dr_put (d := 22) (v := .d (.fl (.int .i64 (k : Int)))) rfl (og rfl (op_move rfl rfl rfl)) ?_
    refine dr_put (d := 23) (v := .el ((eChg (ix l k)))) rfl (og rfl (s_index rfl Tryd.underlying24 ti74 rfl rfl (by omega) (row_at (by omega)) rfl)) ?_
    refine dr_put (d := 24) (v := .d (.ag (eChg (ix l k)))) rfl (og rfl (of_eff (s_load_els rfl Tryd.underlying74 rfl ti74 rfl rfl rfl) rfl)) ?_
    refine dr_put (d := 25) (v := .d (.fl (.bool true))) rfl (og rfl (op_call rfl Tryd.func24 nm24 rfl (.cons rfl (.d _) (.cons rfl (.d _) .nil)) (sacC (ix l k) (hz k (by omega))) rfl)) ?_
    refine dr_put (d := 26) (v := .d (.fl (.bool (!true)))) rfl (og rfl (op_un rfl rfl (u_not _) rfl)) ?_
    refine dr_done rfl (by kernel_rfl) (by kernel_rfl) ?_
    refine a_condF rfl rfl ?_
    refine a_skip ?_
    show A _ _ _ _ _ _ _
    refine a_region ?_
    refine rg_put (d := 15) (v := .d (.fl (.int .i64 (k : Int)))) rfl (og rfl (op_move rfl rfl rfl)) ?_
    refine rg_put (d := 16) (v := .d (.fl (.int .i64 (((k : Int) + 1))))) rfl (og rfl (op_bin rfl rfl rfl (fun x y w => b_add64 _ _ _ x y w (by omega)) rfl)) ?_
    refine rg_put (d := 5) (v := .d (.fl (.int .i64 (((k : Int) + 1))))) rfl (og rfl (op_assign rfl rfl rfl)) ?_
    refine rg_done rfl ?_
    show ∃ i, _ ∧ _ ∧ Imp _ _ _ _ _
    refine ⟨k + 1, (by omega), by omega, imp_forget rfl ⟨rfl, rfl, rfl, (by first | rfl | exact ci (by omega) | exact ci (by simp) | exact cd (by simp) | simp), trivial⟩ trivial⟩
  · skip
    have h3 := f_dec h1
    refine a_exit ?_
    show A _ _ _ _ _ _ _
    refine a_rseq ?_
    refine rg_put (d := 4) (v := .d (.fl (.bool true))) rfl (og rfl (op_assign rfl rfl rfl)) ?_
    refine rg_done rfl ?_
    refine a_ret ?_
    show ∃ ds, ResL _ _ _ ds ∧ RV.of ds = _
    refine ⟨[.fl (.bool true)], (.cons (.tmp rfl (.d _)) .nil), ?_⟩
    rfl
end Go.Proofs.YtaapmifdglaehaaDoor.Wk
