/- Discounts: the check, the amount, both sides. No condition. -/
import Derived.Test.YtejophbmdgohdaaNw
import Derived.Test.YtejophbmdgohdaaRw
import Derived.Test.YtejophbmdgohdaaWw
set_option linter.unusedSimpArgs false
set_option linter.unusedVariables false
namespace Go.Proofs.Ytejophbmdgohdaa.Wk
open Go Go.RowKit Go.Proofs.Ytejophbmdgohdaa.Av
theorem ne_self_b (a : Int) : (a != a) = false := by simp
theorem sEq_eq {a b : ByteArray} (h : sEq a b = true) : a = b := of_decide_eq_true h
theorem sEq_of {a b : ByteArray} (h : a = b) : sEq a b = true := decide_eq_true h
theorem nb {b : Bool} (h : ¬ b = true) : b = false := by cases b <;> simp at h ⊢
theorem nnb {b : Bool} (h : ¬ (!b) = true) : b = true := by cases b <;> simp at h ⊢

def eW (a b : Wd) : Bool := ((a.days == b.days) && (a.fr == b.fr)) && (a.to == b.to)
theorem eqG23 (a b : Wd) (w : World) : (Op.equalIn 10000 23 (.agg (([.int .i64 a.days, .int .i64 a.fr, .int .i64 a.to] : List Value).toArray)) (.agg (([.int .i64 b.days, .int .i64 b.fr, .int .i64 b.to] : List Value).toArray))).run Try.prog w = .ok (eW a b) w := by
  have hS : Try.prog.underlying 23 = some (.struct (Try.prog.fieldsOf 23)) := by kernel_rfl
  have hp : Try.prog.stoodInHeld 23 = false := by kernel_rfl
  unfold eW
  rw [show (10000 : Nat) = 9999 + 1 from rfl, run_equalIn_agg w 9999 23 _ _ hS hp]
  simp only [Program.fieldsOf, Try.underlying23]
  by_cases h1 : a.days == b.days <;> by_cases h2 : a.fr == b.fr <;> by_cases h3 : a.to == b.to <;> simp only [h1, h2, h3] <;> go_simp
theorem eqlG23 (a b : Wd) (x y : Operand) (w : World) : (do eqGuard .eql 23 x y (.agg (([.int .i64 a.days, .int .i64 a.fr, .int .i64 a.to] : List Value).toArray)) (.agg (([.int .i64 b.days, .int .i64 b.fr, .int .i64 b.to] : List Value).toArray)); binOp .eql 23 (.agg (([.int .i64 a.days, .int .i64 a.fr, .int .i64 a.to] : List Value).toArray)) (.agg (([.int .i64 b.days, .int .i64 b.fr, .int .i64 b.to] : List Value).toArray)) : Sem Value).run Try.prog w = .ok (.bool (eW a b)) w := by
  have hm : Try.prog.eqGuardType Try.prog.depth 23 = false := by kernel_rfl
  rw [Sem.run_bind, run_eqGuard_agg w .eql 23 x y _ _ hm, Result.andThen_ok, run_eql_struct, eqG23]
  rfl
def zW : Wd := Wd.mk 0 0 0
def wok (w : Wd) : Bool := vW w || eW w (Wd.mk 0 0 0)
theorem vW_0 {w : Wd} (h : w.days = 0) : vW w = false := by
  cases hv : vW w with
  | false => rfl
  | true => have := vW_d hv; omega
theorem wok_ref (w : Wd) : wok w = bif (w.days != 0) then vW w else (!(w.fr != 0) && !(w.to != 0)) := by
  unfold wok eW
  cases h : (w.days != 0) with
  | true => 
    have hd : (w.days == 0) = false := by simpa using h
    simp only [hd, Bool.false_and, Bool.or_false, cond_true]
  | false =>
    have hd : (w.days == 0) = true := by simpa using h
    rw [vW_0 (by simpa using h)]
    simp only [hd, Bool.false_or, cond_false, Bool.true_and, bne, Bool.not_not]
def most (k : Int) : Int := if k = 1 then 1000 else if k = 2 then 1125899906842624 else 0
def am (d : Di) : Bool := !(decide (d.amount < 0) || decide (most d.kind < d.amount))
noncomputable def nd (s : ByteArray) : Bool := sEq s ⟨#[]⟩ || Nm.nmB s
noncomputable def ck (d : Di) : Int := bif !(Nm.nmB d.name) then 6 else bif (decide (d.kind < 1) || decide (3 < d.kind)) || !(am d) then 1 else bif !(nd d.group) || !(nd d.sys) then 6 else bif (decide (d.cls < 0) || decide (9 < d.cls)) then 20 else bif !(wok d.win) then 12 else bif (decide (d.least < 0) || decide (2147483648 < d.least)) then 2 else 0
theorem ck_am {d : Di} (h : ck d = 0) : 0 ≤ d.amount ∧ d.amount ≤ (if d.kind = 1 then 1000 else if d.kind = 2 then 1125899906842624 else 0) := by
  have ha : am d = true := by
    cases hb : am d with
    | true => rfl
    | false =>
      unfold ck at h
      rw [hb] at h
      revert h
      cases Nm.nmB d.name <;> simp
  unfold am most at ha
  simp only [Bool.not_eq_true', Bool.or_eq_false_iff, decide_eq_false_iff_not] at ha
  omega
def ip (c : Int) : Bool := decide (0 ≤ c) && decide (c ≤ 1125899906842624)
theorem ip_t {c : Int} (h : ip c = true) : 0 ≤ c ∧ c ≤ 1125899906842624 := by simpa [ip] using h
theorem mul_b (c a : Int) (hc : 0 ≤ c ∧ c ≤ 1125899906842624) (ha : 0 ≤ a ∧ a ≤ 1000) : 0 ≤ c * a ∧ c * a ≤ 1125899906842624000 := by
  refine ⟨Int.mul_nonneg hc.1 ha.1, ?_⟩
  have := Int.mul_le_mul hc.2 ha.2 ha.1 (by omega)
  omega
noncomputable def amt (d : Di) (c : Int) : Int := bif (ck d != 0) || !(ip c) then 0 else bif (d.kind == 1) then c * d.amount / 1000 else bif (d.kind == 2) then min d.amount c else c
theorem nam21 (s : ByteArray) : Ctr Try.prog 21 [.fl (.string s)] (.d (.fl (.bool (Nm.nmB s)))) := ctr_flat [.string s] (fun w => Nw.name14 s w)
theorem nam24 (s : ByteArray) : Ctr Try.prog 24 [.fl (.string s)] (.d (.fl (.bool (Nm.nmB s)))) := ctr_flat [.string s] (fun w => Nw.name15 s w)
theorem rat29 (c a : Int) (hc : 0 ≤ c ∧ c ≤ 1125899906842624) (ha : 0 ≤ a ∧ a ≤ 1000) : Ctr Try.prog 29 [.fl (.int .i64 c), .fl (.int .i64 a), .fl (.int .i64 1000), .fl (.int .i64 1)] (.tu [.fl (.int .i64 (c * a / 1000)), .fl (.int .i64 0)]) := by
  have hb := mul_b c a hc ha
  have hq : Rm.raQ c a 1000 1 = c.natAbs * a.natAbs / 1000 := by
    unfold Rm.raQ Rm.awB
    simp
  have hcn : ((c.natAbs * a.natAbs / 1000 : Nat) : Int) = c * a / 1000 := by
    obtain ⟨c', rfl⟩ := Int.eq_ofNat_of_zero_le hc.1
    obtain ⟨a', rfl⟩ := Int.eq_ofNat_of_zero_le ha.1
    simp
  have hf : Rm.fitB c = true := (Rm.fit_iff c).2 (by omega)
  obtain ⟨h1, h2⟩ := Rm.ra_ok (num := a) (den := 1000) (mode := 1) hf (by simp) (by decide) (by rw [hq]; omega)
  have hn : Rm.neB c a 1000 = false := by
    unfold Rm.neB
    rw [decide_eq_false (by omega), decide_eq_false (by omega)]; rfl
  rw [hn, hq, hcn] at h2
  intro vals U w hR
  have hv : vals = [.int .i64 c, .int .i64 a, .int .i64 1000, .int .i64 1] := rds_flat (xs := [.int .i64 c, .int .i64 a, .int .i64 1000, .int .i64 1]) hR
  subst hv
  refine Calls.mono (Rw.ratio18 c a 1000 1 0 (c * a / 1000) w (by unfold Rm.In64; omega) (by unfold Rm.In64; omega) (by unfold Rm.In64; omega) h1 (by simpa using h2)) ?_
  rintro e w' ⟨rfl, hb'⟩
  exact ⟨_, U, rfl, hb', fun _ _ => rfl, _, rfl, ⟨rfl, fun j u x h1 h2 => by
    match j with
    | 0 => simp at h1 h2; subst h1 h2; exact .fl _
    | 1 => simp at h1 h2; subst h1 h2; exact .fl _
    | j + 2 => simp at h1⟩⟩
def sh (d : Di) : Bool := (decide ((d.name.size : Int) ≤ 40) && decide ((d.group.size : Int) ≤ 40)) && decide ((d.sys.size : Int) ≤ 40)

set_option maxHeartbeats 4000000 in
set_option maxRecDepth 100000 in
theorem wokV (w : Wd) : Ctr Try.prog 23 [.ag (eWd w)] (.d (.fl (.bool (wok w)))) := by
  refine ctr (n := 10) (rs := #[.tmp 2]) (L := [(0, .d (.ag (eWd w)))]) Try.func23 rfl rfl rfl rfl rfl (fun w0 U0 => ?_)
  refine a_rseq ?_
  refine rg_nam (d := 1) (v := .pt 101 0) (m := 101) (nw := [(101, .bx 23 (eWd w))]) rfl (og rfl (of_eff (op_box 101 rfl rfl rfl rfl) rfl)) rfl ?_
  refine rg_put (d := 2) (v := .d (.fl (.bool false))) rfl (og rfl (op_assign rfl rfl rfl)) ?_
  refine rg_done rfl ?_
  refine a_rseq ?_
  refine rg_put (d := 3) (v := .d (.ag (eWd w))) rfl (og rfl (of_eff (s_load_pts rfl Try.underlying23 rfl ti23 rfl rfl rfl rfl) rfl)) ?_
  refine rg_put (d := 4) (v := .d (.fl (.bool (vW w)))) rfl (og rfl (op_call rfl Try.func36 nm36 rfl (.cons rfl (.d _) .nil) (vW28 w) rfl)) ?_
  refine rg_put (d := 5) (v := .d (.fl (.bool (vW w)))) rfl (og rfl (op_move rfl rfl rfl)) ?_
  rcases fot (vW w) with h1 | h1
  · skip
    refine rg_put (d := 6) (v := .d (.ag (eWd w))) rfl (oy rfl rfl rfl h1 (of_eff (s_load_pts rfl Try.underlying23 rfl ti23 rfl rfl rfl rfl) rfl)) ?_
    refine rg_put (d := 7) (v := .d (.ag (eWd (Wd.mk 0 0 0)))) rfl (oy rfl rfl rfl h1 (of_eff (op_build rfl Try.underlying23 ti23 rfl (by kernel_rfl) (by kernel_rfl) (pl := #[(0, 1), (1, 1), (2, 1)]) (by kernel_rfl) .nil rfl) rfl)) ?_
    refine rg_put (d := 8) (v := .d (.fl (.bool ((eW w (Wd.mk 0 0 0)))))) rfl (oy rfl rfl rfl h1 (op_eqS [.int .i64 w.days, .int .i64 w.fr, .int .i64 w.to] [.int .i64 ((Wd.mk 0 0 0).days), .int .i64 ((Wd.mk 0 0 0).fr), .int .i64 ((Wd.mk 0 0 0).to)] rfl rfl rfl (b := (eW w (Wd.mk 0 0 0))) (fun ww => eqlG23 w (Wd.mk 0 0 0) _ _ ww) rfl)) ?_
    refine rg_put (d := 9) (v := .d (.fl (.bool ((eW w (Wd.mk 0 0 0)))))) rfl (og rfl (op_pick rfl rfl (by rw [h1]; rfl) rfl)) ?_
    refine rg_put (d := 2) (v := .d (.fl (.bool ((eW w (Wd.mk 0 0 0)))))) rfl (og rfl (op_assign rfl rfl rfl)) ?_
    refine rg_done rfl ?_
    refine a_ret ?_
    show ∃ ds, ResL _ _ _ ds ∧ RV.of ds = _
    refine ⟨[.fl (.bool ((eW w (Wd.mk 0 0 0))))], (.cons (.tmp rfl (.d _)) .nil), ?_⟩
    first
      | (have hu : wok w = (eW w (Wd.mk 0 0 0)) := by
          unfold wok; simp only [h1, Bool.true_or, Bool.false_or, Bool.or_true, Bool.or_false, Bool.not_true, Bool.not_false, cond_true, cond_false, Bool.true_and, Bool.false_and, Bool.and_true, Bool.and_false] <;> rfl
         rw [hu]; rfl)
      | (exfalso; omega)
  · skip
    refine rg_put (d := 6) (v := .d (.fl undef)) rfl (on rfl rfl rfl h1) ?_
    refine rg_put (d := 7) (v := .d (.fl undef)) rfl (on rfl rfl rfl h1) ?_
    refine rg_put (d := 8) (v := .d (.fl undef)) rfl (on rfl rfl rfl h1) ?_
    refine rg_put (d := 9) (v := .d (.fl (.bool true))) rfl (og rfl (op_pick rfl rfl (by rw [h1]; rfl) rfl)) ?_
    refine rg_put (d := 2) (v := .d (.fl (.bool true))) rfl (og rfl (op_assign rfl rfl rfl)) ?_
    refine rg_done rfl ?_
    refine a_ret ?_
    show ∃ ds, ResL _ _ _ ds ∧ RV.of ds = _
    refine ⟨[.fl (.bool true)], (.cons (.tmp rfl (.d _)) .nil), ?_⟩
    first
      | (have hu : wok w = true := by
          unfold wok; simp only [h1, Bool.true_or, Bool.false_or, Bool.or_true, Bool.or_false, Bool.not_true, Bool.not_false, cond_true, cond_false, Bool.true_and, Bool.false_and, Bool.and_true, Bool.and_false] <;> rfl
         rw [hu]; rfl)
      | (exfalso; omega)
set_option maxHeartbeats 4000000 in
set_option maxRecDepth 100000 in
theorem mostV (k : Int) : Ctr Try.prog 22 [.fl (.int .i64 k)] (.d (.fl (.int .i64 (most k)))) := by
  refine ctr (n := 8) (rs := #[.tmp 2]) (L := [(0, .d (.fl (.int .i64 k)))]) Try.func22 rfl rfl rfl rfl rfl (fun w0 U0 => ?_)
  refine a_rseq ?_
  refine rg_put (d := 2) (v := .d (.fl (.int .i64 0))) rfl (og rfl (op_assign rfl rfl rfl)) ?_
  refine rg_done rfl ?_
  refine a_seq ?_
  refine a_rseq ?_
  refine rg_put (d := 3) (v := .d (.fl (.int .i64 k))) rfl (og rfl (op_move rfl rfl rfl)) ?_
  refine rg_done rfl ?_
  refine a_block ?_
  refine a_rseq ?_
  refine rg_put (d := 5) (v := .d (.fl (.bool (k == 1)))) rfl (og rfl (op_bin rfl rfl rfl (b_eql _ _ _ _) rfl)) ?_
  refine rg_put (d := 4) (v := .d (.fl (.bool (k == 1)))) rfl (og rfl (op_assign rfl rfl rfl)) ?_
  refine rg_done rfl ?_
  refine a_cond rfl (fun h1 => ?_) (fun h1 => ?_)
  · skip
    have h2 := t_beq h1
    refine a_rseq ?_
    refine rg_put (d := 2) (v := .d (.fl (.int .i64 1000))) rfl (og rfl (op_assign rfl rfl rfl)) ?_
    refine rg_done rfl ?_
    refine a_ret ?_
    show ∃ ds, ResL _ _ _ ds ∧ RV.of ds = _
    refine ⟨[.fl (.int .i64 1000)], (.cons (.tmp rfl (.d _)) .nil), ?_⟩
    have hu : most k = 1000 := by unfold most; omega
    rw [hu]; rfl
  · skip
    have h3 := f_beq h1
    refine a_rseq ?_
    refine rg_put (d := 7) (v := .d (.fl (.bool (k == 2)))) rfl (og rfl (op_bin rfl rfl rfl (b_eql _ _ _ _) rfl)) ?_
    refine rg_put (d := 6) (v := .d (.fl (.bool (k == 2)))) rfl (og rfl (op_assign rfl rfl rfl)) ?_
    refine rg_done rfl ?_
    refine a_cond rfl (fun h4 => ?_) (fun h4 => ?_)
    · skip
      have h5 := t_beq h4
      refine a_rseq ?_
      refine rg_put (d := 2) (v := .d (.fl (.int .i64 1125899906842624))) rfl (og rfl (op_assign rfl rfl rfl)) ?_
      refine rg_done rfl ?_
      refine a_ret ?_
      show ∃ ds, ResL _ _ _ ds ∧ RV.of ds = _
      refine ⟨[.fl (.int .i64 1125899906842624)], (.cons (.tmp rfl (.d _)) .nil), ?_⟩
      have hu : most k = 1125899906842624 := by unfold most; omega
      rw [hu]; rfl
    · skip
      have h6 := f_beq h4
      refine a_skip ?_
      show A _ _ _ _ _ _ _
      refine a_rseq ?_
      refine rg_put (d := 2) (v := .d (.fl (.int .i64 0))) rfl (og rfl (op_assign rfl rfl rfl)) ?_
      refine rg_done rfl ?_
      refine a_ret ?_
      show ∃ ds, ResL _ _ _ ds ∧ RV.of ds = _
      refine ⟨[.fl (.int .i64 0)], (.cons (.tmp rfl (.d _)) .nil), ?_⟩
      have hu : most k = 0 := by unfold most; omega
      rw [hu]; rfl
set_option maxHeartbeats 4000000 in
set_option maxRecDepth 100000 in
theorem amV (d : Di) : Ctr Try.prog 25 [.ag (eDi d)] (.d (.fl (.bool (am d)))) := by
  refine ctr (n := 28) (rs := #[.tmp 2]) (L := [(0, .d (.ag (eDi d)))]) Try.func25 rfl rfl rfl rfl rfl (fun w0 U0 => ?_)
  refine a_rseq ?_
  refine rg_nam (d := 1) (v := .pt 101 0) (m := 101) (nw := [(101, .bx 25 (eDi d))]) rfl (og rfl (of_eff (op_box 101 rfl rfl rfl rfl) rfl)) rfl ?_
  refine rg_put (d := 2) (v := .d (.fl (.bool false))) rfl (og rfl (op_assign rfl rfl rfl)) ?_
  refine rg_done rfl ?_
  refine a_seq ?_
  refine a_rseq ?_
  refine rg_put (d := 3) (v := .pt 101 1) rfl (og rfl (of_eff (s_field_pt rfl Try.underlying25 rfl ti3 rfl rfl rfl) rfl)) ?_
  refine rg_put (d := 4) (v := .d (.fl (.int .i64 d.kind))) rfl (og rfl (op_load_pt rfl Try.underlying3 rfl rfl rfl rfl rfl)) ?_
  refine rg_put (d := 5) (v := .d (.fl (.bool (d.kind == 1)))) rfl (og rfl (op_bin rfl rfl rfl (b_eql _ _ _ _) rfl)) ?_
  refine rg_done rfl ?_
  refine a_cond rfl (fun h1 => ?_) (fun h1 => ?_)
  · skip
    have h2 := t_beq h1
    refine a_rseq ?_
    refine rg_put (d := 6) (v := .pt 101 2) rfl (og rfl (of_eff (s_field_pt rfl Try.underlying25 rfl ti3 rfl rfl rfl) rfl)) ?_
    refine rg_put (d := 7) (v := .d (.fl (.int .i64 d.amount))) rfl (og rfl (op_load_pt rfl Try.underlying3 rfl rfl rfl rfl rfl)) ?_
    refine rg_put (d := 8) (v := .d (.fl (.bool ((decide (0 ≤ d.amount)))))) rfl (og rfl (op_bin rfl rfl rfl (b_geq _ _ _ _) rfl)) ?_
    refine rg_put (d := 9) (v := .d (.fl (.bool ((decide (0 ≤ d.amount)))))) rfl (og rfl (op_move rfl rfl rfl)) ?_
    rcases fot ((decide (0 ≤ d.amount))) with h3 | h3
    · skip
      have h4 := f_dec h3
      refine rg_put (d := 10) (v := .d (.fl undef)) rfl (on rfl rfl rfl h3) ?_
      refine rg_put (d := 11) (v := .d (.fl undef)) rfl (on rfl rfl rfl h3) ?_
      refine rg_put (d := 12) (v := .d (.fl undef)) rfl (on rfl rfl rfl h3) ?_
      refine rg_put (d := 13) (v := .d (.fl (.bool false))) rfl (og rfl (op_pick rfl rfl (by rw [h3]; rfl) rfl)) ?_
      refine rg_put (d := 2) (v := .d (.fl (.bool false))) rfl (og rfl (op_assign rfl rfl rfl)) ?_
      refine rg_done rfl ?_
      refine a_ret ?_
      show ∃ ds, ResL _ _ _ ds ∧ RV.of ds = _
      refine ⟨[.fl (.bool false)], (.cons (.tmp rfl (.d _)) .nil), ?_⟩
      have hm : most d.kind = 1000 := by unfold most; omega
      have hu : am d = false := by rw [Bool.eq_iff_iff]; simp [am, hm] <;> omega
      rw [hu]; rfl
    · skip
      have h5 := t_dec h3
      refine rg_put (d := 10) (v := .pt 101 2) rfl (oy rfl rfl rfl h3 (of_eff (s_field_pt rfl Try.underlying25 rfl ti3 rfl rfl rfl) rfl)) ?_
      refine rg_put (d := 11) (v := .d (.fl (.int .i64 d.amount))) rfl (oy rfl rfl rfl h3 (op_load_pt rfl Try.underlying3 rfl rfl rfl rfl rfl)) ?_
      refine rg_put (d := 12) (v := .d (.fl (.bool ((decide (d.amount ≤ 1000)))))) rfl (oy rfl rfl rfl h3 (op_bin rfl rfl rfl (b_leq _ _ _ _) rfl)) ?_
      refine rg_put (d := 13) (v := .d (.fl (.bool ((decide (d.amount ≤ 1000)))))) rfl (og rfl (op_pick rfl rfl (by rw [h3]; rfl) rfl)) ?_
      refine rg_put (d := 2) (v := .d (.fl (.bool ((decide (d.amount ≤ 1000)))))) rfl (og rfl (op_assign rfl rfl rfl)) ?_
      refine rg_done rfl ?_
      refine a_ret ?_
      show ∃ ds, ResL _ _ _ ds ∧ RV.of ds = _
      refine ⟨[.fl (.bool ((decide (d.amount ≤ 1000))))], (.cons (.tmp rfl (.d _)) .nil), ?_⟩
      have hm : most d.kind = 1000 := by unfold most; omega
      have hu : am d = (decide (d.amount ≤ 1000)) := by rw [Bool.eq_iff_iff]; simp [am, hm] <;> omega
      rw [hu]; rfl
  · skip
    have h6 := f_beq h1
    refine a_skip ?_
    show A _ _ _ _ _ _ _
    refine a_seq ?_
    refine a_rseq ?_
    refine rg_put (d := 14) (v := .pt 101 1) rfl (og rfl (of_eff (s_field_pt rfl Try.underlying25 rfl ti3 rfl rfl rfl) rfl)) ?_
    refine rg_put (d := 15) (v := .d (.fl (.int .i64 d.kind))) rfl (og rfl (op_load_pt rfl Try.underlying3 rfl rfl rfl rfl rfl)) ?_
    refine rg_put (d := 16) (v := .d (.fl (.bool (d.kind == 2)))) rfl (og rfl (op_bin rfl rfl rfl (b_eql _ _ _ _) rfl)) ?_
    refine rg_done rfl ?_
    refine a_cond rfl (fun h7 => ?_) (fun h7 => ?_)
    · skip
      have h8 := t_beq h7
      refine a_rseq ?_
      refine rg_put (d := 17) (v := .pt 101 2) rfl (og rfl (of_eff (s_field_pt rfl Try.underlying25 rfl ti3 rfl rfl rfl) rfl)) ?_
      refine rg_put (d := 18) (v := .d (.fl (.int .i64 d.amount))) rfl (og rfl (op_load_pt rfl Try.underlying3 rfl rfl rfl rfl rfl)) ?_
      refine rg_put (d := 19) (v := .d (.fl (.bool ((decide (0 ≤ d.amount)))))) rfl (og rfl (op_bin rfl rfl rfl (b_geq _ _ _ _) rfl)) ?_
      refine rg_put (d := 20) (v := .d (.fl (.bool ((decide (0 ≤ d.amount)))))) rfl (og rfl (op_move rfl rfl rfl)) ?_
      rcases fot ((decide (0 ≤ d.amount))) with h9 | h9
      · skip
        have h10 := f_dec h9
        refine rg_put (d := 21) (v := .d (.fl undef)) rfl (on rfl rfl rfl h9) ?_
        refine rg_put (d := 22) (v := .d (.fl undef)) rfl (on rfl rfl rfl h9) ?_
        refine rg_put (d := 23) (v := .d (.fl undef)) rfl (on rfl rfl rfl h9) ?_
        refine rg_put (d := 24) (v := .d (.fl (.bool false))) rfl (og rfl (op_pick rfl rfl (by rw [h9]; rfl) rfl)) ?_
        refine rg_put (d := 2) (v := .d (.fl (.bool false))) rfl (og rfl (op_assign rfl rfl rfl)) ?_
        refine rg_done rfl ?_
        refine a_ret ?_
        show ∃ ds, ResL _ _ _ ds ∧ RV.of ds = _
        refine ⟨[.fl (.bool false)], (.cons (.tmp rfl (.d _)) .nil), ?_⟩
        have hm : most d.kind = 1125899906842624 := by unfold most; omega
        have hu : am d = false := by rw [Bool.eq_iff_iff]; simp [am, hm] <;> omega
        rw [hu]; rfl
      · skip
        have h11 := t_dec h9
        refine rg_put (d := 21) (v := .pt 101 2) rfl (oy rfl rfl rfl h9 (of_eff (s_field_pt rfl Try.underlying25 rfl ti3 rfl rfl rfl) rfl)) ?_
        refine rg_put (d := 22) (v := .d (.fl (.int .i64 d.amount))) rfl (oy rfl rfl rfl h9 (op_load_pt rfl Try.underlying3 rfl rfl rfl rfl rfl)) ?_
        refine rg_put (d := 23) (v := .d (.fl (.bool ((decide (d.amount ≤ 1125899906842624)))))) rfl (oy rfl rfl rfl h9 (op_bin rfl rfl rfl (b_leq _ _ _ _) rfl)) ?_
        refine rg_put (d := 24) (v := .d (.fl (.bool ((decide (d.amount ≤ 1125899906842624)))))) rfl (og rfl (op_pick rfl rfl (by rw [h9]; rfl) rfl)) ?_
        refine rg_put (d := 2) (v := .d (.fl (.bool ((decide (d.amount ≤ 1125899906842624)))))) rfl (og rfl (op_assign rfl rfl rfl)) ?_
        refine rg_done rfl ?_
        refine a_ret ?_
        show ∃ ds, ResL _ _ _ ds ∧ RV.of ds = _
        refine ⟨[.fl (.bool ((decide (d.amount ≤ 1125899906842624))))], (.cons (.tmp rfl (.d _)) .nil), ?_⟩
        have hm : most d.kind = 1125899906842624 := by unfold most; omega
        have hu : am d = (decide (d.amount ≤ 1125899906842624)) := by rw [Bool.eq_iff_iff]; simp [am, hm] <;> omega
        rw [hu]; rfl
    · skip
      have h12 := f_beq h7
      refine a_skip ?_
      show A _ _ _ _ _ _ _
      refine a_rseq ?_
      refine rg_put (d := 25) (v := .pt 101 2) rfl (og rfl (of_eff (s_field_pt rfl Try.underlying25 rfl ti3 rfl rfl rfl) rfl)) ?_
      refine rg_put (d := 26) (v := .d (.fl (.int .i64 d.amount))) rfl (og rfl (op_load_pt rfl Try.underlying3 rfl rfl rfl rfl rfl)) ?_
      refine rg_put (d := 27) (v := .d (.fl (.bool (d.amount == 0)))) rfl (og rfl (op_bin rfl rfl rfl (b_eql _ _ _ _) rfl)) ?_
      refine rg_put (d := 2) (v := .d (.fl (.bool (d.amount == 0)))) rfl (og rfl (op_assign rfl rfl rfl)) ?_
      refine rg_done rfl ?_
      refine a_ret ?_
      show ∃ ds, ResL _ _ _ ds ∧ RV.of ds = _
      refine ⟨[.fl (.bool (d.amount == 0))], (.cons (.tmp rfl (.d _)) .nil), ?_⟩
      have hm : most d.kind = 0 := by unfold most; omega
      have hu : am d = (d.amount == 0) := by rw [Bool.eq_iff_iff]; simp [am, hm] <;> omega
      rw [hu]; rfl
set_option maxHeartbeats 4000000 in
set_option maxRecDepth 100000 in
theorem ndV (s : ByteArray) : Ctr Try.prog 26 [.fl (.string s)] (.d (.fl (.bool (nd s)))) := by
  refine ctr (n := 9) (rs := #[.tmp 2]) (L := [(0, .d (.fl (.string s)))]) Try.func26 rfl rfl rfl rfl rfl (fun w0 U0 => ?_)
  refine a_rseq ?_
  refine rg_put (d := 2) (v := .d (.fl (.bool false))) rfl (og rfl (op_assign rfl rfl rfl)) ?_
  refine rg_done rfl ?_
  refine a_rseq ?_
  refine rg_put (d := 3) (v := .d (.fl (.string s))) rfl (og rfl (op_move rfl rfl rfl)) ?_
  refine rg_put (d := 4) (v := .d (.fl (.bool ((sEq s (⟨#[]⟩)))))) rfl (og rfl (op_bin rfl rfl rfl (b_seq _ _ _) rfl)) ?_
  refine rg_put (d := 5) (v := .d (.fl (.bool ((sEq s (⟨#[]⟩)))))) rfl (og rfl (op_move rfl rfl rfl)) ?_
  rcases fot ((sEq s (⟨#[]⟩))) with h1 | h1
  · skip
    refine rg_put (d := 6) (v := .d (.fl (.string s))) rfl (oy rfl rfl rfl h1 (op_move rfl rfl rfl)) ?_
    refine rg_put (d := 7) (v := .d (.fl (.bool (Nm.nmB s)))) rfl (oy rfl rfl rfl h1 (op_call rfl Try.func24 nm24 rfl (.cons rfl (.d _) .nil) (nam24 s) rfl)) ?_
    refine rg_put (d := 8) (v := .d (.fl (.bool (Nm.nmB s)))) rfl (og rfl (op_pick rfl rfl (by rw [h1]; rfl) rfl)) ?_
    refine rg_put (d := 2) (v := .d (.fl (.bool (Nm.nmB s)))) rfl (og rfl (op_assign rfl rfl rfl)) ?_
    refine rg_done rfl ?_
    refine a_ret ?_
    show ∃ ds, ResL _ _ _ ds ∧ RV.of ds = _
    refine ⟨[.fl (.bool (Nm.nmB s))], (.cons (.tmp rfl (.d _)) .nil), ?_⟩
    first
      | (have hu : nd s = (Nm.nmB s) := by
          unfold nd; simp only [h1, Bool.true_or, Bool.false_or, Bool.or_true, Bool.or_false, Bool.not_true, Bool.not_false, cond_true, cond_false, Bool.true_and, Bool.false_and, Bool.and_true, Bool.and_false] <;> rfl
         rw [hu]; rfl)
      | (exfalso; omega)
  · skip
    refine rg_put (d := 6) (v := .d (.fl undef)) rfl (on rfl rfl rfl h1) ?_
    refine rg_put (d := 7) (v := .d (.fl undef)) rfl (on rfl rfl rfl h1) ?_
    refine rg_put (d := 8) (v := .d (.fl (.bool true))) rfl (og rfl (op_pick rfl rfl (by rw [h1]; rfl) rfl)) ?_
    refine rg_put (d := 2) (v := .d (.fl (.bool true))) rfl (og rfl (op_assign rfl rfl rfl)) ?_
    refine rg_done rfl ?_
    refine a_ret ?_
    show ∃ ds, ResL _ _ _ ds ∧ RV.of ds = _
    refine ⟨[.fl (.bool true)], (.cons (.tmp rfl (.d _)) .nil), ?_⟩
    first
      | (have hu : nd s = true := by
          unfold nd; simp only [h1, Bool.true_or, Bool.false_or, Bool.or_true, Bool.or_false, Bool.not_true, Bool.not_false, cond_true, cond_false, Bool.true_and, Bool.false_and, Bool.and_true, Bool.and_false] <;> rfl
         rw [hu]; rfl)
      | (exfalso; omega)
set_option maxHeartbeats 4000000 in
set_option maxRecDepth 100000 in
theorem ipV (c : Int) : Ctr Try.prog 28 [.fl (.int .i64 c)] (.d (.fl (.bool (ip c)))) := by
  refine ctr (n := 9) (rs := #[.tmp 2]) (L := [(0, .d (.fl (.int .i64 c)))]) Try.func28 rfl rfl rfl rfl rfl (fun w0 U0 => ?_)
  refine a_rseq ?_
  refine rg_put (d := 2) (v := .d (.fl (.bool false))) rfl (og rfl (op_assign rfl rfl rfl)) ?_
  refine rg_done rfl ?_
  refine a_rseq ?_
  refine rg_put (d := 3) (v := .d (.fl (.int .i64 c))) rfl (og rfl (op_move rfl rfl rfl)) ?_
  refine rg_put (d := 4) (v := .d (.fl (.bool ((decide (0 ≤ c)))))) rfl (og rfl (op_bin rfl rfl rfl (b_leq _ _ _ _) rfl)) ?_
  refine rg_put (d := 5) (v := .d (.fl (.bool ((decide (0 ≤ c)))))) rfl (og rfl (op_move rfl rfl rfl)) ?_
  rcases fot ((decide (0 ≤ c))) with h1 | h1
  · skip
    have h2 := f_dec h1
    refine rg_put (d := 6) (v := .d (.fl undef)) rfl (on rfl rfl rfl h1) ?_
    refine rg_put (d := 7) (v := .d (.fl undef)) rfl (on rfl rfl rfl h1) ?_
    refine rg_put (d := 8) (v := .d (.fl (.bool false))) rfl (og rfl (op_pick rfl rfl (by rw [h1]; rfl) rfl)) ?_
    refine rg_put (d := 2) (v := .d (.fl (.bool false))) rfl (og rfl (op_assign rfl rfl rfl)) ?_
    refine rg_done rfl ?_
    refine a_ret ?_
    show ∃ ds, ResL _ _ _ ds ∧ RV.of ds = _
    refine ⟨[.fl (.bool false)], (.cons (.tmp rfl (.d _)) .nil), ?_⟩
    first
      | (have hu : ip c = false := by
          unfold ip; simp only [h1, Bool.true_or, Bool.false_or, Bool.or_true, Bool.or_false, Bool.not_true, Bool.not_false, cond_true, cond_false, Bool.true_and, Bool.false_and, Bool.and_true, Bool.and_false] <;> rfl
         rw [hu]; rfl)
      | (exfalso; omega)
  · skip
    have h3 := t_dec h1
    refine rg_put (d := 6) (v := .d (.fl (.int .i64 c))) rfl (oy rfl rfl rfl h1 (op_move rfl rfl rfl)) ?_
    refine rg_put (d := 7) (v := .d (.fl (.bool ((decide (c ≤ 1125899906842624)))))) rfl (oy rfl rfl rfl h1 (op_bin rfl rfl rfl (b_leq _ _ _ _) rfl)) ?_
    refine rg_put (d := 8) (v := .d (.fl (.bool ((decide (c ≤ 1125899906842624)))))) rfl (og rfl (op_pick rfl rfl (by rw [h1]; rfl) rfl)) ?_
    refine rg_put (d := 2) (v := .d (.fl (.bool ((decide (c ≤ 1125899906842624)))))) rfl (og rfl (op_assign rfl rfl rfl)) ?_
    refine rg_done rfl ?_
    refine a_ret ?_
    show ∃ ds, ResL _ _ _ ds ∧ RV.of ds = _
    refine ⟨[.fl (.bool ((decide (c ≤ 1125899906842624))))], (.cons (.tmp rfl (.d _)) .nil), ?_⟩
    first
      | (have hu : ip c = (decide (c ≤ 1125899906842624)) := by
          unfold ip; simp only [h1, Bool.true_or, Bool.false_or, Bool.or_true, Bool.or_false, Bool.not_true, Bool.not_false, cond_true, cond_false, Bool.true_and, Bool.false_and, Bool.and_true, Bool.and_false] <;> rfl
         rw [hu]; rfl)
      | (exfalso; omega)
set_option maxHeartbeats 4000000 in
set_option maxRecDepth 100000 in
theorem ckV (d : Di) : Ctr Try.prog 8 [.ag (eDi d)] (.d (.fl (.int .i64 (ck d)))) := by
  refine ctr (n := 72) (rs := #[.tmp 2]) (L := [(0, .d (.ag (eDi d)))]) Try.func8 rfl rfl rfl rfl rfl (fun w0 U0 => ?_)
  refine a_rseq ?_
  refine rg_nam (d := 1) (v := .pt 101 0) (m := 101) (nw := [(101, .bx 25 (eDi d))]) rfl (og rfl (of_eff (op_box 101 rfl rfl rfl rfl) rfl)) rfl ?_
  refine rg_put (d := 2) (v := .d (.fl (.int .i64 0))) rfl (og rfl (op_assign rfl rfl rfl)) ?_
  refine rg_done rfl ?_
  refine a_seq ?_
  refine a_block ?_
  refine a_rseq ?_
  refine rg_put (d := 4) (v := .pt 101 0) rfl (og rfl (of_eff (s_field_pt rfl Try.underlying25 rfl ti9 rfl rfl rfl) rfl)) ?_
  refine rg_put (d := 5) (v := .d (.fl (.string d.name))) rfl (og rfl (op_load_pt rfl Try.underlying9 rfl rfl rfl rfl rfl)) ?_
  refine rg_put (d := 6) (v := .d (.fl (.bool (Nm.nmB d.name)))) rfl (og rfl (op_call rfl Try.func21 nm21 rfl (.cons rfl (.d _) .nil) (nam21 d.name) rfl)) ?_
  refine rg_put (d := 7) (v := .d (.fl (.bool ((!(Nm.nmB d.name)))))) rfl (og rfl (op_un rfl rfl (u_not _) rfl)) ?_
  refine rg_put (d := 3) (v := .d (.fl (.bool ((!(Nm.nmB d.name)))))) rfl (og rfl (op_assign rfl rfl rfl)) ?_
  refine rg_done rfl ?_
  refine a_cond rfl (fun h1 => ?_) (fun h1 => ?_)
  · skip
    have h2 := t_not h1
    refine a_rseq ?_
    refine rg_put (d := 2) (v := .d (.fl (.int .i64 6))) rfl (og rfl (op_assign rfl rfl rfl)) ?_
    refine rg_done rfl ?_
    refine a_ret ?_
    show ∃ ds, ResL _ _ _ ds ∧ RV.of ds = _
    refine ⟨[.fl (.int .i64 6)], (.cons (.tmp rfl (.d _)) .nil), ?_⟩
    first
      | (have hu : ck d = 6 := by
          unfold ck am nd; simp only [h1, h2, Bool.true_or, Bool.false_or, Bool.or_true, Bool.or_false, Bool.not_true, Bool.not_false, cond_true, cond_false, Bool.true_and, Bool.false_and, Bool.and_true, Bool.and_false] <;> rfl
         rw [hu]; rfl)
      | (exfalso; omega)
  · skip
    have h3 := f_not h1
    refine a_rseq ?_
    refine rg_put (d := 9) (v := .pt 101 1) rfl (og rfl (of_eff (s_field_pt rfl Try.underlying25 rfl ti3 rfl rfl rfl) rfl)) ?_
    refine rg_put (d := 10) (v := .d (.fl (.int .i64 d.kind))) rfl (og rfl (op_load_pt rfl Try.underlying3 rfl rfl rfl rfl rfl)) ?_
    refine rg_put (d := 11) (v := .d (.fl (.bool ((decide (d.kind < 1)))))) rfl (og rfl (op_bin rfl rfl rfl (b_lss _ _ _ _) rfl)) ?_
    refine rg_put (d := 12) (v := .d (.fl (.bool ((decide (d.kind < 1)))))) rfl (og rfl (op_move rfl rfl rfl)) ?_
    rcases fot ((decide (d.kind < 1))) with h4 | h4
    · skip
      have h5 := f_dec h4
      refine rg_put (d := 13) (v := .pt 101 1) rfl (oy rfl rfl rfl h4 (of_eff (s_field_pt rfl Try.underlying25 rfl ti3 rfl rfl rfl) rfl)) ?_
      refine rg_put (d := 14) (v := .d (.fl (.int .i64 d.kind))) rfl (oy rfl rfl rfl h4 (op_load_pt rfl Try.underlying3 rfl rfl rfl rfl rfl)) ?_
      refine rg_put (d := 15) (v := .d (.fl (.bool ((decide (3 < d.kind)))))) rfl (oy rfl rfl rfl h4 (op_bin rfl rfl rfl (b_gtr _ _ _ _) rfl)) ?_
      refine rg_put (d := 16) (v := .d (.fl (.bool ((decide (3 < d.kind)))))) rfl (og rfl (op_pick rfl rfl (by rw [h4]; rfl) rfl)) ?_
      refine rg_put (d := 8) (v := .d (.fl (.bool ((decide (3 < d.kind)))))) rfl (og rfl (op_assign rfl rfl rfl)) ?_
      refine rg_done rfl ?_
      refine a_cond rfl (fun h6 => ?_) (fun h6 => ?_)
      · skip
        have h7 := t_dec h6
        refine a_rseq ?_
        refine rg_put (d := 2) (v := .d (.fl (.int .i64 1))) rfl (og rfl (op_assign rfl rfl rfl)) ?_
        refine rg_done rfl ?_
        refine a_ret ?_
        show ∃ ds, ResL _ _ _ ds ∧ RV.of ds = _
        refine ⟨[.fl (.int .i64 1)], (.cons (.tmp rfl (.d _)) .nil), ?_⟩
        first
          | (have hu : ck d = 1 := by
              unfold ck am nd; simp only [h1, h3, h4, h6, Bool.true_or, Bool.false_or, Bool.or_true, Bool.or_false, Bool.not_true, Bool.not_false, cond_true, cond_false, Bool.true_and, Bool.false_and, Bool.and_true, Bool.and_false] <;> rfl
             rw [hu]; rfl)
          | (exfalso; omega)
      · skip
        have h8 := f_dec h6
        refine a_dseq (by kernel_rfl) ?_
        refine dr_put (d := 18) (v := .pt 101 2) rfl (og rfl (of_eff (s_field_pt rfl Try.underlying25 rfl ti3 rfl rfl rfl) rfl)) ?_
        refine dr_put (d := 19) (v := .d (.fl (.int .i64 d.amount))) rfl (og rfl (op_load_pt rfl Try.underlying3 rfl rfl rfl rfl rfl)) ?_
        refine dr_put (d := 20) (v := .d (.fl (.bool ((decide (d.amount < 0)))))) rfl (og rfl (op_bin rfl rfl rfl (b_lss _ _ _ _) rfl)) ?_
        refine dr_put (d := 21) (v := .d (.fl (.bool ((decide (d.amount < 0)))))) rfl (og rfl (op_move rfl rfl rfl)) ?_
        rcases fot ((decide (d.amount < 0))) with h9 | h9
        · skip
          have h10 := f_dec h9
          refine dr_put (d := 22) (v := .pt 101 2) rfl (oy rfl rfl rfl h9 (of_eff (s_field_pt rfl Try.underlying25 rfl ti3 rfl rfl rfl) rfl)) ?_
          refine dr_put (d := 23) (v := .d (.fl (.int .i64 d.amount))) rfl (oy rfl rfl rfl h9 (op_load_pt rfl Try.underlying3 rfl rfl rfl rfl rfl)) ?_
          refine dr_put (d := 24) (v := .pt 101 1) rfl (oy rfl rfl rfl h9 (of_eff (s_field_pt rfl Try.underlying25 rfl ti3 rfl rfl rfl) rfl)) ?_
          refine dr_put (d := 25) (v := .d (.fl (.int .i64 d.kind))) rfl (oy rfl rfl rfl h9 (op_load_pt rfl Try.underlying3 rfl rfl rfl rfl rfl)) ?_
          refine dr_put (d := 26) (v := .d (.fl (.int .i64 (most d.kind)))) rfl (oy rfl rfl rfl h9 (op_call rfl Try.func22 nm22 rfl (.cons rfl (.d _) .nil) (mostV d.kind) rfl)) ?_
          refine dr_put (d := 27) (v := .d (.fl (.bool ((decide ((most d.kind) < d.amount)))))) rfl (oy rfl rfl rfl h9 (op_bin rfl rfl rfl (b_gtr _ _ _ _) rfl)) ?_
          refine dr_put (d := 28) (v := .d (.fl (.bool ((decide ((most d.kind) < d.amount)))))) rfl (og rfl (op_pick rfl rfl (by rw [h9]; rfl) rfl)) ?_
          refine dr_put (d := 17) (v := .d (.fl (.bool ((decide ((most d.kind) < d.amount)))))) rfl (og rfl (op_assign rfl rfl rfl)) ?_
          refine dr_done rfl (by kernel_rfl) (by kernel_rfl) ?_
          refine a_cond rfl (fun h11 => ?_) (fun h11 => ?_)
          · skip
            have h12 := t_dec h11
            refine a_rseq ?_
            refine rg_put (d := 2) (v := .d (.fl (.int .i64 1))) rfl (og rfl (op_assign rfl rfl rfl)) ?_
            refine rg_done rfl ?_
            refine a_ret ?_
            show ∃ ds, ResL _ _ _ ds ∧ RV.of ds = _
            refine ⟨[.fl (.int .i64 1)], (.cons (.tmp rfl (.d _)) .nil), ?_⟩
            first
              | (have hu : ck d = 1 := by
                  unfold ck am nd; simp only [h1, h3, h4, h6, h9, h11, Bool.true_or, Bool.false_or, Bool.or_true, Bool.or_false, Bool.not_true, Bool.not_false, cond_true, cond_false, Bool.true_and, Bool.false_and, Bool.and_true, Bool.and_false] <;> rfl
                 rw [hu]; rfl)
              | (exfalso; omega)
          · skip
            have h13 := f_dec h11
            refine a_rseq ?_
            refine rg_put (d := 30) (v := .pt 101 3) rfl (og rfl (of_eff (s_field_pt rfl Try.underlying25 rfl ti9 rfl rfl rfl) rfl)) ?_
            refine rg_put (d := 31) (v := .d (.fl (.string d.group))) rfl (og rfl (op_load_pt rfl Try.underlying9 rfl rfl rfl rfl rfl)) ?_
            refine rg_put (d := 32) (v := .d (.fl (.bool ((!(sEq d.group (⟨#[]⟩))))))) rfl (og rfl (op_bin rfl rfl rfl (b_sne _ _ _) rfl)) ?_
            refine rg_put (d := 33) (v := .d (.fl (.bool ((!(sEq d.group (⟨#[]⟩))))))) rfl (og rfl (op_move rfl rfl rfl)) ?_
            rcases fot ((!(sEq d.group (⟨#[]⟩)))) with h14 | h14
            · skip
              have h15 := f_not h14
              refine rg_put (d := 34) (v := .d (.fl undef)) rfl (on rfl rfl rfl h14) ?_
              refine rg_put (d := 35) (v := .d (.fl undef)) rfl (on rfl rfl rfl h14) ?_
              refine rg_put (d := 36) (v := .d (.fl undef)) rfl (on rfl rfl rfl h14) ?_
              refine rg_put (d := 37) (v := .d (.fl undef)) rfl (on rfl rfl rfl h14) ?_
              refine rg_put (d := 38) (v := .d (.fl (.bool false))) rfl (og rfl (op_pick rfl rfl (by rw [h14]; rfl) rfl)) ?_
              refine rg_put (d := 29) (v := .d (.fl (.bool false))) rfl (og rfl (op_assign rfl rfl rfl)) ?_
              refine rg_done rfl ?_
              refine a_condF rfl rfl ?_
              refine a_rseq ?_
              refine rg_put (d := 40) (v := .pt 101 4) rfl (og rfl (of_eff (s_field_pt rfl Try.underlying25 rfl ti9 rfl rfl rfl) rfl)) ?_
              refine rg_put (d := 41) (v := .d (.fl (.string d.sys))) rfl (og rfl (op_load_pt rfl Try.underlying9 rfl rfl rfl rfl rfl)) ?_
              refine rg_put (d := 42) (v := .d (.fl (.bool ((!(sEq d.sys (⟨#[]⟩))))))) rfl (og rfl (op_bin rfl rfl rfl (b_sne _ _ _) rfl)) ?_
              refine rg_put (d := 43) (v := .d (.fl (.bool ((!(sEq d.sys (⟨#[]⟩))))))) rfl (og rfl (op_move rfl rfl rfl)) ?_
              rcases fot ((!(sEq d.sys (⟨#[]⟩)))) with h16 | h16
              · skip
                have h17 := f_not h16
                refine rg_put (d := 44) (v := .d (.fl undef)) rfl (on rfl rfl rfl h16) ?_
                refine rg_put (d := 45) (v := .d (.fl undef)) rfl (on rfl rfl rfl h16) ?_
                refine rg_put (d := 46) (v := .d (.fl undef)) rfl (on rfl rfl rfl h16) ?_
                refine rg_put (d := 47) (v := .d (.fl undef)) rfl (on rfl rfl rfl h16) ?_
                refine rg_put (d := 48) (v := .d (.fl (.bool false))) rfl (og rfl (op_pick rfl rfl (by rw [h16]; rfl) rfl)) ?_
                refine rg_put (d := 39) (v := .d (.fl (.bool false))) rfl (og rfl (op_assign rfl rfl rfl)) ?_
                refine rg_done rfl ?_
                refine a_condF rfl rfl ?_
                refine a_rseq ?_
                refine rg_put (d := 50) (v := .pt 101 5) rfl (og rfl (of_eff (s_field_pt rfl Try.underlying25 rfl ti3 rfl rfl rfl) rfl)) ?_
                refine rg_put (d := 51) (v := .d (.fl (.int .i64 d.cls))) rfl (og rfl (op_load_pt rfl Try.underlying3 rfl rfl rfl rfl rfl)) ?_
                refine rg_put (d := 52) (v := .d (.fl (.bool ((decide (d.cls < 0)))))) rfl (og rfl (op_bin rfl rfl rfl (b_lss _ _ _ _) rfl)) ?_
                refine rg_put (d := 53) (v := .d (.fl (.bool ((decide (d.cls < 0)))))) rfl (og rfl (op_move rfl rfl rfl)) ?_
                rcases fot ((decide (d.cls < 0))) with h18 | h18
                · skip
                  have h19 := f_dec h18
                  refine rg_put (d := 54) (v := .pt 101 5) rfl (oy rfl rfl rfl h18 (of_eff (s_field_pt rfl Try.underlying25 rfl ti3 rfl rfl rfl) rfl)) ?_
                  refine rg_put (d := 55) (v := .d (.fl (.int .i64 d.cls))) rfl (oy rfl rfl rfl h18 (op_load_pt rfl Try.underlying3 rfl rfl rfl rfl rfl)) ?_
                  refine rg_put (d := 56) (v := .d (.fl (.bool ((decide (9 < d.cls)))))) rfl (oy rfl rfl rfl h18 (op_bin rfl rfl rfl (b_gtr _ _ _ _) rfl)) ?_
                  refine rg_put (d := 57) (v := .d (.fl (.bool ((decide (9 < d.cls)))))) rfl (og rfl (op_pick rfl rfl (by rw [h18]; rfl) rfl)) ?_
                  refine rg_put (d := 49) (v := .d (.fl (.bool ((decide (9 < d.cls)))))) rfl (og rfl (op_assign rfl rfl rfl)) ?_
                  refine rg_done rfl ?_
                  refine a_cond rfl (fun h20 => ?_) (fun h20 => ?_)
                  · skip
                    have h21 := t_dec h20
                    refine a_rseq ?_
                    refine rg_put (d := 2) (v := .d (.fl (.int .i64 20))) rfl (og rfl (op_assign rfl rfl rfl)) ?_
                    refine rg_done rfl ?_
                    refine a_ret ?_
                    show ∃ ds, ResL _ _ _ ds ∧ RV.of ds = _
                    refine ⟨[.fl (.int .i64 20)], (.cons (.tmp rfl (.d _)) .nil), ?_⟩
                    first
                      | (have hu : ck d = 20 := by
                          unfold ck am nd; simp only [h1, h3, h4, h6, h9, h11, h14, h15, h16, h17, h18, h20, Bool.true_or, Bool.false_or, Bool.or_true, Bool.or_false, Bool.not_true, Bool.not_false, cond_true, cond_false, Bool.true_and, Bool.false_and, Bool.and_true, Bool.and_false] <;> rfl
                         rw [hu]; rfl)
                      | (exfalso; omega)
                  · skip
                    have h22 := f_dec h20
                    refine a_rseq ?_
                    refine rg_put (d := 59) (v := .pt 101 6) rfl (og rfl (of_eff (s_field_pt rfl Try.underlying25 rfl ti23 rfl rfl rfl) rfl)) ?_
                    refine rg_put (d := 60) (v := .d (.ag (eWd d.win))) rfl (og rfl (of_eff (s_load_pts rfl Try.underlying23 rfl ti23 rfl rfl rfl rfl) rfl)) ?_
                    refine rg_put (d := 61) (v := .d (.fl (.bool (wok d.win)))) rfl (og rfl (op_call rfl Try.func23 nm23 rfl (.cons rfl (.d _) .nil) (wokV d.win) rfl)) ?_
                    refine rg_put (d := 62) (v := .d (.fl (.bool ((!(wok d.win)))))) rfl (og rfl (op_un rfl rfl (u_not _) rfl)) ?_
                    refine rg_put (d := 58) (v := .d (.fl (.bool ((!(wok d.win)))))) rfl (og rfl (op_assign rfl rfl rfl)) ?_
                    refine rg_done rfl ?_
                    refine a_cond rfl (fun h23 => ?_) (fun h23 => ?_)
                    · skip
                      have h24 := t_not h23
                      refine a_rseq ?_
                      refine rg_put (d := 2) (v := .d (.fl (.int .i64 12))) rfl (og rfl (op_assign rfl rfl rfl)) ?_
                      refine rg_done rfl ?_
                      refine a_ret ?_
                      show ∃ ds, ResL _ _ _ ds ∧ RV.of ds = _
                      refine ⟨[.fl (.int .i64 12)], (.cons (.tmp rfl (.d _)) .nil), ?_⟩
                      first
                        | (have hu : ck d = 12 := by
                            unfold ck am nd; simp only [h1, h3, h4, h6, h9, h11, h14, h15, h16, h17, h18, h20, h23, h24, Bool.true_or, Bool.false_or, Bool.or_true, Bool.or_false, Bool.not_true, Bool.not_false, cond_true, cond_false, Bool.true_and, Bool.false_and, Bool.and_true, Bool.and_false] <;> rfl
                           rw [hu]; rfl)
                        | (exfalso; omega)
                    · skip
                      have h25 := f_not h23
                      refine a_rseq ?_
                      refine rg_put (d := 64) (v := .pt 101 9) rfl (og rfl (of_eff (s_field_pt rfl Try.underlying25 rfl ti3 rfl rfl rfl) rfl)) ?_
                      refine rg_put (d := 65) (v := .d (.fl (.int .i64 d.least))) rfl (og rfl (op_load_pt rfl Try.underlying3 rfl rfl rfl rfl rfl)) ?_
                      refine rg_put (d := 66) (v := .d (.fl (.bool ((decide (d.least < 0)))))) rfl (og rfl (op_bin rfl rfl rfl (b_lss _ _ _ _) rfl)) ?_
                      refine rg_put (d := 67) (v := .d (.fl (.bool ((decide (d.least < 0)))))) rfl (og rfl (op_move rfl rfl rfl)) ?_
                      rcases fot ((decide (d.least < 0))) with h26 | h26
                      · skip
                        have h27 := f_dec h26
                        refine rg_put (d := 68) (v := .pt 101 9) rfl (oy rfl rfl rfl h26 (of_eff (s_field_pt rfl Try.underlying25 rfl ti3 rfl rfl rfl) rfl)) ?_
                        refine rg_put (d := 69) (v := .d (.fl (.int .i64 d.least))) rfl (oy rfl rfl rfl h26 (op_load_pt rfl Try.underlying3 rfl rfl rfl rfl rfl)) ?_
                        refine rg_put (d := 70) (v := .d (.fl (.bool ((decide (2147483648 < d.least)))))) rfl (oy rfl rfl rfl h26 (op_bin rfl rfl rfl (b_gtr _ _ _ _) rfl)) ?_
                        refine rg_put (d := 71) (v := .d (.fl (.bool ((decide (2147483648 < d.least)))))) rfl (og rfl (op_pick rfl rfl (by rw [h26]; rfl) rfl)) ?_
                        refine rg_put (d := 63) (v := .d (.fl (.bool ((decide (2147483648 < d.least)))))) rfl (og rfl (op_assign rfl rfl rfl)) ?_
                        refine rg_done rfl ?_
                        refine a_cond rfl (fun h28 => ?_) (fun h28 => ?_)
                        · skip
                          have h29 := t_dec h28
                          refine a_rseq ?_
                          refine rg_put (d := 2) (v := .d (.fl (.int .i64 2))) rfl (og rfl (op_assign rfl rfl rfl)) ?_
                          refine rg_done rfl ?_
                          refine a_ret ?_
                          show ∃ ds, ResL _ _ _ ds ∧ RV.of ds = _
                          refine ⟨[.fl (.int .i64 2)], (.cons (.tmp rfl (.d _)) .nil), ?_⟩
                          first
                            | (have hu : ck d = 2 := by
                                unfold ck am nd; simp only [h1, h3, h4, h6, h9, h11, h14, h15, h16, h17, h18, h20, h23, h25, h26, h28, Bool.true_or, Bool.false_or, Bool.or_true, Bool.or_false, Bool.not_true, Bool.not_false, cond_true, cond_false, Bool.true_and, Bool.false_and, Bool.and_true, Bool.and_false] <;> rfl
                               rw [hu]; rfl)
                            | (exfalso; omega)
                        · skip
                          have h30 := f_dec h28
                          refine a_skip ?_
                          show A _ _ _ _ _ _ _
                          refine a_rseq ?_
                          refine rg_put (d := 2) (v := .d (.fl (.int .i64 0))) rfl (og rfl (op_assign rfl rfl rfl)) ?_
                          refine rg_done rfl ?_
                          refine a_ret ?_
                          show ∃ ds, ResL _ _ _ ds ∧ RV.of ds = _
                          refine ⟨[.fl (.int .i64 0)], (.cons (.tmp rfl (.d _)) .nil), ?_⟩
                          first
                            | (have hu : ck d = 0 := by
                                unfold ck am nd; simp only [h1, h3, h4, h6, h9, h11, h14, h15, h16, h17, h18, h20, h23, h25, h26, h28, Bool.true_or, Bool.false_or, Bool.or_true, Bool.or_false, Bool.not_true, Bool.not_false, cond_true, cond_false, Bool.true_and, Bool.false_and, Bool.and_true, Bool.and_false] <;> rfl
                               rw [hu]; rfl)
                            | (exfalso; omega)
                      · skip
                        have h31 := t_dec h26
                        refine rg_put (d := 68) (v := .d (.fl undef)) rfl (on rfl rfl rfl h26) ?_
                        refine rg_put (d := 69) (v := .d (.fl undef)) rfl (on rfl rfl rfl h26) ?_
                        refine rg_put (d := 70) (v := .d (.fl undef)) rfl (on rfl rfl rfl h26) ?_
                        refine rg_put (d := 71) (v := .d (.fl (.bool true))) rfl (og rfl (op_pick rfl rfl (by rw [h26]; rfl) rfl)) ?_
                        refine rg_put (d := 63) (v := .d (.fl (.bool true))) rfl (og rfl (op_assign rfl rfl rfl)) ?_
                        refine rg_done rfl ?_
                        refine a_condK rfl rfl ?_
                        refine a_rseq ?_
                        refine rg_put (d := 2) (v := .d (.fl (.int .i64 2))) rfl (og rfl (op_assign rfl rfl rfl)) ?_
                        refine rg_done rfl ?_
                        refine a_ret ?_
                        show ∃ ds, ResL _ _ _ ds ∧ RV.of ds = _
                        refine ⟨[.fl (.int .i64 2)], (.cons (.tmp rfl (.d _)) .nil), ?_⟩
                        first
                          | (have hu : ck d = 2 := by
                              unfold ck am nd; simp only [h1, h3, h4, h6, h9, h11, h14, h15, h16, h17, h18, h20, h23, h25, h26, Bool.true_or, Bool.false_or, Bool.or_true, Bool.or_false, Bool.not_true, Bool.not_false, cond_true, cond_false, Bool.true_and, Bool.false_and, Bool.and_true, Bool.and_false] <;> rfl
                             rw [hu]; rfl)
                          | (exfalso; omega)
                · skip
                  have h32 := t_dec h18
                  refine rg_put (d := 54) (v := .d (.fl undef)) rfl (on rfl rfl rfl h18) ?_
                  refine rg_put (d := 55) (v := .d (.fl undef)) rfl (on rfl rfl rfl h18) ?_
                  refine rg_put (d := 56) (v := .d (.fl undef)) rfl (on rfl rfl rfl h18) ?_
                  refine rg_put (d := 57) (v := .d (.fl (.bool true))) rfl (og rfl (op_pick rfl rfl (by rw [h18]; rfl) rfl)) ?_
                  refine rg_put (d := 49) (v := .d (.fl (.bool true))) rfl (og rfl (op_assign rfl rfl rfl)) ?_
                  refine rg_done rfl ?_
                  refine a_condK rfl rfl ?_
                  refine a_rseq ?_
                  refine rg_put (d := 2) (v := .d (.fl (.int .i64 20))) rfl (og rfl (op_assign rfl rfl rfl)) ?_
                  refine rg_done rfl ?_
                  refine a_ret ?_
                  show ∃ ds, ResL _ _ _ ds ∧ RV.of ds = _
                  refine ⟨[.fl (.int .i64 20)], (.cons (.tmp rfl (.d _)) .nil), ?_⟩
                  first
                    | (have hu : ck d = 20 := by
                        unfold ck am nd; simp only [h1, h3, h4, h6, h9, h11, h14, h15, h16, h17, h18, Bool.true_or, Bool.false_or, Bool.or_true, Bool.or_false, Bool.not_true, Bool.not_false, cond_true, cond_false, Bool.true_and, Bool.false_and, Bool.and_true, Bool.and_false] <;> rfl
                       rw [hu]; rfl)
                    | (exfalso; omega)
              · skip
                have h33 := t_not h16
                refine rg_put (d := 44) (v := .pt 101 4) rfl (oy rfl rfl rfl h16 (of_eff (s_field_pt rfl Try.underlying25 rfl ti9 rfl rfl rfl) rfl)) ?_
                refine rg_put (d := 45) (v := .d (.fl (.string d.sys))) rfl (oy rfl rfl rfl h16 (op_load_pt rfl Try.underlying9 rfl rfl rfl rfl rfl)) ?_
                refine rg_put (d := 46) (v := .d (.fl (.bool (Nm.nmB d.sys)))) rfl (oy rfl rfl rfl h16 (op_call rfl Try.func21 nm21 rfl (.cons rfl (.d _) .nil) (nam21 d.sys) rfl)) ?_
                refine rg_put (d := 47) (v := .d (.fl (.bool ((!(Nm.nmB d.sys)))))) rfl (oy rfl rfl rfl h16 (op_un rfl rfl (u_not _) rfl)) ?_
                refine rg_put (d := 48) (v := .d (.fl (.bool ((!(Nm.nmB d.sys)))))) rfl (og rfl (op_pick rfl rfl (by rw [h16]; rfl) rfl)) ?_
                refine rg_put (d := 39) (v := .d (.fl (.bool ((!(Nm.nmB d.sys)))))) rfl (og rfl (op_assign rfl rfl rfl)) ?_
                refine rg_done rfl ?_
                refine a_cond rfl (fun h34 => ?_) (fun h34 => ?_)
                · skip
                  have h35 := t_not h34
                  refine a_rseq ?_
                  refine rg_put (d := 2) (v := .d (.fl (.int .i64 6))) rfl (og rfl (op_assign rfl rfl rfl)) ?_
                  refine rg_done rfl ?_
                  refine a_ret ?_
                  show ∃ ds, ResL _ _ _ ds ∧ RV.of ds = _
                  refine ⟨[.fl (.int .i64 6)], (.cons (.tmp rfl (.d _)) .nil), ?_⟩
                  first
                    | (have hu : ck d = 6 := by
                        unfold ck am nd; simp only [h1, h3, h4, h6, h9, h11, h14, h15, h16, h33, h34, h35, Bool.true_or, Bool.false_or, Bool.or_true, Bool.or_false, Bool.not_true, Bool.not_false, cond_true, cond_false, Bool.true_and, Bool.false_and, Bool.and_true, Bool.and_false] <;> rfl
                       rw [hu]; rfl)
                    | (exfalso; omega)
                · skip
                  have h36 := f_not h34
                  refine a_rseq ?_
                  refine rg_put (d := 50) (v := .pt 101 5) rfl (og rfl (of_eff (s_field_pt rfl Try.underlying25 rfl ti3 rfl rfl rfl) rfl)) ?_
                  refine rg_put (d := 51) (v := .d (.fl (.int .i64 d.cls))) rfl (og rfl (op_load_pt rfl Try.underlying3 rfl rfl rfl rfl rfl)) ?_
                  refine rg_put (d := 52) (v := .d (.fl (.bool ((decide (d.cls < 0)))))) rfl (og rfl (op_bin rfl rfl rfl (b_lss _ _ _ _) rfl)) ?_
                  refine rg_put (d := 53) (v := .d (.fl (.bool ((decide (d.cls < 0)))))) rfl (og rfl (op_move rfl rfl rfl)) ?_
                  rcases fot ((decide (d.cls < 0))) with h37 | h37
                  · skip
                    have h38 := f_dec h37
                    refine rg_put (d := 54) (v := .pt 101 5) rfl (oy rfl rfl rfl h37 (of_eff (s_field_pt rfl Try.underlying25 rfl ti3 rfl rfl rfl) rfl)) ?_
                    refine rg_put (d := 55) (v := .d (.fl (.int .i64 d.cls))) rfl (oy rfl rfl rfl h37 (op_load_pt rfl Try.underlying3 rfl rfl rfl rfl rfl)) ?_
                    refine rg_put (d := 56) (v := .d (.fl (.bool ((decide (9 < d.cls)))))) rfl (oy rfl rfl rfl h37 (op_bin rfl rfl rfl (b_gtr _ _ _ _) rfl)) ?_
                    refine rg_put (d := 57) (v := .d (.fl (.bool ((decide (9 < d.cls)))))) rfl (og rfl (op_pick rfl rfl (by rw [h37]; rfl) rfl)) ?_
                    refine rg_put (d := 49) (v := .d (.fl (.bool ((decide (9 < d.cls)))))) rfl (og rfl (op_assign rfl rfl rfl)) ?_
                    refine rg_done rfl ?_
                    refine a_cond rfl (fun h39 => ?_) (fun h39 => ?_)
                    · skip
                      have h40 := t_dec h39
                      refine a_rseq ?_
                      refine rg_put (d := 2) (v := .d (.fl (.int .i64 20))) rfl (og rfl (op_assign rfl rfl rfl)) ?_
                      refine rg_done rfl ?_
                      refine a_ret ?_
                      show ∃ ds, ResL _ _ _ ds ∧ RV.of ds = _
                      refine ⟨[.fl (.int .i64 20)], (.cons (.tmp rfl (.d _)) .nil), ?_⟩
                      first
                        | (have hu : ck d = 20 := by
                            unfold ck am nd; simp only [h1, h3, h4, h6, h9, h11, h14, h15, h16, h33, h34, h36, h37, h39, Bool.true_or, Bool.false_or, Bool.or_true, Bool.or_false, Bool.not_true, Bool.not_false, cond_true, cond_false, Bool.true_and, Bool.false_and, Bool.and_true, Bool.and_false] <;> rfl
                           rw [hu]; rfl)
                        | (exfalso; omega)
                    · skip
                      have h41 := f_dec h39
                      refine a_rseq ?_
                      refine rg_put (d := 59) (v := .pt 101 6) rfl (og rfl (of_eff (s_field_pt rfl Try.underlying25 rfl ti23 rfl rfl rfl) rfl)) ?_
                      refine rg_put (d := 60) (v := .d (.ag (eWd d.win))) rfl (og rfl (of_eff (s_load_pts rfl Try.underlying23 rfl ti23 rfl rfl rfl rfl) rfl)) ?_
                      refine rg_put (d := 61) (v := .d (.fl (.bool (wok d.win)))) rfl (og rfl (op_call rfl Try.func23 nm23 rfl (.cons rfl (.d _) .nil) (wokV d.win) rfl)) ?_
                      refine rg_put (d := 62) (v := .d (.fl (.bool ((!(wok d.win)))))) rfl (og rfl (op_un rfl rfl (u_not _) rfl)) ?_
                      refine rg_put (d := 58) (v := .d (.fl (.bool ((!(wok d.win)))))) rfl (og rfl (op_assign rfl rfl rfl)) ?_
                      refine rg_done rfl ?_
                      refine a_cond rfl (fun h42 => ?_) (fun h42 => ?_)
                      · skip
                        have h43 := t_not h42
                        refine a_rseq ?_
                        refine rg_put (d := 2) (v := .d (.fl (.int .i64 12))) rfl (og rfl (op_assign rfl rfl rfl)) ?_
                        refine rg_done rfl ?_
                        refine a_ret ?_
                        show ∃ ds, ResL _ _ _ ds ∧ RV.of ds = _
                        refine ⟨[.fl (.int .i64 12)], (.cons (.tmp rfl (.d _)) .nil), ?_⟩
                        first
                          | (have hu : ck d = 12 := by
                              unfold ck am nd; simp only [h1, h3, h4, h6, h9, h11, h14, h15, h16, h33, h34, h36, h37, h39, h42, h43, Bool.true_or, Bool.false_or, Bool.or_true, Bool.or_false, Bool.not_true, Bool.not_false, cond_true, cond_false, Bool.true_and, Bool.false_and, Bool.and_true, Bool.and_false] <;> rfl
                             rw [hu]; rfl)
                          | (exfalso; omega)
                      · skip
                        have h44 := f_not h42
                        refine a_rseq ?_
                        refine rg_put (d := 64) (v := .pt 101 9) rfl (og rfl (of_eff (s_field_pt rfl Try.underlying25 rfl ti3 rfl rfl rfl) rfl)) ?_
                        refine rg_put (d := 65) (v := .d (.fl (.int .i64 d.least))) rfl (og rfl (op_load_pt rfl Try.underlying3 rfl rfl rfl rfl rfl)) ?_
                        refine rg_put (d := 66) (v := .d (.fl (.bool ((decide (d.least < 0)))))) rfl (og rfl (op_bin rfl rfl rfl (b_lss _ _ _ _) rfl)) ?_
                        refine rg_put (d := 67) (v := .d (.fl (.bool ((decide (d.least < 0)))))) rfl (og rfl (op_move rfl rfl rfl)) ?_
                        rcases fot ((decide (d.least < 0))) with h45 | h45
                        · skip
                          have h46 := f_dec h45
                          refine rg_put (d := 68) (v := .pt 101 9) rfl (oy rfl rfl rfl h45 (of_eff (s_field_pt rfl Try.underlying25 rfl ti3 rfl rfl rfl) rfl)) ?_
                          refine rg_put (d := 69) (v := .d (.fl (.int .i64 d.least))) rfl (oy rfl rfl rfl h45 (op_load_pt rfl Try.underlying3 rfl rfl rfl rfl rfl)) ?_
                          refine rg_put (d := 70) (v := .d (.fl (.bool ((decide (2147483648 < d.least)))))) rfl (oy rfl rfl rfl h45 (op_bin rfl rfl rfl (b_gtr _ _ _ _) rfl)) ?_
                          refine rg_put (d := 71) (v := .d (.fl (.bool ((decide (2147483648 < d.least)))))) rfl (og rfl (op_pick rfl rfl (by rw [h45]; rfl) rfl)) ?_
                          refine rg_put (d := 63) (v := .d (.fl (.bool ((decide (2147483648 < d.least)))))) rfl (og rfl (op_assign rfl rfl rfl)) ?_
                          refine rg_done rfl ?_
                          refine a_cond rfl (fun h47 => ?_) (fun h47 => ?_)
                          · skip
                            have h48 := t_dec h47
                            refine a_rseq ?_
                            refine rg_put (d := 2) (v := .d (.fl (.int .i64 2))) rfl (og rfl (op_assign rfl rfl rfl)) ?_
                            refine rg_done rfl ?_
                            refine a_ret ?_
                            show ∃ ds, ResL _ _ _ ds ∧ RV.of ds = _
                            refine ⟨[.fl (.int .i64 2)], (.cons (.tmp rfl (.d _)) .nil), ?_⟩
                            first
                              | (have hu : ck d = 2 := by
                                  unfold ck am nd; simp only [h1, h3, h4, h6, h9, h11, h14, h15, h16, h33, h34, h36, h37, h39, h42, h44, h45, h47, Bool.true_or, Bool.false_or, Bool.or_true, Bool.or_false, Bool.not_true, Bool.not_false, cond_true, cond_false, Bool.true_and, Bool.false_and, Bool.and_true, Bool.and_false] <;> rfl
                                 rw [hu]; rfl)
                              | (exfalso; omega)
                          · skip
                            have h49 := f_dec h47
                            refine a_skip ?_
                            show A _ _ _ _ _ _ _
                            refine a_rseq ?_
                            refine rg_put (d := 2) (v := .d (.fl (.int .i64 0))) rfl (og rfl (op_assign rfl rfl rfl)) ?_
                            refine rg_done rfl ?_
                            refine a_ret ?_
                            show ∃ ds, ResL _ _ _ ds ∧ RV.of ds = _
                            refine ⟨[.fl (.int .i64 0)], (.cons (.tmp rfl (.d _)) .nil), ?_⟩
                            first
                              | (have hu : ck d = 0 := by
                                  unfold ck am nd; simp only [h1, h3, h4, h6, h9, h11, h14, h15, h16, h33, h34, h36, h37, h39, h42, h44, h45, h47, Bool.true_or, Bool.false_or, Bool.or_true, Bool.or_false, Bool.not_true, Bool.not_false, cond_true, cond_false, Bool.true_and, Bool.false_and, Bool.and_true, Bool.and_false] <;> rfl
                                 rw [hu]; rfl)
                              | (exfalso; omega)
                        · skip
                          have h50 := t_dec h45
                          refine rg_put (d := 68) (v := .d (.fl undef)) rfl (on rfl rfl rfl h45) ?_
                          refine rg_put (d := 69) (v := .d (.fl undef)) rfl (on rfl rfl rfl h45) ?_
                          refine rg_put (d := 70) (v := .d (.fl undef)) rfl (on rfl rfl rfl h45) ?_
                          refine rg_put (d := 71) (v := .d (.fl (.bool true))) rfl (og rfl (op_pick rfl rfl (by rw [h45]; rfl) rfl)) ?_
                          refine rg_put (d := 63) (v := .d (.fl (.bool true))) rfl (og rfl (op_assign rfl rfl rfl)) ?_
                          refine rg_done rfl ?_
                          refine a_condK rfl rfl ?_
                          refine a_rseq ?_
                          refine rg_put (d := 2) (v := .d (.fl (.int .i64 2))) rfl (og rfl (op_assign rfl rfl rfl)) ?_
                          refine rg_done rfl ?_
                          refine a_ret ?_
                          show ∃ ds, ResL _ _ _ ds ∧ RV.of ds = _
                          refine ⟨[.fl (.int .i64 2)], (.cons (.tmp rfl (.d _)) .nil), ?_⟩
                          first
                            | (have hu : ck d = 2 := by
                                unfold ck am nd; simp only [h1, h3, h4, h6, h9, h11, h14, h15, h16, h33, h34, h36, h37, h39, h42, h44, h45, Bool.true_or, Bool.false_or, Bool.or_true, Bool.or_false, Bool.not_true, Bool.not_false, cond_true, cond_false, Bool.true_and, Bool.false_and, Bool.and_true, Bool.and_false] <;> rfl
                               rw [hu]; rfl)
                            | (exfalso; omega)
                  · skip
                    have h51 := t_dec h37
                    refine rg_put (d := 54) (v := .d (.fl undef)) rfl (on rfl rfl rfl h37) ?_
                    refine rg_put (d := 55) (v := .d (.fl undef)) rfl (on rfl rfl rfl h37) ?_
                    refine rg_put (d := 56) (v := .d (.fl undef)) rfl (on rfl rfl rfl h37) ?_
                    refine rg_put (d := 57) (v := .d (.fl (.bool true))) rfl (og rfl (op_pick rfl rfl (by rw [h37]; rfl) rfl)) ?_
                    refine rg_put (d := 49) (v := .d (.fl (.bool true))) rfl (og rfl (op_assign rfl rfl rfl)) ?_
                    refine rg_done rfl ?_
                    refine a_condK rfl rfl ?_
                    refine a_rseq ?_
                    refine rg_put (d := 2) (v := .d (.fl (.int .i64 20))) rfl (og rfl (op_assign rfl rfl rfl)) ?_
                    refine rg_done rfl ?_
                    refine a_ret ?_
                    show ∃ ds, ResL _ _ _ ds ∧ RV.of ds = _
                    refine ⟨[.fl (.int .i64 20)], (.cons (.tmp rfl (.d _)) .nil), ?_⟩
                    first
                      | (have hu : ck d = 20 := by
                          unfold ck am nd; simp only [h1, h3, h4, h6, h9, h11, h14, h15, h16, h33, h34, h36, h37, Bool.true_or, Bool.false_or, Bool.or_true, Bool.or_false, Bool.not_true, Bool.not_false, cond_true, cond_false, Bool.true_and, Bool.false_and, Bool.and_true, Bool.and_false] <;> rfl
                         rw [hu]; rfl)
                      | (exfalso; omega)
            · skip
              have h52 := t_not h14
              refine rg_put (d := 34) (v := .pt 101 3) rfl (oy rfl rfl rfl h14 (of_eff (s_field_pt rfl Try.underlying25 rfl ti9 rfl rfl rfl) rfl)) ?_
              refine rg_put (d := 35) (v := .d (.fl (.string d.group))) rfl (oy rfl rfl rfl h14 (op_load_pt rfl Try.underlying9 rfl rfl rfl rfl rfl)) ?_
              refine rg_put (d := 36) (v := .d (.fl (.bool (Nm.nmB d.group)))) rfl (oy rfl rfl rfl h14 (op_call rfl Try.func21 nm21 rfl (.cons rfl (.d _) .nil) (nam21 d.group) rfl)) ?_
              refine rg_put (d := 37) (v := .d (.fl (.bool ((!(Nm.nmB d.group)))))) rfl (oy rfl rfl rfl h14 (op_un rfl rfl (u_not _) rfl)) ?_
              refine rg_put (d := 38) (v := .d (.fl (.bool ((!(Nm.nmB d.group)))))) rfl (og rfl (op_pick rfl rfl (by rw [h14]; rfl) rfl)) ?_
              refine rg_put (d := 29) (v := .d (.fl (.bool ((!(Nm.nmB d.group)))))) rfl (og rfl (op_assign rfl rfl rfl)) ?_
              refine rg_done rfl ?_
              refine a_cond rfl (fun h53 => ?_) (fun h53 => ?_)
              · skip
                have h54 := t_not h53
                refine a_rseq ?_
                refine rg_put (d := 2) (v := .d (.fl (.int .i64 6))) rfl (og rfl (op_assign rfl rfl rfl)) ?_
                refine rg_done rfl ?_
                refine a_ret ?_
                show ∃ ds, ResL _ _ _ ds ∧ RV.of ds = _
                refine ⟨[.fl (.int .i64 6)], (.cons (.tmp rfl (.d _)) .nil), ?_⟩
                first
                  | (have hu : ck d = 6 := by
                      unfold ck am nd; simp only [h1, h3, h4, h6, h9, h11, h14, h52, h53, h54, Bool.true_or, Bool.false_or, Bool.or_true, Bool.or_false, Bool.not_true, Bool.not_false, cond_true, cond_false, Bool.true_and, Bool.false_and, Bool.and_true, Bool.and_false] <;> rfl
                     rw [hu]; rfl)
                  | (exfalso; omega)
              · skip
                have h55 := f_not h53
                refine a_rseq ?_
                refine rg_put (d := 40) (v := .pt 101 4) rfl (og rfl (of_eff (s_field_pt rfl Try.underlying25 rfl ti9 rfl rfl rfl) rfl)) ?_
                refine rg_put (d := 41) (v := .d (.fl (.string d.sys))) rfl (og rfl (op_load_pt rfl Try.underlying9 rfl rfl rfl rfl rfl)) ?_
                refine rg_put (d := 42) (v := .d (.fl (.bool ((!(sEq d.sys (⟨#[]⟩))))))) rfl (og rfl (op_bin rfl rfl rfl (b_sne _ _ _) rfl)) ?_
                refine rg_put (d := 43) (v := .d (.fl (.bool ((!(sEq d.sys (⟨#[]⟩))))))) rfl (og rfl (op_move rfl rfl rfl)) ?_
                rcases fot ((!(sEq d.sys (⟨#[]⟩)))) with h56 | h56
                · skip
                  have h57 := f_not h56
                  refine rg_put (d := 44) (v := .d (.fl undef)) rfl (on rfl rfl rfl h56) ?_
                  refine rg_put (d := 45) (v := .d (.fl undef)) rfl (on rfl rfl rfl h56) ?_
                  refine rg_put (d := 46) (v := .d (.fl undef)) rfl (on rfl rfl rfl h56) ?_
                  refine rg_put (d := 47) (v := .d (.fl undef)) rfl (on rfl rfl rfl h56) ?_
                  refine rg_put (d := 48) (v := .d (.fl (.bool false))) rfl (og rfl (op_pick rfl rfl (by rw [h56]; rfl) rfl)) ?_
                  refine rg_put (d := 39) (v := .d (.fl (.bool false))) rfl (og rfl (op_assign rfl rfl rfl)) ?_
                  refine rg_done rfl ?_
                  refine a_condF rfl rfl ?_
                  refine a_rseq ?_
                  refine rg_put (d := 50) (v := .pt 101 5) rfl (og rfl (of_eff (s_field_pt rfl Try.underlying25 rfl ti3 rfl rfl rfl) rfl)) ?_
                  refine rg_put (d := 51) (v := .d (.fl (.int .i64 d.cls))) rfl (og rfl (op_load_pt rfl Try.underlying3 rfl rfl rfl rfl rfl)) ?_
                  refine rg_put (d := 52) (v := .d (.fl (.bool ((decide (d.cls < 0)))))) rfl (og rfl (op_bin rfl rfl rfl (b_lss _ _ _ _) rfl)) ?_
                  refine rg_put (d := 53) (v := .d (.fl (.bool ((decide (d.cls < 0)))))) rfl (og rfl (op_move rfl rfl rfl)) ?_
                  rcases fot ((decide (d.cls < 0))) with h58 | h58
                  · skip
                    have h59 := f_dec h58
                    refine rg_put (d := 54) (v := .pt 101 5) rfl (oy rfl rfl rfl h58 (of_eff (s_field_pt rfl Try.underlying25 rfl ti3 rfl rfl rfl) rfl)) ?_
                    refine rg_put (d := 55) (v := .d (.fl (.int .i64 d.cls))) rfl (oy rfl rfl rfl h58 (op_load_pt rfl Try.underlying3 rfl rfl rfl rfl rfl)) ?_
                    refine rg_put (d := 56) (v := .d (.fl (.bool ((decide (9 < d.cls)))))) rfl (oy rfl rfl rfl h58 (op_bin rfl rfl rfl (b_gtr _ _ _ _) rfl)) ?_
                    refine rg_put (d := 57) (v := .d (.fl (.bool ((decide (9 < d.cls)))))) rfl (og rfl (op_pick rfl rfl (by rw [h58]; rfl) rfl)) ?_
                    refine rg_put (d := 49) (v := .d (.fl (.bool ((decide (9 < d.cls)))))) rfl (og rfl (op_assign rfl rfl rfl)) ?_
                    refine rg_done rfl ?_
                    refine a_cond rfl (fun h60 => ?_) (fun h60 => ?_)
                    · skip
                      have h61 := t_dec h60
                      refine a_rseq ?_
                      refine rg_put (d := 2) (v := .d (.fl (.int .i64 20))) rfl (og rfl (op_assign rfl rfl rfl)) ?_
                      refine rg_done rfl ?_
                      refine a_ret ?_
                      show ∃ ds, ResL _ _ _ ds ∧ RV.of ds = _
                      refine ⟨[.fl (.int .i64 20)], (.cons (.tmp rfl (.d _)) .nil), ?_⟩
                      first
                        | (have hu : ck d = 20 := by
                            unfold ck am nd; simp only [h1, h3, h4, h6, h9, h11, h14, h52, h53, h55, h56, h57, h58, h60, Bool.true_or, Bool.false_or, Bool.or_true, Bool.or_false, Bool.not_true, Bool.not_false, cond_true, cond_false, Bool.true_and, Bool.false_and, Bool.and_true, Bool.and_false] <;> rfl
                           rw [hu]; rfl)
                        | (exfalso; omega)
                    · skip
                      have h62 := f_dec h60
                      refine a_rseq ?_
                      refine rg_put (d := 59) (v := .pt 101 6) rfl (og rfl (of_eff (s_field_pt rfl Try.underlying25 rfl ti23 rfl rfl rfl) rfl)) ?_
                      refine rg_put (d := 60) (v := .d (.ag (eWd d.win))) rfl (og rfl (of_eff (s_load_pts rfl Try.underlying23 rfl ti23 rfl rfl rfl rfl) rfl)) ?_
                      refine rg_put (d := 61) (v := .d (.fl (.bool (wok d.win)))) rfl (og rfl (op_call rfl Try.func23 nm23 rfl (.cons rfl (.d _) .nil) (wokV d.win) rfl)) ?_
                      refine rg_put (d := 62) (v := .d (.fl (.bool ((!(wok d.win)))))) rfl (og rfl (op_un rfl rfl (u_not _) rfl)) ?_
                      refine rg_put (d := 58) (v := .d (.fl (.bool ((!(wok d.win)))))) rfl (og rfl (op_assign rfl rfl rfl)) ?_
                      refine rg_done rfl ?_
                      refine a_cond rfl (fun h63 => ?_) (fun h63 => ?_)
                      · skip
                        have h64 := t_not h63
                        refine a_rseq ?_
                        refine rg_put (d := 2) (v := .d (.fl (.int .i64 12))) rfl (og rfl (op_assign rfl rfl rfl)) ?_
                        refine rg_done rfl ?_
                        refine a_ret ?_
                        show ∃ ds, ResL _ _ _ ds ∧ RV.of ds = _
                        refine ⟨[.fl (.int .i64 12)], (.cons (.tmp rfl (.d _)) .nil), ?_⟩
                        first
                          | (have hu : ck d = 12 := by
                              unfold ck am nd; simp only [h1, h3, h4, h6, h9, h11, h14, h52, h53, h55, h56, h57, h58, h60, h63, h64, Bool.true_or, Bool.false_or, Bool.or_true, Bool.or_false, Bool.not_true, Bool.not_false, cond_true, cond_false, Bool.true_and, Bool.false_and, Bool.and_true, Bool.and_false] <;> rfl
                             rw [hu]; rfl)
                          | (exfalso; omega)
                      · skip
                        have h65 := f_not h63
                        refine a_rseq ?_
                        refine rg_put (d := 64) (v := .pt 101 9) rfl (og rfl (of_eff (s_field_pt rfl Try.underlying25 rfl ti3 rfl rfl rfl) rfl)) ?_
                        refine rg_put (d := 65) (v := .d (.fl (.int .i64 d.least))) rfl (og rfl (op_load_pt rfl Try.underlying3 rfl rfl rfl rfl rfl)) ?_
                        refine rg_put (d := 66) (v := .d (.fl (.bool ((decide (d.least < 0)))))) rfl (og rfl (op_bin rfl rfl rfl (b_lss _ _ _ _) rfl)) ?_
                        refine rg_put (d := 67) (v := .d (.fl (.bool ((decide (d.least < 0)))))) rfl (og rfl (op_move rfl rfl rfl)) ?_
                        rcases fot ((decide (d.least < 0))) with h66 | h66
                        · skip
                          have h67 := f_dec h66
                          refine rg_put (d := 68) (v := .pt 101 9) rfl (oy rfl rfl rfl h66 (of_eff (s_field_pt rfl Try.underlying25 rfl ti3 rfl rfl rfl) rfl)) ?_
                          refine rg_put (d := 69) (v := .d (.fl (.int .i64 d.least))) rfl (oy rfl rfl rfl h66 (op_load_pt rfl Try.underlying3 rfl rfl rfl rfl rfl)) ?_
                          refine rg_put (d := 70) (v := .d (.fl (.bool ((decide (2147483648 < d.least)))))) rfl (oy rfl rfl rfl h66 (op_bin rfl rfl rfl (b_gtr _ _ _ _) rfl)) ?_
                          refine rg_put (d := 71) (v := .d (.fl (.bool ((decide (2147483648 < d.least)))))) rfl (og rfl (op_pick rfl rfl (by rw [h66]; rfl) rfl)) ?_
                          refine rg_put (d := 63) (v := .d (.fl (.bool ((decide (2147483648 < d.least)))))) rfl (og rfl (op_assign rfl rfl rfl)) ?_
                          refine rg_done rfl ?_
                          refine a_cond rfl (fun h68 => ?_) (fun h68 => ?_)
                          · skip
                            have h69 := t_dec h68
                            refine a_rseq ?_
                            refine rg_put (d := 2) (v := .d (.fl (.int .i64 2))) rfl (og rfl (op_assign rfl rfl rfl)) ?_
                            refine rg_done rfl ?_
                            refine a_ret ?_
                            show ∃ ds, ResL _ _ _ ds ∧ RV.of ds = _
                            refine ⟨[.fl (.int .i64 2)], (.cons (.tmp rfl (.d _)) .nil), ?_⟩
                            first
                              | (have hu : ck d = 2 := by
                                  unfold ck am nd; simp only [h1, h3, h4, h6, h9, h11, h14, h52, h53, h55, h56, h57, h58, h60, h63, h65, h66, h68, Bool.true_or, Bool.false_or, Bool.or_true, Bool.or_false, Bool.not_true, Bool.not_false, cond_true, cond_false, Bool.true_and, Bool.false_and, Bool.and_true, Bool.and_false] <;> rfl
                                 rw [hu]; rfl)
                              | (exfalso; omega)
                          · skip
                            have h70 := f_dec h68
                            refine a_skip ?_
                            show A _ _ _ _ _ _ _
                            refine a_rseq ?_
                            refine rg_put (d := 2) (v := .d (.fl (.int .i64 0))) rfl (og rfl (op_assign rfl rfl rfl)) ?_
                            refine rg_done rfl ?_
                            refine a_ret ?_
                            show ∃ ds, ResL _ _ _ ds ∧ RV.of ds = _
                            refine ⟨[.fl (.int .i64 0)], (.cons (.tmp rfl (.d _)) .nil), ?_⟩
                            first
                              | (have hu : ck d = 0 := by
                                  unfold ck am nd; simp only [h1, h3, h4, h6, h9, h11, h14, h52, h53, h55, h56, h57, h58, h60, h63, h65, h66, h68, Bool.true_or, Bool.false_or, Bool.or_true, Bool.or_false, Bool.not_true, Bool.not_false, cond_true, cond_false, Bool.true_and, Bool.false_and, Bool.and_true, Bool.and_false] <;> rfl
                                 rw [hu]; rfl)
                              | (exfalso; omega)
                        · skip
                          have h71 := t_dec h66
                          refine rg_put (d := 68) (v := .d (.fl undef)) rfl (on rfl rfl rfl h66) ?_
                          refine rg_put (d := 69) (v := .d (.fl undef)) rfl (on rfl rfl rfl h66) ?_
                          refine rg_put (d := 70) (v := .d (.fl undef)) rfl (on rfl rfl rfl h66) ?_
                          refine rg_put (d := 71) (v := .d (.fl (.bool true))) rfl (og rfl (op_pick rfl rfl (by rw [h66]; rfl) rfl)) ?_
                          refine rg_put (d := 63) (v := .d (.fl (.bool true))) rfl (og rfl (op_assign rfl rfl rfl)) ?_
                          refine rg_done rfl ?_
                          refine a_condK rfl rfl ?_
                          refine a_rseq ?_
                          refine rg_put (d := 2) (v := .d (.fl (.int .i64 2))) rfl (og rfl (op_assign rfl rfl rfl)) ?_
                          refine rg_done rfl ?_
                          refine a_ret ?_
                          show ∃ ds, ResL _ _ _ ds ∧ RV.of ds = _
                          refine ⟨[.fl (.int .i64 2)], (.cons (.tmp rfl (.d _)) .nil), ?_⟩
                          first
                            | (have hu : ck d = 2 := by
                                unfold ck am nd; simp only [h1, h3, h4, h6, h9, h11, h14, h52, h53, h55, h56, h57, h58, h60, h63, h65, h66, Bool.true_or, Bool.false_or, Bool.or_true, Bool.or_false, Bool.not_true, Bool.not_false, cond_true, cond_false, Bool.true_and, Bool.false_and, Bool.and_true, Bool.and_false] <;> rfl
                               rw [hu]; rfl)
                            | (exfalso; omega)
                  · skip
                    have h72 := t_dec h58
                    refine rg_put (d := 54) (v := .d (.fl undef)) rfl (on rfl rfl rfl h58) ?_
                    refine rg_put (d := 55) (v := .d (.fl undef)) rfl (on rfl rfl rfl h58) ?_
                    refine rg_put (d := 56) (v := .d (.fl undef)) rfl (on rfl rfl rfl h58) ?_
                    refine rg_put (d := 57) (v := .d (.fl (.bool true))) rfl (og rfl (op_pick rfl rfl (by rw [h58]; rfl) rfl)) ?_
                    refine rg_put (d := 49) (v := .d (.fl (.bool true))) rfl (og rfl (op_assign rfl rfl rfl)) ?_
                    refine rg_done rfl ?_
                    refine a_condK rfl rfl ?_
                    refine a_rseq ?_
                    refine rg_put (d := 2) (v := .d (.fl (.int .i64 20))) rfl (og rfl (op_assign rfl rfl rfl)) ?_
                    refine rg_done rfl ?_
                    refine a_ret ?_
                    show ∃ ds, ResL _ _ _ ds ∧ RV.of ds = _
                    refine ⟨[.fl (.int .i64 20)], (.cons (.tmp rfl (.d _)) .nil), ?_⟩
                    first
                      | (have hu : ck d = 20 := by
                          unfold ck am nd; simp only [h1, h3, h4, h6, h9, h11, h14, h52, h53, h55, h56, h57, h58, Bool.true_or, Bool.false_or, Bool.or_true, Bool.or_false, Bool.not_true, Bool.not_false, cond_true, cond_false, Bool.true_and, Bool.false_and, Bool.and_true, Bool.and_false] <;> rfl
                         rw [hu]; rfl)
                      | (exfalso; omega)
                · skip
                  have h73 := t_not h56
                  refine rg_put (d := 44) (v := .pt 101 4) rfl (oy rfl rfl rfl h56 (of_eff (s_field_pt rfl Try.underlying25 rfl ti9 rfl rfl rfl) rfl)) ?_
                  refine rg_put (d := 45) (v := .d (.fl (.string d.sys))) rfl (oy rfl rfl rfl h56 (op_load_pt rfl Try.underlying9 rfl rfl rfl rfl rfl)) ?_
                  refine rg_put (d := 46) (v := .d (.fl (.bool (Nm.nmB d.sys)))) rfl (oy rfl rfl rfl h56 (op_call rfl Try.func21 nm21 rfl (.cons rfl (.d _) .nil) (nam21 d.sys) rfl)) ?_
                  refine rg_put (d := 47) (v := .d (.fl (.bool ((!(Nm.nmB d.sys)))))) rfl (oy rfl rfl rfl h56 (op_un rfl rfl (u_not _) rfl)) ?_
                  refine rg_put (d := 48) (v := .d (.fl (.bool ((!(Nm.nmB d.sys)))))) rfl (og rfl (op_pick rfl rfl (by rw [h56]; rfl) rfl)) ?_
                  refine rg_put (d := 39) (v := .d (.fl (.bool ((!(Nm.nmB d.sys)))))) rfl (og rfl (op_assign rfl rfl rfl)) ?_
                  refine rg_done rfl ?_
                  refine a_cond rfl (fun h74 => ?_) (fun h74 => ?_)
                  · skip
                    have h75 := t_not h74
                    refine a_rseq ?_
                    refine rg_put (d := 2) (v := .d (.fl (.int .i64 6))) rfl (og rfl (op_assign rfl rfl rfl)) ?_
                    refine rg_done rfl ?_
                    refine a_ret ?_
                    show ∃ ds, ResL _ _ _ ds ∧ RV.of ds = _
                    refine ⟨[.fl (.int .i64 6)], (.cons (.tmp rfl (.d _)) .nil), ?_⟩
                    first
                      | (have hu : ck d = 6 := by
                          unfold ck am nd; simp only [h1, h3, h4, h6, h9, h11, h14, h52, h53, h55, h56, h73, h74, h75, Bool.true_or, Bool.false_or, Bool.or_true, Bool.or_false, Bool.not_true, Bool.not_false, cond_true, cond_false, Bool.true_and, Bool.false_and, Bool.and_true, Bool.and_false] <;> rfl
                         rw [hu]; rfl)
                      | (exfalso; omega)
                  · skip
                    have h76 := f_not h74
                    refine a_rseq ?_
                    refine rg_put (d := 50) (v := .pt 101 5) rfl (og rfl (of_eff (s_field_pt rfl Try.underlying25 rfl ti3 rfl rfl rfl) rfl)) ?_
                    refine rg_put (d := 51) (v := .d (.fl (.int .i64 d.cls))) rfl (og rfl (op_load_pt rfl Try.underlying3 rfl rfl rfl rfl rfl)) ?_
                    refine rg_put (d := 52) (v := .d (.fl (.bool ((decide (d.cls < 0)))))) rfl (og rfl (op_bin rfl rfl rfl (b_lss _ _ _ _) rfl)) ?_
                    refine rg_put (d := 53) (v := .d (.fl (.bool ((decide (d.cls < 0)))))) rfl (og rfl (op_move rfl rfl rfl)) ?_
                    rcases fot ((decide (d.cls < 0))) with h77 | h77
                    · skip
                      have h78 := f_dec h77
                      refine rg_put (d := 54) (v := .pt 101 5) rfl (oy rfl rfl rfl h77 (of_eff (s_field_pt rfl Try.underlying25 rfl ti3 rfl rfl rfl) rfl)) ?_
                      refine rg_put (d := 55) (v := .d (.fl (.int .i64 d.cls))) rfl (oy rfl rfl rfl h77 (op_load_pt rfl Try.underlying3 rfl rfl rfl rfl rfl)) ?_
                      refine rg_put (d := 56) (v := .d (.fl (.bool ((decide (9 < d.cls)))))) rfl (oy rfl rfl rfl h77 (op_bin rfl rfl rfl (b_gtr _ _ _ _) rfl)) ?_
                      refine rg_put (d := 57) (v := .d (.fl (.bool ((decide (9 < d.cls)))))) rfl (og rfl (op_pick rfl rfl (by rw [h77]; rfl) rfl)) ?_
                      refine rg_put (d := 49) (v := .d (.fl (.bool ((decide (9 < d.cls)))))) rfl (og rfl (op_assign rfl rfl rfl)) ?_
                      refine rg_done rfl ?_
                      refine a_cond rfl (fun h79 => ?_) (fun h79 => ?_)
                      · skip
                        have h80 := t_dec h79
                        refine a_rseq ?_
                        refine rg_put (d := 2) (v := .d (.fl (.int .i64 20))) rfl (og rfl (op_assign rfl rfl rfl)) ?_
                        refine rg_done rfl ?_
                        refine a_ret ?_
                        show ∃ ds, ResL _ _ _ ds ∧ RV.of ds = _
                        refine ⟨[.fl (.int .i64 20)], (.cons (.tmp rfl (.d _)) .nil), ?_⟩
                        first
                          | (have hu : ck d = 20 := by
                              unfold ck am nd; simp only [h1, h3, h4, h6, h9, h11, h14, h52, h53, h55, h56, h73, h74, h76, h77, h79, Bool.true_or, Bool.false_or, Bool.or_true, Bool.or_false, Bool.not_true, Bool.not_false, cond_true, cond_false, Bool.true_and, Bool.false_and, Bool.and_true, Bool.and_false] <;> rfl
                             rw [hu]; rfl)
                          | (exfalso; omega)
                      · skip
                        have h81 := f_dec h79
                        refine a_rseq ?_
                        refine rg_put (d := 59) (v := .pt 101 6) rfl (og rfl (of_eff (s_field_pt rfl Try.underlying25 rfl ti23 rfl rfl rfl) rfl)) ?_
                        refine rg_put (d := 60) (v := .d (.ag (eWd d.win))) rfl (og rfl (of_eff (s_load_pts rfl Try.underlying23 rfl ti23 rfl rfl rfl rfl) rfl)) ?_
                        refine rg_put (d := 61) (v := .d (.fl (.bool (wok d.win)))) rfl (og rfl (op_call rfl Try.func23 nm23 rfl (.cons rfl (.d _) .nil) (wokV d.win) rfl)) ?_
                        refine rg_put (d := 62) (v := .d (.fl (.bool ((!(wok d.win)))))) rfl (og rfl (op_un rfl rfl (u_not _) rfl)) ?_
                        refine rg_put (d := 58) (v := .d (.fl (.bool ((!(wok d.win)))))) rfl (og rfl (op_assign rfl rfl rfl)) ?_
                        refine rg_done rfl ?_
                        refine a_cond rfl (fun h82 => ?_) (fun h82 => ?_)
                        · skip
                          have h83 := t_not h82
                          refine a_rseq ?_
                          refine rg_put (d := 2) (v := .d (.fl (.int .i64 12))) rfl (og rfl (op_assign rfl rfl rfl)) ?_
                          refine rg_done rfl ?_
                          refine a_ret ?_
                          show ∃ ds, ResL _ _ _ ds ∧ RV.of ds = _
                          refine ⟨[.fl (.int .i64 12)], (.cons (.tmp rfl (.d _)) .nil), ?_⟩
                          first
                            | (have hu : ck d = 12 := by
                                unfold ck am nd; simp only [h1, h3, h4, h6, h9, h11, h14, h52, h53, h55, h56, h73, h74, h76, h77, h79, h82, h83, Bool.true_or, Bool.false_or, Bool.or_true, Bool.or_false, Bool.not_true, Bool.not_false, cond_true, cond_false, Bool.true_and, Bool.false_and, Bool.and_true, Bool.and_false] <;> rfl
                               rw [hu]; rfl)
                            | (exfalso; omega)
                        · skip
                          have h84 := f_not h82
                          refine a_rseq ?_
                          refine rg_put (d := 64) (v := .pt 101 9) rfl (og rfl (of_eff (s_field_pt rfl Try.underlying25 rfl ti3 rfl rfl rfl) rfl)) ?_
                          refine rg_put (d := 65) (v := .d (.fl (.int .i64 d.least))) rfl (og rfl (op_load_pt rfl Try.underlying3 rfl rfl rfl rfl rfl)) ?_
                          refine rg_put (d := 66) (v := .d (.fl (.bool ((decide (d.least < 0)))))) rfl (og rfl (op_bin rfl rfl rfl (b_lss _ _ _ _) rfl)) ?_
                          refine rg_put (d := 67) (v := .d (.fl (.bool ((decide (d.least < 0)))))) rfl (og rfl (op_move rfl rfl rfl)) ?_
                          rcases fot ((decide (d.least < 0))) with h85 | h85
                          · skip
                            have h86 := f_dec h85
                            refine rg_put (d := 68) (v := .pt 101 9) rfl (oy rfl rfl rfl h85 (of_eff (s_field_pt rfl Try.underlying25 rfl ti3 rfl rfl rfl) rfl)) ?_
                            refine rg_put (d := 69) (v := .d (.fl (.int .i64 d.least))) rfl (oy rfl rfl rfl h85 (op_load_pt rfl Try.underlying3 rfl rfl rfl rfl rfl)) ?_
                            refine rg_put (d := 70) (v := .d (.fl (.bool ((decide (2147483648 < d.least)))))) rfl (oy rfl rfl rfl h85 (op_bin rfl rfl rfl (b_gtr _ _ _ _) rfl)) ?_
                            refine rg_put (d := 71) (v := .d (.fl (.bool ((decide (2147483648 < d.least)))))) rfl (og rfl (op_pick rfl rfl (by rw [h85]; rfl) rfl)) ?_
                            refine rg_put (d := 63) (v := .d (.fl (.bool ((decide (2147483648 < d.least)))))) rfl (og rfl (op_assign rfl rfl rfl)) ?_
                            refine rg_done rfl ?_
                            refine a_cond rfl (fun h87 => ?_) (fun h87 => ?_)
                            · skip
                              have h88 := t_dec h87
                              refine a_rseq ?_
                              refine rg_put (d := 2) (v := .d (.fl (.int .i64 2))) rfl (og rfl (op_assign rfl rfl rfl)) ?_
                              refine rg_done rfl ?_
                              refine a_ret ?_
                              show ∃ ds, ResL _ _ _ ds ∧ RV.of ds = _
                              refine ⟨[.fl (.int .i64 2)], (.cons (.tmp rfl (.d _)) .nil), ?_⟩
                              first
                                | (have hu : ck d = 2 := by
                                    unfold ck am nd; simp only [h1, h3, h4, h6, h9, h11, h14, h52, h53, h55, h56, h73, h74, h76, h77, h79, h82, h84, h85, h87, Bool.true_or, Bool.false_or, Bool.or_true, Bool.or_false, Bool.not_true, Bool.not_false, cond_true, cond_false, Bool.true_and, Bool.false_and, Bool.and_true, Bool.and_false] <;> rfl
                                   rw [hu]; rfl)
                                | (exfalso; omega)
                            · skip
                              have h89 := f_dec h87
                              refine a_skip ?_
                              show A _ _ _ _ _ _ _
                              refine a_rseq ?_
                              refine rg_put (d := 2) (v := .d (.fl (.int .i64 0))) rfl (og rfl (op_assign rfl rfl rfl)) ?_
                              refine rg_done rfl ?_
                              refine a_ret ?_
                              show ∃ ds, ResL _ _ _ ds ∧ RV.of ds = _
                              refine ⟨[.fl (.int .i64 0)], (.cons (.tmp rfl (.d _)) .nil), ?_⟩
                              first
                                | (have hu : ck d = 0 := by
                                    unfold ck am nd; simp only [h1, h3, h4, h6, h9, h11, h14, h52, h53, h55, h56, h73, h74, h76, h77, h79, h82, h84, h85, h87, Bool.true_or, Bool.false_or, Bool.or_true, Bool.or_false, Bool.not_true, Bool.not_false, cond_true, cond_false, Bool.true_and, Bool.false_and, Bool.and_true, Bool.and_false] <;> rfl
                                   rw [hu]; rfl)
                                | (exfalso; omega)
                          · skip
                            have h90 := t_dec h85
                            refine rg_put (d := 68) (v := .d (.fl undef)) rfl (on rfl rfl rfl h85) ?_
                            refine rg_put (d := 69) (v := .d (.fl undef)) rfl (on rfl rfl rfl h85) ?_
                            refine rg_put (d := 70) (v := .d (.fl undef)) rfl (on rfl rfl rfl h85) ?_
                            refine rg_put (d := 71) (v := .d (.fl (.bool true))) rfl (og rfl (op_pick rfl rfl (by rw [h85]; rfl) rfl)) ?_
                            refine rg_put (d := 63) (v := .d (.fl (.bool true))) rfl (og rfl (op_assign rfl rfl rfl)) ?_
                            refine rg_done rfl ?_
                            refine a_condK rfl rfl ?_
                            refine a_rseq ?_
                            refine rg_put (d := 2) (v := .d (.fl (.int .i64 2))) rfl (og rfl (op_assign rfl rfl rfl)) ?_
                            refine rg_done rfl ?_
                            refine a_ret ?_
                            show ∃ ds, ResL _ _ _ ds ∧ RV.of ds = _
                            refine ⟨[.fl (.int .i64 2)], (.cons (.tmp rfl (.d _)) .nil), ?_⟩
                            first
                              | (have hu : ck d = 2 := by
                                  unfold ck am nd; simp only [h1, h3, h4, h6, h9, h11, h14, h52, h53, h55, h56, h73, h74, h76, h77, h79, h82, h84, h85, Bool.true_or, Bool.false_or, Bool.or_true, Bool.or_false, Bool.not_true, Bool.not_false, cond_true, cond_false, Bool.true_and, Bool.false_and, Bool.and_true, Bool.and_false] <;> rfl
                                 rw [hu]; rfl)
                              | (exfalso; omega)
                    · skip
                      have h91 := t_dec h77
                      refine rg_put (d := 54) (v := .d (.fl undef)) rfl (on rfl rfl rfl h77) ?_
                      refine rg_put (d := 55) (v := .d (.fl undef)) rfl (on rfl rfl rfl h77) ?_
                      refine rg_put (d := 56) (v := .d (.fl undef)) rfl (on rfl rfl rfl h77) ?_
                      refine rg_put (d := 57) (v := .d (.fl (.bool true))) rfl (og rfl (op_pick rfl rfl (by rw [h77]; rfl) rfl)) ?_
                      refine rg_put (d := 49) (v := .d (.fl (.bool true))) rfl (og rfl (op_assign rfl rfl rfl)) ?_
                      refine rg_done rfl ?_
                      refine a_condK rfl rfl ?_
                      refine a_rseq ?_
                      refine rg_put (d := 2) (v := .d (.fl (.int .i64 20))) rfl (og rfl (op_assign rfl rfl rfl)) ?_
                      refine rg_done rfl ?_
                      refine a_ret ?_
                      show ∃ ds, ResL _ _ _ ds ∧ RV.of ds = _
                      refine ⟨[.fl (.int .i64 20)], (.cons (.tmp rfl (.d _)) .nil), ?_⟩
                      first
                        | (have hu : ck d = 20 := by
                            unfold ck am nd; simp only [h1, h3, h4, h6, h9, h11, h14, h52, h53, h55, h56, h73, h74, h76, h77, Bool.true_or, Bool.false_or, Bool.or_true, Bool.or_false, Bool.not_true, Bool.not_false, cond_true, cond_false, Bool.true_and, Bool.false_and, Bool.and_true, Bool.and_false] <;> rfl
                           rw [hu]; rfl)
                        | (exfalso; omega)
        · skip
          have h92 := t_dec h9
          refine dr_put (d := 22) (v := .d (.fl undef)) rfl (on rfl rfl rfl h9) ?_
          refine dr_put (d := 23) (v := .d (.fl undef)) rfl (on rfl rfl rfl h9) ?_
          refine dr_put (d := 24) (v := .d (.fl undef)) rfl (on rfl rfl rfl h9) ?_
          refine dr_put (d := 25) (v := .d (.fl undef)) rfl (on rfl rfl rfl h9) ?_
          refine dr_put (d := 26) (v := .d (.fl undef)) rfl (on rfl rfl rfl h9) ?_
          refine dr_put (d := 27) (v := .d (.fl undef)) rfl (on rfl rfl rfl h9) ?_
          refine dr_put (d := 28) (v := .d (.fl (.bool true))) rfl (og rfl (op_pick rfl rfl (by rw [h9]; rfl) rfl)) ?_
          refine dr_put (d := 17) (v := .d (.fl (.bool true))) rfl (og rfl (op_assign rfl rfl rfl)) ?_
          refine dr_done rfl (by kernel_rfl) (by kernel_rfl) ?_
          refine a_condK rfl rfl ?_
          refine a_rseq ?_
          refine rg_put (d := 2) (v := .d (.fl (.int .i64 1))) rfl (og rfl (op_assign rfl rfl rfl)) ?_
          refine rg_done rfl ?_
          refine a_ret ?_
          show ∃ ds, ResL _ _ _ ds ∧ RV.of ds = _
          refine ⟨[.fl (.int .i64 1)], (.cons (.tmp rfl (.d _)) .nil), ?_⟩
          first
            | (have hu : ck d = 1 := by
                unfold ck am nd; simp only [h1, h3, h4, h6, h9, Bool.true_or, Bool.false_or, Bool.or_true, Bool.or_false, Bool.not_true, Bool.not_false, cond_true, cond_false, Bool.true_and, Bool.false_and, Bool.and_true, Bool.and_false] <;> rfl
               rw [hu]; rfl)
            | (exfalso; omega)
    · skip
      have h93 := t_dec h4
      refine rg_put (d := 13) (v := .d (.fl undef)) rfl (on rfl rfl rfl h4) ?_
      refine rg_put (d := 14) (v := .d (.fl undef)) rfl (on rfl rfl rfl h4) ?_
      refine rg_put (d := 15) (v := .d (.fl undef)) rfl (on rfl rfl rfl h4) ?_
      refine rg_put (d := 16) (v := .d (.fl (.bool true))) rfl (og rfl (op_pick rfl rfl (by rw [h4]; rfl) rfl)) ?_
      refine rg_put (d := 8) (v := .d (.fl (.bool true))) rfl (og rfl (op_assign rfl rfl rfl)) ?_
      refine rg_done rfl ?_
      refine a_condK rfl rfl ?_
      refine a_rseq ?_
      refine rg_put (d := 2) (v := .d (.fl (.int .i64 1))) rfl (og rfl (op_assign rfl rfl rfl)) ?_
      refine rg_done rfl ?_
      refine a_ret ?_
      show ∃ ds, ResL _ _ _ ds ∧ RV.of ds = _
      refine ⟨[.fl (.int .i64 1)], (.cons (.tmp rfl (.d _)) .nil), ?_⟩
      first
        | (have hu : ck d = 1 := by
            unfold ck am nd; simp only [h1, h3, h4, Bool.true_or, Bool.false_or, Bool.or_true, Bool.or_false, Bool.not_true, Bool.not_false, cond_true, cond_false, Bool.true_and, Bool.false_and, Bool.and_true, Bool.and_false] <;> rfl
           rw [hu]; rfl)
        | (exfalso; omega)
set_option maxHeartbeats 4000000 in
set_option maxRecDepth 100000 in
theorem ckR (d : Di) : Ctr Try.prog 9 [.ag (eDi d)] (.d (.fl (.int .i64 (ck d)))) := by
  refine ctr (n := 74) (rs := #[.tmp 2]) (L := [(0, .d (.ag (eDi d)))]) Try.func9 rfl rfl rfl rfl rfl (fun w0 U0 => ?_)
  refine a_rseq ?_
  refine rg_nam (d := 1) (v := .pt 101 0) (m := 101) (nw := [(101, .bx 25 (eDi d))]) rfl (og rfl (of_eff (op_box 101 rfl rfl rfl rfl) rfl)) rfl ?_
  refine rg_put (d := 2) (v := .d (.fl (.int .i64 0))) rfl (og rfl (op_assign rfl rfl rfl)) ?_
  refine rg_done rfl ?_
  refine a_seq ?_
  refine a_rseq ?_
  refine rg_put (d := 3) (v := .pt 101 0) rfl (og rfl (of_eff (s_field_pt rfl Try.underlying25 rfl ti9 rfl rfl rfl) rfl)) ?_
  refine rg_put (d := 4) (v := .d (.fl (.string d.name))) rfl (og rfl (op_load_pt rfl Try.underlying9 rfl rfl rfl rfl rfl)) ?_
  refine rg_put (d := 5) (v := .d (.fl (.bool (Nm.nmB d.name)))) rfl (og rfl (op_call rfl Try.func24 nm24 rfl (.cons rfl (.d _) .nil) (nam24 d.name) rfl)) ?_
  refine rg_put (d := 6) (v := .d (.fl (.bool ((!(Nm.nmB d.name)))))) rfl (og rfl (op_un rfl rfl (u_not _) rfl)) ?_
  refine rg_done rfl ?_
  refine a_cond rfl (fun h1 => ?_) (fun h1 => ?_)
  · skip
    have h2 := t_not h1
    refine a_rseq ?_
    refine rg_put (d := 2) (v := .d (.fl (.int .i64 6))) rfl (og rfl (op_assign rfl rfl rfl)) ?_
    refine rg_done rfl ?_
    refine a_ret ?_
    show ∃ ds, ResL _ _ _ ds ∧ RV.of ds = _
    refine ⟨[.fl (.int .i64 6)], (.cons (.tmp rfl (.d _)) .nil), ?_⟩
    first
      | (have hu : ck d = 6 := by
          unfold ck; simp only [h1, h2, wok_ref, Bool.true_or, Bool.false_or, Bool.or_true, Bool.or_false, Bool.not_true, Bool.not_false, cond_true, cond_false, Bool.true_and, Bool.false_and, Bool.and_true, Bool.and_false] <;> rfl
         rw [hu]; rfl)
      | (exfalso; omega)
  · skip
    have h3 := f_not h1
    refine a_skip ?_
    show A _ _ _ _ _ _ _
    refine a_seq ?_
    refine a_rseq ?_
    refine rg_put (d := 7) (v := .pt 101 1) rfl (og rfl (of_eff (s_field_pt rfl Try.underlying25 rfl ti3 rfl rfl rfl) rfl)) ?_
    refine rg_put (d := 8) (v := .d (.fl (.int .i64 d.kind))) rfl (og rfl (op_load_pt rfl Try.underlying3 rfl rfl rfl rfl rfl)) ?_
    refine rg_put (d := 9) (v := .d (.fl (.bool ((decide (d.kind < 1)))))) rfl (og rfl (op_bin rfl rfl rfl (b_lss _ _ _ _) rfl)) ?_
    refine rg_put (d := 10) (v := .d (.fl (.bool ((decide (d.kind < 1)))))) rfl (og rfl (op_move rfl rfl rfl)) ?_
    rcases fot ((decide (d.kind < 1))) with h4 | h4
    · skip
      have h5 := f_dec h4
      refine rg_put (d := 11) (v := .pt 101 1) rfl (oy rfl rfl rfl h4 (of_eff (s_field_pt rfl Try.underlying25 rfl ti3 rfl rfl rfl) rfl)) ?_
      refine rg_put (d := 12) (v := .d (.fl (.int .i64 d.kind))) rfl (oy rfl rfl rfl h4 (op_load_pt rfl Try.underlying3 rfl rfl rfl rfl rfl)) ?_
      refine rg_put (d := 13) (v := .d (.fl (.bool ((decide (3 < d.kind)))))) rfl (oy rfl rfl rfl h4 (op_bin rfl rfl rfl (b_gtr _ _ _ _) rfl)) ?_
      refine rg_put (d := 14) (v := .d (.fl (.bool ((decide (3 < d.kind)))))) rfl (og rfl (op_pick rfl rfl (by rw [h4]; rfl) rfl)) ?_
      refine rg_put (d := 15) (v := .d (.fl (.bool ((decide (3 < d.kind)))))) rfl (og rfl (op_move rfl rfl rfl)) ?_
      rcases fot ((decide (3 < d.kind))) with h6 | h6
      · skip
        have h7 := f_dec h6
        refine rg_put (d := 16) (v := .d (.ag (eDi d))) rfl (oy rfl rfl rfl h6 (of_eff (s_load_pts rfl Try.underlying25 rfl ti25 rfl rfl rfl rfl) rfl)) ?_
        refine rg_put (d := 17) (v := .d (.fl (.bool (am d)))) rfl (oy rfl rfl rfl h6 (op_call rfl Try.func25 nm25 rfl (.cons rfl (.d _) .nil) (amV d) rfl)) ?_
        refine rg_put (d := 18) (v := .d (.fl (.bool ((!(am d)))))) rfl (oy rfl rfl rfl h6 (op_un rfl rfl (u_not _) rfl)) ?_
        refine rg_put (d := 19) (v := .d (.fl (.bool ((!(am d)))))) rfl (og rfl (op_pick rfl rfl (by rw [h6]; rfl) rfl)) ?_
        refine rg_done rfl ?_
        refine a_cond rfl (fun h8 => ?_) (fun h8 => ?_)
        · skip
          have h9 := t_not h8
          refine a_rseq ?_
          refine rg_put (d := 2) (v := .d (.fl (.int .i64 1))) rfl (og rfl (op_assign rfl rfl rfl)) ?_
          refine rg_done rfl ?_
          refine a_ret ?_
          show ∃ ds, ResL _ _ _ ds ∧ RV.of ds = _
          refine ⟨[.fl (.int .i64 1)], (.cons (.tmp rfl (.d _)) .nil), ?_⟩
          first
            | (have hu : ck d = 1 := by
                unfold ck; simp only [h1, h3, h4, h6, h8, h9, wok_ref, Bool.true_or, Bool.false_or, Bool.or_true, Bool.or_false, Bool.not_true, Bool.not_false, cond_true, cond_false, Bool.true_and, Bool.false_and, Bool.and_true, Bool.and_false] <;> rfl
               rw [hu]; rfl)
            | (exfalso; omega)
        · skip
          have h10 := f_not h8
          refine a_skip ?_
          show A _ _ _ _ _ _ _
          refine a_seq ?_
          refine a_rseq ?_
          refine rg_put (d := 20) (v := .pt 101 3) rfl (og rfl (of_eff (s_field_pt rfl Try.underlying25 rfl ti9 rfl rfl rfl) rfl)) ?_
          refine rg_put (d := 21) (v := .d (.fl (.string d.group))) rfl (og rfl (op_load_pt rfl Try.underlying9 rfl rfl rfl rfl rfl)) ?_
          refine rg_put (d := 22) (v := .d (.fl (.bool (nd d.group)))) rfl (og rfl (op_call rfl Try.func26 nm26 rfl (.cons rfl (.d _) .nil) (ndV d.group) rfl)) ?_
          refine rg_put (d := 23) (v := .d (.fl (.bool ((!(nd d.group)))))) rfl (og rfl (op_un rfl rfl (u_not _) rfl)) ?_
          refine rg_put (d := 24) (v := .d (.fl (.bool ((!(nd d.group)))))) rfl (og rfl (op_move rfl rfl rfl)) ?_
          rcases fot ((!(nd d.group))) with h11 | h11
          · skip
            have h12 := f_not h11
            refine rg_put (d := 25) (v := .pt 101 4) rfl (oy rfl rfl rfl h11 (of_eff (s_field_pt rfl Try.underlying25 rfl ti9 rfl rfl rfl) rfl)) ?_
            refine rg_put (d := 26) (v := .d (.fl (.string d.sys))) rfl (oy rfl rfl rfl h11 (op_load_pt rfl Try.underlying9 rfl rfl rfl rfl rfl)) ?_
            refine rg_put (d := 27) (v := .d (.fl (.bool (nd d.sys)))) rfl (oy rfl rfl rfl h11 (op_call rfl Try.func26 nm26 rfl (.cons rfl (.d _) .nil) (ndV d.sys) rfl)) ?_
            refine rg_put (d := 28) (v := .d (.fl (.bool ((!(nd d.sys)))))) rfl (oy rfl rfl rfl h11 (op_un rfl rfl (u_not _) rfl)) ?_
            refine rg_put (d := 29) (v := .d (.fl (.bool ((!(nd d.sys)))))) rfl (og rfl (op_pick rfl rfl (by rw [h11]; rfl) rfl)) ?_
            refine rg_done rfl ?_
            refine a_cond rfl (fun h13 => ?_) (fun h13 => ?_)
            · skip
              have h14 := t_not h13
              refine a_rseq ?_
              refine rg_put (d := 2) (v := .d (.fl (.int .i64 6))) rfl (og rfl (op_assign rfl rfl rfl)) ?_
              refine rg_done rfl ?_
              refine a_ret ?_
              show ∃ ds, ResL _ _ _ ds ∧ RV.of ds = _
              refine ⟨[.fl (.int .i64 6)], (.cons (.tmp rfl (.d _)) .nil), ?_⟩
              first
                | (have hu : ck d = 6 := by
                    unfold ck; simp only [h1, h3, h4, h6, h8, h10, h11, h12, h13, h14, wok_ref, Bool.true_or, Bool.false_or, Bool.or_true, Bool.or_false, Bool.not_true, Bool.not_false, cond_true, cond_false, Bool.true_and, Bool.false_and, Bool.and_true, Bool.and_false] <;> rfl
                   rw [hu]; rfl)
                | (exfalso; omega)
            · skip
              have h15 := f_not h13
              refine a_skip ?_
              show A _ _ _ _ _ _ _
              refine a_seq ?_
              refine a_rseq ?_
              refine rg_put (d := 30) (v := .pt 101 5) rfl (og rfl (of_eff (s_field_pt rfl Try.underlying25 rfl ti3 rfl rfl rfl) rfl)) ?_
              refine rg_put (d := 31) (v := .d (.fl (.int .i64 d.cls))) rfl (og rfl (op_load_pt rfl Try.underlying3 rfl rfl rfl rfl rfl)) ?_
              refine rg_put (d := 32) (v := .d (.fl (.bool ((decide (d.cls < 0)))))) rfl (og rfl (op_bin rfl rfl rfl (b_lss _ _ _ _) rfl)) ?_
              refine rg_put (d := 33) (v := .d (.fl (.bool ((decide (d.cls < 0)))))) rfl (og rfl (op_move rfl rfl rfl)) ?_
              rcases fot ((decide (d.cls < 0))) with h16 | h16
              · skip
                have h17 := f_dec h16
                refine rg_put (d := 34) (v := .pt 101 5) rfl (oy rfl rfl rfl h16 (of_eff (s_field_pt rfl Try.underlying25 rfl ti3 rfl rfl rfl) rfl)) ?_
                refine rg_put (d := 35) (v := .d (.fl (.int .i64 d.cls))) rfl (oy rfl rfl rfl h16 (op_load_pt rfl Try.underlying3 rfl rfl rfl rfl rfl)) ?_
                refine rg_put (d := 36) (v := .d (.fl (.bool ((decide (9 < d.cls)))))) rfl (oy rfl rfl rfl h16 (op_bin rfl rfl rfl (b_gtr _ _ _ _) rfl)) ?_
                refine rg_put (d := 37) (v := .d (.fl (.bool ((decide (9 < d.cls)))))) rfl (og rfl (op_pick rfl rfl (by rw [h16]; rfl) rfl)) ?_
                refine rg_done rfl ?_
                refine a_cond rfl (fun h18 => ?_) (fun h18 => ?_)
                · skip
                  have h19 := t_dec h18
                  refine a_rseq ?_
                  refine rg_put (d := 2) (v := .d (.fl (.int .i64 20))) rfl (og rfl (op_assign rfl rfl rfl)) ?_
                  refine rg_done rfl ?_
                  refine a_ret ?_
                  show ∃ ds, ResL _ _ _ ds ∧ RV.of ds = _
                  refine ⟨[.fl (.int .i64 20)], (.cons (.tmp rfl (.d _)) .nil), ?_⟩
                  first
                    | (have hu : ck d = 20 := by
                        unfold ck; simp only [h1, h3, h4, h6, h8, h10, h11, h12, h13, h15, h16, h18, wok_ref, Bool.true_or, Bool.false_or, Bool.or_true, Bool.or_false, Bool.not_true, Bool.not_false, cond_true, cond_false, Bool.true_and, Bool.false_and, Bool.and_true, Bool.and_false] <;> rfl
                       rw [hu]; rfl)
                    | (exfalso; omega)
                · skip
                  have h20 := f_dec h18
                  refine a_skip ?_
                  show A _ _ _ _ _ _ _
                  refine a_seq ?_
                  refine a_rseq ?_
                  refine rg_put (d := 38) (v := .pt 101 6) rfl (og rfl (of_eff (s_field_pt rfl Try.underlying25 rfl ti23 rfl rfl rfl) rfl)) ?_
                  refine rg_put (d := 39) (v := .pt 101 6) rfl (og rfl (of_eff (s_field_pt rfl Try.underlying23 rfl ti3 rfl rfl rfl) rfl)) ?_
                  refine rg_put (d := 40) (v := .d (.fl (.int .i64 d.win.days))) rfl (og rfl (op_load_pt rfl Try.underlying3 rfl rfl rfl rfl rfl)) ?_
                  refine rg_put (d := 41) (v := .d (.fl (.bool (d.win.days != 0)))) rfl (og rfl (op_bin rfl rfl rfl (b_neq _ _ _ _) rfl)) ?_
                  refine rg_put (d := 42) (v := .d (.fl (.bool (d.win.days != 0)))) rfl (og rfl (op_move rfl rfl rfl)) ?_
                  rcases fot (d.win.days != 0) with h21 | h21
                  · skip
                    have h22 := f_bne h21
                    refine rg_put (d := 43) (v := .d (.fl undef)) rfl (on rfl rfl rfl h21) ?_
                    refine rg_put (d := 44) (v := .d (.fl undef)) rfl (on rfl rfl rfl h21) ?_
                    refine rg_put (d := 45) (v := .d (.fl undef)) rfl (on rfl rfl rfl h21) ?_
                    refine rg_put (d := 46) (v := .d (.fl undef)) rfl (on rfl rfl rfl h21) ?_
                    refine rg_put (d := 47) (v := .d (.fl (.bool false))) rfl (og rfl (op_pick rfl rfl (by rw [h21]; rfl) rfl)) ?_
                    refine rg_put (d := 48) (v := .d (.fl (.bool false))) rfl (og rfl (op_move rfl rfl rfl)) ?_
                    refine rg_put (d := 49) (v := .pt 101 6) rfl (oy rfl rfl rfl rfl (of_eff (s_field_pt rfl Try.underlying25 rfl ti23 rfl rfl rfl) rfl)) ?_
                    refine rg_put (d := 50) (v := .pt 101 6) rfl (oy rfl rfl rfl rfl (of_eff (s_field_pt rfl Try.underlying23 rfl ti3 rfl rfl rfl) rfl)) ?_
                    refine rg_put (d := 51) (v := .d (.fl (.int .i64 d.win.days))) rfl (oy rfl rfl rfl rfl (op_load_pt rfl Try.underlying3 rfl rfl rfl rfl rfl)) ?_
                    refine rg_put (d := 52) (v := .d (.fl (.bool (d.win.days == 0)))) rfl (oy rfl rfl rfl rfl (op_bin rfl rfl rfl (b_eql _ _ _ _) rfl)) ?_
                    refine rg_put (d := 53) (v := .d (.fl (.bool (d.win.days == 0)))) rfl (oy rfl rfl rfl rfl (op_move rfl rfl rfl)) ?_
                    rcases fot (d.win.days == 0) with h23 | h23
                    · skip
                      have h24 := f_beq h23
                      refine rg_put (d := 54) (v := .d (.fl undef)) rfl (on rfl rfl rfl h23) ?_
                      refine rg_put (d := 55) (v := .d (.fl undef)) rfl (on rfl rfl rfl h23) ?_
                      refine rg_put (d := 56) (v := .d (.fl undef)) rfl (on rfl rfl rfl h23) ?_
                      refine rg_put (d := 57) (v := .d (.fl undef)) rfl (on rfl rfl rfl h23) ?_
                      refine rg_put (d := 58) (v := .d (.fl undef)) rfl (on rfl rfl rfl h23) ?_
                      refine rg_put (d := 59) (v := .d (.fl undef)) rfl (ou rfl rfl rfl) ?_
                      refine rg_put (d := 60) (v := .d (.fl undef)) rfl (ou rfl rfl rfl) ?_
                      refine rg_put (d := 61) (v := .d (.fl undef)) rfl (ou rfl rfl rfl) ?_
                      refine rg_put (d := 62) (v := .d (.fl undef)) rfl (ou rfl rfl rfl) ?_
                      refine rg_put (d := 63) (v := .d (.fl undef)) rfl (on rfl rfl rfl h23) ?_
                      refine rg_put (d := 64) (v := .d (.fl (.bool false))) rfl (oy rfl rfl rfl rfl (op_pick rfl rfl (by rw [h23]; rfl) rfl)) ?_
                      refine rg_put (d := 65) (v := .d (.fl (.bool false))) rfl (og rfl (op_pick rfl rfl rfl rfl)) ?_
                      refine rg_done rfl ?_
                      refine a_condF rfl rfl ?_
                      refine a_skip ?_
                      show A _ _ _ _ _ _ _
                      refine a_seq ?_
                      refine a_rseq ?_
                      refine rg_put (d := 66) (v := .pt 101 9) rfl (og rfl (of_eff (s_field_pt rfl Try.underlying25 rfl ti3 rfl rfl rfl) rfl)) ?_
                      refine rg_put (d := 67) (v := .d (.fl (.int .i64 d.least))) rfl (og rfl (op_load_pt rfl Try.underlying3 rfl rfl rfl rfl rfl)) ?_
                      refine rg_put (d := 68) (v := .d (.fl (.bool ((decide (d.least < 0)))))) rfl (og rfl (op_bin rfl rfl rfl (b_lss _ _ _ _) rfl)) ?_
                      refine rg_put (d := 69) (v := .d (.fl (.bool ((decide (d.least < 0)))))) rfl (og rfl (op_move rfl rfl rfl)) ?_
                      rcases fot ((decide (d.least < 0))) with h25 | h25
                      · skip
                        have h26 := f_dec h25
                        refine rg_put (d := 70) (v := .pt 101 9) rfl (oy rfl rfl rfl h25 (of_eff (s_field_pt rfl Try.underlying25 rfl ti3 rfl rfl rfl) rfl)) ?_
                        refine rg_put (d := 71) (v := .d (.fl (.int .i64 d.least))) rfl (oy rfl rfl rfl h25 (op_load_pt rfl Try.underlying3 rfl rfl rfl rfl rfl)) ?_
                        refine rg_put (d := 72) (v := .d (.fl (.bool ((decide (2147483648 < d.least)))))) rfl (oy rfl rfl rfl h25 (op_bin rfl rfl rfl (b_gtr _ _ _ _) rfl)) ?_
                        refine rg_put (d := 73) (v := .d (.fl (.bool ((decide (2147483648 < d.least)))))) rfl (og rfl (op_pick rfl rfl (by rw [h25]; rfl) rfl)) ?_
                        refine rg_done rfl ?_
                        refine a_cond rfl (fun h27 => ?_) (fun h27 => ?_)
                        · skip
                          have h28 := t_dec h27
                          refine a_rseq ?_
                          refine rg_put (d := 2) (v := .d (.fl (.int .i64 2))) rfl (og rfl (op_assign rfl rfl rfl)) ?_
                          refine rg_done rfl ?_
                          refine a_ret ?_
                          show ∃ ds, ResL _ _ _ ds ∧ RV.of ds = _
                          refine ⟨[.fl (.int .i64 2)], (.cons (.tmp rfl (.d _)) .nil), ?_⟩
                          first
                            | (have hu : ck d = 2 := by
                                unfold ck; simp only [h1, h3, h4, h6, h8, h10, h11, h12, h13, h15, h16, h18, h21, h23, h25, h27, wok_ref, Bool.true_or, Bool.false_or, Bool.or_true, Bool.or_false, Bool.not_true, Bool.not_false, cond_true, cond_false, Bool.true_and, Bool.false_and, Bool.and_true, Bool.and_false] <;> rfl
                               rw [hu]; rfl)
                            | (exfalso; omega)
                        · skip
                          have h29 := f_dec h27
                          refine a_skip ?_
                          show A _ _ _ _ _ _ _
                          refine a_rseq ?_
                          refine rg_put (d := 2) (v := .d (.fl (.int .i64 0))) rfl (og rfl (op_assign rfl rfl rfl)) ?_
                          refine rg_done rfl ?_
                          refine a_ret ?_
                          show ∃ ds, ResL _ _ _ ds ∧ RV.of ds = _
                          refine ⟨[.fl (.int .i64 0)], (.cons (.tmp rfl (.d _)) .nil), ?_⟩
                          first
                            | (have hu : ck d = 0 := by
                                unfold ck; simp only [h1, h3, h4, h6, h8, h10, h11, h12, h13, h15, h16, h18, h21, h23, h25, h27, wok_ref, Bool.true_or, Bool.false_or, Bool.or_true, Bool.or_false, Bool.not_true, Bool.not_false, cond_true, cond_false, Bool.true_and, Bool.false_and, Bool.and_true, Bool.and_false] <;> rfl
                               rw [hu]; rfl)
                            | (exfalso; omega)
                      · skip
                        have h30 := t_dec h25
                        refine rg_put (d := 70) (v := .d (.fl undef)) rfl (on rfl rfl rfl h25) ?_
                        refine rg_put (d := 71) (v := .d (.fl undef)) rfl (on rfl rfl rfl h25) ?_
                        refine rg_put (d := 72) (v := .d (.fl undef)) rfl (on rfl rfl rfl h25) ?_
                        refine rg_put (d := 73) (v := .d (.fl (.bool true))) rfl (og rfl (op_pick rfl rfl (by rw [h25]; rfl) rfl)) ?_
                        refine rg_done rfl ?_
                        refine a_condK rfl rfl ?_
                        refine a_rseq ?_
                        refine rg_put (d := 2) (v := .d (.fl (.int .i64 2))) rfl (og rfl (op_assign rfl rfl rfl)) ?_
                        refine rg_done rfl ?_
                        refine a_ret ?_
                        show ∃ ds, ResL _ _ _ ds ∧ RV.of ds = _
                        refine ⟨[.fl (.int .i64 2)], (.cons (.tmp rfl (.d _)) .nil), ?_⟩
                        first
                          | (have hu : ck d = 2 := by
                              unfold ck; simp only [h1, h3, h4, h6, h8, h10, h11, h12, h13, h15, h16, h18, h21, h23, h25, wok_ref, Bool.true_or, Bool.false_or, Bool.or_true, Bool.or_false, Bool.not_true, Bool.not_false, cond_true, cond_false, Bool.true_and, Bool.false_and, Bool.and_true, Bool.and_false] <;> rfl
                             rw [hu]; rfl)
                          | (exfalso; omega)
                    · skip
                      have h31 := t_beq h23
                      refine rg_put (d := 54) (v := .pt 101 6) rfl (oy rfl rfl rfl h23 (of_eff (s_field_pt rfl Try.underlying25 rfl ti23 rfl rfl rfl) rfl)) ?_
                      refine rg_put (d := 55) (v := .pt 101 7) rfl (oy rfl rfl rfl h23 (of_eff (s_field_pt rfl Try.underlying23 rfl ti3 rfl rfl rfl) rfl)) ?_
                      refine rg_put (d := 56) (v := .d (.fl (.int .i64 d.win.fr))) rfl (oy rfl rfl rfl h23 (op_load_pt rfl Try.underlying3 rfl rfl rfl rfl rfl)) ?_
                      refine rg_put (d := 57) (v := .d (.fl (.bool (d.win.fr != 0)))) rfl (oy rfl rfl rfl h23 (op_bin rfl rfl rfl (b_neq _ _ _ _) rfl)) ?_
                      refine rg_put (d := 58) (v := .d (.fl (.bool (d.win.fr != 0)))) rfl (oy rfl rfl rfl h23 (op_move rfl rfl rfl)) ?_
                      rcases fot (d.win.fr != 0) with h32 | h32
                      · skip
                        have h33 := f_bne h32
                        refine rg_put (d := 59) (v := .pt 101 6) rfl (oy rfl rfl rfl h32 (of_eff (s_field_pt rfl Try.underlying25 rfl ti23 rfl rfl rfl) rfl)) ?_
                        refine rg_put (d := 60) (v := .pt 101 8) rfl (oy rfl rfl rfl h32 (of_eff (s_field_pt rfl Try.underlying23 rfl ti3 rfl rfl rfl) rfl)) ?_
                        refine rg_put (d := 61) (v := .d (.fl (.int .i64 d.win.to))) rfl (oy rfl rfl rfl h32 (op_load_pt rfl Try.underlying3 rfl rfl rfl rfl rfl)) ?_
                        refine rg_put (d := 62) (v := .d (.fl (.bool (d.win.to != 0)))) rfl (oy rfl rfl rfl h32 (op_bin rfl rfl rfl (b_neq _ _ _ _) rfl)) ?_
                        refine rg_put (d := 63) (v := .d (.fl (.bool (d.win.to != 0)))) rfl (oy rfl rfl rfl h23 (op_pick rfl rfl (by rw [h32]; rfl) rfl)) ?_
                        refine rg_put (d := 64) (v := .d (.fl (.bool (d.win.to != 0)))) rfl (oy rfl rfl rfl rfl (op_pick rfl rfl (by rw [h23]; rfl) rfl)) ?_
                        refine rg_put (d := 65) (v := .d (.fl (.bool (d.win.to != 0)))) rfl (og rfl (op_pick rfl rfl rfl rfl)) ?_
                        refine rg_done rfl ?_
                        refine a_cond rfl (fun h34 => ?_) (fun h34 => ?_)
                        · skip
                          have h35 := t_bne h34
                          refine a_rseq ?_
                          refine rg_put (d := 2) (v := .d (.fl (.int .i64 12))) rfl (og rfl (op_assign rfl rfl rfl)) ?_
                          refine rg_done rfl ?_
                          refine a_ret ?_
                          show ∃ ds, ResL _ _ _ ds ∧ RV.of ds = _
                          refine ⟨[.fl (.int .i64 12)], (.cons (.tmp rfl (.d _)) .nil), ?_⟩
                          first
                            | (have hu : ck d = 12 := by
                                unfold ck; simp only [h1, h3, h4, h6, h8, h10, h11, h12, h13, h15, h16, h18, h21, h23, h32, h34, wok_ref, Bool.true_or, Bool.false_or, Bool.or_true, Bool.or_false, Bool.not_true, Bool.not_false, cond_true, cond_false, Bool.true_and, Bool.false_and, Bool.and_true, Bool.and_false] <;> rfl
                               rw [hu]; rfl)
                            | (exfalso; omega)
                        · skip
                          have h36 := f_bne h34
                          refine a_skip ?_
                          show A _ _ _ _ _ _ _
                          refine a_seq ?_
                          refine a_rseq ?_
                          refine rg_put (d := 66) (v := .pt 101 9) rfl (og rfl (of_eff (s_field_pt rfl Try.underlying25 rfl ti3 rfl rfl rfl) rfl)) ?_
                          refine rg_put (d := 67) (v := .d (.fl (.int .i64 d.least))) rfl (og rfl (op_load_pt rfl Try.underlying3 rfl rfl rfl rfl rfl)) ?_
                          refine rg_put (d := 68) (v := .d (.fl (.bool ((decide (d.least < 0)))))) rfl (og rfl (op_bin rfl rfl rfl (b_lss _ _ _ _) rfl)) ?_
                          refine rg_put (d := 69) (v := .d (.fl (.bool ((decide (d.least < 0)))))) rfl (og rfl (op_move rfl rfl rfl)) ?_
                          rcases fot ((decide (d.least < 0))) with h37 | h37
                          · skip
                            have h38 := f_dec h37
                            refine rg_put (d := 70) (v := .pt 101 9) rfl (oy rfl rfl rfl h37 (of_eff (s_field_pt rfl Try.underlying25 rfl ti3 rfl rfl rfl) rfl)) ?_
                            refine rg_put (d := 71) (v := .d (.fl (.int .i64 d.least))) rfl (oy rfl rfl rfl h37 (op_load_pt rfl Try.underlying3 rfl rfl rfl rfl rfl)) ?_
                            refine rg_put (d := 72) (v := .d (.fl (.bool ((decide (2147483648 < d.least)))))) rfl (oy rfl rfl rfl h37 (op_bin rfl rfl rfl (b_gtr _ _ _ _) rfl)) ?_
                            refine rg_put (d := 73) (v := .d (.fl (.bool ((decide (2147483648 < d.least)))))) rfl (og rfl (op_pick rfl rfl (by rw [h37]; rfl) rfl)) ?_
                            refine rg_done rfl ?_
                            refine a_cond rfl (fun h39 => ?_) (fun h39 => ?_)
                            · skip
                              have h40 := t_dec h39
                              refine a_rseq ?_
                              refine rg_put (d := 2) (v := .d (.fl (.int .i64 2))) rfl (og rfl (op_assign rfl rfl rfl)) ?_
                              refine rg_done rfl ?_
                              refine a_ret ?_
                              show ∃ ds, ResL _ _ _ ds ∧ RV.of ds = _
                              refine ⟨[.fl (.int .i64 2)], (.cons (.tmp rfl (.d _)) .nil), ?_⟩
                              first
                                | (have hu : ck d = 2 := by
                                    unfold ck; simp only [h1, h3, h4, h6, h8, h10, h11, h12, h13, h15, h16, h18, h21, h23, h32, h34, h37, h39, wok_ref, Bool.true_or, Bool.false_or, Bool.or_true, Bool.or_false, Bool.not_true, Bool.not_false, cond_true, cond_false, Bool.true_and, Bool.false_and, Bool.and_true, Bool.and_false] <;> rfl
                                   rw [hu]; rfl)
                                | (exfalso; omega)
                            · skip
                              have h41 := f_dec h39
                              refine a_skip ?_
                              show A _ _ _ _ _ _ _
                              refine a_rseq ?_
                              refine rg_put (d := 2) (v := .d (.fl (.int .i64 0))) rfl (og rfl (op_assign rfl rfl rfl)) ?_
                              refine rg_done rfl ?_
                              refine a_ret ?_
                              show ∃ ds, ResL _ _ _ ds ∧ RV.of ds = _
                              refine ⟨[.fl (.int .i64 0)], (.cons (.tmp rfl (.d _)) .nil), ?_⟩
                              first
                                | (have hu : ck d = 0 := by
                                    unfold ck; simp only [h1, h3, h4, h6, h8, h10, h11, h12, h13, h15, h16, h18, h21, h23, h32, h34, h37, h39, wok_ref, Bool.true_or, Bool.false_or, Bool.or_true, Bool.or_false, Bool.not_true, Bool.not_false, cond_true, cond_false, Bool.true_and, Bool.false_and, Bool.and_true, Bool.and_false] <;> rfl
                                   rw [hu]; rfl)
                                | (exfalso; omega)
                          · skip
                            have h42 := t_dec h37
                            refine rg_put (d := 70) (v := .d (.fl undef)) rfl (on rfl rfl rfl h37) ?_
                            refine rg_put (d := 71) (v := .d (.fl undef)) rfl (on rfl rfl rfl h37) ?_
                            refine rg_put (d := 72) (v := .d (.fl undef)) rfl (on rfl rfl rfl h37) ?_
                            refine rg_put (d := 73) (v := .d (.fl (.bool true))) rfl (og rfl (op_pick rfl rfl (by rw [h37]; rfl) rfl)) ?_
                            refine rg_done rfl ?_
                            refine a_condK rfl rfl ?_
                            refine a_rseq ?_
                            refine rg_put (d := 2) (v := .d (.fl (.int .i64 2))) rfl (og rfl (op_assign rfl rfl rfl)) ?_
                            refine rg_done rfl ?_
                            refine a_ret ?_
                            show ∃ ds, ResL _ _ _ ds ∧ RV.of ds = _
                            refine ⟨[.fl (.int .i64 2)], (.cons (.tmp rfl (.d _)) .nil), ?_⟩
                            first
                              | (have hu : ck d = 2 := by
                                  unfold ck; simp only [h1, h3, h4, h6, h8, h10, h11, h12, h13, h15, h16, h18, h21, h23, h32, h34, h37, wok_ref, Bool.true_or, Bool.false_or, Bool.or_true, Bool.or_false, Bool.not_true, Bool.not_false, cond_true, cond_false, Bool.true_and, Bool.false_and, Bool.and_true, Bool.and_false] <;> rfl
                                 rw [hu]; rfl)
                              | (exfalso; omega)
                      · skip
                        have h43 := t_bne h32
                        refine rg_put (d := 59) (v := .d (.fl undef)) rfl (on rfl rfl rfl h32) ?_
                        refine rg_put (d := 60) (v := .d (.fl undef)) rfl (on rfl rfl rfl h32) ?_
                        refine rg_put (d := 61) (v := .d (.fl undef)) rfl (on rfl rfl rfl h32) ?_
                        refine rg_put (d := 62) (v := .d (.fl undef)) rfl (on rfl rfl rfl h32) ?_
                        refine rg_put (d := 63) (v := .d (.fl (.bool true))) rfl (oy rfl rfl rfl h23 (op_pick rfl rfl (by rw [h32]; rfl) rfl)) ?_
                        refine rg_put (d := 64) (v := .d (.fl (.bool true))) rfl (oy rfl rfl rfl rfl (op_pick rfl rfl (by rw [h23]; rfl) rfl)) ?_
                        refine rg_put (d := 65) (v := .d (.fl (.bool true))) rfl (og rfl (op_pick rfl rfl rfl rfl)) ?_
                        refine rg_done rfl ?_
                        refine a_condK rfl rfl ?_
                        refine a_rseq ?_
                        refine rg_put (d := 2) (v := .d (.fl (.int .i64 12))) rfl (og rfl (op_assign rfl rfl rfl)) ?_
                        refine rg_done rfl ?_
                        refine a_ret ?_
                        show ∃ ds, ResL _ _ _ ds ∧ RV.of ds = _
                        refine ⟨[.fl (.int .i64 12)], (.cons (.tmp rfl (.d _)) .nil), ?_⟩
                        first
                          | (have hu : ck d = 12 := by
                              unfold ck; simp only [h1, h3, h4, h6, h8, h10, h11, h12, h13, h15, h16, h18, h21, h23, h32, wok_ref, Bool.true_or, Bool.false_or, Bool.or_true, Bool.or_false, Bool.not_true, Bool.not_false, cond_true, cond_false, Bool.true_and, Bool.false_and, Bool.and_true, Bool.and_false] <;> rfl
                             rw [hu]; rfl)
                          | (exfalso; omega)
                  · skip
                    have h44 := t_bne h21
                    refine rg_put (d := 43) (v := .pt 101 6) rfl (oy rfl rfl rfl h21 (of_eff (s_field_pt rfl Try.underlying25 rfl ti23 rfl rfl rfl) rfl)) ?_
                    refine rg_put (d := 44) (v := .d (.ag (eWd d.win))) rfl (oy rfl rfl rfl h21 (of_eff (s_load_pts rfl Try.underlying23 rfl ti23 rfl rfl rfl rfl) rfl)) ?_
                    refine rg_put (d := 45) (v := .d (.fl (.bool (vW d.win)))) rfl (oy rfl rfl rfl h21 (op_call rfl Try.func27 nm27 rfl (.cons rfl (.d _) .nil) (vW33 d.win) rfl)) ?_
                    refine rg_put (d := 46) (v := .d (.fl (.bool ((!(vW d.win)))))) rfl (oy rfl rfl rfl h21 (op_un rfl rfl (u_not _) rfl)) ?_
                    refine rg_put (d := 47) (v := .d (.fl (.bool ((!(vW d.win)))))) rfl (og rfl (op_pick rfl rfl (by rw [h21]; rfl) rfl)) ?_
                    refine rg_put (d := 48) (v := .d (.fl (.bool ((!(vW d.win)))))) rfl (og rfl (op_move rfl rfl rfl)) ?_
                    rcases fot ((!(vW d.win))) with h45 | h45
                    · skip
                      have h46 := f_not h45
                      refine rg_put (d := 49) (v := .pt 101 6) rfl (oy rfl rfl rfl h45 (of_eff (s_field_pt rfl Try.underlying25 rfl ti23 rfl rfl rfl) rfl)) ?_
                      refine rg_put (d := 50) (v := .pt 101 6) rfl (oy rfl rfl rfl h45 (of_eff (s_field_pt rfl Try.underlying23 rfl ti3 rfl rfl rfl) rfl)) ?_
                      refine rg_put (d := 51) (v := .d (.fl (.int .i64 d.win.days))) rfl (oy rfl rfl rfl h45 (op_load_pt rfl Try.underlying3 rfl rfl rfl rfl rfl)) ?_
                      refine rg_put (d := 52) (v := .d (.fl (.bool (d.win.days == 0)))) rfl (oy rfl rfl rfl h45 (op_bin rfl rfl rfl (b_eql _ _ _ _) rfl)) ?_
                      refine rg_put (d := 53) (v := .d (.fl (.bool (d.win.days == 0)))) rfl (oy rfl rfl rfl h45 (op_move rfl rfl rfl)) ?_
                      rcases fot (d.win.days == 0) with h47 | h47
                      · skip
                        have h48 := f_beq h47
                        refine rg_put (d := 54) (v := .d (.fl undef)) rfl (on rfl rfl rfl h47) ?_
                        refine rg_put (d := 55) (v := .d (.fl undef)) rfl (on rfl rfl rfl h47) ?_
                        refine rg_put (d := 56) (v := .d (.fl undef)) rfl (on rfl rfl rfl h47) ?_
                        refine rg_put (d := 57) (v := .d (.fl undef)) rfl (on rfl rfl rfl h47) ?_
                        refine rg_put (d := 58) (v := .d (.fl undef)) rfl (on rfl rfl rfl h47) ?_
                        refine rg_put (d := 59) (v := .d (.fl undef)) rfl (ou rfl rfl rfl) ?_
                        refine rg_put (d := 60) (v := .d (.fl undef)) rfl (ou rfl rfl rfl) ?_
                        refine rg_put (d := 61) (v := .d (.fl undef)) rfl (ou rfl rfl rfl) ?_
                        refine rg_put (d := 62) (v := .d (.fl undef)) rfl (ou rfl rfl rfl) ?_
                        refine rg_put (d := 63) (v := .d (.fl undef)) rfl (on rfl rfl rfl h47) ?_
                        refine rg_put (d := 64) (v := .d (.fl (.bool false))) rfl (oy rfl rfl rfl h45 (op_pick rfl rfl (by rw [h47]; rfl) rfl)) ?_
                        refine rg_put (d := 65) (v := .d (.fl (.bool false))) rfl (og rfl (op_pick rfl rfl (by rw [h45]; rfl) rfl)) ?_
                        refine rg_done rfl ?_
                        refine a_condF rfl rfl ?_
                        refine a_skip ?_
                        show A _ _ _ _ _ _ _
                        refine a_seq ?_
                        refine a_rseq ?_
                        refine rg_put (d := 66) (v := .pt 101 9) rfl (og rfl (of_eff (s_field_pt rfl Try.underlying25 rfl ti3 rfl rfl rfl) rfl)) ?_
                        refine rg_put (d := 67) (v := .d (.fl (.int .i64 d.least))) rfl (og rfl (op_load_pt rfl Try.underlying3 rfl rfl rfl rfl rfl)) ?_
                        refine rg_put (d := 68) (v := .d (.fl (.bool ((decide (d.least < 0)))))) rfl (og rfl (op_bin rfl rfl rfl (b_lss _ _ _ _) rfl)) ?_
                        refine rg_put (d := 69) (v := .d (.fl (.bool ((decide (d.least < 0)))))) rfl (og rfl (op_move rfl rfl rfl)) ?_
                        rcases fot ((decide (d.least < 0))) with h49 | h49
                        · skip
                          have h50 := f_dec h49
                          refine rg_put (d := 70) (v := .pt 101 9) rfl (oy rfl rfl rfl h49 (of_eff (s_field_pt rfl Try.underlying25 rfl ti3 rfl rfl rfl) rfl)) ?_
                          refine rg_put (d := 71) (v := .d (.fl (.int .i64 d.least))) rfl (oy rfl rfl rfl h49 (op_load_pt rfl Try.underlying3 rfl rfl rfl rfl rfl)) ?_
                          refine rg_put (d := 72) (v := .d (.fl (.bool ((decide (2147483648 < d.least)))))) rfl (oy rfl rfl rfl h49 (op_bin rfl rfl rfl (b_gtr _ _ _ _) rfl)) ?_
                          refine rg_put (d := 73) (v := .d (.fl (.bool ((decide (2147483648 < d.least)))))) rfl (og rfl (op_pick rfl rfl (by rw [h49]; rfl) rfl)) ?_
                          refine rg_done rfl ?_
                          refine a_cond rfl (fun h51 => ?_) (fun h51 => ?_)
                          · skip
                            have h52 := t_dec h51
                            refine a_rseq ?_
                            refine rg_put (d := 2) (v := .d (.fl (.int .i64 2))) rfl (og rfl (op_assign rfl rfl rfl)) ?_
                            refine rg_done rfl ?_
                            refine a_ret ?_
                            show ∃ ds, ResL _ _ _ ds ∧ RV.of ds = _
                            refine ⟨[.fl (.int .i64 2)], (.cons (.tmp rfl (.d _)) .nil), ?_⟩
                            first
                              | (have hu : ck d = 2 := by
                                  unfold ck; simp only [h1, h3, h4, h6, h8, h10, h11, h12, h13, h15, h16, h18, h21, h45, h46, h47, h49, h51, wok_ref, Bool.true_or, Bool.false_or, Bool.or_true, Bool.or_false, Bool.not_true, Bool.not_false, cond_true, cond_false, Bool.true_and, Bool.false_and, Bool.and_true, Bool.and_false] <;> rfl
                                 rw [hu]; rfl)
                              | (exfalso; omega)
                          · skip
                            have h53 := f_dec h51
                            refine a_skip ?_
                            show A _ _ _ _ _ _ _
                            refine a_rseq ?_
                            refine rg_put (d := 2) (v := .d (.fl (.int .i64 0))) rfl (og rfl (op_assign rfl rfl rfl)) ?_
                            refine rg_done rfl ?_
                            refine a_ret ?_
                            show ∃ ds, ResL _ _ _ ds ∧ RV.of ds = _
                            refine ⟨[.fl (.int .i64 0)], (.cons (.tmp rfl (.d _)) .nil), ?_⟩
                            first
                              | (have hu : ck d = 0 := by
                                  unfold ck; simp only [h1, h3, h4, h6, h8, h10, h11, h12, h13, h15, h16, h18, h21, h45, h46, h47, h49, h51, wok_ref, Bool.true_or, Bool.false_or, Bool.or_true, Bool.or_false, Bool.not_true, Bool.not_false, cond_true, cond_false, Bool.true_and, Bool.false_and, Bool.and_true, Bool.and_false] <;> rfl
                                 rw [hu]; rfl)
                              | (exfalso; omega)
                        · skip
                          have h54 := t_dec h49
                          refine rg_put (d := 70) (v := .d (.fl undef)) rfl (on rfl rfl rfl h49) ?_
                          refine rg_put (d := 71) (v := .d (.fl undef)) rfl (on rfl rfl rfl h49) ?_
                          refine rg_put (d := 72) (v := .d (.fl undef)) rfl (on rfl rfl rfl h49) ?_
                          refine rg_put (d := 73) (v := .d (.fl (.bool true))) rfl (og rfl (op_pick rfl rfl (by rw [h49]; rfl) rfl)) ?_
                          refine rg_done rfl ?_
                          refine a_condK rfl rfl ?_
                          refine a_rseq ?_
                          refine rg_put (d := 2) (v := .d (.fl (.int .i64 2))) rfl (og rfl (op_assign rfl rfl rfl)) ?_
                          refine rg_done rfl ?_
                          refine a_ret ?_
                          show ∃ ds, ResL _ _ _ ds ∧ RV.of ds = _
                          refine ⟨[.fl (.int .i64 2)], (.cons (.tmp rfl (.d _)) .nil), ?_⟩
                          first
                            | (have hu : ck d = 2 := by
                                unfold ck; simp only [h1, h3, h4, h6, h8, h10, h11, h12, h13, h15, h16, h18, h21, h45, h46, h47, h49, wok_ref, Bool.true_or, Bool.false_or, Bool.or_true, Bool.or_false, Bool.not_true, Bool.not_false, cond_true, cond_false, Bool.true_and, Bool.false_and, Bool.and_true, Bool.and_false] <;> rfl
                               rw [hu]; rfl)
                            | (exfalso; omega)
                      · skip
                        have h55 := t_beq h47
                        refine rg_put (d := 54) (v := .pt 101 6) rfl (oy rfl rfl rfl h47 (of_eff (s_field_pt rfl Try.underlying25 rfl ti23 rfl rfl rfl) rfl)) ?_
                        refine rg_put (d := 55) (v := .pt 101 7) rfl (oy rfl rfl rfl h47 (of_eff (s_field_pt rfl Try.underlying23 rfl ti3 rfl rfl rfl) rfl)) ?_
                        refine rg_put (d := 56) (v := .d (.fl (.int .i64 d.win.fr))) rfl (oy rfl rfl rfl h47 (op_load_pt rfl Try.underlying3 rfl rfl rfl rfl rfl)) ?_
                        refine rg_put (d := 57) (v := .d (.fl (.bool (d.win.fr != 0)))) rfl (oy rfl rfl rfl h47 (op_bin rfl rfl rfl (b_neq _ _ _ _) rfl)) ?_
                        refine rg_put (d := 58) (v := .d (.fl (.bool (d.win.fr != 0)))) rfl (oy rfl rfl rfl h47 (op_move rfl rfl rfl)) ?_
                        rcases fot (d.win.fr != 0) with h56 | h56
                        · skip
                          have h57 := f_bne h56
                          refine rg_put (d := 59) (v := .pt 101 6) rfl (oy rfl rfl rfl h56 (of_eff (s_field_pt rfl Try.underlying25 rfl ti23 rfl rfl rfl) rfl)) ?_
                          refine rg_put (d := 60) (v := .pt 101 8) rfl (oy rfl rfl rfl h56 (of_eff (s_field_pt rfl Try.underlying23 rfl ti3 rfl rfl rfl) rfl)) ?_
                          refine rg_put (d := 61) (v := .d (.fl (.int .i64 d.win.to))) rfl (oy rfl rfl rfl h56 (op_load_pt rfl Try.underlying3 rfl rfl rfl rfl rfl)) ?_
                          refine rg_put (d := 62) (v := .d (.fl (.bool (d.win.to != 0)))) rfl (oy rfl rfl rfl h56 (op_bin rfl rfl rfl (b_neq _ _ _ _) rfl)) ?_
                          refine rg_put (d := 63) (v := .d (.fl (.bool (d.win.to != 0)))) rfl (oy rfl rfl rfl h47 (op_pick rfl rfl (by rw [h56]; rfl) rfl)) ?_
                          refine rg_put (d := 64) (v := .d (.fl (.bool (d.win.to != 0)))) rfl (oy rfl rfl rfl h45 (op_pick rfl rfl (by rw [h47]; rfl) rfl)) ?_
                          refine rg_put (d := 65) (v := .d (.fl (.bool (d.win.to != 0)))) rfl (og rfl (op_pick rfl rfl (by rw [h45]; rfl) rfl)) ?_
                          refine rg_done rfl ?_
                          refine a_cond rfl (fun h58 => ?_) (fun h58 => ?_)
                          · skip
                            have h59 := t_bne h58
                            refine a_rseq ?_
                            refine rg_put (d := 2) (v := .d (.fl (.int .i64 12))) rfl (og rfl (op_assign rfl rfl rfl)) ?_
                            refine rg_done rfl ?_
                            refine a_ret ?_
                            show ∃ ds, ResL _ _ _ ds ∧ RV.of ds = _
                            refine ⟨[.fl (.int .i64 12)], (.cons (.tmp rfl (.d _)) .nil), ?_⟩
                            first
                              | (have hu : ck d = 12 := by
                                  unfold ck; simp only [h1, h3, h4, h6, h8, h10, h11, h12, h13, h15, h16, h18, h21, h45, h46, h47, h56, h58, wok_ref, Bool.true_or, Bool.false_or, Bool.or_true, Bool.or_false, Bool.not_true, Bool.not_false, cond_true, cond_false, Bool.true_and, Bool.false_and, Bool.and_true, Bool.and_false] <;> rfl
                                 rw [hu]; rfl)
                              | (exfalso; omega)
                          · skip
                            have h60 := f_bne h58
                            refine a_skip ?_
                            show A _ _ _ _ _ _ _
                            refine a_seq ?_
                            refine a_rseq ?_
                            refine rg_put (d := 66) (v := .pt 101 9) rfl (og rfl (of_eff (s_field_pt rfl Try.underlying25 rfl ti3 rfl rfl rfl) rfl)) ?_
                            refine rg_put (d := 67) (v := .d (.fl (.int .i64 d.least))) rfl (og rfl (op_load_pt rfl Try.underlying3 rfl rfl rfl rfl rfl)) ?_
                            refine rg_put (d := 68) (v := .d (.fl (.bool ((decide (d.least < 0)))))) rfl (og rfl (op_bin rfl rfl rfl (b_lss _ _ _ _) rfl)) ?_
                            refine rg_put (d := 69) (v := .d (.fl (.bool ((decide (d.least < 0)))))) rfl (og rfl (op_move rfl rfl rfl)) ?_
                            rcases fot ((decide (d.least < 0))) with h61 | h61
                            · skip
                              have h62 := f_dec h61
                              refine rg_put (d := 70) (v := .pt 101 9) rfl (oy rfl rfl rfl h61 (of_eff (s_field_pt rfl Try.underlying25 rfl ti3 rfl rfl rfl) rfl)) ?_
                              refine rg_put (d := 71) (v := .d (.fl (.int .i64 d.least))) rfl (oy rfl rfl rfl h61 (op_load_pt rfl Try.underlying3 rfl rfl rfl rfl rfl)) ?_
                              refine rg_put (d := 72) (v := .d (.fl (.bool ((decide (2147483648 < d.least)))))) rfl (oy rfl rfl rfl h61 (op_bin rfl rfl rfl (b_gtr _ _ _ _) rfl)) ?_
                              refine rg_put (d := 73) (v := .d (.fl (.bool ((decide (2147483648 < d.least)))))) rfl (og rfl (op_pick rfl rfl (by rw [h61]; rfl) rfl)) ?_
                              refine rg_done rfl ?_
                              refine a_cond rfl (fun h63 => ?_) (fun h63 => ?_)
                              · skip
                                have h64 := t_dec h63
                                refine a_rseq ?_
                                refine rg_put (d := 2) (v := .d (.fl (.int .i64 2))) rfl (og rfl (op_assign rfl rfl rfl)) ?_
                                refine rg_done rfl ?_
                                refine a_ret ?_
                                show ∃ ds, ResL _ _ _ ds ∧ RV.of ds = _
                                refine ⟨[.fl (.int .i64 2)], (.cons (.tmp rfl (.d _)) .nil), ?_⟩
                                first
                                  | (have hu : ck d = 2 := by
                                      unfold ck; simp only [h1, h3, h4, h6, h8, h10, h11, h12, h13, h15, h16, h18, h21, h45, h46, h47, h56, h58, h61, h63, wok_ref, Bool.true_or, Bool.false_or, Bool.or_true, Bool.or_false, Bool.not_true, Bool.not_false, cond_true, cond_false, Bool.true_and, Bool.false_and, Bool.and_true, Bool.and_false] <;> rfl
                                     rw [hu]; rfl)
                                  | (exfalso; omega)
                              · skip
                                have h65 := f_dec h63
                                refine a_skip ?_
                                show A _ _ _ _ _ _ _
                                refine a_rseq ?_
                                refine rg_put (d := 2) (v := .d (.fl (.int .i64 0))) rfl (og rfl (op_assign rfl rfl rfl)) ?_
                                refine rg_done rfl ?_
                                refine a_ret ?_
                                show ∃ ds, ResL _ _ _ ds ∧ RV.of ds = _
                                refine ⟨[.fl (.int .i64 0)], (.cons (.tmp rfl (.d _)) .nil), ?_⟩
                                first
                                  | (have hu : ck d = 0 := by
                                      unfold ck; simp only [h1, h3, h4, h6, h8, h10, h11, h12, h13, h15, h16, h18, h21, h45, h46, h47, h56, h58, h61, h63, wok_ref, Bool.true_or, Bool.false_or, Bool.or_true, Bool.or_false, Bool.not_true, Bool.not_false, cond_true, cond_false, Bool.true_and, Bool.false_and, Bool.and_true, Bool.and_false] <;> rfl
                                     rw [hu]; rfl)
                                  | (exfalso; omega)
                            · skip
                              have h66 := t_dec h61
                              refine rg_put (d := 70) (v := .d (.fl undef)) rfl (on rfl rfl rfl h61) ?_
                              refine rg_put (d := 71) (v := .d (.fl undef)) rfl (on rfl rfl rfl h61) ?_
                              refine rg_put (d := 72) (v := .d (.fl undef)) rfl (on rfl rfl rfl h61) ?_
                              refine rg_put (d := 73) (v := .d (.fl (.bool true))) rfl (og rfl (op_pick rfl rfl (by rw [h61]; rfl) rfl)) ?_
                              refine rg_done rfl ?_
                              refine a_condK rfl rfl ?_
                              refine a_rseq ?_
                              refine rg_put (d := 2) (v := .d (.fl (.int .i64 2))) rfl (og rfl (op_assign rfl rfl rfl)) ?_
                              refine rg_done rfl ?_
                              refine a_ret ?_
                              show ∃ ds, ResL _ _ _ ds ∧ RV.of ds = _
                              refine ⟨[.fl (.int .i64 2)], (.cons (.tmp rfl (.d _)) .nil), ?_⟩
                              first
                                | (have hu : ck d = 2 := by
                                    unfold ck; simp only [h1, h3, h4, h6, h8, h10, h11, h12, h13, h15, h16, h18, h21, h45, h46, h47, h56, h58, h61, wok_ref, Bool.true_or, Bool.false_or, Bool.or_true, Bool.or_false, Bool.not_true, Bool.not_false, cond_true, cond_false, Bool.true_and, Bool.false_and, Bool.and_true, Bool.and_false] <;> rfl
                                   rw [hu]; rfl)
                                | (exfalso; omega)
                        · skip
                          have h67 := t_bne h56
                          refine rg_put (d := 59) (v := .d (.fl undef)) rfl (on rfl rfl rfl h56) ?_
                          refine rg_put (d := 60) (v := .d (.fl undef)) rfl (on rfl rfl rfl h56) ?_
                          refine rg_put (d := 61) (v := .d (.fl undef)) rfl (on rfl rfl rfl h56) ?_
                          refine rg_put (d := 62) (v := .d (.fl undef)) rfl (on rfl rfl rfl h56) ?_
                          refine rg_put (d := 63) (v := .d (.fl (.bool true))) rfl (oy rfl rfl rfl h47 (op_pick rfl rfl (by rw [h56]; rfl) rfl)) ?_
                          refine rg_put (d := 64) (v := .d (.fl (.bool true))) rfl (oy rfl rfl rfl h45 (op_pick rfl rfl (by rw [h47]; rfl) rfl)) ?_
                          refine rg_put (d := 65) (v := .d (.fl (.bool true))) rfl (og rfl (op_pick rfl rfl (by rw [h45]; rfl) rfl)) ?_
                          refine rg_done rfl ?_
                          refine a_condK rfl rfl ?_
                          refine a_rseq ?_
                          refine rg_put (d := 2) (v := .d (.fl (.int .i64 12))) rfl (og rfl (op_assign rfl rfl rfl)) ?_
                          refine rg_done rfl ?_
                          refine a_ret ?_
                          show ∃ ds, ResL _ _ _ ds ∧ RV.of ds = _
                          refine ⟨[.fl (.int .i64 12)], (.cons (.tmp rfl (.d _)) .nil), ?_⟩
                          first
                            | (have hu : ck d = 12 := by
                                unfold ck; simp only [h1, h3, h4, h6, h8, h10, h11, h12, h13, h15, h16, h18, h21, h45, h46, h47, h56, wok_ref, Bool.true_or, Bool.false_or, Bool.or_true, Bool.or_false, Bool.not_true, Bool.not_false, cond_true, cond_false, Bool.true_and, Bool.false_and, Bool.and_true, Bool.and_false] <;> rfl
                               rw [hu]; rfl)
                            | (exfalso; omega)
                    · skip
                      have h68 := t_not h45
                      refine rg_put (d := 49) (v := .d (.fl undef)) rfl (on rfl rfl rfl h45) ?_
                      refine rg_put (d := 50) (v := .d (.fl undef)) rfl (on rfl rfl rfl h45) ?_
                      refine rg_put (d := 51) (v := .d (.fl undef)) rfl (on rfl rfl rfl h45) ?_
                      refine rg_put (d := 52) (v := .d (.fl undef)) rfl (on rfl rfl rfl h45) ?_
                      refine rg_put (d := 53) (v := .d (.fl undef)) rfl (on rfl rfl rfl h45) ?_
                      refine rg_put (d := 54) (v := .d (.fl undef)) rfl (ou rfl rfl rfl) ?_
                      refine rg_put (d := 55) (v := .d (.fl undef)) rfl (ou rfl rfl rfl) ?_
                      refine rg_put (d := 56) (v := .d (.fl undef)) rfl (ou rfl rfl rfl) ?_
                      refine rg_put (d := 57) (v := .d (.fl undef)) rfl (ou rfl rfl rfl) ?_
                      refine rg_put (d := 58) (v := .d (.fl undef)) rfl (ou rfl rfl rfl) ?_
                      refine rg_put (d := 59) (v := .d (.fl undef)) rfl (ou rfl rfl rfl) ?_
                      refine rg_put (d := 60) (v := .d (.fl undef)) rfl (ou rfl rfl rfl) ?_
                      refine rg_put (d := 61) (v := .d (.fl undef)) rfl (ou rfl rfl rfl) ?_
                      refine rg_put (d := 62) (v := .d (.fl undef)) rfl (ou rfl rfl rfl) ?_
                      refine rg_put (d := 63) (v := .d (.fl undef)) rfl (ou rfl rfl rfl) ?_
                      refine rg_put (d := 64) (v := .d (.fl undef)) rfl (on rfl rfl rfl h45) ?_
                      refine rg_put (d := 65) (v := .d (.fl (.bool true))) rfl (og rfl (op_pick rfl rfl (by rw [h45]; rfl) rfl)) ?_
                      refine rg_done rfl ?_
                      refine a_condK rfl rfl ?_
                      refine a_rseq ?_
                      refine rg_put (d := 2) (v := .d (.fl (.int .i64 12))) rfl (og rfl (op_assign rfl rfl rfl)) ?_
                      refine rg_done rfl ?_
                      refine a_ret ?_
                      show ∃ ds, ResL _ _ _ ds ∧ RV.of ds = _
                      refine ⟨[.fl (.int .i64 12)], (.cons (.tmp rfl (.d _)) .nil), ?_⟩
                      first
                        | (have hu : ck d = 12 := by
                            unfold ck; simp only [h1, h3, h4, h6, h8, h10, h11, h12, h13, h15, h16, h18, h21, h45, h68, wok_ref, Bool.true_or, Bool.false_or, Bool.or_true, Bool.or_false, Bool.not_true, Bool.not_false, cond_true, cond_false, Bool.true_and, Bool.false_and, Bool.and_true, Bool.and_false] <;> rfl
                           rw [hu]; rfl)
                        | (exfalso; omega)
              · skip
                have h69 := t_dec h16
                refine rg_put (d := 34) (v := .d (.fl undef)) rfl (on rfl rfl rfl h16) ?_
                refine rg_put (d := 35) (v := .d (.fl undef)) rfl (on rfl rfl rfl h16) ?_
                refine rg_put (d := 36) (v := .d (.fl undef)) rfl (on rfl rfl rfl h16) ?_
                refine rg_put (d := 37) (v := .d (.fl (.bool true))) rfl (og rfl (op_pick rfl rfl (by rw [h16]; rfl) rfl)) ?_
                refine rg_done rfl ?_
                refine a_condK rfl rfl ?_
                refine a_rseq ?_
                refine rg_put (d := 2) (v := .d (.fl (.int .i64 20))) rfl (og rfl (op_assign rfl rfl rfl)) ?_
                refine rg_done rfl ?_
                refine a_ret ?_
                show ∃ ds, ResL _ _ _ ds ∧ RV.of ds = _
                refine ⟨[.fl (.int .i64 20)], (.cons (.tmp rfl (.d _)) .nil), ?_⟩
                first
                  | (have hu : ck d = 20 := by
                      unfold ck; simp only [h1, h3, h4, h6, h8, h10, h11, h12, h13, h15, h16, wok_ref, Bool.true_or, Bool.false_or, Bool.or_true, Bool.or_false, Bool.not_true, Bool.not_false, cond_true, cond_false, Bool.true_and, Bool.false_and, Bool.and_true, Bool.and_false] <;> rfl
                     rw [hu]; rfl)
                  | (exfalso; omega)
          · skip
            have h70 := t_not h11
            refine rg_put (d := 25) (v := .d (.fl undef)) rfl (on rfl rfl rfl h11) ?_
            refine rg_put (d := 26) (v := .d (.fl undef)) rfl (on rfl rfl rfl h11) ?_
            refine rg_put (d := 27) (v := .d (.fl undef)) rfl (on rfl rfl rfl h11) ?_
            refine rg_put (d := 28) (v := .d (.fl undef)) rfl (on rfl rfl rfl h11) ?_
            refine rg_put (d := 29) (v := .d (.fl (.bool true))) rfl (og rfl (op_pick rfl rfl (by rw [h11]; rfl) rfl)) ?_
            refine rg_done rfl ?_
            refine a_condK rfl rfl ?_
            refine a_rseq ?_
            refine rg_put (d := 2) (v := .d (.fl (.int .i64 6))) rfl (og rfl (op_assign rfl rfl rfl)) ?_
            refine rg_done rfl ?_
            refine a_ret ?_
            show ∃ ds, ResL _ _ _ ds ∧ RV.of ds = _
            refine ⟨[.fl (.int .i64 6)], (.cons (.tmp rfl (.d _)) .nil), ?_⟩
            first
              | (have hu : ck d = 6 := by
                  unfold ck; simp only [h1, h3, h4, h6, h8, h10, h11, h70, wok_ref, Bool.true_or, Bool.false_or, Bool.or_true, Bool.or_false, Bool.not_true, Bool.not_false, cond_true, cond_false, Bool.true_and, Bool.false_and, Bool.and_true, Bool.and_false] <;> rfl
                 rw [hu]; rfl)
              | (exfalso; omega)
      · skip
        have h71 := t_dec h6
        refine rg_put (d := 16) (v := .d (.fl undef)) rfl (on rfl rfl rfl h6) ?_
        refine rg_put (d := 17) (v := .d (.fl undef)) rfl (on rfl rfl rfl h6) ?_
        refine rg_put (d := 18) (v := .d (.fl undef)) rfl (on rfl rfl rfl h6) ?_
        refine rg_put (d := 19) (v := .d (.fl (.bool true))) rfl (og rfl (op_pick rfl rfl (by rw [h6]; rfl) rfl)) ?_
        refine rg_done rfl ?_
        refine a_condK rfl rfl ?_
        refine a_rseq ?_
        refine rg_put (d := 2) (v := .d (.fl (.int .i64 1))) rfl (og rfl (op_assign rfl rfl rfl)) ?_
        refine rg_done rfl ?_
        refine a_ret ?_
        show ∃ ds, ResL _ _ _ ds ∧ RV.of ds = _
        refine ⟨[.fl (.int .i64 1)], (.cons (.tmp rfl (.d _)) .nil), ?_⟩
        first
          | (have hu : ck d = 1 := by
              unfold ck; simp only [h1, h3, h4, h6, wok_ref, Bool.true_or, Bool.false_or, Bool.or_true, Bool.or_false, Bool.not_true, Bool.not_false, cond_true, cond_false, Bool.true_and, Bool.false_and, Bool.and_true, Bool.and_false] <;> rfl
             rw [hu]; rfl)
          | (exfalso; omega)
    · skip
      have h72 := t_dec h4
      refine rg_put (d := 11) (v := .d (.fl undef)) rfl (on rfl rfl rfl h4) ?_
      refine rg_put (d := 12) (v := .d (.fl undef)) rfl (on rfl rfl rfl h4) ?_
      refine rg_put (d := 13) (v := .d (.fl undef)) rfl (on rfl rfl rfl h4) ?_
      refine rg_put (d := 14) (v := .d (.fl (.bool true))) rfl (og rfl (op_pick rfl rfl (by rw [h4]; rfl) rfl)) ?_
      refine rg_put (d := 15) (v := .d (.fl (.bool true))) rfl (og rfl (op_move rfl rfl rfl)) ?_
      refine rg_put (d := 16) (v := .d (.fl undef)) rfl (on rfl rfl rfl rfl) ?_
      refine rg_put (d := 17) (v := .d (.fl undef)) rfl (on rfl rfl rfl rfl) ?_
      refine rg_put (d := 18) (v := .d (.fl undef)) rfl (on rfl rfl rfl rfl) ?_
      refine rg_put (d := 19) (v := .d (.fl (.bool true))) rfl (og rfl (op_pick rfl rfl rfl rfl)) ?_
      refine rg_done rfl ?_
      refine a_condK rfl rfl ?_
      refine a_rseq ?_
      refine rg_put (d := 2) (v := .d (.fl (.int .i64 1))) rfl (og rfl (op_assign rfl rfl rfl)) ?_
      refine rg_done rfl ?_
      refine a_ret ?_
      show ∃ ds, ResL _ _ _ ds ∧ RV.of ds = _
      refine ⟨[.fl (.int .i64 1)], (.cons (.tmp rfl (.d _)) .nil), ?_⟩
      first
        | (have hu : ck d = 1 := by
            unfold ck; simp only [h1, h3, h4, wok_ref, Bool.true_or, Bool.false_or, Bool.or_true, Bool.or_false, Bool.not_true, Bool.not_false, cond_true, cond_false, Bool.true_and, Bool.false_and, Bool.and_true, Bool.and_false] <;> rfl
           rw [hu]; rfl)
        | (exfalso; omega)
set_option maxHeartbeats 4000000 in
set_option maxRecDepth 100000 in
theorem shV (d : Di) : Ctr Try.prog 6 [.ag (eDi d)] (.d (.fl (.bool (sh d)))) := by
  refine ctr (n := 19) (rs := #[.tmp 2]) (L := [(0, .d (.ag (eDi d)))]) Try.func6 rfl rfl rfl rfl rfl (fun w0 U0 => ?_)
  refine a_rseq ?_
  refine rg_nam (d := 1) (v := .pt 101 0) (m := 101) (nw := [(101, .bx 25 (eDi d))]) rfl (og rfl (of_eff (op_box 101 rfl rfl rfl rfl) rfl)) rfl ?_
  refine rg_put (d := 2) (v := .d (.fl (.bool false))) rfl (og rfl (op_assign rfl rfl rfl)) ?_
  refine rg_done rfl ?_
  refine a_rseq ?_
  refine rg_put (d := 3) (v := .pt 101 0) rfl (og rfl (of_eff (s_field_pt rfl Try.underlying25 rfl ti9 rfl rfl rfl) rfl)) ?_
  refine rg_put (d := 4) (v := .d (.fl (.string d.name))) rfl (og rfl (op_load_pt rfl Try.underlying9 rfl rfl rfl rfl rfl)) ?_
  refine rg_put (d := 5) (v := .d (.fl (.int .i64 (d.name.size : Int)))) rfl (og rfl (op_len_str rfl Try.underlying9 rfl rfl)) ?_
  refine rg_put (d := 6) (v := .d (.fl (.bool ((decide ((d.name.size : Int) ≤ 40)))))) rfl (og rfl (op_bin rfl rfl rfl (b_leq _ _ _ _) rfl)) ?_
  refine rg_put (d := 7) (v := .d (.fl (.bool ((decide ((d.name.size : Int) ≤ 40)))))) rfl (og rfl (op_move rfl rfl rfl)) ?_
  rcases fot ((decide ((d.name.size : Int) ≤ 40))) with h1 | h1
  · skip
    have h2 := f_dec h1
    refine rg_put (d := 8) (v := .d (.fl undef)) rfl (on rfl rfl rfl h1) ?_
    refine rg_put (d := 9) (v := .d (.fl undef)) rfl (on rfl rfl rfl h1) ?_
    refine rg_put (d := 10) (v := .d (.fl undef)) rfl (on rfl rfl rfl h1) ?_
    refine rg_put (d := 11) (v := .d (.fl undef)) rfl (on rfl rfl rfl h1) ?_
    refine rg_put (d := 12) (v := .d (.fl (.bool false))) rfl (og rfl (op_pick rfl rfl (by rw [h1]; rfl) rfl)) ?_
    refine rg_put (d := 13) (v := .d (.fl (.bool false))) rfl (og rfl (op_move rfl rfl rfl)) ?_
    refine rg_put (d := 14) (v := .d (.fl undef)) rfl (on rfl rfl rfl rfl) ?_
    refine rg_put (d := 15) (v := .d (.fl undef)) rfl (on rfl rfl rfl rfl) ?_
    refine rg_put (d := 16) (v := .d (.fl undef)) rfl (on rfl rfl rfl rfl) ?_
    refine rg_put (d := 17) (v := .d (.fl undef)) rfl (on rfl rfl rfl rfl) ?_
    refine rg_put (d := 18) (v := .d (.fl (.bool false))) rfl (og rfl (op_pick rfl rfl rfl rfl)) ?_
    refine rg_put (d := 2) (v := .d (.fl (.bool false))) rfl (og rfl (op_assign rfl rfl rfl)) ?_
    refine rg_done rfl ?_
    refine a_ret ?_
    show ∃ ds, ResL _ _ _ ds ∧ RV.of ds = _
    refine ⟨[.fl (.bool false)], (.cons (.tmp rfl (.d _)) .nil), ?_⟩
    first
      | (have hu : sh d = false := by
          unfold sh; simp only [h1, Bool.true_or, Bool.false_or, Bool.or_true, Bool.or_false, Bool.not_true, Bool.not_false, cond_true, cond_false, Bool.true_and, Bool.false_and, Bool.and_true, Bool.and_false] <;> rfl
         rw [hu]; rfl)
      | (exfalso; omega)
  · skip
    have h3 := t_dec h1
    refine rg_put (d := 8) (v := .pt 101 3) rfl (oy rfl rfl rfl h1 (of_eff (s_field_pt rfl Try.underlying25 rfl ti9 rfl rfl rfl) rfl)) ?_
    refine rg_put (d := 9) (v := .d (.fl (.string d.group))) rfl (oy rfl rfl rfl h1 (op_load_pt rfl Try.underlying9 rfl rfl rfl rfl rfl)) ?_
    refine rg_put (d := 10) (v := .d (.fl (.int .i64 (d.group.size : Int)))) rfl (oy rfl rfl rfl h1 (op_len_str rfl Try.underlying9 rfl rfl)) ?_
    refine rg_put (d := 11) (v := .d (.fl (.bool ((decide ((d.group.size : Int) ≤ 40)))))) rfl (oy rfl rfl rfl h1 (op_bin rfl rfl rfl (b_leq _ _ _ _) rfl)) ?_
    refine rg_put (d := 12) (v := .d (.fl (.bool ((decide ((d.group.size : Int) ≤ 40)))))) rfl (og rfl (op_pick rfl rfl (by rw [h1]; rfl) rfl)) ?_
    refine rg_put (d := 13) (v := .d (.fl (.bool ((decide ((d.group.size : Int) ≤ 40)))))) rfl (og rfl (op_move rfl rfl rfl)) ?_
    rcases fot ((decide ((d.group.size : Int) ≤ 40))) with h4 | h4
    · skip
      have h5 := f_dec h4
      refine rg_put (d := 14) (v := .d (.fl undef)) rfl (on rfl rfl rfl h4) ?_
      refine rg_put (d := 15) (v := .d (.fl undef)) rfl (on rfl rfl rfl h4) ?_
      refine rg_put (d := 16) (v := .d (.fl undef)) rfl (on rfl rfl rfl h4) ?_
      refine rg_put (d := 17) (v := .d (.fl undef)) rfl (on rfl rfl rfl h4) ?_
      refine rg_put (d := 18) (v := .d (.fl (.bool false))) rfl (og rfl (op_pick rfl rfl (by rw [h4]; rfl) rfl)) ?_
      refine rg_put (d := 2) (v := .d (.fl (.bool false))) rfl (og rfl (op_assign rfl rfl rfl)) ?_
      refine rg_done rfl ?_
      refine a_ret ?_
      show ∃ ds, ResL _ _ _ ds ∧ RV.of ds = _
      refine ⟨[.fl (.bool false)], (.cons (.tmp rfl (.d _)) .nil), ?_⟩
      first
        | (have hu : sh d = false := by
            unfold sh; simp only [h1, h4, Bool.true_or, Bool.false_or, Bool.or_true, Bool.or_false, Bool.not_true, Bool.not_false, cond_true, cond_false, Bool.true_and, Bool.false_and, Bool.and_true, Bool.and_false] <;> rfl
           rw [hu]; rfl)
        | (exfalso; omega)
    · skip
      have h6 := t_dec h4
      refine rg_put (d := 14) (v := .pt 101 4) rfl (oy rfl rfl rfl h4 (of_eff (s_field_pt rfl Try.underlying25 rfl ti9 rfl rfl rfl) rfl)) ?_
      refine rg_put (d := 15) (v := .d (.fl (.string d.sys))) rfl (oy rfl rfl rfl h4 (op_load_pt rfl Try.underlying9 rfl rfl rfl rfl rfl)) ?_
      refine rg_put (d := 16) (v := .d (.fl (.int .i64 (d.sys.size : Int)))) rfl (oy rfl rfl rfl h4 (op_len_str rfl Try.underlying9 rfl rfl)) ?_
      refine rg_put (d := 17) (v := .d (.fl (.bool ((decide ((d.sys.size : Int) ≤ 40)))))) rfl (oy rfl rfl rfl h4 (op_bin rfl rfl rfl (b_leq _ _ _ _) rfl)) ?_
      refine rg_put (d := 18) (v := .d (.fl (.bool ((decide ((d.sys.size : Int) ≤ 40)))))) rfl (og rfl (op_pick rfl rfl (by rw [h4]; rfl) rfl)) ?_
      refine rg_put (d := 2) (v := .d (.fl (.bool ((decide ((d.sys.size : Int) ≤ 40)))))) rfl (og rfl (op_assign rfl rfl rfl)) ?_
      refine rg_done rfl ?_
      refine a_ret ?_
      show ∃ ds, ResL _ _ _ ds ∧ RV.of ds = _
      refine ⟨[.fl (.bool ((decide ((d.sys.size : Int) ≤ 40))))], (.cons (.tmp rfl (.d _)) .nil), ?_⟩
      first
        | (have hu : sh d = (decide ((d.sys.size : Int) ≤ 40)) := by
            unfold sh; simp only [h1, h4, Bool.true_or, Bool.false_or, Bool.or_true, Bool.or_false, Bool.not_true, Bool.not_false, cond_true, cond_false, Bool.true_and, Bool.false_and, Bool.and_true, Bool.and_false] <;> rfl
           rw [hu]; rfl)
        | (exfalso; omega)
set_option maxHeartbeats 4000000 in
set_option maxRecDepth 100000 in
theorem amtV (d : Di) (c : Int) : Ctr Try.prog 10 [.ag (eDi d), .fl (.int .i64 c)] (.d (.fl (.int .i64 (amt d c)))) := by
  refine ctr (n := 34) (rs := #[.tmp 4]) (L := [(0, .d (.ag (eDi d))), (1, .d (.fl (.int .i64 c)))]) Try.func10 rfl rfl rfl rfl rfl (fun w0 U0 => ?_)
  refine a_rseq ?_
  refine rg_nam (d := 2) (v := .pt 101 0) (m := 101) (nw := [(101, .bx 25 (eDi d))]) rfl (og rfl (of_eff (op_box 101 rfl rfl rfl rfl) rfl)) rfl ?_
  refine rg_put (d := 4) (v := .d (.fl (.int .i64 0))) rfl (og rfl (op_assign rfl rfl rfl)) ?_
  refine rg_done rfl ?_
  refine a_seq ?_
  refine a_rseq ?_
  refine rg_put (d := 7) (v := .d (.ag (eDi d))) rfl (og rfl (of_eff (s_load_pts rfl Try.underlying25 rfl ti25 rfl rfl rfl rfl) rfl)) ?_
  refine rg_put (d := 8) (v := .d (.fl (.int .i64 (ck d)))) rfl (og rfl (op_call rfl Try.func8 nm8 rfl (.cons rfl (.d _) .nil) (ckV d) rfl)) ?_
  refine rg_put (d := 9) (v := .d (.fl (.bool (((ck d) != 0))))) rfl (og rfl (op_bin rfl rfl rfl (b_neq _ _ _ _) rfl)) ?_
  refine rg_put (d := 10) (v := .d (.fl (.bool (((ck d) != 0))))) rfl (og rfl (op_move rfl rfl rfl)) ?_
  rcases fot (((ck d) != 0)) with h1 | h1
  · skip
    have h2 := f_bne h1
    refine rg_put (d := 11) (v := .d (.fl (.int .i64 c))) rfl (oy rfl rfl rfl h1 (op_move rfl rfl rfl)) ?_
    refine rg_put (d := 12) (v := .d (.fl (.bool (ip c)))) rfl (oy rfl rfl rfl h1 (op_call rfl Try.func28 nm28 rfl (.cons rfl (.d _) .nil) (ipV c) rfl)) ?_
    refine rg_put (d := 13) (v := .d (.fl (.bool ((!(ip c)))))) rfl (oy rfl rfl rfl h1 (op_un rfl rfl (u_not _) rfl)) ?_
    refine rg_put (d := 14) (v := .d (.fl (.bool ((!(ip c)))))) rfl (og rfl (op_pick rfl rfl (by rw [h1]; rfl) rfl)) ?_
    refine rg_done rfl ?_
    refine a_cond rfl (fun h3 => ?_) (fun h3 => ?_)
    · skip
      have h4 := t_not h3
      refine a_rseq ?_
      refine rg_put (d := 4) (v := .d (.fl (.int .i64 0))) rfl (og rfl (op_assign rfl rfl rfl)) ?_
      refine rg_done rfl ?_
      refine a_ret ?_
      show ∃ ds, ResL _ _ _ ds ∧ RV.of ds = _
      refine ⟨[.fl (.int .i64 0)], (.cons (.tmp rfl (.d _)) .nil), ?_⟩
      first
        | (have hu : amt d c = 0 := by
            unfold amt; simp only [h1, h3, h4, Bool.true_or, Bool.false_or, Bool.or_true, Bool.or_false, Bool.not_true, Bool.not_false, cond_true, cond_false, Bool.true_and, Bool.false_and, Bool.and_true, Bool.and_false] <;> first | rfl | omega | (rw [IntKind.wrap_i64]; omega)
           rw [hu]; rfl)
        | (exfalso; omega)
    · skip
      have h5 := f_not h3
      refine a_skip ?_
      show A _ _ _ _ _ _ _
      refine a_seq ?_
      refine a_rseq ?_
      have hck := ck_am (f_bne h1)
      have hip := ip_t h5
      refine rg_put (d := 15) (v := .pt 101 1) rfl (og rfl (of_eff (s_field_pt rfl Try.underlying25 rfl ti3 rfl rfl rfl) rfl)) ?_
      refine rg_put (d := 16) (v := .d (.fl (.int .i64 d.kind))) rfl (og rfl (op_load_pt rfl Try.underlying3 rfl rfl rfl rfl rfl)) ?_
      refine rg_done rfl ?_
      refine a_block ?_
      refine a_rseq ?_
      refine rg_put (d := 18) (v := .d (.fl (.bool (d.kind == 1)))) rfl (og rfl (op_bin rfl rfl rfl (b_eql _ _ _ _) rfl)) ?_
      refine rg_put (d := 17) (v := .d (.fl (.bool (d.kind == 1)))) rfl (og rfl (op_assign rfl rfl rfl)) ?_
      refine rg_done rfl ?_
      refine a_cond rfl (fun h6 => ?_) (fun h6 => ?_)
      · skip
        have h7 := t_beq h6
        refine a_rseq ?_
        refine rg_put (d := 20) (v := .d (.fl (.int .i64 c))) rfl (og rfl (op_move rfl rfl rfl)) ?_
        refine rg_put (d := 21) (v := .pt 101 2) rfl (og rfl (of_eff (s_field_pt rfl Try.underlying25 rfl ti3 rfl rfl rfl) rfl)) ?_
        refine rg_put (d := 22) (v := .d (.fl (.int .i64 d.amount))) rfl (og rfl (op_load_pt rfl Try.underlying3 rfl rfl rfl rfl rfl)) ?_
        refine rg_put (d := 23) (v := .tu [.fl (.int .i64 (c * d.amount / 1000)), .fl (.int .i64 0)]) rfl (og rfl (op_call rfl Try.func29 nm29 rfl (.cons rfl (.d _) (.cons rfl (.d _) (.cons rfl (.d _) (.cons rfl (.d _) .nil)))) (rat29 c d.amount (by omega) (by omega)) rfl)) ?_
        refine rg_put (d := 19) (v := .tu [.fl (.int .i64 (c * d.amount / 1000)), .fl (.int .i64 0)]) rfl (og rfl (op_move rfl rfl rfl)) ?_
        refine rg_put (d := 24) (v := .d (.fl (.int .i64 (c * d.amount / 1000)))) rfl (og rfl (op_extract rfl rfl rfl rfl)) ?_
        refine rg_put (d := 25) (v := .d (.fl (.int .i64 0))) rfl (og rfl (op_extract rfl rfl rfl rfl)) ?_
        refine rg_put (d := 5) (v := .d (.fl (.int .i64 (c * d.amount / 1000)))) rfl (og rfl (op_assign rfl rfl rfl)) ?_
        refine rg_put (d := 6) (v := .d (.fl (.int .i64 0))) rfl (og rfl (op_assign rfl rfl rfl)) ?_
        refine rg_done rfl ?_
        refine a_rseq ?_
        refine rg_put (d := 26) (v := .d (.fl (.int .i64 (c * d.amount / 1000)))) rfl (og rfl (op_move rfl rfl rfl)) ?_
        refine rg_put (d := 4) (v := .d (.fl (.int .i64 (c * d.amount / 1000)))) rfl (og rfl (op_assign rfl rfl rfl)) ?_
        refine rg_done rfl ?_
        refine a_ret ?_
        show ∃ ds, ResL _ _ _ ds ∧ RV.of ds = _
        refine ⟨[.fl (.int .i64 (c * d.amount / 1000))], (.cons (.tmp rfl (.d _)) .nil), ?_⟩
        first
          | (have hu : amt d c = (c * d.amount / 1000) := by
              unfold amt; simp only [h1, h3, h5, h6, Bool.true_or, Bool.false_or, Bool.or_true, Bool.or_false, Bool.not_true, Bool.not_false, cond_true, cond_false, Bool.true_and, Bool.false_and, Bool.and_true, Bool.and_false] <;> first | rfl | omega | (rw [IntKind.wrap_i64]; omega)
             rw [hu]; rfl)
          | (exfalso; omega)
      · skip
        have h8 := f_beq h6
        refine a_rseq ?_
        refine rg_put (d := 28) (v := .d (.fl (.bool (d.kind == 2)))) rfl (og rfl (op_bin rfl rfl rfl (b_eql _ _ _ _) rfl)) ?_
        refine rg_put (d := 27) (v := .d (.fl (.bool (d.kind == 2)))) rfl (og rfl (op_assign rfl rfl rfl)) ?_
        refine rg_done rfl ?_
        refine a_cond rfl (fun h9 => ?_) (fun h9 => ?_)
        · skip
          have h10 := t_beq h9
          refine a_rseq ?_
          refine rg_put (d := 29) (v := .pt 101 2) rfl (og rfl (of_eff (s_field_pt rfl Try.underlying25 rfl ti3 rfl rfl rfl) rfl)) ?_
          refine rg_put (d := 30) (v := .d (.fl (.int .i64 d.amount))) rfl (og rfl (op_load_pt rfl Try.underlying3 rfl rfl rfl rfl rfl)) ?_
          refine rg_put (d := 31) (v := .d (.fl (.int .i64 c))) rfl (og rfl (op_move rfl rfl rfl)) ?_
          refine rg_put (d := 32) (v := .d (.fl (.int .i64 (min d.amount c)))) rfl (og rfl (op_min rfl rfl rfl rfl)) ?_
          refine rg_put (d := 4) (v := .d (.fl (.int .i64 (min d.amount c)))) rfl (og rfl (op_assign rfl rfl rfl)) ?_
          refine rg_done rfl ?_
          refine a_ret ?_
          show ∃ ds, ResL _ _ _ ds ∧ RV.of ds = _
          refine ⟨[.fl (.int .i64 (min d.amount c))], (.cons (.tmp rfl (.d _)) .nil), ?_⟩
          first
            | (have hu : amt d c = (min d.amount c) := by
                unfold amt; simp only [h1, h3, h5, h6, h9, Bool.true_or, Bool.false_or, Bool.or_true, Bool.or_false, Bool.not_true, Bool.not_false, cond_true, cond_false, Bool.true_and, Bool.false_and, Bool.and_true, Bool.and_false] <;> first | rfl | omega | (rw [IntKind.wrap_i64]; omega)
               rw [hu]; rfl)
            | (exfalso; omega)
        · skip
          have h11 := f_beq h9
          refine a_skip ?_
          show A _ _ _ _ _ _ _
          refine a_rseq ?_
          refine rg_put (d := 33) (v := .d (.fl (.int .i64 c))) rfl (og rfl (op_move rfl rfl rfl)) ?_
          refine rg_put (d := 4) (v := .d (.fl (.int .i64 c))) rfl (og rfl (op_assign rfl rfl rfl)) ?_
          refine rg_done rfl ?_
          refine a_ret ?_
          show ∃ ds, ResL _ _ _ ds ∧ RV.of ds = _
          refine ⟨[.fl (.int .i64 c)], (.cons (.tmp rfl (.d _)) .nil), ?_⟩
          first
            | (have hu : amt d c = c := by
                unfold amt; simp only [h1, h3, h5, h6, h9, Bool.true_or, Bool.false_or, Bool.or_true, Bool.or_false, Bool.not_true, Bool.not_false, cond_true, cond_false, Bool.true_and, Bool.false_and, Bool.and_true, Bool.and_false] <;> first | rfl | omega | (rw [IntKind.wrap_i64]; omega)
               rw [hu]; rfl)
            | (exfalso; omega)
  · skip
    have h12 := t_bne h1
    refine rg_put (d := 11) (v := .d (.fl undef)) rfl (on rfl rfl rfl h1) ?_
    refine rg_put (d := 12) (v := .d (.fl undef)) rfl (on rfl rfl rfl h1) ?_
    refine rg_put (d := 13) (v := .d (.fl undef)) rfl (on rfl rfl rfl h1) ?_
    refine rg_put (d := 14) (v := .d (.fl (.bool true))) rfl (og rfl (op_pick rfl rfl (by rw [h1]; rfl) rfl)) ?_
    refine rg_done rfl ?_
    refine a_condK rfl rfl ?_
    refine a_rseq ?_
    refine rg_put (d := 4) (v := .d (.fl (.int .i64 0))) rfl (og rfl (op_assign rfl rfl rfl)) ?_
    refine rg_done rfl ?_
    refine a_ret ?_
    show ∃ ds, ResL _ _ _ ds ∧ RV.of ds = _
    refine ⟨[.fl (.int .i64 0)], (.cons (.tmp rfl (.d _)) .nil), ?_⟩
    first
      | (have hu : amt d c = 0 := by
          unfold amt; simp only [h1, Bool.true_or, Bool.false_or, Bool.or_true, Bool.or_false, Bool.not_true, Bool.not_false, cond_true, cond_false, Bool.true_and, Bool.false_and, Bool.and_true, Bool.and_false] <;> first | rfl | omega | (rw [IntKind.wrap_i64]; omega)
         rw [hu]; rfl)
      | (exfalso; omega)
set_option maxHeartbeats 4000000 in
set_option maxRecDepth 100000 in
theorem amtR (d : Di) (c : Int) : Ctr Try.prog 11 [.ag (eDi d), .fl (.int .i64 c)] (.d (.fl (.int .i64 (amt d c)))) := by
  refine ctr (n := 36) (rs := #[.tmp 4]) (L := [(0, .d (.ag (eDi d))), (1, .d (.fl (.int .i64 c)))]) Try.func11 rfl rfl rfl rfl rfl (fun w0 U0 => ?_)
  refine a_rseq ?_
  refine rg_nam (d := 2) (v := .pt 101 0) (m := 101) (nw := [(101, .bx 25 (eDi d))]) rfl (og rfl (of_eff (op_box 101 rfl rfl rfl rfl) rfl)) rfl ?_
  refine rg_put (d := 4) (v := .d (.fl (.int .i64 0))) rfl (og rfl (op_assign rfl rfl rfl)) ?_
  refine rg_done rfl ?_
  refine a_seq ?_
  refine a_rseq ?_
  refine rg_put (d := 5) (v := .d (.ag (eDi d))) rfl (og rfl (of_eff (s_load_pts rfl Try.underlying25 rfl ti25 rfl rfl rfl rfl) rfl)) ?_
  refine rg_put (d := 6) (v := .d (.fl (.int .i64 (ck d)))) rfl (og rfl (op_call rfl Try.func9 nm9 rfl (.cons rfl (.d _) .nil) (ckR d) rfl)) ?_
  refine rg_put (d := 7) (v := .d (.fl (.bool (((ck d) != 0))))) rfl (og rfl (op_bin rfl rfl rfl (b_neq _ _ _ _) rfl)) ?_
  refine rg_put (d := 8) (v := .d (.fl (.bool (((ck d) != 0))))) rfl (og rfl (op_move rfl rfl rfl)) ?_
  rcases fot (((ck d) != 0)) with h1 | h1
  · skip
    have h2 := f_bne h1
    refine rg_put (d := 9) (v := .d (.fl (.int .i64 c))) rfl (oy rfl rfl rfl h1 (op_move rfl rfl rfl)) ?_
    refine rg_put (d := 10) (v := .d (.fl (.bool ((decide (c < 0)))))) rfl (oy rfl rfl rfl h1 (op_bin rfl rfl rfl (b_lss _ _ _ _) rfl)) ?_
    refine rg_put (d := 11) (v := .d (.fl (.bool ((decide (c < 0)))))) rfl (og rfl (op_pick rfl rfl (by rw [h1]; rfl) rfl)) ?_
    refine rg_put (d := 12) (v := .d (.fl (.bool ((decide (c < 0)))))) rfl (og rfl (op_move rfl rfl rfl)) ?_
    rcases fot ((decide (c < 0))) with h3 | h3
    · skip
      have h4 := f_dec h3
      refine rg_put (d := 13) (v := .d (.fl (.int .i64 c))) rfl (oy rfl rfl rfl h3 (op_move rfl rfl rfl)) ?_
      refine rg_put (d := 14) (v := .d (.fl (.bool ((decide (1125899906842624 < c)))))) rfl (oy rfl rfl rfl h3 (op_bin rfl rfl rfl (b_gtr _ _ _ _) rfl)) ?_
      refine rg_put (d := 15) (v := .d (.fl (.bool ((decide (1125899906842624 < c)))))) rfl (og rfl (op_pick rfl rfl (by rw [h3]; rfl) rfl)) ?_
      refine rg_done rfl ?_
      refine a_cond rfl (fun h5 => ?_) (fun h5 => ?_)
      · skip
        have h6 := t_dec h5
        refine a_rseq ?_
        refine rg_put (d := 4) (v := .d (.fl (.int .i64 0))) rfl (og rfl (op_assign rfl rfl rfl)) ?_
        refine rg_done rfl ?_
        refine a_ret ?_
        show ∃ ds, ResL _ _ _ ds ∧ RV.of ds = _
        refine ⟨[.fl (.int .i64 0)], (.cons (.tmp rfl (.d _)) .nil), ?_⟩
        have hip : ip c = false := by rw [Bool.eq_false_iff]; intro h; have := ip_t h; omega
        have hu : amt d c = 0 := by
          unfold amt; simp only [h1, h3, h5, hip, Bool.true_or, Bool.false_or, Bool.or_true, Bool.or_false, Bool.not_true, Bool.not_false, cond_true, cond_false, Bool.true_and, Bool.false_and, Bool.and_true, Bool.and_false] <;> first | rfl | omega | (rw [IntKind.wrap_i64]; omega)
        rw [hu]; rfl
      · skip
        have h7 := f_dec h5
        refine a_skip ?_
        show A _ _ _ _ _ _ _
        refine a_seq ?_
        refine a_rseq ?_
        have hck := ck_am (f_bne h1)
        refine rg_put (d := 16) (v := .pt 101 1) rfl (og rfl (of_eff (s_field_pt rfl Try.underlying25 rfl ti3 rfl rfl rfl) rfl)) ?_
        refine rg_put (d := 17) (v := .d (.fl (.int .i64 d.kind))) rfl (og rfl (op_load_pt rfl Try.underlying3 rfl rfl rfl rfl rfl)) ?_
        refine rg_put (d := 18) (v := .d (.fl (.bool (d.kind == 1)))) rfl (og rfl (op_bin rfl rfl rfl (b_eql _ _ _ _) rfl)) ?_
        refine rg_done rfl ?_
        refine a_cond rfl (fun h8 => ?_) (fun h8 => ?_)
        · skip
          have h9 := t_beq h8
          refine a_rseq ?_
          have hmul := mul_b c d.amount (by omega) (by omega)
          refine rg_put (d := 19) (v := .d (.fl (.int .i64 c))) rfl (og rfl (op_move rfl rfl rfl)) ?_
          refine rg_put (d := 20) (v := .pt 101 2) rfl (og rfl (of_eff (s_field_pt rfl Try.underlying25 rfl ti3 rfl rfl rfl) rfl)) ?_
          refine rg_put (d := 21) (v := .d (.fl (.int .i64 d.amount))) rfl (og rfl (op_load_pt rfl Try.underlying3 rfl rfl rfl rfl rfl)) ?_
          refine rg_put (d := 22) (v := .d (.fl (.int .i64 (c * d.amount)))) rfl (og rfl (op_bin rfl rfl rfl (fun x y w => b_mul64 _ _ _ x y w (by omega)) rfl)) ?_
          refine rg_put (d := 23) (v := .d (.fl (.int .i64 ((IntKind.i64.wrap ((c * d.amount) / 1000)))))) rfl (og rfl (op_bin rfl rfl rfl (fun x y w => b_quoK _ _ _ _ x y w (by omega) (by omega)) rfl)) ?_
          refine rg_put (d := 4) (v := .d (.fl (.int .i64 ((IntKind.i64.wrap ((c * d.amount) / 1000)))))) rfl (og rfl (op_assign rfl rfl rfl)) ?_
          refine rg_done rfl ?_
          refine a_ret ?_
          show ∃ ds, ResL _ _ _ ds ∧ RV.of ds = _
          refine ⟨[.fl (.int .i64 ((IntKind.i64.wrap ((c * d.amount) / 1000))))], (.cons (.tmp rfl (.d _)) .nil), ?_⟩
          have hip : ip c = true := by simp [ip]; omega
          have hu : amt d c = (IntKind.i64.wrap ((c * d.amount) / 1000)) := by
            unfold amt; simp only [h1, h3, h5, h8, hip, Bool.true_or, Bool.false_or, Bool.or_true, Bool.or_false, Bool.not_true, Bool.not_false, cond_true, cond_false, Bool.true_and, Bool.false_and, Bool.and_true, Bool.and_false] <;> first | rfl | omega | (rw [IntKind.wrap_i64]; omega)
          rw [hu]; rfl
        · skip
          have h10 := f_beq h8
          refine a_skip ?_
          show A _ _ _ _ _ _ _
          refine a_seq ?_
          refine a_rseq ?_
          refine rg_put (d := 24) (v := .pt 101 1) rfl (og rfl (of_eff (s_field_pt rfl Try.underlying25 rfl ti3 rfl rfl rfl) rfl)) ?_
          refine rg_put (d := 25) (v := .d (.fl (.int .i64 d.kind))) rfl (og rfl (op_load_pt rfl Try.underlying3 rfl rfl rfl rfl rfl)) ?_
          refine rg_put (d := 26) (v := .d (.fl (.bool (d.kind == 2)))) rfl (og rfl (op_bin rfl rfl rfl (b_eql _ _ _ _) rfl)) ?_
          refine rg_put (d := 27) (v := .d (.fl (.bool (d.kind == 2)))) rfl (og rfl (op_move rfl rfl rfl)) ?_
          rcases fot (d.kind == 2) with h11 | h11
          · skip
            have h12 := f_beq h11
            refine rg_put (d := 28) (v := .d (.fl undef)) rfl (on rfl rfl rfl h11) ?_
            refine rg_put (d := 29) (v := .d (.fl undef)) rfl (on rfl rfl rfl h11) ?_
            refine rg_put (d := 30) (v := .d (.fl undef)) rfl (on rfl rfl rfl h11) ?_
            refine rg_put (d := 31) (v := .d (.fl undef)) rfl (on rfl rfl rfl h11) ?_
            refine rg_put (d := 32) (v := .d (.fl (.bool false))) rfl (og rfl (op_pick rfl rfl (by rw [h11]; rfl) rfl)) ?_
            refine rg_done rfl ?_
            refine a_condF rfl rfl ?_
            refine a_skip ?_
            show A _ _ _ _ _ _ _
            refine a_rseq ?_
            refine rg_put (d := 35) (v := .d (.fl (.int .i64 c))) rfl (og rfl (op_move rfl rfl rfl)) ?_
            refine rg_put (d := 4) (v := .d (.fl (.int .i64 c))) rfl (og rfl (op_assign rfl rfl rfl)) ?_
            refine rg_done rfl ?_
            refine a_ret ?_
            show ∃ ds, ResL _ _ _ ds ∧ RV.of ds = _
            refine ⟨[.fl (.int .i64 c)], (.cons (.tmp rfl (.d _)) .nil), ?_⟩
            have hip : ip c = true := by simp [ip]; omega
            have hu : amt d c = c := by
              unfold amt; simp only [h1, h3, h5, h8, h11, hip, Bool.true_or, Bool.false_or, Bool.or_true, Bool.or_false, Bool.not_true, Bool.not_false, cond_true, cond_false, Bool.true_and, Bool.false_and, Bool.and_true, Bool.and_false] <;> first | rfl | omega | (rw [IntKind.wrap_i64]; omega)
            rw [hu]; rfl
          · skip
            have h13 := t_beq h11
            refine rg_put (d := 28) (v := .pt 101 2) rfl (oy rfl rfl rfl h11 (of_eff (s_field_pt rfl Try.underlying25 rfl ti3 rfl rfl rfl) rfl)) ?_
            refine rg_put (d := 29) (v := .d (.fl (.int .i64 d.amount))) rfl (oy rfl rfl rfl h11 (op_load_pt rfl Try.underlying3 rfl rfl rfl rfl rfl)) ?_
            refine rg_put (d := 30) (v := .d (.fl (.int .i64 c))) rfl (oy rfl rfl rfl h11 (op_move rfl rfl rfl)) ?_
            refine rg_put (d := 31) (v := .d (.fl (.bool ((decide (d.amount < c)))))) rfl (oy rfl rfl rfl h11 (op_bin rfl rfl rfl (b_lss _ _ _ _) rfl)) ?_
            refine rg_put (d := 32) (v := .d (.fl (.bool ((decide (d.amount < c)))))) rfl (og rfl (op_pick rfl rfl (by rw [h11]; rfl) rfl)) ?_
            refine rg_done rfl ?_
            refine a_cond rfl (fun h14 => ?_) (fun h14 => ?_)
            · skip
              have h15 := t_dec h14
              refine a_rseq ?_
              refine rg_put (d := 33) (v := .pt 101 2) rfl (og rfl (of_eff (s_field_pt rfl Try.underlying25 rfl ti3 rfl rfl rfl) rfl)) ?_
              refine rg_put (d := 34) (v := .d (.fl (.int .i64 d.amount))) rfl (og rfl (op_load_pt rfl Try.underlying3 rfl rfl rfl rfl rfl)) ?_
              refine rg_put (d := 4) (v := .d (.fl (.int .i64 d.amount))) rfl (og rfl (op_assign rfl rfl rfl)) ?_
              refine rg_done rfl ?_
              refine a_ret ?_
              show ∃ ds, ResL _ _ _ ds ∧ RV.of ds = _
              refine ⟨[.fl (.int .i64 d.amount)], (.cons (.tmp rfl (.d _)) .nil), ?_⟩
              have hip : ip c = true := by simp [ip]; omega
              have hu : amt d c = d.amount := by
                unfold amt; simp only [h1, h3, h5, h8, h11, h14, hip, Bool.true_or, Bool.false_or, Bool.or_true, Bool.or_false, Bool.not_true, Bool.not_false, cond_true, cond_false, Bool.true_and, Bool.false_and, Bool.and_true, Bool.and_false] <;> first | rfl | omega | (rw [IntKind.wrap_i64]; omega)
              rw [hu]; rfl
            · skip
              have h16 := f_dec h14
              refine a_skip ?_
              show A _ _ _ _ _ _ _
              refine a_rseq ?_
              refine rg_put (d := 35) (v := .d (.fl (.int .i64 c))) rfl (og rfl (op_move rfl rfl rfl)) ?_
              refine rg_put (d := 4) (v := .d (.fl (.int .i64 c))) rfl (og rfl (op_assign rfl rfl rfl)) ?_
              refine rg_done rfl ?_
              refine a_ret ?_
              show ∃ ds, ResL _ _ _ ds ∧ RV.of ds = _
              refine ⟨[.fl (.int .i64 c)], (.cons (.tmp rfl (.d _)) .nil), ?_⟩
              have hip : ip c = true := by simp [ip]; omega
              have hu : amt d c = c := by
                unfold amt; simp only [h1, h3, h5, h8, h11, h14, hip, Bool.true_or, Bool.false_or, Bool.or_true, Bool.or_false, Bool.not_true, Bool.not_false, cond_true, cond_false, Bool.true_and, Bool.false_and, Bool.and_true, Bool.and_false] <;> first | rfl | omega | (rw [IntKind.wrap_i64]; omega)
              rw [hu]; rfl
    · skip
      have h17 := t_dec h3
      refine rg_put (d := 13) (v := .d (.fl undef)) rfl (on rfl rfl rfl h3) ?_
      refine rg_put (d := 14) (v := .d (.fl undef)) rfl (on rfl rfl rfl h3) ?_
      refine rg_put (d := 15) (v := .d (.fl (.bool true))) rfl (og rfl (op_pick rfl rfl (by rw [h3]; rfl) rfl)) ?_
      refine rg_done rfl ?_
      refine a_condK rfl rfl ?_
      refine a_rseq ?_
      refine rg_put (d := 4) (v := .d (.fl (.int .i64 0))) rfl (og rfl (op_assign rfl rfl rfl)) ?_
      refine rg_done rfl ?_
      refine a_ret ?_
      show ∃ ds, ResL _ _ _ ds ∧ RV.of ds = _
      refine ⟨[.fl (.int .i64 0)], (.cons (.tmp rfl (.d _)) .nil), ?_⟩
      have hip : ip c = false := by rw [Bool.eq_false_iff]; intro h; have := ip_t h; omega
      have hu : amt d c = 0 := by
        unfold amt; simp only [h1, h3, hip, Bool.true_or, Bool.false_or, Bool.or_true, Bool.or_false, Bool.not_true, Bool.not_false, cond_true, cond_false, Bool.true_and, Bool.false_and, Bool.and_true, Bool.and_false] <;> first | rfl | omega | (rw [IntKind.wrap_i64]; omega)
      rw [hu]; rfl
  · skip
    have h18 := t_bne h1
    refine rg_put (d := 9) (v := .d (.fl undef)) rfl (on rfl rfl rfl h1) ?_
    refine rg_put (d := 10) (v := .d (.fl undef)) rfl (on rfl rfl rfl h1) ?_
    refine rg_put (d := 11) (v := .d (.fl (.bool true))) rfl (og rfl (op_pick rfl rfl (by rw [h1]; rfl) rfl)) ?_
    refine rg_put (d := 12) (v := .d (.fl (.bool true))) rfl (og rfl (op_move rfl rfl rfl)) ?_
    refine rg_put (d := 13) (v := .d (.fl undef)) rfl (on rfl rfl rfl rfl) ?_
    refine rg_put (d := 14) (v := .d (.fl undef)) rfl (on rfl rfl rfl rfl) ?_
    refine rg_put (d := 15) (v := .d (.fl (.bool true))) rfl (og rfl (op_pick rfl rfl rfl rfl)) ?_
    refine rg_done rfl ?_
    refine a_condK rfl rfl ?_
    refine a_rseq ?_
    refine rg_put (d := 4) (v := .d (.fl (.int .i64 0))) rfl (og rfl (op_assign rfl rfl rfl)) ?_
    refine rg_done rfl ?_
    refine a_ret ?_
    show ∃ ds, ResL _ _ _ ds ∧ RV.of ds = _
    refine ⟨[.fl (.int .i64 0)], (.cons (.tmp rfl (.d _)) .nil), ?_⟩
    have hu : amt d c = 0 := by
      unfold amt; simp only [h1, Bool.true_or, Bool.false_or, Bool.or_true, Bool.or_false, Bool.not_true, Bool.not_false, cond_true, cond_false, Bool.true_and, Bool.false_and, Bool.and_true, Bool.and_false] <;> first | rfl | omega | (rw [IntKind.wrap_i64]; omega)
    rw [hu]; rfl
end Go.Proofs.Ytejophbmdgohdaa.Wk
