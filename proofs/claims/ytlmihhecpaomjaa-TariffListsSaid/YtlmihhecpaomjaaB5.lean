/- Tariffs by the reference, lists of tariffs. No condition. -/
import Derived.Test.YtlmihhecpaomjaaB4
set_option linter.unusedSimpArgs false
set_option linter.unusedVariables false
namespace Go.Proofs.Ytlmihhecpaomjaa.Wk
open Go Go.RowKit Go.Proofs.Ytlmihhecpaomjaa.Av
def ov (a b : Iv) : Bool := decide (max a.fr b.fr < min a.to b.to)
theorem ov_eq {a b : Iv} (ha : a.fr < a.to) (hb : b.fr < b.to) : ov a b = (decide (a.fr < b.to) && decide (b.fr < a.to)) := by
  unfold ov
  by_cases h1 : a.fr < b.to <;> by_cases h2 : b.fr < a.to
  · rw [decide_eq_true h1, decide_eq_true h2, decide_eq_true (by omega)]; rfl
  · rw [decide_eq_false h2, decide_eq_false (by omega)]; simp
  · rw [decide_eq_false h1, decide_eq_false (by omega)]; simp
  · rw [decide_eq_false h1, decide_eq_false (by omega)]; simp
theorem vI_lt {i : Iv} (h : vI i = true) : i.fr < i.to := by unfold vI at h; simp only [Bool.and_eq_true, decide_eq_true_eq] at h; omega
def ovl (l : List Ta) (k : Nat) : Bool := (l.take k).any fun y => ov (ix l k).val y.val
theorem ovl_no {l : List Ta} {k : Nat} (hk : k < l.length) (hq : ∀ q, q < k → ov (ix l k).val (ix l q).val = false) : ovl l k = false := by
  unfold ovl
  refine any_no (fun j hj => ?_)
  rw [List.length_take] at hj
  rw [take_ix' (by omega)]
  exact hq j (by omega)
theorem ovl_yes {l : List Ta} {k j : Nat} (hk : k < l.length) (hj : j < k) (h : ov (ix l k).val (ix l j).val = true) : ovl l k = true := by
  unfold ovl
  refine any_at (k := j) (by rw [List.length_take]; omega) ?_
  rw [take_ix' hj]; exact h
noncomputable def al1 (p : List Pnt) (l : List Ta) (k : Nat) : Int := bif tk p (ix l k) != 0 then tk p (ix l k) else bif ovl l k then 12 else 0
noncomputable def alE (p : List Pnt) (l : List Ta) : Int := fe (al1 p l) 0 l.length
noncomputable def al (p : List Pnt) (l : List Ta) : Int := bif decide (1024 < (l.length : Int)) then 3 else alE p l
theorem al_l {p : List Pnt} {l : List Ta} (h : decide (1024 < (l.length : Int)) = true) : al p l = 3 := by unfold al; rw [h]; rfl
theorem al_e {p : List Pnt} {l : List Ta} (h : decide (1024 < (l.length : Int)) = false) : al p l = alE p l := by unfold al; rw [h]; rfl
theorem al_tk {p : List Pnt} {l : List Ta} {k : Nat} (h : (tk p (ix l k) != 0) = true) : al1 p l k = tk p (ix l k) := by unfold al1; rw [h]; rfl
theorem al_ov {p : List Pnt} {l : List Ta} {k : Nat} (h : (tk p (ix l k) != 0) = false) (h2 : ovl l k = true) : al1 p l k = 12 := by unfold al1; rw [h, h2]; rfl
theorem al_0 {p : List Pnt} {l : List Ta} {k : Nat} (h : (tk p (ix l k) != 0) = false) (h2 : ovl l k = false) : al1 p l k = 0 := by unfold al1; rw [h, h2]; rfl
theorem al_v {p : List Pnt} {l : List Ta} {k : Nat} (h : al1 p l k = 0) : vI (ix l k).val = true := by
  cases h1 : (tk p (ix l k) != 0) with
  | false => exact tk_0 (by simpa using h1)
  | true => rw [al_tk h1] at h; rw [h] at h1; cases h1
def shortB (x : Ta) : Bool := decide ((x.bands.length : Int) ≤ 40) && decide ((x.rates.length : Int) ≤ 60)
def fewB (l : List Ta) : Bool := !(decide ((12 : Int) < (l.length : Int))) && l.all shortB
theorem few_lim {l : List Ta} (h : decide ((12 : Int) < (l.length : Int)) = true) : fewB l = false := by unfold fewB; rw [h]; rfl
theorem few_no {l : List Ta} {k : Nat} (hk : k < l.length) (h : shortB (ix l k) = false) : fewB l = false := by unfold fewB; rw [all_no hk h, Bool.and_false]
theorem few_yes {l : List Ta} (h1 : decide ((12 : Int) < (l.length : Int)) = false) (h : ∀ q, q < l.length → shortB (ix l q) = true) : fewB l = true := by unfold fewB; rw [h1, all_yes h]; rfl
def smlT (t : Tpg) : Bool := (decide ((t.net.pts.length : Int) ≤ 12) && decide ((t.net.lks.length : Int) ≤ 30)) && decide ((t.syss.length : Int) ≤ 100)

set_option maxHeartbeats 4000000 in
set_option maxRecDepth 100000 in
theorem chg_r (t : Tpg) (x : Rt) : Ctr Try.prog 36 [.ag (eTpg t), .ag (eRt x)] (.d (.fl (.bool (chg (kn t) x)))) := by
  refine ctr (n := 50) (rs := #[.tmp 4]) (L := [(0, .d (.ag (eTpg t))), (1, .d (.ag (eRt x)))]) Try.func36 rfl rfl rfl rfl rfl (fun w0 U0 => ?_)
  refine a_rseq ?_
  refine rg_nam (d := 2) (v := .pt 101 0) (m := 101) (nw := [(101, .bx 34 (eTpg t))]) rfl (og rfl (of_eff (op_box 101 rfl rfl rfl rfl) rfl)) rfl ?_
  refine rg_nam (d := 3) (v := .pt 102 0) (m := 102) (nw := [(102, .bx 68 (eRt x))]) rfl (og rfl (of_eff (op_box 102 rfl rfl rfl rfl) rfl)) rfl ?_
  refine rg_put (d := 4) (v := .d (.fl (.bool false))) rfl (og rfl (op_assign rfl rfl rfl)) ?_
  refine rg_done rfl ?_
  refine a_seq ?_
  refine a_rseq ?_
  refine rg_put (d := 9) (v := .pt 102 1) rfl (og rfl (of_eff (s_field_pt rfl Try.underlying68 rfl ti9 rfl rfl rfl) rfl)) ?_
  refine rg_put (d := 10) (v := .d (.fl (.string x.to))) rfl (og rfl (op_load_pt rfl Try.underlying9 rfl rfl rfl rfl rfl)) ?_
  refine rg_put (d := 11) (v := .d (.fl (.bool ((sEq x.to (⟨#[]⟩)))))) rfl (og rfl (op_bin rfl rfl rfl (b_seq _ _ _) rfl)) ?_
  refine rg_done rfl ?_
  refine a_cond rfl (fun h1 => ?_) (fun h1 => ?_)
  · skip
    refine a_rseq ?_
    refine rg_put (d := 12) (v := .d (.ag (eTpg t))) rfl (og rfl (of_eff (s_load_pts rfl Try.underlying34 rfl ti34 rfl rfl rfl rfl) rfl)) ?_
    refine rg_put (d := 13) (v := .pt 102 0) rfl (og rfl (of_eff (s_field_pt rfl Try.underlying68 rfl ti9 rfl rfl rfl) rfl)) ?_
    refine rg_put (d := 14) (v := .d (.fl (.string x.fr))) rfl (og rfl (op_load_pt rfl Try.underlying9 rfl rfl rfl rfl rfl)) ?_
    refine rg_put (d := 15) (v := .d (.fl (.int .i64 ((kd (kn t) x.fr))))) rfl (og rfl (op_call rfl Try.func47 nm47 rfl (.cons rfl (.d _) (.cons rfl (.d _) .nil)) (kind_r t x.fr) rfl)) ?_
    refine rg_put (d := 16) (v := .d (.fl (.bool (((kd (kn t) x.fr) == 1))))) rfl (og rfl (op_bin rfl rfl rfl (b_eql _ _ _ _) rfl)) ?_
    refine rg_put (d := 4) (v := .d (.fl (.bool (((kd (kn t) x.fr) == 1))))) rfl (og rfl (op_assign rfl rfl rfl)) ?_
    refine rg_done rfl ?_
    refine a_ret ?_
    show ∃ ds, ResL _ _ _ ds ∧ RV.of ds = _
    refine ⟨[.fl (.bool (((kd (kn t) x.fr) == 1)))], (.cons (.tmp rfl (.d _)) .nil), ?_⟩
    have hu : chg (kn t) x = ((kd (kn t) x.fr) == 1) := by
      unfold chg; simp only [h1, Bool.true_or, Bool.false_or, Bool.or_true, Bool.or_false, Bool.not_true, Bool.not_false, cond_true, cond_false, Bool.true_and, Bool.false_and, Bool.and_true, Bool.and_false]
    rw [hu]; rfl
  · skip
    refine a_skip ?_
    show A _ _ _ _ _ _ _
    refine a_rseq ?_
    refine rg_put (d := 18) (v := .d (.ag (eTpg t))) rfl (og rfl (of_eff (s_load_pts rfl Try.underlying34 rfl ti34 rfl rfl rfl rfl) rfl)) ?_
    refine rg_put (d := 19) (v := .pt 102 0) rfl (og rfl (of_eff (s_field_pt rfl Try.underlying68 rfl ti9 rfl rfl rfl) rfl)) ?_
    refine rg_put (d := 20) (v := .d (.fl (.string x.fr))) rfl (og rfl (op_load_pt rfl Try.underlying9 rfl rfl rfl rfl rfl)) ?_
    refine rg_put (d := 21) (v := .tu [.ag (eSys ((sR t x.fr).1)), .fl (.bool ((sR t x.fr).2))]) rfl (og rfl (op_call rfl Try.func48 nm48 rfl (.cons rfl (.d _) (.cons rfl (.d _) .nil)) (sysR t x.fr) rfl)) ?_
    refine rg_put (d := 17) (v := .tu [.ag (eSys ((sR t x.fr).1)), .fl (.bool ((sR t x.fr).2))]) rfl (og rfl (op_move rfl rfl rfl)) ?_
    refine rg_put (d := 22) (v := .d (.ag (eSys ((sR t x.fr).1)))) rfl (og rfl (op_extract rfl rfl rfl rfl)) ?_
    refine rg_put (d := 23) (v := .d (.fl (.bool ((sR t x.fr).2)))) rfl (og rfl (op_extract rfl rfl rfl rfl)) ?_
    refine rg_nam (d := 5) (v := .pt 103 0) (m := 103) (nw := [(103, .bx 94 ([.fl (.string (⟨#[]⟩)), .fl (.bool false), .fl (.int .i64 0)]))]) rfl (og rfl (of_eff (s_alloc 103 rfl ti94 (by kernel_rfl) rfl) rfl)) rfl ?_
    refine rg_sto (nw := [(103, .bx 94 ((eSys ((sR t x.fr).1))))]) rfl (og rfl (of_eff (s_store rfl rfl ti94 rfl rfl rfl rfl rfl rfl) rfl)) ?_
    refine rg_put (d := 6) (v := .d (.fl (.bool ((sR t x.fr).2)))) rfl (og rfl (op_assign rfl rfl rfl)) ?_
    refine rg_done rfl ?_
    refine a_rseq ?_
    refine rg_put (d := 25) (v := .d (.ag (eTpg t))) rfl (og rfl (of_eff (s_load_pts rfl Try.underlying34 rfl ti34 rfl rfl rfl rfl) rfl)) ?_
    refine rg_put (d := 26) (v := .pt 102 1) rfl (og rfl (of_eff (s_field_pt rfl Try.underlying68 rfl ti9 rfl rfl rfl) rfl)) ?_
    refine rg_put (d := 27) (v := .d (.fl (.string x.to))) rfl (og rfl (op_load_pt rfl Try.underlying9 rfl rfl rfl rfl rfl)) ?_
    refine rg_put (d := 28) (v := .tu [.ag (eSys ((sR t x.to).1)), .fl (.bool ((sR t x.to).2))]) rfl (og rfl (op_call rfl Try.func48 nm48 rfl (.cons rfl (.d _) (.cons rfl (.d _) .nil)) (sysR t x.to) rfl)) ?_
    refine rg_put (d := 24) (v := .tu [.ag (eSys ((sR t x.to).1)), .fl (.bool ((sR t x.to).2))]) rfl (og rfl (op_move rfl rfl rfl)) ?_
    refine rg_put (d := 29) (v := .d (.ag (eSys ((sR t x.to).1)))) rfl (og rfl (op_extract rfl rfl rfl rfl)) ?_
    refine rg_put (d := 30) (v := .d (.fl (.bool ((sR t x.to).2)))) rfl (og rfl (op_extract rfl rfl rfl rfl)) ?_
    refine rg_nam (d := 7) (v := .pt 104 0) (m := 104) (nw := [(104, .bx 94 ([.fl (.string (⟨#[]⟩)), .fl (.bool false), .fl (.int .i64 0)]))]) rfl (og rfl (of_eff (s_alloc 104 rfl ti94 (by kernel_rfl) rfl) rfl)) rfl ?_
    refine rg_sto (nw := [(104, .bx 94 ((eSys ((sR t x.to).1))))]) rfl (og rfl (of_eff (s_store rfl rfl ti94 rfl rfl rfl rfl rfl rfl) rfl)) ?_
    refine rg_put (d := 8) (v := .d (.fl (.bool ((sR t x.to).2)))) rfl (og rfl (op_assign rfl rfl rfl)) ?_
    refine rg_done rfl ?_
    refine a_rseq ?_
    refine rg_put (d := 31) (v := .d (.ag (eTpg t))) rfl (og rfl (of_eff (s_load_pts rfl Try.underlying34 rfl ti34 rfl rfl rfl rfl) rfl)) ?_
    refine rg_put (d := 32) (v := .pt 102 0) rfl (og rfl (of_eff (s_field_pt rfl Try.underlying68 rfl ti9 rfl rfl rfl) rfl)) ?_
    refine rg_put (d := 33) (v := .d (.fl (.string x.fr))) rfl (og rfl (op_load_pt rfl Try.underlying9 rfl rfl rfl rfl rfl)) ?_
    refine rg_put (d := 34) (v := .d (.fl (.int .i64 ((kd (kn t) x.fr))))) rfl (og rfl (op_call rfl Try.func47 nm47 rfl (.cons rfl (.d _) (.cons rfl (.d _) .nil)) (kind_r t x.fr) rfl)) ?_
    refine rg_put (d := 35) (v := .d (.fl (.bool (((kd (kn t) x.fr) == 2))))) rfl (og rfl (op_bin rfl rfl rfl (b_eql _ _ _ _) rfl)) ?_
    refine rg_put (d := 36) (v := .d (.fl (.bool (((kd (kn t) x.fr) == 2))))) rfl (og rfl (op_move rfl rfl rfl)) ?_
    rcases fot (((kd (kn t) x.fr) == 2)) with h2 | h2
    · skip
      have h3 := f_beq h2
      refine rg_put (d := 37) (v := .d (.fl undef)) rfl (on rfl rfl rfl h2) ?_
      refine rg_put (d := 38) (v := .d (.fl undef)) rfl (on rfl rfl rfl h2) ?_
      refine rg_put (d := 39) (v := .d (.fl undef)) rfl (on rfl rfl rfl h2) ?_
      refine rg_put (d := 40) (v := .d (.fl undef)) rfl (on rfl rfl rfl h2) ?_
      refine rg_put (d := 41) (v := .d (.fl undef)) rfl (on rfl rfl rfl h2) ?_
      refine rg_put (d := 42) (v := .d (.fl (.bool false))) rfl (og rfl (op_pick rfl rfl (by rw [h2]; rfl) rfl)) ?_
      refine rg_put (d := 43) (v := .d (.fl (.bool false))) rfl (og rfl (op_move rfl rfl rfl)) ?_
      refine rg_put (d := 44) (v := .d (.fl undef)) rfl (on rfl rfl rfl rfl) ?_
      refine rg_put (d := 45) (v := .d (.fl undef)) rfl (on rfl rfl rfl rfl) ?_
      refine rg_put (d := 46) (v := .d (.fl undef)) rfl (on rfl rfl rfl rfl) ?_
      refine rg_put (d := 47) (v := .d (.fl undef)) rfl (on rfl rfl rfl rfl) ?_
      refine rg_put (d := 48) (v := .d (.fl undef)) rfl (on rfl rfl rfl rfl) ?_
      refine rg_put (d := 49) (v := .d (.fl (.bool false))) rfl (og rfl (op_pick rfl rfl rfl rfl)) ?_
      refine rg_put (d := 4) (v := .d (.fl (.bool false))) rfl (og rfl (op_assign rfl rfl rfl)) ?_
      refine rg_done rfl ?_
      refine a_ret ?_
      show ∃ ds, ResL _ _ _ ds ∧ RV.of ds = _
      refine ⟨[.fl (.bool false)], (.cons (.tmp rfl (.d _)) .nil), ?_⟩
      have hu : chg (kn t) x = false := by
        unfold chg; simp only [h1, h2, Bool.true_or, Bool.false_or, Bool.or_true, Bool.or_false, Bool.not_true, Bool.not_false, cond_true, cond_false, Bool.true_and, Bool.false_and, Bool.and_true, Bool.and_false]
      rw [hu]; rfl
    · skip
      have h4 := t_beq h2
      refine rg_put (d := 37) (v := .d (.ag (eTpg t))) rfl (oy rfl rfl rfl h2 (of_eff (s_load_pts rfl Try.underlying34 rfl ti34 rfl rfl rfl rfl) rfl)) ?_
      refine rg_put (d := 38) (v := .pt 102 1) rfl (oy rfl rfl rfl h2 (of_eff (s_field_pt rfl Try.underlying68 rfl ti9 rfl rfl rfl) rfl)) ?_
      refine rg_put (d := 39) (v := .d (.fl (.string x.to))) rfl (oy rfl rfl rfl h2 (op_load_pt rfl Try.underlying9 rfl rfl rfl rfl rfl)) ?_
      refine rg_put (d := 40) (v := .d (.fl (.int .i64 ((kd (kn t) x.to))))) rfl (oy rfl rfl rfl h2 (op_call rfl Try.func47 nm47 rfl (.cons rfl (.d _) (.cons rfl (.d _) .nil)) (kind_r t x.to) rfl)) ?_
      refine rg_put (d := 41) (v := .d (.fl (.bool (((kd (kn t) x.to) == 3))))) rfl (oy rfl rfl rfl h2 (op_bin rfl rfl rfl (b_eql _ _ _ _) rfl)) ?_
      refine rg_put (d := 42) (v := .d (.fl (.bool (((kd (kn t) x.to) == 3))))) rfl (og rfl (op_pick rfl rfl (by rw [h2]; rfl) rfl)) ?_
      refine rg_put (d := 43) (v := .d (.fl (.bool (((kd (kn t) x.to) == 3))))) rfl (og rfl (op_move rfl rfl rfl)) ?_
      rcases fot (((kd (kn t) x.to) == 3)) with h5 | h5
      · skip
        have h6 := f_beq h5
        refine rg_put (d := 44) (v := .d (.fl undef)) rfl (on rfl rfl rfl h5) ?_
        refine rg_put (d := 45) (v := .d (.fl undef)) rfl (on rfl rfl rfl h5) ?_
        refine rg_put (d := 46) (v := .d (.fl undef)) rfl (on rfl rfl rfl h5) ?_
        refine rg_put (d := 47) (v := .d (.fl undef)) rfl (on rfl rfl rfl h5) ?_
        refine rg_put (d := 48) (v := .d (.fl undef)) rfl (on rfl rfl rfl h5) ?_
        refine rg_put (d := 49) (v := .d (.fl (.bool false))) rfl (og rfl (op_pick rfl rfl (by rw [h5]; rfl) rfl)) ?_
        refine rg_put (d := 4) (v := .d (.fl (.bool false))) rfl (og rfl (op_assign rfl rfl rfl)) ?_
        refine rg_done rfl ?_
        refine a_ret ?_
        show ∃ ds, ResL _ _ _ ds ∧ RV.of ds = _
        refine ⟨[.fl (.bool false)], (.cons (.tmp rfl (.d _)) .nil), ?_⟩
        have hu : chg (kn t) x = false := by
          unfold chg; simp only [h1, h2, h5, Bool.true_or, Bool.false_or, Bool.or_true, Bool.or_false, Bool.not_true, Bool.not_false, cond_true, cond_false, Bool.true_and, Bool.false_and, Bool.and_true, Bool.and_false]
        rw [hu]; rfl
      · skip
        have h7 := t_beq h5
        refine rg_put (d := 44) (v := .pt 103 0) rfl (oy rfl rfl rfl h5 (of_eff (s_field_pt rfl Try.underlying94 rfl ti9 rfl rfl rfl) rfl)) ?_
        refine rg_put (d := 45) (v := .d (.fl (.string (((sR t x.fr).1).name)))) rfl (oy rfl rfl rfl h5 (op_load_pt rfl Try.underlying9 rfl rfl rfl rfl rfl)) ?_
        refine rg_put (d := 46) (v := .pt 104 0) rfl (oy rfl rfl rfl h5 (of_eff (s_field_pt rfl Try.underlying94 rfl ti9 rfl rfl rfl) rfl)) ?_
        refine rg_put (d := 47) (v := .d (.fl (.string (((sR t x.to).1).name)))) rfl (oy rfl rfl rfl h5 (op_load_pt rfl Try.underlying9 rfl rfl rfl rfl rfl)) ?_
        refine rg_put (d := 48) (v := .d (.fl (.bool ((sEq (((sR t x.fr).1).name) (((sR t x.to).1).name)))))) rfl (oy rfl rfl rfl h5 (op_bin rfl rfl rfl (b_seq _ _ _) rfl)) ?_
        refine rg_put (d := 49) (v := .d (.fl (.bool ((sEq (((sR t x.fr).1).name) (((sR t x.to).1).name)))))) rfl (og rfl (op_pick rfl rfl (by rw [h5]; rfl) rfl)) ?_
        refine rg_put (d := 4) (v := .d (.fl (.bool ((sEq (((sR t x.fr).1).name) (((sR t x.to).1).name)))))) rfl (og rfl (op_assign rfl rfl rfl)) ?_
        refine rg_done rfl ?_
        refine a_ret ?_
        show ∃ ds, ResL _ _ _ ds ∧ RV.of ds = _
        refine ⟨[.fl (.bool ((sEq (((sR t x.fr).1).name) (((sR t x.to).1).name))))], (.cons (.tmp rfl (.d _)) .nil), ?_⟩
        have n1 := sR_name (.inl (t_beq h2))
        have n2 := sR_name (.inr (t_beq h5))
        have hu : chg (kn t) x = (sEq (((sR t x.fr).1).name) (((sR t x.to).1).name)) := by
          unfold chg; simp only [n1, n2, h1, h2, h5, Bool.true_or, Bool.false_or, Bool.or_true, Bool.or_false, Bool.not_true, Bool.not_false, cond_true, cond_false, Bool.true_and, Bool.false_and, Bool.and_true, Bool.and_false]
        rw [hu]; rfl
set_option maxHeartbeats 4000000 in
set_option maxRecDepth 100000 in
theorem nmd_r (l : List Bd) (s : ByteArray) (hl : l.length ≤ 1000000) : Ctr Try.prog 37 [.sl 4 (List.map eBd l), .fl (.string s)] (.d (.fl (.bool (nmd l s)))) := by
  refine ctr (n := 19) (rs := #[.tmp 4]) (L := [(0, .d (.sl 4 (List.map eBd l))), (1, .d (.fl (.string s)))]) Try.func37 rfl rfl rfl rfl rfl (fun w0 U0 => ?_)
  refine a_rseq ?_
  refine rg_put (d := 4) (v := .d (.fl (.bool false))) rfl (og rfl (op_assign rfl rfl rfl)) ?_
  refine rg_done rfl ?_
  refine a_seq ?_
  refine a_rseq ?_
  refine rg_put (d := 5) (v := .d (.fl (.int .i64 0))) rfl (og rfl (op_assign rfl rfl rfl)) ?_
  refine rg_done rfl ?_
  refine a_block ?_
  refine a_loop (ι := Nat) (fun k => SS [(0, .d (.sl 4 (List.map eBd l))), (1, .d (.fl (.string s))), (5, .d (.fl (.int .i64 (k : Int))))] []) (fun k => k ≤ l.length ∧ ∀ q, q < k → (sEq (ix l q).name s) = false) (fun k => l.length - k) 0 (⟨by omega, fun q h => by omega⟩) (imp_forget rfl ⟨rfl, rfl, (by first | rfl | exact ci (by omega) | exact ci (by simp) | exact cd (by simp) | simp), trivial⟩ trivial) (fun k hok => ?_)
  obtain ⟨hkk, hq⟩ := hok
  refine a_seq ?_
  refine a_rseq ?_
  refine rg_put (d := 6) (v := .d (.fl (.int .i64 (k : Int)))) rfl (og rfl (op_move rfl rfl rfl)) ?_
  refine rg_put (d := 7) (v := .d (.sl 4 (List.map eBd l))) rfl (og rfl (op_move rfl rfl rfl)) ?_
  refine rg_put (d := 8) (v := .d (.fl (.int .i64 (l.length : Int)))) rfl (og rfl (s_len rfl Try.underlying24 rfl rfl)) ?_
  refine rg_put (d := 9) (v := .d (.fl (.bool ((decide ((k : Int) < (l.length : Int))))))) rfl (og rfl (op_bin rfl rfl rfl (b_lss _ _ _ _) rfl)) ?_
  refine rg_done rfl ?_
  refine a_cond rfl (fun h1 => ?_) (fun h1 => ?_)
  · skip
    have h2 := t_dec h1
    refine a_skip ?_
    show A _ _ _ _ _ _ _
    refine a_seq ?_
    refine a_block ?_
    refine a_rseq ?_
    refine rg_put (d := 12) (v := .d (.sl 4 (List.map eBd l))) rfl (og rfl (op_move rfl rfl rfl)) ?_
    refine rg_put (d := 13) (v := .d (.fl (.int .i64 (k : Int)))) rfl (og rfl (op_move rfl rfl rfl)) ?_
    refine rg_put (d := 14) (v := .el ((eBd (ix l k)))) rfl (og rfl (s_index rfl Try.underlying24 ti59 rfl rfl (by omega) (row_at (by omega)) rfl)) ?_
    refine rg_put (d := 15) (v := .el ((List.drop 0 ((eBd (ix l k)))))) rfl (og rfl (of_eff (s_field_el rfl Try.underlying59 rfl ti9 rfl rfl rfl) rfl)) ?_
    refine rg_put (d := 16) (v := .d (.fl (.string ((ix l k).name)))) rfl (og rfl (op_load_el rfl Try.underlying9 rfl rfl rfl rfl)) ?_
    refine rg_put (d := 17) (v := .d (.fl (.string s))) rfl (og rfl (op_move rfl rfl rfl)) ?_
    refine rg_put (d := 18) (v := .d (.fl (.bool ((sEq ((ix l k).name) s))))) rfl (og rfl (op_bin rfl rfl rfl (b_seq _ _ _) rfl)) ?_
    refine rg_done rfl ?_
    refine a_cond rfl (fun h3 => ?_) (fun h3 => ?_)
    · skip
      refine a_rseq ?_
      refine rg_put (d := 4) (v := .d (.fl (.bool true))) rfl (og rfl (op_assign rfl rfl rfl)) ?_
      refine rg_done rfl ?_
      refine a_ret ?_
      show ∃ ds, ResL _ _ _ ds ∧ RV.of ds = _
      refine ⟨[.fl (.bool true)], (.cons (.tmp rfl (.d _)) .nil), ?_⟩
      rw [nmd_yes (by omega) h3]; rfl
    · skip
      refine a_skip ?_
      show A _ _ _ _ _ _ _
      refine a_region ?_
      refine rg_put (d := 10) (v := .d (.fl (.int .i64 (k : Int)))) rfl (og rfl (op_move rfl rfl rfl)) ?_
      refine rg_put (d := 11) (v := .d (.fl (.int .i64 (((k : Int) + 1))))) rfl (og rfl (op_bin rfl rfl rfl (fun x y w => b_add64 _ _ _ x y w (by omega)) rfl)) ?_
      refine rg_put (d := 5) (v := .d (.fl (.int .i64 (((k : Int) + 1))))) rfl (og rfl (op_assign rfl rfl rfl)) ?_
      refine rg_done rfl ?_
      have hx : (sEq (ix l k).name s) = false := h3
      show ∃ i, _ ∧ _ ∧ Imp _ _ _ _ _
      refine ⟨k + 1, ⟨by omega, fun q h => (Nat.lt_succ_iff_lt_or_eq.1 h).elim (hq q) (fun e => by rw [e]; exact hx)⟩, by omega, imp_forget rfl ⟨rfl, rfl, (by first | rfl | exact ci (by omega) | exact ci (by simp) | exact cd (by simp) | simp), trivial⟩ trivial⟩
  · skip
    have h4 := f_dec h1
    refine a_exit ?_
    show A _ _ _ _ _ _ _
    refine a_rseq ?_
    refine rg_put (d := 4) (v := .d (.fl (.bool false))) rfl (og rfl (op_assign rfl rfl rfl)) ?_
    refine rg_done rfl ?_
    refine a_ret ?_
    show ∃ ds, ResL _ _ _ ds ∧ RV.of ds = _
    refine ⟨[.fl (.bool false)], (.cons (.tmp rfl (.d _)) .nil), ?_⟩
    rw [nmd_no (k := k) (by omega) (fun q h => hq q (by omega))]; rfl
set_option maxHeartbeats 4000000 in
set_option maxRecDepth 100000 in
theorem rate_r (x : Ta) (t : Tpg) (j : Nat) (hj : j < x.rates.length) (hl : x.rates.length ≤ 1000000) (hb : x.bands.length ≤ 1000000) : Ctr Try.prog 21 [.ag (eTa x), .ag (eTpg t), .fl (.int .i64 (j : Int))] (.d (.fl (.int .i64 (rt1 (kn t) x.bands x.rates j)))) := by
  refine ctr (n := 82) (rs := #[.tmp 6]) (L := [(0, .d (.ag (eTa x))), (1, .d (.ag (eTpg t))), (2, .d (.fl (.int .i64 (j : Int))))]) Try.func21 rfl rfl rfl rfl rfl (fun w0 U0 => ?_)
  refine a_rseq ?_
  refine rg_nam (d := 3) (v := .pt 101 0) (m := 101) (nw := [(101, .bx 27 (eTa x))]) rfl (og rfl (of_eff (op_box 101 rfl rfl rfl rfl) rfl)) rfl ?_
  refine rg_nam (d := 4) (v := .pt 102 0) (m := 102) (nw := [(102, .bx 34 (eTpg t))]) rfl (og rfl (of_eff (op_box 102 rfl rfl rfl rfl) rfl)) rfl ?_
  refine rg_put (d := 6) (v := .d (.fl (.int .i64 0))) rfl (og rfl (op_assign rfl rfl rfl)) ?_
  refine rg_done rfl ?_
  refine a_rseq ?_
  refine rg_put (d := 10) (v := .pt 101 3) rfl (og rfl (of_eff (s_field_pt rfl Try.underlying27 rfl ti25 rfl rfl rfl) rfl)) ?_
  refine rg_put (d := 11) (v := .d (.sl 5 (List.map eRt x.rates))) rfl (og rfl (op_load_pt rfl Try.underlying25 rfl rfl rfl rfl rfl)) ?_
  refine rg_put (d := 12) (v := .d (.fl (.int .i64 (j : Int)))) rfl (og rfl (op_move rfl rfl rfl)) ?_
  refine rg_put (d := 13) (v := .el ((eRt (ix x.rates j)))) rfl (og rfl (s_index rfl Try.underlying25 ti68 rfl rfl (by omega) (row_at (by omega)) rfl)) ?_
  refine rg_put (d := 14) (v := .d (.ag (eRt (ix x.rates j)))) rfl (og rfl (of_eff (s_load_els rfl Try.underlying68 rfl ti68 rfl rfl rfl) rfl)) ?_
  refine rg_nam (d := 7) (v := .pt 103 0) (m := 103) (nw := [(103, .bx 68 ([.fl (.string (⟨#[]⟩)), .fl (.string (⟨#[]⟩)), .fl (.int .i64 0), .fl (.string (⟨#[]⟩)), .fl (.int .i64 0)]))]) rfl (og rfl (of_eff (s_alloc 103 rfl ti68 (by kernel_rfl) rfl) rfl)) rfl ?_
  refine rg_sto (nw := [(103, .bx 68 ((eRt (ix x.rates j))))]) rfl (og rfl (of_eff (s_store rfl rfl ti68 rfl rfl rfl rfl rfl rfl) rfl)) ?_
  refine rg_done rfl ?_
  refine a_seq ?_
  refine a_rseq ?_
  refine rg_put (d := 15) (v := .d (.ag (eTpg t))) rfl (og rfl (of_eff (s_load_pts rfl Try.underlying34 rfl ti34 rfl rfl rfl rfl) rfl)) ?_
  refine rg_put (d := 16) (v := .d (.ag (eRt (ix x.rates j)))) rfl (og rfl (of_eff (s_load_pts rfl Try.underlying68 rfl ti68 rfl rfl rfl rfl) rfl)) ?_
  refine rg_put (d := 17) (v := .d (.fl (.bool ((chg (kn t) (ix x.rates j)))))) rfl (og rfl (op_call rfl Try.func36 nm36 rfl (.cons rfl (.d _) (.cons rfl (.d _) .nil)) (chg_r t (ix x.rates j)) rfl)) ?_
  refine rg_put (d := 18) (v := .d (.fl (.bool ((!((chg (kn t) (ix x.rates j)))))))) rfl (og rfl (op_un rfl rfl (u_not _) rfl)) ?_
  refine rg_done rfl ?_
  refine a_cond rfl (fun h1 => ?_) (fun h1 => ?_)
  · skip
    have h2 := t_not h1
    refine a_rseq ?_
    refine rg_put (d := 6) (v := .d (.fl (.int .i64 16))) rfl (og rfl (op_assign rfl rfl rfl)) ?_
    refine rg_done rfl ?_
    refine a_ret ?_
    show ∃ ds, ResL _ _ _ ds ∧ RV.of ds = _
    refine ⟨[.fl (.int .i64 16)], (.cons (.tmp rfl (.d _)) .nil), ?_⟩
    have hb : rt1 (kn t) x.bands x.rates j = 16 := by unfold rt1; simp only [h1, h2, Bool.true_or, Bool.false_or, Bool.or_true, Bool.or_false, Bool.not_true, Bool.not_false, cond_true, cond_false, Bool.true_and, Bool.false_and, Bool.and_true, Bool.and_false] <;> rfl
    rw [hb]; rfl
  · skip
    have h3 := f_not h1
    refine a_skip ?_
    show A _ _ _ _ _ _ _
    refine a_seq ?_
    refine a_rseq ?_
    refine rg_put (d := 19) (v := .pt 103 2) rfl (og rfl (of_eff (s_field_pt rfl Try.underlying68 rfl ti3 rfl rfl rfl) rfl)) ?_
    refine rg_put (d := 20) (v := .d (.fl (.int .i64 ((ix x.rates j).cls)))) rfl (og rfl (op_load_pt rfl Try.underlying3 rfl rfl rfl rfl rfl)) ?_
    refine rg_put (d := 21) (v := .d (.fl (.bool ((decide ((ix x.rates j).cls < 1)))))) rfl (og rfl (op_bin rfl rfl rfl (b_lss _ _ _ _) rfl)) ?_
    refine rg_put (d := 22) (v := .d (.fl (.bool ((decide ((ix x.rates j).cls < 1)))))) rfl (og rfl (op_move rfl rfl rfl)) ?_
    rcases fot ((decide ((ix x.rates j).cls < 1))) with h4 | h4
    · skip
      have h5 := f_dec h4
      refine rg_put (d := 23) (v := .pt 103 2) rfl (oy rfl rfl rfl h4 (of_eff (s_field_pt rfl Try.underlying68 rfl ti3 rfl rfl rfl) rfl)) ?_
      refine rg_put (d := 24) (v := .d (.fl (.int .i64 ((ix x.rates j).cls)))) rfl (oy rfl rfl rfl h4 (op_load_pt rfl Try.underlying3 rfl rfl rfl rfl rfl)) ?_
      refine rg_put (d := 25) (v := .d (.fl (.bool ((decide (9 < (ix x.rates j).cls)))))) rfl (oy rfl rfl rfl h4 (op_bin rfl rfl rfl (b_gtr _ _ _ _) rfl)) ?_
      refine rg_put (d := 26) (v := .d (.fl (.bool ((decide (9 < (ix x.rates j).cls)))))) rfl (og rfl (op_pick rfl rfl (by rw [h4]; rfl) rfl)) ?_
      refine rg_done rfl ?_
      refine a_cond rfl (fun h6 => ?_) (fun h6 => ?_)
      · skip
        have h7 := t_dec h6
        refine a_rseq ?_
        refine rg_put (d := 6) (v := .d (.fl (.int .i64 20))) rfl (og rfl (op_assign rfl rfl rfl)) ?_
        refine rg_done rfl ?_
        refine a_ret ?_
        show ∃ ds, ResL _ _ _ ds ∧ RV.of ds = _
        refine ⟨[.fl (.int .i64 20)], (.cons (.tmp rfl (.d _)) .nil), ?_⟩
        have hb : rt1 (kn t) x.bands x.rates j = 20 := by unfold rt1; simp only [h1, h3, h4, h6, Bool.true_or, Bool.false_or, Bool.or_true, Bool.or_false, Bool.not_true, Bool.not_false, cond_true, cond_false, Bool.true_and, Bool.false_and, Bool.and_true, Bool.and_false] <;> rfl
        rw [hb]; rfl
      · skip
        have h8 := f_dec h6
        refine a_skip ?_
        show A _ _ _ _ _ _ _
        refine a_seq ?_
        refine a_rseq ?_
        refine rg_put (d := 27) (v := .pt 103 3) rfl (og rfl (of_eff (s_field_pt rfl Try.underlying68 rfl ti9 rfl rfl rfl) rfl)) ?_
        refine rg_put (d := 28) (v := .d (.fl (.string ((ix x.rates j).band)))) rfl (og rfl (op_load_pt rfl Try.underlying9 rfl rfl rfl rfl rfl)) ?_
        refine rg_put (d := 29) (v := .d (.fl (.bool ((!(sEq ((ix x.rates j).band) (⟨#[]⟩))))))) rfl (og rfl (op_bin rfl rfl rfl (b_sne _ _ _) rfl)) ?_
        refine rg_put (d := 30) (v := .d (.fl (.bool ((!(sEq ((ix x.rates j).band) (⟨#[]⟩))))))) rfl (og rfl (op_move rfl rfl rfl)) ?_
        rcases fot ((!(sEq ((ix x.rates j).band) (⟨#[]⟩)))) with h9 | h9
        · skip
          have h10 := f_not h9
          refine rg_put (d := 31) (v := .d (.fl undef)) rfl (on rfl rfl rfl h9) ?_
          refine rg_put (d := 32) (v := .d (.fl undef)) rfl (on rfl rfl rfl h9) ?_
          refine rg_put (d := 33) (v := .d (.fl undef)) rfl (on rfl rfl rfl h9) ?_
          refine rg_put (d := 34) (v := .d (.fl undef)) rfl (on rfl rfl rfl h9) ?_
          refine rg_put (d := 35) (v := .d (.fl undef)) rfl (on rfl rfl rfl h9) ?_
          refine rg_put (d := 36) (v := .d (.fl undef)) rfl (on rfl rfl rfl h9) ?_
          refine rg_put (d := 37) (v := .d (.fl (.bool false))) rfl (og rfl (op_pick rfl rfl (by rw [h9]; rfl) rfl)) ?_
          refine rg_done rfl ?_
          refine a_condF rfl rfl ?_
          refine a_skip ?_
          show A _ _ _ _ _ _ _
          refine a_seq ?_
          refine a_rseq ?_
          refine rg_put (d := 38) (v := .pt 103 4) rfl (og rfl (of_eff (s_field_pt rfl Try.underlying68 rfl ti3 rfl rfl rfl) rfl)) ?_
          refine rg_put (d := 39) (v := .d (.fl (.int .i64 ((ix x.rates j).cents)))) rfl (og rfl (op_load_pt rfl Try.underlying3 rfl rfl rfl rfl rfl)) ?_
          refine rg_put (d := 40) (v := .d (.fl (.bool ((decide ((ix x.rates j).cents < 0)))))) rfl (og rfl (op_bin rfl rfl rfl (b_lss _ _ _ _) rfl)) ?_
          refine rg_put (d := 41) (v := .d (.fl (.bool ((decide ((ix x.rates j).cents < 0)))))) rfl (og rfl (op_move rfl rfl rfl)) ?_
          rcases fot ((decide ((ix x.rates j).cents < 0))) with h11 | h11
          · skip
            have h12 := f_dec h11
            refine rg_put (d := 42) (v := .pt 103 4) rfl (oy rfl rfl rfl h11 (of_eff (s_field_pt rfl Try.underlying68 rfl ti3 rfl rfl rfl) rfl)) ?_
            refine rg_put (d := 43) (v := .d (.fl (.int .i64 ((ix x.rates j).cents)))) rfl (oy rfl rfl rfl h11 (op_load_pt rfl Try.underlying3 rfl rfl rfl rfl rfl)) ?_
            refine rg_put (d := 44) (v := .d (.fl (.bool ((decide (1125899906842624 < (ix x.rates j).cents)))))) rfl (oy rfl rfl rfl h11 (op_bin rfl rfl rfl (b_gtr _ _ _ _) rfl)) ?_
            refine rg_put (d := 45) (v := .d (.fl (.bool ((decide (1125899906842624 < (ix x.rates j).cents)))))) rfl (og rfl (op_pick rfl rfl (by rw [h11]; rfl) rfl)) ?_
            refine rg_done rfl ?_
            refine a_cond rfl (fun h13 => ?_) (fun h13 => ?_)
            · skip
              have h14 := t_dec h13
              refine a_rseq ?_
              refine rg_put (d := 6) (v := .d (.fl (.int .i64 13))) rfl (og rfl (op_assign rfl rfl rfl)) ?_
              refine rg_done rfl ?_
              refine a_ret ?_
              show ∃ ds, ResL _ _ _ ds ∧ RV.of ds = _
              refine ⟨[.fl (.int .i64 13)], (.cons (.tmp rfl (.d _)) .nil), ?_⟩
              have hbd : hasB x.bands (ix x.rates j).band = true := by unfold hasB; simp only [h1, h3, h4, h6, h9, h10, h11, h13, Bool.true_or, Bool.false_or, Bool.or_true, Bool.or_false, Bool.not_true, Bool.not_false, cond_true, cond_false, Bool.true_and, Bool.false_and, Bool.and_true, Bool.and_false] <;> rfl
              have hb : rt1 (kn t) x.bands x.rates j = 13 := by unfold rt1; simp only [h1, h3, h4, h6, h9, h10, h11, h13, hbd, Bool.true_or, Bool.false_or, Bool.or_true, Bool.or_false, Bool.not_true, Bool.not_false, cond_true, cond_false, Bool.true_and, Bool.false_and, Bool.and_true, Bool.and_false] <;> rfl
              rw [hb]; rfl
            · skip
              have h15 := f_dec h13
              refine a_skip ?_
              show A _ _ _ _ _ _ _
              refine a_seq ?_
              refine a_rseq ?_
              refine rg_put (d := 8) (v := .d (.fl (.int .i64 0))) rfl (og rfl (op_assign rfl rfl rfl)) ?_
              refine rg_done rfl ?_
              refine a_block ?_
              refine a_loop (ι := Nat) (fun q => SS [(0, .d (.ag (eTa x))), (1, .d (.ag (eTpg t))), (2, .d (.fl (.int .i64 (j : Int)))), (3, .pt 101 0), (4, .pt 102 0), (7, .pt 103 0), (18, .d (.fl (.bool ((!((chg (kn t) (ix x.rates j)))))))), (26, .d (.fl (.bool ((decide (9 < (ix x.rates j).cls)))))), (37, .d (.fl (.bool false))), (45, .d (.fl (.bool ((decide (1125899906842624 < (ix x.rates j).cents)))))), (8, .d (.fl (.int .i64 (q : Int))))] [(101, .bx 27 (eTa x)), (102, .bx 34 (eTpg t)), (103, .bx 68 ((eRt (ix x.rates j))))]) (fun q => q ≤ j ∧ ∀ p, p < q → (((sEq (ix x.rates p).fr (ix x.rates j).fr && sEq (ix x.rates p).to (ix x.rates j).to) && ((ix x.rates p).cls == (ix x.rates j).cls)) && sEq (ix x.rates p).band (ix x.rates j).band) = false) (fun q => j - q) 0 (⟨by omega, fun q h => by omega⟩) (imp_forget rfl ⟨rfl, rfl, rfl, rfl, rfl, rfl, rfl, rfl, rfl, rfl, (by first | rfl | exact ci (by omega) | exact ci (by simp) | exact cd (by simp) | simp), trivial⟩ ⟨rfl, rfl, rfl, trivial⟩) (fun q hok => ?_)
              obtain ⟨hqj, hq⟩ := hok
              refine a_seq ?_
              refine a_rseq ?_
              refine rg_put (d := 46) (v := .d (.fl (.int .i64 (q : Int)))) rfl (og rfl (op_move rfl rfl rfl)) ?_
              refine rg_put (d := 47) (v := .d (.fl (.int .i64 (j : Int)))) rfl (og rfl (op_move rfl rfl rfl)) ?_
              refine rg_put (d := 48) (v := .d (.fl (.bool ((decide ((q : Int) < (j : Int))))))) rfl (og rfl (op_bin rfl rfl rfl (b_lss _ _ _ _) rfl)) ?_
              refine rg_done rfl ?_
              refine a_cond rfl (fun h16 => ?_) (fun h16 => ?_)
              · skip
                have h17 := t_dec h16
                refine a_skip ?_
                show A _ _ _ _ _ _ _
                refine a_seq ?_
                refine a_block ?_
                refine a_rseq ?_
                refine rg_put (d := 51) (v := .pt 101 3) rfl (og rfl (of_eff (s_field_pt rfl Try.underlying27 rfl ti25 rfl rfl rfl) rfl)) ?_
                refine rg_put (d := 52) (v := .d (.sl 5 (List.map eRt x.rates))) rfl (og rfl (op_load_pt rfl Try.underlying25 rfl rfl rfl rfl rfl)) ?_
                refine rg_put (d := 53) (v := .d (.fl (.int .i64 (q : Int)))) rfl (og rfl (op_move rfl rfl rfl)) ?_
                refine rg_put (d := 54) (v := .el ((eRt (ix x.rates q)))) rfl (og rfl (s_index rfl Try.underlying25 ti68 rfl rfl (by omega) (row_at (by omega)) rfl)) ?_
                refine rg_put (d := 55) (v := .d (.ag (eRt (ix x.rates q)))) rfl (og rfl (of_eff (s_load_els rfl Try.underlying68 rfl ti68 rfl rfl rfl) rfl)) ?_
                refine rg_nam (d := 9) (v := .pt 104 0) (m := 104) (nw := [(104, .bx 68 ([.fl (.string (⟨#[]⟩)), .fl (.string (⟨#[]⟩)), .fl (.int .i64 0), .fl (.string (⟨#[]⟩)), .fl (.int .i64 0)]))]) rfl (og rfl (of_eff (s_alloc 104 rfl ti68 (by kernel_rfl) rfl) rfl)) rfl ?_
                refine rg_sto (nw := [(104, .bx 68 ((eRt (ix x.rates q))))]) rfl (og rfl (of_eff (s_store rfl rfl ti68 rfl rfl rfl rfl rfl rfl) rfl)) ?_
                refine rg_done rfl ?_
                refine a_rseq ?_
                refine rg_put (d := 56) (v := .pt 104 0) rfl (og rfl (of_eff (s_field_pt rfl Try.underlying68 rfl ti9 rfl rfl rfl) rfl)) ?_
                refine rg_put (d := 57) (v := .d (.fl (.string ((ix x.rates q).fr)))) rfl (og rfl (op_load_pt rfl Try.underlying9 rfl rfl rfl rfl rfl)) ?_
                refine rg_put (d := 58) (v := .pt 103 0) rfl (og rfl (of_eff (s_field_pt rfl Try.underlying68 rfl ti9 rfl rfl rfl) rfl)) ?_
                refine rg_put (d := 59) (v := .d (.fl (.string ((ix x.rates j).fr)))) rfl (og rfl (op_load_pt rfl Try.underlying9 rfl rfl rfl rfl rfl)) ?_
                refine rg_put (d := 60) (v := .d (.fl (.bool ((sEq ((ix x.rates q).fr) ((ix x.rates j).fr)))))) rfl (og rfl (op_bin rfl rfl rfl (b_seq _ _ _) rfl)) ?_
                refine rg_put (d := 61) (v := .d (.fl (.bool ((sEq ((ix x.rates q).fr) ((ix x.rates j).fr)))))) rfl (og rfl (op_move rfl rfl rfl)) ?_
                rcases fot ((sEq ((ix x.rates q).fr) ((ix x.rates j).fr))) with h18 | h18
                · skip
                  refine rg_put (d := 62) (v := .d (.fl undef)) rfl (on rfl rfl rfl h18) ?_
                  refine rg_put (d := 63) (v := .d (.fl undef)) rfl (on rfl rfl rfl h18) ?_
                  refine rg_put (d := 64) (v := .d (.fl undef)) rfl (on rfl rfl rfl h18) ?_
                  refine rg_put (d := 65) (v := .d (.fl undef)) rfl (on rfl rfl rfl h18) ?_
                  refine rg_put (d := 66) (v := .d (.fl undef)) rfl (on rfl rfl rfl h18) ?_
                  refine rg_put (d := 67) (v := .d (.fl (.bool false))) rfl (og rfl (op_pick rfl rfl (by rw [h18]; rfl) rfl)) ?_
                  refine rg_put (d := 68) (v := .d (.fl (.bool false))) rfl (og rfl (op_move rfl rfl rfl)) ?_
                  refine rg_put (d := 69) (v := .d (.fl undef)) rfl (on rfl rfl rfl rfl) ?_
                  refine rg_put (d := 70) (v := .d (.fl undef)) rfl (on rfl rfl rfl rfl) ?_
                  refine rg_put (d := 71) (v := .d (.fl undef)) rfl (on rfl rfl rfl rfl) ?_
                  refine rg_put (d := 72) (v := .d (.fl undef)) rfl (on rfl rfl rfl rfl) ?_
                  refine rg_put (d := 73) (v := .d (.fl undef)) rfl (on rfl rfl rfl rfl) ?_
                  refine rg_put (d := 74) (v := .d (.fl (.bool false))) rfl (og rfl (op_pick rfl rfl rfl rfl)) ?_
                  refine rg_put (d := 75) (v := .d (.fl (.bool false))) rfl (og rfl (op_move rfl rfl rfl)) ?_
                  refine rg_put (d := 76) (v := .d (.fl undef)) rfl (on rfl rfl rfl rfl) ?_
                  refine rg_put (d := 77) (v := .d (.fl undef)) rfl (on rfl rfl rfl rfl) ?_
                  refine rg_put (d := 78) (v := .d (.fl undef)) rfl (on rfl rfl rfl rfl) ?_
                  refine rg_put (d := 79) (v := .d (.fl undef)) rfl (on rfl rfl rfl rfl) ?_
                  refine rg_put (d := 80) (v := .d (.fl undef)) rfl (on rfl rfl rfl rfl) ?_
                  refine rg_put (d := 81) (v := .d (.fl (.bool false))) rfl (og rfl (op_pick rfl rfl rfl rfl)) ?_
                  refine rg_done rfl ?_
                  refine a_condF rfl rfl ?_
                  refine a_skip ?_
                  show A _ _ _ _ _ _ _
                  refine a_region ?_
                  refine rg_put (d := 49) (v := .d (.fl (.int .i64 (q : Int)))) rfl (og rfl (op_move rfl rfl rfl)) ?_
                  refine rg_put (d := 50) (v := .d (.fl (.int .i64 (((q : Int) + 1))))) rfl (og rfl (op_bin rfl rfl rfl (fun x y w => b_add64 _ _ _ x y w (by omega)) rfl)) ?_
                  refine rg_put (d := 8) (v := .d (.fl (.int .i64 (((q : Int) + 1))))) rfl (og rfl (op_assign rfl rfl rfl)) ?_
                  refine rg_done rfl ?_
                  have hx : (((sEq (ix x.rates q).fr (ix x.rates j).fr && sEq (ix x.rates q).to (ix x.rates j).to) && ((ix x.rates q).cls == (ix x.rates j).cls)) && sEq (ix x.rates q).band (ix x.rates j).band) = false := by simp only [h1, h3, h4, h6, h9, h10, h11, h13, h16, h18, Bool.true_or, Bool.false_or, Bool.or_true, Bool.or_false, Bool.not_true, Bool.not_false, cond_true, cond_false, Bool.true_and, Bool.false_and, Bool.and_true, Bool.and_false] <;> rfl
                  show ∃ i, _ ∧ _ ∧ Imp _ _ _ _ _
                  refine ⟨q + 1, ⟨by omega, fun q h => (Nat.lt_succ_iff_lt_or_eq.1 h).elim (hq q) (fun e => by rw [e]; exact hx)⟩, by omega, imp_forget rfl ⟨rfl, rfl, rfl, rfl, rfl, rfl, rfl, rfl, rfl, rfl, (by first | rfl | exact ci (by omega) | exact ci (by simp) | exact cd (by simp) | simp), trivial⟩ ⟨rfl, rfl, rfl, trivial⟩⟩
                · skip
                  refine rg_put (d := 62) (v := .pt 104 1) rfl (oy rfl rfl rfl h18 (of_eff (s_field_pt rfl Try.underlying68 rfl ti9 rfl rfl rfl) rfl)) ?_
                  refine rg_put (d := 63) (v := .d (.fl (.string ((ix x.rates q).to)))) rfl (oy rfl rfl rfl h18 (op_load_pt rfl Try.underlying9 rfl rfl rfl rfl rfl)) ?_
                  refine rg_put (d := 64) (v := .pt 103 1) rfl (oy rfl rfl rfl h18 (of_eff (s_field_pt rfl Try.underlying68 rfl ti9 rfl rfl rfl) rfl)) ?_
                  refine rg_put (d := 65) (v := .d (.fl (.string ((ix x.rates j).to)))) rfl (oy rfl rfl rfl h18 (op_load_pt rfl Try.underlying9 rfl rfl rfl rfl rfl)) ?_
                  refine rg_put (d := 66) (v := .d (.fl (.bool ((sEq ((ix x.rates q).to) ((ix x.rates j).to)))))) rfl (oy rfl rfl rfl h18 (op_bin rfl rfl rfl (b_seq _ _ _) rfl)) ?_
                  refine rg_put (d := 67) (v := .d (.fl (.bool ((sEq ((ix x.rates q).to) ((ix x.rates j).to)))))) rfl (og rfl (op_pick rfl rfl (by rw [h18]; rfl) rfl)) ?_
                  refine rg_put (d := 68) (v := .d (.fl (.bool ((sEq ((ix x.rates q).to) ((ix x.rates j).to)))))) rfl (og rfl (op_move rfl rfl rfl)) ?_
                  rcases fot ((sEq ((ix x.rates q).to) ((ix x.rates j).to))) with h19 | h19
                  · skip
                    refine rg_put (d := 69) (v := .d (.fl undef)) rfl (on rfl rfl rfl h19) ?_
                    refine rg_put (d := 70) (v := .d (.fl undef)) rfl (on rfl rfl rfl h19) ?_
                    refine rg_put (d := 71) (v := .d (.fl undef)) rfl (on rfl rfl rfl h19) ?_
                    refine rg_put (d := 72) (v := .d (.fl undef)) rfl (on rfl rfl rfl h19) ?_
                    refine rg_put (d := 73) (v := .d (.fl undef)) rfl (on rfl rfl rfl h19) ?_
                    refine rg_put (d := 74) (v := .d (.fl (.bool false))) rfl (og rfl (op_pick rfl rfl (by rw [h19]; rfl) rfl)) ?_
                    refine rg_put (d := 75) (v := .d (.fl (.bool false))) rfl (og rfl (op_move rfl rfl rfl)) ?_
                    refine rg_put (d := 76) (v := .d (.fl undef)) rfl (on rfl rfl rfl rfl) ?_
                    refine rg_put (d := 77) (v := .d (.fl undef)) rfl (on rfl rfl rfl rfl) ?_
                    refine rg_put (d := 78) (v := .d (.fl undef)) rfl (on rfl rfl rfl rfl) ?_
                    refine rg_put (d := 79) (v := .d (.fl undef)) rfl (on rfl rfl rfl rfl) ?_
                    refine rg_put (d := 80) (v := .d (.fl undef)) rfl (on rfl rfl rfl rfl) ?_
                    refine rg_put (d := 81) (v := .d (.fl (.bool false))) rfl (og rfl (op_pick rfl rfl rfl rfl)) ?_
                    refine rg_done rfl ?_
                    refine a_condF rfl rfl ?_
                    refine a_skip ?_
                    show A _ _ _ _ _ _ _
                    refine a_region ?_
                    refine rg_put (d := 49) (v := .d (.fl (.int .i64 (q : Int)))) rfl (og rfl (op_move rfl rfl rfl)) ?_
                    refine rg_put (d := 50) (v := .d (.fl (.int .i64 (((q : Int) + 1))))) rfl (og rfl (op_bin rfl rfl rfl (fun x y w => b_add64 _ _ _ x y w (by omega)) rfl)) ?_
                    refine rg_put (d := 8) (v := .d (.fl (.int .i64 (((q : Int) + 1))))) rfl (og rfl (op_assign rfl rfl rfl)) ?_
                    refine rg_done rfl ?_
                    have hx : (((sEq (ix x.rates q).fr (ix x.rates j).fr && sEq (ix x.rates q).to (ix x.rates j).to) && ((ix x.rates q).cls == (ix x.rates j).cls)) && sEq (ix x.rates q).band (ix x.rates j).band) = false := by simp only [h1, h3, h4, h6, h9, h10, h11, h13, h16, h18, h19, Bool.true_or, Bool.false_or, Bool.or_true, Bool.or_false, Bool.not_true, Bool.not_false, cond_true, cond_false, Bool.true_and, Bool.false_and, Bool.and_true, Bool.and_false] <;> rfl
                    show ∃ i, _ ∧ _ ∧ Imp _ _ _ _ _
                    refine ⟨q + 1, ⟨by omega, fun q h => (Nat.lt_succ_iff_lt_or_eq.1 h).elim (hq q) (fun e => by rw [e]; exact hx)⟩, by omega, imp_forget rfl ⟨rfl, rfl, rfl, rfl, rfl, rfl, rfl, rfl, rfl, rfl, (by first | rfl | exact ci (by omega) | exact ci (by simp) | exact cd (by simp) | simp), trivial⟩ ⟨rfl, rfl, rfl, trivial⟩⟩
                  · skip
                    refine rg_put (d := 69) (v := .pt 104 2) rfl (oy rfl rfl rfl h19 (of_eff (s_field_pt rfl Try.underlying68 rfl ti3 rfl rfl rfl) rfl)) ?_
                    refine rg_put (d := 70) (v := .d (.fl (.int .i64 ((ix x.rates q).cls)))) rfl (oy rfl rfl rfl h19 (op_load_pt rfl Try.underlying3 rfl rfl rfl rfl rfl)) ?_
                    refine rg_put (d := 71) (v := .pt 103 2) rfl (oy rfl rfl rfl h19 (of_eff (s_field_pt rfl Try.underlying68 rfl ti3 rfl rfl rfl) rfl)) ?_
                    refine rg_put (d := 72) (v := .d (.fl (.int .i64 ((ix x.rates j).cls)))) rfl (oy rfl rfl rfl h19 (op_load_pt rfl Try.underlying3 rfl rfl rfl rfl rfl)) ?_
                    refine rg_put (d := 73) (v := .d (.fl (.bool (((ix x.rates q).cls == (ix x.rates j).cls))))) rfl (oy rfl rfl rfl h19 (op_bin rfl rfl rfl (b_eql _ _ _ _) rfl)) ?_
                    refine rg_put (d := 74) (v := .d (.fl (.bool (((ix x.rates q).cls == (ix x.rates j).cls))))) rfl (og rfl (op_pick rfl rfl (by rw [h19]; rfl) rfl)) ?_
                    refine rg_put (d := 75) (v := .d (.fl (.bool (((ix x.rates q).cls == (ix x.rates j).cls))))) rfl (og rfl (op_move rfl rfl rfl)) ?_
                    rcases fot (((ix x.rates q).cls == (ix x.rates j).cls)) with h20 | h20
                    · skip
                      have h21 := f_beq h20
                      refine rg_put (d := 76) (v := .d (.fl undef)) rfl (on rfl rfl rfl h20) ?_
                      refine rg_put (d := 77) (v := .d (.fl undef)) rfl (on rfl rfl rfl h20) ?_
                      refine rg_put (d := 78) (v := .d (.fl undef)) rfl (on rfl rfl rfl h20) ?_
                      refine rg_put (d := 79) (v := .d (.fl undef)) rfl (on rfl rfl rfl h20) ?_
                      refine rg_put (d := 80) (v := .d (.fl undef)) rfl (on rfl rfl rfl h20) ?_
                      refine rg_put (d := 81) (v := .d (.fl (.bool false))) rfl (og rfl (op_pick rfl rfl (by rw [h20]; rfl) rfl)) ?_
                      refine rg_done rfl ?_
                      refine a_condF rfl rfl ?_
                      refine a_skip ?_
                      show A _ _ _ _ _ _ _
                      refine a_region ?_
                      refine rg_put (d := 49) (v := .d (.fl (.int .i64 (q : Int)))) rfl (og rfl (op_move rfl rfl rfl)) ?_
                      refine rg_put (d := 50) (v := .d (.fl (.int .i64 (((q : Int) + 1))))) rfl (og rfl (op_bin rfl rfl rfl (fun x y w => b_add64 _ _ _ x y w (by omega)) rfl)) ?_
                      refine rg_put (d := 8) (v := .d (.fl (.int .i64 (((q : Int) + 1))))) rfl (og rfl (op_assign rfl rfl rfl)) ?_
                      refine rg_done rfl ?_
                      have hx : (((sEq (ix x.rates q).fr (ix x.rates j).fr && sEq (ix x.rates q).to (ix x.rates j).to) && ((ix x.rates q).cls == (ix x.rates j).cls)) && sEq (ix x.rates q).band (ix x.rates j).band) = false := by simp only [h1, h3, h4, h6, h9, h10, h11, h13, h16, h18, h19, h20, Bool.true_or, Bool.false_or, Bool.or_true, Bool.or_false, Bool.not_true, Bool.not_false, cond_true, cond_false, Bool.true_and, Bool.false_and, Bool.and_true, Bool.and_false] <;> rfl
                      show ∃ i, _ ∧ _ ∧ Imp _ _ _ _ _
                      refine ⟨q + 1, ⟨by omega, fun q h => (Nat.lt_succ_iff_lt_or_eq.1 h).elim (hq q) (fun e => by rw [e]; exact hx)⟩, by omega, imp_forget rfl ⟨rfl, rfl, rfl, rfl, rfl, rfl, rfl, rfl, rfl, rfl, (by first | rfl | exact ci (by omega) | exact ci (by simp) | exact cd (by simp) | simp), trivial⟩ ⟨rfl, rfl, rfl, trivial⟩⟩
                    · skip
                      have h22 := t_beq h20
                      refine rg_put (d := 76) (v := .pt 104 3) rfl (oy rfl rfl rfl h20 (of_eff (s_field_pt rfl Try.underlying68 rfl ti9 rfl rfl rfl) rfl)) ?_
                      refine rg_put (d := 77) (v := .d (.fl (.string ((ix x.rates q).band)))) rfl (oy rfl rfl rfl h20 (op_load_pt rfl Try.underlying9 rfl rfl rfl rfl rfl)) ?_
                      refine rg_put (d := 78) (v := .pt 103 3) rfl (oy rfl rfl rfl h20 (of_eff (s_field_pt rfl Try.underlying68 rfl ti9 rfl rfl rfl) rfl)) ?_
                      refine rg_put (d := 79) (v := .d (.fl (.string ((ix x.rates j).band)))) rfl (oy rfl rfl rfl h20 (op_load_pt rfl Try.underlying9 rfl rfl rfl rfl rfl)) ?_
                      refine rg_put (d := 80) (v := .d (.fl (.bool ((sEq ((ix x.rates q).band) ((ix x.rates j).band)))))) rfl (oy rfl rfl rfl h20 (op_bin rfl rfl rfl (b_seq _ _ _) rfl)) ?_
                      refine rg_put (d := 81) (v := .d (.fl (.bool ((sEq ((ix x.rates q).band) ((ix x.rates j).band)))))) rfl (og rfl (op_pick rfl rfl (by rw [h20]; rfl) rfl)) ?_
                      refine rg_done rfl ?_
                      refine a_cond rfl (fun h23 => ?_) (fun h23 => ?_)
                      · skip
                        refine a_rseq ?_
                        refine rg_put (d := 6) (v := .d (.fl (.int .i64 9))) rfl (og rfl (op_assign rfl rfl rfl)) ?_
                        refine rg_done rfl ?_
                        refine a_ret ?_
                        show ∃ ds, ResL _ _ _ ds ∧ RV.of ds = _
                        refine ⟨[.fl (.int .i64 9)], (.cons (.tmp rfl (.d _)) .nil), ?_⟩
                        have hbd : hasB x.bands (ix x.rates j).band = true := by unfold hasB; simp only [h1, h3, h4, h6, h9, h10, h11, h13, h16, h18, h19, h20, h23, Bool.true_or, Bool.false_or, Bool.or_true, Bool.or_false, Bool.not_true, Bool.not_false, cond_true, cond_false, Bool.true_and, Bool.false_and, Bool.and_true, Bool.and_false] <;> rfl
                        have hdr : dupR (x.rates.take j) (ix x.rates j) = true := dupR_yes (j := q) (by omega) (by omega) (by simp only [h1, h3, h4, h6, h9, h10, h11, h13, h16, h18, h19, h20, h23, Bool.true_or, Bool.false_or, Bool.or_true, Bool.or_false, Bool.not_true, Bool.not_false, cond_true, cond_false, Bool.true_and, Bool.false_and, Bool.and_true, Bool.and_false] <;> rfl)
                        have hb : rt1 (kn t) x.bands x.rates j = 9 := by unfold rt1; simp only [h1, h3, h4, h6, h9, h10, h11, h13, h16, h18, h19, h20, h23, hbd, hdr, Bool.true_or, Bool.false_or, Bool.or_true, Bool.or_false, Bool.not_true, Bool.not_false, cond_true, cond_false, Bool.true_and, Bool.false_and, Bool.and_true, Bool.and_false] <;> rfl
                        rw [hb]; rfl
                      · skip
                        refine a_skip ?_
                        show A _ _ _ _ _ _ _
                        refine a_region ?_
                        refine rg_put (d := 49) (v := .d (.fl (.int .i64 (q : Int)))) rfl (og rfl (op_move rfl rfl rfl)) ?_
                        refine rg_put (d := 50) (v := .d (.fl (.int .i64 (((q : Int) + 1))))) rfl (og rfl (op_bin rfl rfl rfl (fun x y w => b_add64 _ _ _ x y w (by omega)) rfl)) ?_
                        refine rg_put (d := 8) (v := .d (.fl (.int .i64 (((q : Int) + 1))))) rfl (og rfl (op_assign rfl rfl rfl)) ?_
                        refine rg_done rfl ?_
                        have hx : (((sEq (ix x.rates q).fr (ix x.rates j).fr && sEq (ix x.rates q).to (ix x.rates j).to) && ((ix x.rates q).cls == (ix x.rates j).cls)) && sEq (ix x.rates q).band (ix x.rates j).band) = false := by simp only [h1, h3, h4, h6, h9, h10, h11, h13, h16, h18, h19, h20, h23, Bool.true_or, Bool.false_or, Bool.or_true, Bool.or_false, Bool.not_true, Bool.not_false, cond_true, cond_false, Bool.true_and, Bool.false_and, Bool.and_true, Bool.and_false] <;> rfl
                        show ∃ i, _ ∧ _ ∧ Imp _ _ _ _ _
                        refine ⟨q + 1, ⟨by omega, fun q h => (Nat.lt_succ_iff_lt_or_eq.1 h).elim (hq q) (fun e => by rw [e]; exact hx)⟩, by omega, imp_forget rfl ⟨rfl, rfl, rfl, rfl, rfl, rfl, rfl, rfl, rfl, rfl, (by first | rfl | exact ci (by omega) | exact ci (by simp) | exact cd (by simp) | simp), trivial⟩ ⟨rfl, rfl, rfl, trivial⟩⟩
              · skip
                have h24 := f_dec h16
                refine a_exit ?_
                show A _ _ _ _ _ _ _
                refine a_rseq ?_
                refine rg_put (d := 6) (v := .d (.fl (.int .i64 0))) rfl (og rfl (op_assign rfl rfl rfl)) ?_
                refine rg_done rfl ?_
                refine a_ret ?_
                show ∃ ds, ResL _ _ _ ds ∧ RV.of ds = _
                refine ⟨[.fl (.int .i64 0)], (.cons (.tmp rfl (.d _)) .nil), ?_⟩
                have hbd : hasB x.bands (ix x.rates j).band = true := by unfold hasB; simp only [h1, h3, h4, h6, h9, h10, h11, h13, h16, Bool.true_or, Bool.false_or, Bool.or_true, Bool.or_false, Bool.not_true, Bool.not_false, cond_true, cond_false, Bool.true_and, Bool.false_and, Bool.and_true, Bool.and_false] <;> rfl
                have hdr : dupR (x.rates.take j) (ix x.rates j) = false := dupR_no (by omega) (fun p h => hq p (by omega))
                have hb : rt1 (kn t) x.bands x.rates j = 0 := by unfold rt1; simp only [h1, h3, h4, h6, h9, h10, h11, h13, h16, hbd, hdr, Bool.true_or, Bool.false_or, Bool.or_true, Bool.or_false, Bool.not_true, Bool.not_false, cond_true, cond_false, Bool.true_and, Bool.false_and, Bool.and_true, Bool.and_false] <;> rfl
                rw [hb]; rfl
          · skip
            have h25 := t_dec h11
            refine rg_put (d := 42) (v := .d (.fl undef)) rfl (on rfl rfl rfl h11) ?_
            refine rg_put (d := 43) (v := .d (.fl undef)) rfl (on rfl rfl rfl h11) ?_
            refine rg_put (d := 44) (v := .d (.fl undef)) rfl (on rfl rfl rfl h11) ?_
            refine rg_put (d := 45) (v := .d (.fl (.bool true))) rfl (og rfl (op_pick rfl rfl (by rw [h11]; rfl) rfl)) ?_
            refine rg_done rfl ?_
            refine a_condK rfl rfl ?_
            refine a_rseq ?_
            refine rg_put (d := 6) (v := .d (.fl (.int .i64 13))) rfl (og rfl (op_assign rfl rfl rfl)) ?_
            refine rg_done rfl ?_
            refine a_ret ?_
            show ∃ ds, ResL _ _ _ ds ∧ RV.of ds = _
            refine ⟨[.fl (.int .i64 13)], (.cons (.tmp rfl (.d _)) .nil), ?_⟩
            have hbd : hasB x.bands (ix x.rates j).band = true := by unfold hasB; simp only [h1, h3, h4, h6, h9, h10, h11, Bool.true_or, Bool.false_or, Bool.or_true, Bool.or_false, Bool.not_true, Bool.not_false, cond_true, cond_false, Bool.true_and, Bool.false_and, Bool.and_true, Bool.and_false] <;> rfl
            have hb : rt1 (kn t) x.bands x.rates j = 13 := by unfold rt1; simp only [h1, h3, h4, h6, h9, h10, h11, hbd, Bool.true_or, Bool.false_or, Bool.or_true, Bool.or_false, Bool.not_true, Bool.not_false, cond_true, cond_false, Bool.true_and, Bool.false_and, Bool.and_true, Bool.and_false] <;> rfl
            rw [hb]; rfl
        · skip
          have h26 := t_not h9
          refine rg_put (d := 31) (v := .pt 101 2) rfl (oy rfl rfl rfl h9 (of_eff (s_field_pt rfl Try.underlying27 rfl ti24 rfl rfl rfl) rfl)) ?_
          refine rg_put (d := 32) (v := .d (.sl 4 (List.map eBd x.bands))) rfl (oy rfl rfl rfl h9 (op_load_pt rfl Try.underlying24 rfl rfl rfl rfl rfl)) ?_
          refine rg_put (d := 33) (v := .pt 103 3) rfl (oy rfl rfl rfl h9 (of_eff (s_field_pt rfl Try.underlying68 rfl ti9 rfl rfl rfl) rfl)) ?_
          refine rg_put (d := 34) (v := .d (.fl (.string ((ix x.rates j).band)))) rfl (oy rfl rfl rfl h9 (op_load_pt rfl Try.underlying9 rfl rfl rfl rfl rfl)) ?_
          refine rg_put (d := 35) (v := .d (.fl (.bool ((nmd x.bands ((ix x.rates j).band)))))) rfl (oy rfl rfl rfl h9 (op_call rfl Try.func37 nm37 rfl (.cons rfl (.d _) (.cons rfl (.d _) .nil)) (nmd_r x.bands ((ix x.rates j).band) (by omega)) rfl)) ?_
          refine rg_put (d := 36) (v := .d (.fl (.bool ((!((nmd x.bands ((ix x.rates j).band)))))))) rfl (oy rfl rfl rfl h9 (op_un rfl rfl (u_not _) rfl)) ?_
          refine rg_put (d := 37) (v := .d (.fl (.bool ((!((nmd x.bands ((ix x.rates j).band)))))))) rfl (og rfl (op_pick rfl rfl (by rw [h9]; rfl) rfl)) ?_
          refine rg_done rfl ?_
          refine a_cond rfl (fun h27 => ?_) (fun h27 => ?_)
          · skip
            have h28 := t_not h27
            refine a_rseq ?_
            refine rg_put (d := 6) (v := .d (.fl (.int .i64 10))) rfl (og rfl (op_assign rfl rfl rfl)) ?_
            refine rg_done rfl ?_
            refine a_ret ?_
            show ∃ ds, ResL _ _ _ ds ∧ RV.of ds = _
            refine ⟨[.fl (.int .i64 10)], (.cons (.tmp rfl (.d _)) .nil), ?_⟩
            have hbd : hasB x.bands (ix x.rates j).band = false := by unfold hasB; simp only [h1, h3, h4, h6, h9, h26, h27, h28, Bool.true_or, Bool.false_or, Bool.or_true, Bool.or_false, Bool.not_true, Bool.not_false, cond_true, cond_false, Bool.true_and, Bool.false_and, Bool.and_true, Bool.and_false] <;> rfl
            have hb : rt1 (kn t) x.bands x.rates j = 10 := by unfold rt1; simp only [h1, h3, h4, h6, h9, h26, h27, h28, hbd, Bool.true_or, Bool.false_or, Bool.or_true, Bool.or_false, Bool.not_true, Bool.not_false, cond_true, cond_false, Bool.true_and, Bool.false_and, Bool.and_true, Bool.and_false] <;> rfl
            rw [hb]; rfl
          · skip
            have h29 := f_not h27
            refine a_skip ?_
            show A _ _ _ _ _ _ _
            refine a_seq ?_
            refine a_rseq ?_
            refine rg_put (d := 38) (v := .pt 103 4) rfl (og rfl (of_eff (s_field_pt rfl Try.underlying68 rfl ti3 rfl rfl rfl) rfl)) ?_
            refine rg_put (d := 39) (v := .d (.fl (.int .i64 ((ix x.rates j).cents)))) rfl (og rfl (op_load_pt rfl Try.underlying3 rfl rfl rfl rfl rfl)) ?_
            refine rg_put (d := 40) (v := .d (.fl (.bool ((decide ((ix x.rates j).cents < 0)))))) rfl (og rfl (op_bin rfl rfl rfl (b_lss _ _ _ _) rfl)) ?_
            refine rg_put (d := 41) (v := .d (.fl (.bool ((decide ((ix x.rates j).cents < 0)))))) rfl (og rfl (op_move rfl rfl rfl)) ?_
            rcases fot ((decide ((ix x.rates j).cents < 0))) with h30 | h30
            · skip
              have h31 := f_dec h30
              refine rg_put (d := 42) (v := .pt 103 4) rfl (oy rfl rfl rfl h30 (of_eff (s_field_pt rfl Try.underlying68 rfl ti3 rfl rfl rfl) rfl)) ?_
              refine rg_put (d := 43) (v := .d (.fl (.int .i64 ((ix x.rates j).cents)))) rfl (oy rfl rfl rfl h30 (op_load_pt rfl Try.underlying3 rfl rfl rfl rfl rfl)) ?_
              refine rg_put (d := 44) (v := .d (.fl (.bool ((decide (1125899906842624 < (ix x.rates j).cents)))))) rfl (oy rfl rfl rfl h30 (op_bin rfl rfl rfl (b_gtr _ _ _ _) rfl)) ?_
              refine rg_put (d := 45) (v := .d (.fl (.bool ((decide (1125899906842624 < (ix x.rates j).cents)))))) rfl (og rfl (op_pick rfl rfl (by rw [h30]; rfl) rfl)) ?_
              refine rg_done rfl ?_
              refine a_cond rfl (fun h32 => ?_) (fun h32 => ?_)
              · skip
                have h33 := t_dec h32
                refine a_rseq ?_
                refine rg_put (d := 6) (v := .d (.fl (.int .i64 13))) rfl (og rfl (op_assign rfl rfl rfl)) ?_
                refine rg_done rfl ?_
                refine a_ret ?_
                show ∃ ds, ResL _ _ _ ds ∧ RV.of ds = _
                refine ⟨[.fl (.int .i64 13)], (.cons (.tmp rfl (.d _)) .nil), ?_⟩
                have hbd : hasB x.bands (ix x.rates j).band = true := by unfold hasB; simp only [h1, h3, h4, h6, h9, h26, h27, h29, h30, h32, Bool.true_or, Bool.false_or, Bool.or_true, Bool.or_false, Bool.not_true, Bool.not_false, cond_true, cond_false, Bool.true_and, Bool.false_and, Bool.and_true, Bool.and_false] <;> rfl
                have hb : rt1 (kn t) x.bands x.rates j = 13 := by unfold rt1; simp only [h1, h3, h4, h6, h9, h26, h27, h29, h30, h32, hbd, Bool.true_or, Bool.false_or, Bool.or_true, Bool.or_false, Bool.not_true, Bool.not_false, cond_true, cond_false, Bool.true_and, Bool.false_and, Bool.and_true, Bool.and_false] <;> rfl
                rw [hb]; rfl
              · skip
                have h34 := f_dec h32
                refine a_skip ?_
                show A _ _ _ _ _ _ _
                refine a_seq ?_
                refine a_rseq ?_
                refine rg_put (d := 8) (v := .d (.fl (.int .i64 0))) rfl (og rfl (op_assign rfl rfl rfl)) ?_
                refine rg_done rfl ?_
                refine a_block ?_
                refine a_loop (ι := Nat) (fun q => SS [(0, .d (.ag (eTa x))), (1, .d (.ag (eTpg t))), (2, .d (.fl (.int .i64 (j : Int)))), (3, .pt 101 0), (4, .pt 102 0), (7, .pt 103 0), (18, .d (.fl (.bool ((!((chg (kn t) (ix x.rates j)))))))), (26, .d (.fl (.bool ((decide (9 < (ix x.rates j).cls)))))), (37, .d (.fl (.bool ((!((nmd x.bands ((ix x.rates j).band)))))))), (45, .d (.fl (.bool ((decide (1125899906842624 < (ix x.rates j).cents)))))), (8, .d (.fl (.int .i64 (q : Int))))] [(101, .bx 27 (eTa x)), (102, .bx 34 (eTpg t)), (103, .bx 68 ((eRt (ix x.rates j))))]) (fun q => q ≤ j ∧ ∀ p, p < q → (((sEq (ix x.rates p).fr (ix x.rates j).fr && sEq (ix x.rates p).to (ix x.rates j).to) && ((ix x.rates p).cls == (ix x.rates j).cls)) && sEq (ix x.rates p).band (ix x.rates j).band) = false) (fun q => j - q) 0 (⟨by omega, fun q h => by omega⟩) (imp_forget rfl ⟨rfl, rfl, rfl, rfl, rfl, rfl, rfl, rfl, rfl, rfl, (by first | rfl | exact ci (by omega) | exact ci (by simp) | exact cd (by simp) | simp), trivial⟩ ⟨rfl, rfl, rfl, trivial⟩) (fun q hok => ?_)
                obtain ⟨hqj, hq⟩ := hok
                refine a_seq ?_
                refine a_rseq ?_
                refine rg_put (d := 46) (v := .d (.fl (.int .i64 (q : Int)))) rfl (og rfl (op_move rfl rfl rfl)) ?_
                refine rg_put (d := 47) (v := .d (.fl (.int .i64 (j : Int)))) rfl (og rfl (op_move rfl rfl rfl)) ?_
                refine rg_put (d := 48) (v := .d (.fl (.bool ((decide ((q : Int) < (j : Int))))))) rfl (og rfl (op_bin rfl rfl rfl (b_lss _ _ _ _) rfl)) ?_
                refine rg_done rfl ?_
                refine a_cond rfl (fun h35 => ?_) (fun h35 => ?_)
                · skip
                  have h36 := t_dec h35
                  refine a_skip ?_
                  show A _ _ _ _ _ _ _
                  refine a_seq ?_
                  refine a_block ?_
                  refine a_rseq ?_
                  refine rg_put (d := 51) (v := .pt 101 3) rfl (og rfl (of_eff (s_field_pt rfl Try.underlying27 rfl ti25 rfl rfl rfl) rfl)) ?_
                  refine rg_put (d := 52) (v := .d (.sl 5 (List.map eRt x.rates))) rfl (og rfl (op_load_pt rfl Try.underlying25 rfl rfl rfl rfl rfl)) ?_
                  refine rg_put (d := 53) (v := .d (.fl (.int .i64 (q : Int)))) rfl (og rfl (op_move rfl rfl rfl)) ?_
                  refine rg_put (d := 54) (v := .el ((eRt (ix x.rates q)))) rfl (og rfl (s_index rfl Try.underlying25 ti68 rfl rfl (by omega) (row_at (by omega)) rfl)) ?_
                  refine rg_put (d := 55) (v := .d (.ag (eRt (ix x.rates q)))) rfl (og rfl (of_eff (s_load_els rfl Try.underlying68 rfl ti68 rfl rfl rfl) rfl)) ?_
                  refine rg_nam (d := 9) (v := .pt 105 0) (m := 105) (nw := [(105, .bx 68 ([.fl (.string (⟨#[]⟩)), .fl (.string (⟨#[]⟩)), .fl (.int .i64 0), .fl (.string (⟨#[]⟩)), .fl (.int .i64 0)]))]) rfl (og rfl (of_eff (s_alloc 105 rfl ti68 (by kernel_rfl) rfl) rfl)) rfl ?_
                  refine rg_sto (nw := [(105, .bx 68 ((eRt (ix x.rates q))))]) rfl (og rfl (of_eff (s_store rfl rfl ti68 rfl rfl rfl rfl rfl rfl) rfl)) ?_
                  refine rg_done rfl ?_
                  refine a_rseq ?_
                  refine rg_put (d := 56) (v := .pt 105 0) rfl (og rfl (of_eff (s_field_pt rfl Try.underlying68 rfl ti9 rfl rfl rfl) rfl)) ?_
                  refine rg_put (d := 57) (v := .d (.fl (.string ((ix x.rates q).fr)))) rfl (og rfl (op_load_pt rfl Try.underlying9 rfl rfl rfl rfl rfl)) ?_
                  refine rg_put (d := 58) (v := .pt 103 0) rfl (og rfl (of_eff (s_field_pt rfl Try.underlying68 rfl ti9 rfl rfl rfl) rfl)) ?_
                  refine rg_put (d := 59) (v := .d (.fl (.string ((ix x.rates j).fr)))) rfl (og rfl (op_load_pt rfl Try.underlying9 rfl rfl rfl rfl rfl)) ?_
                  refine rg_put (d := 60) (v := .d (.fl (.bool ((sEq ((ix x.rates q).fr) ((ix x.rates j).fr)))))) rfl (og rfl (op_bin rfl rfl rfl (b_seq _ _ _) rfl)) ?_
                  refine rg_put (d := 61) (v := .d (.fl (.bool ((sEq ((ix x.rates q).fr) ((ix x.rates j).fr)))))) rfl (og rfl (op_move rfl rfl rfl)) ?_
                  rcases fot ((sEq ((ix x.rates q).fr) ((ix x.rates j).fr))) with h37 | h37
                  · skip
                    refine rg_put (d := 62) (v := .d (.fl undef)) rfl (on rfl rfl rfl h37) ?_
                    refine rg_put (d := 63) (v := .d (.fl undef)) rfl (on rfl rfl rfl h37) ?_
                    refine rg_put (d := 64) (v := .d (.fl undef)) rfl (on rfl rfl rfl h37) ?_
                    refine rg_put (d := 65) (v := .d (.fl undef)) rfl (on rfl rfl rfl h37) ?_
                    refine rg_put (d := 66) (v := .d (.fl undef)) rfl (on rfl rfl rfl h37) ?_
                    refine rg_put (d := 67) (v := .d (.fl (.bool false))) rfl (og rfl (op_pick rfl rfl (by rw [h37]; rfl) rfl)) ?_
                    refine rg_put (d := 68) (v := .d (.fl (.bool false))) rfl (og rfl (op_move rfl rfl rfl)) ?_
                    refine rg_put (d := 69) (v := .d (.fl undef)) rfl (on rfl rfl rfl rfl) ?_
                    refine rg_put (d := 70) (v := .d (.fl undef)) rfl (on rfl rfl rfl rfl) ?_
                    refine rg_put (d := 71) (v := .d (.fl undef)) rfl (on rfl rfl rfl rfl) ?_
                    refine rg_put (d := 72) (v := .d (.fl undef)) rfl (on rfl rfl rfl rfl) ?_
                    refine rg_put (d := 73) (v := .d (.fl undef)) rfl (on rfl rfl rfl rfl) ?_
                    refine rg_put (d := 74) (v := .d (.fl (.bool false))) rfl (og rfl (op_pick rfl rfl rfl rfl)) ?_
                    refine rg_put (d := 75) (v := .d (.fl (.bool false))) rfl (og rfl (op_move rfl rfl rfl)) ?_
                    refine rg_put (d := 76) (v := .d (.fl undef)) rfl (on rfl rfl rfl rfl) ?_
                    refine rg_put (d := 77) (v := .d (.fl undef)) rfl (on rfl rfl rfl rfl) ?_
                    refine rg_put (d := 78) (v := .d (.fl undef)) rfl (on rfl rfl rfl rfl) ?_
                    refine rg_put (d := 79) (v := .d (.fl undef)) rfl (on rfl rfl rfl rfl) ?_
                    refine rg_put (d := 80) (v := .d (.fl undef)) rfl (on rfl rfl rfl rfl) ?_
                    refine rg_put (d := 81) (v := .d (.fl (.bool false))) rfl (og rfl (op_pick rfl rfl rfl rfl)) ?_
                    refine rg_done rfl ?_
                    refine a_condF rfl rfl ?_
                    refine a_skip ?_
                    show A _ _ _ _ _ _ _
                    refine a_region ?_
                    refine rg_put (d := 49) (v := .d (.fl (.int .i64 (q : Int)))) rfl (og rfl (op_move rfl rfl rfl)) ?_
                    refine rg_put (d := 50) (v := .d (.fl (.int .i64 (((q : Int) + 1))))) rfl (og rfl (op_bin rfl rfl rfl (fun x y w => b_add64 _ _ _ x y w (by omega)) rfl)) ?_
                    refine rg_put (d := 8) (v := .d (.fl (.int .i64 (((q : Int) + 1))))) rfl (og rfl (op_assign rfl rfl rfl)) ?_
                    refine rg_done rfl ?_
                    have hx : (((sEq (ix x.rates q).fr (ix x.rates j).fr && sEq (ix x.rates q).to (ix x.rates j).to) && ((ix x.rates q).cls == (ix x.rates j).cls)) && sEq (ix x.rates q).band (ix x.rates j).band) = false := by simp only [h1, h3, h4, h6, h9, h26, h27, h29, h30, h32, h35, h37, Bool.true_or, Bool.false_or, Bool.or_true, Bool.or_false, Bool.not_true, Bool.not_false, cond_true, cond_false, Bool.true_and, Bool.false_and, Bool.and_true, Bool.and_false] <;> rfl
                    show ∃ i, _ ∧ _ ∧ Imp _ _ _ _ _
                    refine ⟨q + 1, ⟨by omega, fun q h => (Nat.lt_succ_iff_lt_or_eq.1 h).elim (hq q) (fun e => by rw [e]; exact hx)⟩, by omega, imp_forget rfl ⟨rfl, rfl, rfl, rfl, rfl, rfl, rfl, rfl, rfl, rfl, (by first | rfl | exact ci (by omega) | exact ci (by simp) | exact cd (by simp) | simp), trivial⟩ ⟨rfl, rfl, rfl, trivial⟩⟩
                  · skip
                    refine rg_put (d := 62) (v := .pt 105 1) rfl (oy rfl rfl rfl h37 (of_eff (s_field_pt rfl Try.underlying68 rfl ti9 rfl rfl rfl) rfl)) ?_
                    refine rg_put (d := 63) (v := .d (.fl (.string ((ix x.rates q).to)))) rfl (oy rfl rfl rfl h37 (op_load_pt rfl Try.underlying9 rfl rfl rfl rfl rfl)) ?_
                    refine rg_put (d := 64) (v := .pt 103 1) rfl (oy rfl rfl rfl h37 (of_eff (s_field_pt rfl Try.underlying68 rfl ti9 rfl rfl rfl) rfl)) ?_
                    refine rg_put (d := 65) (v := .d (.fl (.string ((ix x.rates j).to)))) rfl (oy rfl rfl rfl h37 (op_load_pt rfl Try.underlying9 rfl rfl rfl rfl rfl)) ?_
                    refine rg_put (d := 66) (v := .d (.fl (.bool ((sEq ((ix x.rates q).to) ((ix x.rates j).to)))))) rfl (oy rfl rfl rfl h37 (op_bin rfl rfl rfl (b_seq _ _ _) rfl)) ?_
                    refine rg_put (d := 67) (v := .d (.fl (.bool ((sEq ((ix x.rates q).to) ((ix x.rates j).to)))))) rfl (og rfl (op_pick rfl rfl (by rw [h37]; rfl) rfl)) ?_
                    refine rg_put (d := 68) (v := .d (.fl (.bool ((sEq ((ix x.rates q).to) ((ix x.rates j).to)))))) rfl (og rfl (op_move rfl rfl rfl)) ?_
                    rcases fot ((sEq ((ix x.rates q).to) ((ix x.rates j).to))) with h38 | h38
                    · skip
                      refine rg_put (d := 69) (v := .d (.fl undef)) rfl (on rfl rfl rfl h38) ?_
                      refine rg_put (d := 70) (v := .d (.fl undef)) rfl (on rfl rfl rfl h38) ?_
                      refine rg_put (d := 71) (v := .d (.fl undef)) rfl (on rfl rfl rfl h38) ?_
                      refine rg_put (d := 72) (v := .d (.fl undef)) rfl (on rfl rfl rfl h38) ?_
                      refine rg_put (d := 73) (v := .d (.fl undef)) rfl (on rfl rfl rfl h38) ?_
                      refine rg_put (d := 74) (v := .d (.fl (.bool false))) rfl (og rfl (op_pick rfl rfl (by rw [h38]; rfl) rfl)) ?_
                      refine rg_put (d := 75) (v := .d (.fl (.bool false))) rfl (og rfl (op_move rfl rfl rfl)) ?_
                      refine rg_put (d := 76) (v := .d (.fl undef)) rfl (on rfl rfl rfl rfl) ?_
                      refine rg_put (d := 77) (v := .d (.fl undef)) rfl (on rfl rfl rfl rfl) ?_
                      refine rg_put (d := 78) (v := .d (.fl undef)) rfl (on rfl rfl rfl rfl) ?_
                      refine rg_put (d := 79) (v := .d (.fl undef)) rfl (on rfl rfl rfl rfl) ?_
                      refine rg_put (d := 80) (v := .d (.fl undef)) rfl (on rfl rfl rfl rfl) ?_
                      refine rg_put (d := 81) (v := .d (.fl (.bool false))) rfl (og rfl (op_pick rfl rfl rfl rfl)) ?_
                      refine rg_done rfl ?_
                      refine a_condF rfl rfl ?_
                      refine a_skip ?_
                      show A _ _ _ _ _ _ _
                      refine a_region ?_
                      refine rg_put (d := 49) (v := .d (.fl (.int .i64 (q : Int)))) rfl (og rfl (op_move rfl rfl rfl)) ?_
                      refine rg_put (d := 50) (v := .d (.fl (.int .i64 (((q : Int) + 1))))) rfl (og rfl (op_bin rfl rfl rfl (fun x y w => b_add64 _ _ _ x y w (by omega)) rfl)) ?_
                      refine rg_put (d := 8) (v := .d (.fl (.int .i64 (((q : Int) + 1))))) rfl (og rfl (op_assign rfl rfl rfl)) ?_
                      refine rg_done rfl ?_
                      have hx : (((sEq (ix x.rates q).fr (ix x.rates j).fr && sEq (ix x.rates q).to (ix x.rates j).to) && ((ix x.rates q).cls == (ix x.rates j).cls)) && sEq (ix x.rates q).band (ix x.rates j).band) = false := by simp only [h1, h3, h4, h6, h9, h26, h27, h29, h30, h32, h35, h37, h38, Bool.true_or, Bool.false_or, Bool.or_true, Bool.or_false, Bool.not_true, Bool.not_false, cond_true, cond_false, Bool.true_and, Bool.false_and, Bool.and_true, Bool.and_false] <;> rfl
                      show ∃ i, _ ∧ _ ∧ Imp _ _ _ _ _
                      refine ⟨q + 1, ⟨by omega, fun q h => (Nat.lt_succ_iff_lt_or_eq.1 h).elim (hq q) (fun e => by rw [e]; exact hx)⟩, by omega, imp_forget rfl ⟨rfl, rfl, rfl, rfl, rfl, rfl, rfl, rfl, rfl, rfl, (by first | rfl | exact ci (by omega) | exact ci (by simp) | exact cd (by simp) | simp), trivial⟩ ⟨rfl, rfl, rfl, trivial⟩⟩
                    · skip
                      refine rg_put (d := 69) (v := .pt 105 2) rfl (oy rfl rfl rfl h38 (of_eff (s_field_pt rfl Try.underlying68 rfl ti3 rfl rfl rfl) rfl)) ?_
                      refine rg_put (d := 70) (v := .d (.fl (.int .i64 ((ix x.rates q).cls)))) rfl (oy rfl rfl rfl h38 (op_load_pt rfl Try.underlying3 rfl rfl rfl rfl rfl)) ?_
                      refine rg_put (d := 71) (v := .pt 103 2) rfl (oy rfl rfl rfl h38 (of_eff (s_field_pt rfl Try.underlying68 rfl ti3 rfl rfl rfl) rfl)) ?_
                      refine rg_put (d := 72) (v := .d (.fl (.int .i64 ((ix x.rates j).cls)))) rfl (oy rfl rfl rfl h38 (op_load_pt rfl Try.underlying3 rfl rfl rfl rfl rfl)) ?_
                      refine rg_put (d := 73) (v := .d (.fl (.bool (((ix x.rates q).cls == (ix x.rates j).cls))))) rfl (oy rfl rfl rfl h38 (op_bin rfl rfl rfl (b_eql _ _ _ _) rfl)) ?_
                      refine rg_put (d := 74) (v := .d (.fl (.bool (((ix x.rates q).cls == (ix x.rates j).cls))))) rfl (og rfl (op_pick rfl rfl (by rw [h38]; rfl) rfl)) ?_
                      refine rg_put (d := 75) (v := .d (.fl (.bool (((ix x.rates q).cls == (ix x.rates j).cls))))) rfl (og rfl (op_move rfl rfl rfl)) ?_
                      rcases fot (((ix x.rates q).cls == (ix x.rates j).cls)) with h39 | h39
                      · skip
                        have h40 := f_beq h39
                        refine rg_put (d := 76) (v := .d (.fl undef)) rfl (on rfl rfl rfl h39) ?_
                        refine rg_put (d := 77) (v := .d (.fl undef)) rfl (on rfl rfl rfl h39) ?_
                        refine rg_put (d := 78) (v := .d (.fl undef)) rfl (on rfl rfl rfl h39) ?_
                        refine rg_put (d := 79) (v := .d (.fl undef)) rfl (on rfl rfl rfl h39) ?_
                        refine rg_put (d := 80) (v := .d (.fl undef)) rfl (on rfl rfl rfl h39) ?_
                        refine rg_put (d := 81) (v := .d (.fl (.bool false))) rfl (og rfl (op_pick rfl rfl (by rw [h39]; rfl) rfl)) ?_
                        refine rg_done rfl ?_
                        refine a_condF rfl rfl ?_
                        refine a_skip ?_
                        show A _ _ _ _ _ _ _
                        refine a_region ?_
                        refine rg_put (d := 49) (v := .d (.fl (.int .i64 (q : Int)))) rfl (og rfl (op_move rfl rfl rfl)) ?_
                        refine rg_put (d := 50) (v := .d (.fl (.int .i64 (((q : Int) + 1))))) rfl (og rfl (op_bin rfl rfl rfl (fun x y w => b_add64 _ _ _ x y w (by omega)) rfl)) ?_
                        refine rg_put (d := 8) (v := .d (.fl (.int .i64 (((q : Int) + 1))))) rfl (og rfl (op_assign rfl rfl rfl)) ?_
                        refine rg_done rfl ?_
                        have hx : (((sEq (ix x.rates q).fr (ix x.rates j).fr && sEq (ix x.rates q).to (ix x.rates j).to) && ((ix x.rates q).cls == (ix x.rates j).cls)) && sEq (ix x.rates q).band (ix x.rates j).band) = false := by simp only [h1, h3, h4, h6, h9, h26, h27, h29, h30, h32, h35, h37, h38, h39, Bool.true_or, Bool.false_or, Bool.or_true, Bool.or_false, Bool.not_true, Bool.not_false, cond_true, cond_false, Bool.true_and, Bool.false_and, Bool.and_true, Bool.and_false] <;> rfl
                        show ∃ i, _ ∧ _ ∧ Imp _ _ _ _ _
                        refine ⟨q + 1, ⟨by omega, fun q h => (Nat.lt_succ_iff_lt_or_eq.1 h).elim (hq q) (fun e => by rw [e]; exact hx)⟩, by omega, imp_forget rfl ⟨rfl, rfl, rfl, rfl, rfl, rfl, rfl, rfl, rfl, rfl, (by first | rfl | exact ci (by omega) | exact ci (by simp) | exact cd (by simp) | simp), trivial⟩ ⟨rfl, rfl, rfl, trivial⟩⟩
                      · skip
                        have h41 := t_beq h39
                        refine rg_put (d := 76) (v := .pt 105 3) rfl (oy rfl rfl rfl h39 (of_eff (s_field_pt rfl Try.underlying68 rfl ti9 rfl rfl rfl) rfl)) ?_
                        refine rg_put (d := 77) (v := .d (.fl (.string ((ix x.rates q).band)))) rfl (oy rfl rfl rfl h39 (op_load_pt rfl Try.underlying9 rfl rfl rfl rfl rfl)) ?_
                        refine rg_put (d := 78) (v := .pt 103 3) rfl (oy rfl rfl rfl h39 (of_eff (s_field_pt rfl Try.underlying68 rfl ti9 rfl rfl rfl) rfl)) ?_
                        refine rg_put (d := 79) (v := .d (.fl (.string ((ix x.rates j).band)))) rfl (oy rfl rfl rfl h39 (op_load_pt rfl Try.underlying9 rfl rfl rfl rfl rfl)) ?_
                        refine rg_put (d := 80) (v := .d (.fl (.bool ((sEq ((ix x.rates q).band) ((ix x.rates j).band)))))) rfl (oy rfl rfl rfl h39 (op_bin rfl rfl rfl (b_seq _ _ _) rfl)) ?_
                        refine rg_put (d := 81) (v := .d (.fl (.bool ((sEq ((ix x.rates q).band) ((ix x.rates j).band)))))) rfl (og rfl (op_pick rfl rfl (by rw [h39]; rfl) rfl)) ?_
                        refine rg_done rfl ?_
                        refine a_cond rfl (fun h42 => ?_) (fun h42 => ?_)
                        · skip
                          refine a_rseq ?_
                          refine rg_put (d := 6) (v := .d (.fl (.int .i64 9))) rfl (og rfl (op_assign rfl rfl rfl)) ?_
                          refine rg_done rfl ?_
                          refine a_ret ?_
                          show ∃ ds, ResL _ _ _ ds ∧ RV.of ds = _
                          refine ⟨[.fl (.int .i64 9)], (.cons (.tmp rfl (.d _)) .nil), ?_⟩
                          have hbd : hasB x.bands (ix x.rates j).band = true := by unfold hasB; simp only [h1, h3, h4, h6, h9, h26, h27, h29, h30, h32, h35, h37, h38, h39, h42, Bool.true_or, Bool.false_or, Bool.or_true, Bool.or_false, Bool.not_true, Bool.not_false, cond_true, cond_false, Bool.true_and, Bool.false_and, Bool.and_true, Bool.and_false] <;> rfl
                          have hdr : dupR (x.rates.take j) (ix x.rates j) = true := dupR_yes (j := q) (by omega) (by omega) (by simp only [h1, h3, h4, h6, h9, h26, h27, h29, h30, h32, h35, h37, h38, h39, h42, Bool.true_or, Bool.false_or, Bool.or_true, Bool.or_false, Bool.not_true, Bool.not_false, cond_true, cond_false, Bool.true_and, Bool.false_and, Bool.and_true, Bool.and_false] <;> rfl)
                          have hb : rt1 (kn t) x.bands x.rates j = 9 := by unfold rt1; simp only [h1, h3, h4, h6, h9, h26, h27, h29, h30, h32, h35, h37, h38, h39, h42, hbd, hdr, Bool.true_or, Bool.false_or, Bool.or_true, Bool.or_false, Bool.not_true, Bool.not_false, cond_true, cond_false, Bool.true_and, Bool.false_and, Bool.and_true, Bool.and_false] <;> rfl
                          rw [hb]; rfl
                        · skip
                          refine a_skip ?_
                          show A _ _ _ _ _ _ _
                          refine a_region ?_
                          refine rg_put (d := 49) (v := .d (.fl (.int .i64 (q : Int)))) rfl (og rfl (op_move rfl rfl rfl)) ?_
                          refine rg_put (d := 50) (v := .d (.fl (.int .i64 (((q : Int) + 1))))) rfl (og rfl (op_bin rfl rfl rfl (fun x y w => b_add64 _ _ _ x y w (by omega)) rfl)) ?_
                          refine rg_put (d := 8) (v := .d (.fl (.int .i64 (((q : Int) + 1))))) rfl (og rfl (op_assign rfl rfl rfl)) ?_
                          refine rg_done rfl ?_
                          have hx : (((sEq (ix x.rates q).fr (ix x.rates j).fr && sEq (ix x.rates q).to (ix x.rates j).to) && ((ix x.rates q).cls == (ix x.rates j).cls)) && sEq (ix x.rates q).band (ix x.rates j).band) = false := by simp only [h1, h3, h4, h6, h9, h26, h27, h29, h30, h32, h35, h37, h38, h39, h42, Bool.true_or, Bool.false_or, Bool.or_true, Bool.or_false, Bool.not_true, Bool.not_false, cond_true, cond_false, Bool.true_and, Bool.false_and, Bool.and_true, Bool.and_false] <;> rfl
                          show ∃ i, _ ∧ _ ∧ Imp _ _ _ _ _
                          refine ⟨q + 1, ⟨by omega, fun q h => (Nat.lt_succ_iff_lt_or_eq.1 h).elim (hq q) (fun e => by rw [e]; exact hx)⟩, by omega, imp_forget rfl ⟨rfl, rfl, rfl, rfl, rfl, rfl, rfl, rfl, rfl, rfl, (by first | rfl | exact ci (by omega) | exact ci (by simp) | exact cd (by simp) | simp), trivial⟩ ⟨rfl, rfl, rfl, trivial⟩⟩
                · skip
                  have h43 := f_dec h35
                  refine a_exit ?_
                  show A _ _ _ _ _ _ _
                  refine a_rseq ?_
                  refine rg_put (d := 6) (v := .d (.fl (.int .i64 0))) rfl (og rfl (op_assign rfl rfl rfl)) ?_
                  refine rg_done rfl ?_
                  refine a_ret ?_
                  show ∃ ds, ResL _ _ _ ds ∧ RV.of ds = _
                  refine ⟨[.fl (.int .i64 0)], (.cons (.tmp rfl (.d _)) .nil), ?_⟩
                  have hbd : hasB x.bands (ix x.rates j).band = true := by unfold hasB; simp only [h1, h3, h4, h6, h9, h26, h27, h29, h30, h32, h35, Bool.true_or, Bool.false_or, Bool.or_true, Bool.or_false, Bool.not_true, Bool.not_false, cond_true, cond_false, Bool.true_and, Bool.false_and, Bool.and_true, Bool.and_false] <;> rfl
                  have hdr : dupR (x.rates.take j) (ix x.rates j) = false := dupR_no (by omega) (fun p h => hq p (by omega))
                  have hb : rt1 (kn t) x.bands x.rates j = 0 := by unfold rt1; simp only [h1, h3, h4, h6, h9, h26, h27, h29, h30, h32, h35, hbd, hdr, Bool.true_or, Bool.false_or, Bool.or_true, Bool.or_false, Bool.not_true, Bool.not_false, cond_true, cond_false, Bool.true_and, Bool.false_and, Bool.and_true, Bool.and_false] <;> rfl
                  rw [hb]; rfl
            · skip
              have h44 := t_dec h30
              refine rg_put (d := 42) (v := .d (.fl undef)) rfl (on rfl rfl rfl h30) ?_
              refine rg_put (d := 43) (v := .d (.fl undef)) rfl (on rfl rfl rfl h30) ?_
              refine rg_put (d := 44) (v := .d (.fl undef)) rfl (on rfl rfl rfl h30) ?_
              refine rg_put (d := 45) (v := .d (.fl (.bool true))) rfl (og rfl (op_pick rfl rfl (by rw [h30]; rfl) rfl)) ?_
              refine rg_done rfl ?_
              refine a_condK rfl rfl ?_
              refine a_rseq ?_
              refine rg_put (d := 6) (v := .d (.fl (.int .i64 13))) rfl (og rfl (op_assign rfl rfl rfl)) ?_
              refine rg_done rfl ?_
              refine a_ret ?_
              show ∃ ds, ResL _ _ _ ds ∧ RV.of ds = _
              refine ⟨[.fl (.int .i64 13)], (.cons (.tmp rfl (.d _)) .nil), ?_⟩
              have hbd : hasB x.bands (ix x.rates j).band = true := by unfold hasB; simp only [h1, h3, h4, h6, h9, h26, h27, h29, h30, Bool.true_or, Bool.false_or, Bool.or_true, Bool.or_false, Bool.not_true, Bool.not_false, cond_true, cond_false, Bool.true_and, Bool.false_and, Bool.and_true, Bool.and_false] <;> rfl
              have hb : rt1 (kn t) x.bands x.rates j = 13 := by unfold rt1; simp only [h1, h3, h4, h6, h9, h26, h27, h29, h30, hbd, Bool.true_or, Bool.false_or, Bool.or_true, Bool.or_false, Bool.not_true, Bool.not_false, cond_true, cond_false, Bool.true_and, Bool.false_and, Bool.and_true, Bool.and_false] <;> rfl
              rw [hb]; rfl
    · skip
      have h45 := t_dec h4
      refine rg_put (d := 23) (v := .d (.fl undef)) rfl (on rfl rfl rfl h4) ?_
      refine rg_put (d := 24) (v := .d (.fl undef)) rfl (on rfl rfl rfl h4) ?_
      refine rg_put (d := 25) (v := .d (.fl undef)) rfl (on rfl rfl rfl h4) ?_
      refine rg_put (d := 26) (v := .d (.fl (.bool true))) rfl (og rfl (op_pick rfl rfl (by rw [h4]; rfl) rfl)) ?_
      refine rg_done rfl ?_
      refine a_condK rfl rfl ?_
      refine a_rseq ?_
      refine rg_put (d := 6) (v := .d (.fl (.int .i64 20))) rfl (og rfl (op_assign rfl rfl rfl)) ?_
      refine rg_done rfl ?_
      refine a_ret ?_
      show ∃ ds, ResL _ _ _ ds ∧ RV.of ds = _
      refine ⟨[.fl (.int .i64 20)], (.cons (.tmp rfl (.d _)) .nil), ?_⟩
      have hb : rt1 (kn t) x.bands x.rates j = 20 := by unfold rt1; simp only [h1, h3, h4, Bool.true_or, Bool.false_or, Bool.or_true, Bool.or_false, Bool.not_true, Bool.not_false, cond_true, cond_false, Bool.true_and, Bool.false_and, Bool.and_true, Bool.and_false] <;> rfl
      rw [hb]; rfl
set_option maxHeartbeats 4000000 in
set_option maxRecDepth 100000 in
theorem tkR (x : Ta) (t : Tpg) : Ctr Try.prog 9 [.ag (eTa x), .ag (eTpg t)] (.d (.fl (.int .i64 (tk (kn t) x)))) := by
  refine ctr (n := 59) (rs := #[.tmp 4]) (L := [(0, .d (.ag (eTa x))), (1, .d (.ag (eTpg t)))]) Try.func9 rfl rfl rfl rfl rfl (fun w0 U0 => ?_)
  refine a_rseq ?_
  refine rg_nam (d := 2) (v := .pt 101 0) (m := 101) (nw := [(101, .bx 27 (eTa x))]) rfl (og rfl (of_eff (op_box 101 rfl rfl rfl rfl) rfl)) rfl ?_
  refine rg_nam (d := 3) (v := .pt 102 0) (m := 102) (nw := [(102, .bx 34 (eTpg t))]) rfl (og rfl (of_eff (op_box 102 rfl rfl rfl rfl) rfl)) rfl ?_
  refine rg_put (d := 4) (v := .d (.fl (.int .i64 0))) rfl (og rfl (op_assign rfl rfl rfl)) ?_
  refine rg_done rfl ?_
  refine a_seq ?_
  refine a_rseq ?_
  refine rg_put (d := 8) (v := .pt 101 0) rfl (og rfl (of_eff (s_field_pt rfl Try.underlying27 rfl ti23 rfl rfl rfl) rfl)) ?_
  refine rg_put (d := 9) (v := .d (.ag (eIv x.val))) rfl (og rfl (of_eff (s_load_pts rfl Try.underlying23 rfl ti23 rfl rfl rfl rfl) rfl)) ?_
  refine rg_put (d := 10) (v := .d (.fl (.bool (vI x.val)))) rfl (og rfl (op_call rfl Try.func18 nm18 rfl (.cons rfl (.d _) .nil) (vI_r x.val) rfl)) ?_
  refine rg_put (d := 11) (v := .d (.fl (.bool ((!(vI x.val)))))) rfl (og rfl (op_un rfl rfl (u_not _) rfl)) ?_
  refine rg_done rfl ?_
  refine a_cond rfl (fun h1 => ?_) (fun h1 => ?_)
  · skip
    have h2 := t_not h1
    refine a_rseq ?_
    refine rg_put (d := 4) (v := .d (.fl (.int .i64 12))) rfl (og rfl (op_assign rfl rfl rfl)) ?_
    refine rg_done rfl ?_
    refine a_ret ?_
    show ∃ ds, ResL _ _ _ ds ∧ RV.of ds = _
    refine ⟨[.fl (.int .i64 12)], (.cons (.tmp rfl (.d _)) .nil), ?_⟩
    rw [tk_v h2]; rfl
  · skip
    have h3 := f_not h1
    refine a_skip ?_
    show A _ _ _ _ _ _ _
    refine a_seq ?_
    refine a_rseq ?_
    refine rg_put (d := 12) (v := .pt 101 2) rfl (og rfl (of_eff (s_field_pt rfl Try.underlying27 rfl ti24 rfl rfl rfl) rfl)) ?_
    refine rg_put (d := 13) (v := .d (.sl 4 (List.map eBd x.bands))) rfl (og rfl (op_load_pt rfl Try.underlying24 rfl rfl rfl rfl rfl)) ?_
    refine rg_put (d := 14) (v := .d (.fl (.int .i64 (x.bands.length : Int)))) rfl (og rfl (s_len rfl Try.underlying24 rfl rfl)) ?_
    refine rg_put (d := 15) (v := .d (.fl (.bool ((decide (1024 < (x.bands.length : Int))))))) rfl (og rfl (op_bin rfl rfl rfl (b_gtr _ _ _ _) rfl)) ?_
    refine rg_put (d := 16) (v := .d (.fl (.bool ((decide (1024 < (x.bands.length : Int))))))) rfl (og rfl (op_move rfl rfl rfl)) ?_
    rcases fot ((decide (1024 < (x.bands.length : Int)))) with h4 | h4
    · skip
      have h5 := f_dec h4
      refine rg_put (d := 17) (v := .pt 101 3) rfl (oy rfl rfl rfl h4 (of_eff (s_field_pt rfl Try.underlying27 rfl ti25 rfl rfl rfl) rfl)) ?_
      refine rg_put (d := 18) (v := .d (.sl 5 (List.map eRt x.rates))) rfl (oy rfl rfl rfl h4 (op_load_pt rfl Try.underlying25 rfl rfl rfl rfl rfl)) ?_
      refine rg_put (d := 19) (v := .d (.fl (.int .i64 (x.rates.length : Int)))) rfl (oy rfl rfl rfl h4 (s_len rfl Try.underlying25 rfl rfl)) ?_
      refine rg_put (d := 20) (v := .d (.fl (.bool ((decide (1024 < (x.rates.length : Int))))))) rfl (oy rfl rfl rfl h4 (op_bin rfl rfl rfl (b_gtr _ _ _ _) rfl)) ?_
      refine rg_put (d := 21) (v := .d (.fl (.bool ((decide (1024 < (x.rates.length : Int))))))) rfl (og rfl (op_pick rfl rfl (by rw [h4]; rfl) rfl)) ?_
      refine rg_done rfl ?_
      refine a_cond rfl (fun h6 => ?_) (fun h6 => ?_)
      · skip
        have h7 := t_dec h6
        refine a_rseq ?_
        refine rg_put (d := 4) (v := .d (.fl (.int .i64 3))) rfl (og rfl (op_assign rfl rfl rfl)) ?_
        refine rg_done rfl ?_
        refine a_ret ?_
        show ∃ ds, ResL _ _ _ ds ∧ RV.of ds = _
        refine ⟨[.fl (.int .i64 3)], (.cons (.tmp rfl (.d _)) .nil), ?_⟩
        rw [tk_l h3 (by unfold tlim; simp only [h1, h3, h4, h6, Bool.true_or, Bool.false_or, Bool.or_true, Bool.or_false, Bool.not_true, Bool.not_false, cond_true, cond_false, Bool.true_and, Bool.false_and, Bool.and_true, Bool.and_false] <;> rfl)]; rfl
      · skip
        have h8 := f_dec h6
        refine a_skip ?_
        show A _ _ _ _ _ _ _
        refine a_seq ?_
        refine a_rseq ?_
        refine rg_put (d := 5) (v := .d (.fl (.int .i64 0))) rfl (og rfl (op_assign rfl rfl rfl)) ?_
        refine rg_done rfl ?_
        refine a_block ?_
        refine a_loop (ι := Nat) (fun k => SS [(0, .d (.ag (eTa x))), (1, .d (.ag (eTpg t))), (2, .pt 101 0), (3, .pt 102 0), (11, .d (.fl (.bool ((!(vI x.val)))))), (21, .d (.fl (.bool ((decide (1024 < (x.rates.length : Int))))))), (5, .d (.fl (.int .i64 (k : Int))))] [(101, .bx 27 (eTa x)), (102, .bx 34 (eTpg t))]) (fun k => k ≤ x.bands.length ∧ bnE x.bands = fe (bn1 x.bands) k (x.bands.length - k)) (fun k => x.bands.length - k) 0 (⟨by omega, rfl⟩) (imp_forget rfl ⟨rfl, rfl, rfl, rfl, rfl, rfl, (by first | rfl | exact ci (by omega) | exact ci (by simp) | exact cd (by simp) | simp), trivial⟩ ⟨rfl, rfl, trivial⟩) (fun k hok => ?_)
        obtain ⟨hk, hc⟩ := hok
        refine a_seq ?_
        refine a_rseq ?_
        refine rg_put (d := 22) (v := .d (.fl (.int .i64 (k : Int)))) rfl (og rfl (op_move rfl rfl rfl)) ?_
        refine rg_put (d := 23) (v := .pt 101 2) rfl (og rfl (of_eff (s_field_pt rfl Try.underlying27 rfl ti24 rfl rfl rfl) rfl)) ?_
        refine rg_put (d := 24) (v := .d (.sl 4 (List.map eBd x.bands))) rfl (og rfl (op_load_pt rfl Try.underlying24 rfl rfl rfl rfl rfl)) ?_
        refine rg_put (d := 25) (v := .d (.fl (.int .i64 (x.bands.length : Int)))) rfl (og rfl (s_len rfl Try.underlying24 rfl rfl)) ?_
        refine rg_put (d := 26) (v := .d (.fl (.bool ((decide ((k : Int) < (x.bands.length : Int))))))) rfl (og rfl (op_bin rfl rfl rfl (b_lss _ _ _ _) rfl)) ?_
        refine rg_done rfl ?_
        refine a_cond rfl (fun h9 => ?_) (fun h9 => ?_)
        · skip
          have h10 := t_dec h9
          refine a_skip ?_
          show A _ _ _ _ _ _ _
          refine a_seq ?_
          refine a_block ?_
          refine a_seq ?_
          refine a_rseq ?_
          refine rg_put (d := 29) (v := .pt 101 2) rfl (og rfl (of_eff (s_field_pt rfl Try.underlying27 rfl ti24 rfl rfl rfl) rfl)) ?_
          refine rg_put (d := 30) (v := .d (.sl 4 (List.map eBd x.bands))) rfl (og rfl (op_load_pt rfl Try.underlying24 rfl rfl rfl rfl rfl)) ?_
          refine rg_put (d := 31) (v := .d (.fl (.int .i64 (k : Int)))) rfl (og rfl (op_move rfl rfl rfl)) ?_
          refine rg_put (d := 32) (v := .el ((eBd (ix x.bands k)))) rfl (og rfl (s_index rfl Try.underlying24 ti59 rfl rfl (by omega) (row_at (by omega)) rfl)) ?_
          refine rg_put (d := 33) (v := .el ((List.drop 0 ((eBd (ix x.bands k)))))) rfl (og rfl (of_eff (s_field_el rfl Try.underlying59 rfl ti9 rfl rfl rfl) rfl)) ?_
          refine rg_put (d := 34) (v := .d (.fl (.string ((ix x.bands k).name)))) rfl (og rfl (op_load_el rfl Try.underlying9 rfl rfl rfl rfl)) ?_
          refine rg_put (d := 35) (v := .d (.fl (.bool ((Nm.nmB ((ix x.bands k).name)))))) rfl (og rfl (op_call rfl Try.func19 nm19 rfl (.cons rfl (.d _) .nil) (nmR ((ix x.bands k).name)) rfl)) ?_
          refine rg_put (d := 36) (v := .d (.fl (.bool ((!((Nm.nmB ((ix x.bands k).name)))))))) rfl (og rfl (op_un rfl rfl (u_not _) rfl)) ?_
          refine rg_done rfl ?_
          refine a_cond rfl (fun h11 => ?_) (fun h11 => ?_)
          · skip
            have h12 := t_not h11
            refine a_rseq ?_
            refine rg_put (d := 4) (v := .d (.fl (.int .i64 6))) rfl (og rfl (op_assign rfl rfl rfl)) ?_
            refine rg_done rfl ?_
            refine a_ret ?_
            show ∃ ds, ResL _ _ _ ds ∧ RV.of ds = _
            refine ⟨[.fl (.int .i64 6)], (.cons (.tmp rfl (.d _)) .nil), ?_⟩
            have hb : bn1 x.bands k = 6 := by unfold bn1; simp only [h1, h3, h4, h6, h9, h11, h12, Bool.true_or, Bool.false_or, Bool.or_true, Bool.or_false, Bool.not_true, Bool.not_false, cond_true, cond_false, Bool.true_and, Bool.false_and, Bool.and_true, Bool.and_false] <;> rfl
            rw [tk_b h3 (by unfold tlim; simp only [h1, h3, h4, h6, h9, h11, h12, Bool.true_or, Bool.false_or, Bool.or_true, Bool.or_false, Bool.not_true, Bool.not_false, cond_true, cond_false, Bool.true_and, Bool.false_and, Bool.and_true, Bool.and_false] <;> rfl) (show bnE x.bands = 6 from fe_yes (by omega) hc hb (by decide)) (by decide)]; rfl
          · skip
            have h13 := f_not h11
            refine a_skip ?_
            show A _ _ _ _ _ _ _
            refine a_rseq ?_
            refine rg_put (d := 37) (v := .pt 101 2) rfl (og rfl (of_eff (s_field_pt rfl Try.underlying27 rfl ti24 rfl rfl rfl) rfl)) ?_
            refine rg_put (d := 38) (v := .d (.sl 4 (List.map eBd x.bands))) rfl (og rfl (op_load_pt rfl Try.underlying24 rfl rfl rfl rfl rfl)) ?_
            refine rg_put (d := 39) (v := .d (.fl (.int .i64 (k : Int)))) rfl (og rfl (op_move rfl rfl rfl)) ?_
            refine rg_put (d := 40) (v := .el ((eBd (ix x.bands k)))) rfl (og rfl (s_index rfl Try.underlying24 ti59 rfl rfl (by omega) (row_at (by omega)) rfl)) ?_
            refine rg_put (d := 41) (v := .el ((List.drop 1 ((eBd (ix x.bands k)))))) rfl (og rfl (of_eff (s_field_el rfl Try.underlying59 rfl ti57 rfl rfl rfl) rfl)) ?_
            refine rg_put (d := 42) (v := .d (.ag (eWd ((ix x.bands k).win)))) rfl (og rfl (of_eff (s_load_els rfl Try.underlying57 rfl ti57 rfl rfl rfl) rfl)) ?_
            refine rg_put (d := 43) (v := .d (.fl (.bool ((vW ((ix x.bands k).win)))))) rfl (og rfl (op_call rfl Try.func20 nm20 rfl (.cons rfl (.d _) .nil) (vW33 ((ix x.bands k).win)) rfl)) ?_
            refine rg_put (d := 44) (v := .d (.fl (.bool ((!((vW ((ix x.bands k).win)))))))) rfl (og rfl (op_un rfl rfl (u_not _) rfl)) ?_
            refine rg_done rfl ?_
            refine a_cond rfl (fun h14 => ?_) (fun h14 => ?_)
            · skip
              have h15 := t_not h14
              refine a_rseq ?_
              refine rg_put (d := 4) (v := .d (.fl (.int .i64 1))) rfl (og rfl (op_assign rfl rfl rfl)) ?_
              refine rg_done rfl ?_
              refine a_ret ?_
              show ∃ ds, ResL _ _ _ ds ∧ RV.of ds = _
              refine ⟨[.fl (.int .i64 1)], (.cons (.tmp rfl (.d _)) .nil), ?_⟩
              have hb : bn1 x.bands k = 1 := by unfold bn1; simp only [h1, h3, h4, h6, h9, h11, h13, h14, h15, Bool.true_or, Bool.false_or, Bool.or_true, Bool.or_false, Bool.not_true, Bool.not_false, cond_true, cond_false, Bool.true_and, Bool.false_and, Bool.and_true, Bool.and_false] <;> rfl
              rw [tk_b h3 (by unfold tlim; simp only [h1, h3, h4, h6, h9, h11, h13, h14, h15, Bool.true_or, Bool.false_or, Bool.or_true, Bool.or_false, Bool.not_true, Bool.not_false, cond_true, cond_false, Bool.true_and, Bool.false_and, Bool.and_true, Bool.and_false] <;> rfl) (show bnE x.bands = 1 from fe_yes (by omega) hc hb (by decide)) (by decide)]; rfl
            · skip
              have h16 := f_not h14
              refine a_skip ?_
              show A _ _ _ _ _ _ _
              refine a_region ?_
              refine rg_put (d := 27) (v := .d (.fl (.int .i64 (k : Int)))) rfl (og rfl (op_move rfl rfl rfl)) ?_
              refine rg_put (d := 28) (v := .d (.fl (.int .i64 (((k : Int) + 1))))) rfl (og rfl (op_bin rfl rfl rfl (fun x y w => b_add64 _ _ _ x y w (by omega)) rfl)) ?_
              refine rg_put (d := 5) (v := .d (.fl (.int .i64 (((k : Int) + 1))))) rfl (og rfl (op_assign rfl rfl rfl)) ?_
              refine rg_done rfl ?_
              have hb : bn1 x.bands k = 0 := by unfold bn1; simp only [h1, h3, h4, h6, h9, h11, h13, h14, h16, Bool.true_or, Bool.false_or, Bool.or_true, Bool.or_false, Bool.not_true, Bool.not_false, cond_true, cond_false, Bool.true_and, Bool.false_and, Bool.and_true, Bool.and_false] <;> rfl
              show ∃ i, _ ∧ _ ∧ Imp _ _ _ _ _
              refine ⟨k + 1, ⟨by omega, fe_no (by omega) hc hb⟩, by omega, imp_forget rfl ⟨rfl, rfl, rfl, rfl, rfl, rfl, (by first | rfl | exact ci (by omega) | exact ci (by simp) | exact cd (by simp) | simp), trivial⟩ ⟨rfl, rfl, trivial⟩⟩
        · skip
          have h17 := f_dec h9
          refine a_exit ?_
          show A _ _ _ _ _ _ _
          refine a_seq ?_
          refine a_rseq ?_
          have hb0 : bnE x.bands = 0 := by rw [fe_end (by omega)] at hc; exact hc
          have hlim : tlim x = false := (by unfold tlim; simp only [h1, h3, h4, h6, h9, Bool.true_or, Bool.false_or, Bool.or_true, Bool.or_false, Bool.not_true, Bool.not_false, cond_true, cond_false, Bool.true_and, Bool.false_and, Bool.and_true, Bool.and_false] <;> rfl)
          refine rg_put (d := 6) (v := .d (.fl (.int .i64 0))) rfl (og rfl (op_assign rfl rfl rfl)) ?_
          refine rg_done rfl ?_
          refine a_block ?_
          refine a_loop (ι := Nat) (fun j => SS [(0, .d (.ag (eTa x))), (1, .d (.ag (eTpg t))), (2, .pt 101 0), (3, .pt 102 0), (5, .d (.fl (.int .i64 (k : Int)))), (11, .d (.fl (.bool ((!(vI x.val)))))), (21, .d (.fl (.bool ((decide (1024 < (x.rates.length : Int))))))), (26, .d (.fl (.bool ((decide ((k : Int) < (x.bands.length : Int))))))), (6, .d (.fl (.int .i64 (j : Int))))] [(101, .bx 27 (eTa x)), (102, .bx 34 (eTpg t))]) (fun j => j ≤ x.rates.length ∧ rtE (kn t) x.bands x.rates = fe (rt1 (kn t) x.bands x.rates) j (x.rates.length - j)) (fun j => x.rates.length - j) 0 (⟨by omega, rfl⟩) (imp_forget rfl ⟨rfl, rfl, rfl, rfl, rfl, rfl, rfl, rfl, (by first | rfl | exact ci (by omega) | exact ci (by simp) | exact cd (by simp) | simp), trivial⟩ ⟨rfl, rfl, trivial⟩) (fun j hok => ?_)
          obtain ⟨hk, hc⟩ := hok
          refine a_seq ?_
          refine a_rseq ?_
          refine rg_put (d := 45) (v := .d (.fl (.int .i64 (j : Int)))) rfl (og rfl (op_move rfl rfl rfl)) ?_
          refine rg_put (d := 46) (v := .pt 101 3) rfl (og rfl (of_eff (s_field_pt rfl Try.underlying27 rfl ti25 rfl rfl rfl) rfl)) ?_
          refine rg_put (d := 47) (v := .d (.sl 5 (List.map eRt x.rates))) rfl (og rfl (op_load_pt rfl Try.underlying25 rfl rfl rfl rfl rfl)) ?_
          refine rg_put (d := 48) (v := .d (.fl (.int .i64 (x.rates.length : Int)))) rfl (og rfl (s_len rfl Try.underlying25 rfl rfl)) ?_
          refine rg_put (d := 49) (v := .d (.fl (.bool ((decide ((j : Int) < (x.rates.length : Int))))))) rfl (og rfl (op_bin rfl rfl rfl (b_lss _ _ _ _) rfl)) ?_
          refine rg_done rfl ?_
          refine a_cond rfl (fun h18 => ?_) (fun h18 => ?_)
          · skip
            have h19 := t_dec h18
            refine a_skip ?_
            show A _ _ _ _ _ _ _
            refine a_seq ?_
            refine a_block ?_
            refine a_rseq ?_
            refine rg_put (d := 52) (v := .d (.ag (eTa x))) rfl (og rfl (of_eff (s_load_pts rfl Try.underlying27 rfl ti27 rfl rfl rfl rfl) rfl)) ?_
            refine rg_put (d := 53) (v := .d (.ag (eTpg t))) rfl (og rfl (of_eff (s_load_pts rfl Try.underlying34 rfl ti34 rfl rfl rfl rfl) rfl)) ?_
            refine rg_put (d := 54) (v := .d (.fl (.int .i64 (j : Int)))) rfl (og rfl (op_move rfl rfl rfl)) ?_
            refine rg_put (d := 55) (v := .d (.fl (.int .i64 ((rt1 (kn t) x.bands x.rates j))))) rfl (og rfl (op_call rfl Try.func21 nm21 rfl (.cons rfl (.d _) (.cons rfl (.d _) (.cons rfl (.d _) .nil))) (rate_r x t j (by omega) (by omega) (by omega)) rfl)) ?_
            refine rg_put (d := 7) (v := .d (.fl (.int .i64 ((rt1 (kn t) x.bands x.rates j))))) rfl (og rfl (op_assign rfl rfl rfl)) ?_
            refine rg_done rfl ?_
            refine a_rseq ?_
            refine rg_put (d := 56) (v := .d (.fl (.int .i64 ((rt1 (kn t) x.bands x.rates j))))) rfl (og rfl (op_move rfl rfl rfl)) ?_
            refine rg_put (d := 57) (v := .d (.fl (.bool (((rt1 (kn t) x.bands x.rates j) != 0))))) rfl (og rfl (op_bin rfl rfl rfl (b_neq _ _ _ _) rfl)) ?_
            refine rg_done rfl ?_
            refine a_cond rfl (fun h20 => ?_) (fun h20 => ?_)
            · skip
              have h21 := t_bne h20
              refine a_rseq ?_
              refine rg_put (d := 58) (v := .d (.fl (.int .i64 ((rt1 (kn t) x.bands x.rates j))))) rfl (og rfl (op_move rfl rfl rfl)) ?_
              refine rg_put (d := 4) (v := .d (.fl (.int .i64 ((rt1 (kn t) x.bands x.rates j))))) rfl (og rfl (op_assign rfl rfl rfl)) ?_
              refine rg_done rfl ?_
              refine a_ret ?_
              show ∃ ds, ResL _ _ _ ds ∧ RV.of ds = _
              refine ⟨[.fl (.int .i64 ((rt1 (kn t) x.bands x.rates j)))], (.cons (.tmp rfl (.d _)) .nil), ?_⟩
              rw [tk_r h3 hlim hb0, show rtE (kn t) x.bands x.rates = rt1 (kn t) x.bands x.rates j from fe_yes (by omega) hc rfl (t_bne h20)]; rfl
            · skip
              have h22 := f_bne h20
              refine a_skip ?_
              show A _ _ _ _ _ _ _
              refine a_region ?_
              refine rg_put (d := 50) (v := .d (.fl (.int .i64 (j : Int)))) rfl (og rfl (op_move rfl rfl rfl)) ?_
              refine rg_put (d := 51) (v := .d (.fl (.int .i64 (((j : Int) + 1))))) rfl (og rfl (op_bin rfl rfl rfl (fun x y w => b_add64 _ _ _ x y w (by omega)) rfl)) ?_
              refine rg_put (d := 6) (v := .d (.fl (.int .i64 (((j : Int) + 1))))) rfl (og rfl (op_assign rfl rfl rfl)) ?_
              refine rg_done rfl ?_
              have hb : rt1 (kn t) x.bands x.rates j = 0 := f_bne h20
              show ∃ i, _ ∧ _ ∧ Imp _ _ _ _ _
              refine ⟨j + 1, ⟨by omega, fe_no (by omega) hc hb⟩, by omega, imp_forget rfl ⟨rfl, rfl, rfl, rfl, rfl, rfl, rfl, rfl, (by first | rfl | exact ci (by omega) | exact ci (by simp) | exact cd (by simp) | simp), trivial⟩ ⟨rfl, rfl, trivial⟩⟩
          · skip
            have h23 := f_dec h18
            refine a_exit ?_
            show A _ _ _ _ _ _ _
            refine a_rseq ?_
            refine rg_put (d := 4) (v := .d (.fl (.int .i64 0))) rfl (og rfl (op_assign rfl rfl rfl)) ?_
            refine rg_done rfl ?_
            refine a_ret ?_
            show ∃ ds, ResL _ _ _ ds ∧ RV.of ds = _
            refine ⟨[.fl (.int .i64 0)], (.cons (.tmp rfl (.d _)) .nil), ?_⟩
            rw [tk_r h3 hlim hb0, show rtE (kn t) x.bands x.rates = 0 from by rw [fe_end (by omega)] at hc; exact hc]; rfl
    · skip
      have h24 := t_dec h4
      refine rg_put (d := 17) (v := .d (.fl undef)) rfl (on rfl rfl rfl h4) ?_
      refine rg_put (d := 18) (v := .d (.fl undef)) rfl (on rfl rfl rfl h4) ?_
      refine rg_put (d := 19) (v := .d (.fl undef)) rfl (on rfl rfl rfl h4) ?_
      refine rg_put (d := 20) (v := .d (.fl undef)) rfl (on rfl rfl rfl h4) ?_
      refine rg_put (d := 21) (v := .d (.fl (.bool true))) rfl (og rfl (op_pick rfl rfl (by rw [h4]; rfl) rfl)) ?_
      refine rg_done rfl ?_
      refine a_condK rfl rfl ?_
      refine a_rseq ?_
      refine rg_put (d := 4) (v := .d (.fl (.int .i64 3))) rfl (og rfl (op_assign rfl rfl rfl)) ?_
      refine rg_done rfl ?_
      refine a_ret ?_
      show ∃ ds, ResL _ _ _ ds ∧ RV.of ds = _
      refine ⟨[.fl (.int .i64 3)], (.cons (.tmp rfl (.d _)) .nil), ?_⟩
      rw [tk_l h3 (by unfold tlim; simp only [h1, h3, h4, Bool.true_or, Bool.false_or, Bool.or_true, Bool.or_false, Bool.not_true, Bool.not_false, cond_true, cond_false, Bool.true_and, Bool.false_and, Bool.and_true, Bool.and_false] <;> rfl)]; rfl
set_option maxHeartbeats 4000000 in
set_option maxRecDepth 100000 in
theorem al_c (l : List Ta) (t : Tpg) : Ctr Try.prog 12 [.sl 4 (List.map eTa l), .ag (eTpg t)] (.d (.fl (.int .i64 (al (kn t) l)))) := by
  refine ctr (n := 54) (rs := #[.tmp 4]) (L := [(0, .d (.sl 4 (List.map eTa l))), (1, .d (.ag (eTpg t)))]) Try.func12 rfl rfl rfl rfl rfl (fun w0 U0 => ?_)
  refine a_rseq ?_
  refine rg_nam (d := 3) (v := .pt 101 0) (m := 101) (nw := [(101, .bx 34 (eTpg t))]) rfl (og rfl (of_eff (op_box 101 rfl rfl rfl rfl) rfl)) rfl ?_
  refine rg_put (d := 4) (v := .d (.fl (.int .i64 0))) rfl (og rfl (op_assign rfl rfl rfl)) ?_
  refine rg_done rfl ?_
  refine a_seq ?_
  refine a_rseq ?_
  refine rg_put (d := 11) (v := .d (.sl 4 (List.map eTa l))) rfl (og rfl (op_move rfl rfl rfl)) ?_
  refine rg_put (d := 12) (v := .d (.fl (.int .i64 (l.length : Int)))) rfl (og rfl (s_len rfl Try.underlying42 rfl rfl)) ?_
  refine rg_put (d := 13) (v := .d (.fl (.bool ((decide (1024 < (l.length : Int))))))) rfl (og rfl (op_bin rfl rfl rfl (b_gtr _ _ _ _) rfl)) ?_
  refine rg_done rfl ?_
  refine a_cond rfl (fun h1 => ?_) (fun h1 => ?_)
  · skip
    have h2 := t_dec h1
    refine a_rseq ?_
    refine rg_put (d := 4) (v := .d (.fl (.int .i64 3))) rfl (og rfl (op_assign rfl rfl rfl)) ?_
    refine rg_done rfl ?_
    refine a_ret ?_
    show ∃ ds, ResL _ _ _ ds ∧ RV.of ds = _
    refine ⟨[.fl (.int .i64 3)], (.cons (.tmp rfl (.d _)) .nil), ?_⟩
    rw [al_l h1]; rfl
  · skip
    have h3 := f_dec h1
    refine a_skip ?_
    show A _ _ _ _ _ _ _
    refine a_rseq ?_
    refine rg_put (d := 14) (v := .d (.ag (eTpg t))) rfl (og rfl (of_eff (s_load_pts rfl Try.underlying34 rfl ti34 rfl rfl rfl rfl) rfl)) ?_
    refine rg_put (d := 15) (v := .d (.mp (setQ (kn t)))) rfl (og rfl (op_call rfl Try.func17 nm17 rfl (.cons rfl (.d _) .nil) (points_c t) rfl)) ?_
    refine rg_put (d := 5) (v := .d (.mp (setQ (kn t)))) rfl (og rfl (op_assign rfl rfl rfl)) ?_
    refine rg_done rfl ?_
    refine a_seq ?_
    refine a_rseq ?_
    refine rg_put (d := 16) (v := .d (.sl 4 (List.map eTa l))) rfl (og rfl (op_move rfl rfl rfl)) ?_
    refine rg_put (d := 17) (v := .d (.fl (.int .i64 (l.length : Int)))) rfl (og rfl (s_len rfl Try.underlying42 rfl rfl)) ?_
    refine rg_put (d := 18) (v := .d (.fl (.int .i64 0))) rfl (og rfl (op_move rfl rfl rfl)) ?_
    refine rg_done rfl ?_
    refine a_block ?_
    refine a_loop (ι := Nat) (fun k => SS [(0, .d (.sl 4 (List.map eTa l))), (1, .d (.ag (eTpg t))), (3, .pt 101 0), (5, .d (.mp (setQ (kn t)))), (13, .d (.fl (.bool ((decide (1024 < (l.length : Int))))))), (16, .d (.sl 4 (List.map eTa l))), (17, .d (.fl (.int .i64 (l.length : Int)))), (18, .d (.fl (.int .i64 (k : Int))))] [(101, .bx 34 (eTpg t))]) (fun k => k ≤ l.length ∧ alE (kn t) l = fe (al1 (kn t) l) k (l.length - k) ∧ ∀ q, q < k → al1 (kn t) l q = 0) (fun k => l.length - k) 0 (⟨by omega, rfl, fun q h => by omega⟩) (imp_forget rfl ⟨rfl, rfl, rfl, rfl, rfl, rfl, rfl, (by first | rfl | exact ci (by omega) | exact ci (by simp) | exact cd (by simp) | simp), trivial⟩ ⟨rfl, trivial⟩) (fun k hok => ?_)
    obtain ⟨hk, hc, hz⟩ := hok
    refine a_rseq ?_
    refine rg_put (d := 19) (v := .d (.fl (.bool ((decide ((k : Int) < (l.length : Int))))))) rfl (og rfl (op_bin rfl rfl rfl (b_lss _ _ _ _) rfl)) ?_
    refine rg_done rfl ?_
    refine a_seq ?_
    refine a_cond rfl (fun h4 => ?_) (fun h4 => ?_)
    · skip
      have h5 := t_dec h4
      refine a_skip ?_
      show A _ _ _ _ _ _ _
      refine a_seq ?_
      refine a_block ?_
      refine a_rseq ?_
      refine rg_put (d := 20) (v := .d (.fl (.int .i64 (k : Int)))) rfl (og rfl (op_move rfl rfl rfl)) ?_
      refine rg_put (d := 21) (v := .el ((eTa (ix l k)))) rfl (og rfl (s_index rfl Try.underlying42 ti27 rfl rfl (by omega) (row_at (by omega)) rfl)) ?_
      refine rg_put (d := 22) (v := .d (.ag (eTa (ix l k)))) rfl (og rfl (of_eff (s_load_els rfl Try.underlying27 rfl ti27 rfl rfl rfl) rfl)) ?_
      refine rg_nam (d := 7) (v := .pt 102 0) (m := 102) (nw := [(102, .bx 27 [.fl (.int .i64 0), .fl (.int .i64 0), .fl (.slice none 0 0), .fl (.slice none 0 0)])]) rfl (og rfl (of_eff (s_alloc 102 rfl ti27 (by kernel_rfl) rfl) rfl)) rfl ?_
      refine rg_put (d := 6) (v := .d (.fl (.int .i64 (k : Int)))) rfl (og rfl (op_assign rfl rfl rfl)) ?_
      refine rg_sto (nw := [(102, .bx 27 ((eTa (ix l k))))]) rfl (og rfl (of_eff (s_store rfl rfl ti27 rfl rfl rfl rfl rfl rfl) rfl)) ?_
      refine rg_done rfl ?_
      refine a_seq ?_
      refine a_rseq ?_
      refine rg_put (d := 23) (v := .d (.ag (eTa (ix l k)))) rfl (og rfl (of_eff (s_load_pts rfl Try.underlying27 rfl ti27 rfl rfl rfl rfl) rfl)) ?_
      refine rg_put (d := 24) (v := .d (.mp (setQ (kn t)))) rfl (og rfl (op_move rfl rfl rfl)) ?_
      refine rg_put (d := 25) (v := .d (.fl (.int .i64 ((tk (kn t) (ix l k)))))) rfl (og rfl (op_call rfl Try.func16 nm16 rfl (.cons rfl (.d _) (.cons rfl (.d _) .nil)) (tk_c (ix l k) (kn t)) rfl)) ?_
      refine rg_put (d := 8) (v := .d (.fl (.int .i64 ((tk (kn t) (ix l k)))))) rfl (og rfl (op_assign rfl rfl rfl)) ?_
      refine rg_done rfl ?_
      refine a_rseq ?_
      refine rg_put (d := 26) (v := .d (.fl (.int .i64 ((tk (kn t) (ix l k)))))) rfl (og rfl (op_move rfl rfl rfl)) ?_
      refine rg_put (d := 27) (v := .d (.fl (.bool (((tk (kn t) (ix l k)) != 0))))) rfl (og rfl (op_bin rfl rfl rfl (b_neq _ _ _ _) rfl)) ?_
      refine rg_done rfl ?_
      refine a_cond rfl (fun h6 => ?_) (fun h6 => ?_)
      · skip
        have h7 := t_bne h6
        refine a_rseq ?_
        refine rg_put (d := 28) (v := .d (.fl (.int .i64 ((tk (kn t) (ix l k)))))) rfl (og rfl (op_move rfl rfl rfl)) ?_
        refine rg_put (d := 4) (v := .d (.fl (.int .i64 ((tk (kn t) (ix l k)))))) rfl (og rfl (op_assign rfl rfl rfl)) ?_
        refine rg_done rfl ?_
        refine a_ret ?_
        show ∃ ds, ResL _ _ _ ds ∧ RV.of ds = _
        refine ⟨[.fl (.int .i64 ((tk (kn t) (ix l k))))], (.cons (.tmp rfl (.d _)) .nil), ?_⟩
        rw [al_e h1, show alE (kn t) l = (tk (kn t) (ix l k)) from (fe_yes (by omega) hc (al_tk h6) (t_bne h6))]; rfl
      · skip
        have h8 := f_bne h6
        refine a_skip ?_
        show A _ _ _ _ _ _ _
        refine a_rseq ?_
        refine rg_put (d := 29) (v := .d (.sl 4 (List.map eTa l))) rfl (og rfl (op_move rfl rfl rfl)) ?_
        refine rg_put (d := 30) (v := .d (.fl (.int .i64 (k : Int)))) rfl (og rfl (op_move rfl rfl rfl)) ?_
        refine rg_put (d := 31) (v := .d (.sl 4 (List.map eTa (((l.drop 0).take (k - 0)))))) rfl (og rfl (s_slice rfl Try.underlying42 ti27 rfl (.no _) (.so (n := k) _ rfl (by omega)) (by omega) (by omega) rfl)) ?_
        refine rg_put (d := 32) (v := .d (.fl (.int .i64 (((((l.drop 0).take (k - 0))).length : Int))))) rfl (og rfl (s_len rfl Try.underlying42 rfl rfl)) ?_
        refine rg_put (d := 33) (v := .d (.fl (.int .i64 0))) rfl (og rfl (op_move rfl rfl rfl)) ?_
        rw [show ((l.drop 0).take (k - 0)) = (l.take k) from (by rw [List.drop_zero, Nat.sub_zero])]
        have hlt : (l.take k).length = k := by rw [List.length_take]; omega
        refine rg_done rfl ?_
        refine a_block ?_
        refine a_loop (ι := Nat) (fun j => SS [(0, .d (.sl 4 (List.map eTa l))), (1, .d (.ag (eTpg t))), (3, .pt 101 0), (5, .d (.mp (setQ (kn t)))), (6, .d (.fl (.int .i64 (k : Int)))), (7, .pt 102 0), (8, .d (.fl (.int .i64 ((tk (kn t) (ix l k)))))), (13, .d (.fl (.bool ((decide (1024 < (l.length : Int))))))), (16, .d (.sl 4 (List.map eTa l))), (17, .d (.fl (.int .i64 (l.length : Int)))), (18, .d (.fl (.int .i64 (k : Int)))), (19, .d (.fl (.bool ((decide ((k : Int) < (l.length : Int))))))), (27, .d (.fl (.bool (((tk (kn t) (ix l k)) != 0))))), (31, .d (.sl 4 (List.map eTa (l.take k)))), (32, .d (.fl (.int .i64 ((((l.take k)).length : Int))))), (33, .d (.fl (.int .i64 (j : Int))))] [(101, .bx 34 (eTpg t)), (102, .bx 27 ((eTa (ix l k))))]) (fun j => j ≤ k ∧ ∀ q, q < j → (ov (ix l k).val (ix l q).val) = false) (fun j => k - j) 0 (⟨by omega, fun q h => by omega⟩) (imp_forget rfl ⟨rfl, rfl, rfl, rfl, rfl, rfl, rfl, rfl, rfl, rfl, rfl, rfl, rfl, rfl, rfl, (by first | rfl | exact ci (by omega) | exact ci (by simp) | exact cd (by simp) | simp), trivial⟩ ⟨rfl, rfl, trivial⟩) (fun j hok => ?_)
        obtain ⟨hj, hq⟩ := hok
        refine a_rseq ?_
        refine rg_put (d := 34) (v := .d (.fl (.bool ((decide ((j : Int) < (((l.take k)).length : Int))))))) rfl (og rfl (op_bin rfl rfl rfl (b_lss _ _ _ _) rfl)) ?_
        refine rg_done rfl ?_
        refine a_seq ?_
        refine a_cond rfl (fun h9 => ?_) (fun h9 => ?_)
        · skip
          have h10 := t_dec h9
          refine a_skip ?_
          show A _ _ _ _ _ _ _
          refine a_seq ?_
          refine a_block ?_
          refine a_rseq ?_
          refine rg_put (d := 35) (v := .el ((eTa ((ix (l.take k) j))))) rfl (og rfl (s_index rfl Try.underlying42 ti27 rfl rfl (by omega) (row_at (by omega)) rfl)) ?_
          refine rg_put (d := 36) (v := .d (.ag (eTa (((ix (l.take k) j)))))) rfl (og rfl (of_eff (s_load_els rfl Try.underlying27 rfl ti27 rfl rfl rfl) rfl)) ?_
          refine rg_nam (d := 10) (v := .pt 103 0) (m := 103) (nw := [(103, .bx 27 [.fl (.int .i64 0), .fl (.int .i64 0), .fl (.slice none 0 0), .fl (.slice none 0 0)])]) rfl (og rfl (of_eff (s_alloc 103 rfl ti27 (by kernel_rfl) rfl) rfl)) rfl ?_
          refine rg_sto (nw := [(103, .bx 27 ((eTa (((ix (l.take k) j))))))]) rfl (og rfl (of_eff (s_store rfl rfl ti27 rfl rfl rfl rfl rfl rfl) rfl)) ?_
          rw [show (ix (l.take k) j) = (ix l j) from (take_ix' (by omega))]
          refine rg_done rfl ?_
          refine a_rseq ?_
          refine rg_put (d := 37) (v := .pt 102 0) rfl (og rfl (of_eff (s_field_pt rfl Try.underlying27 rfl ti23 rfl rfl rfl) rfl)) ?_
          refine rg_put (d := 38) (v := .pt 102 0) rfl (og rfl (of_eff (s_field_pt rfl Try.underlying23 rfl ti3 rfl rfl rfl) rfl)) ?_
          refine rg_put (d := 39) (v := .d (.fl (.int .i64 (((ix l k).val).fr)))) rfl (og rfl (op_load_pt rfl Try.underlying3 rfl rfl rfl rfl rfl)) ?_
          refine rg_put (d := 40) (v := .pt 103 0) rfl (og rfl (of_eff (s_field_pt rfl Try.underlying27 rfl ti23 rfl rfl rfl) rfl)) ?_
          refine rg_put (d := 41) (v := .pt 103 0) rfl (og rfl (of_eff (s_field_pt rfl Try.underlying23 rfl ti3 rfl rfl rfl) rfl)) ?_
          refine rg_put (d := 42) (v := .d (.fl (.int .i64 (((((ix l j))).val).fr)))) rfl (og rfl (op_load_pt rfl Try.underlying3 rfl rfl rfl rfl rfl)) ?_
          refine rg_put (d := 43) (v := .d (.fl (.int .i64 ((max (((ix l k).val).fr) (((((ix l j))).val).fr)))))) rfl (og rfl (op_max rfl rfl rfl rfl)) ?_
          refine rg_put (d := 44) (v := .pt 102 0) rfl (og rfl (of_eff (s_field_pt rfl Try.underlying27 rfl ti23 rfl rfl rfl) rfl)) ?_
          refine rg_put (d := 45) (v := .pt 102 1) rfl (og rfl (of_eff (s_field_pt rfl Try.underlying23 rfl ti3 rfl rfl rfl) rfl)) ?_
          refine rg_put (d := 46) (v := .d (.fl (.int .i64 (((ix l k).val).to)))) rfl (og rfl (op_load_pt rfl Try.underlying3 rfl rfl rfl rfl rfl)) ?_
          refine rg_put (d := 47) (v := .pt 103 0) rfl (og rfl (of_eff (s_field_pt rfl Try.underlying27 rfl ti23 rfl rfl rfl) rfl)) ?_
          refine rg_put (d := 48) (v := .pt 103 1) rfl (og rfl (of_eff (s_field_pt rfl Try.underlying23 rfl ti3 rfl rfl rfl) rfl)) ?_
          refine rg_put (d := 49) (v := .d (.fl (.int .i64 (((((ix l j))).val).to)))) rfl (og rfl (op_load_pt rfl Try.underlying3 rfl rfl rfl rfl rfl)) ?_
          refine rg_put (d := 50) (v := .d (.fl (.int .i64 ((min (((ix l k).val).to) (((((ix l j))).val).to)))))) rfl (og rfl (op_min rfl rfl rfl rfl)) ?_
          refine rg_put (d := 51) (v := .d (.fl (.bool ((decide ((max (((ix l k).val).fr) (((((ix l j))).val).fr)) < (min (((ix l k).val).to) (((((ix l j))).val).to)))))))) rfl (og rfl (op_bin rfl rfl rfl (b_lss _ _ _ _) rfl)) ?_
          refine rg_done rfl ?_
          refine a_cond rfl (fun h11 => ?_) (fun h11 => ?_)
          · skip
            have h12 := t_dec h11
            refine a_rseq ?_
            refine rg_put (d := 4) (v := .d (.fl (.int .i64 12))) rfl (og rfl (op_assign rfl rfl rfl)) ?_
            refine rg_done rfl ?_
            refine a_ret ?_
            show ∃ ds, ResL _ _ _ ds ∧ RV.of ds = _
            refine ⟨[.fl (.int .i64 12)], (.cons (.tmp rfl (.d _)) .nil), ?_⟩
            have hov : (ov (ix l k).val (ix l j).val) = true := h11
            rw [al_e h1, show alE (kn t) l = 12 from (fe_yes (by omega) hc (al_ov h6 (ovl_yes (by omega) (by omega) hov)) (by decide))]; rfl
          · skip
            have h13 := f_dec h11
            refine a_skip ?_
            show A _ _ _ _ _ _ _
            refine a_region ?_
            refine rg_put (d := 52) (v := .d (.fl (.int .i64 (((j : Int) + 1))))) rfl (og rfl (op_bin rfl rfl rfl (fun x y w => b_add64 _ _ _ x y w (by omega)) rfl)) ?_
            refine rg_put (d := 33) (v := .d (.fl (.int .i64 (((j : Int) + 1))))) rfl (og rfl (op_move rfl rfl rfl)) ?_
            refine rg_done rfl ?_
            have hx : (ov (ix l k).val (ix l j).val) = false := h11
            show ∃ i, _ ∧ _ ∧ Imp _ _ _ _ _
            refine ⟨j + 1, ⟨by omega, fun q h => (Nat.lt_succ_iff_lt_or_eq.1 h).elim (hq q) (fun e => by rw [e]; exact hx)⟩, by omega, imp_forget rfl ⟨rfl, rfl, rfl, rfl, rfl, rfl, rfl, rfl, rfl, rfl, rfl, rfl, rfl, rfl, rfl, (by first | rfl | exact ci (by omega) | exact ci (by simp) | exact cd (by simp) | simp), trivial⟩ ⟨rfl, rfl, trivial⟩⟩
        · skip
          have h14 := f_dec h9
          refine a_exit ?_
          show A _ _ _ _ _ _ _
          refine a_region ?_
          refine rg_put (d := 53) (v := .d (.fl (.int .i64 (((k : Int) + 1))))) rfl (og rfl (op_bin rfl rfl rfl (fun x y w => b_add64 _ _ _ x y w (by omega)) rfl)) ?_
          refine rg_put (d := 18) (v := .d (.fl (.int .i64 (((k : Int) + 1))))) rfl (og rfl (op_move rfl rfl rfl)) ?_
          refine rg_done rfl ?_
          have hb : al1 (kn t) l k = 0 := al_0 h6 (ovl_no (by omega) (fun q h => hq q (by omega)))
          show ∃ i, _ ∧ _ ∧ Imp _ _ _ _ _
          refine ⟨k + 1, ⟨by omega, fe_no (by omega) hc hb, fun q h => (Nat.lt_succ_iff_lt_or_eq.1 h).elim (hz q) (fun e => by rw [e]; exact hb)⟩, by omega, imp_forget rfl ⟨rfl, rfl, rfl, rfl, rfl, rfl, rfl, (by first | rfl | exact ci (by omega) | exact ci (by simp) | exact cd (by simp) | simp), trivial⟩ ⟨rfl, trivial⟩⟩
    · skip
      have h15 := f_dec h4
      refine a_exit ?_
      show A _ _ _ _ _ _ _
      refine a_rseq ?_
      refine rg_put (d := 4) (v := .d (.fl (.int .i64 0))) rfl (og rfl (op_assign rfl rfl rfl)) ?_
      refine rg_done rfl ?_
      refine a_ret ?_
      show ∃ ds, ResL _ _ _ ds ∧ RV.of ds = _
      refine ⟨[.fl (.int .i64 0)], (.cons (.tmp rfl (.d _)) .nil), ?_⟩
      rw [al_e h1, show alE (kn t) l = 0 from by rw [fe_end (by omega)] at hc; exact hc]; rfl
set_option maxHeartbeats 4000000 in
set_option maxRecDepth 100000 in
theorem al_r (l : List Ta) (t : Tpg) : Ctr Try.prog 13 [.sl 4 (List.map eTa l), .ag (eTpg t)] (.d (.fl (.int .i64 (al (kn t) l)))) := by
  refine ctr (n := 59) (rs := #[.tmp 4]) (L := [(0, .d (.sl 4 (List.map eTa l))), (1, .d (.ag (eTpg t)))]) Try.func13 rfl rfl rfl rfl rfl (fun w0 U0 => ?_)
  refine a_rseq ?_
  refine rg_nam (d := 3) (v := .pt 101 0) (m := 101) (nw := [(101, .bx 34 (eTpg t))]) rfl (og rfl (of_eff (op_box 101 rfl rfl rfl rfl) rfl)) rfl ?_
  refine rg_put (d := 4) (v := .d (.fl (.int .i64 0))) rfl (og rfl (op_assign rfl rfl rfl)) ?_
  refine rg_done rfl ?_
  refine a_seq ?_
  refine a_rseq ?_
  refine rg_put (d := 8) (v := .d (.sl 4 (List.map eTa l))) rfl (og rfl (op_move rfl rfl rfl)) ?_
  refine rg_put (d := 9) (v := .d (.fl (.int .i64 (l.length : Int)))) rfl (og rfl (s_len rfl Try.underlying42 rfl rfl)) ?_
  refine rg_put (d := 10) (v := .d (.fl (.bool ((decide (1024 < (l.length : Int))))))) rfl (og rfl (op_bin rfl rfl rfl (b_gtr _ _ _ _) rfl)) ?_
  refine rg_done rfl ?_
  refine a_cond rfl (fun h1 => ?_) (fun h1 => ?_)
  · skip
    have h2 := t_dec h1
    refine a_rseq ?_
    refine rg_put (d := 4) (v := .d (.fl (.int .i64 3))) rfl (og rfl (op_assign rfl rfl rfl)) ?_
    refine rg_done rfl ?_
    refine a_ret ?_
    show ∃ ds, ResL _ _ _ ds ∧ RV.of ds = _
    refine ⟨[.fl (.int .i64 3)], (.cons (.tmp rfl (.d _)) .nil), ?_⟩
    rw [al_l h1]; rfl
  · skip
    have h3 := f_dec h1
    refine a_skip ?_
    show A _ _ _ _ _ _ _
    refine a_seq ?_
    refine a_rseq ?_
    refine rg_put (d := 5) (v := .d (.fl (.int .i64 0))) rfl (og rfl (op_assign rfl rfl rfl)) ?_
    refine rg_done rfl ?_
    refine a_block ?_
    refine a_loop (ι := Nat) (fun k => SS [(0, .d (.sl 4 (List.map eTa l))), (1, .d (.ag (eTpg t))), (3, .pt 101 0), (10, .d (.fl (.bool ((decide (1024 < (l.length : Int))))))), (5, .d (.fl (.int .i64 (k : Int))))] [(101, .bx 34 (eTpg t))]) (fun k => k ≤ l.length ∧ alE (kn t) l = fe (al1 (kn t) l) k (l.length - k) ∧ ∀ q, q < k → al1 (kn t) l q = 0) (fun k => l.length - k) 0 (⟨by omega, rfl, fun q h => by omega⟩) (imp_forget rfl ⟨rfl, rfl, rfl, rfl, (by first | rfl | exact ci (by omega) | exact ci (by simp) | exact cd (by simp) | simp), trivial⟩ ⟨rfl, trivial⟩) (fun k hok => ?_)
    obtain ⟨hk, hc, hz⟩ := hok
    refine a_seq ?_
    refine a_rseq ?_
    refine rg_put (d := 11) (v := .d (.fl (.int .i64 (k : Int)))) rfl (og rfl (op_move rfl rfl rfl)) ?_
    refine rg_put (d := 12) (v := .d (.sl 4 (List.map eTa l))) rfl (og rfl (op_move rfl rfl rfl)) ?_
    refine rg_put (d := 13) (v := .d (.fl (.int .i64 (l.length : Int)))) rfl (og rfl (s_len rfl Try.underlying42 rfl rfl)) ?_
    refine rg_put (d := 14) (v := .d (.fl (.bool ((decide ((k : Int) < (l.length : Int))))))) rfl (og rfl (op_bin rfl rfl rfl (b_lss _ _ _ _) rfl)) ?_
    refine rg_done rfl ?_
    refine a_cond rfl (fun h4 => ?_) (fun h4 => ?_)
    · skip
      have h5 := t_dec h4
      refine a_skip ?_
      show A _ _ _ _ _ _ _
      refine a_seq ?_
      refine a_block ?_
      refine a_seq ?_
      refine a_dseq (by kernel_rfl) ?_
      refine dr_put (d := 17) (v := .d (.sl 4 (List.map eTa l))) rfl (og rfl (op_move rfl rfl rfl)) ?_
      refine dr_put (d := 18) (v := .d (.fl (.int .i64 (k : Int)))) rfl (og rfl (op_move rfl rfl rfl)) ?_
      refine dr_put (d := 19) (v := .el ((eTa (ix l k)))) rfl (og rfl (s_index rfl Try.underlying42 ti27 rfl rfl (by omega) (row_at (by omega)) rfl)) ?_
      refine dr_put (d := 20) (v := .d (.ag (eTa (ix l k)))) rfl (og rfl (of_eff (s_load_els rfl Try.underlying27 rfl ti27 rfl rfl rfl) rfl)) ?_
      refine dr_put (d := 21) (v := .d (.ag (eTpg t))) rfl (og rfl (of_eff (s_load_pts rfl Try.underlying34 rfl ti34 rfl rfl rfl rfl) rfl)) ?_
      refine dr_put (d := 22) (v := .d (.fl (.int .i64 ((tk (kn t) (ix l k)))))) rfl (og rfl (op_call rfl Try.func9 nm9 rfl (.cons rfl (.d _) (.cons rfl (.d _) .nil)) (tkR (ix l k) t) rfl)) ?_
      refine dr_put (d := 6) (v := .d (.fl (.int .i64 ((tk (kn t) (ix l k)))))) rfl (og rfl (op_assign rfl rfl rfl)) ?_
      refine dr_done rfl (by kernel_rfl) (by kernel_rfl) ?_
      refine a_rseq ?_
      refine rg_put (d := 23) (v := .d (.fl (.int .i64 ((tk (kn t) (ix l k)))))) rfl (og rfl (op_move rfl rfl rfl)) ?_
      refine rg_put (d := 24) (v := .d (.fl (.bool (((tk (kn t) (ix l k)) != 0))))) rfl (og rfl (op_bin rfl rfl rfl (b_neq _ _ _ _) rfl)) ?_
      refine rg_done rfl ?_
      refine a_cond rfl (fun h6 => ?_) (fun h6 => ?_)
      · skip
        have h7 := t_bne h6
        refine a_rseq ?_
        refine rg_put (d := 25) (v := .d (.fl (.int .i64 ((tk (kn t) (ix l k)))))) rfl (og rfl (op_move rfl rfl rfl)) ?_
        refine rg_put (d := 4) (v := .d (.fl (.int .i64 ((tk (kn t) (ix l k)))))) rfl (og rfl (op_assign rfl rfl rfl)) ?_
        refine rg_done rfl ?_
        refine a_ret ?_
        show ∃ ds, ResL _ _ _ ds ∧ RV.of ds = _
        refine ⟨[.fl (.int .i64 ((tk (kn t) (ix l k))))], (.cons (.tmp rfl (.d _)) .nil), ?_⟩
        rw [al_e h1, show alE (kn t) l = (tk (kn t) (ix l k)) from (fe_yes (by omega) hc (al_tk h6) (t_bne h6))]; rfl
      · skip
        have h8 := f_bne h6
        refine a_skip ?_
        show A _ _ _ _ _ _ _
        refine a_rseq ?_
        refine rg_put (d := 7) (v := .d (.fl (.int .i64 0))) rfl (og rfl (op_assign rfl rfl rfl)) ?_
        refine rg_done rfl ?_
        refine a_block ?_
        refine a_loop (ι := Nat) (fun j => SS [(0, .d (.sl 4 (List.map eTa l))), (1, .d (.ag (eTpg t))), (3, .pt 101 0), (5, .d (.fl (.int .i64 (k : Int)))), (6, .d (.fl (.int .i64 ((tk (kn t) (ix l k)))))), (10, .d (.fl (.bool ((decide (1024 < (l.length : Int))))))), (14, .d (.fl (.bool ((decide ((k : Int) < (l.length : Int))))))), (24, .d (.fl (.bool (((tk (kn t) (ix l k)) != 0))))), (7, .d (.fl (.int .i64 (j : Int))))] [(101, .bx 34 (eTpg t))]) (fun j => j ≤ k ∧ ∀ q, q < j → (ov (ix l k).val (ix l q).val) = false) (fun j => k - j) 0 (⟨by omega, fun q h => by omega⟩) (imp_forget rfl ⟨rfl, rfl, rfl, rfl, rfl, rfl, rfl, rfl, (by first | rfl | exact ci (by omega) | exact ci (by simp) | exact cd (by simp) | simp), trivial⟩ ⟨rfl, trivial⟩) (fun j hok => ?_)
        obtain ⟨hj, hq⟩ := hok
        refine a_seq ?_
        refine a_rseq ?_
        refine rg_put (d := 26) (v := .d (.fl (.int .i64 (j : Int)))) rfl (og rfl (op_move rfl rfl rfl)) ?_
        refine rg_put (d := 27) (v := .d (.fl (.int .i64 (k : Int)))) rfl (og rfl (op_move rfl rfl rfl)) ?_
        refine rg_put (d := 28) (v := .d (.fl (.bool ((decide ((j : Int) < (k : Int))))))) rfl (og rfl (op_bin rfl rfl rfl (b_lss _ _ _ _) rfl)) ?_
        refine rg_done rfl ?_
        refine a_cond rfl (fun h9 => ?_) (fun h9 => ?_)
        · skip
          have h10 := t_dec h9
          refine a_skip ?_
          show A _ _ _ _ _ _ _
          refine a_seq ?_
          refine a_block ?_
          refine a_dseq (by kernel_rfl) ?_
          refine dr_put (d := 31) (v := .d (.sl 4 (List.map eTa l))) rfl (og rfl (op_move rfl rfl rfl)) ?_
          refine dr_put (d := 32) (v := .d (.fl (.int .i64 (k : Int)))) rfl (og rfl (op_move rfl rfl rfl)) ?_
          refine dr_put (d := 33) (v := .el ((eTa (ix l k)))) rfl (og rfl (s_index rfl Try.underlying42 ti27 rfl rfl (by omega) (row_at (by omega)) rfl)) ?_
          refine dr_put (d := 34) (v := .el ((List.drop 0 ((eTa (ix l k)))))) rfl (og rfl (of_eff (s_field_el rfl Try.underlying27 rfl ti23 rfl rfl rfl) rfl)) ?_
          refine dr_put (d := 35) (v := .el ((List.drop 0 ((List.drop 0 ((eTa (ix l k)))))))) rfl (og rfl (of_eff (s_field_el rfl Try.underlying23 rfl ti3 rfl rfl rfl) rfl)) ?_
          refine dr_put (d := 36) (v := .d (.fl (.int .i64 (((ix l k).val).fr)))) rfl (og rfl (op_load_el rfl Try.underlying3 rfl rfl rfl rfl)) ?_
          refine dr_put (d := 37) (v := .d (.sl 4 (List.map eTa l))) rfl (og rfl (op_move rfl rfl rfl)) ?_
          refine dr_put (d := 38) (v := .d (.fl (.int .i64 (j : Int)))) rfl (og rfl (op_move rfl rfl rfl)) ?_
          refine dr_put (d := 39) (v := .el ((eTa (ix l j)))) rfl (og rfl (s_index rfl Try.underlying42 ti27 rfl rfl (by omega) (row_at (by omega)) rfl)) ?_
          refine dr_put (d := 40) (v := .el ((List.drop 0 ((eTa (ix l j)))))) rfl (og rfl (of_eff (s_field_el rfl Try.underlying27 rfl ti23 rfl rfl rfl) rfl)) ?_
          refine dr_put (d := 41) (v := .el ((List.drop 1 ((List.drop 0 ((eTa (ix l j)))))))) rfl (og rfl (of_eff (s_field_el rfl Try.underlying23 rfl ti3 rfl rfl rfl) rfl)) ?_
          refine dr_put (d := 42) (v := .d (.fl (.int .i64 (((ix l j).val).to)))) rfl (og rfl (op_load_el rfl Try.underlying3 rfl rfl rfl rfl)) ?_
          refine dr_put (d := 43) (v := .d (.fl (.bool ((decide (((ix l k).val).fr < ((ix l j).val).to)))))) rfl (og rfl (op_bin rfl rfl rfl (b_lss _ _ _ _) rfl)) ?_
          refine dr_put (d := 44) (v := .d (.fl (.bool ((decide (((ix l k).val).fr < ((ix l j).val).to)))))) rfl (og rfl (op_move rfl rfl rfl)) ?_
          rcases fot ((decide (((ix l k).val).fr < ((ix l j).val).to))) with h11 | h11
          · skip
            have h12 := f_dec h11
            refine dr_put (d := 45) (v := .d (.fl undef)) rfl (on rfl rfl rfl h11) ?_
            refine dr_put (d := 46) (v := .d (.fl undef)) rfl (on rfl rfl rfl h11) ?_
            refine dr_put (d := 47) (v := .d (.fl undef)) rfl (on rfl rfl rfl h11) ?_
            refine dr_put (d := 48) (v := .d (.fl undef)) rfl (on rfl rfl rfl h11) ?_
            refine dr_put (d := 49) (v := .d (.fl undef)) rfl (on rfl rfl rfl h11) ?_
            refine dr_put (d := 50) (v := .d (.fl undef)) rfl (on rfl rfl rfl h11) ?_
            refine dr_put (d := 51) (v := .d (.fl undef)) rfl (on rfl rfl rfl h11) ?_
            refine dr_put (d := 52) (v := .d (.fl undef)) rfl (on rfl rfl rfl h11) ?_
            refine dr_put (d := 53) (v := .d (.fl undef)) rfl (on rfl rfl rfl h11) ?_
            refine dr_put (d := 54) (v := .d (.fl undef)) rfl (on rfl rfl rfl h11) ?_
            refine dr_put (d := 55) (v := .d (.fl undef)) rfl (on rfl rfl rfl h11) ?_
            refine dr_put (d := 56) (v := .d (.fl undef)) rfl (on rfl rfl rfl h11) ?_
            refine dr_put (d := 57) (v := .d (.fl undef)) rfl (on rfl rfl rfl h11) ?_
            refine dr_put (d := 58) (v := .d (.fl (.bool false))) rfl (og rfl (op_pick rfl rfl (by rw [h11]; rfl) rfl)) ?_
            refine dr_done rfl (sepB_of [0, 0, 3, 7, 15, 31, 0, 0, 192, 448, 960, 1984, 4095, 8191, 16383, 16383, 65535, 131071, 262143, 524287, 16383, 16383, 3162111, 7356415, 15745023, 32522239, 67108863, 134217727] (by kernel_rfl)) (by kernel_rfl) ?_
            refine a_condF rfl rfl ?_
            refine a_skip ?_
            show A _ _ _ _ _ _ _
            refine a_region ?_
            refine rg_put (d := 29) (v := .d (.fl (.int .i64 (j : Int)))) rfl (og rfl (op_move rfl rfl rfl)) ?_
            refine rg_put (d := 30) (v := .d (.fl (.int .i64 (((j : Int) + 1))))) rfl (og rfl (op_bin rfl rfl rfl (fun x y w => b_add64 _ _ _ x y w (by omega)) rfl)) ?_
            refine rg_put (d := 7) (v := .d (.fl (.int .i64 (((j : Int) + 1))))) rfl (og rfl (op_assign rfl rfl rfl)) ?_
            refine rg_done rfl ?_
            have hx : (ov (ix l k).val (ix l j).val) = false := ((ov_eq (vI_lt (tk_0 (f_bne h6))) (vI_lt (al_v (hz j (by omega))))).trans (by simp only [h1, h4, h6, h9, h11, Bool.true_or, Bool.false_or, Bool.or_true, Bool.or_false, Bool.not_true, Bool.not_false, cond_true, cond_false, Bool.true_and, Bool.false_and, Bool.and_true, Bool.and_false] <;> rfl))
            show ∃ i, _ ∧ _ ∧ Imp _ _ _ _ _
            refine ⟨j + 1, ⟨by omega, fun q h => (Nat.lt_succ_iff_lt_or_eq.1 h).elim (hq q) (fun e => by rw [e]; exact hx)⟩, by omega, imp_forget rfl ⟨rfl, rfl, rfl, rfl, rfl, rfl, rfl, rfl, (by first | rfl | exact ci (by omega) | exact ci (by simp) | exact cd (by simp) | simp), trivial⟩ ⟨rfl, trivial⟩⟩
          · skip
            have h13 := t_dec h11
            refine dr_put (d := 45) (v := .d (.sl 4 (List.map eTa l))) rfl (oy rfl rfl rfl h11 (op_move rfl rfl rfl)) ?_
            refine dr_put (d := 46) (v := .d (.fl (.int .i64 (j : Int)))) rfl (oy rfl rfl rfl h11 (op_move rfl rfl rfl)) ?_
            refine dr_put (d := 47) (v := .el ((eTa (ix l j)))) rfl (oy rfl rfl rfl h11 (s_index rfl Try.underlying42 ti27 rfl rfl (by omega) (row_at (by omega)) rfl)) ?_
            refine dr_put (d := 48) (v := .el ((List.drop 0 ((eTa (ix l j)))))) rfl (oy rfl rfl rfl h11 (of_eff (s_field_el rfl Try.underlying27 rfl ti23 rfl rfl rfl) rfl)) ?_
            refine dr_put (d := 49) (v := .el ((List.drop 0 ((List.drop 0 ((eTa (ix l j)))))))) rfl (oy rfl rfl rfl h11 (of_eff (s_field_el rfl Try.underlying23 rfl ti3 rfl rfl rfl) rfl)) ?_
            refine dr_put (d := 50) (v := .d (.fl (.int .i64 (((ix l j).val).fr)))) rfl (oy rfl rfl rfl h11 (op_load_el rfl Try.underlying3 rfl rfl rfl rfl)) ?_
            refine dr_put (d := 51) (v := .d (.sl 4 (List.map eTa l))) rfl (oy rfl rfl rfl h11 (op_move rfl rfl rfl)) ?_
            refine dr_put (d := 52) (v := .d (.fl (.int .i64 (k : Int)))) rfl (oy rfl rfl rfl h11 (op_move rfl rfl rfl)) ?_
            refine dr_put (d := 53) (v := .el ((eTa (ix l k)))) rfl (oy rfl rfl rfl h11 (s_index rfl Try.underlying42 ti27 rfl rfl (by omega) (row_at (by omega)) rfl)) ?_
            refine dr_put (d := 54) (v := .el ((List.drop 0 ((eTa (ix l k)))))) rfl (oy rfl rfl rfl h11 (of_eff (s_field_el rfl Try.underlying27 rfl ti23 rfl rfl rfl) rfl)) ?_
            refine dr_put (d := 55) (v := .el ((List.drop 1 ((List.drop 0 ((eTa (ix l k)))))))) rfl (oy rfl rfl rfl h11 (of_eff (s_field_el rfl Try.underlying23 rfl ti3 rfl rfl rfl) rfl)) ?_
            refine dr_put (d := 56) (v := .d (.fl (.int .i64 (((ix l k).val).to)))) rfl (oy rfl rfl rfl h11 (op_load_el rfl Try.underlying3 rfl rfl rfl rfl)) ?_
            refine dr_put (d := 57) (v := .d (.fl (.bool ((decide (((ix l j).val).fr < ((ix l k).val).to)))))) rfl (oy rfl rfl rfl h11 (op_bin rfl rfl rfl (b_lss _ _ _ _) rfl)) ?_
            refine dr_put (d := 58) (v := .d (.fl (.bool ((decide (((ix l j).val).fr < ((ix l k).val).to)))))) rfl (og rfl (op_pick rfl rfl (by rw [h11]; rfl) rfl)) ?_
            refine dr_done rfl (sepB_of [0, 0, 3, 7, 15, 31, 0, 0, 192, 448, 960, 1984, 4095, 8191, 16383, 16383, 65535, 131071, 262143, 524287, 16383, 16383, 3162111, 7356415, 15745023, 32522239, 67108863, 134217727] (by kernel_rfl)) (by kernel_rfl) ?_
            refine a_cond rfl (fun h14 => ?_) (fun h14 => ?_)
            · skip
              have h15 := t_dec h14
              refine a_rseq ?_
              refine rg_put (d := 4) (v := .d (.fl (.int .i64 12))) rfl (og rfl (op_assign rfl rfl rfl)) ?_
              refine rg_done rfl ?_
              refine a_ret ?_
              show ∃ ds, ResL _ _ _ ds ∧ RV.of ds = _
              refine ⟨[.fl (.int .i64 12)], (.cons (.tmp rfl (.d _)) .nil), ?_⟩
              have hov : (ov (ix l k).val (ix l j).val) = true := ((ov_eq (vI_lt (tk_0 (f_bne h6))) (vI_lt (al_v (hz j (by omega))))).trans (by simp only [h1, h4, h6, h9, h11, h14, Bool.true_or, Bool.false_or, Bool.or_true, Bool.or_false, Bool.not_true, Bool.not_false, cond_true, cond_false, Bool.true_and, Bool.false_and, Bool.and_true, Bool.and_false] <;> rfl))
              rw [al_e h1, show alE (kn t) l = 12 from (fe_yes (by omega) hc (al_ov h6 (ovl_yes (by omega) (by omega) hov)) (by decide))]; rfl
            · skip
              have h16 := f_dec h14
              refine a_skip ?_
              show A _ _ _ _ _ _ _
              refine a_region ?_
              refine rg_put (d := 29) (v := .d (.fl (.int .i64 (j : Int)))) rfl (og rfl (op_move rfl rfl rfl)) ?_
              refine rg_put (d := 30) (v := .d (.fl (.int .i64 (((j : Int) + 1))))) rfl (og rfl (op_bin rfl rfl rfl (fun x y w => b_add64 _ _ _ x y w (by omega)) rfl)) ?_
              refine rg_put (d := 7) (v := .d (.fl (.int .i64 (((j : Int) + 1))))) rfl (og rfl (op_assign rfl rfl rfl)) ?_
              refine rg_done rfl ?_
              have hx : (ov (ix l k).val (ix l j).val) = false := ((ov_eq (vI_lt (tk_0 (f_bne h6))) (vI_lt (al_v (hz j (by omega))))).trans (by simp only [h1, h4, h6, h9, h11, h14, Bool.true_or, Bool.false_or, Bool.or_true, Bool.or_false, Bool.not_true, Bool.not_false, cond_true, cond_false, Bool.true_and, Bool.false_and, Bool.and_true, Bool.and_false] <;> rfl))
              show ∃ i, _ ∧ _ ∧ Imp _ _ _ _ _
              refine ⟨j + 1, ⟨by omega, fun q h => (Nat.lt_succ_iff_lt_or_eq.1 h).elim (hq q) (fun e => by rw [e]; exact hx)⟩, by omega, imp_forget rfl ⟨rfl, rfl, rfl, rfl, rfl, rfl, rfl, rfl, (by first | rfl | exact ci (by omega) | exact ci (by simp) | exact cd (by simp) | simp), trivial⟩ ⟨rfl, trivial⟩⟩
        · skip
          have h17 := f_dec h9
          refine a_exit ?_
          show A _ _ _ _ _ _ _
          refine a_region ?_
          refine rg_put (d := 15) (v := .d (.fl (.int .i64 (k : Int)))) rfl (og rfl (op_move rfl rfl rfl)) ?_
          refine rg_put (d := 16) (v := .d (.fl (.int .i64 (((k : Int) + 1))))) rfl (og rfl (op_bin rfl rfl rfl (fun x y w => b_add64 _ _ _ x y w (by omega)) rfl)) ?_
          refine rg_put (d := 5) (v := .d (.fl (.int .i64 (((k : Int) + 1))))) rfl (og rfl (op_assign rfl rfl rfl)) ?_
          refine rg_done rfl ?_
          have hb : al1 (kn t) l k = 0 := al_0 h6 (ovl_no (by omega) (fun q h => hq q (by omega)))
          show ∃ i, _ ∧ _ ∧ Imp _ _ _ _ _
          refine ⟨k + 1, ⟨by omega, fe_no (by omega) hc hb, fun q h => (Nat.lt_succ_iff_lt_or_eq.1 h).elim (hz q) (fun e => by rw [e]; exact hb)⟩, by omega, imp_forget rfl ⟨rfl, rfl, rfl, rfl, (by first | rfl | exact ci (by omega) | exact ci (by simp) | exact cd (by simp) | simp), trivial⟩ ⟨rfl, trivial⟩⟩
    · skip
      have h18 := f_dec h4
      refine a_exit ?_
      show A _ _ _ _ _ _ _
      refine a_rseq ?_
      refine rg_put (d := 4) (v := .d (.fl (.int .i64 0))) rfl (og rfl (op_assign rfl rfl rfl)) ?_
      refine rg_done rfl ?_
      refine a_ret ?_
      show ∃ ds, ResL _ _ _ ds ∧ RV.of ds = _
      refine ⟨[.fl (.int .i64 0)], (.cons (.tmp rfl (.d _)) .nil), ?_⟩
      rw [al_e h1, show alE (kn t) l = 0 from by rw [fe_end (by omega)] at hc; exact hc]; rfl
set_option maxHeartbeats 4000000 in
set_option maxRecDepth 100000 in
theorem small_c (t : Tpg) : Ctr Try.prog 7 [.ag (eTpg t)] (.d (.fl (.bool (smlT t)))) := by
  refine ctr (n := 21) (rs := #[.tmp 2]) (L := [(0, .d (.ag (eTpg t)))]) Try.func7 rfl rfl rfl rfl rfl (fun w0 U0 => ?_)
  refine a_rseq ?_
  refine rg_nam (d := 1) (v := .pt 101 0) (m := 101) (nw := [(101, .bx 34 (eTpg t))]) rfl (og rfl (of_eff (op_box 101 rfl rfl rfl rfl) rfl)) rfl ?_
  refine rg_put (d := 2) (v := .d (.fl (.bool false))) rfl (og rfl (op_assign rfl rfl rfl)) ?_
  refine rg_done rfl ?_
  refine a_rseq ?_
  refine rg_put (d := 3) (v := .pt 101 0) rfl (og rfl (of_eff (s_field_pt rfl Try.underlying34 rfl ti31 rfl rfl rfl) rfl)) ?_
  refine rg_put (d := 4) (v := .pt 101 0) rfl (og rfl (of_eff (s_field_pt rfl Try.underlying31 rfl ti28 rfl rfl rfl) rfl)) ?_
  refine rg_put (d := 5) (v := .d (.sl 3 (List.map ePnt t.net.pts))) rfl (og rfl (op_load_pt rfl Try.underlying28 rfl rfl rfl rfl rfl)) ?_
  refine rg_put (d := 6) (v := .d (.fl (.int .i64 (t.net.pts.length : Int)))) rfl (og rfl (s_len rfl Try.underlying28 rfl rfl)) ?_
  refine rg_put (d := 7) (v := .d (.fl (.bool ((decide ((t.net.pts.length : Int) ≤ 12)))))) rfl (og rfl (op_bin rfl rfl rfl (b_leq _ _ _ _) rfl)) ?_
  refine rg_put (d := 8) (v := .d (.fl (.bool ((decide ((t.net.pts.length : Int) ≤ 12)))))) rfl (og rfl (op_move rfl rfl rfl)) ?_
  rcases fot ((decide ((t.net.pts.length : Int) ≤ 12))) with h1 | h1
  · skip
    have h2 := f_dec h1
    refine rg_put (d := 9) (v := .d (.fl undef)) rfl (on rfl rfl rfl h1) ?_
    refine rg_put (d := 10) (v := .d (.fl undef)) rfl (on rfl rfl rfl h1) ?_
    refine rg_put (d := 11) (v := .d (.fl undef)) rfl (on rfl rfl rfl h1) ?_
    refine rg_put (d := 12) (v := .d (.fl undef)) rfl (on rfl rfl rfl h1) ?_
    refine rg_put (d := 13) (v := .d (.fl undef)) rfl (on rfl rfl rfl h1) ?_
    refine rg_put (d := 14) (v := .d (.fl (.bool false))) rfl (og rfl (op_pick rfl rfl (by rw [h1]; rfl) rfl)) ?_
    refine rg_put (d := 15) (v := .d (.fl (.bool false))) rfl (og rfl (op_move rfl rfl rfl)) ?_
    refine rg_put (d := 16) (v := .d (.fl undef)) rfl (on rfl rfl rfl rfl) ?_
    refine rg_put (d := 17) (v := .d (.fl undef)) rfl (on rfl rfl rfl rfl) ?_
    refine rg_put (d := 18) (v := .d (.fl undef)) rfl (on rfl rfl rfl rfl) ?_
    refine rg_put (d := 19) (v := .d (.fl undef)) rfl (on rfl rfl rfl rfl) ?_
    refine rg_put (d := 20) (v := .d (.fl (.bool false))) rfl (og rfl (op_pick rfl rfl rfl rfl)) ?_
    refine rg_put (d := 2) (v := .d (.fl (.bool false))) rfl (og rfl (op_assign rfl rfl rfl)) ?_
    refine rg_done rfl ?_
    refine a_ret ?_
    show ∃ ds, ResL _ _ _ ds ∧ RV.of ds = _
    refine ⟨[.fl (.bool false)], (.cons (.tmp rfl (.d _)) .nil), ?_⟩
    first
      | (have hu : smlT t = false := by
          unfold smlT; simp only [h1, Bool.true_or, Bool.false_or, Bool.or_true, Bool.or_false, Bool.not_true, Bool.not_false, cond_true, cond_false, Bool.true_and, Bool.false_and, Bool.and_true, Bool.and_false] <;> rfl
         rw [hu]; rfl)
      | (exfalso; omega)
  · skip
    have h3 := t_dec h1
    refine rg_put (d := 9) (v := .pt 101 0) rfl (oy rfl rfl rfl h1 (of_eff (s_field_pt rfl Try.underlying34 rfl ti31 rfl rfl rfl) rfl)) ?_
    refine rg_put (d := 10) (v := .pt 101 1) rfl (oy rfl rfl rfl h1 (of_eff (s_field_pt rfl Try.underlying31 rfl ti29 rfl rfl rfl) rfl)) ?_
    refine rg_put (d := 11) (v := .d (.sl 4 (List.map eLnk t.net.lks))) rfl (oy rfl rfl rfl h1 (op_load_pt rfl Try.underlying29 rfl rfl rfl rfl rfl)) ?_
    refine rg_put (d := 12) (v := .d (.fl (.int .i64 (t.net.lks.length : Int)))) rfl (oy rfl rfl rfl h1 (s_len rfl Try.underlying29 rfl rfl)) ?_
    refine rg_put (d := 13) (v := .d (.fl (.bool ((decide ((t.net.lks.length : Int) ≤ 30)))))) rfl (oy rfl rfl rfl h1 (op_bin rfl rfl rfl (b_leq _ _ _ _) rfl)) ?_
    refine rg_put (d := 14) (v := .d (.fl (.bool ((decide ((t.net.lks.length : Int) ≤ 30)))))) rfl (og rfl (op_pick rfl rfl (by rw [h1]; rfl) rfl)) ?_
    refine rg_put (d := 15) (v := .d (.fl (.bool ((decide ((t.net.lks.length : Int) ≤ 30)))))) rfl (og rfl (op_move rfl rfl rfl)) ?_
    rcases fot ((decide ((t.net.lks.length : Int) ≤ 30))) with h4 | h4
    · skip
      have h5 := f_dec h4
      refine rg_put (d := 16) (v := .d (.fl undef)) rfl (on rfl rfl rfl h4) ?_
      refine rg_put (d := 17) (v := .d (.fl undef)) rfl (on rfl rfl rfl h4) ?_
      refine rg_put (d := 18) (v := .d (.fl undef)) rfl (on rfl rfl rfl h4) ?_
      refine rg_put (d := 19) (v := .d (.fl undef)) rfl (on rfl rfl rfl h4) ?_
      refine rg_put (d := 20) (v := .d (.fl (.bool false))) rfl (og rfl (op_pick rfl rfl (by rw [h4]; rfl) rfl)) ?_
      refine rg_put (d := 2) (v := .d (.fl (.bool false))) rfl (og rfl (op_assign rfl rfl rfl)) ?_
      refine rg_done rfl ?_
      refine a_ret ?_
      show ∃ ds, ResL _ _ _ ds ∧ RV.of ds = _
      refine ⟨[.fl (.bool false)], (.cons (.tmp rfl (.d _)) .nil), ?_⟩
      first
        | (have hu : smlT t = false := by
            unfold smlT; simp only [h1, h4, Bool.true_or, Bool.false_or, Bool.or_true, Bool.or_false, Bool.not_true, Bool.not_false, cond_true, cond_false, Bool.true_and, Bool.false_and, Bool.and_true, Bool.and_false] <;> rfl
           rw [hu]; rfl)
        | (exfalso; omega)
    · skip
      have h6 := t_dec h4
      refine rg_put (d := 16) (v := .pt 101 2) rfl (oy rfl rfl rfl h4 (of_eff (s_field_pt rfl Try.underlying34 rfl ti32 rfl rfl rfl) rfl)) ?_
      refine rg_put (d := 17) (v := .d (.sl 3 (List.map eSys t.syss))) rfl (oy rfl rfl rfl h4 (op_load_pt rfl Try.underlying32 rfl rfl rfl rfl rfl)) ?_
      refine rg_put (d := 18) (v := .d (.fl (.int .i64 (t.syss.length : Int)))) rfl (oy rfl rfl rfl h4 (s_len rfl Try.underlying32 rfl rfl)) ?_
      refine rg_put (d := 19) (v := .d (.fl (.bool ((decide ((t.syss.length : Int) ≤ 100)))))) rfl (oy rfl rfl rfl h4 (op_bin rfl rfl rfl (b_leq _ _ _ _) rfl)) ?_
      refine rg_put (d := 20) (v := .d (.fl (.bool ((decide ((t.syss.length : Int) ≤ 100)))))) rfl (og rfl (op_pick rfl rfl (by rw [h4]; rfl) rfl)) ?_
      refine rg_put (d := 2) (v := .d (.fl (.bool ((decide ((t.syss.length : Int) ≤ 100)))))) rfl (og rfl (op_assign rfl rfl rfl)) ?_
      refine rg_done rfl ?_
      refine a_ret ?_
      show ∃ ds, ResL _ _ _ ds ∧ RV.of ds = _
      refine ⟨[.fl (.bool ((decide ((t.syss.length : Int) ≤ 100))))], (.cons (.tmp rfl (.d _)) .nil), ?_⟩
      first
        | (have hu : smlT t = (decide ((t.syss.length : Int) ≤ 100)) := by
            unfold smlT; simp only [h1, h4, Bool.true_or, Bool.false_or, Bool.or_true, Bool.or_false, Bool.not_true, Bool.not_false, cond_true, cond_false, Bool.true_and, Bool.false_and, Bool.and_true, Bool.and_false] <;> rfl
           rw [hu]; rfl)
        | (exfalso; omega)
set_option maxHeartbeats 4000000 in
set_option maxRecDepth 100000 in
theorem short_c (x : Ta) : Ctr Try.prog 6 [.ag (eTa x)] (.d (.fl (.bool (shortB x)))) := by
  refine ctr (n := 13) (rs := #[.tmp 2]) (L := [(0, .d (.ag (eTa x)))]) Try.func6 rfl rfl rfl rfl rfl (fun w0 U0 => ?_)
  refine a_rseq ?_
  refine rg_nam (d := 1) (v := .pt 101 0) (m := 101) (nw := [(101, .bx 27 (eTa x))]) rfl (og rfl (of_eff (op_box 101 rfl rfl rfl rfl) rfl)) rfl ?_
  refine rg_put (d := 2) (v := .d (.fl (.bool false))) rfl (og rfl (op_assign rfl rfl rfl)) ?_
  refine rg_done rfl ?_
  refine a_rseq ?_
  refine rg_put (d := 3) (v := .pt 101 2) rfl (og rfl (of_eff (s_field_pt rfl Try.underlying27 rfl ti24 rfl rfl rfl) rfl)) ?_
  refine rg_put (d := 4) (v := .d (.sl 4 (List.map eBd x.bands))) rfl (og rfl (op_load_pt rfl Try.underlying24 rfl rfl rfl rfl rfl)) ?_
  refine rg_put (d := 5) (v := .d (.fl (.int .i64 (x.bands.length : Int)))) rfl (og rfl (s_len rfl Try.underlying24 rfl rfl)) ?_
  refine rg_put (d := 6) (v := .d (.fl (.bool ((decide ((x.bands.length : Int) ≤ 40)))))) rfl (og rfl (op_bin rfl rfl rfl (b_leq _ _ _ _) rfl)) ?_
  refine rg_put (d := 7) (v := .d (.fl (.bool ((decide ((x.bands.length : Int) ≤ 40)))))) rfl (og rfl (op_move rfl rfl rfl)) ?_
  rcases fot ((decide ((x.bands.length : Int) ≤ 40))) with h1 | h1
  · skip
    have h2 := f_dec h1
    refine rg_put (d := 8) (v := .d (.fl undef)) rfl (on rfl rfl rfl h1) ?_
    refine rg_put (d := 9) (v := .d (.fl undef)) rfl (on rfl rfl rfl h1) ?_
    refine rg_put (d := 10) (v := .d (.fl undef)) rfl (on rfl rfl rfl h1) ?_
    refine rg_put (d := 11) (v := .d (.fl undef)) rfl (on rfl rfl rfl h1) ?_
    refine rg_put (d := 12) (v := .d (.fl (.bool false))) rfl (og rfl (op_pick rfl rfl (by rw [h1]; rfl) rfl)) ?_
    refine rg_put (d := 2) (v := .d (.fl (.bool false))) rfl (og rfl (op_assign rfl rfl rfl)) ?_
    refine rg_done rfl ?_
    refine a_ret ?_
    show ∃ ds, ResL _ _ _ ds ∧ RV.of ds = _
    refine ⟨[.fl (.bool false)], (.cons (.tmp rfl (.d _)) .nil), ?_⟩
    first
      | (have hu : shortB x = false := by
          unfold shortB; simp only [h1, Bool.true_or, Bool.false_or, Bool.or_true, Bool.or_false, Bool.not_true, Bool.not_false, cond_true, cond_false, Bool.true_and, Bool.false_and, Bool.and_true, Bool.and_false] <;> rfl
         rw [hu]; rfl)
      | (exfalso; omega)
  · skip
    have h3 := t_dec h1
    refine rg_put (d := 8) (v := .pt 101 3) rfl (oy rfl rfl rfl h1 (of_eff (s_field_pt rfl Try.underlying27 rfl ti25 rfl rfl rfl) rfl)) ?_
    refine rg_put (d := 9) (v := .d (.sl 5 (List.map eRt x.rates))) rfl (oy rfl rfl rfl h1 (op_load_pt rfl Try.underlying25 rfl rfl rfl rfl rfl)) ?_
    refine rg_put (d := 10) (v := .d (.fl (.int .i64 (x.rates.length : Int)))) rfl (oy rfl rfl rfl h1 (s_len rfl Try.underlying25 rfl rfl)) ?_
    refine rg_put (d := 11) (v := .d (.fl (.bool ((decide ((x.rates.length : Int) ≤ 60)))))) rfl (oy rfl rfl rfl h1 (op_bin rfl rfl rfl (b_leq _ _ _ _) rfl)) ?_
    refine rg_put (d := 12) (v := .d (.fl (.bool ((decide ((x.rates.length : Int) ≤ 60)))))) rfl (og rfl (op_pick rfl rfl (by rw [h1]; rfl) rfl)) ?_
    refine rg_put (d := 2) (v := .d (.fl (.bool ((decide ((x.rates.length : Int) ≤ 60)))))) rfl (og rfl (op_assign rfl rfl rfl)) ?_
    refine rg_done rfl ?_
    refine a_ret ?_
    show ∃ ds, ResL _ _ _ ds ∧ RV.of ds = _
    refine ⟨[.fl (.bool ((decide ((x.rates.length : Int) ≤ 60))))], (.cons (.tmp rfl (.d _)) .nil), ?_⟩
    first
      | (have hu : shortB x = (decide ((x.rates.length : Int) ≤ 60)) := by
          unfold shortB; simp only [h1, Bool.true_or, Bool.false_or, Bool.or_true, Bool.or_false, Bool.not_true, Bool.not_false, cond_true, cond_false, Bool.true_and, Bool.false_and, Bool.and_true, Bool.and_false] <;> rfl
         rw [hu]; rfl)
      | (exfalso; omega)
set_option maxHeartbeats 4000000 in
set_option maxRecDepth 100000 in
theorem few_c (l : List Ta) : Ctr Try.prog 11 [.sl 4 (List.map eTa l)] (.d (.fl (.bool (fewB l)))) := by
  refine ctr (n := 19) (rs := #[.tmp 2]) (L := [(0, .d (.sl 4 (List.map eTa l)))]) Try.func11 rfl rfl rfl rfl rfl (fun w0 U0 => ?_)
  refine a_rseq ?_
  refine rg_put (d := 2) (v := .d (.fl (.bool false))) rfl (og rfl (op_assign rfl rfl rfl)) ?_
  refine rg_done rfl ?_
  refine a_seq ?_
  refine a_rseq ?_
  refine rg_put (d := 4) (v := .d (.sl 4 (List.map eTa l))) rfl (og rfl (op_move rfl rfl rfl)) ?_
  refine rg_put (d := 5) (v := .d (.fl (.int .i64 (l.length : Int)))) rfl (og rfl (s_len rfl Try.underlying42 rfl rfl)) ?_
  refine rg_put (d := 6) (v := .d (.fl (.bool ((decide (12 < (l.length : Int))))))) rfl (og rfl (op_bin rfl rfl rfl (b_gtr _ _ _ _) rfl)) ?_
  refine rg_done rfl ?_
  refine a_cond rfl (fun h1 => ?_) (fun h1 => ?_)
  · skip
    have h2 := t_dec h1
    refine a_rseq ?_
    refine rg_put (d := 2) (v := .d (.fl (.bool false))) rfl (og rfl (op_assign rfl rfl rfl)) ?_
    refine rg_done rfl ?_
    refine a_ret ?_
    show ∃ ds, ResL _ _ _ ds ∧ RV.of ds = _
    refine ⟨[.fl (.bool false)], (.cons (.tmp rfl (.d _)) .nil), ?_⟩
    rw [few_lim h1]; rfl
  · skip
    have h3 := f_dec h1
    refine a_skip ?_
    show A _ _ _ _ _ _ _
    refine a_seq ?_
    refine a_rseq ?_
    refine rg_put (d := 3) (v := .d (.fl (.int .i64 0))) rfl (og rfl (op_assign rfl rfl rfl)) ?_
    refine rg_done rfl ?_
    refine a_block ?_
    refine a_loop (ι := Nat) (fun k => SS [(0, .d (.sl 4 (List.map eTa l))), (6, .d (.fl (.bool ((decide (12 < (l.length : Int))))))), (3, .d (.fl (.int .i64 (k : Int))))] []) (fun k => k ≤ l.length ∧ ∀ q, q < k → (shortB (ix l q)) = true) (fun k => l.length - k) 0 (⟨by omega, fun q h => by omega⟩) (imp_forget rfl ⟨rfl, rfl, (by first | rfl | exact ci (by omega) | exact ci (by simp) | exact cd (by simp) | simp), trivial⟩ trivial) (fun k hok => ?_)
    obtain ⟨hkk, hq⟩ := hok
    refine a_seq ?_
    refine a_rseq ?_
    refine rg_put (d := 7) (v := .d (.fl (.int .i64 (k : Int)))) rfl (og rfl (op_move rfl rfl rfl)) ?_
    refine rg_put (d := 8) (v := .d (.sl 4 (List.map eTa l))) rfl (og rfl (op_move rfl rfl rfl)) ?_
    refine rg_put (d := 9) (v := .d (.fl (.int .i64 (l.length : Int)))) rfl (og rfl (s_len rfl Try.underlying42 rfl rfl)) ?_
    refine rg_put (d := 10) (v := .d (.fl (.bool ((decide ((k : Int) < (l.length : Int))))))) rfl (og rfl (op_bin rfl rfl rfl (b_lss _ _ _ _) rfl)) ?_
    refine rg_done rfl ?_
    refine a_cond rfl (fun h4 => ?_) (fun h4 => ?_)
    · skip
      have h5 := t_dec h4
      refine a_skip ?_
      show A _ _ _ _ _ _ _
      refine a_seq ?_
      refine a_block ?_
      refine a_rseq ?_
      refine rg_put (d := 13) (v := .d (.sl 4 (List.map eTa l))) rfl (og rfl (op_move rfl rfl rfl)) ?_
      refine rg_put (d := 14) (v := .d (.fl (.int .i64 (k : Int)))) rfl (og rfl (op_move rfl rfl rfl)) ?_
      refine rg_put (d := 15) (v := .el ((eTa (ix l k)))) rfl (og rfl (s_index rfl Try.underlying42 ti27 rfl rfl (by omega) (row_at (by omega)) rfl)) ?_
      refine rg_put (d := 16) (v := .d (.ag (eTa (ix l k)))) rfl (og rfl (of_eff (s_load_els rfl Try.underlying27 rfl ti27 rfl rfl rfl) rfl)) ?_
      refine rg_put (d := 17) (v := .d (.fl (.bool ((shortB (ix l k)))))) rfl (og rfl (op_call rfl Try.func6 nm6 rfl (.cons rfl (.d _) .nil) (short_c (ix l k)) rfl)) ?_
      refine rg_put (d := 18) (v := .d (.fl (.bool ((!((shortB (ix l k)))))))) rfl (og rfl (op_un rfl rfl (u_not _) rfl)) ?_
      refine rg_done rfl ?_
      refine a_cond rfl (fun h6 => ?_) (fun h6 => ?_)
      · skip
        have h7 := t_not h6
        refine a_rseq ?_
        refine rg_put (d := 2) (v := .d (.fl (.bool false))) rfl (og rfl (op_assign rfl rfl rfl)) ?_
        refine rg_done rfl ?_
        refine a_ret ?_
        show ∃ ds, ResL _ _ _ ds ∧ RV.of ds = _
        refine ⟨[.fl (.bool false)], (.cons (.tmp rfl (.d _)) .nil), ?_⟩
        rw [few_no (by omega) h7]; rfl
      · skip
        have h8 := f_not h6
        refine a_skip ?_
        show A _ _ _ _ _ _ _
        refine a_region ?_
        refine rg_put (d := 11) (v := .d (.fl (.int .i64 (k : Int)))) rfl (og rfl (op_move rfl rfl rfl)) ?_
        refine rg_put (d := 12) (v := .d (.fl (.int .i64 (((k : Int) + 1))))) rfl (og rfl (op_bin rfl rfl rfl (fun x y w => b_add64 _ _ _ x y w (by omega)) rfl)) ?_
        refine rg_put (d := 3) (v := .d (.fl (.int .i64 (((k : Int) + 1))))) rfl (og rfl (op_assign rfl rfl rfl)) ?_
        refine rg_done rfl ?_
        have hx : (shortB (ix l k)) = true := h8
        show ∃ i, _ ∧ _ ∧ Imp _ _ _ _ _
        refine ⟨k + 1, ⟨by omega, fun q h => (Nat.lt_succ_iff_lt_or_eq.1 h).elim (hq q) (fun e => by rw [e]; exact hx)⟩, by omega, imp_forget rfl ⟨rfl, rfl, (by first | rfl | exact ci (by omega) | exact ci (by simp) | exact cd (by simp) | simp), trivial⟩ trivial⟩
    · skip
      have h9 := f_dec h4
      refine a_exit ?_
      show A _ _ _ _ _ _ _
      refine a_rseq ?_
      refine rg_put (d := 2) (v := .d (.fl (.bool true))) rfl (og rfl (op_assign rfl rfl rfl)) ?_
      refine rg_done rfl ?_
      refine a_ret ?_
      show ∃ ds, ResL _ _ _ ds ∧ RV.of ds = _
      refine ⟨[.fl (.bool true)], (.cons (.tmp rfl (.d _)) .nil), ?_⟩
      rw [few_yes h1 (fun q h => hq q (by omega))]; rfl
end Go.Proofs.Ytlmihhecpaomjaa.Wk
