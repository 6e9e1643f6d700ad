/- Two rates sorted. No condition. -/
import Derived.Test.YtgcagigpolnjfaaB3
set_option linter.unusedSimpArgs false
set_option linter.unusedVariables false
namespace Go.Proofs.Ytgcagigpolnjfaa.Wk
open Go Go.RowKit Go.Proofs.Ytgcagigpolnjfaa.Av
abbrev R0 : Rt := Rt.mk ⟨#[97]⟩ ⟨#[]⟩ 1 ⟨#[112, 101, 97, 107]⟩ 200
abbrev R1 : Rt := Rt.mk ⟨#[97]⟩ ⟨#[]⟩ 1 ⟨#[]⟩ 100
abbrev EX : Ta := Ta.mk (Iv.mk 0 10000) [Bd.mk ⟨#[112, 101, 97, 107]⟩ (Wd.mk 1 60 120)] [R0, R1]
def cmpS (a b : ByteArray) : Int := if sLt a b = true then -1 else if (!(sLt a b || sEq a b)) = true then 1 else 0

set_option maxHeartbeats 4000000 in
set_option maxRecDepth 100000 in
theorem nan42 (a : ByteArray) : Ctr Try.prog 42 [.fl (.string a)] (.d (.fl (.bool false))) := by
  refine ctr (n := 6) (rs := #[.tmp 2]) (L := [(0, .d (.fl (.string a)))]) Try.func42 rfl rfl rfl rfl rfl (fun w0 U0 => ?_)
  refine a_rseq ?_
  refine rg_put (d := 2) (v := .d (.fl (.bool false))) rfl (og rfl (op_assign rfl rfl rfl)) ?_
  refine rg_done rfl ?_
  refine a_rseq ?_
  refine rg_put (d := 3) (v := .d (.fl (.string a))) rfl (og rfl (op_move rfl rfl rfl)) ?_
  refine rg_put (d := 4) (v := .d (.fl (.string a))) rfl (og rfl (op_move rfl rfl rfl)) ?_
  refine rg_put (d := 5) (v := .d (.fl (.bool ((!(sEq a a)))))) rfl (og rfl (op_bin rfl rfl rfl (b_sne _ _ _) rfl)) ?_
  refine rg_put (d := 2) (v := .d (.fl (.bool ((!(sEq a a)))))) rfl (og rfl (op_assign rfl rfl rfl)) ?_
  refine rg_done rfl ?_
  refine a_ret ?_
  show ∃ ds, ResL _ _ _ ds ∧ RV.of ds = _
  refine ⟨[.fl (.bool ((!(sEq a a))))], (.cons (.tmp rfl (.d _)) .nil), ?_⟩
  rw [show sEq a a = true by simp [sEq]]; rfl
set_option maxHeartbeats 4000000 in
set_option maxRecDepth 100000 in
theorem cmp40 (a b : ByteArray) : Ctr Try.prog 40 [.fl (.string a), .fl (.string b)] (.d (.fl (.int .i64 (cmpS a b)))) := by
  refine ctr (n := 20) (rs := #[.tmp 4]) (L := [(0, .d (.fl (.string a))), (1, .d (.fl (.string b)))]) Try.func40 rfl rfl rfl rfl rfl (fun w0 U0 => ?_)
  refine a_rseq ?_
  refine rg_put (d := 4) (v := .d (.fl (.int .i64 0))) rfl (og rfl (op_assign rfl rfl rfl)) ?_
  refine rg_done rfl ?_
  refine a_rseq ?_
  refine rg_put (d := 7) (v := .d (.fl (.string a))) rfl (og rfl (op_move rfl rfl rfl)) ?_
  refine rg_put (d := 8) (v := .d (.fl (.bool false))) rfl (og rfl (op_call rfl Try.func42 nm42 rfl (.cons rfl (.d _) .nil) (nan42 a) rfl)) ?_
  refine rg_put (d := 5) (v := .d (.fl (.bool false))) rfl (og rfl (op_assign rfl rfl rfl)) ?_
  refine rg_done rfl ?_
  refine a_rseq ?_
  refine rg_put (d := 9) (v := .d (.fl (.string b))) rfl (og rfl (op_move rfl rfl rfl)) ?_
  refine rg_put (d := 10) (v := .d (.fl (.bool false))) rfl (og rfl (op_call rfl Try.func42 nm42 rfl (.cons rfl (.d _) .nil) (nan42 b) rfl)) ?_
  refine rg_put (d := 6) (v := .d (.fl (.bool false))) rfl (og rfl (op_assign rfl rfl rfl)) ?_
  refine rg_done rfl ?_
  refine a_seq ?_
  refine a_rseq ?_
  refine rg_put (d := 11) (v := .d (.fl (.bool false))) rfl (og rfl (op_move rfl rfl rfl)) ?_
  refine rg_done rfl ?_
  refine a_condF rfl rfl ?_
  refine a_skip ?_
  show A _ _ _ _ _ _ _
  refine a_seq ?_
  refine a_rseq ?_
  refine rg_put (d := 13) (v := .d (.fl (.bool false))) rfl (og rfl (op_move rfl rfl rfl)) ?_
  refine rg_done rfl ?_
  refine a_condF rfl rfl ?_
  refine a_skip ?_
  show A _ _ _ _ _ _ _
  refine a_seq ?_
  refine a_rseq ?_
  refine rg_put (d := 14) (v := .d (.fl (.string a))) rfl (og rfl (op_move rfl rfl rfl)) ?_
  refine rg_put (d := 15) (v := .d (.fl (.string b))) rfl (og rfl (op_move rfl rfl rfl)) ?_
  refine rg_put (d := 16) (v := .d (.fl (.bool (sLt a b)))) rfl (og rfl (op_bin rfl rfl rfl (b_slt _ _ _) rfl)) ?_
  refine rg_done rfl ?_
  refine a_cond rfl (fun h1 => ?_) (fun h1 => ?_)
  · skip
    refine a_rseq ?_
    refine rg_put (d := 4) (v := .d (.fl (.int .i64 (-1)))) rfl (og rfl (op_assign rfl rfl rfl)) ?_
    refine rg_done rfl ?_
    refine a_ret ?_
    show ∃ ds, ResL _ _ _ ds ∧ RV.of ds = _
    refine ⟨[.fl (.int .i64 (-1))], (.cons (.tmp rfl (.d _)) .nil), ?_⟩
    have hu : cmpS a b = (-1) := by
      unfold cmpS; rw [if_pos h1]
    rw [hu]; rfl
  · skip
    refine a_skip ?_
    show A _ _ _ _ _ _ _
    refine a_seq ?_
    refine a_rseq ?_
    refine rg_put (d := 17) (v := .d (.fl (.string a))) rfl (og rfl (op_move rfl rfl rfl)) ?_
    refine rg_put (d := 18) (v := .d (.fl (.string b))) rfl (og rfl (op_move rfl rfl rfl)) ?_
    refine rg_put (d := 19) (v := .d (.fl (.bool ((!(sLt a b || sEq a b)))))) rfl (og rfl (op_bin rfl rfl rfl (b_sgt _ _ _) rfl)) ?_
    refine rg_done rfl ?_
    refine a_cond rfl (fun h2 => ?_) (fun h2 => ?_)
    · skip
      have h3 := t_not h2
      refine a_rseq ?_
      refine rg_put (d := 4) (v := .d (.fl (.int .i64 1))) rfl (og rfl (op_assign rfl rfl rfl)) ?_
      refine rg_done rfl ?_
      refine a_ret ?_
      show ∃ ds, ResL _ _ _ ds ∧ RV.of ds = _
      refine ⟨[.fl (.int .i64 1)], (.cons (.tmp rfl (.d _)) .nil), ?_⟩
      have hu : cmpS a b = 1 := by
        unfold cmpS; rw [if_neg (by rw [h1]; decide)]; simp only [h2] <;> rfl
      rw [hu]; rfl
    · skip
      have h4 := f_not h2
      refine a_skip ?_
      show A _ _ _ _ _ _ _
      refine a_rseq ?_
      refine rg_put (d := 4) (v := .d (.fl (.int .i64 0))) rfl (og rfl (op_assign rfl rfl rfl)) ?_
      refine rg_done rfl ?_
      refine a_ret ?_
      show ∃ ds, ResL _ _ _ ds ∧ RV.of ds = _
      refine ⟨[.fl (.int .i64 0)], (.cons (.tmp rfl (.d _)) .nil), ?_⟩
      have hu : cmpS a b = 0 := by
        unfold cmpS; rw [if_neg (by rw [h1]; decide)]; simp only [h2] <;> rfl
      rw [hu]; rfl
theorem cmp40A : Ctr Try.prog 40 [.fl (.string ⟨#[97]⟩), .fl (.string ⟨#[97]⟩)] (.d (.fl (.int .i64 0))) := by
  have := cmp40 ⟨#[97]⟩ ⟨#[97]⟩
  rw [show cmpS ⟨#[97]⟩ ⟨#[97]⟩ = 0 by kernel_rfl] at this; exact this
theorem cmp40B : Ctr Try.prog 40 [.fl (.string ⟨#[]⟩), .fl (.string ⟨#[]⟩)] (.d (.fl (.int .i64 0))) := by
  have := cmp40 ⟨#[]⟩ ⟨#[]⟩
  rw [show cmpS ⟨#[]⟩ ⟨#[]⟩ = 0 by kernel_rfl] at this; exact this
theorem cmp40C : Ctr Try.prog 40 [.fl (.string ⟨#[]⟩), .fl (.string ⟨#[112, 101, 97, 107]⟩)] (.d (.fl (.int .i64 (-1)))) := by
  have := cmp40 ⟨#[]⟩ ⟨#[112, 101, 97, 107]⟩
  rw [show cmpS ⟨#[]⟩ ⟨#[112, 101, 97, 107]⟩ = (-1) by kernel_rfl] at this; exact this
set_option maxHeartbeats 4000000 in
set_option maxRecDepth 100000 in
theorem or39  : Ctr Try.prog 39 [.sl 1 (List.map (rI .i64) ([0, 0, -1] : List Int))] (.d (.fl (.int .i64 (-1)))) := by
  refine ctr (n := 18) (rs := #[.tmp 2]) (L := [(0, .d (.sl 1 (List.map (rI .i64) ([0, 0, -1] : List Int))))]) Try.func39 rfl rfl rfl rfl rfl (fun w0 U0 => ?_)
  refine a_rseq ?_
  refine rg_put (d := 2) (v := .d (.fl (.int .i64 (0 : Int)))) rfl (og rfl (op_assign rfl rfl rfl)) ?_
  refine rg_done rfl ?_
  refine a_rseq ?_
  refine rg_put (d := 3) (v := .d (.fl (.int .i64 (0 : Int)))) rfl (og rfl (op_assign rfl rfl rfl)) ?_
  refine rg_done rfl ?_
  refine a_seq ?_
  refine a_rseq ?_
  refine rg_put (d := 6) (v := .d (.sl 1 (List.map (rI .i64) ([0, 0, -1] : List Int)))) rfl (og rfl (op_move rfl rfl rfl)) ?_
  refine rg_put (d := 7) (v := .d (.fl (.int .i64 ((([0, 0, -1] : List Int).length : Int))))) rfl (og rfl (s_len rfl Try.underlying73 rfl rfl)) ?_
  refine rg_put (d := 8) (v := .d (.fl (.int .i64 (0 : Int)))) rfl (og rfl (op_move rfl rfl rfl)) ?_
  refine rg_done rfl ?_
  refine a_block ?_
  refine a_rounds (n := 1000000) ?_
  refine ard_succ ?_
  refine a_imp (τ := SS [(0, .d (.sl 1 (List.map (rI .i64) ([0, 0, -1] : List Int)))), (2, .d (.fl (.int .i64 (0 : Int)))), (3, .d (.fl (.int .i64 (0 : Int)))), (6, .d (.sl 1 (List.map (rI .i64) ([0, 0, -1] : List Int)))), (7, .d (.fl (.int .i64 ((([0, 0, -1] : List Int).length : Int))))), (8, .d (.fl (.int .i64 (0 : Int))))] []) (imp_forget rfl ⟨rfl, rfl, rfl, rfl, rfl, rfl, trivial⟩ trivial) ?_
  refine a_rseq ?_
  refine rg_put (d := 9) (v := .d (.fl (.bool true))) rfl (og rfl (op_bin rfl rfl rfl (b_lss _ _ _ _) rfl)) ?_
  refine rg_done rfl ?_
  refine a_seq ?_
  refine a_condK rfl rfl ?_
  refine a_skip ?_
  show A _ _ _ _ _ _ _
  refine a_seq ?_
  refine a_block ?_
  refine a_rseq ?_
  refine rg_put (d := 10) (v := .el ((rI .i64 ((ix ([0, 0, -1] : List Int) 0))))) rfl (og rfl (s_index rfl Try.underlying73 ti3 rfl rfl (by decide) (row_at (by decide)) rfl)) ?_
  refine rg_put (d := 11) (v := .d (.fl (.int .i64 ((ix ([0, 0, -1] : List Int) 0))))) rfl (og rfl (op_load_el rfl Try.underlying3 rfl rfl rfl rfl)) ?_
  refine rg_put (d := 5) (v := .d (.fl (.int .i64 ((ix ([0, 0, -1] : List Int) 0))))) rfl (og rfl (op_assign rfl rfl rfl)) ?_
  refine rg_done rfl ?_
  refine a_rseq ?_
  refine rg_put (d := 12) (v := .d (.fl (.int .i64 ((ix ([0, 0, -1] : List Int) 0))))) rfl (og rfl (op_move rfl rfl rfl)) ?_
  refine rg_put (d := 13) (v := .d (.fl (.int .i64 (0 : Int)))) rfl (og rfl (op_move rfl rfl rfl)) ?_
  refine rg_put (d := 14) (v := .d (.fl (.bool false))) rfl (og rfl (op_bin rfl rfl rfl (b_neq _ _ _ _) rfl)) ?_
  refine rg_done rfl ?_
  refine a_condF rfl rfl ?_
  refine a_skip ?_
  show A _ _ _ _ _ _ _
  refine a_region ?_
  refine rg_put (d := 16) (v := .d (.fl (.int .i64 (1 : Int)))) rfl (og rfl (op_bin rfl rfl rfl (fun x y w => b_add64 _ _ _ x y w (by decide)) rfl)) ?_
  refine rg_put (d := 8) (v := .d (.fl (.int .i64 (1 : Int)))) rfl (og rfl (op_move rfl rfl rfl)) ?_
  refine rg_done rfl ?_
  show ARd _ _ _ _ _ _ _ _
  refine ard_succ ?_
  refine a_imp (τ := SS [(0, .d (.sl 1 (List.map (rI .i64) ([0, 0, -1] : List Int)))), (2, .d (.fl (.int .i64 (0 : Int)))), (3, .d (.fl (.int .i64 (0 : Int)))), (5, .d (.fl (.int .i64 ((ix ([0, 0, -1] : List Int) 0))))), (6, .d (.sl 1 (List.map (rI .i64) ([0, 0, -1] : List Int)))), (7, .d (.fl (.int .i64 ((([0, 0, -1] : List Int).length : Int))))), (8, .d (.fl (.int .i64 (1 : Int)))), (9, .d (.fl (.bool true))), (14, .d (.fl (.bool false)))] []) (imp_forget rfl ⟨rfl, rfl, rfl, rfl, rfl, rfl, rfl, rfl, rfl, trivial⟩ trivial) ?_
  refine a_rseq ?_
  refine rg_put (d := 9) (v := .d (.fl (.bool true))) rfl (og rfl (op_bin rfl rfl rfl (b_lss _ _ _ _) rfl)) ?_
  refine rg_done rfl ?_
  refine a_seq ?_
  refine a_condK rfl rfl ?_
  refine a_skip ?_
  show A _ _ _ _ _ _ _
  refine a_seq ?_
  refine a_block ?_
  refine a_rseq ?_
  refine rg_put (d := 10) (v := .el ((rI .i64 ((ix ([0, 0, -1] : List Int) 1))))) rfl (og rfl (s_index rfl Try.underlying73 ti3 rfl rfl (by decide) (row_at (by decide)) rfl)) ?_
  refine rg_put (d := 11) (v := .d (.fl (.int .i64 ((ix ([0, 0, -1] : List Int) 1))))) rfl (og rfl (op_load_el rfl Try.underlying3 rfl rfl rfl rfl)) ?_
  refine rg_put (d := 5) (v := .d (.fl (.int .i64 ((ix ([0, 0, -1] : List Int) 1))))) rfl (og rfl (op_assign rfl rfl rfl)) ?_
  refine rg_done rfl ?_
  refine a_rseq ?_
  refine rg_put (d := 12) (v := .d (.fl (.int .i64 ((ix ([0, 0, -1] : List Int) 1))))) rfl (og rfl (op_move rfl rfl rfl)) ?_
  refine rg_put (d := 13) (v := .d (.fl (.int .i64 (0 : Int)))) rfl (og rfl (op_move rfl rfl rfl)) ?_
  refine rg_put (d := 14) (v := .d (.fl (.bool false))) rfl (og rfl (op_bin rfl rfl rfl (b_neq _ _ _ _) rfl)) ?_
  refine rg_done rfl ?_
  refine a_condF rfl rfl ?_
  refine a_skip ?_
  show A _ _ _ _ _ _ _
  refine a_region ?_
  refine rg_put (d := 16) (v := .d (.fl (.int .i64 (2 : Int)))) rfl (og rfl (op_bin rfl rfl rfl (fun x y w => b_add64 _ _ _ x y w (by decide)) rfl)) ?_
  refine rg_put (d := 8) (v := .d (.fl (.int .i64 (2 : Int)))) rfl (og rfl (op_move rfl rfl rfl)) ?_
  refine rg_done rfl ?_
  show ARd _ _ _ _ _ _ _ _
  refine ard_succ ?_
  refine a_imp (τ := SS [(0, .d (.sl 1 (List.map (rI .i64) ([0, 0, -1] : List Int)))), (2, .d (.fl (.int .i64 (0 : Int)))), (3, .d (.fl (.int .i64 (0 : Int)))), (5, .d (.fl (.int .i64 ((ix ([0, 0, -1] : List Int) 1))))), (6, .d (.sl 1 (List.map (rI .i64) ([0, 0, -1] : List Int)))), (7, .d (.fl (.int .i64 ((([0, 0, -1] : List Int).length : Int))))), (8, .d (.fl (.int .i64 (2 : Int)))), (9, .d (.fl (.bool true))), (14, .d (.fl (.bool false)))] []) (imp_forget rfl ⟨rfl, rfl, rfl, rfl, rfl, rfl, rfl, rfl, rfl, trivial⟩ trivial) ?_
  refine a_rseq ?_
  refine rg_put (d := 9) (v := .d (.fl (.bool true))) rfl (og rfl (op_bin rfl rfl rfl (b_lss _ _ _ _) rfl)) ?_
  refine rg_done rfl ?_
  refine a_seq ?_
  refine a_condK rfl rfl ?_
  refine a_skip ?_
  show A _ _ _ _ _ _ _
  refine a_seq ?_
  refine a_block ?_
  refine a_rseq ?_
  refine rg_put (d := 10) (v := .el ((rI .i64 ((ix ([0, 0, -1] : List Int) 2))))) rfl (og rfl (s_index rfl Try.underlying73 ti3 rfl rfl (by decide) (row_at (by decide)) rfl)) ?_
  refine rg_put (d := 11) (v := .d (.fl (.int .i64 ((ix ([0, 0, -1] : List Int) 2))))) rfl (og rfl (op_load_el rfl Try.underlying3 rfl rfl rfl rfl)) ?_
  refine rg_put (d := 5) (v := .d (.fl (.int .i64 ((ix ([0, 0, -1] : List Int) 2))))) rfl (og rfl (op_assign rfl rfl rfl)) ?_
  refine rg_done rfl ?_
  refine a_rseq ?_
  refine rg_put (d := 12) (v := .d (.fl (.int .i64 ((ix ([0, 0, -1] : List Int) 2))))) rfl (og rfl (op_move rfl rfl rfl)) ?_
  refine rg_put (d := 13) (v := .d (.fl (.int .i64 (0 : Int)))) rfl (og rfl (op_move rfl rfl rfl)) ?_
  refine rg_put (d := 14) (v := .d (.fl (.bool true))) rfl (og rfl (op_bin rfl rfl rfl (b_neq _ _ _ _) rfl)) ?_
  refine rg_done rfl ?_
  refine a_condK rfl rfl ?_
  refine a_rseq ?_
  refine rg_put (d := 15) (v := .d (.fl (.int .i64 ((ix ([0, 0, -1] : List Int) 2))))) rfl (og rfl (op_move rfl rfl rfl)) ?_
  refine rg_put (d := 2) (v := .d (.fl (.int .i64 ((ix ([0, 0, -1] : List Int) 2))))) rfl (og rfl (op_assign rfl rfl rfl)) ?_
  refine rg_done rfl ?_
  refine a_ret ?_
  show ∃ ds, ResL _ _ _ ds ∧ RV.of ds = _
  refine ⟨[.fl (.int .i64 ((ix ([0, 0, -1] : List Int) 2)))], (.cons (.tmp rfl (.d _)) .nil), ?_⟩
  rfl
set_option maxHeartbeats 4000000 in
set_option maxRecDepth 100000 in
theorem clo38  : Ctr Try.prog 38 [.ag (eRt R1), .ag (eRt R0)] (.d (.fl (.int .i64 (-1)))) := by
  refine ctr (n := 22) (rs := #[.tmp 4]) (L := [(0, .d (.ag (eRt R1))), (1, .d (.ag (eRt R0)))]) Try.func38 rfl rfl rfl rfl rfl (fun w0 U0 => ?_)
  refine a_rseq ?_
  refine rg_nam (d := 2) (v := .pt 101 0) (m := 101) (nw := [(101, .bx 46 (eRt R1))]) rfl (og rfl (of_eff (op_box 101 rfl rfl rfl rfl) rfl)) rfl ?_
  refine rg_nam (d := 3) (v := .pt 102 0) (m := 102) (nw := [(102, .bx 46 (eRt R0))]) rfl (og rfl (of_eff (op_box 102 rfl rfl rfl rfl) rfl)) rfl ?_
  refine rg_put (d := 4) (v := .d (.fl (.int .i64 0))) rfl (og rfl (op_assign rfl rfl rfl)) ?_
  refine rg_done rfl ?_
  refine a_dseq (by kernel_rfl) ?_
  refine dr_put (d := 5) (v := .pt 101 0) rfl (og rfl (of_eff (s_field_pt rfl Try.underlying46 rfl ti9 rfl rfl rfl) rfl)) ?_
  refine dr_put (d := 6) (v := .d (.fl (.string R1.fr))) rfl (og rfl (op_load_pt rfl Try.underlying9 rfl rfl rfl rfl rfl)) ?_
  refine dr_put (d := 7) (v := .pt 102 0) rfl (og rfl (of_eff (s_field_pt rfl Try.underlying46 rfl ti9 rfl rfl rfl) rfl)) ?_
  refine dr_put (d := 8) (v := .d (.fl (.string R0.fr))) rfl (og rfl (op_load_pt rfl Try.underlying9 rfl rfl rfl rfl rfl)) ?_
  refine dr_put (d := 9) (v := .d (.fl (.int .i64 (0 : Int)))) rfl (og rfl (op_call rfl Try.func40 nm40 rfl (.cons rfl (.d _) (.cons rfl (.d _) .nil)) cmp40A rfl)) ?_
  refine dr_put (d := 10) (v := .pt 101 1) rfl (og rfl (of_eff (s_field_pt rfl Try.underlying46 rfl ti9 rfl rfl rfl) rfl)) ?_
  refine dr_put (d := 11) (v := .d (.fl (.string R1.to))) rfl (og rfl (op_load_pt rfl Try.underlying9 rfl rfl rfl rfl rfl)) ?_
  refine dr_put (d := 12) (v := .pt 102 1) rfl (og rfl (of_eff (s_field_pt rfl Try.underlying46 rfl ti9 rfl rfl rfl) rfl)) ?_
  refine dr_put (d := 13) (v := .d (.fl (.string R0.to))) rfl (og rfl (op_load_pt rfl Try.underlying9 rfl rfl rfl rfl rfl)) ?_
  refine dr_put (d := 14) (v := .d (.fl (.int .i64 (0 : Int)))) rfl (og rfl (op_call rfl Try.func40 nm40 rfl (.cons rfl (.d _) (.cons rfl (.d _) .nil)) cmp40B rfl)) ?_
  refine dr_put (d := 15) (v := .pt 101 3) rfl (og rfl (of_eff (s_field_pt rfl Try.underlying46 rfl ti9 rfl rfl rfl) rfl)) ?_
  refine dr_put (d := 16) (v := .d (.fl (.string R1.band))) rfl (og rfl (op_load_pt rfl Try.underlying9 rfl rfl rfl rfl rfl)) ?_
  refine dr_put (d := 17) (v := .pt 102 3) rfl (og rfl (of_eff (s_field_pt rfl Try.underlying46 rfl ti9 rfl rfl rfl) rfl)) ?_
  refine dr_put (d := 18) (v := .d (.fl (.string R0.band))) rfl (og rfl (op_load_pt rfl Try.underlying9 rfl rfl rfl rfl rfl)) ?_
  refine dr_put (d := 19) (v := .d (.fl (.int .i64 (-1 : Int)))) rfl (og rfl (op_call rfl Try.func40 nm40 rfl (.cons rfl (.d _) (.cons rfl (.d _) .nil)) cmp40C rfl)) ?_
  refine dr_put (d := 20) (v := .d (.sl 1 (List.map (rI .i64) [(0 : Int), (0 : Int), (-1 : Int)]))) rfl (og rfl (of_eff (op_slices rfl Try.underlying73 ti3 rfl rfl rfl (by kernel_rfl) (xs := [.fl (.int .i64 (0 : Int)), .fl (.int .i64 (0 : Int)), .fl (.int .i64 (-1 : Int))]) rfl rfl (.cons rfl rfl (.d _) rfl rfl rfl (.cons rfl rfl (.d _) rfl rfl rfl (.cons rfl rfl (.d _) rfl rfl rfl .nil))) rfl) rfl)) ?_
  refine dr_put (d := 21) (v := .d (.fl (.int .i64 (-1 : Int)))) rfl (og rfl (op_call rfl Try.func39 nm39 rfl (.cons rfl (.d _) .nil) or39 rfl)) ?_
  refine dr_put (d := 4) (v := .d (.fl (.int .i64 (-1 : Int)))) rfl (og rfl (op_assign rfl rfl rfl)) ?_
  refine dr_done rfl (sepB_of [0, 1, 0, 4, 15, 0, 32, 0, 128, 511, 0, 1024, 0, 4096, 16383, 32767, 65535, 131071] (by kernel_rfl)) (by kernel_rfl) ?_
  refine a_ret ?_
  show ∃ ds, ResL _ _ _ ds ∧ RV.of ds = _
  refine ⟨[.fl (.int .i64 (-1 : Int))], (.cons (.tmp rfl (.d _)) .nil), ?_⟩
  rfl
set_option maxHeartbeats 4000000 in
set_option maxRecDepth 100000 in
theorem ins43  : CtrM Try.prog 43 .r (.tr 46 5 (tD eRt [R0, R1])) [.fl (.int .i64 0), .fl (.int .i64 2), .fn 38 []] (.tr 46 5 (tD eRt [R1, R0])) (.tu []) := by
  refine ctrM (n := 53) (rs := #[]) (L := [(1, .d (.fl (.int .i64 0))), (2, .d (.fl (.int .i64 2))), (3, .d (.fn 38 []))]) Try.func43 rfl rfl rfl rfl rfl rfl rfl (fun w0 U0 v0 H0 V0 Q0 => ?_)
  refine a_rseq ?_
  refine rg_put (d := 10) (v := .d (.fl (.int .i64 (0 : Int)))) rfl (og rfl (op_move rfl rfl rfl)) ?_
  refine rg_put (d := 11) (v := .d (.fl (.int .i64 (1 : Int)))) rfl (og rfl (op_bin rfl rfl rfl (fun x y w => b_add64 _ _ _ x y w (by decide)) rfl)) ?_
  refine rg_put (d := 8) (v := .d (.fl (.int .i64 (1 : Int)))) rfl (og rfl (op_assign rfl rfl rfl)) ?_
  refine rg_done rfl ?_
  refine a_block ?_
  refine a_rounds (n := 1000000) ?_
  refine ard_succ ?_
  refine a_imp (τ := SS [(0, .pw 0 v0), (1, .d (.fl (.int .i64 0))), (2, .d (.fl (.int .i64 2))), (3, .d (.fn 38 [])), (8, .d (.fl (.int .i64 (1 : Int))))] [(0, .tr 46 5 (tD eRt [R0, R1])), (1, .pin H0 V0 Q0)]) (imp_forget rfl ⟨rfl, rfl, rfl, rfl, rfl, trivial⟩ ⟨rfl, rfl, trivial⟩) ?_
  refine a_seq ?_
  refine a_rseq ?_
  refine rg_put (d := 12) (v := .d (.fl (.int .i64 (1 : Int)))) rfl (og rfl (op_move rfl rfl rfl)) ?_
  refine rg_put (d := 13) (v := .d (.fl (.int .i64 (2 : Int)))) rfl (og rfl (op_move rfl rfl rfl)) ?_
  refine rg_put (d := 14) (v := .d (.fl (.bool true))) rfl (og rfl (op_bin rfl rfl rfl (b_lss _ _ _ _) rfl)) ?_
  refine rg_done rfl ?_
  refine a_condK rfl rfl ?_
  refine a_skip ?_
  show A _ _ _ _ _ _ _
  refine a_seq ?_
  refine a_block ?_
  refine a_rseq ?_
  refine rg_put (d := 17) (v := .d (.fl (.int .i64 (1 : Int)))) rfl (og rfl (op_move rfl rfl rfl)) ?_
  refine rg_put (d := 9) (v := .d (.fl (.int .i64 (1 : Int)))) rfl (og rfl (op_assign rfl rfl rfl)) ?_
  refine rg_done rfl ?_
  refine a_block ?_
  refine a_rounds (n := 1000000) ?_
  refine ard_succ ?_
  refine a_imp (τ := SS [(0, .pw 0 v0), (1, .d (.fl (.int .i64 0))), (2, .d (.fl (.int .i64 2))), (3, .d (.fn 38 [])), (8, .d (.fl (.int .i64 (1 : Int)))), (9, .d (.fl (.int .i64 (1 : Int)))), (14, .d (.fl (.bool true)))] [(0, .tr 46 5 (tD eRt [R0, R1])), (1, .pin H0 V0 Q0)]) (imp_forget rfl ⟨rfl, rfl, rfl, rfl, rfl, rfl, rfl, trivial⟩ ⟨rfl, rfl, trivial⟩) ?_
  refine a_seq ?_
  refine a_dseq (by kernel_rfl) ?_
  refine dr_put (d := 18) (v := .d (.fl (.int .i64 (1 : Int)))) rfl (og rfl (op_move rfl rfl rfl)) ?_
  refine dr_put (d := 19) (v := .d (.fl (.int .i64 (0 : Int)))) rfl (og rfl (op_move rfl rfl rfl)) ?_
  refine dr_put (d := 20) (v := .d (.fl (.bool true))) rfl (og rfl (op_bin rfl rfl rfl (b_gtr _ _ _ _) rfl)) ?_
  refine dr_put (d := 21) (v := .d (.fl (.bool true))) rfl (og rfl (op_move rfl rfl rfl)) ?_
  refine dr_put (d := 22) (v := .d (.fn 38 [])) rfl (oy rfl rfl rfl rfl (op_move rfl rfl rfl)) ?_
  refine dr_put (d := 23) (v := .ow 0) rfl (oy rfl rfl rfl rfl (op_move_pw rfl rfl rfl)) ?_
  refine dr_put (d := 24) (v := .d (.fl (.int .i64 (1 : Int)))) rfl (oy rfl rfl rfl rfl (op_move rfl rfl rfl)) ?_
  refine dr_put (d := 25) (v := .pe 0 5 1 0) rfl (oy rfl rfl rfl rfl (op_index_tr rfl Try.underlying26 ti46 rfl rfl rfl (get_lt (tD_at (by decide))) rfl)) ?_
  refine dr_put (d := 26) (v := .d (.ag (eRt (ix [R0, R1] 1)))) rfl (oy rfl rfl rfl rfl (of_eff (op_load_pes rfl Try.underlying46 rfl ti46 rfl rfl (tD_at (by decide)) rfl rfl rfl) rfl)) ?_
  refine dr_put (d := 27) (v := .ow 0) rfl (oy rfl rfl rfl rfl (op_move_pw rfl rfl rfl)) ?_
  refine dr_put (d := 28) (v := .d (.fl (.int .i64 (1 : Int)))) rfl (oy rfl rfl rfl rfl (op_move rfl rfl rfl)) ?_
  refine dr_put (d := 29) (v := .d (.fl (.int .i64 (0 : Int)))) rfl (oy rfl rfl rfl rfl (op_bin rfl rfl rfl (fun x y w => b_sub64 _ _ _ x y w (by decide)) rfl)) ?_
  refine dr_put (d := 30) (v := .pe 0 5 0 0) rfl (oy rfl rfl rfl rfl (op_index_tr rfl Try.underlying26 ti46 rfl rfl rfl (get_lt (tD_at (by decide))) rfl)) ?_
  refine dr_put (d := 31) (v := .d (.ag (eRt (ix [R0, R1] 0)))) rfl (oy rfl rfl rfl rfl (of_eff (op_load_pes rfl Try.underlying46 rfl ti46 rfl rfl (tD_at (by decide)) rfl rfl rfl) rfl)) ?_
  refine dr_put (d := 32) (v := .d (.fl (.int .i64 (-1 : Int)))) rfl (oy rfl rfl rfl rfl (op_callV rfl rfl ⟨_, Try.func38, nm38, rfl⟩ (.cons rfl (.d _) (.cons rfl (.d _) .nil)) clo38 rfl)) ?_
  refine dr_put (d := 33) (v := .d (.fl (.bool true))) rfl (oy rfl rfl rfl rfl (op_bin rfl rfl rfl (b_lss _ _ _ _) rfl)) ?_
  refine dr_put (d := 34) (v := .d (.fl (.bool true))) rfl (og rfl (op_pick rfl rfl rfl rfl)) ?_
  refine dr_done rfl (sepB_of [0, 0, 3, 7, 15, 15, 15, 111, 239, 15, 15, 1039, 3599, 7695, 16383, 32767, 65535] (by kernel_rfl)) (by kernel_rfl) ?_
  refine a_condK rfl rfl ?_
  refine a_skip ?_
  show A _ _ _ _ _ _ _
  refine a_seq ?_
  refine a_block ?_
  refine a_draw (by kernel_rfl) ?_
  refine dr_put (d := 37) (v := .ow 0) rfl (og rfl (op_move_pw rfl rfl rfl)) ?_
  refine dr_put (d := 38) (v := .d (.fl (.int .i64 (1 : Int)))) rfl (og rfl (op_move rfl rfl rfl)) ?_
  refine dr_put (d := 39) (v := .ow 0) rfl (og rfl (op_move_pw rfl rfl rfl)) ?_
  refine dr_put (d := 40) (v := .d (.fl (.int .i64 (1 : Int)))) rfl (og rfl (op_move rfl rfl rfl)) ?_
  refine dr_put (d := 41) (v := .d (.fl (.int .i64 (0 : Int)))) rfl (og rfl (op_bin rfl rfl rfl (fun x y w => b_sub64 _ _ _ x y w (by decide)) rfl)) ?_
  refine dr_put (d := 42) (v := .ow 0) rfl (og rfl (op_move_pw rfl rfl rfl)) ?_
  refine dr_put (d := 43) (v := .d (.fl (.int .i64 (1 : Int)))) rfl (og rfl (op_move rfl rfl rfl)) ?_
  refine dr_put (d := 44) (v := .d (.fl (.int .i64 (0 : Int)))) rfl (og rfl (op_bin rfl rfl rfl (fun x y w => b_sub64 _ _ _ x y w (by decide)) rfl)) ?_
  refine dr_put (d := 45) (v := .pe 0 5 0 0) rfl (og rfl (op_index_tr rfl Try.underlying26 ti46 rfl rfl rfl (get_lt (tD_at (by decide))) rfl)) ?_
  refine dr_put (d := 46) (v := .d (.ag (eRt (ix [R0, R1] 0)))) rfl (og rfl (of_eff (op_load_pes rfl Try.underlying46 rfl ti46 rfl rfl (tD_at (by decide)) rfl rfl rfl) rfl)) ?_
  refine dr_put (d := 47) (v := .ow 0) rfl (og rfl (op_move_pw rfl rfl rfl)) ?_
  refine dr_put (d := 48) (v := .d (.fl (.int .i64 (1 : Int)))) rfl (og rfl (op_move rfl rfl rfl)) ?_
  refine dr_put (d := 49) (v := .pe 0 5 1 0) rfl (og rfl (op_index_tr rfl Try.underlying26 ti46 rfl rfl rfl (get_lt (tD_at (by decide))) rfl)) ?_
  refine dr_put (d := 50) (v := .d (.ag (eRt (ix [R0, R1] 1)))) rfl (og rfl (of_eff (op_load_pes rfl Try.underlying46 rfl ti46 rfl rfl (tD_at (by decide)) rfl rfl rfl) rfl)) ?_
  refine dr_put (d := 51) (v := .pe 0 5 1 0) rfl (og rfl (op_index_tr rfl Try.underlying26 ti46 rfl rfl rfl (get_lt (tD_at (by decide))) rfl)) ?_
  refine dr_sto (nw := [(0, .tr 46 5 (((tD eRt [R0, R1]).set 1 [.dv (.fl (.string ((ix [R0, R1] 0).fr))), .dv (.fl (.string ((ix [R0, R1] 0).to))), .dv (.fl (.int .i64 ((ix [R0, R1] 0).cls))), .dv (.fl (.string ((ix [R0, R1] 0).band))), .dv (.fl (.int .i64 ((ix [R0, R1] 0).cents)))])))]) rfl (og rfl (of_eff (op_store_pe rfl rfl ti46 rfl rfl (tD_at (by decide)) rfl (.d rfl) rfl rfl rfl) rfl)) ?_
  refine dr_put (d := 52) (v := .pe 0 5 0 0) rfl (og rfl (op_index_tr rfl Try.underlying26 ti46 rfl rfl rfl (get_lt rfl) rfl)) ?_
  refine dr_sto (nw := [(0, .tr 46 5 ((((((tD eRt [R0, R1]).set 1 [.dv (.fl (.string ((ix [R0, R1] 0).fr))), .dv (.fl (.string ((ix [R0, R1] 0).to))), .dv (.fl (.int .i64 ((ix [R0, R1] 0).cls))), .dv (.fl (.string ((ix [R0, R1] 0).band))), .dv (.fl (.int .i64 ((ix [R0, R1] 0).cents)))]))).set 0 [.dv (.fl (.string ((ix [R0, R1] 1).fr))), .dv (.fl (.string ((ix [R0, R1] 1).to))), .dv (.fl (.int .i64 ((ix [R0, R1] 1).cls))), .dv (.fl (.string ((ix [R0, R1] 1).band))), .dv (.fl (.int .i64 ((ix [R0, R1] 1).cents)))])))]) rfl (og rfl (of_eff (op_store_pe rfl rfl ti46 rfl rfl rfl rfl (.d rfl) rfl rfl rfl) rfl)) ?_
  refine dr_done rfl (sepB_of [0, 0, 0, 0, 8, 0, 0, 64, 224, 480, 0, 0, 3072, 7168, 16355, 32739, 65535, 131071] (by kernel_rfl)) (by kernel_rfl) ?_
  show A _ _ _ _ _ _ _
  refine a_region ?_
  refine rg_put (d := 35) (v := .d (.fl (.int .i64 (1 : Int)))) rfl (og rfl (op_move rfl rfl rfl)) ?_
  refine rg_put (d := 36) (v := .d (.fl (.int .i64 (0 : Int)))) rfl (og rfl (op_bin rfl rfl rfl (fun x y w => b_sub64 _ _ _ x y w (by decide)) rfl)) ?_
  refine rg_put (d := 9) (v := .d (.fl (.int .i64 (0 : Int)))) rfl (og rfl (op_assign rfl rfl rfl)) ?_
  refine rg_done rfl ?_
  show ARd _ _ _ _ _ _ _ _
  refine ard_succ ?_
  refine a_imp (τ := SS [(0, .pw 0 v0), (1, .d (.fl (.int .i64 0))), (2, .d (.fl (.int .i64 2))), (3, .d (.fn 38 [])), (8, .d (.fl (.int .i64 (1 : Int)))), (9, .d (.fl (.int .i64 (0 : Int)))), (14, .d (.fl (.bool true))), (34, .d (.fl (.bool true)))] [(0, .tr 46 5 ((((((tD eRt [R0, R1]).set 1 [.dv (.fl (.string ((ix [R0, R1] 0).fr))), .dv (.fl (.string ((ix [R0, R1] 0).to))), .dv (.fl (.int .i64 ((ix [R0, R1] 0).cls))), .dv (.fl (.string ((ix [R0, R1] 0).band))), .dv (.fl (.int .i64 ((ix [R0, R1] 0).cents)))]))).set 0 [.dv (.fl (.string ((ix [R0, R1] 1).fr))), .dv (.fl (.string ((ix [R0, R1] 1).to))), .dv (.fl (.int .i64 ((ix [R0, R1] 1).cls))), .dv (.fl (.string ((ix [R0, R1] 1).band))), .dv (.fl (.int .i64 ((ix [R0, R1] 1).cents)))]))), (1, .pin H0 V0 Q0)]) (imp_forget rfl ⟨rfl, rfl, rfl, rfl, rfl, rfl, rfl, rfl, trivial⟩ ⟨rfl, rfl, trivial⟩) ?_
  refine a_seq ?_
  refine a_dseq (by kernel_rfl) ?_
  refine dr_put (d := 18) (v := .d (.fl (.int .i64 (0 : Int)))) rfl (og rfl (op_move rfl rfl rfl)) ?_
  refine dr_put (d := 19) (v := .d (.fl (.int .i64 (0 : Int)))) rfl (og rfl (op_move rfl rfl rfl)) ?_
  refine dr_put (d := 20) (v := .d (.fl (.bool false))) rfl (og rfl (op_bin rfl rfl rfl (b_gtr _ _ _ _) rfl)) ?_
  refine dr_put (d := 21) (v := .d (.fl (.bool false))) rfl (og rfl (op_move rfl rfl rfl)) ?_
  refine dr_put (d := 22) (v := .d (.fl undef)) rfl (on rfl rfl rfl rfl) ?_
  refine dr_put (d := 23) (v := .d (.fl undef)) rfl (on rfl rfl rfl rfl) ?_
  refine dr_put (d := 24) (v := .d (.fl undef)) rfl (on rfl rfl rfl rfl) ?_
  refine dr_put (d := 25) (v := .d (.fl undef)) rfl (on rfl rfl rfl rfl) ?_
  refine dr_put (d := 26) (v := .d (.fl undef)) rfl (on rfl rfl rfl rfl) ?_
  refine dr_put (d := 27) (v := .d (.fl undef)) rfl (on rfl rfl rfl rfl) ?_
  refine dr_put (d := 28) (v := .d (.fl undef)) rfl (on rfl rfl rfl rfl) ?_
  refine dr_put (d := 29) (v := .d (.fl undef)) rfl (on rfl rfl rfl rfl) ?_
  refine dr_put (d := 30) (v := .d (.fl undef)) rfl (on rfl rfl rfl rfl) ?_
  refine dr_put (d := 31) (v := .d (.fl undef)) rfl (on rfl rfl rfl rfl) ?_
  refine dr_put (d := 32) (v := .d (.fl undef)) rfl (on rfl rfl rfl rfl) ?_
  refine dr_put (d := 33) (v := .d (.fl undef)) rfl (on rfl rfl rfl rfl) ?_
  refine dr_put (d := 34) (v := .d (.fl (.bool false))) rfl (og rfl (op_pick rfl rfl rfl rfl)) ?_
  refine dr_done rfl (sepB_of [0, 0, 3, 7, 15, 15, 15, 111, 239, 15, 15, 1039, 3599, 7695, 16383, 32767, 65535] (by kernel_rfl)) (by kernel_rfl) ?_
  refine a_condF rfl rfl ?_
  refine a_exit ?_
  show A _ _ _ _ _ _ _
  refine a_region ?_
  refine rg_put (d := 15) (v := .d (.fl (.int .i64 (1 : Int)))) rfl (og rfl (op_move rfl rfl rfl)) ?_
  refine rg_put (d := 16) (v := .d (.fl (.int .i64 (2 : Int)))) rfl (og rfl (op_bin rfl rfl rfl (fun x y w => b_add64 _ _ _ x y w (by decide)) rfl)) ?_
  refine rg_put (d := 8) (v := .d (.fl (.int .i64 (2 : Int)))) rfl (og rfl (op_assign rfl rfl rfl)) ?_
  refine rg_done rfl ?_
  show ARd _ _ _ _ _ _ _ _
  refine ard_succ ?_
  refine a_imp (τ := SS [(0, .pw 0 v0), (1, .d (.fl (.int .i64 0))), (2, .d (.fl (.int .i64 2))), (3, .d (.fn 38 [])), (8, .d (.fl (.int .i64 (2 : Int)))), (9, .d (.fl (.int .i64 (0 : Int)))), (14, .d (.fl (.bool true))), (34, .d (.fl (.bool false)))] [(0, .tr 46 5 ((((((tD eRt [R0, R1]).set 1 [.dv (.fl (.string ((ix [R0, R1] 0).fr))), .dv (.fl (.string ((ix [R0, R1] 0).to))), .dv (.fl (.int .i64 ((ix [R0, R1] 0).cls))), .dv (.fl (.string ((ix [R0, R1] 0).band))), .dv (.fl (.int .i64 ((ix [R0, R1] 0).cents)))]))).set 0 [.dv (.fl (.string ((ix [R0, R1] 1).fr))), .dv (.fl (.string ((ix [R0, R1] 1).to))), .dv (.fl (.int .i64 ((ix [R0, R1] 1).cls))), .dv (.fl (.string ((ix [R0, R1] 1).band))), .dv (.fl (.int .i64 ((ix [R0, R1] 1).cents)))]))), (1, .pin H0 V0 Q0)]) (imp_forget rfl ⟨rfl, rfl, rfl, rfl, rfl, rfl, rfl, rfl, trivial⟩ ⟨rfl, rfl, trivial⟩) ?_
  refine a_seq ?_
  refine a_rseq ?_
  refine rg_put (d := 12) (v := .d (.fl (.int .i64 (2 : Int)))) rfl (og rfl (op_move rfl rfl rfl)) ?_
  refine rg_put (d := 13) (v := .d (.fl (.int .i64 (2 : Int)))) rfl (og rfl (op_move rfl rfl rfl)) ?_
  refine rg_put (d := 14) (v := .d (.fl (.bool false))) rfl (og rfl (op_bin rfl rfl rfl (b_lss _ _ _ _) rfl)) ?_
  refine rg_done rfl ?_
  refine a_condF rfl rfl ?_
  refine a_exit ?_
  show (∃ ds, ResL _ _ _ ds ∧ RV.of ds = _) ∧ _ = _ ∧ _ = _ ∧ _ = _
  refine ⟨⟨[], .nil, ?_⟩, rfl, ?_, rfl⟩
  all_goals rfl
set_option maxHeartbeats 4000000 in
set_option maxRecDepth 100000 in
theorem stab41  : CtrM Try.prog 41 .r (.tr 46 5 (tD eRt [R0, R1])) [.fl (.int .i64 2), .fn 38 []] (.tr 46 5 (tD eRt [R1, R0])) (.tu []) := by
  refine ctrM (n := 63) (rs := #[]) (L := [(1, .d (.fl (.int .i64 2))), (2, .d (.fn 38 []))]) Try.func41 rfl rfl rfl rfl rfl rfl rfl (fun w0 U0 v0 H0 V0 Q0 => ?_)
  refine a_rseq ?_
  refine rg_put (d := 6) (v := .d (.fl (.int .i64 (20 : Int)))) rfl (og rfl (op_assign rfl rfl rfl)) ?_
  refine rg_done rfl ?_
  refine a_rseq ?_
  refine rg_put (d := 10) (v := .d (.fl (.int .i64 (20 : Int)))) rfl (og rfl (op_move rfl rfl rfl)) ?_
  refine rg_put (d := 7) (v := .d (.fl (.int .i64 (0 : Int)))) rfl (og rfl (op_assign rfl rfl rfl)) ?_
  refine rg_put (d := 8) (v := .d (.fl (.int .i64 (20 : Int)))) rfl (og rfl (op_assign rfl rfl rfl)) ?_
  refine rg_done rfl ?_
  refine a_seq ?_
  refine a_block ?_
  refine a_rounds (n := 1000000) ?_
  refine ard_succ ?_
  refine a_imp (τ := SS [(0, .pw 0 v0), (1, .d (.fl (.int .i64 2))), (2, .d (.fn 38 [])), (6, .d (.fl (.int .i64 (20 : Int)))), (7, .d (.fl (.int .i64 (0 : Int)))), (8, .d (.fl (.int .i64 (20 : Int))))] [(0, .tr 46 5 (tD eRt [R0, R1])), (1, .pin H0 V0 Q0)]) (imp_forget rfl ⟨rfl, rfl, rfl, rfl, rfl, rfl, trivial⟩ ⟨rfl, rfl, trivial⟩) ?_
  refine a_seq ?_
  refine a_rseq ?_
  refine rg_put (d := 11) (v := .d (.fl (.int .i64 (20 : Int)))) rfl (og rfl (op_move rfl rfl rfl)) ?_
  refine rg_put (d := 12) (v := .d (.fl (.int .i64 (2 : Int)))) rfl (og rfl (op_move rfl rfl rfl)) ?_
  refine rg_put (d := 13) (v := .d (.fl (.bool false))) rfl (og rfl (op_bin rfl rfl rfl (b_leq _ _ _ _) rfl)) ?_
  refine rg_done rfl ?_
  refine a_condF rfl rfl ?_
  refine a_exit ?_
  show A _ _ _ _ _ _ _
  refine a_rseq ?_
  refine rg_put (d := 23) (v := .ow 0) rfl (og rfl (op_move_pw rfl rfl rfl)) ?_
  refine rg_put (d := 24) (v := .d (.fl (.int .i64 (0 : Int)))) rfl (og rfl (op_move rfl rfl rfl)) ?_
  refine rg_put (d := 25) (v := .d (.fl (.int .i64 (2 : Int)))) rfl (og rfl (op_move rfl rfl rfl)) ?_
  refine rg_put (d := 26) (v := .d (.fn 38 [])) rfl (og rfl (op_move rfl rfl rfl)) ?_
  refine rg_upd (d := 27) (v := .tu []) (nw := [(0, .tr 46 5 (tD eRt [R1, R0]))]) rfl (og rfl (of_eff (op_callM .r (m := 0) (ob := .tr 46 5 (tD eRt [R0, R1])) (ob' := .tr 46 5 (tD eRt [R1, R0])) (r := .tu []) rfl Try.func43 nm43 rfl rfl rfl rfl rfl rfl (.cons rfl (.d _) (.cons rfl (.d _) (.cons rfl (.d _) .nil))) ins43 rfl) rfl)) ?_
  refine rg_done rfl ?_
  refine a_block ?_
  refine a_rounds (n := 1000000) ?_
  refine ard_succ ?_
  refine a_imp (τ := SS [(0, .pw 0 v0), (1, .d (.fl (.int .i64 2))), (2, .d (.fn 38 [])), (6, .d (.fl (.int .i64 (20 : Int)))), (7, .d (.fl (.int .i64 (0 : Int)))), (8, .d (.fl (.int .i64 (20 : Int)))), (13, .d (.fl (.bool false)))] [(0, .tr 46 5 (tD eRt [R1, R0])), (1, .pin H0 V0 Q0)]) (imp_forget rfl ⟨rfl, rfl, rfl, rfl, rfl, rfl, rfl, trivial⟩ ⟨rfl, rfl, trivial⟩) ?_
  refine a_seq ?_
  refine a_rseq ?_
  refine rg_put (d := 28) (v := .d (.fl (.int .i64 (20 : Int)))) rfl (og rfl (op_move rfl rfl rfl)) ?_
  refine rg_put (d := 29) (v := .d (.fl (.int .i64 (2 : Int)))) rfl (og rfl (op_move rfl rfl rfl)) ?_
  refine rg_put (d := 30) (v := .d (.fl (.bool false))) rfl (og rfl (op_bin rfl rfl rfl (b_lss _ _ _ _) rfl)) ?_
  refine rg_done rfl ?_
  refine a_condF rfl rfl ?_
  refine a_exit ?_
  show (∃ ds, ResL _ _ _ ds ∧ RV.of ds = _) ∧ _ = _ ∧ _ = _ ∧ _ = _
  refine ⟨⟨[], .nil, ?_⟩, rfl, ?_, rfl⟩
  all_goals rfl
set_option maxHeartbeats 4000000 in
set_option maxRecDepth 100000 in
theorem sort37  : CtrM Try.prog 37 .r (.tr 46 5 (tD eRt [R0, R1])) [.fn 38 []] (.tr 46 5 (tD eRt [R1, R0])) (.tu []) := by
  refine ctrM (n := 9) (rs := #[]) (L := [(1, .d (.fn 38 []))]) Try.func37 rfl rfl rfl rfl rfl rfl rfl (fun w0 U0 v0 H0 V0 Q0 => ?_)
  refine a_region ?_
  refine rg_put (d := 4) (v := .ow 0) rfl (og rfl (op_move_pw rfl rfl rfl)) ?_
  refine rg_put (d := 5) (v := .ow 0) rfl (og rfl (op_move_pw rfl rfl rfl)) ?_
  refine rg_put (d := 6) (v := .d (.fl (.int .i64 ((([R0, R1]).length : Int))))) rfl (og rfl (op_len_tr rfl Try.underlying26 rfl rfl tD_len rfl)) ?_
  refine rg_put (d := 7) (v := .d (.fn 38 [])) rfl (og rfl (op_move rfl rfl rfl)) ?_
  refine rg_upd (d := 8) (v := .tu []) (nw := [(0, .tr 46 5 (tD eRt [R1, R0]))]) rfl (og rfl (of_eff (op_callM .r (m := 0) (ob := .tr 46 5 (tD eRt [R0, R1])) (ob' := .tr 46 5 (tD eRt [R1, R0])) (r := .tu []) rfl Try.func41 nm41 rfl rfl rfl rfl rfl rfl (.cons rfl (.d _) (.cons rfl (.d _) .nil)) stab41 rfl) rfl)) ?_
  refine rg_done rfl ?_
  show (∃ ds, ResL _ _ _ ds ∧ RV.of ds = _) ∧ _ = _ ∧ _ = _ ∧ _ = _
  refine ⟨⟨[], .nil, ?_⟩, rfl, ?_, rfl⟩
  all_goals rfl
end Go.Proofs.Ytgcagigpolnjfaa.Wk
