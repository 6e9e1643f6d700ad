/- Deeds. Condition: lists that are not great. -/
import Derived.Test.YtocjbombpggmeaaB16
set_option linter.unusedSimpArgs false
set_option linter.unusedVariables false
namespace Go.Proofs.Ytocjbombpggmeaa.Wk
open Go Go.RowKit Go.Proofs.Ytocjbombpggmeaa.Av
def doe (l : List Dp) (d : Dd) : (List Dp × Int) × Int :=
  if (d.kind == 0) = true then (((opn l d.key d.cents d.t).1, 0), (opn l d.key d.cents d.t).2) else
  if (d.kind == 1) = true then (((prove l d.key d.id d.t).1, 0), (prove l d.key d.id d.t).2) else
  if (d.kind == 2) = true then (((decid l d.key d.accept d.t).1.1, (decid l d.key d.accept d.t).1.2), (decid l d.key d.accept d.t).2) else
  if (d.kind == 3) = true then (((withdraw l d.key).1, 0), (withdraw l d.key).2) else
  ((exl l d.t l.length, exs l d.t l.length), 0)

set_option maxHeartbeats 4000000 in
set_option maxRecDepth 100000 in
theorem does12 (l : List Dp) (d : Dd) (hl : l.length ≤ 1100) (hb : ∀ q, q < l.length → (ix l q).proofs.length ≤ 2000) (hc : ∀ q, q < l.length → 0 ≤ (ix l q).cents ∧ (ix l q).cents ≤ 1125899906842625) (hw : ∀ q, q < l.length → -68719476736 ≤ (ix l q).time ∧ (ix l q).time ≤ 137438953472) : Ctr Try.prog 12 [.sl 5 (List.map eDp l), .ag (eDd d)] (.tu [.sl 5 (List.map eDp (doe l d).1.1), .fl (.int .i64 (doe l d).1.2), .fl (.int .i64 (doe l d).2)]) := by
  have hw2 : ∀ q, q < l.length → -9223372036854775808 ≤ (ix l q).time := fun q h => by have := hw q h; omega
  refine ctr (n := 80) (rs := #[.tmp 4, .tmp 5, .tmp 6]) (L := [(0, .d (.sl 5 (List.map eDp l))), (1, .d (.ag (eDd d)))]) Try.func12 rfl rfl rfl rfl rfl (fun w0 U0 => ?_)
  refine a_rseq ?_
  refine rg_nam (d := 3) (v := .pt 101 0) (m := 101) (nw := [(101, .bx 29 (eDd d))]) rfl (og rfl (of_eff (op_box 101 rfl rfl rfl rfl) rfl)) rfl ?_
  refine rg_put (d := 4) (v := .d (.fl (.slice none 0 0))) rfl (og rfl (op_assign rfl rfl rfl)) ?_
  refine rg_put (d := 5) (v := .d (.fl (.int .i64 0))) rfl (og rfl (op_assign rfl rfl rfl)) ?_
  refine rg_put (d := 6) (v := .d (.fl (.int .i64 0))) rfl (og rfl (op_assign rfl rfl rfl)) ?_
  refine rg_done rfl ?_
  refine a_seq ?_
  refine a_rseq ?_
  refine rg_put (d := 15) (v := .pt 101 0) rfl (og rfl (of_eff (s_field_pt rfl Try.underlying29 rfl ti3 rfl rfl rfl) rfl)) ?_
  refine rg_put (d := 16) (v := .d (.fl (.int .i64 d.kind))) rfl (og rfl (op_load_pt rfl Try.underlying3 rfl rfl rfl rfl rfl)) ?_
  refine rg_done rfl ?_
  refine a_block ?_
  refine a_rseq ?_
  refine rg_put (d := 18) (v := .d (.fl (.bool (d.kind == 0)))) rfl (og rfl (op_bin rfl rfl rfl (b_eql _ _ _ _) rfl)) ?_
  refine rg_put (d := 17) (v := .d (.fl (.bool (d.kind == 0)))) rfl (og rfl (op_assign rfl rfl rfl)) ?_
  refine rg_done rfl ?_
  refine a_cond rfl (fun h1 => ?_) (fun h1 => ?_)
  · skip
    have h2 := t_beq h1
    refine a_rseq ?_
    refine rg_put (d := 20) (v := .d (.sl 5 (List.map eDp l))) rfl (og rfl (op_move rfl rfl rfl)) ?_
    refine rg_put (d := 21) (v := .pt 101 1) rfl (og rfl (of_eff (s_field_pt rfl Try.underlying29 rfl ti9 rfl rfl rfl) rfl)) ?_
    refine rg_put (d := 22) (v := .d (.fl (.string d.key))) rfl (og rfl (op_load_pt rfl Try.underlying9 rfl rfl rfl rfl rfl)) ?_
    refine rg_put (d := 23) (v := .pt 101 3) rfl (og rfl (of_eff (s_field_pt rfl Try.underlying29 rfl ti3 rfl rfl rfl) rfl)) ?_
    refine rg_put (d := 24) (v := .d (.fl (.int .i64 d.cents))) rfl (og rfl (op_load_pt rfl Try.underlying3 rfl rfl rfl rfl rfl)) ?_
    refine rg_put (d := 25) (v := .pt 101 4) rfl (og rfl (of_eff (s_field_pt rfl Try.underlying29 rfl ti3 rfl rfl rfl) rfl)) ?_
    refine rg_put (d := 26) (v := .d (.fl (.int .i64 d.t))) rfl (og rfl (op_load_pt rfl Try.underlying3 rfl rfl rfl rfl rfl)) ?_
    refine rg_put (d := 27) (v := .tu [.sl 5 (List.map eDp ((opn l d.key d.cents d.t).1)), .fl (.int .i64 ((opn l d.key d.cents d.t).2))]) rfl (og rfl (op_call rfl Try.func15 nm15 rfl (.cons rfl (.d _) (.cons rfl (.d _) (.cons rfl (.d _) (.cons rfl (.d _) .nil)))) (open15 l d.key d.cents d.t (by omega) hb hw2) rfl)) ?_
    refine rg_put (d := 19) (v := .tu [.sl 5 (List.map eDp ((opn l d.key d.cents d.t).1)), .fl (.int .i64 ((opn l d.key d.cents d.t).2))]) rfl (og rfl (op_move rfl rfl rfl)) ?_
    refine rg_put (d := 28) (v := .d (.sl 5 (List.map eDp ((opn l d.key d.cents d.t).1)))) rfl (og rfl (op_extract rfl rfl rfl rfl)) ?_
    refine rg_put (d := 29) (v := .d (.fl (.int .i64 ((opn l d.key d.cents d.t).2)))) rfl (og rfl (op_extract rfl rfl rfl rfl)) ?_
    refine rg_put (d := 7) (v := .d (.sl 5 (List.map eDp ((opn l d.key d.cents d.t).1)))) rfl (og rfl (op_assign rfl rfl rfl)) ?_
    refine rg_put (d := 8) (v := .d (.fl (.int .i64 ((opn l d.key d.cents d.t).2)))) rfl (og rfl (op_assign rfl rfl rfl)) ?_
    refine rg_done rfl ?_
    refine a_rseq ?_
    refine rg_put (d := 30) (v := .d (.sl 5 (List.map eDp ((opn l d.key d.cents d.t).1)))) rfl (og rfl (op_move rfl rfl rfl)) ?_
    refine rg_put (d := 31) (v := .d (.fl (.int .i64 ((opn l d.key d.cents d.t).2)))) rfl (og rfl (op_move rfl rfl rfl)) ?_
    refine rg_put (d := 4) (v := .d (.sl 5 (List.map eDp ((opn l d.key d.cents d.t).1)))) rfl (og rfl (op_assign rfl rfl rfl)) ?_
    refine rg_put (d := 5) (v := .d (.fl (.int .i64 0))) rfl (og rfl (op_assign rfl rfl rfl)) ?_
    refine rg_put (d := 6) (v := .d (.fl (.int .i64 ((opn l d.key d.cents d.t).2)))) rfl (og rfl (op_assign rfl rfl rfl)) ?_
    refine rg_done rfl ?_
    refine a_ret ?_
    show ∃ ds, ResL _ _ _ ds ∧ RV.of ds = _
    refine ⟨[.sl 5 (List.map eDp ((opn l d.key d.cents d.t).1)), .fl (.int .i64 0), .fl (.int .i64 ((opn l d.key d.cents d.t).2))], (.cons (.tmp rfl (.d _)) (.cons (.tmp rfl (.d _)) (.cons (.tmp rfl (.d _)) .nil))), ?_⟩
    have hu : doe l d = (((opn l d.key d.cents d.t).1, 0), (opn l d.key d.cents d.t).2) := by
      unfold doe; simp only [h1]; rfl
    rw [hu]; rfl
  · skip
    have h3 := f_beq h1
    refine a_rseq ?_
    refine rg_put (d := 33) (v := .d (.fl (.bool (d.kind == 1)))) rfl (og rfl (op_bin rfl rfl rfl (b_eql _ _ _ _) rfl)) ?_
    refine rg_put (d := 32) (v := .d (.fl (.bool (d.kind == 1)))) rfl (og rfl (op_assign rfl rfl rfl)) ?_
    refine rg_done rfl ?_
    refine a_cond rfl (fun h4 => ?_) (fun h4 => ?_)
    · skip
      have h5 := t_beq h4
      refine a_rseq ?_
      refine rg_put (d := 35) (v := .d (.sl 5 (List.map eDp l))) rfl (og rfl (op_move rfl rfl rfl)) ?_
      refine rg_put (d := 36) (v := .pt 101 1) rfl (og rfl (of_eff (s_field_pt rfl Try.underlying29 rfl ti9 rfl rfl rfl) rfl)) ?_
      refine rg_put (d := 37) (v := .d (.fl (.string d.key))) rfl (og rfl (op_load_pt rfl Try.underlying9 rfl rfl rfl rfl rfl)) ?_
      refine rg_put (d := 38) (v := .pt 101 2) rfl (og rfl (of_eff (s_field_pt rfl Try.underlying29 rfl ti9 rfl rfl rfl) rfl)) ?_
      refine rg_put (d := 39) (v := .d (.fl (.string d.id))) rfl (og rfl (op_load_pt rfl Try.underlying9 rfl rfl rfl rfl rfl)) ?_
      refine rg_put (d := 40) (v := .pt 101 4) rfl (og rfl (of_eff (s_field_pt rfl Try.underlying29 rfl ti3 rfl rfl rfl) rfl)) ?_
      refine rg_put (d := 41) (v := .d (.fl (.int .i64 d.t))) rfl (og rfl (op_load_pt rfl Try.underlying3 rfl rfl rfl rfl rfl)) ?_
      refine rg_put (d := 42) (v := .tu [.sl 5 (List.map eDp ((prove l d.key d.id d.t).1)), .fl (.int .i64 ((prove l d.key d.id d.t).2))]) rfl (og rfl (op_call rfl Try.func16 nm16 rfl (.cons rfl (.d _) (.cons rfl (.d _) (.cons rfl (.d _) (.cons rfl (.d _) .nil)))) (prove16 l d.key d.id d.t (by omega) hb hw2) rfl)) ?_
      refine rg_put (d := 34) (v := .tu [.sl 5 (List.map eDp ((prove l d.key d.id d.t).1)), .fl (.int .i64 ((prove l d.key d.id d.t).2))]) rfl (og rfl (op_move rfl rfl rfl)) ?_
      refine rg_put (d := 43) (v := .d (.sl 5 (List.map eDp ((prove l d.key d.id d.t).1)))) rfl (og rfl (op_extract rfl rfl rfl rfl)) ?_
      refine rg_put (d := 44) (v := .d (.fl (.int .i64 ((prove l d.key d.id d.t).2)))) rfl (og rfl (op_extract rfl rfl rfl rfl)) ?_
      refine rg_put (d := 9) (v := .d (.sl 5 (List.map eDp ((prove l d.key d.id d.t).1)))) rfl (og rfl (op_assign rfl rfl rfl)) ?_
      refine rg_put (d := 10) (v := .d (.fl (.int .i64 ((prove l d.key d.id d.t).2)))) rfl (og rfl (op_assign rfl rfl rfl)) ?_
      refine rg_done rfl ?_
      refine a_rseq ?_
      refine rg_put (d := 45) (v := .d (.sl 5 (List.map eDp ((prove l d.key d.id d.t).1)))) rfl (og rfl (op_move rfl rfl rfl)) ?_
      refine rg_put (d := 46) (v := .d (.fl (.int .i64 ((prove l d.key d.id d.t).2)))) rfl (og rfl (op_move rfl rfl rfl)) ?_
      refine rg_put (d := 4) (v := .d (.sl 5 (List.map eDp ((prove l d.key d.id d.t).1)))) rfl (og rfl (op_assign rfl rfl rfl)) ?_
      refine rg_put (d := 5) (v := .d (.fl (.int .i64 0))) rfl (og rfl (op_assign rfl rfl rfl)) ?_
      refine rg_put (d := 6) (v := .d (.fl (.int .i64 ((prove l d.key d.id d.t).2)))) rfl (og rfl (op_assign rfl rfl rfl)) ?_
      refine rg_done rfl ?_
      refine a_ret ?_
      show ∃ ds, ResL _ _ _ ds ∧ RV.of ds = _
      refine ⟨[.sl 5 (List.map eDp ((prove l d.key d.id d.t).1)), .fl (.int .i64 0), .fl (.int .i64 ((prove l d.key d.id d.t).2))], (.cons (.tmp rfl (.d _)) (.cons (.tmp rfl (.d _)) (.cons (.tmp rfl (.d _)) .nil))), ?_⟩
      have hu : doe l d = (((prove l d.key d.id d.t).1, 0), (prove l d.key d.id d.t).2) := by
        unfold doe; simp only [h1, h4]; rfl
      rw [hu]; rfl
    · skip
      have h6 := f_beq h4
      refine a_rseq ?_
      refine rg_put (d := 48) (v := .d (.fl (.bool (d.kind == 2)))) rfl (og rfl (op_bin rfl rfl rfl (b_eql _ _ _ _) rfl)) ?_
      refine rg_put (d := 47) (v := .d (.fl (.bool (d.kind == 2)))) rfl (og rfl (op_assign rfl rfl rfl)) ?_
      refine rg_done rfl ?_
      refine a_cond rfl (fun h7 => ?_) (fun h7 => ?_)
      · skip
        have h8 := t_beq h7
        refine a_rseq ?_
        refine rg_put (d := 49) (v := .d (.sl 5 (List.map eDp l))) rfl (og rfl (op_move rfl rfl rfl)) ?_
        refine rg_put (d := 50) (v := .pt 101 1) rfl (og rfl (of_eff (s_field_pt rfl Try.underlying29 rfl ti9 rfl rfl rfl) rfl)) ?_
        refine rg_put (d := 51) (v := .d (.fl (.string d.key))) rfl (og rfl (op_load_pt rfl Try.underlying9 rfl rfl rfl rfl rfl)) ?_
        refine rg_put (d := 52) (v := .pt 101 5) rfl (og rfl (of_eff (s_field_pt rfl Try.underlying29 rfl ti4 rfl rfl rfl) rfl)) ?_
        refine rg_put (d := 53) (v := .d (.fl (.bool d.accept))) rfl (og rfl (op_load_pt rfl Try.underlying4 rfl rfl rfl rfl rfl)) ?_
        refine rg_put (d := 54) (v := .pt 101 4) rfl (og rfl (of_eff (s_field_pt rfl Try.underlying29 rfl ti3 rfl rfl rfl) rfl)) ?_
        refine rg_put (d := 55) (v := .d (.fl (.int .i64 d.t))) rfl (og rfl (op_load_pt rfl Try.underlying3 rfl rfl rfl rfl rfl)) ?_
        refine rg_put (d := 56) (v := .tu [.sl 5 (List.map eDp ((decid l d.key d.accept d.t).1.1)), .fl (.int .i64 ((decid l d.key d.accept d.t).1.2)), .fl (.int .i64 ((decid l d.key d.accept d.t).2))]) rfl (og rfl (op_call rfl Try.func17 nm17 rfl (.cons rfl (.d _) (.cons rfl (.d _) (.cons rfl (.d _) (.cons rfl (.d _) .nil)))) (decide17 l d.key d.accept d.t (by omega) hb hw2) rfl)) ?_
        refine rg_put (d := 57) (v := .d (.sl 5 (List.map eDp ((decid l d.key d.accept d.t).1.1)))) rfl (og rfl (op_extract rfl rfl rfl rfl)) ?_
        refine rg_put (d := 58) (v := .d (.fl (.int .i64 ((decid l d.key d.accept d.t).1.2)))) rfl (og rfl (op_extract rfl rfl rfl rfl)) ?_
        refine rg_put (d := 59) (v := .d (.fl (.int .i64 ((decid l d.key d.accept d.t).2)))) rfl (og rfl (op_extract rfl rfl rfl rfl)) ?_
        refine rg_put (d := 4) (v := .d (.sl 5 (List.map eDp ((decid l d.key d.accept d.t).1.1)))) rfl (og rfl (op_assign rfl rfl rfl)) ?_
        refine rg_put (d := 5) (v := .d (.fl (.int .i64 ((decid l d.key d.accept d.t).1.2)))) rfl (og rfl (op_assign rfl rfl rfl)) ?_
        refine rg_put (d := 6) (v := .d (.fl (.int .i64 ((decid l d.key d.accept d.t).2)))) rfl (og rfl (op_assign rfl rfl rfl)) ?_
        refine rg_done rfl ?_
        refine a_ret ?_
        show ∃ ds, ResL _ _ _ ds ∧ RV.of ds = _
        refine ⟨[.sl 5 (List.map eDp ((decid l d.key d.accept d.t).1.1)), .fl (.int .i64 ((decid l d.key d.accept d.t).1.2)), .fl (.int .i64 ((decid l d.key d.accept d.t).2))], (.cons (.tmp rfl (.d _)) (.cons (.tmp rfl (.d _)) (.cons (.tmp rfl (.d _)) .nil))), ?_⟩
        have hu : doe l d = (((decid l d.key d.accept d.t).1.1, (decid l d.key d.accept d.t).1.2), (decid l d.key d.accept d.t).2) := by
          unfold doe; simp only [h1, h4, h7]; rfl
        rw [hu]; rfl
      · skip
        have h9 := f_beq h7
        refine a_rseq ?_
        refine rg_put (d := 61) (v := .d (.fl (.bool (d.kind == 3)))) rfl (og rfl (op_bin rfl rfl rfl (b_eql _ _ _ _) rfl)) ?_
        refine rg_put (d := 60) (v := .d (.fl (.bool (d.kind == 3)))) rfl (og rfl (op_assign rfl rfl rfl)) ?_
        refine rg_done rfl ?_
        refine a_cond rfl (fun h10 => ?_) (fun h10 => ?_)
        · skip
          have h11 := t_beq h10
          refine a_rseq ?_
          refine rg_put (d := 63) (v := .d (.sl 5 (List.map eDp l))) rfl (og rfl (op_move rfl rfl rfl)) ?_
          refine rg_put (d := 64) (v := .pt 101 1) rfl (og rfl (of_eff (s_field_pt rfl Try.underlying29 rfl ti9 rfl rfl rfl) rfl)) ?_
          refine rg_put (d := 65) (v := .d (.fl (.string d.key))) rfl (og rfl (op_load_pt rfl Try.underlying9 rfl rfl rfl rfl rfl)) ?_
          refine rg_put (d := 66) (v := .tu [.sl 5 (List.map eDp ((withdraw l d.key).1)), .fl (.int .i64 ((withdraw l d.key).2))]) rfl (og rfl (op_call rfl Try.func26 nm26 rfl (.cons rfl (.d _) (.cons rfl (.d _) .nil)) (withdraw26 l d.key (by omega) hb hw2) rfl)) ?_
          refine rg_put (d := 62) (v := .tu [.sl 5 (List.map eDp ((withdraw l d.key).1)), .fl (.int .i64 ((withdraw l d.key).2))]) rfl (og rfl (op_move rfl rfl rfl)) ?_
          refine rg_put (d := 67) (v := .d (.sl 5 (List.map eDp ((withdraw l d.key).1)))) rfl (og rfl (op_extract rfl rfl rfl rfl)) ?_
          refine rg_put (d := 68) (v := .d (.fl (.int .i64 ((withdraw l d.key).2)))) rfl (og rfl (op_extract rfl rfl rfl rfl)) ?_
          refine rg_put (d := 11) (v := .d (.sl 5 (List.map eDp ((withdraw l d.key).1)))) rfl (og rfl (op_assign rfl rfl rfl)) ?_
          refine rg_put (d := 12) (v := .d (.fl (.int .i64 ((withdraw l d.key).2)))) rfl (og rfl (op_assign rfl rfl rfl)) ?_
          refine rg_done rfl ?_
          refine a_rseq ?_
          refine rg_put (d := 69) (v := .d (.sl 5 (List.map eDp ((withdraw l d.key).1)))) rfl (og rfl (op_move rfl rfl rfl)) ?_
          refine rg_put (d := 70) (v := .d (.fl (.int .i64 ((withdraw l d.key).2)))) rfl (og rfl (op_move rfl rfl rfl)) ?_
          refine rg_put (d := 4) (v := .d (.sl 5 (List.map eDp ((withdraw l d.key).1)))) rfl (og rfl (op_assign rfl rfl rfl)) ?_
          refine rg_put (d := 5) (v := .d (.fl (.int .i64 0))) rfl (og rfl (op_assign rfl rfl rfl)) ?_
          refine rg_put (d := 6) (v := .d (.fl (.int .i64 ((withdraw l d.key).2)))) rfl (og rfl (op_assign rfl rfl rfl)) ?_
          refine rg_done rfl ?_
          refine a_ret ?_
          show ∃ ds, ResL _ _ _ ds ∧ RV.of ds = _
          refine ⟨[.sl 5 (List.map eDp ((withdraw l d.key).1)), .fl (.int .i64 0), .fl (.int .i64 ((withdraw l d.key).2))], (.cons (.tmp rfl (.d _)) (.cons (.tmp rfl (.d _)) (.cons (.tmp rfl (.d _)) .nil))), ?_⟩
          have hu : doe l d = (((withdraw l d.key).1, 0), (withdraw l d.key).2) := by
            unfold doe; simp only [h1, h4, h7, h10]; rfl
          rw [hu]; rfl
        · skip
          have h12 := f_beq h10
          refine a_skip ?_
          show A _ _ _ _ _ _ _
          refine a_rseq ?_
          refine rg_put (d := 72) (v := .d (.sl 5 (List.map eDp l))) rfl (og rfl (op_move rfl rfl rfl)) ?_
          refine rg_put (d := 73) (v := .pt 101 4) rfl (og rfl (of_eff (s_field_pt rfl Try.underlying29 rfl ti3 rfl rfl rfl) rfl)) ?_
          refine rg_put (d := 74) (v := .d (.fl (.int .i64 d.t))) rfl (og rfl (op_load_pt rfl Try.underlying3 rfl rfl rfl rfl rfl)) ?_
          refine rg_put (d := 75) (v := .tu [.sl 5 (List.map eDp (exl l d.t l.length)), .fl (.int .i64 (exs l d.t l.length))]) rfl (og rfl (op_call rfl Try.func18 nm18 rfl (.cons rfl (.d _) (.cons rfl (.d _) .nil)) (expire18 l d.t hl hb hc hw) rfl)) ?_
          refine rg_put (d := 71) (v := .tu [.sl 5 (List.map eDp (exl l d.t l.length)), .fl (.int .i64 (exs l d.t l.length))]) rfl (og rfl (op_move rfl rfl rfl)) ?_
          refine rg_put (d := 76) (v := .d (.sl 5 (List.map eDp (exl l d.t l.length)))) rfl (og rfl (op_extract rfl rfl rfl rfl)) ?_
          refine rg_put (d := 77) (v := .d (.fl (.int .i64 (exs l d.t l.length)))) rfl (og rfl (op_extract rfl rfl rfl rfl)) ?_
          refine rg_put (d := 13) (v := .d (.sl 5 (List.map eDp (exl l d.t l.length)))) rfl (og rfl (op_assign rfl rfl rfl)) ?_
          refine rg_put (d := 14) (v := .d (.fl (.int .i64 (exs l d.t l.length)))) rfl (og rfl (op_assign rfl rfl rfl)) ?_
          refine rg_done rfl ?_
          refine a_rseq ?_
          refine rg_put (d := 78) (v := .d (.sl 5 (List.map eDp (exl l d.t l.length)))) rfl (og rfl (op_move rfl rfl rfl)) ?_
          refine rg_put (d := 79) (v := .d (.fl (.int .i64 (exs l d.t l.length)))) rfl (og rfl (op_move rfl rfl rfl)) ?_
          refine rg_put (d := 4) (v := .d (.sl 5 (List.map eDp (exl l d.t l.length)))) rfl (og rfl (op_assign rfl rfl rfl)) ?_
          refine rg_put (d := 5) (v := .d (.fl (.int .i64 (exs l d.t l.length)))) rfl (og rfl (op_assign rfl rfl rfl)) ?_
          refine rg_put (d := 6) (v := .d (.fl (.int .i64 0))) rfl (og rfl (op_assign rfl rfl rfl)) ?_
          refine rg_done rfl ?_
          refine a_ret ?_
          show ∃ ds, ResL _ _ _ ds ∧ RV.of ds = _
          refine ⟨[.sl 5 (List.map eDp (exl l d.t l.length)), .fl (.int .i64 (exs l d.t l.length)), .fl (.int .i64 0)], (.cons (.tmp rfl (.d _)) (.cons (.tmp rfl (.d _)) (.cons (.tmp rfl (.d _)) .nil))), ?_⟩
          have hu : doe l d = (((exl l d.t l.length), (exs l d.t l.length)), 0) := by
            unfold doe; simp only [h1, h4, h7, h10]; rfl
          rw [hu]; rfl
set_option maxHeartbeats 4000000 in
set_option maxRecDepth 100000 in
theorem wanted13 (l : List Dp) (d : Dd) (hk : d.key.size ≤ 9223372036854775807) (hid : d.id.size ≤ 9223372036854775807) (hl : l.length ≤ 1100) (hb : ∀ q, q < l.length → (ix l q).proofs.length ≤ 2000) (hc : ∀ q, q < l.length → 0 ≤ (ix l q).cents ∧ (ix l q).cents ≤ 1125899906842625) (hw : ∀ q, q < l.length → -68719476736 ≤ (ix l q).time ∧ (ix l q).time ≤ 137438953472) : Ctr Try.prog 13 [.sl 5 (List.map eDp l), .ag (eDd d)] (.tu [.sl 5 (List.map eDp (doe l d).1.1), .fl (.int .i64 (doe l d).1.2), .fl (.int .i64 (doe l d).2)]) := by
  have hw2 : ∀ q, q < l.length → -9223372036854775808 ≤ (ix l q).time := fun q h => by have := hw q h; omega
  refine ctr (n := 80) (rs := #[.tmp 4, .tmp 5, .tmp 6]) (L := [(0, .d (.sl 5 (List.map eDp l))), (1, .d (.ag (eDd d)))]) Try.func13 rfl rfl rfl rfl rfl (fun w0 U0 => ?_)
  refine a_rseq ?_
  refine rg_nam (d := 3) (v := .pt 101 0) (m := 101) (nw := [(101, .bx 29 (eDd d))]) rfl (og rfl (of_eff (op_box 101 rfl rfl rfl rfl) rfl)) rfl ?_
  refine rg_put (d := 4) (v := .d (.fl (.slice none 0 0))) rfl (og rfl (op_assign rfl rfl rfl)) ?_
  refine rg_put (d := 5) (v := .d (.fl (.int .i64 0))) rfl (og rfl (op_assign rfl rfl rfl)) ?_
  refine rg_put (d := 6) (v := .d (.fl (.int .i64 0))) rfl (og rfl (op_assign rfl rfl rfl)) ?_
  refine rg_done rfl ?_
  refine a_seq ?_
  refine a_rseq ?_
  refine rg_put (d := 15) (v := .pt 101 0) rfl (og rfl (of_eff (s_field_pt rfl Try.underlying29 rfl ti3 rfl rfl rfl) rfl)) ?_
  refine rg_put (d := 16) (v := .d (.fl (.int .i64 d.kind))) rfl (og rfl (op_load_pt rfl Try.underlying3 rfl rfl rfl rfl rfl)) ?_
  refine rg_done rfl ?_
  refine a_block ?_
  refine a_rseq ?_
  refine rg_put (d := 18) (v := .d (.fl (.bool (d.kind == 0)))) rfl (og rfl (op_bin rfl rfl rfl (b_eql _ _ _ _) rfl)) ?_
  refine rg_put (d := 17) (v := .d (.fl (.bool (d.kind == 0)))) rfl (og rfl (op_assign rfl rfl rfl)) ?_
  refine rg_done rfl ?_
  refine a_cond rfl (fun h1 => ?_) (fun h1 => ?_)
  · skip
    have h2 := t_beq h1
    refine a_rseq ?_
    refine rg_put (d := 20) (v := .d (.sl 5 (List.map eDp l))) rfl (og rfl (op_move rfl rfl rfl)) ?_
    refine rg_put (d := 21) (v := .pt 101 1) rfl (og rfl (of_eff (s_field_pt rfl Try.underlying29 rfl ti9 rfl rfl rfl) rfl)) ?_
    refine rg_put (d := 22) (v := .d (.fl (.string d.key))) rfl (og rfl (op_load_pt rfl Try.underlying9 rfl rfl rfl rfl rfl)) ?_
    refine rg_put (d := 23) (v := .pt 101 3) rfl (og rfl (of_eff (s_field_pt rfl Try.underlying29 rfl ti3 rfl rfl rfl) rfl)) ?_
    refine rg_put (d := 24) (v := .d (.fl (.int .i64 d.cents))) rfl (og rfl (op_load_pt rfl Try.underlying3 rfl rfl rfl rfl rfl)) ?_
    refine rg_put (d := 25) (v := .pt 101 4) rfl (og rfl (of_eff (s_field_pt rfl Try.underlying29 rfl ti3 rfl rfl rfl) rfl)) ?_
    refine rg_put (d := 26) (v := .d (.fl (.int .i64 d.t))) rfl (og rfl (op_load_pt rfl Try.underlying3 rfl rfl rfl rfl rfl)) ?_
    refine rg_put (d := 27) (v := .tu [.sl 5 (List.map eDp ((opn l d.key d.cents d.t).1)), .fl (.int .i64 ((opn l d.key d.cents d.t).2))]) rfl (og rfl (op_call rfl Try.func27 nm27 rfl (.cons rfl (.d _) (.cons rfl (.d _) (.cons rfl (.d _) (.cons rfl (.d _) .nil)))) (ref_open l d.key d.cents d.t (by omega) (by omega) hb hw2) rfl)) ?_
    refine rg_put (d := 19) (v := .tu [.sl 5 (List.map eDp ((opn l d.key d.cents d.t).1)), .fl (.int .i64 ((opn l d.key d.cents d.t).2))]) rfl (og rfl (op_move rfl rfl rfl)) ?_
    refine rg_put (d := 28) (v := .d (.sl 5 (List.map eDp ((opn l d.key d.cents d.t).1)))) rfl (og rfl (op_extract rfl rfl rfl rfl)) ?_
    refine rg_put (d := 29) (v := .d (.fl (.int .i64 ((opn l d.key d.cents d.t).2)))) rfl (og rfl (op_extract rfl rfl rfl rfl)) ?_
    refine rg_put (d := 7) (v := .d (.sl 5 (List.map eDp ((opn l d.key d.cents d.t).1)))) rfl (og rfl (op_assign rfl rfl rfl)) ?_
    refine rg_put (d := 8) (v := .d (.fl (.int .i64 ((opn l d.key d.cents d.t).2)))) rfl (og rfl (op_assign rfl rfl rfl)) ?_
    refine rg_done rfl ?_
    refine a_rseq ?_
    refine rg_put (d := 30) (v := .d (.sl 5 (List.map eDp ((opn l d.key d.cents d.t).1)))) rfl (og rfl (op_move rfl rfl rfl)) ?_
    refine rg_put (d := 31) (v := .d (.fl (.int .i64 ((opn l d.key d.cents d.t).2)))) rfl (og rfl (op_move rfl rfl rfl)) ?_
    refine rg_put (d := 4) (v := .d (.sl 5 (List.map eDp ((opn l d.key d.cents d.t).1)))) rfl (og rfl (op_assign rfl rfl rfl)) ?_
    refine rg_put (d := 5) (v := .d (.fl (.int .i64 0))) rfl (og rfl (op_assign rfl rfl rfl)) ?_
    refine rg_put (d := 6) (v := .d (.fl (.int .i64 ((opn l d.key d.cents d.t).2)))) rfl (og rfl (op_assign rfl rfl rfl)) ?_
    refine rg_done rfl ?_
    refine a_ret ?_
    show ∃ ds, ResL _ _ _ ds ∧ RV.of ds = _
    refine ⟨[.sl 5 (List.map eDp ((opn l d.key d.cents d.t).1)), .fl (.int .i64 0), .fl (.int .i64 ((opn l d.key d.cents d.t).2))], (.cons (.tmp rfl (.d _)) (.cons (.tmp rfl (.d _)) (.cons (.tmp rfl (.d _)) .nil))), ?_⟩
    have hu : doe l d = (((opn l d.key d.cents d.t).1, 0), (opn l d.key d.cents d.t).2) := by
      unfold doe; simp only [h1]; rfl
    rw [hu]; rfl
  · skip
    have h3 := f_beq h1
    refine a_rseq ?_
    refine rg_put (d := 33) (v := .d (.fl (.bool (d.kind == 1)))) rfl (og rfl (op_bin rfl rfl rfl (b_eql _ _ _ _) rfl)) ?_
    refine rg_put (d := 32) (v := .d (.fl (.bool (d.kind == 1)))) rfl (og rfl (op_assign rfl rfl rfl)) ?_
    refine rg_done rfl ?_
    refine a_cond rfl (fun h4 => ?_) (fun h4 => ?_)
    · skip
      have h5 := t_beq h4
      refine a_rseq ?_
      refine rg_put (d := 35) (v := .d (.sl 5 (List.map eDp l))) rfl (og rfl (op_move rfl rfl rfl)) ?_
      refine rg_put (d := 36) (v := .pt 101 1) rfl (og rfl (of_eff (s_field_pt rfl Try.underlying29 rfl ti9 rfl rfl rfl) rfl)) ?_
      refine rg_put (d := 37) (v := .d (.fl (.string d.key))) rfl (og rfl (op_load_pt rfl Try.underlying9 rfl rfl rfl rfl rfl)) ?_
      refine rg_put (d := 38) (v := .pt 101 2) rfl (og rfl (of_eff (s_field_pt rfl Try.underlying29 rfl ti9 rfl rfl rfl) rfl)) ?_
      refine rg_put (d := 39) (v := .d (.fl (.string d.id))) rfl (og rfl (op_load_pt rfl Try.underlying9 rfl rfl rfl rfl rfl)) ?_
      refine rg_put (d := 40) (v := .pt 101 4) rfl (og rfl (of_eff (s_field_pt rfl Try.underlying29 rfl ti3 rfl rfl rfl) rfl)) ?_
      refine rg_put (d := 41) (v := .d (.fl (.int .i64 d.t))) rfl (og rfl (op_load_pt rfl Try.underlying3 rfl rfl rfl rfl rfl)) ?_
      refine rg_put (d := 42) (v := .tu [.sl 5 (List.map eDp ((prove l d.key d.id d.t).1)), .fl (.int .i64 ((prove l d.key d.id d.t).2))]) rfl (og rfl (op_call rfl Try.func28 nm28 rfl (.cons rfl (.d _) (.cons rfl (.d _) (.cons rfl (.d _) (.cons rfl (.d _) .nil)))) (ref_prove l d.key d.id d.t (by omega) (by omega) hb hw2) rfl)) ?_
      refine rg_put (d := 34) (v := .tu [.sl 5 (List.map eDp ((prove l d.key d.id d.t).1)), .fl (.int .i64 ((prove l d.key d.id d.t).2))]) rfl (og rfl (op_move rfl rfl rfl)) ?_
      refine rg_put (d := 43) (v := .d (.sl 5 (List.map eDp ((prove l d.key d.id d.t).1)))) rfl (og rfl (op_extract rfl rfl rfl rfl)) ?_
      refine rg_put (d := 44) (v := .d (.fl (.int .i64 ((prove l d.key d.id d.t).2)))) rfl (og rfl (op_extract rfl rfl rfl rfl)) ?_
      refine rg_put (d := 9) (v := .d (.sl 5 (List.map eDp ((prove l d.key d.id d.t).1)))) rfl (og rfl (op_assign rfl rfl rfl)) ?_
      refine rg_put (d := 10) (v := .d (.fl (.int .i64 ((prove l d.key d.id d.t).2)))) rfl (og rfl (op_assign rfl rfl rfl)) ?_
      refine rg_done rfl ?_
      refine a_rseq ?_
      refine rg_put (d := 45) (v := .d (.sl 5 (List.map eDp ((prove l d.key d.id d.t).1)))) rfl (og rfl (op_move rfl rfl rfl)) ?_
      refine rg_put (d := 46) (v := .d (.fl (.int .i64 ((prove l d.key d.id d.t).2)))) rfl (og rfl (op_move rfl rfl rfl)) ?_
      refine rg_put (d := 4) (v := .d (.sl 5 (List.map eDp ((prove l d.key d.id d.t).1)))) rfl (og rfl (op_assign rfl rfl rfl)) ?_
      refine rg_put (d := 5) (v := .d (.fl (.int .i64 0))) rfl (og rfl (op_assign rfl rfl rfl)) ?_
      refine rg_put (d := 6) (v := .d (.fl (.int .i64 ((prove l d.key d.id d.t).2)))) rfl (og rfl (op_assign rfl rfl rfl)) ?_
      refine rg_done rfl ?_
      refine a_ret ?_
      show ∃ ds, ResL _ _ _ ds ∧ RV.of ds = _
      refine ⟨[.sl 5 (List.map eDp ((prove l d.key d.id d.t).1)), .fl (.int .i64 0), .fl (.int .i64 ((prove l d.key d.id d.t).2))], (.cons (.tmp rfl (.d _)) (.cons (.tmp rfl (.d _)) (.cons (.tmp rfl (.d _)) .nil))), ?_⟩
      have hu : doe l d = (((prove l d.key d.id d.t).1, 0), (prove l d.key d.id d.t).2) := by
        unfold doe; simp only [h1, h4]; rfl
      rw [hu]; rfl
    · skip
      have h6 := f_beq h4
      refine a_rseq ?_
      refine rg_put (d := 48) (v := .d (.fl (.bool (d.kind == 2)))) rfl (og rfl (op_bin rfl rfl rfl (b_eql _ _ _ _) rfl)) ?_
      refine rg_put (d := 47) (v := .d (.fl (.bool (d.kind == 2)))) rfl (og rfl (op_assign rfl rfl rfl)) ?_
      refine rg_done rfl ?_
      refine a_cond rfl (fun h7 => ?_) (fun h7 => ?_)
      · skip
        have h8 := t_beq h7
        refine a_rseq ?_
        refine rg_put (d := 49) (v := .d (.sl 5 (List.map eDp l))) rfl (og rfl (op_move rfl rfl rfl)) ?_
        refine rg_put (d := 50) (v := .pt 101 1) rfl (og rfl (of_eff (s_field_pt rfl Try.underlying29 rfl ti9 rfl rfl rfl) rfl)) ?_
        refine rg_put (d := 51) (v := .d (.fl (.string d.key))) rfl (og rfl (op_load_pt rfl Try.underlying9 rfl rfl rfl rfl rfl)) ?_
        refine rg_put (d := 52) (v := .pt 101 5) rfl (og rfl (of_eff (s_field_pt rfl Try.underlying29 rfl ti4 rfl rfl rfl) rfl)) ?_
        refine rg_put (d := 53) (v := .d (.fl (.bool d.accept))) rfl (og rfl (op_load_pt rfl Try.underlying4 rfl rfl rfl rfl rfl)) ?_
        refine rg_put (d := 54) (v := .pt 101 4) rfl (og rfl (of_eff (s_field_pt rfl Try.underlying29 rfl ti3 rfl rfl rfl) rfl)) ?_
        refine rg_put (d := 55) (v := .d (.fl (.int .i64 d.t))) rfl (og rfl (op_load_pt rfl Try.underlying3 rfl rfl rfl rfl rfl)) ?_
        refine rg_put (d := 56) (v := .tu [.sl 5 (List.map eDp ((decid l d.key d.accept d.t).1.1)), .fl (.int .i64 ((decid l d.key d.accept d.t).1.2)), .fl (.int .i64 ((decid l d.key d.accept d.t).2))]) rfl (og rfl (op_call rfl Try.func29 nm29 rfl (.cons rfl (.d _) (.cons rfl (.d _) (.cons rfl (.d _) (.cons rfl (.d _) .nil)))) (ref_decide l d.key d.accept d.t (by omega) hb hw2) rfl)) ?_
        refine rg_put (d := 57) (v := .d (.sl 5 (List.map eDp ((decid l d.key d.accept d.t).1.1)))) rfl (og rfl (op_extract rfl rfl rfl rfl)) ?_
        refine rg_put (d := 58) (v := .d (.fl (.int .i64 ((decid l d.key d.accept d.t).1.2)))) rfl (og rfl (op_extract rfl rfl rfl rfl)) ?_
        refine rg_put (d := 59) (v := .d (.fl (.int .i64 ((decid l d.key d.accept d.t).2)))) rfl (og rfl (op_extract rfl rfl rfl rfl)) ?_
        refine rg_put (d := 4) (v := .d (.sl 5 (List.map eDp ((decid l d.key d.accept d.t).1.1)))) rfl (og rfl (op_assign rfl rfl rfl)) ?_
        refine rg_put (d := 5) (v := .d (.fl (.int .i64 ((decid l d.key d.accept d.t).1.2)))) rfl (og rfl (op_assign rfl rfl rfl)) ?_
        refine rg_put (d := 6) (v := .d (.fl (.int .i64 ((decid l d.key d.accept d.t).2)))) rfl (og rfl (op_assign rfl rfl rfl)) ?_
        refine rg_done rfl ?_
        refine a_ret ?_
        show ∃ ds, ResL _ _ _ ds ∧ RV.of ds = _
        refine ⟨[.sl 5 (List.map eDp ((decid l d.key d.accept d.t).1.1)), .fl (.int .i64 ((decid l d.key d.accept d.t).1.2)), .fl (.int .i64 ((decid l d.key d.accept d.t).2))], (.cons (.tmp rfl (.d _)) (.cons (.tmp rfl (.d _)) (.cons (.tmp rfl (.d _)) .nil))), ?_⟩
        have hu : doe l d = (((decid l d.key d.accept d.t).1.1, (decid l d.key d.accept d.t).1.2), (decid l d.key d.accept d.t).2) := by
          unfold doe; simp only [h1, h4, h7]; rfl
        rw [hu]; rfl
      · skip
        have h9 := f_beq h7
        refine a_rseq ?_
        refine rg_put (d := 61) (v := .d (.fl (.bool (d.kind == 3)))) rfl (og rfl (op_bin rfl rfl rfl (b_eql _ _ _ _) rfl)) ?_
        refine rg_put (d := 60) (v := .d (.fl (.bool (d.kind == 3)))) rfl (og rfl (op_assign rfl rfl rfl)) ?_
        refine rg_done rfl ?_
        refine a_cond rfl (fun h10 => ?_) (fun h10 => ?_)
        · skip
          have h11 := t_beq h10
          refine a_rseq ?_
          refine rg_put (d := 63) (v := .d (.sl 5 (List.map eDp l))) rfl (og rfl (op_move rfl rfl rfl)) ?_
          refine rg_put (d := 64) (v := .pt 101 1) rfl (og rfl (of_eff (s_field_pt rfl Try.underlying29 rfl ti9 rfl rfl rfl) rfl)) ?_
          refine rg_put (d := 65) (v := .d (.fl (.string d.key))) rfl (og rfl (op_load_pt rfl Try.underlying9 rfl rfl rfl rfl rfl)) ?_
          refine rg_put (d := 66) (v := .tu [.sl 5 (List.map eDp ((withdraw l d.key).1)), .fl (.int .i64 ((withdraw l d.key).2))]) rfl (og rfl (op_call rfl Try.func30 nm30 rfl (.cons rfl (.d _) (.cons rfl (.d _) .nil)) (ref_withdraw l d.key (by omega) hb hw2) rfl)) ?_
          refine rg_put (d := 62) (v := .tu [.sl 5 (List.map eDp ((withdraw l d.key).1)), .fl (.int .i64 ((withdraw l d.key).2))]) rfl (og rfl (op_move rfl rfl rfl)) ?_
          refine rg_put (d := 67) (v := .d (.sl 5 (List.map eDp ((withdraw l d.key).1)))) rfl (og rfl (op_extract rfl rfl rfl rfl)) ?_
          refine rg_put (d := 68) (v := .d (.fl (.int .i64 ((withdraw l d.key).2)))) rfl (og rfl (op_extract rfl rfl rfl rfl)) ?_
          refine rg_put (d := 11) (v := .d (.sl 5 (List.map eDp ((withdraw l d.key).1)))) rfl (og rfl (op_assign rfl rfl rfl)) ?_
          refine rg_put (d := 12) (v := .d (.fl (.int .i64 ((withdraw l d.key).2)))) rfl (og rfl (op_assign rfl rfl rfl)) ?_
          refine rg_done rfl ?_
          refine a_rseq ?_
          refine rg_put (d := 69) (v := .d (.sl 5 (List.map eDp ((withdraw l d.key).1)))) rfl (og rfl (op_move rfl rfl rfl)) ?_
          refine rg_put (d := 70) (v := .d (.fl (.int .i64 ((withdraw l d.key).2)))) rfl (og rfl (op_move rfl rfl rfl)) ?_
          refine rg_put (d := 4) (v := .d (.sl 5 (List.map eDp ((withdraw l d.key).1)))) rfl (og rfl (op_assign rfl rfl rfl)) ?_
          refine rg_put (d := 5) (v := .d (.fl (.int .i64 0))) rfl (og rfl (op_assign rfl rfl rfl)) ?_
          refine rg_put (d := 6) (v := .d (.fl (.int .i64 ((withdraw l d.key).2)))) rfl (og rfl (op_assign rfl rfl rfl)) ?_
          refine rg_done rfl ?_
          refine a_ret ?_
          show ∃ ds, ResL _ _ _ ds ∧ RV.of ds = _
          refine ⟨[.sl 5 (List.map eDp ((withdraw l d.key).1)), .fl (.int .i64 0), .fl (.int .i64 ((withdraw l d.key).2))], (.cons (.tmp rfl (.d _)) (.cons (.tmp rfl (.d _)) (.cons (.tmp rfl (.d _)) .nil))), ?_⟩
          have hu : doe l d = (((withdraw l d.key).1, 0), (withdraw l d.key).2) := by
            unfold doe; simp only [h1, h4, h7, h10]; rfl
          rw [hu]; rfl
        · skip
          have h12 := f_beq h10
          refine a_skip ?_
          show A _ _ _ _ _ _ _
          refine a_rseq ?_
          refine rg_put (d := 72) (v := .d (.sl 5 (List.map eDp l))) rfl (og rfl (op_move rfl rfl rfl)) ?_
          refine rg_put (d := 73) (v := .pt 101 4) rfl (og rfl (of_eff (s_field_pt rfl Try.underlying29 rfl ti3 rfl rfl rfl) rfl)) ?_
          refine rg_put (d := 74) (v := .d (.fl (.int .i64 d.t))) rfl (og rfl (op_load_pt rfl Try.underlying3 rfl rfl rfl rfl rfl)) ?_
          refine rg_put (d := 75) (v := .tu [.sl 5 (List.map eDp (exl l d.t l.length)), .fl (.int .i64 (exs l d.t l.length))]) rfl (og rfl (op_call rfl Try.func31 nm31 rfl (.cons rfl (.d _) (.cons rfl (.d _) .nil)) (ref_expire l d.t hl hb hc hw) rfl)) ?_
          refine rg_put (d := 71) (v := .tu [.sl 5 (List.map eDp (exl l d.t l.length)), .fl (.int .i64 (exs l d.t l.length))]) rfl (og rfl (op_move rfl rfl rfl)) ?_
          refine rg_put (d := 76) (v := .d (.sl 5 (List.map eDp (exl l d.t l.length)))) rfl (og rfl (op_extract rfl rfl rfl rfl)) ?_
          refine rg_put (d := 77) (v := .d (.fl (.int .i64 (exs l d.t l.length)))) rfl (og rfl (op_extract rfl rfl rfl rfl)) ?_
          refine rg_put (d := 13) (v := .d (.sl 5 (List.map eDp (exl l d.t l.length)))) rfl (og rfl (op_assign rfl rfl rfl)) ?_
          refine rg_put (d := 14) (v := .d (.fl (.int .i64 (exs l d.t l.length)))) rfl (og rfl (op_assign rfl rfl rfl)) ?_
          refine rg_done rfl ?_
          refine a_rseq ?_
          refine rg_put (d := 78) (v := .d (.sl 5 (List.map eDp (exl l d.t l.length)))) rfl (og rfl (op_move rfl rfl rfl)) ?_
          refine rg_put (d := 79) (v := .d (.fl (.int .i64 (exs l d.t l.length)))) rfl (og rfl (op_move rfl rfl rfl)) ?_
          refine rg_put (d := 4) (v := .d (.sl 5 (List.map eDp (exl l d.t l.length)))) rfl (og rfl (op_assign rfl rfl rfl)) ?_
          refine rg_put (d := 5) (v := .d (.fl (.int .i64 (exs l d.t l.length)))) rfl (og rfl (op_assign rfl rfl rfl)) ?_
          refine rg_put (d := 6) (v := .d (.fl (.int .i64 0))) rfl (og rfl (op_assign rfl rfl rfl)) ?_
          refine rg_done rfl ?_
          refine a_ret ?_
          show ∃ ds, ResL _ _ _ ds ∧ RV.of ds = _
          refine ⟨[.sl 5 (List.map eDp (exl l d.t l.length)), .fl (.int .i64 (exs l d.t l.length)), .fl (.int .i64 0)], (.cons (.tmp rfl (.d _)) (.cons (.tmp rfl (.d _)) (.cons (.tmp rfl (.d _)) .nil))), ?_⟩
          have hu : doe l d = (((exl l d.t l.length), (exs l d.t l.length)), 0) := by
            unfold doe; simp only [h1, h4, h7, h10]; rfl
          rw [hu]; rfl
end Go.Proofs.Ytocjbombpggmeaa.Wk
