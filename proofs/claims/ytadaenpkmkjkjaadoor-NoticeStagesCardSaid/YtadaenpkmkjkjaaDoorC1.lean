/- The laws of the rules, of advancing, of payments. Condition: a payment that is a number of the machine. -/
import Derived.Test.YtadaenpkmkjkjaaDoorB8
set_option linter.unusedSimpArgs false
set_option linter.unusedVariables false
namespace Go.Proofs.YtadaenpkmkjkjaaDoor.Wk
open Go Go.RowKit Go.Proofs.YtadaenpkmkjkjaaDoor.Av
def fw (w : Lw) (cal : List Int) (x : Cs) : Bool := decide ((w.days.length : Int) ≤ 8) && decide ((w.fees.length : Int) ≤ 8) && decide ((cal.length : Int) ≤ 20) && decide ((x.id.size : Int) ≤ 80) && decide ((x.plate.size : Int) ≤ 40) && decide ((x.key.size : Int) ≤ 80)
theorem fw_t {w : Lw} {cal : List Int} {x : Cs} (h : fw w cal x = true) : cal.length ≤ 20 := by
  unfold fw at h
  simp only [Bool.and_eq_true, decide_eq_true_eq] at h
  omega

set_option maxHeartbeats 4000000 in
set_option maxRecDepth 100000 in
theorem fw10 (w : Lw) (cal : List Int) (x : Cs) : Ctr Tryd.prog 10 [.ag (eLw w), .sl 1 (List.map (rI .i64) cal), .ag (eCs x)] (.d (.fl (.bool (fw w cal x)))) := by
  refine ctr (n := 40) (rs := #[.tmp 6]) (L := [(0, .d (.ag (eLw w))), (1, .d (.sl 1 (List.map (rI .i64) cal))), (2, .d (.ag (eCs x)))]) Tryd.func10 rfl rfl rfl rfl rfl (fun w0 U0 => ?_)
  refine a_rseq ?_
  refine rg_nam (d := 3) (v := .pt 101 0) (m := 101) (nw := [(101, .bx 24 (eLw w))]) rfl (og rfl (of_eff (op_box 101 rfl rfl rfl rfl) rfl)) rfl ?_
  refine rg_nam (d := 5) (v := .pt 102 0) (m := 102) (nw := [(102, .bx 29 (eCs x))]) rfl (og rfl (of_eff (op_box 102 rfl rfl rfl rfl) rfl)) rfl ?_
  refine rg_put (d := 6) (v := .d (.fl (.bool false))) rfl (og rfl (op_assign rfl rfl rfl)) ?_
  refine rg_done rfl ?_
  refine a_rseq ?_
  refine rg_put (d := 7) (v := .pt 101 0) rfl (og rfl (of_eff (s_field_pt rfl Tryd.underlying24 rfl ti22 rfl rfl rfl) rfl)) ?_
  refine rg_put (d := 8) (v := .d (.sl 1 (List.map (rI .i64) w.days))) rfl (og rfl (op_load_pt rfl Tryd.underlying22 rfl rfl rfl rfl rfl)) ?_
  refine rg_put (d := 9) (v := .d (.fl (.int .i64 (w.days.length : Int)))) rfl (og rfl (s_len rfl Tryd.underlying22 rfl rfl)) ?_
  refine rg_put (d := 10) (v := .d (.fl (.bool ((decide ((w.days.length : Int) ≤ 8)))))) rfl (og rfl (op_bin rfl rfl rfl (b_leq _ _ _ _) rfl)) ?_
  refine rg_put (d := 11) (v := .d (.fl (.bool ((decide ((w.days.length : Int) ≤ 8)))))) rfl (og rfl (op_move rfl rfl rfl)) ?_
  rcases fot ((decide ((w.days.length : Int) ≤ 8))) with h1 | h1
  · skip
    have h2 := f_dec h1
    refine rg_put (d := 12) (v := .d (.fl undef)) rfl (on rfl rfl rfl h1) ?_
    refine rg_put (d := 13) (v := .d (.fl undef)) rfl (on rfl rfl rfl h1) ?_
    refine rg_put (d := 14) (v := .d (.fl undef)) rfl (on rfl rfl rfl h1) ?_
    refine rg_put (d := 15) (v := .d (.fl undef)) rfl (on rfl rfl rfl h1) ?_
    refine rg_put (d := 16) (v := .d (.fl (.bool false))) rfl (og rfl (op_pick rfl rfl (by rw [h1]; rfl) rfl)) ?_
    refine rg_put (d := 17) (v := .d (.fl (.bool false))) rfl (og rfl (op_move rfl rfl rfl)) ?_
    refine rg_put (d := 18) (v := .d (.fl undef)) rfl (on rfl rfl rfl rfl) ?_
    refine rg_put (d := 19) (v := .d (.fl undef)) rfl (on rfl rfl rfl rfl) ?_
    refine rg_put (d := 20) (v := .d (.fl undef)) rfl (on rfl rfl rfl rfl) ?_
    refine rg_put (d := 21) (v := .d (.fl (.bool false))) rfl (og rfl (op_pick rfl rfl rfl rfl)) ?_
    refine rg_put (d := 22) (v := .d (.fl (.bool false))) rfl (og rfl (op_move rfl rfl rfl)) ?_
    refine rg_put (d := 23) (v := .d (.fl undef)) rfl (on rfl rfl rfl rfl) ?_
    refine rg_put (d := 24) (v := .d (.fl undef)) rfl (on rfl rfl rfl rfl) ?_
    refine rg_put (d := 25) (v := .d (.fl undef)) rfl (on rfl rfl rfl rfl) ?_
    refine rg_put (d := 26) (v := .d (.fl undef)) rfl (on rfl rfl rfl rfl) ?_
    refine rg_put (d := 27) (v := .d (.fl (.bool false))) rfl (og rfl (op_pick rfl rfl rfl rfl)) ?_
    refine rg_put (d := 28) (v := .d (.fl (.bool false))) rfl (og rfl (op_move rfl rfl rfl)) ?_
    refine rg_put (d := 29) (v := .d (.fl undef)) rfl (on rfl rfl rfl rfl) ?_
    refine rg_put (d := 30) (v := .d (.fl undef)) rfl (on rfl rfl rfl rfl) ?_
    refine rg_put (d := 31) (v := .d (.fl undef)) rfl (on rfl rfl rfl rfl) ?_
    refine rg_put (d := 32) (v := .d (.fl undef)) rfl (on rfl rfl rfl rfl) ?_
    refine rg_put (d := 33) (v := .d (.fl (.bool false))) rfl (og rfl (op_pick rfl rfl rfl rfl)) ?_
    refine rg_put (d := 34) (v := .d (.fl (.bool false))) rfl (og rfl (op_move rfl rfl rfl)) ?_
    refine rg_put (d := 35) (v := .d (.fl undef)) rfl (on rfl rfl rfl rfl) ?_
    refine rg_put (d := 36) (v := .d (.fl undef)) rfl (on rfl rfl rfl rfl) ?_
    refine rg_put (d := 37) (v := .d (.fl undef)) rfl (on rfl rfl rfl rfl) ?_
    refine rg_put (d := 38) (v := .d (.fl undef)) rfl (on rfl rfl rfl rfl) ?_
    refine rg_put (d := 39) (v := .d (.fl (.bool false))) rfl (og rfl (op_pick rfl rfl rfl rfl)) ?_
    refine rg_put (d := 6) (v := .d (.fl (.bool false))) rfl (og rfl (op_assign rfl rfl rfl)) ?_
    refine rg_done rfl ?_
    refine a_ret ?_
    show ∃ ds, ResL _ _ _ ds ∧ RV.of ds = _
    refine ⟨[.fl (.bool false)], (.cons (.tmp rfl (.d _)) .nil), ?_⟩
    have hu : fw w cal x = false := by
      unfold fw; simp only [h1]; rfl
    rw [hu]; rfl
  · skip
    have h3 := t_dec h1
    refine rg_put (d := 12) (v := .pt 101 1) rfl (oy rfl rfl rfl h1 (of_eff (s_field_pt rfl Tryd.underlying24 rfl ti22 rfl rfl rfl) rfl)) ?_
    refine rg_put (d := 13) (v := .d (.sl 1 (List.map (rI .i64) w.fees))) rfl (oy rfl rfl rfl h1 (op_load_pt rfl Tryd.underlying22 rfl rfl rfl rfl rfl)) ?_
    refine rg_put (d := 14) (v := .d (.fl (.int .i64 (w.fees.length : Int)))) rfl (oy rfl rfl rfl h1 (s_len rfl Tryd.underlying22 rfl rfl)) ?_
    refine rg_put (d := 15) (v := .d (.fl (.bool ((decide ((w.fees.length : Int) ≤ 8)))))) rfl (oy rfl rfl rfl h1 (op_bin rfl rfl rfl (b_leq _ _ _ _) rfl)) ?_
    refine rg_put (d := 16) (v := .d (.fl (.bool ((decide ((w.fees.length : Int) ≤ 8)))))) rfl (og rfl (op_pick rfl rfl (by rw [h1]; rfl) rfl)) ?_
    refine rg_put (d := 17) (v := .d (.fl (.bool ((decide ((w.fees.length : Int) ≤ 8)))))) rfl (og rfl (op_move rfl rfl rfl)) ?_
    rcases fot ((decide ((w.fees.length : Int) ≤ 8))) with h4 | h4
    · skip
      have h5 := f_dec h4
      refine rg_put (d := 18) (v := .d (.fl undef)) rfl (on rfl rfl rfl h4) ?_
      refine rg_put (d := 19) (v := .d (.fl undef)) rfl (on rfl rfl rfl h4) ?_
      refine rg_put (d := 20) (v := .d (.fl undef)) rfl (on rfl rfl rfl h4) ?_
      refine rg_put (d := 21) (v := .d (.fl (.bool false))) rfl (og rfl (op_pick rfl rfl (by rw [h4]; rfl) rfl)) ?_
      refine rg_put (d := 22) (v := .d (.fl (.bool false))) rfl (og rfl (op_move rfl rfl rfl)) ?_
      refine rg_put (d := 23) (v := .d (.fl undef)) rfl (on rfl rfl rfl rfl) ?_
      refine rg_put (d := 24) (v := .d (.fl undef)) rfl (on rfl rfl rfl rfl) ?_
      refine rg_put (d := 25) (v := .d (.fl undef)) rfl (on rfl rfl rfl rfl) ?_
      refine rg_put (d := 26) (v := .d (.fl undef)) rfl (on rfl rfl rfl rfl) ?_
      refine rg_put (d := 27) (v := .d (.fl (.bool false))) rfl (og rfl (op_pick rfl rfl rfl rfl)) ?_
      refine rg_put (d := 28) (v := .d (.fl (.bool false))) rfl (og rfl (op_move rfl rfl rfl)) ?_
      refine rg_put (d := 29) (v := .d (.fl undef)) rfl (on rfl rfl rfl rfl) ?_
      refine rg_put (d := 30) (v := .d (.fl undef)) rfl (on rfl rfl rfl rfl) ?_
      refine rg_put (d := 31) (v := .d (.fl undef)) rfl (on rfl rfl rfl rfl) ?_
      refine rg_put (d := 32) (v := .d (.fl undef)) rfl (on rfl rfl rfl rfl) ?_
      refine rg_put (d := 33) (v := .d (.fl (.bool false))) rfl (og rfl (op_pick rfl rfl rfl rfl)) ?_
      refine rg_put (d := 34) (v := .d (.fl (.bool false))) rfl (og rfl (op_move rfl rfl rfl)) ?_
      refine rg_put (d := 35) (v := .d (.fl undef)) rfl (on rfl rfl rfl rfl) ?_
      refine rg_put (d := 36) (v := .d (.fl undef)) rfl (on rfl rfl rfl rfl) ?_
      refine rg_put (d := 37) (v := .d (.fl undef)) rfl (on rfl rfl rfl rfl) ?_
      refine rg_put (d := 38) (v := .d (.fl undef)) rfl (on rfl rfl rfl rfl) ?_
      refine rg_put (d := 39) (v := .d (.fl (.bool false))) rfl (og rfl (op_pick rfl rfl rfl rfl)) ?_
      refine rg_put (d := 6) (v := .d (.fl (.bool false))) rfl (og rfl (op_assign rfl rfl rfl)) ?_
      refine rg_done rfl ?_
      refine a_ret ?_
      show ∃ ds, ResL _ _ _ ds ∧ RV.of ds = _
      refine ⟨[.fl (.bool false)], (.cons (.tmp rfl (.d _)) .nil), ?_⟩
      have hu : fw w cal x = false := by
        unfold fw; simp only [h1, h4]; rfl
      rw [hu]; rfl
    · skip
      have h6 := t_dec h4
      refine rg_put (d := 18) (v := .d (.sl 1 (List.map (rI .i64) cal))) rfl (oy rfl rfl rfl h4 (op_move rfl rfl rfl)) ?_
      refine rg_put (d := 19) (v := .d (.fl (.int .i64 (cal.length : Int)))) rfl (oy rfl rfl rfl h4 (s_len rfl Tryd.underlying22 rfl rfl)) ?_
      refine rg_put (d := 20) (v := .d (.fl (.bool ((decide ((cal.length : Int) ≤ 20)))))) rfl (oy rfl rfl rfl h4 (op_bin rfl rfl rfl (b_leq _ _ _ _) rfl)) ?_
      refine rg_put (d := 21) (v := .d (.fl (.bool ((decide ((cal.length : Int) ≤ 20)))))) rfl (og rfl (op_pick rfl rfl (by rw [h4]; rfl) rfl)) ?_
      refine rg_put (d := 22) (v := .d (.fl (.bool ((decide ((cal.length : Int) ≤ 20)))))) rfl (og rfl (op_move rfl rfl rfl)) ?_
      rcases fot ((decide ((cal.length : Int) ≤ 20))) with h7 | h7
      · skip
        have h8 := f_dec h7
        refine rg_put (d := 23) (v := .d (.fl undef)) rfl (on rfl rfl rfl h7) ?_
        refine rg_put (d := 24) (v := .d (.fl undef)) rfl (on rfl rfl rfl h7) ?_
        refine rg_put (d := 25) (v := .d (.fl undef)) rfl (on rfl rfl rfl h7) ?_
        refine rg_put (d := 26) (v := .d (.fl undef)) rfl (on rfl rfl rfl h7) ?_
        refine rg_put (d := 27) (v := .d (.fl (.bool false))) rfl (og rfl (op_pick rfl rfl (by rw [h7]; rfl) rfl)) ?_
        refine rg_put (d := 28) (v := .d (.fl (.bool false))) rfl (og rfl (op_move rfl rfl rfl)) ?_
        refine rg_put (d := 29) (v := .d (.fl undef)) rfl (on rfl rfl rfl rfl) ?_
        refine rg_put (d := 30) (v := .d (.fl undef)) rfl (on rfl rfl rfl rfl) ?_
        refine rg_put (d := 31) (v := .d (.fl undef)) rfl (on rfl rfl rfl rfl) ?_
        refine rg_put (d := 32) (v := .d (.fl undef)) rfl (on rfl rfl rfl rfl) ?_
        refine rg_put (d := 33) (v := .d (.fl (.bool false))) rfl (og rfl (op_pick rfl rfl rfl rfl)) ?_
        refine rg_put (d := 34) (v := .d (.fl (.bool false))) rfl (og rfl (op_move rfl rfl rfl)) ?_
        refine rg_put (d := 35) (v := .d (.fl undef)) rfl (on rfl rfl rfl rfl) ?_
        refine rg_put (d := 36) (v := .d (.fl undef)) rfl (on rfl rfl rfl rfl) ?_
        refine rg_put (d := 37) (v := .d (.fl undef)) rfl (on rfl rfl rfl rfl) ?_
        refine rg_put (d := 38) (v := .d (.fl undef)) rfl (on rfl rfl rfl rfl) ?_
        refine rg_put (d := 39) (v := .d (.fl (.bool false))) rfl (og rfl (op_pick rfl rfl rfl rfl)) ?_
        refine rg_put (d := 6) (v := .d (.fl (.bool false))) rfl (og rfl (op_assign rfl rfl rfl)) ?_
        refine rg_done rfl ?_
        refine a_ret ?_
        show ∃ ds, ResL _ _ _ ds ∧ RV.of ds = _
        refine ⟨[.fl (.bool false)], (.cons (.tmp rfl (.d _)) .nil), ?_⟩
        have hu : fw w cal x = false := by
          unfold fw; simp only [h1, h4, h7]; rfl
        rw [hu]; rfl
      · skip
        have h9 := t_dec h7
        refine rg_put (d := 23) (v := .pt 102 0) rfl (oy rfl rfl rfl h7 (of_eff (s_field_pt rfl Tryd.underlying29 rfl ti9 rfl rfl rfl) rfl)) ?_
        refine rg_put (d := 24) (v := .d (.fl (.string x.id))) rfl (oy rfl rfl rfl h7 (op_load_pt rfl Tryd.underlying9 rfl rfl rfl rfl rfl)) ?_
        refine rg_put (d := 25) (v := .d (.fl (.int .i64 (x.id.size : Int)))) rfl (oy rfl rfl rfl h7 (op_len_str rfl Tryd.underlying9 rfl rfl)) ?_
        refine rg_put (d := 26) (v := .d (.fl (.bool ((decide ((x.id.size : Int) ≤ 80)))))) rfl (oy rfl rfl rfl h7 (op_bin rfl rfl rfl (b_leq _ _ _ _) rfl)) ?_
        refine rg_put (d := 27) (v := .d (.fl (.bool ((decide ((x.id.size : Int) ≤ 80)))))) rfl (og rfl (op_pick rfl rfl (by rw [h7]; rfl) rfl)) ?_
        refine rg_put (d := 28) (v := .d (.fl (.bool ((decide ((x.id.size : Int) ≤ 80)))))) rfl (og rfl (op_move rfl rfl rfl)) ?_
        rcases fot ((decide ((x.id.size : Int) ≤ 80))) with h10 | h10
        · skip
          have h11 := f_dec h10
          refine rg_put (d := 29) (v := .d (.fl undef)) rfl (on rfl rfl rfl h10) ?_
          refine rg_put (d := 30) (v := .d (.fl undef)) rfl (on rfl rfl rfl h10) ?_
          refine rg_put (d := 31) (v := .d (.fl undef)) rfl (on rfl rfl rfl h10) ?_
          refine rg_put (d := 32) (v := .d (.fl undef)) rfl (on rfl rfl rfl h10) ?_
          refine rg_put (d := 33) (v := .d (.fl (.bool false))) rfl (og rfl (op_pick rfl rfl (by rw [h10]; rfl) rfl)) ?_
          refine rg_put (d := 34) (v := .d (.fl (.bool false))) rfl (og rfl (op_move rfl rfl rfl)) ?_
          refine rg_put (d := 35) (v := .d (.fl undef)) rfl (on rfl rfl rfl rfl) ?_
          refine rg_put (d := 36) (v := .d (.fl undef)) rfl (on rfl rfl rfl rfl) ?_
          refine rg_put (d := 37) (v := .d (.fl undef)) rfl (on rfl rfl rfl rfl) ?_
          refine rg_put (d := 38) (v := .d (.fl undef)) rfl (on rfl rfl rfl rfl) ?_
          refine rg_put (d := 39) (v := .d (.fl (.bool false))) rfl (og rfl (op_pick rfl rfl rfl rfl)) ?_
          refine rg_put (d := 6) (v := .d (.fl (.bool false))) rfl (og rfl (op_assign rfl rfl rfl)) ?_
          refine rg_done rfl ?_
          refine a_ret ?_
          show ∃ ds, ResL _ _ _ ds ∧ RV.of ds = _
          refine ⟨[.fl (.bool false)], (.cons (.tmp rfl (.d _)) .nil), ?_⟩
          have hu : fw w cal x = false := by
            unfold fw; simp only [h1, h4, h7, h10]; rfl
          rw [hu]; rfl
        · skip
          have h12 := t_dec h10
          refine rg_put (d := 29) (v := .pt 102 1) rfl (oy rfl rfl rfl h10 (of_eff (s_field_pt rfl Tryd.underlying29 rfl ti9 rfl rfl rfl) rfl)) ?_
          refine rg_put (d := 30) (v := .d (.fl (.string x.plate))) rfl (oy rfl rfl rfl h10 (op_load_pt rfl Tryd.underlying9 rfl rfl rfl rfl rfl)) ?_
          refine rg_put (d := 31) (v := .d (.fl (.int .i64 (x.plate.size : Int)))) rfl (oy rfl rfl rfl h10 (op_len_str rfl Tryd.underlying9 rfl rfl)) ?_
          refine rg_put (d := 32) (v := .d (.fl (.bool ((decide ((x.plate.size : Int) ≤ 40)))))) rfl (oy rfl rfl rfl h10 (op_bin rfl rfl rfl (b_leq _ _ _ _) rfl)) ?_
          refine rg_put (d := 33) (v := .d (.fl (.bool ((decide ((x.plate.size : Int) ≤ 40)))))) rfl (og rfl (op_pick rfl rfl (by rw [h10]; rfl) rfl)) ?_
          refine rg_put (d := 34) (v := .d (.fl (.bool ((decide ((x.plate.size : Int) ≤ 40)))))) rfl (og rfl (op_move rfl rfl rfl)) ?_
          rcases fot ((decide ((x.plate.size : Int) ≤ 40))) with h13 | h13
          · skip
            have h14 := f_dec h13
            refine rg_put (d := 35) (v := .d (.fl undef)) rfl (on rfl rfl rfl h13) ?_
            refine rg_put (d := 36) (v := .d (.fl undef)) rfl (on rfl rfl rfl h13) ?_
            refine rg_put (d := 37) (v := .d (.fl undef)) rfl (on rfl rfl rfl h13) ?_
            refine rg_put (d := 38) (v := .d (.fl undef)) rfl (on rfl rfl rfl h13) ?_
            refine rg_put (d := 39) (v := .d (.fl (.bool false))) rfl (og rfl (op_pick rfl rfl (by rw [h13]; rfl) rfl)) ?_
            refine rg_put (d := 6) (v := .d (.fl (.bool false))) rfl (og rfl (op_assign rfl rfl rfl)) ?_
            refine rg_done rfl ?_
            refine a_ret ?_
            show ∃ ds, ResL _ _ _ ds ∧ RV.of ds = _
            refine ⟨[.fl (.bool false)], (.cons (.tmp rfl (.d _)) .nil), ?_⟩
            have hu : fw w cal x = false := by
              unfold fw; simp only [h1, h4, h7, h10, h13]; rfl
            rw [hu]; rfl
          · skip
            have h15 := t_dec h13
            refine rg_put (d := 35) (v := .pt 102 2) rfl (oy rfl rfl rfl h13 (of_eff (s_field_pt rfl Tryd.underlying29 rfl ti9 rfl rfl rfl) rfl)) ?_
            refine rg_put (d := 36) (v := .d (.fl (.string x.key))) rfl (oy rfl rfl rfl h13 (op_load_pt rfl Tryd.underlying9 rfl rfl rfl rfl rfl)) ?_
            refine rg_put (d := 37) (v := .d (.fl (.int .i64 (x.key.size : Int)))) rfl (oy rfl rfl rfl h13 (op_len_str rfl Tryd.underlying9 rfl rfl)) ?_
            refine rg_put (d := 38) (v := .d (.fl (.bool ((decide ((x.key.size : Int) ≤ 80)))))) rfl (oy rfl rfl rfl h13 (op_bin rfl rfl rfl (b_leq _ _ _ _) rfl)) ?_
            refine rg_put (d := 39) (v := .d (.fl (.bool ((decide ((x.key.size : Int) ≤ 80)))))) rfl (og rfl (op_pick rfl rfl (by rw [h13]; rfl) rfl)) ?_
            refine rg_put (d := 6) (v := .d (.fl (.bool ((decide ((x.key.size : Int) ≤ 80)))))) rfl (og rfl (op_assign rfl rfl rfl)) ?_
            refine rg_done rfl ?_
            refine a_ret ?_
            show ∃ ds, ResL _ _ _ ds ∧ RV.of ds = _
            refine ⟨[.fl (.bool ((decide ((x.key.size : Int) ≤ 80))))], (.cons (.tmp rfl (.d _)) .nil), ?_⟩
            have hu : fw w cal x = (decide ((x.key.size : Int) ≤ 80)) := by
              unfold fw; simp only [h1, h4, h7, h10, h13]; rfl
            rw [hu]; rfl
set_option maxHeartbeats 4000000 in
set_option maxRecDepth 100000 in
theorem law3 (w : Lw) : Ctr Tryd.prog 3 [.ag (eLw w)] (.d (.fl (.bool true))) := by
  refine ctr (n := 16) (rs := #[.tmp 2]) (L := [(0, .d (.ag (eLw w)))]) Tryd.func3 rfl rfl rfl rfl rfl (fun w0 U0 => ?_)
  refine a_rseq ?_
  refine rg_nam (d := 1) (v := .pt 101 0) (m := 101) (nw := [(101, .bx 24 (eLw w))]) rfl (og rfl (of_eff (op_box 101 rfl rfl rfl rfl) rfl)) rfl ?_
  refine rg_put (d := 2) (v := .d (.fl (.bool false))) rfl (og rfl (op_assign rfl rfl rfl)) ?_
  refine rg_done rfl ?_
  refine a_seq ?_
  refine a_rseq ?_
  refine rg_put (d := 3) (v := .d (.ag (eLw w))) rfl (og rfl (of_eff (s_load_pts rfl Tryd.underlying24 rfl ti24 rfl rfl rfl rfl) rfl)) ?_
  refine rg_put (d := 4) (v := .d (.ag (eCs ((Cs.mk (⟨#[]⟩) (⟨#[]⟩) (⟨#[]⟩) 0 0 0 0 0 0 (Ap.mk 0 0 0)))))) rfl (og rfl (of_eff (op_build rfl Tryd.underlying29 ti29 rfl (by kernel_rfl) (by kernel_rfl) (pl := #[(0, 1), (1, 1), (2, 1), (3, 1), (4, 1), (5, 1), (6, 1), (7, 1), (8, 1), (9, 3)]) (by kernel_rfl) .nil rfl) rfl)) ?_
  refine rg_put (d := 5) (v := .d (.fl (.bool ((fw w [] ((Cs.mk (⟨#[]⟩) (⟨#[]⟩) (⟨#[]⟩) 0 0 0 0 0 0 (Ap.mk 0 0 0)))))))) rfl (og rfl (op_call rfl Tryd.func10 nm10 rfl (.cons rfl (.d _) (.cons rfl (.cv (Cv.nil _)) (.cons rfl (.d _) .nil))) (fw10 w [] ((Cs.mk (⟨#[]⟩) (⟨#[]⟩) (⟨#[]⟩) 0 0 0 0 0 0 (Ap.mk 0 0 0)))) rfl)) ?_
  refine rg_put (d := 6) (v := .d (.fl (.bool ((!((fw w [] ((Cs.mk (⟨#[]⟩) (⟨#[]⟩) (⟨#[]⟩) 0 0 0 0 0 0 (Ap.mk 0 0 0)))))))))) rfl (og rfl (op_un rfl rfl (u_not _) rfl)) ?_
  refine rg_done rfl ?_
  refine a_cond rfl (fun h1 => ?_) (fun h1 => ?_)
  · skip
    have h2 := t_not h1
    refine a_rseq ?_
    refine rg_put (d := 7) (v := .d (.fl (.bool true))) rfl (og rfl (op_call rfl Tryd.func11 nm11 rfl .nil awake11 rfl)) ?_
    refine rg_put (d := 2) (v := .d (.fl (.bool true))) rfl (og rfl (op_assign rfl rfl rfl)) ?_
    refine rg_done rfl ?_
    refine a_ret ?_
    show ∃ ds, ResL _ _ _ ds ∧ RV.of ds = _
    refine ⟨[.fl (.bool true)], (.cons (.tmp rfl (.d _)) .nil), ?_⟩
    rfl
  · skip
    have h3 := f_not h1
    have hcl := fw_t h3
    refine a_skip ?_
    show A _ _ _ _ _ _ _
    refine a_dseq (by kernel_rfl) ?_
    refine dr_put (d := 8) (v := .d (.ag (eLw w))) rfl (og rfl (of_eff (s_load_pts rfl Tryd.underlying24 rfl ti24 rfl rfl rfl rfl) rfl)) ?_
    refine dr_put (d := 9) (v := .d (.fl (.int .i64 (ckL w)))) rfl (og rfl (op_call rfl Tryd.func12 nm12 rfl (.cons rfl (.d _) .nil) (ck12 w) rfl)) ?_
    refine dr_put (d := 10) (v := .d (.ag (eLw w))) rfl (og rfl (of_eff (s_load_pts rfl Tryd.underlying24 rfl ti24 rfl rfl rfl rfl) rfl)) ?_
    refine dr_put (d := 11) (v := .d (.fl (.int .i64 (ckL w)))) rfl (og rfl (op_call rfl Tryd.func13 nm13 rfl (.cons rfl (.d _) .nil) (ck13 w) rfl)) ?_
    refine dr_put (d := 12) (v := .d (.fl (.bool (((ckL w) == (ckL w)))))) rfl (og rfl (op_bin rfl rfl rfl (b_eql _ _ _ _) rfl)) ?_
    refine dr_put (d := 13) (v := .d (.fl (.bool (((ckL w) == (ckL w)))))) rfl (og rfl (op_move rfl rfl rfl)) ?_
    refine dr_put (d := 14) (v := .d (.fl (.bool true))) rfl (oy rfl rfl rfl (eq_self_b _) (op_call rfl Tryd.func11 nm11 rfl .nil awake11 rfl)) ?_
    refine dr_put (d := 15) (v := .d (.fl (.bool true))) rfl (og rfl (op_pick rfl rfl (by rw [(eq_self_b _)]; rfl) rfl)) ?_
    refine dr_put (d := 2) (v := .d (.fl (.bool true))) rfl (og rfl (op_assign rfl rfl rfl)) ?_
    refine dr_done rfl (by kernel_rfl) (by kernel_rfl) ?_
    refine a_ret ?_
    show ∃ ds, ResL _ _ _ ds ∧ RV.of ds = _
    refine ⟨[.fl (.bool true)], (.cons (.tmp rfl (.d _)) .nil), ?_⟩
    rfl
set_option maxHeartbeats 4000000 in
set_option maxRecDepth 100000 in
theorem law6 (x : Cs) (c : Int) (hc1 : -9223372036854775808 ≤ c) (hc2 : c ≤ 9223372036854775807) : Ctr Tryd.prog 6 [.ag (eCs x), .fl (.int .i64 c)] (.d (.fl (.bool true))) := by
  refine ctr (n := 70) (rs := #[.tmp 4]) (L := [(0, .d (.ag (eCs x))), (1, .d (.fl (.int .i64 c)))]) Tryd.func6 rfl rfl rfl rfl rfl (fun w0 U0 => ?_)
  refine a_rseq ?_
  refine rg_nam (d := 2) (v := .pt 101 0) (m := 101) (nw := [(101, .bx 29 (eCs x))]) rfl (og rfl (of_eff (op_box 101 rfl rfl rfl rfl) rfl)) rfl ?_
  refine rg_put (d := 4) (v := .d (.fl (.bool false))) rfl (og rfl (op_assign rfl rfl rfl)) ?_
  refine rg_done rfl ?_
  refine a_seq ?_
  refine a_rseq ?_
  refine rg_put (d := 15) (v := .d (.ag [.fl (.slice none 0 0), .fl (.slice none 0 0), .fl (.int .i64 0)])) rfl (og rfl (of_eff (op_build rfl Tryd.underlying24 ti24 rfl (by kernel_rfl) (by kernel_rfl) (pl := #[(0, 1), (1, 1), (2, 1)]) (by kernel_rfl) .nil rfl) rfl)) ?_
  refine rg_put (d := 16) (v := .d (.ag (eCs x))) rfl (og rfl (of_eff (s_load_pts rfl Tryd.underlying29 rfl ti29 rfl rfl rfl rfl) rfl)) ?_
  refine rg_put (d := 17) (v := .d (.fl (.bool ((fw (Lw.mk [] [] 0) [] x))))) rfl (og rfl (op_call rfl Tryd.func10 nm10 rfl (.cons rfl (.cv (Cv.ag (xs := [.fl (.slice none 0 0), .fl (.slice none 0 0), .fl (.int .i64 0)]) (ys := [.sl 1 (List.map (rI .i64) []), .sl 1 (List.map (rI .i64) []), .fl (.int .i64 0)]) ⟨Cv.nil _, Cv.nil _, Cv.refl _, trivial⟩)) (.cons rfl (.cv (Cv.nil _)) (.cons rfl (.d _) .nil))) (fw10 (Lw.mk [] [] 0) [] x) rfl)) ?_
  refine rg_put (d := 18) (v := .d (.fl (.bool ((!((fw (Lw.mk [] [] 0) [] x))))))) rfl (og rfl (op_un rfl rfl (u_not _) rfl)) ?_
  refine rg_done rfl ?_
  refine a_cond rfl (fun h1 => ?_) (fun h1 => ?_)
  · skip
    have h2 := t_not h1
    refine a_rseq ?_
    refine rg_put (d := 19) (v := .d (.fl (.bool true))) rfl (og rfl (op_call rfl Tryd.func11 nm11 rfl .nil awake11 rfl)) ?_
    refine rg_put (d := 4) (v := .d (.fl (.bool true))) rfl (og rfl (op_assign rfl rfl rfl)) ?_
    refine rg_done rfl ?_
    refine a_ret ?_
    show ∃ ds, ResL _ _ _ ds ∧ RV.of ds = _
    refine ⟨[.fl (.bool true)], (.cons (.tmp rfl (.d _)) .nil), ?_⟩
    rfl
  · skip
    have h3 := f_not h1
    have hcl := fw_t h3
    refine a_skip ?_
    show A _ _ _ _ _ _ _
    refine a_rseq ?_
    refine rg_put (d := 21) (v := .d (.ag (eCs x))) rfl (og rfl (of_eff (s_load_pts rfl Tryd.underlying29 rfl ti29 rfl rfl rfl rfl) rfl)) ?_
    refine rg_put (d := 22) (v := .d (.fl (.int .i64 c))) rfl (og rfl (op_move rfl rfl rfl)) ?_
    refine rg_put (d := 23) (v := .tu [.ag (eCs ((pay x c).1.1)), .fl (.int .i64 ((pay x c).1.2)), .fl (.int .i64 ((pay x c).2))]) rfl (og rfl (op_call rfl Tryd.func23 nm23 rfl (.cons rfl (.d _) (.cons rfl (.d _) .nil)) (pay23 x c hc1 hc2) rfl)) ?_
    refine rg_put (d := 20) (v := .tu [.ag (eCs ((pay x c).1.1)), .fl (.int .i64 ((pay x c).1.2)), .fl (.int .i64 ((pay x c).2))]) rfl (og rfl (op_move rfl rfl rfl)) ?_
    refine rg_put (d := 24) (v := .d (.ag (eCs ((pay x c).1.1)))) rfl (og rfl (op_extract rfl rfl rfl rfl)) ?_
    refine rg_put (d := 25) (v := .d (.fl (.int .i64 ((pay x c).1.2)))) rfl (og rfl (op_extract rfl rfl rfl rfl)) ?_
    refine rg_put (d := 26) (v := .d (.fl (.int .i64 ((pay x c).2)))) rfl (og rfl (op_extract rfl rfl rfl rfl)) ?_
    refine rg_nam (d := 5) (v := .pt 102 0) (m := 102) (nw := [(102, .bx 29 ([.fl (.string (⟨#[]⟩)), .fl (.string (⟨#[]⟩)), .fl (.string (⟨#[]⟩)), .fl (.int .i64 0), .fl (.int .i64 0), .fl (.int .i64 0), .fl (.int .i64 0), .fl (.int .i64 0), .fl (.int .i64 0), .fl (.int .i64 0), .fl (.int .i64 0), .fl (.int .i64 0)]))]) rfl (og rfl (of_eff (s_alloc 102 rfl ti29 (by kernel_rfl) rfl) rfl)) rfl ?_
    refine rg_sto (nw := [(102, .bx 29 ((eCs ((pay x c).1.1))))]) rfl (og rfl (of_eff (s_store rfl rfl ti29 rfl rfl rfl rfl rfl rfl) rfl)) ?_
    refine rg_put (d := 6) (v := .d (.fl (.int .i64 ((pay x c).1.2)))) rfl (og rfl (op_assign rfl rfl rfl)) ?_
    refine rg_put (d := 7) (v := .d (.fl (.int .i64 ((pay x c).2)))) rfl (og rfl (op_assign rfl rfl rfl)) ?_
    refine rg_done rfl ?_
    refine a_rseq ?_
    refine rg_put (d := 28) (v := .d (.ag (eCs x))) rfl (og rfl (of_eff (s_load_pts rfl Tryd.underlying29 rfl ti29 rfl rfl rfl rfl) rfl)) ?_
    refine rg_put (d := 29) (v := .d (.fl (.int .i64 c))) rfl (og rfl (op_move rfl rfl rfl)) ?_
    refine rg_put (d := 30) (v := .tu [.ag (eCs ((pay x c).1.1)), .fl (.int .i64 ((pay x c).1.2)), .fl (.int .i64 ((pay x c).2))]) rfl (og rfl (op_call rfl Tryd.func24 nm24 rfl (.cons rfl (.d _) (.cons rfl (.d _) .nil)) (pay24 x c) rfl)) ?_
    refine rg_put (d := 27) (v := .tu [.ag (eCs ((pay x c).1.1)), .fl (.int .i64 ((pay x c).1.2)), .fl (.int .i64 ((pay x c).2))]) rfl (og rfl (op_move rfl rfl rfl)) ?_
    refine rg_put (d := 31) (v := .d (.ag (eCs ((pay x c).1.1)))) rfl (og rfl (op_extract rfl rfl rfl rfl)) ?_
    refine rg_put (d := 32) (v := .d (.fl (.int .i64 ((pay x c).1.2)))) rfl (og rfl (op_extract rfl rfl rfl rfl)) ?_
    refine rg_put (d := 33) (v := .d (.fl (.int .i64 ((pay x c).2)))) rfl (og rfl (op_extract rfl rfl rfl rfl)) ?_
    refine rg_nam (d := 8) (v := .pt 103 0) (m := 103) (nw := [(103, .bx 29 ([.fl (.string (⟨#[]⟩)), .fl (.string (⟨#[]⟩)), .fl (.string (⟨#[]⟩)), .fl (.int .i64 0), .fl (.int .i64 0), .fl (.int .i64 0), .fl (.int .i64 0), .fl (.int .i64 0), .fl (.int .i64 0), .fl (.int .i64 0), .fl (.int .i64 0), .fl (.int .i64 0)]))]) rfl (og rfl (of_eff (s_alloc 103 rfl ti29 (by kernel_rfl) rfl) rfl)) rfl ?_
    refine rg_sto (nw := [(103, .bx 29 ((eCs ((pay x c).1.1))))]) rfl (og rfl (of_eff (s_store rfl rfl ti29 rfl rfl rfl rfl rfl rfl) rfl)) ?_
    refine rg_put (d := 9) (v := .d (.fl (.int .i64 ((pay x c).1.2)))) rfl (og rfl (op_assign rfl rfl rfl)) ?_
    refine rg_put (d := 10) (v := .d (.fl (.int .i64 ((pay x c).2)))) rfl (og rfl (op_assign rfl rfl rfl)) ?_
    refine rg_done rfl ?_
    refine a_rseq ?_
    refine rg_put (d := 35) (v := .d (.ag (eCs x))) rfl (og rfl (of_eff (s_load_pts rfl Tryd.underlying29 rfl ti29 rfl rfl rfl rfl) rfl)) ?_
    refine rg_put (d := 36) (v := .tu [.ag (eCs ((wv x).1)), .fl (.int .i64 ((wv x).2))]) rfl (og rfl (op_call rfl Tryd.func25 nm25 rfl (.cons rfl (.d _) .nil) (wv25 x) rfl)) ?_
    refine rg_put (d := 34) (v := .tu [.ag (eCs ((wv x).1)), .fl (.int .i64 ((wv x).2))]) rfl (og rfl (op_move rfl rfl rfl)) ?_
    refine rg_put (d := 37) (v := .d (.ag (eCs ((wv x).1)))) rfl (og rfl (op_extract rfl rfl rfl rfl)) ?_
    refine rg_put (d := 38) (v := .d (.fl (.int .i64 ((wv x).2)))) rfl (og rfl (op_extract rfl rfl rfl rfl)) ?_
    refine rg_nam (d := 11) (v := .pt 104 0) (m := 104) (nw := [(104, .bx 29 ([.fl (.string (⟨#[]⟩)), .fl (.string (⟨#[]⟩)), .fl (.string (⟨#[]⟩)), .fl (.int .i64 0), .fl (.int .i64 0), .fl (.int .i64 0), .fl (.int .i64 0), .fl (.int .i64 0), .fl (.int .i64 0), .fl (.int .i64 0), .fl (.int .i64 0), .fl (.int .i64 0)]))]) rfl (og rfl (of_eff (s_alloc 104 rfl ti29 (by kernel_rfl) rfl) rfl)) rfl ?_
    refine rg_sto (nw := [(104, .bx 29 ((eCs ((wv x).1))))]) rfl (og rfl (of_eff (s_store rfl rfl ti29 rfl rfl rfl rfl rfl rfl) rfl)) ?_
    refine rg_put (d := 12) (v := .d (.fl (.int .i64 ((wv x).2)))) rfl (og rfl (op_assign rfl rfl rfl)) ?_
    refine rg_done rfl ?_
    refine a_rseq ?_
    refine rg_put (d := 40) (v := .d (.ag (eCs x))) rfl (og rfl (of_eff (s_load_pts rfl Tryd.underlying29 rfl ti29 rfl rfl rfl rfl) rfl)) ?_
    refine rg_put (d := 41) (v := .tu [.ag (eCs ((wv x).1)), .fl (.int .i64 ((wv x).2))]) rfl (og rfl (op_call rfl Tryd.func26 nm26 rfl (.cons rfl (.d _) .nil) (wv26 x) rfl)) ?_
    refine rg_put (d := 39) (v := .tu [.ag (eCs ((wv x).1)), .fl (.int .i64 ((wv x).2))]) rfl (og rfl (op_move rfl rfl rfl)) ?_
    refine rg_put (d := 42) (v := .d (.ag (eCs ((wv x).1)))) rfl (og rfl (op_extract rfl rfl rfl rfl)) ?_
    refine rg_put (d := 43) (v := .d (.fl (.int .i64 ((wv x).2)))) rfl (og rfl (op_extract rfl rfl rfl rfl)) ?_
    refine rg_nam (d := 13) (v := .pt 105 0) (m := 105) (nw := [(105, .bx 29 ([.fl (.string (⟨#[]⟩)), .fl (.string (⟨#[]⟩)), .fl (.string (⟨#[]⟩)), .fl (.int .i64 0), .fl (.int .i64 0), .fl (.int .i64 0), .fl (.int .i64 0), .fl (.int .i64 0), .fl (.int .i64 0), .fl (.int .i64 0), .fl (.int .i64 0), .fl (.int .i64 0)]))]) rfl (og rfl (of_eff (s_alloc 105 rfl ti29 (by kernel_rfl) rfl) rfl)) rfl ?_
    refine rg_sto (nw := [(105, .bx 29 ((eCs ((wv x).1))))]) rfl (og rfl (of_eff (s_store rfl rfl ti29 rfl rfl rfl rfl rfl rfl) rfl)) ?_
    refine rg_put (d := 14) (v := .d (.fl (.int .i64 ((wv x).2)))) rfl (og rfl (op_assign rfl rfl rfl)) ?_
    refine rg_done rfl ?_
    refine a_rseq ?_
    refine rg_put (d := 44) (v := .d (.fl (.int .i64 ((pay x c).2)))) rfl (og rfl (op_move rfl rfl rfl)) ?_
    refine rg_put (d := 45) (v := .d (.fl (.int .i64 ((pay x c).2)))) rfl (og rfl (op_move rfl rfl rfl)) ?_
    refine rg_put (d := 46) (v := .d (.fl (.bool (((pay x c).2 == (pay x c).2))))) rfl (og rfl (op_bin rfl rfl rfl (b_eql _ _ _ _) rfl)) ?_
    refine rg_put (d := 47) (v := .d (.fl (.bool (((pay x c).2 == (pay x c).2))))) rfl (og rfl (op_move rfl rfl rfl)) ?_
    refine rg_put (d := 48) (v := .d (.fl (.int .i64 ((pay x c).1.2)))) rfl (oy rfl rfl rfl (eq_self_b _) (op_move rfl rfl rfl)) ?_
    refine rg_put (d := 49) (v := .d (.fl (.int .i64 ((pay x c).1.2)))) rfl (oy rfl rfl rfl (eq_self_b _) (op_move rfl rfl rfl)) ?_
    refine rg_put (d := 50) (v := .d (.fl (.bool (((pay x c).1.2 == (pay x c).1.2))))) rfl (oy rfl rfl rfl (eq_self_b _) (op_bin rfl rfl rfl (b_eql _ _ _ _) rfl)) ?_
    refine rg_put (d := 51) (v := .d (.fl (.bool (((pay x c).1.2 == (pay x c).1.2))))) rfl (og rfl (op_pick rfl rfl (by rw [(eq_self_b _)]; rfl) rfl)) ?_
    refine rg_put (d := 52) (v := .d (.fl (.bool (((pay x c).1.2 == (pay x c).1.2))))) rfl (og rfl (op_move rfl rfl rfl)) ?_
    refine rg_put (d := 53) (v := .d (.ag (eCs (((pay x c).1.1))))) rfl (oy rfl rfl rfl (eq_self_b _) (of_eff (s_load_pts rfl Tryd.underlying29 rfl ti29 rfl rfl rfl rfl) rfl)) ?_
    refine rg_put (d := 54) (v := .d (.ag (eCs (((pay x c).1.1))))) rfl (oy rfl rfl rfl (eq_self_b _) (of_eff (s_load_pts rfl Tryd.underlying29 rfl ti29 rfl rfl rfl rfl) rfl)) ?_
    refine rg_put (d := 55) (v := .d (.fl (.bool true))) rfl (oy rfl rfl rfl (eq_self_b _) (op_call rfl Tryd.func16 nm16 rfl (.cons rfl (.d _) (.cons rfl (.d _) .nil)) (same_self (((pay x c).1.1))) rfl)) ?_
    refine rg_put (d := 56) (v := .d (.fl (.bool true))) rfl (og rfl (op_pick rfl rfl (by rw [(eq_self_b _)]; rfl) rfl)) ?_
    refine rg_put (d := 57) (v := .d (.fl (.bool true))) rfl (og rfl (op_move rfl rfl rfl)) ?_
    refine rg_put (d := 58) (v := .d (.fl (.int .i64 ((wv x).2)))) rfl (oy rfl rfl rfl rfl (op_move rfl rfl rfl)) ?_
    refine rg_put (d := 59) (v := .d (.fl (.int .i64 ((wv x).2)))) rfl (oy rfl rfl rfl rfl (op_move rfl rfl rfl)) ?_
    refine rg_put (d := 60) (v := .d (.fl (.bool (((wv x).2 == (wv x).2))))) rfl (oy rfl rfl rfl rfl (op_bin rfl rfl rfl (b_eql _ _ _ _) rfl)) ?_
    refine rg_put (d := 61) (v := .d (.fl (.bool (((wv x).2 == (wv x).2))))) rfl (og rfl (op_pick rfl rfl rfl rfl)) ?_
    refine rg_put (d := 62) (v := .d (.fl (.bool (((wv x).2 == (wv x).2))))) rfl (og rfl (op_move rfl rfl rfl)) ?_
    refine rg_put (d := 63) (v := .d (.ag (eCs (((wv x).1))))) rfl (oy rfl rfl rfl (eq_self_b _) (of_eff (s_load_pts rfl Tryd.underlying29 rfl ti29 rfl rfl rfl rfl) rfl)) ?_
    refine rg_put (d := 64) (v := .d (.ag (eCs (((wv x).1))))) rfl (oy rfl rfl rfl (eq_self_b _) (of_eff (s_load_pts rfl Tryd.underlying29 rfl ti29 rfl rfl rfl rfl) rfl)) ?_
    refine rg_put (d := 65) (v := .d (.fl (.bool true))) rfl (oy rfl rfl rfl (eq_self_b _) (op_call rfl Tryd.func16 nm16 rfl (.cons rfl (.d _) (.cons rfl (.d _) .nil)) (same_self (((wv x).1))) rfl)) ?_
    refine rg_put (d := 66) (v := .d (.fl (.bool true))) rfl (og rfl (op_pick rfl rfl (by rw [(eq_self_b _)]; rfl) rfl)) ?_
    refine rg_put (d := 67) (v := .d (.fl (.bool true))) rfl (og rfl (op_move rfl rfl rfl)) ?_
    refine rg_put (d := 68) (v := .d (.fl (.bool true))) rfl (oy rfl rfl rfl rfl (op_call rfl Tryd.func11 nm11 rfl .nil awake11 rfl)) ?_
    refine rg_put (d := 69) (v := .d (.fl (.bool true))) rfl (og rfl (op_pick rfl rfl rfl rfl)) ?_
    refine rg_put (d := 4) (v := .d (.fl (.bool true))) rfl (og rfl (op_assign rfl rfl rfl)) ?_
    refine rg_done rfl ?_
    refine a_ret ?_
    show ∃ ds, ResL _ _ _ ds ∧ RV.of ds = _
    refine ⟨[.fl (.bool true)], (.cons (.tmp rfl (.d _)) .nil), ?_⟩
    rfl
end Go.Proofs.YtadaenpkmkjkjaaDoor.Wk
