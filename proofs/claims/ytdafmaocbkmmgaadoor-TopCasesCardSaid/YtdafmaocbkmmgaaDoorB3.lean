/- Days that are due; what Advance asks. No condition. -/
import Derived.Test.YtdafmaocbkmmgaaDoorB2
set_option linter.unusedSimpArgs false
set_option linter.unusedVariables false
namespace Go.Proofs.YtdafmaocbkmmgaaDoor.Wk
open Go Go.RowKit Go.Proofs.YtdafmaocbkmmgaaDoor.Av
theorem opn_t {x : Cs} (h : opn x = true) : 1 ≤ x.stage ∧ x.stage ≤ 5 := by simpa [opn] using h
def dueB (w : Lw) (x : Cs) : Bool := (ckL w != 0) || !(opn x) || (x.stage == 5) || (x.ap.state == 1)
def due (w : Lw) (cal : List Int) (x : Cs) : Int × Bool := if dueB w x = true then (0, false) else ((latS cal x.since (ix w.days (x.stage - 1).toNat)).1, ((latS cal x.since (ix w.days (x.stage - 1).toNat)).2 == 0))
theorem dueB_alt (w : Lw) (x : Cs) : dueB w x = ((ckL w != 0) || decide (x.stage < 1) || decide (4 < x.stage) || (x.ap.state == 1)) := by
  rw [Bool.eq_iff_iff]
  simp [dueB, opn]
  omega
theorem due_ok {w : Lw} {cal : List Int} {x : Cs} (h : (due w cal x).2 = true) : ckL w = 0 ∧ 1 ≤ x.stage ∧ x.stage ≤ 4 ∧ x.ap.state ≠ 1 ∧ (latS cal x.since (ix w.days (x.stage - 1).toNat)) = ((due w cal x).1, 0) := by
  unfold due at h ⊢
  split at h
  · cases h
  · rename_i hb
    rw [dueB_alt] at hb
    have h : ((latS cal x.since (ix w.days (x.stage - 1).toNat)).2 == 0) = true := h
    have h := eq_of_beq h
    simp at hb
    rw [if_neg (by rw [dueB_alt]; simp; omega)]
    refine ⟨by omega, by omega, by omega, by omega, ?_⟩
    exact Prod.ext rfl h
theorem due_no {w : Lw} {cal : List Int} {x : Cs} (h : x.stage < 1 ∨ 4 < x.stage) : due w cal x = (0, false) := by
  unfold due
  rw [if_pos]
  rw [dueB_alt]; simp; omega
def chA (w : Lw) (x : Cs) (day : Int) : Int := if (ckL w != 0) = true then ckL w else if (!(isD day) || !(isD x.begun) || !(isD x.since) || decide (x.paused < 0) || decide (795364 < x.paused)) = true then 12 else if (decide (x.owed < 0) || decide (1125899906842624 < x.owed)) = true then 13 else if decide (day < x.since) = true then 15 else 0
structure OKx (w : Lw) (x : Cs) : Prop where
  c : ckL w = 0
  b : 0 ≤ x.begun ∧ x.begun < 795364
  p : 0 ≤ x.paused ∧ x.paused ≤ 795364
  o : 0 ≤ x.owed ∧ x.owed ≤ 1125899906842624
theorem chA_ok {w : Lw} {x : Cs} {day : Int} (h : chA w x day = 0) : OKx w x ∧ (0 ≤ day ∧ day < 795364) ∧ (0 ≤ x.since ∧ x.since ≤ day) := by
  unfold chA at h
  split at h
  · rename_i h1; simp at h1; exact absurd h h1
  · rename_i h1
    split at h
    · cases h
    · rename_i h2
      split at h
      · cases h
      · rename_i h3
        split at h
        · cases h
        · rename_i h4
          simp at h1 h2 h3 h4
          obtain ⟨⟨⟨⟨g1, g2⟩, g3⟩, g4⟩, g5⟩ := h2
          have g1 := isD_t g1
          have g2 := isD_t g2
          have g3 := isD_t g3
          exact ⟨⟨h1, g2, ⟨by omega, by omega⟩, ⟨by omega, by omega⟩⟩, g1, by omega, by omega⟩
theorem chA_of {w : Lw} {x : Cs} {day : Int} (h : OKx w x) (h1 : 0 ≤ day ∧ day < 795364) (h2 : 0 ≤ x.since ∧ x.since ≤ day) : chA w x day = 0 := by
  obtain ⟨c, b, p, o⟩ := h
  have e : ∀ d : Int, 0 ≤ d → d < 795364 → isD d = true := fun d a b => by simp [isD]; omega
  unfold chA
  rw [if_neg (by rw [c]; simp), if_neg (by rw [e day (by omega) (by omega), e x.begun (by omega) (by omega), e x.since (by omega) (by omega)]; simp; omega), if_neg (by simp; omega), if_neg (by simp; omega)]
def nxE (w : Lw) (x : Cs) : Int := x.begun + w.limit + x.paused
def bar (w : Lw) (x : Cs) : Cs := { x with stage := 8, since := max x.since (nxE w x) }
def fwd (w : Lw) (cal : List Int) (x : Cs) : Cs := { x with owed := min (x.owed + ix w.fees (x.stage - 1).toNat) 1125899906842624, stage := x.stage + 1, since := (due w cal x).1 }
def nx (w : Lw) (cal : List Int) (x : Cs) (day : Int) : Cs × Bool :=
  if (decide (nxE w x ≤ day) && (!(due w cal x).2 || decide (nxE w x ≤ (due w cal x).1))) = true then (bar w x, false) else
  if (!(due w cal x).2 || decide (day < (due w cal x).1)) = true then (x, false) else (fwd w cal x, true)
theorem fee_ok {w : Lw} (h : ckL w = 0) {s : Int} (h1 : 1 ≤ s) (h2 : s ≤ 4) : 0 ≤ ix w.fees (s - 1).toNat ∧ ix w.fees (s - 1).toNat ≤ 2147483648 := (ckL_ok h).2.2.2.1 _ (by omega)
theorem fwd_ok {w : Lw} {cal : List Int} {x : Cs} (h : OKx w x) (hd : (due w cal x).2 = true) : OKx w (fwd w cal x) := by
  have hk := due_ok hd
  have hf := fee_ok hk.1 hk.2.1 hk.2.2.1
  refine ⟨h.c, h.b, h.p, ?_⟩
  have := h.o
  show 0 ≤ min _ _ ∧ min _ _ ≤ _
  omega
theorem bar_ok {w : Lw} {x : Cs} (h : OKx w x) : OKx w (bar w x) := ⟨h.c, h.b, h.p, h.o⟩
theorem nx_ok {w : Lw} {cal : List Int} {x : Cs} {day : Int} (h : OKx w x) : OKx w (nx w cal x day).1 := by
  unfold nx
  split
  · exact bar_ok h
  · split
    · exact h
    · rename_i h2
      simp at h2
      exact fwd_ok h h2.1
def it (w : Lw) (cal : List Int) (day : Int) : Nat → Cs → Cs
  | 0, x => x
  | k + 1, x => if (nx w cal x day).2 = true then it w cal day k (nx w cal x day).1 else (nx w cal x day).1
def sw (w : Lw) (cal : List Int) (x : Cs) (day : Int) : Cs := if (x.stage == 1) = true then it w cal day 4 x else if (x.stage == 2) = true then it w cal day 3 x else if (x.stage == 3) = true then it w cal day 2 x else if (x.stage == 4) = true then it w cal day 1 x else x
abbrev z0 : Cs := Cs.mk ⟨#[]⟩ ⟨#[]⟩ ⟨#[]⟩ 0 0 0 0 0 0 (Ap.mk 0 0 0)
def adv (w : Lw) (cal : List Int) (x : Cs) (day : Int) : Cs × Int := if (chA w x day != 0) = true then (z0, chA w x day) else if (x.ap.state == 1) = true then (x, 0) else (sw w cal x day, 0)

set_option maxHeartbeats 4000000 in
set_option maxRecDepth 100000 in
theorem due19 (w : Lw) (cal : List Int) (x : Cs) (hl0 : cal.length < 9223372036854775807) : Ctr Tryd.prog 26 [.ag (eLw w), .sl 1 (List.map (rI .i64) cal), .ag (eCs x)] (.tu [.fl (.int .i64 (due w cal x).1), .fl (.bool (due w cal x).2)]) := by
  refine ctr (n := 46) (rs := #[.tmp 6, .tmp 7]) (L := [(0, .d (.ag (eLw w))), (1, .d (.sl 1 (List.map (rI .i64) cal))), (2, .d (.ag (eCs x)))]) Tryd.func26 rfl rfl rfl rfl rfl (fun w0 U0 => ?_)
  refine a_rseq ?_
  refine rg_nam (d := 3) (v := .pt 101 0) (m := 101) (nw := [(101, .bx 24 (eLw w))]) rfl (og rfl (of_eff (op_box 101 rfl rfl rfl rfl) rfl)) rfl ?_
  refine rg_nam (d := 5) (v := .pt 102 0) (m := 102) (nw := [(102, .bx 32 (eCs x))]) rfl (og rfl (of_eff (op_box 102 rfl rfl rfl rfl) rfl)) rfl ?_
  refine rg_put (d := 6) (v := .d (.fl (.int .i64 0))) rfl (og rfl (op_assign rfl rfl rfl)) ?_
  refine rg_put (d := 7) (v := .d (.fl (.bool false))) rfl (og rfl (op_assign rfl rfl rfl)) ?_
  refine rg_done rfl ?_
  refine a_seq ?_
  refine a_rseq ?_
  refine rg_put (d := 10) (v := .d (.ag (eLw w))) rfl (og rfl (of_eff (s_load_pts rfl Tryd.underlying24 rfl ti24 rfl rfl rfl rfl) rfl)) ?_
  refine rg_put (d := 11) (v := .d (.fl (.int .i64 (ckL w)))) rfl (og rfl (op_call rfl Tryd.func25 nm25 rfl (.cons rfl (.d _) .nil) (ck12 w) rfl)) ?_
  refine rg_put (d := 12) (v := .d (.fl (.bool (((ckL w) != 0))))) rfl (og rfl (op_bin rfl rfl rfl (b_neq _ _ _ _) rfl)) ?_
  refine rg_put (d := 13) (v := .d (.fl (.bool (((ckL w) != 0))))) rfl (og rfl (op_move rfl rfl rfl)) ?_
  rcases fot (((ckL w) != 0)) with h1 | h1
  · skip
    obtain ⟨c1, c2, c3, c4, c5, c6⟩ := ckL_ok (f_bne h1)
    have h2 := f_bne h1
    refine rg_put (d := 14) (v := .d (.ag (eCs x))) rfl (oy rfl rfl rfl h1 (of_eff (s_load_pts rfl Tryd.underlying32 rfl ti32 rfl rfl rfl rfl) rfl)) ?_
    refine rg_put (d := 15) (v := .d (.fl (.bool (opn x)))) rfl (oy rfl rfl rfl h1 (op_call rfl Tryd.func13 nm13 rfl (.cons rfl (.d _) .nil) (opn21 x) rfl)) ?_
    refine rg_put (d := 16) (v := .d (.fl (.bool ((!(opn x)))))) rfl (oy rfl rfl rfl h1 (op_un rfl rfl (u_not _) rfl)) ?_
    refine rg_put (d := 17) (v := .d (.fl (.bool ((!(opn x)))))) rfl (og rfl (op_pick rfl rfl (by rw [h1]; rfl) rfl)) ?_
    refine rg_put (d := 18) (v := .d (.fl (.bool ((!(opn x)))))) rfl (og rfl (op_move rfl rfl rfl)) ?_
    rcases fot ((!(opn x))) with h3 | h3
    · skip
      have h4 := f_not h3
      have hop := opn_t h4
      refine rg_put (d := 19) (v := .pt 102 5) rfl (oy rfl rfl rfl h3 (of_eff (s_field_pt rfl Tryd.underlying32 rfl ti3 rfl rfl rfl) rfl)) ?_
      refine rg_put (d := 20) (v := .d (.fl (.int .i64 x.stage))) rfl (oy rfl rfl rfl h3 (op_load_pt rfl Tryd.underlying3 rfl rfl rfl rfl rfl)) ?_
      refine rg_put (d := 21) (v := .d (.fl (.bool (x.stage == 5)))) rfl (oy rfl rfl rfl h3 (op_bin rfl rfl rfl (b_eql _ _ _ _) rfl)) ?_
      refine rg_put (d := 22) (v := .d (.fl (.bool (x.stage == 5)))) rfl (og rfl (op_pick rfl rfl (by rw [h3]; rfl) rfl)) ?_
      refine rg_put (d := 23) (v := .d (.fl (.bool (x.stage == 5)))) rfl (og rfl (op_move rfl rfl rfl)) ?_
      rcases fot (x.stage == 5) with h5 | h5
      · skip
        have h6 := f_beq h5
        refine rg_put (d := 24) (v := .pt 102 9) rfl (oy rfl rfl rfl h5 (of_eff (s_field_pt rfl Tryd.underlying32 rfl ti30 rfl rfl rfl) rfl)) ?_
        refine rg_put (d := 25) (v := .pt 102 9) rfl (oy rfl rfl rfl h5 (of_eff (s_field_pt rfl Tryd.underlying30 rfl ti3 rfl rfl rfl) rfl)) ?_
        refine rg_put (d := 26) (v := .d (.fl (.int .i64 x.ap.state))) rfl (oy rfl rfl rfl h5 (op_load_pt rfl Tryd.underlying3 rfl rfl rfl rfl rfl)) ?_
        refine rg_put (d := 27) (v := .d (.fl (.bool (x.ap.state == 1)))) rfl (oy rfl rfl rfl h5 (op_bin rfl rfl rfl (b_eql _ _ _ _) rfl)) ?_
        refine rg_put (d := 28) (v := .d (.fl (.bool (x.ap.state == 1)))) rfl (og rfl (op_pick rfl rfl (by rw [h5]; rfl) rfl)) ?_
        refine rg_done rfl ?_
        refine a_cond rfl (fun h7 => ?_) (fun h7 => ?_)
        · skip
          have h8 := t_beq h7
          refine a_rseq ?_
          refine rg_put (d := 6) (v := .d (.fl (.int .i64 0))) rfl (og rfl (op_assign rfl rfl rfl)) ?_
          refine rg_put (d := 7) (v := .d (.fl (.bool false))) rfl (og rfl (op_assign rfl rfl rfl)) ?_
          refine rg_done rfl ?_
          refine a_ret ?_
          show ∃ ds, ResL _ _ _ ds ∧ RV.of ds = _
          refine ⟨[.fl (.int .i64 0), .fl (.bool false)], (.cons (.tmp rfl (.d _)) (.cons (.tmp rfl (.d _)) .nil)), ?_⟩
          have hu : due w cal x = (0, false) := by
            unfold due dueB; simp only [h1, h3, h4, h5, h7]; rfl
          rw [hu]; rfl
        · skip
          have h9 := f_beq h7
          refine a_skip ?_
          show A _ _ _ _ _ _ _
          refine a_dseq (by kernel_rfl) ?_
          refine dr_put (d := 30) (v := .d (.sl 1 (List.map (rI .i64) cal))) rfl (og rfl (op_move rfl rfl rfl)) ?_
          refine dr_put (d := 31) (v := .pt 102 4) rfl (og rfl (of_eff (s_field_pt rfl Tryd.underlying32 rfl ti3 rfl rfl rfl) rfl)) ?_
          refine dr_put (d := 32) (v := .d (.fl (.int .i64 x.since))) rfl (og rfl (op_load_pt rfl Tryd.underlying3 rfl rfl rfl rfl rfl)) ?_
          refine dr_put (d := 33) (v := .pt 101 0) rfl (og rfl (of_eff (s_field_pt rfl Tryd.underlying24 rfl ti22 rfl rfl rfl) rfl)) ?_
          refine dr_put (d := 34) (v := .d (.sl 1 (List.map (rI .i64) w.days))) rfl (og rfl (op_load_pt rfl Tryd.underlying22 rfl rfl rfl rfl rfl)) ?_
          refine dr_put (d := 35) (v := .pt 102 5) rfl (og rfl (of_eff (s_field_pt rfl Tryd.underlying32 rfl ti3 rfl rfl rfl) rfl)) ?_
          refine dr_put (d := 36) (v := .d (.fl (.int .i64 x.stage))) rfl (og rfl (op_load_pt rfl Tryd.underlying3 rfl rfl rfl rfl rfl)) ?_
          refine dr_put (d := 37) (v := .d (.fl (.int .i64 (x.stage - 1)))) rfl (og rfl (op_bin rfl rfl rfl (fun x y w => b_sub64 _ _ _ x y w (by omega)) rfl)) ?_
          refine dr_put (d := 38) (v := .el ((rI .i64 ((ix w.days ((x.stage - 1)).toNat))))) rfl (og rfl (s_index rfl Tryd.underlying22 ti3 rfl rfl (by omega) (row_atI (by omega) (by omega)) rfl)) ?_
          refine dr_put (d := 39) (v := .d (.fl (.int .i64 ((ix w.days ((x.stage - 1)).toNat))))) rfl (og rfl (op_load_el rfl Tryd.underlying3 rfl rfl rfl rfl)) ?_
          refine dr_put (d := 40) (v := .tu [.fl (.int .i64 ((latS cal x.since ((ix w.days ((x.stage - 1)).toNat))).1)), .fl (.int .i64 ((latS cal x.since ((ix w.days ((x.stage - 1)).toNat))).2))]) rfl (og rfl (op_call rfl Tryd.func27 nm27 rfl (.cons rfl (.d _) (.cons rfl (.d _) (.cons rfl (.d _) .nil))) (later37 cal x.since ((ix w.days ((x.stage - 1)).toNat)) (by omega)) rfl)) ?_
          refine dr_put (d := 29) (v := .tu [.fl (.int .i64 ((latS cal x.since ((ix w.days ((x.stage - 1)).toNat))).1)), .fl (.int .i64 ((latS cal x.since ((ix w.days ((x.stage - 1)).toNat))).2))]) rfl (og rfl (op_move rfl rfl rfl)) ?_
          refine dr_put (d := 41) (v := .d (.fl (.int .i64 ((latS cal x.since ((ix w.days ((x.stage - 1)).toNat))).1)))) rfl (og rfl (op_extract rfl rfl rfl rfl)) ?_
          refine dr_put (d := 42) (v := .d (.fl (.int .i64 ((latS cal x.since ((ix w.days ((x.stage - 1)).toNat))).2)))) rfl (og rfl (op_extract rfl rfl rfl rfl)) ?_
          refine dr_put (d := 8) (v := .d (.fl (.int .i64 ((latS cal x.since ((ix w.days ((x.stage - 1)).toNat))).1)))) rfl (og rfl (op_assign rfl rfl rfl)) ?_
          refine dr_put (d := 9) (v := .d (.fl (.int .i64 ((latS cal x.since ((ix w.days ((x.stage - 1)).toNat))).2)))) rfl (og rfl (op_assign rfl rfl rfl)) ?_
          refine dr_done rfl (sepB_of [0, 0, 2, 0, 8, 0, 32, 96, 248, 504, 1023, 2047, 4095, 4095, 8191, 32767] (by kernel_rfl)) (by kernel_rfl) ?_
          refine a_rseq ?_
          refine rg_put (d := 43) (v := .d (.fl (.int .i64 ((latS cal x.since ((ix w.days ((x.stage - 1)).toNat))).1)))) rfl (og rfl (op_move rfl rfl rfl)) ?_
          refine rg_put (d := 44) (v := .d (.fl (.int .i64 ((latS cal x.since ((ix w.days ((x.stage - 1)).toNat))).2)))) rfl (og rfl (op_move rfl rfl rfl)) ?_
          refine rg_put (d := 45) (v := .d (.fl (.bool (((latS cal x.since ((ix w.days ((x.stage - 1)).toNat))).2 == 0))))) rfl (og rfl (op_bin rfl rfl rfl (b_eql _ _ _ _) rfl)) ?_
          refine rg_put (d := 6) (v := .d (.fl (.int .i64 ((latS cal x.since ((ix w.days ((x.stage - 1)).toNat))).1)))) rfl (og rfl (op_assign rfl rfl rfl)) ?_
          refine rg_put (d := 7) (v := .d (.fl (.bool (((latS cal x.since ((ix w.days ((x.stage - 1)).toNat))).2 == 0))))) rfl (og rfl (op_assign rfl rfl rfl)) ?_
          refine rg_done rfl ?_
          refine a_ret ?_
          show ∃ ds, ResL _ _ _ ds ∧ RV.of ds = _
          refine ⟨[.fl (.int .i64 ((latS cal x.since ((ix w.days ((x.stage - 1)).toNat))).1)), .fl (.bool (((latS cal x.since ((ix w.days ((x.stage - 1)).toNat))).2 == 0)))], (.cons (.tmp rfl (.d _)) (.cons (.tmp rfl (.d _)) .nil)), ?_⟩
          have hu : due w cal x = ((latS cal x.since ((ix w.days ((x.stage - 1)).toNat))).1, ((latS cal x.since ((ix w.days ((x.stage - 1)).toNat))).2 == 0)) := by
            unfold due dueB; simp only [h1, h3, h4, h5, h7]; rfl
          rw [hu]; rfl
      · skip
        have h10 := t_beq h5
        refine rg_put (d := 24) (v := .d (.fl undef)) rfl (on rfl rfl rfl h5) ?_
        refine rg_put (d := 25) (v := .d (.fl undef)) rfl (on rfl rfl rfl h5) ?_
        refine rg_put (d := 26) (v := .d (.fl undef)) rfl (on rfl rfl rfl h5) ?_
        refine rg_put (d := 27) (v := .d (.fl undef)) rfl (on rfl rfl rfl h5) ?_
        refine rg_put (d := 28) (v := .d (.fl (.bool true))) rfl (og rfl (op_pick rfl rfl (by rw [h5]; rfl) rfl)) ?_
        refine rg_done rfl ?_
        refine a_condK rfl rfl ?_
        refine a_rseq ?_
        refine rg_put (d := 6) (v := .d (.fl (.int .i64 0))) rfl (og rfl (op_assign rfl rfl rfl)) ?_
        refine rg_put (d := 7) (v := .d (.fl (.bool false))) rfl (og rfl (op_assign rfl rfl rfl)) ?_
        refine rg_done rfl ?_
        refine a_ret ?_
        show ∃ ds, ResL _ _ _ ds ∧ RV.of ds = _
        refine ⟨[.fl (.int .i64 0), .fl (.bool false)], (.cons (.tmp rfl (.d _)) (.cons (.tmp rfl (.d _)) .nil)), ?_⟩
        have hu : due w cal x = (0, false) := by
          unfold due dueB; simp only [h1, h3, h4, h5]; rfl
        rw [hu]; rfl
    · skip
      have h11 := t_not h3
      refine rg_put (d := 19) (v := .d (.fl undef)) rfl (on rfl rfl rfl h3) ?_
      refine rg_put (d := 20) (v := .d (.fl undef)) rfl (on rfl rfl rfl h3) ?_
      refine rg_put (d := 21) (v := .d (.fl undef)) rfl (on rfl rfl rfl h3) ?_
      refine rg_put (d := 22) (v := .d (.fl (.bool true))) rfl (og rfl (op_pick rfl rfl (by rw [h3]; rfl) rfl)) ?_
      refine rg_put (d := 23) (v := .d (.fl (.bool true))) rfl (og rfl (op_move rfl rfl rfl)) ?_
      refine rg_put (d := 24) (v := .d (.fl undef)) rfl (on rfl rfl rfl rfl) ?_
      refine rg_put (d := 25) (v := .d (.fl undef)) rfl (on rfl rfl rfl rfl) ?_
      refine rg_put (d := 26) (v := .d (.fl undef)) rfl (on rfl rfl rfl rfl) ?_
      refine rg_put (d := 27) (v := .d (.fl undef)) rfl (on rfl rfl rfl rfl) ?_
      refine rg_put (d := 28) (v := .d (.fl (.bool true))) rfl (og rfl (op_pick rfl rfl rfl rfl)) ?_
      refine rg_done rfl ?_
      refine a_condK rfl rfl ?_
      refine a_rseq ?_
      refine rg_put (d := 6) (v := .d (.fl (.int .i64 0))) rfl (og rfl (op_assign rfl rfl rfl)) ?_
      refine rg_put (d := 7) (v := .d (.fl (.bool false))) rfl (og rfl (op_assign rfl rfl rfl)) ?_
      refine rg_done rfl ?_
      refine a_ret ?_
      show ∃ ds, ResL _ _ _ ds ∧ RV.of ds = _
      refine ⟨[.fl (.int .i64 0), .fl (.bool false)], (.cons (.tmp rfl (.d _)) (.cons (.tmp rfl (.d _)) .nil)), ?_⟩
      have hu : due w cal x = (0, false) := by
        unfold due dueB; simp only [h1, h3, h11]; rfl
      rw [hu]; rfl
  · skip
    have h12 := t_bne h1
    refine rg_put (d := 14) (v := .d (.fl undef)) rfl (on rfl rfl rfl h1) ?_
    refine rg_put (d := 15) (v := .d (.fl undef)) rfl (on rfl rfl rfl h1) ?_
    refine rg_put (d := 16) (v := .d (.fl undef)) rfl (on rfl rfl rfl h1) ?_
    refine rg_put (d := 17) (v := .d (.fl (.bool true))) rfl (og rfl (op_pick rfl rfl (by rw [h1]; rfl) rfl)) ?_
    refine rg_put (d := 18) (v := .d (.fl (.bool true))) rfl (og rfl (op_move rfl rfl rfl)) ?_
    refine rg_put (d := 19) (v := .d (.fl undef)) rfl (on rfl rfl rfl rfl) ?_
    refine rg_put (d := 20) (v := .d (.fl undef)) rfl (on rfl rfl rfl rfl) ?_
    refine rg_put (d := 21) (v := .d (.fl undef)) rfl (on rfl rfl rfl rfl) ?_
    refine rg_put (d := 22) (v := .d (.fl (.bool true))) rfl (og rfl (op_pick rfl rfl rfl rfl)) ?_
    refine rg_put (d := 23) (v := .d (.fl (.bool true))) rfl (og rfl (op_move rfl rfl rfl)) ?_
    refine rg_put (d := 24) (v := .d (.fl undef)) rfl (on rfl rfl rfl rfl) ?_
    refine rg_put (d := 25) (v := .d (.fl undef)) rfl (on rfl rfl rfl rfl) ?_
    refine rg_put (d := 26) (v := .d (.fl undef)) rfl (on rfl rfl rfl rfl) ?_
    refine rg_put (d := 27) (v := .d (.fl undef)) rfl (on rfl rfl rfl rfl) ?_
    refine rg_put (d := 28) (v := .d (.fl (.bool true))) rfl (og rfl (op_pick rfl rfl rfl rfl)) ?_
    refine rg_done rfl ?_
    refine a_condK rfl rfl ?_
    refine a_rseq ?_
    refine rg_put (d := 6) (v := .d (.fl (.int .i64 0))) rfl (og rfl (op_assign rfl rfl rfl)) ?_
    refine rg_put (d := 7) (v := .d (.fl (.bool false))) rfl (og rfl (op_assign rfl rfl rfl)) ?_
    refine rg_done rfl ?_
    refine a_ret ?_
    show ∃ ds, ResL _ _ _ ds ∧ RV.of ds = _
    refine ⟨[.fl (.int .i64 0), .fl (.bool false)], (.cons (.tmp rfl (.d _)) (.cons (.tmp rfl (.d _)) .nil)), ?_⟩
    have hu : due w cal x = (0, false) := by
      unfold due dueB; simp only [h1]; rfl
    rw [hu]; rfl

set_option maxHeartbeats 4000000 in
set_option maxRecDepth 100000 in
theorem chA34 (w : Lw) (x : Cs) (day : Int) : Ctr Tryd.prog 17 [.ag (eLw w), .ag (eCs x), .fl (.int .i64 day)] (.d (.fl (.int .i64 (chA w x day)))) := by
  refine ctr (n := 53) (rs := #[.tmp 6]) (L := [(0, .d (.ag (eLw w))), (1, .d (.ag (eCs x))), (2, .d (.fl (.int .i64 day)))]) Tryd.func17 rfl rfl rfl rfl rfl (fun w0 U0 => ?_)
  refine a_rseq ?_
  refine rg_nam (d := 3) (v := .pt 101 0) (m := 101) (nw := [(101, .bx 24 (eLw w))]) rfl (og rfl (of_eff (op_box 101 rfl rfl rfl rfl) rfl)) rfl ?_
  refine rg_nam (d := 4) (v := .pt 102 0) (m := 102) (nw := [(102, .bx 32 (eCs x))]) rfl (og rfl (of_eff (op_box 102 rfl rfl rfl rfl) rfl)) rfl ?_
  refine rg_put (d := 6) (v := .d (.fl (.int .i64 0))) rfl (og rfl (op_assign rfl rfl rfl)) ?_
  refine rg_done rfl ?_
  refine a_seq ?_
  refine a_rseq ?_
  refine rg_put (d := 8) (v := .d (.ag (eLw w))) rfl (og rfl (of_eff (s_load_pts rfl Tryd.underlying24 rfl ti24 rfl rfl rfl rfl) rfl)) ?_
  refine rg_put (d := 9) (v := .d (.fl (.int .i64 (ckL w)))) rfl (og rfl (op_call rfl Tryd.func25 nm25 rfl (.cons rfl (.d _) .nil) (ck12 w) rfl)) ?_
  refine rg_put (d := 7) (v := .d (.fl (.int .i64 (ckL w)))) rfl (og rfl (op_assign rfl rfl rfl)) ?_
  refine rg_done rfl ?_
  refine a_rseq ?_
  refine rg_put (d := 10) (v := .d (.fl (.int .i64 (ckL w)))) rfl (og rfl (op_move rfl rfl rfl)) ?_
  refine rg_put (d := 11) (v := .d (.fl (.bool (((ckL w) != 0))))) rfl (og rfl (op_bin rfl rfl rfl (b_neq _ _ _ _) rfl)) ?_
  refine rg_done rfl ?_
  refine a_cond rfl (fun h1 => ?_) (fun h1 => ?_)
  · skip
    have h2 := t_bne h1
    refine a_rseq ?_
    refine rg_put (d := 12) (v := .d (.fl (.int .i64 (ckL w)))) rfl (og rfl (op_move rfl rfl rfl)) ?_
    refine rg_put (d := 6) (v := .d (.fl (.int .i64 (ckL w)))) rfl (og rfl (op_assign rfl rfl rfl)) ?_
    refine rg_done rfl ?_
    refine a_ret ?_
    show ∃ ds, ResL _ _ _ ds ∧ RV.of ds = _
    refine ⟨[.fl (.int .i64 (ckL w))], (.cons (.tmp rfl (.d _)) .nil), ?_⟩
    have hu : chA w x day = (ckL w) := by
      unfold chA; simp only [h1]; rfl
    rw [hu]; rfl
  · skip
    have h3 := f_bne h1
    refine a_skip ?_
    show A _ _ _ _ _ _ _
    refine a_seq ?_
    refine a_block ?_
    refine a_rseq ?_
    refine rg_put (d := 14) (v := .d (.fl (.int .i64 day))) rfl (og rfl (op_move rfl rfl rfl)) ?_
    refine rg_put (d := 15) (v := .d (.fl (.bool (isD day)))) rfl (og rfl (op_call rfl Tryd.func16 nm16 rfl (.cons rfl (.d _) .nil) (isD29 day) rfl)) ?_
    refine rg_put (d := 16) (v := .d (.fl (.bool ((!(isD day)))))) rfl (og rfl (op_un rfl rfl (u_not _) rfl)) ?_
    refine rg_put (d := 17) (v := .d (.fl (.bool ((!(isD day)))))) rfl (og rfl (op_move rfl rfl rfl)) ?_
    rcases fot ((!(isD day))) with h4 | h4
    · skip
      have h5 := f_not h4
      refine rg_put (d := 18) (v := .pt 102 3) rfl (oy rfl rfl rfl h4 (of_eff (s_field_pt rfl Tryd.underlying32 rfl ti3 rfl rfl rfl) rfl)) ?_
      refine rg_put (d := 19) (v := .d (.fl (.int .i64 x.begun))) rfl (oy rfl rfl rfl h4 (op_load_pt rfl Tryd.underlying3 rfl rfl rfl rfl rfl)) ?_
      refine rg_put (d := 20) (v := .d (.fl (.bool (isD x.begun)))) rfl (oy rfl rfl rfl h4 (op_call rfl Tryd.func16 nm16 rfl (.cons rfl (.d _) .nil) (isD29 x.begun) rfl)) ?_
      refine rg_put (d := 21) (v := .d (.fl (.bool ((!(isD x.begun)))))) rfl (oy rfl rfl rfl h4 (op_un rfl rfl (u_not _) rfl)) ?_
      refine rg_put (d := 22) (v := .d (.fl (.bool ((!(isD x.begun)))))) rfl (og rfl (op_pick rfl rfl (by rw [h4]; rfl) rfl)) ?_
      refine rg_put (d := 23) (v := .d (.fl (.bool ((!(isD x.begun)))))) rfl (og rfl (op_move rfl rfl rfl)) ?_
      rcases fot ((!(isD x.begun))) with h6 | h6
      · skip
        have h7 := f_not h6
        refine rg_put (d := 24) (v := .pt 102 4) rfl (oy rfl rfl rfl h6 (of_eff (s_field_pt rfl Tryd.underlying32 rfl ti3 rfl rfl rfl) rfl)) ?_
        refine rg_put (d := 25) (v := .d (.fl (.int .i64 x.since))) rfl (oy rfl rfl rfl h6 (op_load_pt rfl Tryd.underlying3 rfl rfl rfl rfl rfl)) ?_
        refine rg_put (d := 26) (v := .d (.fl (.bool (isD x.since)))) rfl (oy rfl rfl rfl h6 (op_call rfl Tryd.func16 nm16 rfl (.cons rfl (.d _) .nil) (isD29 x.since) rfl)) ?_
        refine rg_put (d := 27) (v := .d (.fl (.bool ((!(isD x.since)))))) rfl (oy rfl rfl rfl h6 (op_un rfl rfl (u_not _) rfl)) ?_
        refine rg_put (d := 28) (v := .d (.fl (.bool ((!(isD x.since)))))) rfl (og rfl (op_pick rfl rfl (by rw [h6]; rfl) rfl)) ?_
        refine rg_put (d := 29) (v := .d (.fl (.bool ((!(isD x.since)))))) rfl (og rfl (op_move rfl rfl rfl)) ?_
        rcases fot ((!(isD x.since))) with h8 | h8
        · skip
          have h9 := f_not h8
          refine rg_put (d := 30) (v := .pt 102 8) rfl (oy rfl rfl rfl h8 (of_eff (s_field_pt rfl Tryd.underlying32 rfl ti3 rfl rfl rfl) rfl)) ?_
          refine rg_put (d := 31) (v := .d (.fl (.int .i64 x.paused))) rfl (oy rfl rfl rfl h8 (op_load_pt rfl Tryd.underlying3 rfl rfl rfl rfl rfl)) ?_
          refine rg_put (d := 32) (v := .d (.fl (.bool ((decide (x.paused < 0)))))) rfl (oy rfl rfl rfl h8 (op_bin rfl rfl rfl (b_lss _ _ _ _) rfl)) ?_
          refine rg_put (d := 33) (v := .d (.fl (.bool ((decide (x.paused < 0)))))) rfl (og rfl (op_pick rfl rfl (by rw [h8]; rfl) rfl)) ?_
          refine rg_put (d := 34) (v := .d (.fl (.bool ((decide (x.paused < 0)))))) rfl (og rfl (op_move rfl rfl rfl)) ?_
          rcases fot ((decide (x.paused < 0))) with h10 | h10
          · skip
            have h11 := f_dec h10
            refine rg_put (d := 35) (v := .pt 102 8) rfl (oy rfl rfl rfl h10 (of_eff (s_field_pt rfl Tryd.underlying32 rfl ti3 rfl rfl rfl) rfl)) ?_
            refine rg_put (d := 36) (v := .d (.fl (.int .i64 x.paused))) rfl (oy rfl rfl rfl h10 (op_load_pt rfl Tryd.underlying3 rfl rfl rfl rfl rfl)) ?_
            refine rg_put (d := 37) (v := .d (.fl (.bool ((decide (795364 < x.paused)))))) rfl (oy rfl rfl rfl h10 (op_bin rfl rfl rfl (b_gtr _ _ _ _) rfl)) ?_
            refine rg_put (d := 38) (v := .d (.fl (.bool ((decide (795364 < x.paused)))))) rfl (og rfl (op_pick rfl rfl (by rw [h10]; rfl) rfl)) ?_
            refine rg_put (d := 13) (v := .d (.fl (.bool ((decide (795364 < x.paused)))))) rfl (og rfl (op_assign rfl rfl rfl)) ?_
            refine rg_done rfl ?_
            refine a_cond rfl (fun h12 => ?_) (fun h12 => ?_)
            · skip
              have h13 := t_dec h12
              refine a_rseq ?_
              refine rg_put (d := 6) (v := .d (.fl (.int .i64 12))) rfl (og rfl (op_assign rfl rfl rfl)) ?_
              refine rg_done rfl ?_
              refine a_ret ?_
              show ∃ ds, ResL _ _ _ ds ∧ RV.of ds = _
              refine ⟨[.fl (.int .i64 12)], (.cons (.tmp rfl (.d _)) .nil), ?_⟩
              have hu : chA w x day = 12 := by
                unfold chA; simp only [h1, h4, h5, h6, h7, h8, h9, h10, h12]; rfl
              rw [hu]; rfl
            · skip
              have h14 := f_dec h12
              refine a_rseq ?_
              refine rg_put (d := 40) (v := .pt 102 6) rfl (og rfl (of_eff (s_field_pt rfl Tryd.underlying32 rfl ti3 rfl rfl rfl) rfl)) ?_
              refine rg_put (d := 41) (v := .d (.fl (.int .i64 x.owed))) rfl (og rfl (op_load_pt rfl Tryd.underlying3 rfl rfl rfl rfl rfl)) ?_
              refine rg_put (d := 42) (v := .d (.fl (.bool ((decide (x.owed < 0)))))) rfl (og rfl (op_bin rfl rfl rfl (b_lss _ _ _ _) rfl)) ?_
              refine rg_put (d := 43) (v := .d (.fl (.bool ((decide (x.owed < 0)))))) rfl (og rfl (op_move rfl rfl rfl)) ?_
              rcases fot ((decide (x.owed < 0))) with h15 | h15
              · skip
                have h16 := f_dec h15
                refine rg_put (d := 44) (v := .pt 102 6) rfl (oy rfl rfl rfl h15 (of_eff (s_field_pt rfl Tryd.underlying32 rfl ti3 rfl rfl rfl) rfl)) ?_
                refine rg_put (d := 45) (v := .d (.fl (.int .i64 x.owed))) rfl (oy rfl rfl rfl h15 (op_load_pt rfl Tryd.underlying3 rfl rfl rfl rfl rfl)) ?_
                refine rg_put (d := 46) (v := .d (.fl (.bool ((decide (1125899906842624 < x.owed)))))) rfl (oy rfl rfl rfl h15 (op_bin rfl rfl rfl (b_gtr _ _ _ _) rfl)) ?_
                refine rg_put (d := 47) (v := .d (.fl (.bool ((decide (1125899906842624 < x.owed)))))) rfl (og rfl (op_pick rfl rfl (by rw [h15]; rfl) rfl)) ?_
                refine rg_put (d := 39) (v := .d (.fl (.bool ((decide (1125899906842624 < x.owed)))))) rfl (og rfl (op_assign rfl rfl rfl)) ?_
                refine rg_done rfl ?_
                refine a_cond rfl (fun h17 => ?_) (fun h17 => ?_)
                · skip
                  have h18 := t_dec h17
                  refine a_rseq ?_
                  refine rg_put (d := 6) (v := .d (.fl (.int .i64 13))) rfl (og rfl (op_assign rfl rfl rfl)) ?_
                  refine rg_done rfl ?_
                  refine a_ret ?_
                  show ∃ ds, ResL _ _ _ ds ∧ RV.of ds = _
                  refine ⟨[.fl (.int .i64 13)], (.cons (.tmp rfl (.d _)) .nil), ?_⟩
                  have hu : chA w x day = 13 := by
                    unfold chA; simp only [h1, h4, h5, h6, h7, h8, h9, h10, h12, h15, h17]; rfl
                  rw [hu]; rfl
                · skip
                  have h19 := f_dec h17
                  refine a_rseq ?_
                  refine rg_put (d := 49) (v := .d (.fl (.int .i64 day))) rfl (og rfl (op_move rfl rfl rfl)) ?_
                  refine rg_put (d := 50) (v := .pt 102 4) rfl (og rfl (of_eff (s_field_pt rfl Tryd.underlying32 rfl ti3 rfl rfl rfl) rfl)) ?_
                  refine rg_put (d := 51) (v := .d (.fl (.int .i64 x.since))) rfl (og rfl (op_load_pt rfl Tryd.underlying3 rfl rfl rfl rfl rfl)) ?_
                  refine rg_put (d := 52) (v := .d (.fl (.bool ((decide (day < x.since)))))) rfl (og rfl (op_bin rfl rfl rfl (b_lss _ _ _ _) rfl)) ?_
                  refine rg_put (d := 48) (v := .d (.fl (.bool ((decide (day < x.since)))))) rfl (og rfl (op_assign rfl rfl rfl)) ?_
                  refine rg_done rfl ?_
                  refine a_cond rfl (fun h20 => ?_) (fun h20 => ?_)
                  · skip
                    have h21 := t_dec h20
                    refine a_rseq ?_
                    refine rg_put (d := 6) (v := .d (.fl (.int .i64 15))) rfl (og rfl (op_assign rfl rfl rfl)) ?_
                    refine rg_done rfl ?_
                    refine a_ret ?_
                    show ∃ ds, ResL _ _ _ ds ∧ RV.of ds = _
                    refine ⟨[.fl (.int .i64 15)], (.cons (.tmp rfl (.d _)) .nil), ?_⟩
                    have hu : chA w x day = 15 := by
                      unfold chA; simp only [h1, h4, h5, h6, h7, h8, h9, h10, h12, h15, h17, h20]; rfl
                    rw [hu]; rfl
                  · skip
                    have h22 := f_dec h20
                    refine a_skip ?_
                    show A _ _ _ _ _ _ _
                    refine a_rseq ?_
                    refine rg_put (d := 6) (v := .d (.fl (.int .i64 0))) rfl (og rfl (op_assign rfl rfl rfl)) ?_
                    refine rg_done rfl ?_
                    refine a_ret ?_
                    show ∃ ds, ResL _ _ _ ds ∧ RV.of ds = _
                    refine ⟨[.fl (.int .i64 0)], (.cons (.tmp rfl (.d _)) .nil), ?_⟩
                    have hu : chA w x day = 0 := by
                      unfold chA; simp only [h1, h4, h5, h6, h7, h8, h9, h10, h12, h15, h17, h20]; rfl
                    rw [hu]; rfl
              · skip
                have h23 := t_dec h15
                refine rg_put (d := 44) (v := .d (.fl undef)) rfl (on rfl rfl rfl h15) ?_
                refine rg_put (d := 45) (v := .d (.fl undef)) rfl (on rfl rfl rfl h15) ?_
                refine rg_put (d := 46) (v := .d (.fl undef)) rfl (on rfl rfl rfl h15) ?_
                refine rg_put (d := 47) (v := .d (.fl (.bool true))) rfl (og rfl (op_pick rfl rfl (by rw [h15]; rfl) rfl)) ?_
                refine rg_put (d := 39) (v := .d (.fl (.bool true))) rfl (og rfl (op_assign rfl rfl rfl)) ?_
                refine rg_done rfl ?_
                refine a_condK rfl rfl ?_
                refine a_rseq ?_
                refine rg_put (d := 6) (v := .d (.fl (.int .i64 13))) rfl (og rfl (op_assign rfl rfl rfl)) ?_
                refine rg_done rfl ?_
                refine a_ret ?_
                show ∃ ds, ResL _ _ _ ds ∧ RV.of ds = _
                refine ⟨[.fl (.int .i64 13)], (.cons (.tmp rfl (.d _)) .nil), ?_⟩
                have hu : chA w x day = 13 := by
                  unfold chA; simp only [h1, h4, h5, h6, h7, h8, h9, h10, h12, h15]; rfl
                rw [hu]; rfl
          · skip
            have h24 := t_dec h10
            refine rg_put (d := 35) (v := .d (.fl undef)) rfl (on rfl rfl rfl h10) ?_
            refine rg_put (d := 36) (v := .d (.fl undef)) rfl (on rfl rfl rfl h10) ?_
            refine rg_put (d := 37) (v := .d (.fl undef)) rfl (on rfl rfl rfl h10) ?_
            refine rg_put (d := 38) (v := .d (.fl (.bool true))) rfl (og rfl (op_pick rfl rfl (by rw [h10]; rfl) rfl)) ?_
            refine rg_put (d := 13) (v := .d (.fl (.bool true))) rfl (og rfl (op_assign rfl rfl rfl)) ?_
            refine rg_done rfl ?_
            refine a_condK rfl rfl ?_
            refine a_rseq ?_
            refine rg_put (d := 6) (v := .d (.fl (.int .i64 12))) rfl (og rfl (op_assign rfl rfl rfl)) ?_
            refine rg_done rfl ?_
            refine a_ret ?_
            show ∃ ds, ResL _ _ _ ds ∧ RV.of ds = _
            refine ⟨[.fl (.int .i64 12)], (.cons (.tmp rfl (.d _)) .nil), ?_⟩
            have hu : chA w x day = 12 := by
              unfold chA; simp only [h1, h4, h5, h6, h7, h8, h9, h10]; rfl
            rw [hu]; rfl
        · skip
          have h25 := t_not h8
          refine rg_put (d := 30) (v := .d (.fl undef)) rfl (on rfl rfl rfl h8) ?_
          refine rg_put (d := 31) (v := .d (.fl undef)) rfl (on rfl rfl rfl h8) ?_
          refine rg_put (d := 32) (v := .d (.fl undef)) rfl (on rfl rfl rfl h8) ?_
          refine rg_put (d := 33) (v := .d (.fl (.bool true))) rfl (og rfl (op_pick rfl rfl (by rw [h8]; rfl) rfl)) ?_
          refine rg_put (d := 34) (v := .d (.fl (.bool true))) rfl (og rfl (op_move rfl rfl rfl)) ?_
          refine rg_put (d := 35) (v := .d (.fl undef)) rfl (on rfl rfl rfl rfl) ?_
          refine rg_put (d := 36) (v := .d (.fl undef)) rfl (on rfl rfl rfl rfl) ?_
          refine rg_put (d := 37) (v := .d (.fl undef)) rfl (on rfl rfl rfl rfl) ?_
          refine rg_put (d := 38) (v := .d (.fl (.bool true))) rfl (og rfl (op_pick rfl rfl rfl rfl)) ?_
          refine rg_put (d := 13) (v := .d (.fl (.bool true))) rfl (og rfl (op_assign rfl rfl rfl)) ?_
          refine rg_done rfl ?_
          refine a_condK rfl rfl ?_
          refine a_rseq ?_
          refine rg_put (d := 6) (v := .d (.fl (.int .i64 12))) rfl (og rfl (op_assign rfl rfl rfl)) ?_
          refine rg_done rfl ?_
          refine a_ret ?_
          show ∃ ds, ResL _ _ _ ds ∧ RV.of ds = _
          refine ⟨[.fl (.int .i64 12)], (.cons (.tmp rfl (.d _)) .nil), ?_⟩
          have hu : chA w x day = 12 := by
            unfold chA; simp only [h1, h4, h5, h6, h7, h8, h25]; rfl
          rw [hu]; rfl
      · skip
        have h26 := t_not h6
        refine rg_put (d := 24) (v := .d (.fl undef)) rfl (on rfl rfl rfl h6) ?_
        refine rg_put (d := 25) (v := .d (.fl undef)) rfl (on rfl rfl rfl h6) ?_
        refine rg_put (d := 26) (v := .d (.fl undef)) rfl (on rfl rfl rfl h6) ?_
        refine rg_put (d := 27) (v := .d (.fl undef)) rfl (on rfl rfl rfl h6) ?_
        refine rg_put (d := 28) (v := .d (.fl (.bool true))) rfl (og rfl (op_pick rfl rfl (by rw [h6]; rfl) rfl)) ?_
        refine rg_put (d := 29) (v := .d (.fl (.bool true))) rfl (og rfl (op_move rfl rfl rfl)) ?_
        refine rg_put (d := 30) (v := .d (.fl undef)) rfl (on rfl rfl rfl rfl) ?_
        refine rg_put (d := 31) (v := .d (.fl undef)) rfl (on rfl rfl rfl rfl) ?_
        refine rg_put (d := 32) (v := .d (.fl undef)) rfl (on rfl rfl rfl rfl) ?_
        refine rg_put (d := 33) (v := .d (.fl (.bool true))) rfl (og rfl (op_pick rfl rfl rfl rfl)) ?_
        refine rg_put (d := 34) (v := .d (.fl (.bool true))) rfl (og rfl (op_move rfl rfl rfl)) ?_
        refine rg_put (d := 35) (v := .d (.fl undef)) rfl (on rfl rfl rfl rfl) ?_
        refine rg_put (d := 36) (v := .d (.fl undef)) rfl (on rfl rfl rfl rfl) ?_
        refine rg_put (d := 37) (v := .d (.fl undef)) rfl (on rfl rfl rfl rfl) ?_
        refine rg_put (d := 38) (v := .d (.fl (.bool true))) rfl (og rfl (op_pick rfl rfl rfl rfl)) ?_
        refine rg_put (d := 13) (v := .d (.fl (.bool true))) rfl (og rfl (op_assign rfl rfl rfl)) ?_
        refine rg_done rfl ?_
        refine a_condK rfl rfl ?_
        refine a_rseq ?_
        refine rg_put (d := 6) (v := .d (.fl (.int .i64 12))) rfl (og rfl (op_assign rfl rfl rfl)) ?_
        refine rg_done rfl ?_
        refine a_ret ?_
        show ∃ ds, ResL _ _ _ ds ∧ RV.of ds = _
        refine ⟨[.fl (.int .i64 12)], (.cons (.tmp rfl (.d _)) .nil), ?_⟩
        have hu : chA w x day = 12 := by
          unfold chA; simp only [h1, h4, h5, h6, h26]; rfl
        rw [hu]; rfl
    · skip
      have h27 := t_not h4
      refine rg_put (d := 18) (v := .d (.fl undef)) rfl (on rfl rfl rfl h4) ?_
      refine rg_put (d := 19) (v := .d (.fl undef)) rfl (on rfl rfl rfl h4) ?_
      refine rg_put (d := 20) (v := .d (.fl undef)) rfl (on rfl rfl rfl h4) ?_
      refine rg_put (d := 21) (v := .d (.fl undef)) rfl (on rfl rfl rfl h4) ?_
      refine rg_put (d := 22) (v := .d (.fl (.bool true))) rfl (og rfl (op_pick rfl rfl (by rw [h4]; rfl) rfl)) ?_
      refine rg_put (d := 23) (v := .d (.fl (.bool true))) rfl (og rfl (op_move rfl rfl rfl)) ?_
      refine rg_put (d := 24) (v := .d (.fl undef)) rfl (on rfl rfl rfl rfl) ?_
      refine rg_put (d := 25) (v := .d (.fl undef)) rfl (on rfl rfl rfl rfl) ?_
      refine rg_put (d := 26) (v := .d (.fl undef)) rfl (on rfl rfl rfl rfl) ?_
      refine rg_put (d := 27) (v := .d (.fl undef)) rfl (on rfl rfl rfl rfl) ?_
      refine rg_put (d := 28) (v := .d (.fl (.bool true))) rfl (og rfl (op_pick rfl rfl rfl rfl)) ?_
      refine rg_put (d := 29) (v := .d (.fl (.bool true))) rfl (og rfl (op_move rfl rfl rfl)) ?_
      refine rg_put (d := 30) (v := .d (.fl undef)) rfl (on rfl rfl rfl rfl) ?_
      refine rg_put (d := 31) (v := .d (.fl undef)) rfl (on rfl rfl rfl rfl) ?_
      refine rg_put (d := 32) (v := .d (.fl undef)) rfl (on rfl rfl rfl rfl) ?_
      refine rg_put (d := 33) (v := .d (.fl (.bool true))) rfl (og rfl (op_pick rfl rfl rfl rfl)) ?_
      refine rg_put (d := 34) (v := .d (.fl (.bool true))) rfl (og rfl (op_move rfl rfl rfl)) ?_
      refine rg_put (d := 35) (v := .d (.fl undef)) rfl (on rfl rfl rfl rfl) ?_
      refine rg_put (d := 36) (v := .d (.fl undef)) rfl (on rfl rfl rfl rfl) ?_
      refine rg_put (d := 37) (v := .d (.fl undef)) rfl (on rfl rfl rfl rfl) ?_
      refine rg_put (d := 38) (v := .d (.fl (.bool true))) rfl (og rfl (op_pick rfl rfl rfl rfl)) ?_
      refine rg_put (d := 13) (v := .d (.fl (.bool true))) rfl (og rfl (op_assign rfl rfl rfl)) ?_
      refine rg_done rfl ?_
      refine a_condK rfl rfl ?_
      refine a_rseq ?_
      refine rg_put (d := 6) (v := .d (.fl (.int .i64 12))) rfl (og rfl (op_assign rfl rfl rfl)) ?_
      refine rg_done rfl ?_
      refine a_ret ?_
      show ∃ ds, ResL _ _ _ ds ∧ RV.of ds = _
      refine ⟨[.fl (.int .i64 12)], (.cons (.tmp rfl (.d _)) .nil), ?_⟩
      have hu : chA w x day = 12 := by
        unfold chA; simp only [h1, h4, h27]; rfl
      rw [hu]; rfl
end Go.Proofs.YtdafmaocbkmmgaaDoor.Wk
