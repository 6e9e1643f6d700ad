/- The law of the next time. No condition. -/
import Derived.Test.YtniefocnfcaebaaAl
import Derived.Test.YtniefocnfcaebaaB3
set_option linter.unusedSimpArgs false
set_option linter.unusedVariables false
namespace Go.Proofs.Ytniefocnfcaebaa.Wk
open Go Go.RowKit Go.Proofs.Ytniefocnfcaebaa.Av
def grt (z : Zn) : Bool := decide (60 < (z.hours.length : Int)) || decide (40 < (z.steps.length : Int))
theorem grt_f {z : Zn} (h : grt z = false) : z.hours.length ≤ 60 ∧ z.steps.length ≤ 40 := by simp [grt] at h; omega
set_option maxHeartbeats 4000000 in
set_option maxRecDepth 100000 in
theorem grt6 (z : Zn) : Ctr Try.prog 8 [.ag (eZn z)] (.d (.fl (.bool (grt z)))) := by
  refine ctr (n := 13) (rs := #[.tmp 2]) (L := [(0, .d (.ag (eZn z)))]) Try.func8 rfl rfl rfl rfl rfl (fun w0 U0 => ?_)
  refine a_rseq ?_
  refine rg_nam (d := 1) (v := .pt 101 0) (m := 101) (nw := [(101, .bx 25 (eZn z))]) rfl (og rfl (of_eff (op_box 101 rfl rfl rfl rfl) rfl)) rfl ?_
  refine rg_put (d := 2) (v := .d (.fl (.bool false))) rfl (og rfl (op_assign rfl rfl rfl)) ?_
  refine rg_done rfl ?_
  refine a_rseq ?_
  refine rg_put (d := 3) (v := .pt 101 1) rfl (og rfl (of_eff (s_field_pt rfl Try.underlying25 rfl ti22 rfl rfl rfl) rfl)) ?_
  refine rg_put (d := 4) (v := .d (.sl 3 (List.map eWd z.hours))) rfl (og rfl (op_load_pt rfl Try.underlying22 rfl rfl rfl rfl rfl)) ?_
  refine rg_put (d := 5) (v := .d (.fl (.int .i64 (z.hours.length : Int)))) rfl (og rfl (s_len rfl Try.underlying22 rfl rfl)) ?_
  refine rg_put (d := 6) (v := .d (.fl (.bool ((decide (60 < (z.hours.length : Int))))))) rfl (og rfl (op_bin rfl rfl rfl (b_gtr _ _ _ _) rfl)) ?_
  refine rg_put (d := 7) (v := .d (.fl (.bool ((decide (60 < (z.hours.length : Int))))))) rfl (og rfl (op_move rfl rfl rfl)) ?_
  rcases fot ((decide (60 < (z.hours.length : Int)))) with h1 | h1
  · skip
    have h2 := f_dec h1
    refine rg_put (d := 8) (v := .pt 101 2) rfl (oy rfl rfl rfl h1 (of_eff (s_field_pt rfl Try.underlying25 rfl ti23 rfl rfl rfl) rfl)) ?_
    refine rg_put (d := 9) (v := .d (.sl 3 (List.map eStp z.steps))) rfl (oy rfl rfl rfl h1 (op_load_pt rfl Try.underlying23 rfl rfl rfl rfl rfl)) ?_
    refine rg_put (d := 10) (v := .d (.fl (.int .i64 (z.steps.length : Int)))) rfl (oy rfl rfl rfl h1 (s_len rfl Try.underlying23 rfl rfl)) ?_
    refine rg_put (d := 11) (v := .d (.fl (.bool ((decide (40 < (z.steps.length : Int))))))) rfl (oy rfl rfl rfl h1 (op_bin rfl rfl rfl (b_gtr _ _ _ _) rfl)) ?_
    refine rg_put (d := 12) (v := .d (.fl (.bool ((decide (40 < (z.steps.length : Int))))))) rfl (og rfl (op_pick rfl rfl (by rw [h1]; rfl) rfl)) ?_
    refine rg_put (d := 2) (v := .d (.fl (.bool ((decide (40 < (z.steps.length : Int))))))) rfl (og rfl (op_assign rfl rfl rfl)) ?_
    refine rg_done rfl ?_
    refine a_ret ?_
    show ∃ ds, ResL _ _ _ ds ∧ RV.of ds = _
    refine ⟨[.fl (.bool ((decide (40 < (z.steps.length : Int)))))], (.cons (.tmp rfl (.d _)) .nil), ?_⟩
    first
      | (have hu : grt z = (decide (40 < (z.steps.length : Int))) := by
          unfold grt; simp only [h1, Bool.true_or, Bool.false_or, Bool.or_true, Bool.or_false, Bool.not_true, Bool.not_false, cond_true, cond_false, Bool.true_and, Bool.false_and, Bool.and_true, Bool.and_false] <;> rfl
         rw [hu]; rfl)
      | (exfalso; omega)
  · skip
    have h3 := t_dec h1
    refine rg_put (d := 8) (v := .d (.fl undef)) rfl (on rfl rfl rfl h1) ?_
    refine rg_put (d := 9) (v := .d (.fl undef)) rfl (on rfl rfl rfl h1) ?_
    refine rg_put (d := 10) (v := .d (.fl undef)) rfl (on rfl rfl rfl h1) ?_
    refine rg_put (d := 11) (v := .d (.fl undef)) rfl (on rfl rfl rfl h1) ?_
    refine rg_put (d := 12) (v := .d (.fl (.bool true))) rfl (og rfl (op_pick rfl rfl (by rw [h1]; rfl) rfl)) ?_
    refine rg_put (d := 2) (v := .d (.fl (.bool true))) rfl (og rfl (op_assign rfl rfl rfl)) ?_
    refine rg_done rfl ?_
    refine a_ret ?_
    show ∃ ds, ResL _ _ _ ds ∧ RV.of ds = _
    refine ⟨[.fl (.bool true)], (.cons (.tmp rfl (.d _)) .nil), ?_⟩
    first
      | (have hu : grt z = true := by
          unfold grt; simp only [h1, Bool.true_or, Bool.false_or, Bool.or_true, Bool.or_false, Bool.not_true, Bool.not_false, cond_true, cond_false, Bool.true_and, Bool.false_and, Bool.and_true, Bool.and_false] <;> rfl
         rw [hu]; rfl)
      | (exfalso; omega)
theorem zck_hours {z : Zn} (h : zck z = 0) : 0 < (vws (hrs z)).length := by
  unfold zck at h
  split at h
  · exact absurd h (by decide)
  · split at h
    · exact absurd h (by decide)
    · split at h
      · rename_i q; exact absurd h q
      · rename_i q
        have q : hrE z.hours = 0 := by simpa using q
        unfold hrs
        by_cases h0 : z.hours.length = 0
        · rw [if_pos h0]; decide
        · rw [if_neg h0]
          have h1 : hr1 z.hours 0 = 0 := by
            unfold hrE at q
            cases hn : z.hours.length with
            | zero => exact absurd hn h0
            | succ n =>
              rw [hn] at q
              have hs : fe (hr1 z.hours) 0 (n + 1) = if hr1 z.hours 0 = 0 then fe (hr1 z.hours) (0 + 1) n else hr1 z.hours 0 := rfl
              rw [hs] at q
              by_cases hz : hr1 z.hours 0 = 0
              · exact hz
              · rw [if_neg hz] at q; exact absurd q hz
          have hv : vW (ix z.hours 0) = true := by
            cases hv : vW (ix z.hours 0) with
            | true => rfl
            | false => rw [hr_n hv] at h1; exact absurd h1 (by decide)
          exact List.length_pos_of_mem (List.mem_filter.2 ⟨ix_mem (by omega : 0 < z.hours.length), hv⟩)
theorem nxv_no {z : Zn} {t : Int} (ht : 0 ≤ t ∧ t < 68719476736) (h : (nxv z t).2 = false) : (nxv z t).1 = 0 ∧ (∀ x, t ≤ x → opn z x = false) ∧ ¬ (zck z = 0 ∧ t < 68718785536) := by
  unfold nxv at h ⊢
  rw [if_neg (by omega)] at h ⊢
  by_cases ho : opn z t = true
  · rw [if_pos ho] at h; cases h
  · rw [if_neg ho] at h ⊢
    have ho : opn z t = false := by simpa using ho
    by_cases hf : fst z t = 68719476736
    · rw [if_pos hf]
      exact ⟨rfl, fst_no ht.1 ho hf, fun hc => (fst_week ht.1 hc.2 ho (zck_hours hc.1)).1 hf⟩
    · rw [if_neg hf] at h; cases h
theorem nxv_yes {z : Zn} {t : Int} (ht : 0 ≤ t ∧ t < 68719476736) (h : (nxv z t).2 = true) : t ≤ (nxv z t).1 ∧ (nxv z t).1 ≤ 68719476736 ∧ opn z (nxv z t).1 = true ∧ (∀ x, t ≤ x → x < (nxv z t).1 → opn z x = false) ∧ (zck z = 0 → (nxv z t).1 - t ≤ 604800) := by
  unfold nxv at h ⊢
  rw [if_neg (by omega)] at h ⊢
  by_cases ho : opn z t = true
  · rw [if_pos ho]
    exact ⟨Int.le_refl _, by show t ≤ _; omega, ho, fun x h1 h2 => by exfalso; have h3 : x < t := h2; omega, fun _ => by show t - t ≤ _; omega⟩
  · rw [if_neg ho] at h ⊢
    have ho : opn z t = false := by simpa using ho
    by_cases hf : fst z t = 68719476736
    · rw [if_pos hf] at h; cases h
    · rw [if_neg hf]
      obtain ⟨h1, h2, h3⟩ := fst_yes ht.1 ho hf
      have h4 := (outT_le (vws (hrs z)) t (vws (hrs z)).length).1
      refine ⟨by show t ≤ fst z t; omega, h4, h2, h3, fun hc => ?_⟩
      show fst z t - t ≤ 604800
      obtain ⟨i, hi, hw⟩ := opn_ex.1 h2
      obtain ⟨j, g1, g2, g3, g4⟩ := key_start ht.1 hw h1 (opn_at ho hi)
      have g5 : fst z t ≤ _ := (outT_le (vws (hrs z)) t _).2.2 i hi j g1 g2 g3
      obtain ⟨hv, _, _, hb, _, _⟩ := inW_p.1 g3
      obtain ⟨_, _, v3, v4, v5⟩ := vW_p hv
      have e1 : cdt (ix (vws (hrs z)) i) (t / 86400 + (j : Int)) / 86400 = t / 86400 + (j : Int) := by unfold cdt; omega
      rcases Int.lt_or_le t (cdt (ix (vws (hrs z)) i) (t / 86400)) with hq | hq
      · by_cases hj : j = 7
        · exfalso
          have h6 : cdt (ix (vws (hrs z)) i) (t / 86400 + (j : Int)) = cdt (ix (vws (hrs z)) i) (t / 86400) + 604800 := by unfold cdt; omega
          have h7 := cdt_in hv (d := t / 86400) (by omega) (by omega) (by rw [e1, show (t / 86400 + (j : Int)) % 7 = t / 86400 % 7 by omega] at hb; exact hb)
          have h8 : fst z t ≤ _ := (outT_le (vws (hrs z)) t _).2.2 i hi 0 (by omega) (by simpa using hq) (by simpa using h7)
          have h9 : t / 86400 + ((0 : Nat) : Int) = t / 86400 := by simp
          rw [h9] at h8
          omega
        · unfold cdt at g5; omega
      · unfold cdt at g5 hq; omega

set_option maxHeartbeats 4000000 in
set_option maxRecDepth 100000 in
theorem law7 (z : Zn) (t x : Int) : Ctr Try.prog 7 [.ag (eZn z), .fl (.int .i64 t), .fl (.int .i64 x)] (.d (.fl (.bool true))) := by
  refine ctr (n := 87) (rs := #[.tmp 6]) (L := [(0, .d (.ag (eZn z))), (1, .d (.fl (.int .i64 t))), (2, .d (.fl (.int .i64 x)))]) Try.func7 rfl rfl rfl rfl rfl (fun w0 U0 => ?_)
  refine a_rseq ?_
  refine rg_nam (d := 3) (v := .pt 101 0) (m := 101) (nw := [(101, .bx 25 (eZn z))]) rfl (og rfl (of_eff (op_box 101 rfl rfl rfl rfl) rfl)) rfl ?_
  refine rg_put (d := 6) (v := .d (.fl (.bool false))) rfl (og rfl (op_assign rfl rfl rfl)) ?_
  refine rg_done rfl ?_
  refine a_seq ?_
  refine a_rseq ?_
  refine rg_put (d := 9) (v := .d (.ag (eZn z))) rfl (og rfl (of_eff (s_load_pts rfl Try.underlying25 rfl ti25 rfl rfl rfl rfl) rfl)) ?_
  refine rg_put (d := 10) (v := .d (.fl (.bool (grt z)))) rfl (og rfl (op_call rfl Try.func8 nm8 rfl (.cons rfl (.d _) .nil) (grt6 z) rfl)) ?_
  refine rg_put (d := 11) (v := .d (.fl (.bool (grt z)))) rfl (og rfl (op_move rfl rfl rfl)) ?_
  rcases fot (grt z) with h1 | h1
  · skip
    refine rg_put (d := 12) (v := .d (.fl (.int .i64 t))) rfl (oy rfl rfl rfl h1 (op_move rfl rfl rfl)) ?_
    refine rg_put (d := 13) (v := .d (.fl (.bool ((decide (t < 0)))))) rfl (oy rfl rfl rfl h1 (op_bin rfl rfl rfl (b_lss _ _ _ _) rfl)) ?_
    refine rg_put (d := 14) (v := .d (.fl (.bool ((decide (t < 0)))))) rfl (og rfl (op_pick rfl rfl (by rw [h1]; rfl) rfl)) ?_
    refine rg_put (d := 15) (v := .d (.fl (.bool ((decide (t < 0)))))) rfl (og rfl (op_move rfl rfl rfl)) ?_
    rcases fot ((decide (t < 0))) with h2 | h2
    · skip
      have h3 := f_dec h2
      refine rg_put (d := 16) (v := .d (.fl (.int .i64 t))) rfl (oy rfl rfl rfl h2 (op_move rfl rfl rfl)) ?_
      refine rg_put (d := 17) (v := .d (.fl (.bool ((decide (68719476736 ≤ t)))))) rfl (oy rfl rfl rfl h2 (op_bin rfl rfl rfl (b_geq _ _ _ _) rfl)) ?_
      refine rg_put (d := 18) (v := .d (.fl (.bool ((decide (68719476736 ≤ t)))))) rfl (og rfl (op_pick rfl rfl (by rw [h2]; rfl) rfl)) ?_
      refine rg_done rfl ?_
      refine a_cond rfl (fun h4 => ?_) (fun h4 => ?_)
      · skip
        have h5 := t_dec h4
        refine a_rseq ?_
        refine rg_put (d := 19) (v := .d (.fl (.bool true))) rfl (og rfl (op_call rfl Try.func9 nm9 rfl .nil alive9 rfl)) ?_
        refine rg_put (d := 6) (v := .d (.fl (.bool true))) rfl (og rfl (op_assign rfl rfl rfl)) ?_
        refine rg_done rfl ?_
        refine a_ret ?_
        show ∃ ds, ResL _ _ _ ds ∧ RV.of ds = _
        refine ⟨[.fl (.bool true)], (.cons (.tmp rfl (.d _)) .nil), ?_⟩
        rfl
      · skip
        have h6 := f_dec h4
        refine a_skip ?_
        show A _ _ _ _ _ _ _
        refine a_rseq ?_
        have htt : 0 ≤ t ∧ t < 68719476736 := by omega
        refine rg_put (d := 21) (v := .d (.ag (eZn z))) rfl (og rfl (of_eff (s_load_pts rfl Try.underlying25 rfl ti25 rfl rfl rfl rfl) rfl)) ?_
        refine rg_put (d := 22) (v := .d (.fl (.int .i64 t))) rfl (og rfl (op_move rfl rfl rfl)) ?_
        refine rg_put (d := 23) (v := .tu [.fl (.int .i64 ((nxv z t).1)), .fl (.bool ((nxv z t).2))]) rfl (og rfl (op_call rfl Try.func10 nm10 rfl (.cons rfl (.d _) (.cons rfl (.d _) .nil)) (next10 z t (grt_f h1).1) rfl)) ?_
        refine rg_put (d := 20) (v := .tu [.fl (.int .i64 ((nxv z t).1)), .fl (.bool ((nxv z t).2))]) rfl (og rfl (op_move rfl rfl rfl)) ?_
        refine rg_put (d := 24) (v := .d (.fl (.int .i64 ((nxv z t).1)))) rfl (og rfl (op_extract rfl rfl rfl rfl)) ?_
        refine rg_put (d := 25) (v := .d (.fl (.bool ((nxv z t).2)))) rfl (og rfl (op_extract rfl rfl rfl rfl)) ?_
        refine rg_put (d := 7) (v := .d (.fl (.int .i64 ((nxv z t).1)))) rfl (og rfl (op_assign rfl rfl rfl)) ?_
        refine rg_put (d := 8) (v := .d (.fl (.bool ((nxv z t).2)))) rfl (og rfl (op_assign rfl rfl rfl)) ?_
        refine rg_done rfl ?_
        refine a_seq ?_
        refine a_rseq ?_
        refine rg_put (d := 26) (v := .d (.fl (.bool ((nxv z t).2)))) rfl (og rfl (op_move rfl rfl rfl)) ?_
        refine rg_put (d := 27) (v := .d (.fl (.bool ((!((nxv z t).2)))))) rfl (og rfl (op_un rfl rfl (u_not _) rfl)) ?_
        refine rg_done rfl ?_
        refine a_cond rfl (fun h7 => ?_) (fun h7 => ?_)
        · skip
          have h8 := t_not h7
          obtain ⟨hn1, hn2, hn3⟩ := nxv_no htt h8
          refine a_seq ?_
          refine a_rseq ?_
          refine rg_put (d := 28) (v := .d (.fl (.int .i64 ((nxv z t).1)))) rfl (og rfl (op_move rfl rfl rfl)) ?_
          refine rg_put (d := 29) (v := .d (.fl (.bool (((nxv z t).1 != 0))))) rfl (og rfl (op_bin rfl rfl rfl (b_neq _ _ _ _) rfl)) ?_
          refine rg_put (d := 30) (v := .d (.fl (.bool (((nxv z t).1 != 0))))) rfl (og rfl (op_move rfl rfl rfl)) ?_
          refine rg_put (d := 31) (v := .d (.fl (.int .i64 x))) rfl (oy rfl rfl rfl (show ((nxv z t).1 != 0) = false from by rw [hn1]; rfl) (op_move rfl rfl rfl)) ?_
          refine rg_put (d := 32) (v := .d (.fl (.int .i64 t))) rfl (oy rfl rfl rfl (show ((nxv z t).1 != 0) = false from by rw [hn1]; rfl) (op_move rfl rfl rfl)) ?_
          refine rg_put (d := 33) (v := .d (.fl (.bool ((decide (t ≤ x)))))) rfl (oy rfl rfl rfl (show ((nxv z t).1 != 0) = false from by rw [hn1]; rfl) (op_bin rfl rfl rfl (b_geq _ _ _ _) rfl)) ?_
          refine rg_put (d := 34) (v := .d (.fl (.bool ((decide (t ≤ x)))))) rfl (oy rfl rfl rfl (show ((nxv z t).1 != 0) = false from by rw [hn1]; rfl) (op_move rfl rfl rfl)) ?_
          rcases fot ((decide (t ≤ x))) with h9 | h9
          · skip
            have h10 := f_dec h9
            refine rg_put (d := 35) (v := .d (.fl undef)) rfl (on rfl rfl rfl h9) ?_
            refine rg_put (d := 36) (v := .d (.fl undef)) rfl (on rfl rfl rfl h9) ?_
            refine rg_put (d := 37) (v := .d (.fl undef)) rfl (on rfl rfl rfl h9) ?_
            refine rg_put (d := 38) (v := .d (.fl (.bool false))) rfl (oy rfl rfl rfl (show ((nxv z t).1 != 0) = false from by rw [hn1]; rfl) (op_pick rfl rfl (by rw [h9]; rfl) rfl)) ?_
            refine rg_put (d := 39) (v := .d (.fl (.bool false))) rfl (og rfl (op_pick rfl rfl (by rw [(show ((nxv z t).1 != 0) = false from by rw [hn1]; rfl)]; rfl) rfl)) ?_
            refine rg_done rfl ?_
            refine a_condF rfl rfl ?_
            refine a_skip ?_
            show A _ _ _ _ _ _ _
            refine a_rseq ?_
            refine rg_put (d := 40) (v := .d (.ag (eZn z))) rfl (og rfl (of_eff (s_load_pts rfl Try.underlying25 rfl ti25 rfl rfl rfl rfl) rfl)) ?_
            refine rg_put (d := 41) (v := .d (.fl (.int .i64 (zck z)))) rfl (og rfl (op_call rfl Try.func20 nm20 rfl (.cons rfl (.d _) .nil) (zck8 z (grt_f h1).1 (grt_f h1).2) rfl)) ?_
            refine rg_put (d := 42) (v := .d (.fl (.bool (((zck z) == 0))))) rfl (og rfl (op_bin rfl rfl rfl (b_eql _ _ _ _) rfl)) ?_
            refine rg_put (d := 43) (v := .d (.fl (.bool (((zck z) == 0))))) rfl (og rfl (op_move rfl rfl rfl)) ?_
            rcases fot (((zck z) == 0)) with h11 | h11
            · skip
              have h12 := f_beq h11
              refine rg_put (d := 44) (v := .d (.fl undef)) rfl (on rfl rfl rfl h11) ?_
              refine rg_put (d := 45) (v := .d (.fl undef)) rfl (on rfl rfl rfl h11) ?_
              refine rg_put (d := 46) (v := .d (.fl (.bool false))) rfl (og rfl (op_pick rfl rfl (by rw [h11]; rfl) rfl)) ?_
              refine rg_put (d := 47) (v := .d (.fl (.bool (!false)))) rfl (og rfl (op_un rfl rfl (u_not _) rfl)) ?_
              refine rg_put (d := 48) (v := .d (.fl (.bool (!false)))) rfl (og rfl (op_move rfl rfl rfl)) ?_
              refine rg_put (d := 49) (v := .d (.fl (.bool true))) rfl (oy rfl rfl rfl rfl (op_call rfl Try.func9 nm9 rfl .nil alive9 rfl)) ?_
              refine rg_put (d := 50) (v := .d (.fl (.bool true))) rfl (og rfl (op_pick rfl rfl rfl rfl)) ?_
              refine rg_put (d := 6) (v := .d (.fl (.bool true))) rfl (og rfl (op_assign rfl rfl rfl)) ?_
              refine rg_done rfl ?_
              refine a_ret ?_
              show ∃ ds, ResL _ _ _ ds ∧ RV.of ds = _
              refine ⟨[.fl (.bool true)], (.cons (.tmp rfl (.d _)) .nil), ?_⟩
              rfl
            · skip
              have h13 := t_beq h11
              refine rg_put (d := 44) (v := .d (.fl (.int .i64 t))) rfl (oy rfl rfl rfl h11 (op_move rfl rfl rfl)) ?_
              refine rg_put (d := 45) (v := .d (.fl (.bool ((decide (t < 68718785536)))))) rfl (oy rfl rfl rfl h11 (op_bin rfl rfl rfl (b_lss _ _ _ _) rfl)) ?_
              refine rg_put (d := 46) (v := .d (.fl (.bool ((decide (t < 68718785536)))))) rfl (og rfl (op_pick rfl rfl (by rw [h11]; rfl) rfl)) ?_
              refine rg_put (d := 47) (v := .d (.fl (.bool ((!((decide (t < 68718785536)))))))) rfl (og rfl (op_un rfl rfl (u_not _) rfl)) ?_
              refine rg_put (d := 48) (v := .d (.fl (.bool ((!((decide (t < 68718785536)))))))) rfl (og rfl (op_move rfl rfl rfl)) ?_
              rcases fot ((!((decide (t < 68718785536))))) with h14 | h14
              · skip
                have h15 := f_not h14
                have h16 := t_dec h15
                refine rg_put (d := 49) (v := .d (.fl undef)) rfl (on rfl rfl rfl h14) ?_
                refine rg_put (d := 50) (v := .d (.fl (.bool false))) rfl (og rfl (op_pick rfl rfl (by rw [h14]; rfl) rfl)) ?_
                refine rg_put (d := 6) (v := .d (.fl (.bool false))) rfl (og rfl (op_assign rfl rfl rfl)) ?_
                refine rg_done rfl ?_
                refine a_ret ?_
                show ∃ ds, ResL _ _ _ ds ∧ RV.of ds = _
                refine ⟨[.fl (.bool false)], (.cons (.tmp rfl (.d _)) .nil), ?_⟩
                exfalso; exact hn3 ⟨by first | exact eq_of_beq (by assumption) | exact (f_bne (by assumption)), by omega⟩
              · skip
                have h17 := t_not h14
                have h18 := f_dec h17
                refine rg_put (d := 49) (v := .d (.fl (.bool true))) rfl (oy rfl rfl rfl h14 (op_call rfl Try.func9 nm9 rfl .nil alive9 rfl)) ?_
                refine rg_put (d := 50) (v := .d (.fl (.bool true))) rfl (og rfl (op_pick rfl rfl (by rw [h14]; rfl) rfl)) ?_
                refine rg_put (d := 6) (v := .d (.fl (.bool true))) rfl (og rfl (op_assign rfl rfl rfl)) ?_
                refine rg_done rfl ?_
                refine a_ret ?_
                show ∃ ds, ResL _ _ _ ds ∧ RV.of ds = _
                refine ⟨[.fl (.bool true)], (.cons (.tmp rfl (.d _)) .nil), ?_⟩
                rfl
          · skip
            have h19 := t_dec h9
            refine rg_put (d := 35) (v := .d (.ag (eZn z))) rfl (oy rfl rfl rfl h9 (of_eff (s_load_pts rfl Try.underlying25 rfl ti25 rfl rfl rfl rfl) rfl)) ?_
            refine rg_put (d := 36) (v := .d (.fl (.int .i64 x))) rfl (oy rfl rfl rfl h9 (op_move rfl rfl rfl)) ?_
            refine rg_put (d := 37) (v := .d (.fl (.bool (opn z x)))) rfl (oy rfl rfl rfl h9 (op_call rfl Try.func12 nm12 rfl (.cons rfl (.d _) (.cons rfl (.d _) .nil)) (open12 z x (grt_f h1).1) rfl)) ?_
            refine rg_put (d := 38) (v := .d (.fl (.bool (opn z x)))) rfl (oy rfl rfl rfl (show ((nxv z t).1 != 0) = false from by rw [hn1]; rfl) (op_pick rfl rfl (by rw [h9]; rfl) rfl)) ?_
            refine rg_put (d := 39) (v := .d (.fl (.bool (opn z x)))) rfl (og rfl (op_pick rfl rfl (by rw [(show ((nxv z t).1 != 0) = false from by rw [hn1]; rfl)]; rfl) rfl)) ?_
            refine rg_done rfl ?_
            refine a_condF rfl (hn2 x (of_decide_eq_true h9)) ?_
            refine a_skip ?_
            show A _ _ _ _ _ _ _
            refine a_rseq ?_
            refine rg_put (d := 40) (v := .d (.ag (eZn z))) rfl (og rfl (of_eff (s_load_pts rfl Try.underlying25 rfl ti25 rfl rfl rfl rfl) rfl)) ?_
            refine rg_put (d := 41) (v := .d (.fl (.int .i64 (zck z)))) rfl (og rfl (op_call rfl Try.func20 nm20 rfl (.cons rfl (.d _) .nil) (zck8 z (grt_f h1).1 (grt_f h1).2) rfl)) ?_
            refine rg_put (d := 42) (v := .d (.fl (.bool (((zck z) == 0))))) rfl (og rfl (op_bin rfl rfl rfl (b_eql _ _ _ _) rfl)) ?_
            refine rg_put (d := 43) (v := .d (.fl (.bool (((zck z) == 0))))) rfl (og rfl (op_move rfl rfl rfl)) ?_
            rcases fot (((zck z) == 0)) with h20 | h20
            · skip
              have h21 := f_beq h20
              refine rg_put (d := 44) (v := .d (.fl undef)) rfl (on rfl rfl rfl h20) ?_
              refine rg_put (d := 45) (v := .d (.fl undef)) rfl (on rfl rfl rfl h20) ?_
              refine rg_put (d := 46) (v := .d (.fl (.bool false))) rfl (og rfl (op_pick rfl rfl (by rw [h20]; rfl) rfl)) ?_
              refine rg_put (d := 47) (v := .d (.fl (.bool (!false)))) rfl (og rfl (op_un rfl rfl (u_not _) rfl)) ?_
              refine rg_put (d := 48) (v := .d (.fl (.bool (!false)))) rfl (og rfl (op_move rfl rfl rfl)) ?_
              refine rg_put (d := 49) (v := .d (.fl (.bool true))) rfl (oy rfl rfl rfl rfl (op_call rfl Try.func9 nm9 rfl .nil alive9 rfl)) ?_
              refine rg_put (d := 50) (v := .d (.fl (.bool true))) rfl (og rfl (op_pick rfl rfl rfl rfl)) ?_
              refine rg_put (d := 6) (v := .d (.fl (.bool true))) rfl (og rfl (op_assign rfl rfl rfl)) ?_
              refine rg_done rfl ?_
              refine a_ret ?_
              show ∃ ds, ResL _ _ _ ds ∧ RV.of ds = _
              refine ⟨[.fl (.bool true)], (.cons (.tmp rfl (.d _)) .nil), ?_⟩
              rfl
            · skip
              have h22 := t_beq h20
              refine rg_put (d := 44) (v := .d (.fl (.int .i64 t))) rfl (oy rfl rfl rfl h20 (op_move rfl rfl rfl)) ?_
              refine rg_put (d := 45) (v := .d (.fl (.bool ((decide (t < 68718785536)))))) rfl (oy rfl rfl rfl h20 (op_bin rfl rfl rfl (b_lss _ _ _ _) rfl)) ?_
              refine rg_put (d := 46) (v := .d (.fl (.bool ((decide (t < 68718785536)))))) rfl (og rfl (op_pick rfl rfl (by rw [h20]; rfl) rfl)) ?_
              refine rg_put (d := 47) (v := .d (.fl (.bool ((!((decide (t < 68718785536)))))))) rfl (og rfl (op_un rfl rfl (u_not _) rfl)) ?_
              refine rg_put (d := 48) (v := .d (.fl (.bool ((!((decide (t < 68718785536)))))))) rfl (og rfl (op_move rfl rfl rfl)) ?_
              rcases fot ((!((decide (t < 68718785536))))) with h23 | h23
              · skip
                have h24 := f_not h23
                have h25 := t_dec h24
                refine rg_put (d := 49) (v := .d (.fl undef)) rfl (on rfl rfl rfl h23) ?_
                refine rg_put (d := 50) (v := .d (.fl (.bool false))) rfl (og rfl (op_pick rfl rfl (by rw [h23]; rfl) rfl)) ?_
                refine rg_put (d := 6) (v := .d (.fl (.bool false))) rfl (og rfl (op_assign rfl rfl rfl)) ?_
                refine rg_done rfl ?_
                refine a_ret ?_
                show ∃ ds, ResL _ _ _ ds ∧ RV.of ds = _
                refine ⟨[.fl (.bool false)], (.cons (.tmp rfl (.d _)) .nil), ?_⟩
                exfalso; exact hn3 ⟨by first | exact eq_of_beq (by assumption) | exact (f_bne (by assumption)), by omega⟩
              · skip
                have h26 := t_not h23
                have h27 := f_dec h26
                refine rg_put (d := 49) (v := .d (.fl (.bool true))) rfl (oy rfl rfl rfl h23 (op_call rfl Try.func9 nm9 rfl .nil alive9 rfl)) ?_
                refine rg_put (d := 50) (v := .d (.fl (.bool true))) rfl (og rfl (op_pick rfl rfl (by rw [h23]; rfl) rfl)) ?_
                refine rg_put (d := 6) (v := .d (.fl (.bool true))) rfl (og rfl (op_assign rfl rfl rfl)) ?_
                refine rg_done rfl ?_
                refine a_ret ?_
                show ∃ ds, ResL _ _ _ ds ∧ RV.of ds = _
                refine ⟨[.fl (.bool true)], (.cons (.tmp rfl (.d _)) .nil), ?_⟩
                rfl
        · skip
          have h28 := f_not h7
          obtain ⟨hy1, hy2, hy3, hy4, hy5⟩ := nxv_yes htt h28
          refine a_skip ?_
          show A _ _ _ _ _ _ _
          refine a_seq ?_
          refine a_rseq ?_
          refine rg_put (d := 51) (v := .d (.fl (.int .i64 ((nxv z t).1)))) rfl (og rfl (op_move rfl rfl rfl)) ?_
          refine rg_put (d := 52) (v := .d (.fl (.int .i64 t))) rfl (og rfl (op_move rfl rfl rfl)) ?_
          refine rg_put (d := 53) (v := .d (.fl (.bool ((decide ((nxv z t).1 < t)))))) rfl (og rfl (op_bin rfl rfl rfl (b_lss _ _ _ _) rfl)) ?_
          refine rg_put (d := 54) (v := .d (.fl (.bool ((decide ((nxv z t).1 < t)))))) rfl (og rfl (op_move rfl rfl rfl)) ?_
          refine rg_put (d := 55) (v := .d (.ag (eZn z))) rfl (oy rfl rfl rfl (show (decide ((nxv z t).1 < t)) = false from decide_eq_false (by omega)) (of_eff (s_load_pts rfl Try.underlying25 rfl ti25 rfl rfl rfl rfl) rfl)) ?_
          refine rg_put (d := 56) (v := .d (.fl (.int .i64 ((nxv z t).1)))) rfl (oy rfl rfl rfl (show (decide ((nxv z t).1 < t)) = false from decide_eq_false (by omega)) (op_move rfl rfl rfl)) ?_
          refine rg_put (d := 57) (v := .d (.fl (.bool ((opn z ((nxv z t).1)))))) rfl (oy rfl rfl rfl (show (decide ((nxv z t).1 < t)) = false from decide_eq_false (by omega)) (op_call rfl Try.func12 nm12 rfl (.cons rfl (.d _) (.cons rfl (.d _) .nil)) (open12 z ((nxv z t).1) (grt_f h1).1) rfl)) ?_
          refine rg_put (d := 58) (v := .d (.fl (.bool ((!((opn z ((nxv z t).1)))))))) rfl (oy rfl rfl rfl (show (decide ((nxv z t).1 < t)) = false from decide_eq_false (by omega)) (op_un rfl rfl (u_not _) rfl)) ?_
          refine rg_put (d := 59) (v := .d (.fl (.bool ((!((opn z ((nxv z t).1)))))))) rfl (og rfl (op_pick rfl rfl (by rw [(show (decide ((nxv z t).1 < t)) = false from decide_eq_false (by omega))]; rfl) rfl)) ?_
          refine rg_put (d := 60) (v := .d (.fl (.bool ((!((opn z ((nxv z t).1)))))))) rfl (og rfl (op_move rfl rfl rfl)) ?_
          refine rg_put (d := 61) (v := .d (.fl (.int .i64 x))) rfl (oy rfl rfl rfl (not_f hy3) (op_move rfl rfl rfl)) ?_
          refine rg_put (d := 62) (v := .d (.fl (.int .i64 t))) rfl (oy rfl rfl rfl (not_f hy3) (op_move rfl rfl rfl)) ?_
          refine rg_put (d := 63) (v := .d (.fl (.bool ((decide (t ≤ x)))))) rfl (oy rfl rfl rfl (not_f hy3) (op_bin rfl rfl rfl (b_geq _ _ _ _) rfl)) ?_
          refine rg_put (d := 64) (v := .d (.fl (.bool ((decide (t ≤ x)))))) rfl (oy rfl rfl rfl (not_f hy3) (op_move rfl rfl rfl)) ?_
          rcases fot ((decide (t ≤ x))) with h29 | h29
          · skip
            have h30 := f_dec h29
            refine rg_put (d := 65) (v := .d (.fl undef)) rfl (on rfl rfl rfl h29) ?_
            refine rg_put (d := 66) (v := .d (.fl undef)) rfl (on rfl rfl rfl h29) ?_
            refine rg_put (d := 67) (v := .d (.fl undef)) rfl (on rfl rfl rfl h29) ?_
            refine rg_put (d := 68) (v := .d (.fl (.bool false))) rfl (oy rfl rfl rfl (not_f hy3) (op_pick rfl rfl (by rw [h29]; rfl) rfl)) ?_
            refine rg_put (d := 69) (v := .d (.fl (.bool false))) rfl (oy rfl rfl rfl (not_f hy3) (op_move rfl rfl rfl)) ?_
            refine rg_put (d := 70) (v := .d (.fl undef)) rfl (on rfl rfl rfl rfl) ?_
            refine rg_put (d := 71) (v := .d (.fl undef)) rfl (on rfl rfl rfl rfl) ?_
            refine rg_put (d := 72) (v := .d (.fl undef)) rfl (on rfl rfl rfl rfl) ?_
            refine rg_put (d := 73) (v := .d (.fl (.bool false))) rfl (oy rfl rfl rfl (not_f hy3) (op_pick rfl rfl rfl rfl)) ?_
            refine rg_put (d := 74) (v := .d (.fl (.bool false))) rfl (og rfl (op_pick rfl rfl (by rw [(not_f hy3)]; rfl) rfl)) ?_
            refine rg_done rfl ?_
            refine a_condF rfl rfl ?_
            refine a_skip ?_
            show A _ _ _ _ _ _ _
            refine a_rseq ?_
            refine rg_put (d := 75) (v := .d (.ag (eZn z))) rfl (og rfl (of_eff (s_load_pts rfl Try.underlying25 rfl ti25 rfl rfl rfl rfl) rfl)) ?_
            refine rg_put (d := 76) (v := .d (.fl (.int .i64 (zck z)))) rfl (og rfl (op_call rfl Try.func20 nm20 rfl (.cons rfl (.d _) .nil) (zck8 z (grt_f h1).1 (grt_f h1).2) rfl)) ?_
            refine rg_put (d := 77) (v := .d (.fl (.bool (((zck z) != 0))))) rfl (og rfl (op_bin rfl rfl rfl (b_neq _ _ _ _) rfl)) ?_
            refine rg_put (d := 78) (v := .d (.fl (.bool (((zck z) != 0))))) rfl (og rfl (op_move rfl rfl rfl)) ?_
            rcases fot (((zck z) != 0)) with h31 | h31
            · skip
              have h32 := f_bne h31
              refine rg_put (d := 79) (v := .d (.fl (.int .i64 ((nxv z t).1)))) rfl (oy rfl rfl rfl h31 (op_move rfl rfl rfl)) ?_
              refine rg_put (d := 80) (v := .d (.fl (.int .i64 t))) rfl (oy rfl rfl rfl h31 (op_move rfl rfl rfl)) ?_
              refine rg_put (d := 81) (v := .d (.fl (.int .i64 (((nxv z t).1 - t))))) rfl (oy rfl rfl rfl h31 (op_bin rfl rfl rfl (fun x y w => b_sub64 _ _ _ x y w (by omega)) rfl)) ?_
              refine rg_put (d := 82) (v := .d (.fl (.bool ((decide (((nxv z t).1 - t) ≤ 604800)))))) rfl (oy rfl rfl rfl h31 (op_bin rfl rfl rfl (b_leq _ _ _ _) rfl)) ?_
              refine rg_put (d := 83) (v := .d (.fl (.bool ((decide (((nxv z t).1 - t) ≤ 604800)))))) rfl (og rfl (op_pick rfl rfl (by rw [h31]; rfl) rfl)) ?_
              refine rg_put (d := 84) (v := .d (.fl (.bool ((decide (((nxv z t).1 - t) ≤ 604800)))))) rfl (og rfl (op_move rfl rfl rfl)) ?_
              refine rg_put (d := 85) (v := .d (.fl (.bool true))) rfl (oy rfl rfl rfl (show (decide (((nxv z t).1 - t) ≤ 604800)) = true from decide_eq_true (hy5 (by first | exact eq_of_beq (by assumption) | exact (f_bne (by assumption))))) (op_call rfl Try.func9 nm9 rfl .nil alive9 rfl)) ?_
              refine rg_put (d := 86) (v := .d (.fl (.bool true))) rfl (og rfl (op_pick rfl rfl (by rw [(show (decide (((nxv z t).1 - t) ≤ 604800)) = true from decide_eq_true (hy5 (by first | exact eq_of_beq (by assumption) | exact (f_bne (by assumption)))))]; rfl) rfl)) ?_
              refine rg_put (d := 6) (v := .d (.fl (.bool true))) rfl (og rfl (op_assign rfl rfl rfl)) ?_
              refine rg_done rfl ?_
              refine a_ret ?_
              show ∃ ds, ResL _ _ _ ds ∧ RV.of ds = _
              refine ⟨[.fl (.bool true)], (.cons (.tmp rfl (.d _)) .nil), ?_⟩
              rfl
            · skip
              have h33 := t_bne h31
              refine rg_put (d := 79) (v := .d (.fl undef)) rfl (on rfl rfl rfl h31) ?_
              refine rg_put (d := 80) (v := .d (.fl undef)) rfl (on rfl rfl rfl h31) ?_
              refine rg_put (d := 81) (v := .d (.fl undef)) rfl (on rfl rfl rfl h31) ?_
              refine rg_put (d := 82) (v := .d (.fl undef)) rfl (on rfl rfl rfl h31) ?_
              refine rg_put (d := 83) (v := .d (.fl (.bool true))) rfl (og rfl (op_pick rfl rfl (by rw [h31]; rfl) rfl)) ?_
              refine rg_put (d := 84) (v := .d (.fl (.bool true))) rfl (og rfl (op_move rfl rfl rfl)) ?_
              refine rg_put (d := 85) (v := .d (.fl (.bool true))) rfl (oy rfl rfl rfl rfl (op_call rfl Try.func9 nm9 rfl .nil alive9 rfl)) ?_
              refine rg_put (d := 86) (v := .d (.fl (.bool true))) rfl (og rfl (op_pick rfl rfl rfl rfl)) ?_
              refine rg_put (d := 6) (v := .d (.fl (.bool true))) rfl (og rfl (op_assign rfl rfl rfl)) ?_
              refine rg_done rfl ?_
              refine a_ret ?_
              show ∃ ds, ResL _ _ _ ds ∧ RV.of ds = _
              refine ⟨[.fl (.bool true)], (.cons (.tmp rfl (.d _)) .nil), ?_⟩
              rfl
          · skip
            have h34 := t_dec h29
            refine rg_put (d := 65) (v := .d (.fl (.int .i64 x))) rfl (oy rfl rfl rfl h29 (op_move rfl rfl rfl)) ?_
            refine rg_put (d := 66) (v := .d (.fl (.int .i64 ((nxv z t).1)))) rfl (oy rfl rfl rfl h29 (op_move rfl rfl rfl)) ?_
            refine rg_put (d := 67) (v := .d (.fl (.bool ((decide (x < (nxv z t).1)))))) rfl (oy rfl rfl rfl h29 (op_bin rfl rfl rfl (b_lss _ _ _ _) rfl)) ?_
            refine rg_put (d := 68) (v := .d (.fl (.bool ((decide (x < (nxv z t).1)))))) rfl (oy rfl rfl rfl (not_f hy3) (op_pick rfl rfl (by rw [h29]; rfl) rfl)) ?_
            refine rg_put (d := 69) (v := .d (.fl (.bool ((decide (x < (nxv z t).1)))))) rfl (oy rfl rfl rfl (not_f hy3) (op_move rfl rfl rfl)) ?_
            rcases fot ((decide (x < (nxv z t).1))) with h35 | h35
            · skip
              have h36 := f_dec h35
              refine rg_put (d := 70) (v := .d (.fl undef)) rfl (on rfl rfl rfl h35) ?_
              refine rg_put (d := 71) (v := .d (.fl undef)) rfl (on rfl rfl rfl h35) ?_
              refine rg_put (d := 72) (v := .d (.fl undef)) rfl (on rfl rfl rfl h35) ?_
              refine rg_put (d := 73) (v := .d (.fl (.bool false))) rfl (oy rfl rfl rfl (not_f hy3) (op_pick rfl rfl (by rw [h35]; rfl) rfl)) ?_
              refine rg_put (d := 74) (v := .d (.fl (.bool false))) rfl (og rfl (op_pick rfl rfl (by rw [(not_f hy3)]; rfl) rfl)) ?_
              refine rg_done rfl ?_
              refine a_condF rfl rfl ?_
              refine a_skip ?_
              show A _ _ _ _ _ _ _
              refine a_rseq ?_
              refine rg_put (d := 75) (v := .d (.ag (eZn z))) rfl (og rfl (of_eff (s_load_pts rfl Try.underlying25 rfl ti25 rfl rfl rfl rfl) rfl)) ?_
              refine rg_put (d := 76) (v := .d (.fl (.int .i64 (zck z)))) rfl (og rfl (op_call rfl Try.func20 nm20 rfl (.cons rfl (.d _) .nil) (zck8 z (grt_f h1).1 (grt_f h1).2) rfl)) ?_
              refine rg_put (d := 77) (v := .d (.fl (.bool (((zck z) != 0))))) rfl (og rfl (op_bin rfl rfl rfl (b_neq _ _ _ _) rfl)) ?_
              refine rg_put (d := 78) (v := .d (.fl (.bool (((zck z) != 0))))) rfl (og rfl (op_move rfl rfl rfl)) ?_
              rcases fot (((zck z) != 0)) with h37 | h37
              · skip
                have h38 := f_bne h37
                refine rg_put (d := 79) (v := .d (.fl (.int .i64 ((nxv z t).1)))) rfl (oy rfl rfl rfl h37 (op_move rfl rfl rfl)) ?_
                refine rg_put (d := 80) (v := .d (.fl (.int .i64 t))) rfl (oy rfl rfl rfl h37 (op_move rfl rfl rfl)) ?_
                refine rg_put (d := 81) (v := .d (.fl (.int .i64 (((nxv z t).1 - t))))) rfl (oy rfl rfl rfl h37 (op_bin rfl rfl rfl (fun x y w => b_sub64 _ _ _ x y w (by omega)) rfl)) ?_
                refine rg_put (d := 82) (v := .d (.fl (.bool ((decide (((nxv z t).1 - t) ≤ 604800)))))) rfl (oy rfl rfl rfl h37 (op_bin rfl rfl rfl (b_leq _ _ _ _) rfl)) ?_
                refine rg_put (d := 83) (v := .d (.fl (.bool ((decide (((nxv z t).1 - t) ≤ 604800)))))) rfl (og rfl (op_pick rfl rfl (by rw [h37]; rfl) rfl)) ?_
                refine rg_put (d := 84) (v := .d (.fl (.bool ((decide (((nxv z t).1 - t) ≤ 604800)))))) rfl (og rfl (op_move rfl rfl rfl)) ?_
                refine rg_put (d := 85) (v := .d (.fl (.bool true))) rfl (oy rfl rfl rfl (show (decide (((nxv z t).1 - t) ≤ 604800)) = true from decide_eq_true (hy5 (by first | exact eq_of_beq (by assumption) | exact (f_bne (by assumption))))) (op_call rfl Try.func9 nm9 rfl .nil alive9 rfl)) ?_
                refine rg_put (d := 86) (v := .d (.fl (.bool true))) rfl (og rfl (op_pick rfl rfl (by rw [(show (decide (((nxv z t).1 - t) ≤ 604800)) = true from decide_eq_true (hy5 (by first | exact eq_of_beq (by assumption) | exact (f_bne (by assumption)))))]; rfl) rfl)) ?_
                refine rg_put (d := 6) (v := .d (.fl (.bool true))) rfl (og rfl (op_assign rfl rfl rfl)) ?_
                refine rg_done rfl ?_
                refine a_ret ?_
                show ∃ ds, ResL _ _ _ ds ∧ RV.of ds = _
                refine ⟨[.fl (.bool true)], (.cons (.tmp rfl (.d _)) .nil), ?_⟩
                rfl
              · skip
                have h39 := t_bne h37
                refine rg_put (d := 79) (v := .d (.fl undef)) rfl (on rfl rfl rfl h37) ?_
                refine rg_put (d := 80) (v := .d (.fl undef)) rfl (on rfl rfl rfl h37) ?_
                refine rg_put (d := 81) (v := .d (.fl undef)) rfl (on rfl rfl rfl h37) ?_
                refine rg_put (d := 82) (v := .d (.fl undef)) rfl (on rfl rfl rfl h37) ?_
                refine rg_put (d := 83) (v := .d (.fl (.bool true))) rfl (og rfl (op_pick rfl rfl (by rw [h37]; rfl) rfl)) ?_
                refine rg_put (d := 84) (v := .d (.fl (.bool true))) rfl (og rfl (op_move rfl rfl rfl)) ?_
                refine rg_put (d := 85) (v := .d (.fl (.bool true))) rfl (oy rfl rfl rfl rfl (op_call rfl Try.func9 nm9 rfl .nil alive9 rfl)) ?_
                refine rg_put (d := 86) (v := .d (.fl (.bool true))) rfl (og rfl (op_pick rfl rfl rfl rfl)) ?_
                refine rg_put (d := 6) (v := .d (.fl (.bool true))) rfl (og rfl (op_assign rfl rfl rfl)) ?_
                refine rg_done rfl ?_
                refine a_ret ?_
                show ∃ ds, ResL _ _ _ ds ∧ RV.of ds = _
                refine ⟨[.fl (.bool true)], (.cons (.tmp rfl (.d _)) .nil), ?_⟩
                rfl
            · skip
              have h40 := t_dec h35
              refine rg_put (d := 70) (v := .d (.ag (eZn z))) rfl (oy rfl rfl rfl h35 (of_eff (s_load_pts rfl Try.underlying25 rfl ti25 rfl rfl rfl rfl) rfl)) ?_
              refine rg_put (d := 71) (v := .d (.fl (.int .i64 x))) rfl (oy rfl rfl rfl h35 (op_move rfl rfl rfl)) ?_
              refine rg_put (d := 72) (v := .d (.fl (.bool (opn z x)))) rfl (oy rfl rfl rfl h35 (op_call rfl Try.func12 nm12 rfl (.cons rfl (.d _) (.cons rfl (.d _) .nil)) (open12 z x (grt_f h1).1) rfl)) ?_
              refine rg_put (d := 73) (v := .d (.fl (.bool (opn z x)))) rfl (oy rfl rfl rfl (not_f hy3) (op_pick rfl rfl (by rw [h35]; rfl) rfl)) ?_
              refine rg_put (d := 74) (v := .d (.fl (.bool (opn z x)))) rfl (og rfl (op_pick rfl rfl (by rw [(not_f hy3)]; rfl) rfl)) ?_
              refine rg_done rfl ?_
              refine a_condF rfl (hy4 x (of_decide_eq_true h29) (of_decide_eq_true h35)) ?_
              refine a_skip ?_
              show A _ _ _ _ _ _ _
              refine a_rseq ?_
              refine rg_put (d := 75) (v := .d (.ag (eZn z))) rfl (og rfl (of_eff (s_load_pts rfl Try.underlying25 rfl ti25 rfl rfl rfl rfl) rfl)) ?_
              refine rg_put (d := 76) (v := .d (.fl (.int .i64 (zck z)))) rfl (og rfl (op_call rfl Try.func20 nm20 rfl (.cons rfl (.d _) .nil) (zck8 z (grt_f h1).1 (grt_f h1).2) rfl)) ?_
              refine rg_put (d := 77) (v := .d (.fl (.bool (((zck z) != 0))))) rfl (og rfl (op_bin rfl rfl rfl (b_neq _ _ _ _) rfl)) ?_
              refine rg_put (d := 78) (v := .d (.fl (.bool (((zck z) != 0))))) rfl (og rfl (op_move rfl rfl rfl)) ?_
              rcases fot (((zck z) != 0)) with h41 | h41
              · skip
                have h42 := f_bne h41
                refine rg_put (d := 79) (v := .d (.fl (.int .i64 ((nxv z t).1)))) rfl (oy rfl rfl rfl h41 (op_move rfl rfl rfl)) ?_
                refine rg_put (d := 80) (v := .d (.fl (.int .i64 t))) rfl (oy rfl rfl rfl h41 (op_move rfl rfl rfl)) ?_
                refine rg_put (d := 81) (v := .d (.fl (.int .i64 (((nxv z t).1 - t))))) rfl (oy rfl rfl rfl h41 (op_bin rfl rfl rfl (fun x y w => b_sub64 _ _ _ x y w (by omega)) rfl)) ?_
                refine rg_put (d := 82) (v := .d (.fl (.bool ((decide (((nxv z t).1 - t) ≤ 604800)))))) rfl (oy rfl rfl rfl h41 (op_bin rfl rfl rfl (b_leq _ _ _ _) rfl)) ?_
                refine rg_put (d := 83) (v := .d (.fl (.bool ((decide (((nxv z t).1 - t) ≤ 604800)))))) rfl (og rfl (op_pick rfl rfl (by rw [h41]; rfl) rfl)) ?_
                refine rg_put (d := 84) (v := .d (.fl (.bool ((decide (((nxv z t).1 - t) ≤ 604800)))))) rfl (og rfl (op_move rfl rfl rfl)) ?_
                refine rg_put (d := 85) (v := .d (.fl (.bool true))) rfl (oy rfl rfl rfl (show (decide (((nxv z t).1 - t) ≤ 604800)) = true from decide_eq_true (hy5 (by first | exact eq_of_beq (by assumption) | exact (f_bne (by assumption))))) (op_call rfl Try.func9 nm9 rfl .nil alive9 rfl)) ?_
                refine rg_put (d := 86) (v := .d (.fl (.bool true))) rfl (og rfl (op_pick rfl rfl (by rw [(show (decide (((nxv z t).1 - t) ≤ 604800)) = true from decide_eq_true (hy5 (by first | exact eq_of_beq (by assumption) | exact (f_bne (by assumption)))))]; rfl) rfl)) ?_
                refine rg_put (d := 6) (v := .d (.fl (.bool true))) rfl (og rfl (op_assign rfl rfl rfl)) ?_
                refine rg_done rfl ?_
                refine a_ret ?_
                show ∃ ds, ResL _ _ _ ds ∧ RV.of ds = _
                refine ⟨[.fl (.bool true)], (.cons (.tmp rfl (.d _)) .nil), ?_⟩
                rfl
              · skip
                have h43 := t_bne h41
                refine rg_put (d := 79) (v := .d (.fl undef)) rfl (on rfl rfl rfl h41) ?_
                refine rg_put (d := 80) (v := .d (.fl undef)) rfl (on rfl rfl rfl h41) ?_
                refine rg_put (d := 81) (v := .d (.fl undef)) rfl (on rfl rfl rfl h41) ?_
                refine rg_put (d := 82) (v := .d (.fl undef)) rfl (on rfl rfl rfl h41) ?_
                refine rg_put (d := 83) (v := .d (.fl (.bool true))) rfl (og rfl (op_pick rfl rfl (by rw [h41]; rfl) rfl)) ?_
                refine rg_put (d := 84) (v := .d (.fl (.bool true))) rfl (og rfl (op_move rfl rfl rfl)) ?_
                refine rg_put (d := 85) (v := .d (.fl (.bool true))) rfl (oy rfl rfl rfl rfl (op_call rfl Try.func9 nm9 rfl .nil alive9 rfl)) ?_
                refine rg_put (d := 86) (v := .d (.fl (.bool true))) rfl (og rfl (op_pick rfl rfl rfl rfl)) ?_
                refine rg_put (d := 6) (v := .d (.fl (.bool true))) rfl (og rfl (op_assign rfl rfl rfl)) ?_
                refine rg_done rfl ?_
                refine a_ret ?_
                show ∃ ds, ResL _ _ _ ds ∧ RV.of ds = _
                refine ⟨[.fl (.bool true)], (.cons (.tmp rfl (.d _)) .nil), ?_⟩
                rfl
    · skip
      have h44 := t_dec h2
      refine rg_put (d := 16) (v := .d (.fl undef)) rfl (on rfl rfl rfl h2) ?_
      refine rg_put (d := 17) (v := .d (.fl undef)) rfl (on rfl rfl rfl h2) ?_
      refine rg_put (d := 18) (v := .d (.fl (.bool true))) rfl (og rfl (op_pick rfl rfl (by rw [h2]; rfl) rfl)) ?_
      refine rg_done rfl ?_
      refine a_condK rfl rfl ?_
      refine a_rseq ?_
      refine rg_put (d := 19) (v := .d (.fl (.bool true))) rfl (og rfl (op_call rfl Try.func9 nm9 rfl .nil alive9 rfl)) ?_
      refine rg_put (d := 6) (v := .d (.fl (.bool true))) rfl (og rfl (op_assign rfl rfl rfl)) ?_
      refine rg_done rfl ?_
      refine a_ret ?_
      show ∃ ds, ResL _ _ _ ds ∧ RV.of ds = _
      refine ⟨[.fl (.bool true)], (.cons (.tmp rfl (.d _)) .nil), ?_⟩
      rfl
  · skip
    refine rg_put (d := 12) (v := .d (.fl undef)) rfl (on rfl rfl rfl h1) ?_
    refine rg_put (d := 13) (v := .d (.fl undef)) rfl (on rfl rfl rfl h1) ?_
    refine rg_put (d := 14) (v := .d (.fl (.bool true))) rfl (og rfl (op_pick rfl rfl (by rw [h1]; rfl) rfl)) ?_
    refine rg_put (d := 15) (v := .d (.fl (.bool true))) rfl (og rfl (op_move rfl rfl rfl)) ?_
    refine rg_put (d := 16) (v := .d (.fl undef)) rfl (on rfl rfl rfl rfl) ?_
    refine rg_put (d := 17) (v := .d (.fl undef)) rfl (on rfl rfl rfl rfl) ?_
    refine rg_put (d := 18) (v := .d (.fl (.bool true))) rfl (og rfl (op_pick rfl rfl rfl rfl)) ?_
    refine rg_done rfl ?_
    refine a_condK rfl rfl ?_
    refine a_rseq ?_
    refine rg_put (d := 19) (v := .d (.fl (.bool true))) rfl (og rfl (op_call rfl Try.func9 nm9 rfl .nil alive9 rfl)) ?_
    refine rg_put (d := 6) (v := .d (.fl (.bool true))) rfl (og rfl (op_assign rfl rfl rfl)) ?_
    refine rg_done rfl ?_
    refine a_ret ?_
    show ∃ ds, ResL _ _ _ ds ∧ RV.of ds = _
    refine ⟨[.fl (.bool true)], (.cons (.tmp rfl (.d _)) .nil), ?_⟩
    rfl
end Go.Proofs.Ytniefocnfcaebaa.Wk
