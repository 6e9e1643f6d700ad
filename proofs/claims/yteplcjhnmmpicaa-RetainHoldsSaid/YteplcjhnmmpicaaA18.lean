/- Stores that are great. No condition. -/
import Derived.Test.YteplcjhnmmpicaaA15
set_option linter.unusedSimpArgs false
set_option linter.unusedVariables false
namespace Go.Proofs.Yteplcjhnmmpicaa.Wk
open Go Go.RowKit Go.Proofs.Yteplcjhnmmpicaa.Av
theorem ne_self_b (a : Int) : (a != a) = false := by simp
def gh (l : List Im) : Bool := (List.range l.length).any fun q => decide ((40 : Int) < ((ix l q).hold.length : Int))
theorem gh_yes {l : List Im} {k : Nat} (hk : k < l.length) (h : decide ((40 : Int) < ((ix l k).hold.length : Int)) = true) : gh l = true := by
  unfold gh; rw [List.any_eq_true]
  exact ⟨k, by simpa using hk, h⟩
theorem gh_no {l : List Im} (h : ∀ q, q < l.length → decide ((40 : Int) < ((ix l q).hold.length : Int)) = false) : gh l = false := by
  unfold gh; rw [List.any_eq_false]
  intro q hq
  rw [h q (by simpa using hq)]; simp
def gre (s : Sto) : Bool := decide ((10 : Int) < (s.rules.length : Int)) || decide ((200 : Int) < (s.images.length : Int)) || decide ((400 : Int) < (s.closed.length : Int)) || gh s.images
theorem gre_f {s : Sto} (h : gre s = false) : s.rules.length ≤ 10 ∧ s.images.length ≤ 200 ∧ s.closed.length ≤ 400 ∧ ∀ q, q < s.images.length → (ix s.images q).hold.length ≤ 40 := by
  unfold gre at h
  simp only [Bool.or_eq_false_iff, decide_eq_false_iff_not] at h
  obtain ⟨⟨⟨h1, h2⟩, h3⟩, h4⟩ := h
  refine ⟨by omega, by omega, by omega, fun q hq => ?_⟩
  rcases Nat.lt_or_ge 40 (ix s.images q).hold.length with h5 | h5
  · have := gh_yes hq (decide_eq_true (show (40 : Int) < ((ix s.images q).hold.length : Int) by omega))
    rw [h4] at this; cases this
  · exact h5

set_option maxHeartbeats 4000000 in
set_option maxRecDepth 100000 in
theorem great_is (s : Sto) : Ctr Try.prog 14 [.ag (eSto s)] (.d (.fl (.bool (gre s)))) := by
  refine ctr (n := 33) (rs := #[.tmp 2]) (L := [(0, .d (.ag (eSto s)))]) Try.func14 rfl rfl rfl rfl rfl (fun w0 U0 => ?_)
  refine a_rseq ?_
  refine rg_nam (d := 1) (v := .pt 101 0) (m := 101) (nw := [(101, .bx 39 (eSto s))]) rfl (og rfl (of_eff (op_box 101 rfl rfl rfl rfl) rfl)) rfl ?_
  refine rg_put (d := 2) (v := .d (.fl (.bool false))) rfl (og rfl (op_assign rfl rfl rfl)) ?_
  refine rg_done rfl ?_
  refine a_seq ?_
  refine a_rseq ?_
  refine rg_put (d := 5) (v := .pt 101 0) rfl (og rfl (of_eff (s_field_pt rfl Try.underlying39 rfl ti22 rfl rfl rfl) rfl)) ?_
  refine rg_put (d := 6) (v := .d (.sl 3 (List.map eKp s.rules))) rfl (og rfl (op_load_pt rfl Try.underlying22 rfl rfl rfl rfl rfl)) ?_
  refine rg_put (d := 7) (v := .d (.fl (.int .i64 (s.rules.length : Int)))) rfl (og rfl (s_len rfl Try.underlying22 rfl rfl)) ?_
  refine rg_put (d := 8) (v := .d (.fl (.bool ((decide (10 < (s.rules.length : Int))))))) rfl (og rfl (op_bin rfl rfl rfl (b_gtr _ _ _ _) rfl)) ?_
  refine rg_put (d := 9) (v := .d (.fl (.bool ((decide (10 < (s.rules.length : Int))))))) rfl (og rfl (op_move rfl rfl rfl)) ?_
  rcases fot ((decide (10 < (s.rules.length : Int)))) with h1 | h1
  · skip
    have h2 := f_dec h1
    refine rg_put (d := 10) (v := .pt 101 1) rfl (oy rfl rfl rfl h1 (of_eff (s_field_pt rfl Try.underlying39 rfl ti36 rfl rfl rfl) rfl)) ?_
    refine rg_put (d := 11) (v := .d (.sl 5 (List.map eIm s.images))) rfl (oy rfl rfl rfl h1 (op_load_pt rfl Try.underlying36 rfl rfl rfl rfl rfl)) ?_
    refine rg_put (d := 12) (v := .d (.fl (.int .i64 (s.images.length : Int)))) rfl (oy rfl rfl rfl h1 (s_len rfl Try.underlying36 rfl rfl)) ?_
    refine rg_put (d := 13) (v := .d (.fl (.bool ((decide (200 < (s.images.length : Int))))))) rfl (oy rfl rfl rfl h1 (op_bin rfl rfl rfl (b_gtr _ _ _ _) rfl)) ?_
    refine rg_put (d := 14) (v := .d (.fl (.bool ((decide (200 < (s.images.length : Int))))))) rfl (og rfl (op_pick rfl rfl (by rw [h1]; rfl) rfl)) ?_
    refine rg_put (d := 15) (v := .d (.fl (.bool ((decide (200 < (s.images.length : Int))))))) rfl (og rfl (op_move rfl rfl rfl)) ?_
    rcases fot ((decide (200 < (s.images.length : Int)))) with h3 | h3
    · skip
      have h4 := f_dec h3
      refine rg_put (d := 16) (v := .pt 101 2) rfl (oy rfl rfl rfl h3 (of_eff (s_field_pt rfl Try.underlying39 rfl ti37 rfl rfl rfl) rfl)) ?_
      refine rg_put (d := 17) (v := .d (.sl 1 (List.map (rI .i64) s.closed))) rfl (oy rfl rfl rfl h3 (op_load_pt rfl Try.underlying37 rfl rfl rfl rfl rfl)) ?_
      refine rg_put (d := 18) (v := .d (.fl (.int .i64 (s.closed.length : Int)))) rfl (oy rfl rfl rfl h3 (s_len rfl Try.underlying37 rfl rfl)) ?_
      refine rg_put (d := 19) (v := .d (.fl (.bool ((decide (400 < (s.closed.length : Int))))))) rfl (oy rfl rfl rfl h3 (op_bin rfl rfl rfl (b_gtr _ _ _ _) rfl)) ?_
      refine rg_put (d := 20) (v := .d (.fl (.bool ((decide (400 < (s.closed.length : Int))))))) rfl (og rfl (op_pick rfl rfl (by rw [h3]; rfl) rfl)) ?_
      refine rg_done rfl ?_
      refine a_cond rfl (fun h5 => ?_) (fun h5 => ?_)
      · skip
        have h6 := t_dec h5
        refine a_rseq ?_
        refine rg_put (d := 2) (v := .d (.fl (.bool true))) rfl (og rfl (op_assign rfl rfl rfl)) ?_
        refine rg_done rfl ?_
        refine a_ret ?_
        show ∃ ds, ResL _ _ _ ds ∧ RV.of ds = _
        refine ⟨[.fl (.bool true)], (.cons (.tmp rfl (.d _)) .nil), ?_⟩
        have hu : gre s = true := by unfold gre; simp only [h1, h3, h5]; rfl
        rw [hu]; rfl
      · skip
        have h7 := f_dec h5
        refine a_skip ?_
        show A _ _ _ _ _ _ _
        refine a_seq ?_
        refine a_rseq ?_
        refine rg_put (d := 21) (v := .pt 101 1) rfl (og rfl (of_eff (s_field_pt rfl Try.underlying39 rfl ti36 rfl rfl rfl) rfl)) ?_
        refine rg_put (d := 22) (v := .d (.sl 5 (List.map eIm s.images))) rfl (og rfl (op_load_pt rfl Try.underlying36 rfl rfl rfl rfl rfl)) ?_
        refine rg_put (d := 23) (v := .d (.fl (.int .i64 (s.images.length : Int)))) rfl (og rfl (s_len rfl Try.underlying36 rfl rfl)) ?_
        refine rg_put (d := 24) (v := .d (.fl (.int .i64 0))) rfl (og rfl (op_move rfl rfl rfl)) ?_
        refine rg_done rfl ?_
        refine a_block ?_
        refine a_loop (ι := Nat) (fun k => SS [(0, .d (.ag (eSto s))), (1, .pt 101 0), (20, .d (.fl (.bool ((decide (400 < (s.closed.length : Int))))))), (22, .d (.sl 5 (List.map eIm s.images))), (23, .d (.fl (.int .i64 (s.images.length : Int)))), (24, .d (.fl (.int .i64 (k : Int))))] [(101, .bx 39 (eSto s))]) (fun k => k ≤ s.images.length ∧ ∀ q, q < k → decide ((40 : Int) < ((ix s.images q).hold.length : Int)) = false) (fun k => s.images.length - k) 0 (⟨by omega, fun q h => by omega⟩) (imp_forget rfl ⟨rfl, rfl, rfl, rfl, rfl, (by first | rfl | exact ci (by omega) | exact ci (by simp) | exact cd (by simp) | simp), trivial⟩ ⟨rfl, trivial⟩) (fun k hok => ?_)
        obtain ⟨hk, hq⟩ := hok
        refine a_rseq ?_
        refine rg_put (d := 25) (v := .d (.fl (.bool ((decide ((k : Int) < (s.images.length : Int))))))) rfl (og rfl (op_bin rfl rfl rfl (b_lss _ _ _ _) rfl)) ?_
        refine rg_done rfl ?_
        refine a_seq ?_
        refine a_cond rfl (fun h8 => ?_) (fun h8 => ?_)
        · skip
          have h9 := t_dec h8
          refine a_skip ?_
          show A _ _ _ _ _ _ _
          refine a_seq ?_
          refine a_block ?_
          refine a_rseq ?_
          refine rg_put (d := 26) (v := .el ((eIm (ix s.images k)))) rfl (og rfl (s_index rfl Try.underlying36 ti26 rfl rfl (by omega) (row_at (by omega)) rfl)) ?_
          refine rg_put (d := 27) (v := .d (.ag (eIm (ix s.images k)))) rfl (og rfl (of_eff (s_load_els rfl Try.underlying26 rfl ti26 rfl rfl rfl) rfl)) ?_
          refine rg_nam (d := 4) (v := .pt 102 0) (m := 102) (nw := [(102, .bx 26 ([.fl (.string (⟨#[]⟩)), .fl (.int .i64 0), .fl (.int .i64 0), .fl (.slice none 0 0), .fl (.int .u64 0)]))]) rfl (og rfl (of_eff (s_alloc 102 rfl ti26 (by kernel_rfl) rfl) rfl)) rfl ?_
          refine rg_sto (nw := [(102, .bx 26 ((eIm (ix s.images k))))]) rfl (og rfl (of_eff (s_store rfl rfl ti26 rfl rfl rfl rfl rfl rfl) rfl)) ?_
          refine rg_done rfl ?_
          refine a_rseq ?_
          refine rg_put (d := 28) (v := .pt 102 3) rfl (og rfl (of_eff (s_field_pt rfl Try.underlying26 rfl ti23 rfl rfl rfl) rfl)) ?_
          refine rg_put (d := 29) (v := .d (.sl 1 (List.map rS ((ix s.images k).hold)))) rfl (og rfl (op_load_pt rfl Try.underlying23 rfl rfl rfl rfl rfl)) ?_
          refine rg_put (d := 30) (v := .d (.fl (.int .i64 ((((ix s.images k).hold).length : Int))))) rfl (og rfl (s_len rfl Try.underlying23 rfl rfl)) ?_
          refine rg_put (d := 31) (v := .d (.fl (.bool ((decide (40 < (((ix s.images k).hold).length : Int))))))) rfl (og rfl (op_bin rfl rfl rfl (b_gtr _ _ _ _) rfl)) ?_
          refine rg_done rfl ?_
          refine a_cond rfl (fun h10 => ?_) (fun h10 => ?_)
          · skip
            have h11 := t_dec h10
            refine a_rseq ?_
            refine rg_put (d := 2) (v := .d (.fl (.bool true))) rfl (og rfl (op_assign rfl rfl rfl)) ?_
            refine rg_done rfl ?_
            refine a_ret ?_
            show ∃ ds, ResL _ _ _ ds ∧ RV.of ds = _
            refine ⟨[.fl (.bool true)], (.cons (.tmp rfl (.d _)) .nil), ?_⟩
            have hg := gh_yes (l := s.images) (k := k) (by omega) h10
            have hu : gre s = true := by unfold gre; simp only [h1, h3, h5, hg]; rfl
            rw [hu]; rfl
          · skip
            have h12 := f_dec h10
            refine a_skip ?_
            show A _ _ _ _ _ _ _
            refine a_region ?_
            refine rg_put (d := 32) (v := .d (.fl (.int .i64 (((k : Int) + 1))))) rfl (og rfl (op_bin rfl rfl rfl (fun x y w => b_add64 _ _ _ x y w (by omega)) rfl)) ?_
            refine rg_put (d := 24) (v := .d (.fl (.int .i64 (((k : Int) + 1))))) rfl (og rfl (op_move rfl rfl rfl)) ?_
            refine rg_done rfl ?_
            show ∃ i, _ ∧ _ ∧ Imp _ _ _ _ _
            refine ⟨k + 1, ⟨by omega, fun q h => by
              rcases Nat.lt_succ_iff_lt_or_eq.1 h with h | h
              · exact hq q h
              · subst h; exact h10⟩, by omega, imp_forget rfl ⟨rfl, rfl, rfl, rfl, rfl, (by first | rfl | exact ci (by omega) | exact ci (by simp) | exact cd (by simp) | simp), trivial⟩ ⟨rfl, trivial⟩⟩
        · skip
          have h13 := f_dec h8
          refine a_exit ?_
          show A _ _ _ _ _ _ _
          refine a_rseq ?_
          refine rg_put (d := 2) (v := .d (.fl (.bool false))) rfl (og rfl (op_assign rfl rfl rfl)) ?_
          refine rg_done rfl ?_
          refine a_ret ?_
          show ∃ ds, ResL _ _ _ ds ∧ RV.of ds = _
          refine ⟨[.fl (.bool false)], (.cons (.tmp rfl (.d _)) .nil), ?_⟩
          have hg := gh_no (l := s.images) (fun q h => hq q (by omega))
          have hu : gre s = false := by unfold gre; simp only [h1, h3, h5, hg]; rfl
          rw [hu]; rfl
    · skip
      have h14 := t_dec h3
      refine rg_put (d := 16) (v := .d (.fl undef)) rfl (on rfl rfl rfl h3) ?_
      refine rg_put (d := 17) (v := .d (.fl undef)) rfl (on rfl rfl rfl h3) ?_
      refine rg_put (d := 18) (v := .d (.fl undef)) rfl (on rfl rfl rfl h3) ?_
      refine rg_put (d := 19) (v := .d (.fl undef)) rfl (on rfl rfl rfl h3) ?_
      refine rg_put (d := 20) (v := .d (.fl (.bool true))) rfl (og rfl (op_pick rfl rfl (by rw [h3]; rfl) rfl)) ?_
      refine rg_done rfl ?_
      refine a_condK rfl rfl ?_
      refine a_rseq ?_
      refine rg_put (d := 2) (v := .d (.fl (.bool true))) rfl (og rfl (op_assign rfl rfl rfl)) ?_
      refine rg_done rfl ?_
      refine a_ret ?_
      show ∃ ds, ResL _ _ _ ds ∧ RV.of ds = _
      refine ⟨[.fl (.bool true)], (.cons (.tmp rfl (.d _)) .nil), ?_⟩
      have hu : gre s = true := by unfold gre; simp only [h1, h3]; rfl
      rw [hu]; rfl
  · skip
    have h15 := t_dec h1
    refine rg_put (d := 10) (v := .d (.fl undef)) rfl (on rfl rfl rfl h1) ?_
    refine rg_put (d := 11) (v := .d (.fl undef)) rfl (on rfl rfl rfl h1) ?_
    refine rg_put (d := 12) (v := .d (.fl undef)) rfl (on rfl rfl rfl h1) ?_
    refine rg_put (d := 13) (v := .d (.fl undef)) rfl (on rfl rfl rfl h1) ?_
    refine rg_put (d := 14) (v := .d (.fl (.bool true))) rfl (og rfl (op_pick rfl rfl (by rw [h1]; rfl) rfl)) ?_
    refine rg_put (d := 15) (v := .d (.fl (.bool true))) rfl (og rfl (op_move rfl rfl rfl)) ?_
    refine rg_put (d := 16) (v := .d (.fl undef)) rfl (on rfl rfl rfl rfl) ?_
    refine rg_put (d := 17) (v := .d (.fl undef)) rfl (on rfl rfl rfl rfl) ?_
    refine rg_put (d := 18) (v := .d (.fl undef)) rfl (on rfl rfl rfl rfl) ?_
    refine rg_put (d := 19) (v := .d (.fl undef)) rfl (on rfl rfl rfl rfl) ?_
    refine rg_put (d := 20) (v := .d (.fl (.bool true))) rfl (og rfl (op_pick rfl rfl rfl rfl)) ?_
    refine rg_done rfl ?_
    refine a_condK rfl rfl ?_
    refine a_rseq ?_
    refine rg_put (d := 2) (v := .d (.fl (.bool true))) rfl (og rfl (op_assign rfl rfl rfl)) ?_
    refine rg_done rfl ?_
    refine a_ret ?_
    show ∃ ds, ResL _ _ _ ds ∧ RV.of ds = _
    refine ⟨[.fl (.bool true)], (.cons (.tmp rfl (.d _)) .nil), ?_⟩
    have hu : gre s = true := by unfold gre; simp only [h1]; rfl
    rw [hu]; rfl
end Go.Proofs.Yteplcjhnmmpicaa.Wk
