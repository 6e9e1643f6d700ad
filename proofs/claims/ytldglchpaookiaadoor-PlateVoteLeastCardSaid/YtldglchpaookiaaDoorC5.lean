/- The laws of votes. No condition. -/
import Derived.Test.YtldglchpaookiaaDoorAl
import Derived.Test.YtldglchpaookiaaDoorB5
set_option linter.unusedSimpArgs false
set_option linter.unusedVariables false
namespace Go.Proofs.YtldglchpaookiaaDoor.Wk
open Go Go.RowKit Go.Proofs.YtldglchpaookiaaDoor.Av
set_option maxHeartbeats 4000000 in
set_option maxRecDepth 100000 in
theorem law7 (r : List ByteArray) (w : List Int) (hr9 : r.length ≤ 9223372036854775807) (hw9 : w.length ≤ 9223372036854775807) : Ctr Tryd.prog 7 [.sl 1 (List.map rS r), .sl 1 (List.map (rI .i64) w)] (.d (.fl (.bool true))) := by
  refine ctr (n := 41) (rs := #[.tmp 4]) (L := [(0, .d (.sl 1 (List.map rS r))), (1, .d (.sl 1 (List.map (rI .i64) w)))]) Tryd.func7 rfl rfl rfl rfl rfl (fun w0 U0 => ?_)
  refine a_rseq ?_
  refine rg_put (d := 4) (v := .d (.fl (.bool false))) rfl (og rfl (op_assign rfl rfl rfl)) ?_
  refine rg_done rfl ?_
  refine a_seq ?_
  refine a_rseq ?_
  refine rg_put (d := 9) (v := .d (.sl 1 (List.map rS r))) rfl (og rfl (op_move rfl rfl rfl)) ?_
  refine rg_put (d := 10) (v := .d (.fl (.bool (fewS r)))) rfl (og rfl (op_call rfl Tryd.func20 nm20 rfl (.cons rfl (.d _) .nil) (fewC r hr9) rfl)) ?_
  refine rg_put (d := 11) (v := .d (.fl (.bool ((!(fewS r)))))) rfl (og rfl (op_un rfl rfl (u_not _) rfl)) ?_
  refine rg_put (d := 12) (v := .d (.fl (.bool ((!(fewS r)))))) rfl (og rfl (op_move rfl rfl rfl)) ?_
  rcases fot ((!(fewS r))) with h1 | h1
  · skip
    have h2 := f_not h1
    refine rg_put (d := 13) (v := .d (.sl 1 (List.map (rI .i64) w))) rfl (oy rfl rfl rfl h1 (op_move rfl rfl rfl)) ?_
    refine rg_put (d := 14) (v := .d (.fl (.int .i64 (w.length : Int)))) rfl (oy rfl rfl rfl h1 (s_len rfl Tryd.underlying37 rfl rfl)) ?_
    refine rg_put (d := 15) (v := .d (.fl (.bool ((decide (40 < (w.length : Int))))))) rfl (oy rfl rfl rfl h1 (op_bin rfl rfl rfl (b_gtr _ _ _ _) rfl)) ?_
    refine rg_put (d := 16) (v := .d (.fl (.bool ((decide (40 < (w.length : Int))))))) rfl (og rfl (op_pick rfl rfl (by rw [h1]; rfl) rfl)) ?_
    refine rg_done rfl ?_
    refine a_cond rfl (fun h3 => ?_) (fun h3 => ?_)
    · skip
      have h4 := t_dec h3
      refine a_rseq ?_
      refine rg_put (d := 17) (v := .d (.fl (.bool true))) rfl (og rfl (op_call rfl Tryd.func11 nm11 rfl .nil alive11 rfl)) ?_
      refine rg_put (d := 4) (v := .d (.fl (.bool true))) rfl (og rfl (op_assign rfl rfl rfl)) ?_
      refine rg_done rfl ?_
      refine a_ret ?_
      show ∃ ds, ResL _ _ _ ds ∧ RV.of ds = _
      refine ⟨[.fl (.bool true)], (.cons (.tmp rfl (.d _)) .nil), ?_⟩
      rfl
    · skip
      have h5 := f_dec h3
      refine a_skip ?_
      show A _ _ _ _ _ _ _
      refine a_rseq ?_
      obtain ⟨hr, hz⟩ := fewS_t h2
      refine rg_put (d := 19) (v := .d (.sl 1 (List.map rS r))) rfl (og rfl (op_move rfl rfl rfl)) ?_
      refine rg_put (d := 20) (v := .d (.sl 1 (List.map (rI .i64) w))) rfl (og rfl (op_move rfl rfl rfl)) ?_
      refine rg_put (d := 21) (v := .tu [.fl (.string ((vt r w).1)), .fl (.int .i64 ((vt r w).2))]) rfl (og rfl (op_call rfl Tryd.func24 nm24 rfl (.cons rfl (.d _) (.cons rfl (.d _) .nil)) (votC r w hr hz hw9) rfl)) ?_
      refine rg_put (d := 18) (v := .tu [.fl (.string ((vt r w).1)), .fl (.int .i64 ((vt r w).2))]) rfl (og rfl (op_move rfl rfl rfl)) ?_
      refine rg_put (d := 22) (v := .d (.fl (.string ((vt r w).1)))) rfl (og rfl (op_extract rfl rfl rfl rfl)) ?_
      refine rg_put (d := 23) (v := .d (.fl (.int .i64 ((vt r w).2)))) rfl (og rfl (op_extract rfl rfl rfl rfl)) ?_
      refine rg_put (d := 5) (v := .d (.fl (.string ((vt r w).1)))) rfl (og rfl (op_assign rfl rfl rfl)) ?_
      refine rg_put (d := 6) (v := .d (.fl (.int .i64 ((vt r w).2)))) rfl (og rfl (op_assign rfl rfl rfl)) ?_
      refine rg_done rfl ?_
      refine a_rseq ?_
      refine rg_put (d := 25) (v := .d (.sl 1 (List.map rS r))) rfl (og rfl (op_move rfl rfl rfl)) ?_
      refine rg_put (d := 26) (v := .d (.sl 1 (List.map (rI .i64) w))) rfl (og rfl (op_move rfl rfl rfl)) ?_
      refine rg_put (d := 27) (v := .tu [.fl (.string ((vt r w).1)), .fl (.int .i64 ((vt r w).2))]) rfl (og rfl (op_call rfl Tryd.func25 nm25 rfl (.cons rfl (.d _) (.cons rfl (.d _) .nil)) (votR r w hr hz hw9) rfl)) ?_
      refine rg_put (d := 24) (v := .tu [.fl (.string ((vt r w).1)), .fl (.int .i64 ((vt r w).2))]) rfl (og rfl (op_move rfl rfl rfl)) ?_
      refine rg_put (d := 28) (v := .d (.fl (.string ((vt r w).1)))) rfl (og rfl (op_extract rfl rfl rfl rfl)) ?_
      refine rg_put (d := 29) (v := .d (.fl (.int .i64 ((vt r w).2)))) rfl (og rfl (op_extract rfl rfl rfl rfl)) ?_
      refine rg_put (d := 7) (v := .d (.fl (.string ((vt r w).1)))) rfl (og rfl (op_assign rfl rfl rfl)) ?_
      refine rg_put (d := 8) (v := .d (.fl (.int .i64 ((vt r w).2)))) rfl (og rfl (op_assign rfl rfl rfl)) ?_
      refine rg_done rfl ?_
      refine a_rseq ?_
      refine rg_put (d := 30) (v := .d (.fl (.string ((vt r w).1)))) rfl (og rfl (op_move rfl rfl rfl)) ?_
      refine rg_put (d := 31) (v := .d (.fl (.string ((vt r w).1)))) rfl (og rfl (op_move rfl rfl rfl)) ?_
      refine rg_put (d := 32) (v := .d (.fl (.bool ((sEq ((vt r w).1) ((vt r w).1)))))) rfl (og rfl (op_bin rfl rfl rfl (b_seq _ _ _) rfl)) ?_
      refine rg_put (d := 33) (v := .d (.fl (.bool ((sEq ((vt r w).1) ((vt r w).1)))))) rfl (og rfl (op_move rfl rfl rfl)) ?_
      refine rg_put (d := 34) (v := .d (.fl (.int .i64 ((vt r w).2)))) rfl (oy rfl rfl rfl (eq_self_s _) (op_move rfl rfl rfl)) ?_
      refine rg_put (d := 35) (v := .d (.fl (.int .i64 ((vt r w).2)))) rfl (oy rfl rfl rfl (eq_self_s _) (op_move rfl rfl rfl)) ?_
      refine rg_put (d := 36) (v := .d (.fl (.bool (((vt r w).2 == (vt r w).2))))) rfl (oy rfl rfl rfl (eq_self_s _) (op_bin rfl rfl rfl (b_eql _ _ _ _) rfl)) ?_
      refine rg_put (d := 37) (v := .d (.fl (.bool (((vt r w).2 == (vt r w).2))))) rfl (og rfl (op_pick rfl rfl (by rw [(eq_self_s _)]; rfl) rfl)) ?_
      refine rg_put (d := 38) (v := .d (.fl (.bool (((vt r w).2 == (vt r w).2))))) rfl (og rfl (op_move rfl rfl rfl)) ?_
      refine rg_put (d := 39) (v := .d (.fl (.bool true))) rfl (oy rfl rfl rfl (beq_self_eq_true _) (op_call rfl Tryd.func11 nm11 rfl .nil alive11 rfl)) ?_
      refine rg_put (d := 40) (v := .d (.fl (.bool true))) rfl (og rfl (op_pick rfl rfl (by rw [(beq_self_eq_true _)]; rfl) rfl)) ?_
      refine rg_put (d := 4) (v := .d (.fl (.bool true))) rfl (og rfl (op_assign rfl rfl rfl)) ?_
      refine rg_done rfl ?_
      refine a_ret ?_
      show ∃ ds, ResL _ _ _ ds ∧ RV.of ds = _
      refine ⟨[.fl (.bool true)], (.cons (.tmp rfl (.d _)) .nil), ?_⟩
      rfl
  · skip
    have h6 := t_not h1
    refine rg_put (d := 13) (v := .d (.fl undef)) rfl (on rfl rfl rfl h1) ?_
    refine rg_put (d := 14) (v := .d (.fl undef)) rfl (on rfl rfl rfl h1) ?_
    refine rg_put (d := 15) (v := .d (.fl undef)) rfl (on rfl rfl rfl h1) ?_
    refine rg_put (d := 16) (v := .d (.fl (.bool true))) rfl (og rfl (op_pick rfl rfl (by rw [h1]; rfl) rfl)) ?_
    refine rg_done rfl ?_
    refine a_condK rfl rfl ?_
    refine a_rseq ?_
    refine rg_put (d := 17) (v := .d (.fl (.bool true))) rfl (og rfl (op_call rfl Tryd.func11 nm11 rfl .nil alive11 rfl)) ?_
    refine rg_put (d := 4) (v := .d (.fl (.bool true))) rfl (og rfl (op_assign rfl rfl rfl)) ?_
    refine rg_done rfl ?_
    refine a_ret ?_
    show ∃ ds, ResL _ _ _ ds ∧ RV.of ds = _
    refine ⟨[.fl (.bool true)], (.cons (.tmp rfl (.d _)) .nil), ?_⟩
    rfl
theorem wt_id {n : Int} (h : 0 ≤ n ∧ n ≤ 1000) : wt n = n := by unfold wt; omega
def fnd (r : List ByteArray) (s : ByteArray) : Nat → Bool
  | 0 => false
  | i + 1 => fnd r s i || sEq (ix r i) s
theorem fnv_at {r : List ByteArray} {s : ByteArray} : ∀ {i q}, q < i → ix r q = s → fnd r s i = true
  | 0, q, h, _ => by omega
  | i + 1, q, h, e => by
    simp only [fnd]
    rcases Nat.lt_succ_iff_lt_or_eq.1 h with g | g
    · rw [fnv_at g e, Bool.true_or]
    · rw [← g, e, show sEq s s = true by simp [sEq], Bool.or_true]

set_option maxHeartbeats 4000000 in
set_option maxRecDepth 100000 in
theorem law10 (r : List ByteArray) (w : List Int) (hr9 : r.length ≤ 9223372036854775807) (hw9 : w.length ≤ 9223372036854775807) : Ctr Tryd.prog 10 [.sl 1 (List.map rS r), .sl 1 (List.map (rI .i64) w)] (.d (.fl (.bool true))) := by
  refine ctr (n := 110) (rs := #[.tmp 4]) (L := [(0, .d (.sl 1 (List.map rS r))), (1, .d (.sl 1 (List.map (rI .i64) w)))]) Tryd.func10 rfl rfl rfl rfl rfl (fun w0 U0 => ?_)
  refine a_rseq ?_
  refine rg_put (d := 4) (v := .d (.fl (.bool false))) rfl (og rfl (op_assign rfl rfl rfl)) ?_
  refine rg_done rfl ?_
  refine a_seq ?_
  refine a_rseq ?_
  refine rg_put (d := 12) (v := .d (.sl 1 (List.map rS r))) rfl (og rfl (op_move rfl rfl rfl)) ?_
  refine rg_put (d := 13) (v := .d (.fl (.bool (fewS r)))) rfl (og rfl (op_call rfl Tryd.func20 nm20 rfl (.cons rfl (.d _) .nil) (fewC r hr9) rfl)) ?_
  refine rg_put (d := 14) (v := .d (.fl (.bool ((!(fewS r)))))) rfl (og rfl (op_un rfl rfl (u_not _) rfl)) ?_
  refine rg_put (d := 15) (v := .d (.fl (.bool ((!(fewS r)))))) rfl (og rfl (op_move rfl rfl rfl)) ?_
  rcases fot ((!(fewS r))) with h1 | h1
  · skip
    have h2 := f_not h1
    refine rg_put (d := 16) (v := .d (.sl 1 (List.map rS r))) rfl (oy rfl rfl rfl h1 (op_move rfl rfl rfl)) ?_
    refine rg_put (d := 17) (v := .d (.fl (.int .i64 (r.length : Int)))) rfl (oy rfl rfl rfl h1 (s_len rfl Tryd.underlying32 rfl rfl)) ?_
    refine rg_put (d := 18) (v := .d (.fl (.bool (((r.length : Int) == 0))))) rfl (oy rfl rfl rfl h1 (op_bin rfl rfl rfl (b_eql _ _ _ _) rfl)) ?_
    refine rg_put (d := 19) (v := .d (.fl (.bool (((r.length : Int) == 0))))) rfl (og rfl (op_pick rfl rfl (by rw [h1]; rfl) rfl)) ?_
    refine rg_put (d := 20) (v := .d (.fl (.bool (((r.length : Int) == 0))))) rfl (og rfl (op_move rfl rfl rfl)) ?_
    rcases fot (((r.length : Int) == 0)) with h3 | h3
    · skip
      have h4 := f_beq h3
      refine rg_put (d := 21) (v := .d (.sl 1 (List.map rS r))) rfl (oy rfl rfl rfl h3 (op_move rfl rfl rfl)) ?_
      refine rg_put (d := 22) (v := .d (.fl (.int .i64 (r.length : Int)))) rfl (oy rfl rfl rfl h3 (s_len rfl Tryd.underlying32 rfl rfl)) ?_
      refine rg_put (d := 23) (v := .d (.sl 1 (List.map (rI .i64) w))) rfl (oy rfl rfl rfl h3 (op_move rfl rfl rfl)) ?_
      refine rg_put (d := 24) (v := .d (.fl (.int .i64 (w.length : Int)))) rfl (oy rfl rfl rfl h3 (s_len rfl Tryd.underlying37 rfl rfl)) ?_
      refine rg_put (d := 25) (v := .d (.fl (.bool (((r.length : Int) != (w.length : Int)))))) rfl (oy rfl rfl rfl h3 (op_bin rfl rfl rfl (b_neq _ _ _ _) rfl)) ?_
      refine rg_put (d := 26) (v := .d (.fl (.bool (((r.length : Int) != (w.length : Int)))))) rfl (og rfl (op_pick rfl rfl (by rw [h3]; rfl) rfl)) ?_
      refine rg_done rfl ?_
      refine a_cond rfl (fun h5 => ?_) (fun h5 => ?_)
      · skip
        have h6 := t_bne h5
        refine a_rseq ?_
        refine rg_put (d := 27) (v := .d (.fl (.bool true))) rfl (og rfl (op_call rfl Tryd.func11 nm11 rfl .nil alive11 rfl)) ?_
        refine rg_put (d := 4) (v := .d (.fl (.bool true))) rfl (og rfl (op_assign rfl rfl rfl)) ?_
        refine rg_done rfl ?_
        refine a_ret ?_
        show ∃ ds, ResL _ _ _ ds ∧ RV.of ds = _
        refine ⟨[.fl (.bool true)], (.cons (.tmp rfl (.d _)) .nil), ?_⟩
        rfl
      · skip
        have h7 := f_bne h5
        refine a_skip ?_
        show A _ _ _ _ _ _ _
        refine a_seq ?_
        refine a_rseq ?_
        obtain ⟨hr, hz⟩ := fewS_t h2
        refine rg_put (d := 5) (v := .d (.fl (.int .i64 0))) rfl (og rfl (op_assign rfl rfl rfl)) ?_
        refine rg_done rfl ?_
        refine a_block ?_
        refine a_loop (ι := Nat) (fun k => SS [(0, .d (.sl 1 (List.map rS r))), (1, .d (.sl 1 (List.map (rI .i64) w))), (26, .d (.fl (.bool (((r.length : Int) != (w.length : Int)))))), (5, .d (.fl (.int .i64 (k : Int))))] []) (fun k => k ≤ w.length ∧ ∀ q, q < k → 0 ≤ ix w q ∧ ix w q ≤ 1000) (fun k => w.length - k) 0 (⟨by omega, fun q h => by omega⟩) (imp_forget rfl ⟨rfl, rfl, rfl, (by first | rfl | exact ci (by omega) | exact ci (by simp) | exact cd (by simp) | simp), trivial⟩ trivial) (fun k hok => ?_)
        obtain ⟨hk, hq⟩ := hok
        refine a_seq ?_
        refine a_rseq ?_
        refine rg_put (d := 28) (v := .d (.fl (.int .i64 (k : Int)))) rfl (og rfl (op_move rfl rfl rfl)) ?_
        refine rg_put (d := 29) (v := .d (.sl 1 (List.map (rI .i64) w))) rfl (og rfl (op_move rfl rfl rfl)) ?_
        refine rg_put (d := 30) (v := .d (.fl (.int .i64 (w.length : Int)))) rfl (og rfl (s_len rfl Tryd.underlying37 rfl rfl)) ?_
        refine rg_put (d := 31) (v := .d (.fl (.bool ((decide ((k : Int) < (w.length : Int))))))) rfl (og rfl (op_bin rfl rfl rfl (b_lss _ _ _ _) rfl)) ?_
        refine rg_done rfl ?_
        refine a_cond rfl (fun h8 => ?_) (fun h8 => ?_)
        · skip
          have h9 := t_dec h8
          refine a_skip ?_
          show A _ _ _ _ _ _ _
          refine a_seq ?_
          refine a_block ?_
          refine a_rseq ?_
          refine rg_put (d := 34) (v := .d (.sl 1 (List.map (rI .i64) w))) rfl (og rfl (op_move rfl rfl rfl)) ?_
          refine rg_put (d := 35) (v := .d (.fl (.int .i64 (k : Int)))) rfl (og rfl (op_move rfl rfl rfl)) ?_
          refine rg_put (d := 36) (v := .el ((rI .i64 (ix w k)))) rfl (og rfl (s_index rfl Tryd.underlying37 ti3 rfl rfl (by omega) (row_at (by omega)) rfl)) ?_
          refine rg_put (d := 37) (v := .d (.fl (.int .i64 (ix w k)))) rfl (og rfl (op_load_el rfl Tryd.underlying3 rfl rfl rfl rfl)) ?_
          refine rg_put (d := 38) (v := .d (.fl (.bool ((decide ((ix w k) < 0)))))) rfl (og rfl (op_bin rfl rfl rfl (b_lss _ _ _ _) rfl)) ?_
          refine rg_put (d := 39) (v := .d (.fl (.bool ((decide ((ix w k) < 0)))))) rfl (og rfl (op_move rfl rfl rfl)) ?_
          rcases fot ((decide ((ix w k) < 0))) with h10 | h10
          · skip
            have h11 := f_dec h10
            refine rg_put (d := 40) (v := .d (.sl 1 (List.map (rI .i64) w))) rfl (oy rfl rfl rfl h10 (op_move rfl rfl rfl)) ?_
            refine rg_put (d := 41) (v := .d (.fl (.int .i64 (k : Int)))) rfl (oy rfl rfl rfl h10 (op_move rfl rfl rfl)) ?_
            refine rg_put (d := 42) (v := .el ((rI .i64 (ix w k)))) rfl (oy rfl rfl rfl h10 (s_index rfl Tryd.underlying37 ti3 rfl rfl (by omega) (row_at (by omega)) rfl)) ?_
            refine rg_put (d := 43) (v := .d (.fl (.int .i64 (ix w k)))) rfl (oy rfl rfl rfl h10 (op_load_el rfl Tryd.underlying3 rfl rfl rfl rfl)) ?_
            refine rg_put (d := 44) (v := .d (.fl (.bool ((decide (1000 < (ix w k))))))) rfl (oy rfl rfl rfl h10 (op_bin rfl rfl rfl (b_gtr _ _ _ _) rfl)) ?_
            refine rg_put (d := 45) (v := .d (.fl (.bool ((decide (1000 < (ix w k))))))) rfl (og rfl (op_pick rfl rfl (by rw [h10]; rfl) rfl)) ?_
            refine rg_done rfl ?_
            refine a_cond rfl (fun h12 => ?_) (fun h12 => ?_)
            · skip
              have h13 := t_dec h12
              refine a_rseq ?_
              refine rg_put (d := 46) (v := .d (.fl (.bool true))) rfl (og rfl (op_call rfl Tryd.func11 nm11 rfl .nil alive11 rfl)) ?_
              refine rg_put (d := 4) (v := .d (.fl (.bool true))) rfl (og rfl (op_assign rfl rfl rfl)) ?_
              refine rg_done rfl ?_
              refine a_ret ?_
              show ∃ ds, ResL _ _ _ ds ∧ RV.of ds = _
              refine ⟨[.fl (.bool true)], (.cons (.tmp rfl (.d _)) .nil), ?_⟩
              rfl
            · skip
              have h14 := f_dec h12
              refine a_skip ?_
              show A _ _ _ _ _ _ _
              refine a_region ?_
              refine rg_put (d := 32) (v := .d (.fl (.int .i64 (k : Int)))) rfl (og rfl (op_move rfl rfl rfl)) ?_
              refine rg_put (d := 33) (v := .d (.fl (.int .i64 (((k : Int) + 1))))) rfl (og rfl (op_bin rfl rfl rfl (fun x y w => b_add64 _ _ _ x y w (by omega)) rfl)) ?_
              refine rg_put (d := 5) (v := .d (.fl (.int .i64 (((k : Int) + 1))))) rfl (og rfl (op_assign rfl rfl rfl)) ?_
              refine rg_done rfl ?_
              show ∃ i, _ ∧ _ ∧ Imp _ _ _ _ _
              refine ⟨k + 1, ⟨by omega, fun q h => (Nat.lt_succ_iff_lt_or_eq.1 h).elim (hq q) (fun e => by rw [e]; omega)⟩, by omega, imp_forget rfl ⟨rfl, rfl, rfl, (by first | rfl | exact ci (by omega) | exact ci (by simp) | exact cd (by simp) | simp), trivial⟩ trivial⟩
          · skip
            have h15 := t_dec h10
            refine rg_put (d := 40) (v := .d (.fl undef)) rfl (on rfl rfl rfl h10) ?_
            refine rg_put (d := 41) (v := .d (.fl undef)) rfl (on rfl rfl rfl h10) ?_
            refine rg_put (d := 42) (v := .d (.fl undef)) rfl (on rfl rfl rfl h10) ?_
            refine rg_put (d := 43) (v := .d (.fl undef)) rfl (on rfl rfl rfl h10) ?_
            refine rg_put (d := 44) (v := .d (.fl undef)) rfl (on rfl rfl rfl h10) ?_
            refine rg_put (d := 45) (v := .d (.fl (.bool true))) rfl (og rfl (op_pick rfl rfl (by rw [h10]; rfl) rfl)) ?_
            refine rg_done rfl ?_
            refine a_condK rfl rfl ?_
            refine a_rseq ?_
            refine rg_put (d := 46) (v := .d (.fl (.bool true))) rfl (og rfl (op_call rfl Tryd.func11 nm11 rfl .nil alive11 rfl)) ?_
            refine rg_put (d := 4) (v := .d (.fl (.bool true))) rfl (og rfl (op_assign rfl rfl rfl)) ?_
            refine rg_done rfl ?_
            refine a_ret ?_
            show ∃ ds, ResL _ _ _ ds ∧ RV.of ds = _
            refine ⟨[.fl (.bool true)], (.cons (.tmp rfl (.d _)) .nil), ?_⟩
            rfl
        · skip
          have h16 := f_dec h8
          refine a_exit ?_
          show A _ _ _ _ _ _ _
          refine a_rseq ?_
          have hww : ∀ q, q < w.length → wt (ix w q) = ix w q := fun q h => wt_id (hq q (by omega))
          have hB := vt_bst (r := r) (w := w) (by omega) (by omega)
          refine rg_put (d := 48) (v := .d (.sl 1 (List.map rS r))) rfl (og rfl (op_move rfl rfl rfl)) ?_
          refine rg_put (d := 49) (v := .d (.sl 1 (List.map (rI .i64) w))) rfl (og rfl (op_move rfl rfl rfl)) ?_
          refine rg_put (d := 50) (v := .tu [.fl (.string ((vt r w).1)), .fl (.int .i64 ((vt r w).2))]) rfl (og rfl (op_call rfl Tryd.func24 nm24 rfl (.cons rfl (.d _) (.cons rfl (.d _) .nil)) (votC r w hr hz hw9) rfl)) ?_
          refine rg_put (d := 47) (v := .tu [.fl (.string ((vt r w).1)), .fl (.int .i64 ((vt r w).2))]) rfl (og rfl (op_move rfl rfl rfl)) ?_
          refine rg_put (d := 51) (v := .d (.fl (.string ((vt r w).1)))) rfl (og rfl (op_extract rfl rfl rfl rfl)) ?_
          refine rg_put (d := 52) (v := .d (.fl (.int .i64 ((vt r w).2)))) rfl (og rfl (op_extract rfl rfl rfl rfl)) ?_
          refine rg_put (d := 6) (v := .d (.fl (.string ((vt r w).1)))) rfl (og rfl (op_assign rfl rfl rfl)) ?_
          refine rg_put (d := 7) (v := .d (.fl (.int .i64 ((vt r w).2)))) rfl (og rfl (op_assign rfl rfl rfl)) ?_
          refine rg_done rfl ?_
          refine a_rseq ?_
          refine rg_put (d := 8) (v := .d (.fl (.bool false))) rfl (og rfl (op_assign rfl rfl rfl)) ?_
          refine rg_done rfl ?_
          refine a_seq ?_
          refine a_rseq ?_
          refine rg_put (d := 9) (v := .d (.fl (.int .i64 0))) rfl (og rfl (op_assign rfl rfl rfl)) ?_
          refine rg_done rfl ?_
          refine a_block ?_
          refine a_loop (ι := Nat) (fun i => SS [(0, .d (.sl 1 (List.map rS r))), (1, .d (.sl 1 (List.map (rI .i64) w))), (5, .d (.fl (.int .i64 (k : Int)))), (6, .d (.fl (.string ((vt r w).1)))), (7, .d (.fl (.int .i64 ((vt r w).2)))), (26, .d (.fl (.bool (((r.length : Int) != (w.length : Int)))))), (31, .d (.fl (.bool ((decide ((k : Int) < (w.length : Int))))))), (9, .d (.fl (.int .i64 (i : Int)))), (8, .d (.fl (.bool ((fnd r (vt r w).1 i)))))] []) (fun i => i ≤ r.length) (fun i => r.length - i) 0 (by omega) (imp_forget rfl ⟨rfl, rfl, rfl, rfl, rfl, rfl, rfl, (by first | rfl | exact ci (by omega) | exact ci (by simp) | exact cd (by simp) | simp), rfl, trivial⟩ trivial) (fun i hok => ?_)
          have hi := hok
          refine a_seq ?_
          refine a_rseq ?_
          refine rg_put (d := 53) (v := .d (.fl (.int .i64 (i : Int)))) rfl (og rfl (op_move rfl rfl rfl)) ?_
          refine rg_put (d := 54) (v := .d (.sl 1 (List.map rS r))) rfl (og rfl (op_move rfl rfl rfl)) ?_
          refine rg_put (d := 55) (v := .d (.fl (.int .i64 (r.length : Int)))) rfl (og rfl (s_len rfl Tryd.underlying32 rfl rfl)) ?_
          refine rg_put (d := 56) (v := .d (.fl (.bool ((decide ((i : Int) < (r.length : Int))))))) rfl (og rfl (op_bin rfl rfl rfl (b_lss _ _ _ _) rfl)) ?_
          refine rg_done rfl ?_
          refine a_cond rfl (fun h17 => ?_) (fun h17 => ?_)
          · skip
            have h18 := t_dec h17
            refine a_skip ?_
            show A _ _ _ _ _ _ _
            refine a_seq ?_
            refine a_block ?_
            refine a_rseq ?_
            refine rg_put (d := 10) (v := .d (.fl (.int .i64 0))) rfl (og rfl (op_assign rfl rfl rfl)) ?_
            refine rg_done rfl ?_
            refine a_seq ?_
            refine a_rseq ?_
            refine rg_put (d := 11) (v := .d (.fl (.int .i64 0))) rfl (og rfl (op_assign rfl rfl rfl)) ?_
            refine rg_done rfl ?_
            refine a_block ?_
            refine a_loop (ι := Nat) (fun j => SS [(0, .d (.sl 1 (List.map rS r))), (1, .d (.sl 1 (List.map (rI .i64) w))), (5, .d (.fl (.int .i64 (k : Int)))), (6, .d (.fl (.string ((vt r w).1)))), (7, .d (.fl (.int .i64 ((vt r w).2)))), (8, .d (.fl (.bool ((fnd r (vt r w).1 i))))), (9, .d (.fl (.int .i64 (i : Int)))), (26, .d (.fl (.bool (((r.length : Int) != (w.length : Int)))))), (31, .d (.fl (.bool ((decide ((k : Int) < (w.length : Int))))))), (56, .d (.fl (.bool ((decide ((i : Int) < (r.length : Int))))))), (11, .d (.fl (.int .i64 (j : Int)))), (10, .d (.fl (.int .i64 ((tc r w (ix r i) j)))))] []) (fun j => j ≤ r.length) (fun j => r.length - j) 0 (by omega) (imp_forget rfl ⟨rfl, rfl, rfl, rfl, rfl, rfl, rfl, rfl, rfl, rfl, (by first | rfl | exact ci (by omega) | exact ci (by simp) | exact cd (by simp) | simp), rfl, trivial⟩ trivial) (fun j hok => ?_)
            have hj := hok
            have htc := tc_in r w (ix r i) j
            refine a_seq ?_
            refine a_rseq ?_
            refine rg_put (d := 59) (v := .d (.fl (.int .i64 (j : Int)))) rfl (og rfl (op_move rfl rfl rfl)) ?_
            refine rg_put (d := 60) (v := .d (.sl 1 (List.map rS r))) rfl (og rfl (op_move rfl rfl rfl)) ?_
            refine rg_put (d := 61) (v := .d (.fl (.int .i64 (r.length : Int)))) rfl (og rfl (s_len rfl Tryd.underlying32 rfl rfl)) ?_
            refine rg_put (d := 62) (v := .d (.fl (.bool ((decide ((j : Int) < (r.length : Int))))))) rfl (og rfl (op_bin rfl rfl rfl (b_lss _ _ _ _) rfl)) ?_
            refine rg_done rfl ?_
            refine a_cond rfl (fun h19 => ?_) (fun h19 => ?_)
            · skip
              have h20 := t_dec h19
              refine a_skip ?_
              show A _ _ _ _ _ _ _
              refine a_seq ?_
              refine a_block ?_
              refine a_draw (by kernel_rfl) ?_
              have hwj := hq j (by omega)
              have hmu := mul_in hwj (dst_nn (ix r i) (ix r j))
              refine dr_put (d := 65) (v := .d (.fl (.int .i64 ((tc r w (ix r i) j))))) rfl (og rfl (op_move rfl rfl rfl)) ?_
              refine dr_put (d := 66) (v := .d (.sl 1 (List.map (rI .i64) w))) rfl (og rfl (op_move rfl rfl rfl)) ?_
              refine dr_put (d := 67) (v := .d (.fl (.int .i64 (j : Int)))) rfl (og rfl (op_move rfl rfl rfl)) ?_
              refine dr_put (d := 68) (v := .el ((rI .i64 (ix w j)))) rfl (og rfl (s_index rfl Tryd.underlying37 ti3 rfl rfl (by omega) (row_at (by omega)) rfl)) ?_
              refine dr_put (d := 69) (v := .d (.fl (.int .i64 (ix w j)))) rfl (og rfl (op_load_el rfl Tryd.underlying3 rfl rfl rfl rfl)) ?_
              refine dr_put (d := 70) (v := .d (.sl 1 (List.map rS r))) rfl (og rfl (op_move rfl rfl rfl)) ?_
              refine dr_put (d := 71) (v := .d (.fl (.int .i64 (i : Int)))) rfl (og rfl (op_move rfl rfl rfl)) ?_
              refine dr_put (d := 72) (v := .el ((rS (ix r i)))) rfl (og rfl (s_index rfl Tryd.underlying32 ti9 rfl rfl (by omega) (row_at (by omega)) rfl)) ?_
              refine dr_put (d := 73) (v := .d (.fl (.string (ix r i)))) rfl (og rfl (op_load_el rfl Tryd.underlying9 rfl rfl rfl rfl)) ?_
              refine dr_put (d := 74) (v := .d (.sl 1 (List.map rS r))) rfl (og rfl (op_move rfl rfl rfl)) ?_
              refine dr_put (d := 75) (v := .d (.fl (.int .i64 (j : Int)))) rfl (og rfl (op_move rfl rfl rfl)) ?_
              refine dr_put (d := 76) (v := .el ((rS (ix r j)))) rfl (og rfl (s_index rfl Tryd.underlying32 ti9 rfl rfl (by omega) (row_at (by omega)) rfl)) ?_
              refine dr_put (d := 77) (v := .d (.fl (.string (ix r j)))) rfl (og rfl (op_load_el rfl Tryd.underlying9 rfl rfl rfl rfl)) ?_
              refine dr_put (d := 78) (v := .d (.fl (.int .i64 ((dst (ix r i) (ix r j)))))) rfl (og rfl (op_call rfl Tryd.func16 nm16 rfl (.cons rfl (.d _) (.cons rfl (.d _) .nil)) (dsD (ix r i) (ix r j) (hz _ (ix_mem (by omega))) (hz _ (ix_mem (by omega)))) rfl)) ?_
              refine dr_put (d := 79) (v := .d (.fl (.int .i64 (((ix w j) * (dst (ix r i) (ix r j))))))) rfl (og rfl (op_bin rfl rfl rfl (fun x y w => b_mul64 _ _ _ x y w (by omega)) rfl)) ?_
              refine dr_put (d := 80) (v := .d (.fl (.int .i64 (((tc r w (ix r i) j) + ((ix w j) * (dst (ix r i) (ix r j)))))))) rfl (og rfl (op_bin rfl rfl rfl (fun x y w => b_add64 _ _ _ x y w (by omega)) rfl)) ?_
              refine dr_put (d := 10) (v := .d (.fl (.int .i64 (((tc r w (ix r i) j) + ((ix w j) * (dst (ix r i) (ix r j)))))))) rfl (og rfl (op_assign rfl rfl rfl)) ?_
              refine dr_done rfl (sepB_of [0, 0, 0, 6, 14, 0, 0, 96, 224, 0, 0, 1536, 3584, 8160, 16382, 32767, 65535] (by kernel_rfl)) (by kernel_rfl) ?_
              show A _ _ _ _ _ _ _
              refine a_region ?_
              refine rg_put (d := 63) (v := .d (.fl (.int .i64 (j : Int)))) rfl (og rfl (op_move rfl rfl rfl)) ?_
              refine rg_put (d := 64) (v := .d (.fl (.int .i64 (((j : Int) + 1))))) rfl (og rfl (op_bin rfl rfl rfl (fun x y w => b_add64 _ _ _ x y w (by omega)) rfl)) ?_
              refine rg_put (d := 11) (v := .d (.fl (.int .i64 (((j : Int) + 1))))) rfl (og rfl (op_assign rfl rfl rfl)) ?_
              refine rg_done rfl ?_
              show ∃ i, _ ∧ _ ∧ Imp _ _ _ _ _
              refine ⟨j + 1, (by omega), by omega, imp_forget rfl ⟨rfl, rfl, rfl, rfl, rfl, rfl, rfl, rfl, rfl, rfl, (by first | rfl | exact ci (by omega)), (ci (by show _ = tc r w (ix r i) j + wt (ix w j) * dst (ix r i) (ix r j); rw [hww j (by omega)])), trivial⟩ trivial⟩
            · skip
              have h21 := f_dec h19
              refine a_exit ?_
              show A _ _ _ _ _ _ _
              refine a_seq ?_
              refine a_rseq ?_
              have hje : tc r w (ix r i) j = fc r w (ix r i) := by unfold fc; rw [show j = r.length from by omega]
              have hli := hB.l i (by omega)
              have hcB := hB.c
              refine rg_put (d := 81) (v := .d (.fl (.int .i64 ((tc r w (ix r i) j))))) rfl (og rfl (op_move rfl rfl rfl)) ?_
              refine rg_put (d := 82) (v := .d (.fl (.int .i64 ((vt r w).2)))) rfl (og rfl (op_move rfl rfl rfl)) ?_
              refine rg_put (d := 83) (v := .d (.fl (.bool ((decide ((tc r w (ix r i) j) < (vt r w).2)))))) rfl (og rfl (op_bin rfl rfl rfl (b_lss _ _ _ _) rfl)) ?_
              refine rg_put (d := 84) (v := .d (.fl (.bool ((decide ((tc r w (ix r i) j) < (vt r w).2)))))) rfl (og rfl (op_move rfl rfl rfl)) ?_
              rcases fot ((decide ((tc r w (ix r i) j) < (vt r w).2))) with h22 | h22
              · skip
                have h23 := f_dec h22
                refine rg_put (d := 85) (v := .d (.sl 1 (List.map rS r))) rfl (oy rfl rfl rfl h22 (op_move rfl rfl rfl)) ?_
                refine rg_put (d := 86) (v := .d (.fl (.int .i64 (i : Int)))) rfl (oy rfl rfl rfl h22 (op_move rfl rfl rfl)) ?_
                refine rg_put (d := 87) (v := .el ((rS (ix r i)))) rfl (oy rfl rfl rfl h22 (s_index rfl Tryd.underlying32 ti9 rfl rfl (by omega) (row_at (by omega)) rfl)) ?_
                refine rg_put (d := 88) (v := .d (.fl (.string (ix r i)))) rfl (oy rfl rfl rfl h22 (op_load_el rfl Tryd.underlying9 rfl rfl rfl rfl)) ?_
                refine rg_put (d := 89) (v := .d (.fl (.string ((vt r w).1)))) rfl (oy rfl rfl rfl h22 (op_move rfl rfl rfl)) ?_
                refine rg_put (d := 90) (v := .d (.fl (.bool ((sEq (ix r i) ((vt r w).1)))))) rfl (oy rfl rfl rfl h22 (op_bin rfl rfl rfl (b_seq _ _ _) rfl)) ?_
                refine rg_put (d := 91) (v := .d (.fl (.bool ((sEq (ix r i) ((vt r w).1)))))) rfl (oy rfl rfl rfl h22 (op_move rfl rfl rfl)) ?_
                rcases fot ((sEq (ix r i) ((vt r w).1))) with h24 | h24
                · skip
                  refine rg_put (d := 92) (v := .d (.fl undef)) rfl (on rfl rfl rfl h24) ?_
                  refine rg_put (d := 93) (v := .d (.fl undef)) rfl (on rfl rfl rfl h24) ?_
                  refine rg_put (d := 94) (v := .d (.fl undef)) rfl (on rfl rfl rfl h24) ?_
                  refine rg_put (d := 95) (v := .d (.fl (.bool false))) rfl (oy rfl rfl rfl h22 (op_pick rfl rfl (by rw [h24]; rfl) rfl)) ?_
                  refine rg_put (d := 96) (v := .d (.fl (.bool false))) rfl (og rfl (op_pick rfl rfl (by rw [h22]; rfl) rfl)) ?_
                  refine rg_done rfl ?_
                  refine a_condF rfl rfl ?_
                  refine a_skip ?_
                  show A _ _ _ _ _ _ _
                  refine a_region ?_
                  refine rg_put (d := 97) (v := .d (.fl (.bool ((fnd r (vt r w).1 i))))) rfl (og rfl (op_move rfl rfl rfl)) ?_
                  refine rg_put (d := 98) (v := .d (.fl (.bool ((fnd r (vt r w).1 i))))) rfl (og rfl (op_move rfl rfl rfl)) ?_
                  rcases fot ((fnd r (vt r w).1 i)) with h25 | h25
                  · skip
                    refine rg_put (d := 99) (v := .d (.sl 1 (List.map rS r))) rfl (oy rfl rfl rfl h25 (op_move rfl rfl rfl)) ?_
                    refine rg_put (d := 100) (v := .d (.fl (.int .i64 (i : Int)))) rfl (oy rfl rfl rfl h25 (op_move rfl rfl rfl)) ?_
                    refine rg_put (d := 101) (v := .el ((rS (ix r i)))) rfl (oy rfl rfl rfl h25 (s_index rfl Tryd.underlying32 ti9 rfl rfl (by omega) (row_at (by omega)) rfl)) ?_
                    refine rg_put (d := 102) (v := .d (.fl (.string (ix r i)))) rfl (oy rfl rfl rfl h25 (op_load_el rfl Tryd.underlying9 rfl rfl rfl rfl)) ?_
                    refine rg_put (d := 103) (v := .d (.fl (.string ((vt r w).1)))) rfl (oy rfl rfl rfl h25 (op_move rfl rfl rfl)) ?_
                    refine rg_put (d := 104) (v := .d (.fl (.bool ((sEq (ix r i) ((vt r w).1)))))) rfl (oy rfl rfl rfl h25 (op_bin rfl rfl rfl (b_seq _ _ _) rfl)) ?_
                    refine rg_put (d := 105) (v := .d (.fl (.bool ((sEq (ix r i) ((vt r w).1)))))) rfl (og rfl (op_pick rfl rfl (by rw [h25]; rfl) rfl)) ?_
                    refine rg_put (d := 8) (v := .d (.fl (.bool ((sEq (ix r i) ((vt r w).1)))))) rfl (og rfl (op_assign rfl rfl rfl)) ?_
                    refine rg_done rfl ?_
                    show A _ _ _ _ _ _ _
                    refine a_region ?_
                    refine rg_put (d := 57) (v := .d (.fl (.int .i64 (i : Int)))) rfl (og rfl (op_move rfl rfl rfl)) ?_
                    refine rg_put (d := 58) (v := .d (.fl (.int .i64 (((i : Int) + 1))))) rfl (og rfl (op_bin rfl rfl rfl (fun x y w => b_add64 _ _ _ x y w (by omega)) rfl)) ?_
                    refine rg_put (d := 9) (v := .d (.fl (.int .i64 (((i : Int) + 1))))) rfl (og rfl (op_assign rfl rfl rfl)) ?_
                    refine rg_done rfl ?_
                    have hst : (sEq (ix r i) ((vt r w).1)) = fnd r (vt r w).1 (i + 1) := by simp only [fnd, h1, h2, h3, h5, h8, h17, h19, h22, h24, h25, Bool.true_or, Bool.false_or, Bool.or_true, Bool.or_false, Bool.not_true, Bool.not_false, cond_true, cond_false, Bool.true_and, Bool.false_and, Bool.and_true, Bool.and_false] <;> rfl
                    show ∃ i, _ ∧ _ ∧ Imp _ _ _ _ _
                    refine ⟨i + 1, (by omega), by omega, imp_forget rfl ⟨rfl, rfl, rfl, rfl, rfl, rfl, rfl, (by first | rfl | exact ci (by omega)), (cd (congrArg (fun z => DV.fl (.bool z)) hst)), trivial⟩ trivial⟩
                  · skip
                    refine rg_put (d := 99) (v := .d (.fl undef)) rfl (on rfl rfl rfl h25) ?_
                    refine rg_put (d := 100) (v := .d (.fl undef)) rfl (on rfl rfl rfl h25) ?_
                    refine rg_put (d := 101) (v := .d (.fl undef)) rfl (on rfl rfl rfl h25) ?_
                    refine rg_put (d := 102) (v := .d (.fl undef)) rfl (on rfl rfl rfl h25) ?_
                    refine rg_put (d := 103) (v := .d (.fl undef)) rfl (on rfl rfl rfl h25) ?_
                    refine rg_put (d := 104) (v := .d (.fl undef)) rfl (on rfl rfl rfl h25) ?_
                    refine rg_put (d := 105) (v := .d (.fl (.bool true))) rfl (og rfl (op_pick rfl rfl (by rw [h25]; rfl) rfl)) ?_
                    refine rg_put (d := 8) (v := .d (.fl (.bool true))) rfl (og rfl (op_assign rfl rfl rfl)) ?_
                    refine rg_done rfl ?_
                    show A _ _ _ _ _ _ _
                    refine a_region ?_
                    refine rg_put (d := 57) (v := .d (.fl (.int .i64 (i : Int)))) rfl (og rfl (op_move rfl rfl rfl)) ?_
                    refine rg_put (d := 58) (v := .d (.fl (.int .i64 (((i : Int) + 1))))) rfl (og rfl (op_bin rfl rfl rfl (fun x y w => b_add64 _ _ _ x y w (by omega)) rfl)) ?_
                    refine rg_put (d := 9) (v := .d (.fl (.int .i64 (((i : Int) + 1))))) rfl (og rfl (op_assign rfl rfl rfl)) ?_
                    refine rg_done rfl ?_
                    have hst : true = fnd r (vt r w).1 (i + 1) := by simp only [fnd, h1, h2, h3, h5, h8, h17, h19, h22, h24, h25, Bool.true_or, Bool.false_or, Bool.or_true, Bool.or_false, Bool.not_true, Bool.not_false, cond_true, cond_false, Bool.true_and, Bool.false_and, Bool.and_true, Bool.and_false] <;> rfl
                    show ∃ i, _ ∧ _ ∧ Imp _ _ _ _ _
                    refine ⟨i + 1, (by omega), by omega, imp_forget rfl ⟨rfl, rfl, rfl, rfl, rfl, rfl, rfl, (by first | rfl | exact ci (by omega)), (cd (congrArg (fun z => DV.fl (.bool z)) hst)), trivial⟩ trivial⟩
                · skip
                  refine rg_put (d := 92) (v := .d (.fl (.int .i64 ((tc r w (ix r i) j))))) rfl (oy rfl rfl rfl h24 (op_move rfl rfl rfl)) ?_
                  refine rg_put (d := 93) (v := .d (.fl (.int .i64 ((vt r w).2)))) rfl (oy rfl rfl rfl h24 (op_move rfl rfl rfl)) ?_
                  refine rg_put (d := 94) (v := .d (.fl (.bool (((tc r w (ix r i) j) != (vt r w).2))))) rfl (oy rfl rfl rfl h24 (op_bin rfl rfl rfl (b_neq _ _ _ _) rfl)) ?_
                  refine rg_put (d := 95) (v := .d (.fl (.bool (((tc r w (ix r i) j) != (vt r w).2))))) rfl (oy rfl rfl rfl h22 (op_pick rfl rfl (by rw [h24]; rfl) rfl)) ?_
                  refine rg_put (d := 96) (v := .d (.fl (.bool (((tc r w (ix r i) j) != (vt r w).2))))) rfl (og rfl (op_pick rfl rfl (by rw [h22]; rfl) rfl)) ?_
                  refine rg_done rfl ?_
                  refine a_cond rfl (fun h26 => ?_) (fun h26 => ?_)
                  · skip
                    have h27 := t_bne h26
                    refine a_rseq ?_
                    refine rg_put (d := 4) (v := .d (.fl (.bool false))) rfl (og rfl (op_assign rfl rfl rfl)) ?_
                    refine rg_done rfl ?_
                    refine a_ret ?_
                    show ∃ ds, ResL _ _ _ ds ∧ RV.of ds = _
                    refine ⟨[.fl (.bool false)], (.cons (.tmp rfl (.d _)) .nil), ?_⟩
                    exfalso
                    have he := sEq_eq h24
                    rw [← he] at hcB
                    omega
                  · skip
                    have h28 := f_bne h26
                    refine a_skip ?_
                    show A _ _ _ _ _ _ _
                    refine a_region ?_
                    refine rg_put (d := 97) (v := .d (.fl (.bool ((fnd r (vt r w).1 i))))) rfl (og rfl (op_move rfl rfl rfl)) ?_
                    refine rg_put (d := 98) (v := .d (.fl (.bool ((fnd r (vt r w).1 i))))) rfl (og rfl (op_move rfl rfl rfl)) ?_
                    rcases fot ((fnd r (vt r w).1 i)) with h29 | h29
                    · skip
                      refine rg_put (d := 99) (v := .d (.sl 1 (List.map rS r))) rfl (oy rfl rfl rfl h29 (op_move rfl rfl rfl)) ?_
                      refine rg_put (d := 100) (v := .d (.fl (.int .i64 (i : Int)))) rfl (oy rfl rfl rfl h29 (op_move rfl rfl rfl)) ?_
                      refine rg_put (d := 101) (v := .el ((rS (ix r i)))) rfl (oy rfl rfl rfl h29 (s_index rfl Tryd.underlying32 ti9 rfl rfl (by omega) (row_at (by omega)) rfl)) ?_
                      refine rg_put (d := 102) (v := .d (.fl (.string (ix r i)))) rfl (oy rfl rfl rfl h29 (op_load_el rfl Tryd.underlying9 rfl rfl rfl rfl)) ?_
                      refine rg_put (d := 103) (v := .d (.fl (.string ((vt r w).1)))) rfl (oy rfl rfl rfl h29 (op_move rfl rfl rfl)) ?_
                      refine rg_put (d := 104) (v := .d (.fl (.bool ((sEq (ix r i) ((vt r w).1)))))) rfl (oy rfl rfl rfl h29 (op_bin rfl rfl rfl (b_seq _ _ _) rfl)) ?_
                      refine rg_put (d := 105) (v := .d (.fl (.bool ((sEq (ix r i) ((vt r w).1)))))) rfl (og rfl (op_pick rfl rfl (by rw [h29]; rfl) rfl)) ?_
                      refine rg_put (d := 8) (v := .d (.fl (.bool ((sEq (ix r i) ((vt r w).1)))))) rfl (og rfl (op_assign rfl rfl rfl)) ?_
                      refine rg_done rfl ?_
                      show A _ _ _ _ _ _ _
                      refine a_region ?_
                      refine rg_put (d := 57) (v := .d (.fl (.int .i64 (i : Int)))) rfl (og rfl (op_move rfl rfl rfl)) ?_
                      refine rg_put (d := 58) (v := .d (.fl (.int .i64 (((i : Int) + 1))))) rfl (og rfl (op_bin rfl rfl rfl (fun x y w => b_add64 _ _ _ x y w (by omega)) rfl)) ?_
                      refine rg_put (d := 9) (v := .d (.fl (.int .i64 (((i : Int) + 1))))) rfl (og rfl (op_assign rfl rfl rfl)) ?_
                      refine rg_done rfl ?_
                      have hst : (sEq (ix r i) ((vt r w).1)) = fnd r (vt r w).1 (i + 1) := by simp only [fnd, h1, h2, h3, h5, h8, h17, h19, h22, h24, h26, h29, Bool.true_or, Bool.false_or, Bool.or_true, Bool.or_false, Bool.not_true, Bool.not_false, cond_true, cond_false, Bool.true_and, Bool.false_and, Bool.and_true, Bool.and_false] <;> rfl
                      show ∃ i, _ ∧ _ ∧ Imp _ _ _ _ _
                      refine ⟨i + 1, (by omega), by omega, imp_forget rfl ⟨rfl, rfl, rfl, rfl, rfl, rfl, rfl, (by first | rfl | exact ci (by omega)), (cd (congrArg (fun z => DV.fl (.bool z)) hst)), trivial⟩ trivial⟩
                    · skip
                      refine rg_put (d := 99) (v := .d (.fl undef)) rfl (on rfl rfl rfl h29) ?_
                      refine rg_put (d := 100) (v := .d (.fl undef)) rfl (on rfl rfl rfl h29) ?_
                      refine rg_put (d := 101) (v := .d (.fl undef)) rfl (on rfl rfl rfl h29) ?_
                      refine rg_put (d := 102) (v := .d (.fl undef)) rfl (on rfl rfl rfl h29) ?_
                      refine rg_put (d := 103) (v := .d (.fl undef)) rfl (on rfl rfl rfl h29) ?_
                      refine rg_put (d := 104) (v := .d (.fl undef)) rfl (on rfl rfl rfl h29) ?_
                      refine rg_put (d := 105) (v := .d (.fl (.bool true))) rfl (og rfl (op_pick rfl rfl (by rw [h29]; rfl) rfl)) ?_
                      refine rg_put (d := 8) (v := .d (.fl (.bool true))) rfl (og rfl (op_assign rfl rfl rfl)) ?_
                      refine rg_done rfl ?_
                      show A _ _ _ _ _ _ _
                      refine a_region ?_
                      refine rg_put (d := 57) (v := .d (.fl (.int .i64 (i : Int)))) rfl (og rfl (op_move rfl rfl rfl)) ?_
                      refine rg_put (d := 58) (v := .d (.fl (.int .i64 (((i : Int) + 1))))) rfl (og rfl (op_bin rfl rfl rfl (fun x y w => b_add64 _ _ _ x y w (by omega)) rfl)) ?_
                      refine rg_put (d := 9) (v := .d (.fl (.int .i64 (((i : Int) + 1))))) rfl (og rfl (op_assign rfl rfl rfl)) ?_
                      refine rg_done rfl ?_
                      have hst : true = fnd r (vt r w).1 (i + 1) := by simp only [fnd, h1, h2, h3, h5, h8, h17, h19, h22, h24, h26, h29, Bool.true_or, Bool.false_or, Bool.or_true, Bool.or_false, Bool.not_true, Bool.not_false, cond_true, cond_false, Bool.true_and, Bool.false_and, Bool.and_true, Bool.and_false] <;> rfl
                      show ∃ i, _ ∧ _ ∧ Imp _ _ _ _ _
                      refine ⟨i + 1, (by omega), by omega, imp_forget rfl ⟨rfl, rfl, rfl, rfl, rfl, rfl, rfl, (by first | rfl | exact ci (by omega)), (cd (congrArg (fun z => DV.fl (.bool z)) hst)), trivial⟩ trivial⟩
              · skip
                have h30 := t_dec h22
                refine rg_put (d := 85) (v := .d (.fl undef)) rfl (on rfl rfl rfl h22) ?_
                refine rg_put (d := 86) (v := .d (.fl undef)) rfl (on rfl rfl rfl h22) ?_
                refine rg_put (d := 87) (v := .d (.fl undef)) rfl (on rfl rfl rfl h22) ?_
                refine rg_put (d := 88) (v := .d (.fl undef)) rfl (on rfl rfl rfl h22) ?_
                refine rg_put (d := 89) (v := .d (.fl undef)) rfl (on rfl rfl rfl h22) ?_
                refine rg_put (d := 90) (v := .d (.fl undef)) rfl (on rfl rfl rfl h22) ?_
                refine rg_put (d := 91) (v := .d (.fl undef)) rfl (on rfl rfl rfl h22) ?_
                refine rg_put (d := 92) (v := .d (.fl undef)) rfl (ou rfl rfl rfl) ?_
                refine rg_put (d := 93) (v := .d (.fl undef)) rfl (ou rfl rfl rfl) ?_
                refine rg_put (d := 94) (v := .d (.fl undef)) rfl (ou rfl rfl rfl) ?_
                refine rg_put (d := 95) (v := .d (.fl undef)) rfl (on rfl rfl rfl h22) ?_
                refine rg_put (d := 96) (v := .d (.fl (.bool true))) rfl (og rfl (op_pick rfl rfl (by rw [h22]; rfl) rfl)) ?_
                refine rg_done rfl ?_
                refine a_condK rfl rfl ?_
                refine a_rseq ?_
                refine rg_put (d := 4) (v := .d (.fl (.bool false))) rfl (og rfl (op_assign rfl rfl rfl)) ?_
                refine rg_done rfl ?_
                refine a_ret ?_
                show ∃ ds, ResL _ _ _ ds ∧ RV.of ds = _
                refine ⟨[.fl (.bool false)], (.cons (.tmp rfl (.d _)) .nil), ?_⟩
                exfalso; omega
          · skip
            have h31 := f_dec h17
            refine a_exit ?_
            show A _ _ _ _ _ _ _
            refine a_rseq ?_
            obtain ⟨q, hq1, hq2⟩ := hB.m
            rw [show (fnd r (vt r w).1 i) = true from (fnv_at (q := q) (by omega) hq2)]
            refine rg_put (d := 106) (v := .d (.fl (.bool true))) rfl (og rfl (op_move rfl rfl rfl)) ?_
            refine rg_put (d := 107) (v := .d (.fl (.bool true))) rfl (og rfl (op_move rfl rfl rfl)) ?_
            refine rg_put (d := 108) (v := .d (.fl (.bool true))) rfl (oy rfl rfl rfl rfl (op_call rfl Tryd.func11 nm11 rfl .nil alive11 rfl)) ?_
            refine rg_put (d := 109) (v := .d (.fl (.bool true))) rfl (og rfl (op_pick rfl rfl rfl rfl)) ?_
            refine rg_put (d := 4) (v := .d (.fl (.bool true))) rfl (og rfl (op_assign rfl rfl rfl)) ?_
            refine rg_done rfl ?_
            refine a_ret ?_
            show ∃ ds, ResL _ _ _ ds ∧ RV.of ds = _
            refine ⟨[.fl (.bool true)], (.cons (.tmp rfl (.d _)) .nil), ?_⟩
            rfl
    · skip
      have h32 := t_beq h3
      refine rg_put (d := 21) (v := .d (.fl undef)) rfl (on rfl rfl rfl h3) ?_
      refine rg_put (d := 22) (v := .d (.fl undef)) rfl (on rfl rfl rfl h3) ?_
      refine rg_put (d := 23) (v := .d (.fl undef)) rfl (on rfl rfl rfl h3) ?_
      refine rg_put (d := 24) (v := .d (.fl undef)) rfl (on rfl rfl rfl h3) ?_
      refine rg_put (d := 25) (v := .d (.fl undef)) rfl (on rfl rfl rfl h3) ?_
      refine rg_put (d := 26) (v := .d (.fl (.bool true))) rfl (og rfl (op_pick rfl rfl (by rw [h3]; rfl) rfl)) ?_
      refine rg_done rfl ?_
      refine a_condK rfl rfl ?_
      refine a_rseq ?_
      refine rg_put (d := 27) (v := .d (.fl (.bool true))) rfl (og rfl (op_call rfl Tryd.func11 nm11 rfl .nil alive11 rfl)) ?_
      refine rg_put (d := 4) (v := .d (.fl (.bool true))) rfl (og rfl (op_assign rfl rfl rfl)) ?_
      refine rg_done rfl ?_
      refine a_ret ?_
      show ∃ ds, ResL _ _ _ ds ∧ RV.of ds = _
      refine ⟨[.fl (.bool true)], (.cons (.tmp rfl (.d _)) .nil), ?_⟩
      rfl
  · skip
    have h33 := t_not h1
    refine rg_put (d := 16) (v := .d (.fl undef)) rfl (on rfl rfl rfl h1) ?_
    refine rg_put (d := 17) (v := .d (.fl undef)) rfl (on rfl rfl rfl h1) ?_
    refine rg_put (d := 18) (v := .d (.fl undef)) rfl (on rfl rfl rfl h1) ?_
    refine rg_put (d := 19) (v := .d (.fl (.bool true))) rfl (og rfl (op_pick rfl rfl (by rw [h1]; rfl) rfl)) ?_
    refine rg_put (d := 20) (v := .d (.fl (.bool true))) rfl (og rfl (op_move rfl rfl rfl)) ?_
    refine rg_put (d := 21) (v := .d (.fl undef)) rfl (on rfl rfl rfl rfl) ?_
    refine rg_put (d := 22) (v := .d (.fl undef)) rfl (on rfl rfl rfl rfl) ?_
    refine rg_put (d := 23) (v := .d (.fl undef)) rfl (on rfl rfl rfl rfl) ?_
    refine rg_put (d := 24) (v := .d (.fl undef)) rfl (on rfl rfl rfl rfl) ?_
    refine rg_put (d := 25) (v := .d (.fl undef)) rfl (on rfl rfl rfl rfl) ?_
    refine rg_put (d := 26) (v := .d (.fl (.bool true))) rfl (og rfl (op_pick rfl rfl rfl rfl)) ?_
    refine rg_done rfl ?_
    refine a_condK rfl rfl ?_
    refine a_rseq ?_
    refine rg_put (d := 27) (v := .d (.fl (.bool true))) rfl (og rfl (op_call rfl Tryd.func11 nm11 rfl .nil alive11 rfl)) ?_
    refine rg_put (d := 4) (v := .d (.fl (.bool true))) rfl (og rfl (op_assign rfl rfl rfl)) ?_
    refine rg_done rfl ?_
    refine a_ret ?_
    show ∃ ds, ResL _ _ _ ds ∧ RV.of ds = _
    refine ⟨[.fl (.bool true)], (.cons (.tmp rfl (.d _)) .nil), ?_⟩
    rfl
end Go.Proofs.YtldglchpaookiaaDoor.Wk
