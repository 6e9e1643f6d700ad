/- The law of the holds. No condition. -/
import Derived.Test.YteplcjhnmmpicaaLawF
import Derived.Test.YteplcjhnmmpicaaA22
set_option linter.unusedSimpArgs false
set_option linter.unusedVariables false
namespace Go.Proofs.Yteplcjhnmmpicaa.Wk
open Go Go.RowKit Go.Proofs.Yteplcjhnmmpicaa.Av
theorem rel_len {l : List Im} {id r : ByteArray} : (rel l id r).1.length = l.length := by
  unfold rel
  split
  · rfl
  · split
    · rfl
    · simp
theorem rel_hold {l : List Im} {id r : ByteArray} {n : Nat} (hb : ∀ q, q < l.length → (ix l q).hold.length ≤ n) : ∀ q, q < (rel l id r).1.length → (ix (rel l id r).1 q).hold.length ≤ n := by
  intro q hq
  rw [rel_len] at hq
  unfold rel
  split
  · exact hb q hq
  · split
    · exact hb q hq
    · by_cases hi : (ifind l id).toNat = q
      · have h2 : (ifind l id).toNat < l.length := by omega
        show (ix (l.set _ _) q).hold.length ≤ n
        rw [← hi, ix_set_at h2]
        have := hb _ h2
        simp only [delR, List.length_append, List.length_take, List.length_drop]
        omega
      · show (ix (l.set _ _) q).hold.length ≤ n
        rw [ix_set_other hq hi]
        exact hb q hq

set_option maxHeartbeats 4000000 in
set_option maxRecDepth 100000 in
theorem law5 (s : Sto) (id reason : ByteArray) : Ctr Try.prog 5 [.ag (eSto s), .fl (.string id), .fl (.string reason)] (.d (.fl (.bool true))) := by
  refine ctr (n := 71) (rs := #[.tmp 6]) (L := [(0, .d (.ag (eSto s))), (1, .d (.fl (.string id))), (2, .d (.fl (.string reason)))]) Try.func5 rfl rfl rfl rfl rfl (fun w0 U0 => ?_)
  refine a_rseq ?_
  refine rg_nam (d := 3) (v := .pt 101 0) (m := 101) (nw := [(101, .bx 39 (eSto s))]) rfl (og rfl (of_eff (op_box 101 rfl rfl rfl rfl) rfl)) rfl ?_
  refine rg_put (d := 6) (v := .d (.fl (.bool false))) rfl (og rfl (op_assign rfl rfl rfl)) ?_
  refine rg_done rfl ?_
  refine a_seq ?_
  refine a_rseq ?_
  refine rg_put (d := 15) (v := .d (.ag (eSto s))) rfl (og rfl (of_eff (s_load_pts rfl Try.underlying39 rfl ti39 rfl rfl rfl rfl) rfl)) ?_
  refine rg_put (d := 16) (v := .d (.fl (.bool (gre s)))) rfl (og rfl (op_call rfl Try.func14 nm14 rfl (.cons rfl (.d _) .nil) (great_is s) rfl)) ?_
  refine rg_done rfl ?_
  refine a_cond rfl (fun h1 => ?_) (fun h1 => ?_)
  · skip
    refine a_rseq ?_
    refine rg_put (d := 17) (v := .d (.fl (.bool true))) rfl (og rfl (op_call rfl Try.func9 nm9 rfl .nil awake_true rfl)) ?_
    refine rg_put (d := 6) (v := .d (.fl (.bool true))) rfl (og rfl (op_assign rfl rfl rfl)) ?_
    refine rg_done rfl ?_
    refine a_ret ?_
    show ∃ ds, ResL _ _ _ ds ∧ RV.of ds = _
    refine ⟨[.fl (.bool true)], (.cons (.tmp rfl (.d _)) .nil), ?_⟩
    rfl
  · skip
    refine a_skip ?_
    show A _ _ _ _ _ _ _
    refine a_rseq ?_
    obtain ⟨g1, g2, g3, g4⟩ := gre_f h1
    refine rg_put (d := 19) (v := .pt 101 1) rfl (og rfl (of_eff (s_field_pt rfl Try.underlying39 rfl ti36 rfl rfl rfl) rfl)) ?_
    refine rg_put (d := 20) (v := .d (.sl 5 (List.map eIm s.images))) rfl (og rfl (op_load_pt rfl Try.underlying36 rfl rfl rfl rfl rfl)) ?_
    refine rg_put (d := 21) (v := .d (.fl (.string id))) rfl (og rfl (op_move rfl rfl rfl)) ?_
    refine rg_put (d := 22) (v := .d (.fl (.string reason))) rfl (og rfl (op_move rfl rfl rfl)) ?_
    refine rg_put (d := 23) (v := .tu [.sl 5 (List.map eIm ((hld s.images id reason).1)), .fl (.int .i64 ((hld s.images id reason).2))]) rfl (og rfl (op_call rfl Try.func21 nm21 rfl (.cons rfl (.d _) (.cons rfl (.d _) (.cons rfl (.d _) .nil))) (ret_hold s.images id reason (by omega) (fun q h => by have := g4 q h; omega)) rfl)) ?_
    refine rg_put (d := 18) (v := .tu [.sl 5 (List.map eIm ((hld s.images id reason).1)), .fl (.int .i64 ((hld s.images id reason).2))]) rfl (og rfl (op_move rfl rfl rfl)) ?_
    refine rg_put (d := 24) (v := .d (.sl 5 (List.map eIm ((hld s.images id reason).1)))) rfl (og rfl (op_extract rfl rfl rfl rfl)) ?_
    refine rg_put (d := 25) (v := .d (.fl (.int .i64 ((hld s.images id reason).2)))) rfl (og rfl (op_extract rfl rfl rfl rfl)) ?_
    refine rg_put (d := 7) (v := .d (.sl 5 (List.map eIm ((hld s.images id reason).1)))) rfl (og rfl (op_assign rfl rfl rfl)) ?_
    refine rg_put (d := 8) (v := .d (.fl (.int .i64 ((hld s.images id reason).2)))) rfl (og rfl (op_assign rfl rfl rfl)) ?_
    refine rg_done rfl ?_
    refine a_rseq ?_
    refine rg_put (d := 27) (v := .pt 101 1) rfl (og rfl (of_eff (s_field_pt rfl Try.underlying39 rfl ti36 rfl rfl rfl) rfl)) ?_
    refine rg_put (d := 28) (v := .d (.sl 5 (List.map eIm s.images))) rfl (og rfl (op_load_pt rfl Try.underlying36 rfl rfl rfl rfl rfl)) ?_
    refine rg_put (d := 29) (v := .d (.fl (.string id))) rfl (og rfl (op_move rfl rfl rfl)) ?_
    refine rg_put (d := 30) (v := .d (.fl (.string reason))) rfl (og rfl (op_move rfl rfl rfl)) ?_
    refine rg_put (d := 31) (v := .tu [.sl 5 (List.map eIm ((hld s.images id reason).1)), .fl (.int .i64 ((hld s.images id reason).2))]) rfl (og rfl (op_call rfl Try.func22 nm22 rfl (.cons rfl (.d _) (.cons rfl (.d _) (.cons rfl (.d _) .nil))) (ref_hold s.images id reason (by omega) (fun q h => by have := g4 q h; omega)) rfl)) ?_
    refine rg_put (d := 26) (v := .tu [.sl 5 (List.map eIm ((hld s.images id reason).1)), .fl (.int .i64 ((hld s.images id reason).2))]) rfl (og rfl (op_move rfl rfl rfl)) ?_
    refine rg_put (d := 32) (v := .d (.sl 5 (List.map eIm ((hld s.images id reason).1)))) rfl (og rfl (op_extract rfl rfl rfl rfl)) ?_
    refine rg_put (d := 33) (v := .d (.fl (.int .i64 ((hld s.images id reason).2)))) rfl (og rfl (op_extract rfl rfl rfl rfl)) ?_
    refine rg_put (d := 9) (v := .d (.sl 5 (List.map eIm ((hld s.images id reason).1)))) rfl (og rfl (op_assign rfl rfl rfl)) ?_
    refine rg_put (d := 10) (v := .d (.fl (.int .i64 ((hld s.images id reason).2)))) rfl (og rfl (op_assign rfl rfl rfl)) ?_
    refine rg_done rfl ?_
    refine a_rseq ?_
    refine rg_put (d := 35) (v := .pt 101 1) rfl (og rfl (of_eff (s_field_pt rfl Try.underlying39 rfl ti36 rfl rfl rfl) rfl)) ?_
    refine rg_put (d := 36) (v := .d (.sl 5 (List.map eIm s.images))) rfl (og rfl (op_load_pt rfl Try.underlying36 rfl rfl rfl rfl rfl)) ?_
    refine rg_put (d := 37) (v := .d (.fl (.string id))) rfl (og rfl (op_move rfl rfl rfl)) ?_
    refine rg_put (d := 38) (v := .d (.fl (.string reason))) rfl (og rfl (op_move rfl rfl rfl)) ?_
    refine rg_put (d := 39) (v := .tu [.sl 5 (List.map eIm ((rel s.images id reason).1)), .fl (.int .i64 ((rel s.images id reason).2))]) rfl (og rfl (op_call rfl Try.func23 nm23 rfl (.cons rfl (.d _) (.cons rfl (.d _) (.cons rfl (.d _) .nil))) (ret_rel s.images id reason (by omega) (fun q h => by have := g4 q h; omega)) rfl)) ?_
    refine rg_put (d := 34) (v := .tu [.sl 5 (List.map eIm ((rel s.images id reason).1)), .fl (.int .i64 ((rel s.images id reason).2))]) rfl (og rfl (op_move rfl rfl rfl)) ?_
    refine rg_put (d := 40) (v := .d (.sl 5 (List.map eIm ((rel s.images id reason).1)))) rfl (og rfl (op_extract rfl rfl rfl rfl)) ?_
    refine rg_put (d := 41) (v := .d (.fl (.int .i64 ((rel s.images id reason).2)))) rfl (og rfl (op_extract rfl rfl rfl rfl)) ?_
    refine rg_put (d := 11) (v := .d (.sl 5 (List.map eIm ((rel s.images id reason).1)))) rfl (og rfl (op_assign rfl rfl rfl)) ?_
    refine rg_put (d := 12) (v := .d (.fl (.int .i64 ((rel s.images id reason).2)))) rfl (og rfl (op_assign rfl rfl rfl)) ?_
    refine rg_done rfl ?_
    refine a_rseq ?_
    refine rg_put (d := 43) (v := .pt 101 1) rfl (og rfl (of_eff (s_field_pt rfl Try.underlying39 rfl ti36 rfl rfl rfl) rfl)) ?_
    refine rg_put (d := 44) (v := .d (.sl 5 (List.map eIm s.images))) rfl (og rfl (op_load_pt rfl Try.underlying36 rfl rfl rfl rfl rfl)) ?_
    refine rg_put (d := 45) (v := .d (.fl (.string id))) rfl (og rfl (op_move rfl rfl rfl)) ?_
    refine rg_put (d := 46) (v := .d (.fl (.string reason))) rfl (og rfl (op_move rfl rfl rfl)) ?_
    refine rg_put (d := 47) (v := .tu [.sl 5 (List.map eIm ((rel s.images id reason).1)), .fl (.int .i64 ((rel s.images id reason).2))]) rfl (og rfl (op_call rfl Try.func24 nm24 rfl (.cons rfl (.d _) (.cons rfl (.d _) (.cons rfl (.d _) .nil))) (ref_rel s.images id reason (by omega) (fun q h => by have := g4 q h; omega)) rfl)) ?_
    refine rg_put (d := 42) (v := .tu [.sl 5 (List.map eIm ((rel s.images id reason).1)), .fl (.int .i64 ((rel s.images id reason).2))]) rfl (og rfl (op_move rfl rfl rfl)) ?_
    refine rg_put (d := 48) (v := .d (.sl 5 (List.map eIm ((rel s.images id reason).1)))) rfl (og rfl (op_extract rfl rfl rfl rfl)) ?_
    refine rg_put (d := 49) (v := .d (.fl (.int .i64 ((rel s.images id reason).2)))) rfl (og rfl (op_extract rfl rfl rfl rfl)) ?_
    refine rg_put (d := 13) (v := .d (.sl 5 (List.map eIm ((rel s.images id reason).1)))) rfl (og rfl (op_assign rfl rfl rfl)) ?_
    refine rg_put (d := 14) (v := .d (.fl (.int .i64 ((rel s.images id reason).2)))) rfl (og rfl (op_assign rfl rfl rfl)) ?_
    refine rg_done rfl ?_
    refine a_rseq ?_
    refine rg_put (d := 50) (v := .d (.sl 5 (List.map eIm ((hld s.images id reason).1)))) rfl (og rfl (op_move rfl rfl rfl)) ?_
    refine rg_put (d := 51) (v := .d (.sl 5 (List.map eIm ((hld s.images id reason).1)))) rfl (og rfl (op_move rfl rfl rfl)) ?_
    refine rg_put (d := 52) (v := .d (.fl (.bool true))) rfl (og rfl (op_call rfl Try.func19 nm19 rfl (.cons rfl (.d _) (.cons rfl (.d _) .nil)) (same_self ((hld s.images id reason).1) (by rw [held_len]; omega) (fun q h => by have := held_hold (id := id) (r := reason) g4 q h; omega)) rfl)) ?_
    refine rg_put (d := 53) (v := .d (.fl (.bool true))) rfl (og rfl (op_move rfl rfl rfl)) ?_
    refine rg_put (d := 54) (v := .d (.fl (.int .i64 ((hld s.images id reason).2)))) rfl (oy rfl rfl rfl rfl (op_move rfl rfl rfl)) ?_
    refine rg_put (d := 55) (v := .d (.fl (.int .i64 ((hld s.images id reason).2)))) rfl (oy rfl rfl rfl rfl (op_move rfl rfl rfl)) ?_
    refine rg_put (d := 56) (v := .d (.fl (.bool (((hld s.images id reason).2 == (hld s.images id reason).2))))) rfl (oy rfl rfl rfl rfl (op_bin rfl rfl rfl (b_eql _ _ _ _) rfl)) ?_
    refine rg_put (d := 57) (v := .d (.fl (.bool (((hld s.images id reason).2 == (hld s.images id reason).2))))) rfl (og rfl (op_pick rfl rfl rfl rfl)) ?_
    refine rg_put (d := 58) (v := .d (.fl (.bool (((hld s.images id reason).2 == (hld s.images id reason).2))))) rfl (og rfl (op_move rfl rfl rfl)) ?_
    refine rg_put (d := 59) (v := .d (.sl 5 (List.map eIm ((rel s.images id reason).1)))) rfl (oy rfl rfl rfl (eq_self_b _) (op_move rfl rfl rfl)) ?_
    refine rg_put (d := 60) (v := .d (.sl 5 (List.map eIm ((rel s.images id reason).1)))) rfl (oy rfl rfl rfl (eq_self_b _) (op_move rfl rfl rfl)) ?_
    refine rg_put (d := 61) (v := .d (.fl (.bool true))) rfl (oy rfl rfl rfl (eq_self_b _) (op_call rfl Try.func19 nm19 rfl (.cons rfl (.d _) (.cons rfl (.d _) .nil)) (same_self ((rel s.images id reason).1) (by rw [rel_len]; omega) (fun q h => by have := rel_hold (id := id) (r := reason) g4 q h; omega)) rfl)) ?_
    refine rg_put (d := 62) (v := .d (.fl (.bool true))) rfl (og rfl (op_pick rfl rfl (by rw [(eq_self_b _)]; rfl) rfl)) ?_
    refine rg_put (d := 63) (v := .d (.fl (.bool true))) rfl (og rfl (op_move rfl rfl rfl)) ?_
    refine rg_put (d := 64) (v := .d (.fl (.int .i64 ((rel s.images id reason).2)))) rfl (oy rfl rfl rfl rfl (op_move rfl rfl rfl)) ?_
    refine rg_put (d := 65) (v := .d (.fl (.int .i64 ((rel s.images id reason).2)))) rfl (oy rfl rfl rfl rfl (op_move rfl rfl rfl)) ?_
    refine rg_put (d := 66) (v := .d (.fl (.bool (((rel s.images id reason).2 == (rel s.images id reason).2))))) rfl (oy rfl rfl rfl rfl (op_bin rfl rfl rfl (b_eql _ _ _ _) rfl)) ?_
    refine rg_put (d := 67) (v := .d (.fl (.bool (((rel s.images id reason).2 == (rel s.images id reason).2))))) rfl (og rfl (op_pick rfl rfl rfl rfl)) ?_
    refine rg_put (d := 68) (v := .d (.fl (.bool (((rel s.images id reason).2 == (rel s.images id reason).2))))) rfl (og rfl (op_move rfl rfl rfl)) ?_
    refine rg_put (d := 69) (v := .d (.fl (.bool true))) rfl (oy rfl rfl rfl (eq_self_b _) (op_call rfl Try.func9 nm9 rfl .nil awake_true rfl)) ?_
    refine rg_put (d := 70) (v := .d (.fl (.bool true))) rfl (og rfl (op_pick rfl rfl (by rw [(eq_self_b _)]; rfl) rfl)) ?_
    refine rg_put (d := 6) (v := .d (.fl (.bool true))) rfl (og rfl (op_assign rfl rfl rfl)) ?_
    refine rg_done rfl ?_
    refine a_ret ?_
    show ∃ ds, ResL _ _ _ ds ∧ RV.of ds = _
    refine ⟨[.fl (.bool true)], (.cons (.tmp rfl (.d _)) .nil), ?_⟩
    rfl
end Go.Proofs.Yteplcjhnmmpicaa.Wk
