/- The law of what goes. No condition. -/
import Derived.Test.YteplcjhnmmpicaaA20
set_option linter.unusedSimpArgs false
set_option linter.unusedVariables false
namespace Go.Proofs.Yteplcjhnmmpicaa.Wk
open Go Go.RowKit Go.Proofs.Yteplcjhnmmpicaa.Av
theorem kA_mem {l : List Kp} {m : List Im} {c : List Int} {t : Int} : ∀ k, k ≤ m.length → ∀ x ∈ kA l m c t k, x ∈ m
  | 0, _, x, h => by cases h
  | k + 1, hk, x, h => by
    unfold kA at h
    split at h
    · rcases List.mem_append.1 h with h | h
      · exact kA_mem k (by omega) x h
      · simp at h; rw [h]; exact ix_mem (by omega)
    · exact kA_mem k (by omega) x h
theorem hold_mem {m : List Im} {n : Nat} (hb : ∀ q, q < m.length → (ix m q).hold.length ≤ n) {x : Im} (h : x ∈ m) : x.hold.length ≤ n := by
  obtain ⟨j, hj, he⟩ := List.mem_iff_getElem.1 h
  rw [ix_eq hj] at he
  rw [← he]; exact hb j hj
theorem purge_ok {l : List Kp} {m : List Im} {c : List Int} (t : Int) {n N : Nat} (hm : m.length ≤ N) (hb : ∀ q, q < m.length → (ix m q).hold.length ≤ n) :
    (purge l m c t).1.1.length ≤ N ∧ (∀ q, q < (purge l m c t).1.1.length → (ix (purge l m c t).1.1 q).hold.length ≤ n) ∧ (purge l m c t).1.2.length ≤ N := by
  have h1 := kA_len (l := l) (m := m) (c := c) (t := t) m.length
  have h2 := kB_len (l := l) (m := m) (c := c) (t := t) m.length
  have h0 : (([] : List Im)).length ≤ N ∧ (∀ q, q < ([] : List Im).length → (ix ([] : List Im) q).hold.length ≤ n) ∧ ([] : List ByteArray).length ≤ N := ⟨by simp, fun q h => by simp at h, by simp⟩
  unfold purge
  split
  · exact h0
  · split
    · exact h0
    · split
      · exact h0
      · split
        · exact ⟨by show (kA l m c t m.length).length ≤ N; omega, fun q h => hold_mem hb (kA_mem m.length (by omega) _ (ix_mem h)), by show (kB l m c t m.length).length ≤ N; omega⟩
        · exact h0

set_option maxHeartbeats 4000000 in
set_option maxRecDepth 100000 in
theorem law4 (s : Sto) (t : Int) : Ctr Try.prog 4 [.ag (eSto s), .fl (.int .i64 t)] (.d (.fl (.bool true))) := by
  refine ctr (n := 90) (rs := #[.tmp 4]) (L := [(0, .d (.ag (eSto s))), (1, .d (.fl (.int .i64 t)))]) Try.func4 rfl rfl rfl rfl rfl (fun w0 U0 => ?_)
  refine a_rseq ?_
  refine rg_nam (d := 2) (v := .pt 101 0) (m := 101) (nw := [(101, .bx 39 (eSto s))]) rfl (og rfl (of_eff (op_box 101 rfl rfl rfl rfl) rfl)) rfl ?_
  refine rg_put (d := 4) (v := .d (.fl (.bool false))) rfl (og rfl (op_assign rfl rfl rfl)) ?_
  refine rg_done rfl ?_
  refine a_seq ?_
  refine a_rseq ?_
  refine rg_put (d := 15) (v := .d (.ag (eSto s))) rfl (og rfl (of_eff (s_load_pts rfl Try.underlying39 rfl ti39 rfl rfl rfl rfl) rfl)) ?_
  refine rg_put (d := 16) (v := .d (.fl (.bool (gre s)))) rfl (og rfl (op_call rfl Try.func14 nm14 rfl (.cons rfl (.d _) .nil) (great_is s) rfl)) ?_
  refine rg_done rfl ?_
  refine a_cond rfl (fun h1 => ?_) (fun h1 => ?_)
  · skip
    refine a_rseq ?_
    refine rg_put (d := 17) (v := .d (.fl (.bool true))) rfl (og rfl (op_call rfl Try.func9 nm9 rfl .nil awake_true rfl)) ?_
    refine rg_put (d := 4) (v := .d (.fl (.bool true))) rfl (og rfl (op_assign rfl rfl rfl)) ?_
    refine rg_done rfl ?_
    refine a_ret ?_
    show ∃ ds, ResL _ _ _ ds ∧ RV.of ds = _
    refine ⟨[.fl (.bool true)], (.cons (.tmp rfl (.d _)) .nil), ?_⟩
    rfl
  · skip
    refine a_skip ?_
    show A _ _ _ _ _ _ _
    refine a_rseq ?_
    obtain ⟨g1, g2, g3, g4⟩ := gre_f h1
    have hp := purge_ok (l := s.rules) (c := s.closed) t (n := 40) (N := 200) g2 g4
    refine rg_put (d := 19) (v := .pt 101 0) rfl (og rfl (of_eff (s_field_pt rfl Try.underlying39 rfl ti22 rfl rfl rfl) rfl)) ?_
    refine rg_put (d := 20) (v := .d (.sl 3 (List.map eKp s.rules))) rfl (og rfl (op_load_pt rfl Try.underlying22 rfl rfl rfl rfl rfl)) ?_
    refine rg_put (d := 21) (v := .pt 101 1) rfl (og rfl (of_eff (s_field_pt rfl Try.underlying39 rfl ti36 rfl rfl rfl) rfl)) ?_
    refine rg_put (d := 22) (v := .d (.sl 5 (List.map eIm s.images))) rfl (og rfl (op_load_pt rfl Try.underlying36 rfl rfl rfl rfl rfl)) ?_
    refine rg_put (d := 23) (v := .pt 101 2) rfl (og rfl (of_eff (s_field_pt rfl Try.underlying39 rfl ti37 rfl rfl rfl) rfl)) ?_
    refine rg_put (d := 24) (v := .d (.sl 1 (List.map (rI .i64) s.closed))) rfl (og rfl (op_load_pt rfl Try.underlying37 rfl rfl rfl rfl rfl)) ?_
    refine rg_put (d := 25) (v := .d (.fl (.int .i64 t))) rfl (og rfl (op_move rfl rfl rfl)) ?_
    refine rg_put (d := 26) (v := .tu [.sl 5 (List.map eIm ((purge s.rules s.images s.closed t).1.1)), .sl 1 (List.map rS ((purge s.rules s.images s.closed t).1.2)), .fl (.int .i64 ((purge s.rules s.images s.closed t).2))]) rfl (og rfl (op_call rfl Try.func15 nm15 rfl (.cons rfl (.d _) (.cons rfl (.d _) (.cons rfl (.d _) (.cons rfl (.d _) .nil)))) (ret_purge s.rules s.images s.closed t (by omega) (fun q h => by have := g4 q h; omega)) rfl)) ?_
    refine rg_put (d := 18) (v := .tu [.sl 5 (List.map eIm ((purge s.rules s.images s.closed t).1.1)), .sl 1 (List.map rS ((purge s.rules s.images s.closed t).1.2)), .fl (.int .i64 ((purge s.rules s.images s.closed t).2))]) rfl (og rfl (op_move rfl rfl rfl)) ?_
    refine rg_put (d := 27) (v := .d (.sl 5 (List.map eIm ((purge s.rules s.images s.closed t).1.1)))) rfl (og rfl (op_extract rfl rfl rfl rfl)) ?_
    refine rg_put (d := 28) (v := .d (.sl 1 (List.map rS ((purge s.rules s.images s.closed t).1.2)))) rfl (og rfl (op_extract rfl rfl rfl rfl)) ?_
    refine rg_put (d := 29) (v := .d (.fl (.int .i64 ((purge s.rules s.images s.closed t).2)))) rfl (og rfl (op_extract rfl rfl rfl rfl)) ?_
    refine rg_put (d := 5) (v := .d (.sl 5 (List.map eIm ((purge s.rules s.images s.closed t).1.1)))) rfl (og rfl (op_assign rfl rfl rfl)) ?_
    refine rg_put (d := 6) (v := .d (.sl 1 (List.map rS ((purge s.rules s.images s.closed t).1.2)))) rfl (og rfl (op_assign rfl rfl rfl)) ?_
    refine rg_put (d := 7) (v := .d (.fl (.int .i64 ((purge s.rules s.images s.closed t).2)))) rfl (og rfl (op_assign rfl rfl rfl)) ?_
    refine rg_done rfl ?_
    refine a_rseq ?_
    refine rg_put (d := 31) (v := .pt 101 0) rfl (og rfl (of_eff (s_field_pt rfl Try.underlying39 rfl ti22 rfl rfl rfl) rfl)) ?_
    refine rg_put (d := 32) (v := .d (.sl 3 (List.map eKp s.rules))) rfl (og rfl (op_load_pt rfl Try.underlying22 rfl rfl rfl rfl rfl)) ?_
    refine rg_put (d := 33) (v := .pt 101 1) rfl (og rfl (of_eff (s_field_pt rfl Try.underlying39 rfl ti36 rfl rfl rfl) rfl)) ?_
    refine rg_put (d := 34) (v := .d (.sl 5 (List.map eIm s.images))) rfl (og rfl (op_load_pt rfl Try.underlying36 rfl rfl rfl rfl rfl)) ?_
    refine rg_put (d := 35) (v := .pt 101 2) rfl (og rfl (of_eff (s_field_pt rfl Try.underlying39 rfl ti37 rfl rfl rfl) rfl)) ?_
    refine rg_put (d := 36) (v := .d (.sl 1 (List.map (rI .i64) s.closed))) rfl (og rfl (op_load_pt rfl Try.underlying37 rfl rfl rfl rfl rfl)) ?_
    refine rg_put (d := 37) (v := .d (.fl (.int .i64 t))) rfl (og rfl (op_move rfl rfl rfl)) ?_
    refine rg_put (d := 38) (v := .tu [.sl 5 (List.map eIm ((purge s.rules s.images s.closed t).1.1)), .sl 1 (List.map rS ((purge s.rules s.images s.closed t).1.2)), .fl (.int .i64 ((purge s.rules s.images s.closed t).2))]) rfl (og rfl (op_call rfl Try.func16 nm16 rfl (.cons rfl (.d _) (.cons rfl (.d _) (.cons rfl (.d _) (.cons rfl (.d _) .nil)))) (ref_purge s.rules s.images s.closed t (by omega) (fun q h => by have := g4 q h; omega)) rfl)) ?_
    refine rg_put (d := 30) (v := .tu [.sl 5 (List.map eIm ((purge s.rules s.images s.closed t).1.1)), .sl 1 (List.map rS ((purge s.rules s.images s.closed t).1.2)), .fl (.int .i64 ((purge s.rules s.images s.closed t).2))]) rfl (og rfl (op_move rfl rfl rfl)) ?_
    refine rg_put (d := 39) (v := .d (.sl 5 (List.map eIm ((purge s.rules s.images s.closed t).1.1)))) rfl (og rfl (op_extract rfl rfl rfl rfl)) ?_
    refine rg_put (d := 40) (v := .d (.sl 1 (List.map rS ((purge s.rules s.images s.closed t).1.2)))) rfl (og rfl (op_extract rfl rfl rfl rfl)) ?_
    refine rg_put (d := 41) (v := .d (.fl (.int .i64 ((purge s.rules s.images s.closed t).2)))) rfl (og rfl (op_extract rfl rfl rfl rfl)) ?_
    refine rg_put (d := 8) (v := .d (.sl 5 (List.map eIm ((purge s.rules s.images s.closed t).1.1)))) rfl (og rfl (op_assign rfl rfl rfl)) ?_
    refine rg_put (d := 9) (v := .d (.sl 1 (List.map rS ((purge s.rules s.images s.closed t).1.2)))) rfl (og rfl (op_assign rfl rfl rfl)) ?_
    refine rg_put (d := 10) (v := .d (.fl (.int .i64 ((purge s.rules s.images s.closed t).2)))) rfl (og rfl (op_assign rfl rfl rfl)) ?_
    refine rg_done rfl ?_
    refine a_rseq ?_
    refine rg_put (d := 43) (v := .pt 101 0) rfl (og rfl (of_eff (s_field_pt rfl Try.underlying39 rfl ti22 rfl rfl rfl) rfl)) ?_
    refine rg_put (d := 44) (v := .d (.sl 3 (List.map eKp s.rules))) rfl (og rfl (op_load_pt rfl Try.underlying22 rfl rfl rfl rfl rfl)) ?_
    refine rg_put (d := 45) (v := .pt 101 1) rfl (og rfl (of_eff (s_field_pt rfl Try.underlying39 rfl ti36 rfl rfl rfl) rfl)) ?_
    refine rg_put (d := 46) (v := .d (.sl 5 (List.map eIm s.images))) rfl (og rfl (op_load_pt rfl Try.underlying36 rfl rfl rfl rfl rfl)) ?_
    refine rg_put (d := 47) (v := .pt 101 2) rfl (og rfl (of_eff (s_field_pt rfl Try.underlying39 rfl ti37 rfl rfl rfl) rfl)) ?_
    refine rg_put (d := 48) (v := .d (.sl 1 (List.map (rI .i64) s.closed))) rfl (og rfl (op_load_pt rfl Try.underlying37 rfl rfl rfl rfl rfl)) ?_
    refine rg_put (d := 49) (v := .d (.fl (.int .i64 t))) rfl (og rfl (op_move rfl rfl rfl)) ?_
    refine rg_put (d := 50) (v := .tu [.fl (.int .i64 ((nxt s.rules s.images s.closed t).1)), .fl (.bool ((nxt s.rules s.images s.closed t).2))]) rfl (og rfl (op_call rfl Try.func17 nm17 rfl (.cons rfl (.d _) (.cons rfl (.d _) (.cons rfl (.d _) (.cons rfl (.d _) .nil)))) (ret_next s.rules s.images s.closed t (by omega)) rfl)) ?_
    refine rg_put (d := 42) (v := .tu [.fl (.int .i64 ((nxt s.rules s.images s.closed t).1)), .fl (.bool ((nxt s.rules s.images s.closed t).2))]) rfl (og rfl (op_move rfl rfl rfl)) ?_
    refine rg_put (d := 51) (v := .d (.fl (.int .i64 ((nxt s.rules s.images s.closed t).1)))) rfl (og rfl (op_extract rfl rfl rfl rfl)) ?_
    refine rg_put (d := 52) (v := .d (.fl (.bool ((nxt s.rules s.images s.closed t).2)))) rfl (og rfl (op_extract rfl rfl rfl rfl)) ?_
    refine rg_put (d := 11) (v := .d (.fl (.int .i64 ((nxt s.rules s.images s.closed t).1)))) rfl (og rfl (op_assign rfl rfl rfl)) ?_
    refine rg_put (d := 12) (v := .d (.fl (.bool ((nxt s.rules s.images s.closed t).2)))) rfl (og rfl (op_assign rfl rfl rfl)) ?_
    refine rg_done rfl ?_
    refine a_rseq ?_
    refine rg_put (d := 54) (v := .pt 101 0) rfl (og rfl (of_eff (s_field_pt rfl Try.underlying39 rfl ti22 rfl rfl rfl) rfl)) ?_
    refine rg_put (d := 55) (v := .d (.sl 3 (List.map eKp s.rules))) rfl (og rfl (op_load_pt rfl Try.underlying22 rfl rfl rfl rfl rfl)) ?_
    refine rg_put (d := 56) (v := .pt 101 1) rfl (og rfl (of_eff (s_field_pt rfl Try.underlying39 rfl ti36 rfl rfl rfl) rfl)) ?_
    refine rg_put (d := 57) (v := .d (.sl 5 (List.map eIm s.images))) rfl (og rfl (op_load_pt rfl Try.underlying36 rfl rfl rfl rfl rfl)) ?_
    refine rg_put (d := 58) (v := .pt 101 2) rfl (og rfl (of_eff (s_field_pt rfl Try.underlying39 rfl ti37 rfl rfl rfl) rfl)) ?_
    refine rg_put (d := 59) (v := .d (.sl 1 (List.map (rI .i64) s.closed))) rfl (og rfl (op_load_pt rfl Try.underlying37 rfl rfl rfl rfl rfl)) ?_
    refine rg_put (d := 60) (v := .d (.fl (.int .i64 t))) rfl (og rfl (op_move rfl rfl rfl)) ?_
    refine rg_put (d := 61) (v := .tu [.fl (.int .i64 ((nxt s.rules s.images s.closed t).1)), .fl (.bool ((nxt s.rules s.images s.closed t).2))]) rfl (og rfl (op_call rfl Try.func18 nm18 rfl (.cons rfl (.d _) (.cons rfl (.d _) (.cons rfl (.d _) (.cons rfl (.d _) .nil)))) (ref_next s.rules s.images s.closed t (by omega)) rfl)) ?_
    refine rg_put (d := 53) (v := .tu [.fl (.int .i64 ((nxt s.rules s.images s.closed t).1)), .fl (.bool ((nxt s.rules s.images s.closed t).2))]) rfl (og rfl (op_move rfl rfl rfl)) ?_
    refine rg_put (d := 62) (v := .d (.fl (.int .i64 ((nxt s.rules s.images s.closed t).1)))) rfl (og rfl (op_extract rfl rfl rfl rfl)) ?_
    refine rg_put (d := 63) (v := .d (.fl (.bool ((nxt s.rules s.images s.closed t).2)))) rfl (og rfl (op_extract rfl rfl rfl rfl)) ?_
    refine rg_put (d := 13) (v := .d (.fl (.int .i64 ((nxt s.rules s.images s.closed t).1)))) rfl (og rfl (op_assign rfl rfl rfl)) ?_
    refine rg_put (d := 14) (v := .d (.fl (.bool ((nxt s.rules s.images s.closed t).2)))) rfl (og rfl (op_assign rfl rfl rfl)) ?_
    refine rg_done rfl ?_
    refine a_rseq ?_
    refine rg_put (d := 64) (v := .d (.sl 5 (List.map eIm ((purge s.rules s.images s.closed t).1.1)))) rfl (og rfl (op_move rfl rfl rfl)) ?_
    refine rg_put (d := 65) (v := .d (.sl 5 (List.map eIm ((purge s.rules s.images s.closed t).1.1)))) rfl (og rfl (op_move rfl rfl rfl)) ?_
    refine rg_put (d := 66) (v := .d (.fl (.bool true))) rfl (og rfl (op_call rfl Try.func19 nm19 rfl (.cons rfl (.d _) (.cons rfl (.d _) .nil)) (same_self ((purge s.rules s.images s.closed t).1.1) (by omega) (fun q h => by have := hp.2.1 q h; omega)) rfl)) ?_
    refine rg_put (d := 67) (v := .d (.fl (.bool true))) rfl (og rfl (op_move rfl rfl rfl)) ?_
    refine rg_put (d := 68) (v := .d (.sl 1 (List.map rS ((purge s.rules s.images s.closed t).1.2)))) rfl (oy rfl rfl rfl rfl (op_move rfl rfl rfl)) ?_
    refine rg_put (d := 69) (v := .d (.sl 1 (List.map rS ((purge s.rules s.images s.closed t).1.2)))) rfl (oy rfl rfl rfl rfl (op_move rfl rfl rfl)) ?_
    refine rg_put (d := 70) (v := .d (.fl (.bool true))) rfl (oy rfl rfl rfl rfl (op_call rfl Try.func20 nm20 rfl (.cons rfl (.d _) (.cons rfl (.d _) .nil)) (texts_self ((purge s.rules s.images s.closed t).1.2) (by omega)) rfl)) ?_
    refine rg_put (d := 71) (v := .d (.fl (.bool true))) rfl (og rfl (op_pick rfl rfl rfl rfl)) ?_
    refine rg_put (d := 72) (v := .d (.fl (.bool true))) rfl (og rfl (op_move rfl rfl rfl)) ?_
    refine rg_put (d := 73) (v := .d (.fl (.int .i64 ((purge s.rules s.images s.closed t).2)))) rfl (oy rfl rfl rfl rfl (op_move rfl rfl rfl)) ?_
    refine rg_put (d := 74) (v := .d (.fl (.int .i64 ((purge s.rules s.images s.closed t).2)))) rfl (oy rfl rfl rfl rfl (op_move rfl rfl rfl)) ?_
    refine rg_put (d := 75) (v := .d (.fl (.bool (((purge s.rules s.images s.closed t).2 == (purge s.rules s.images s.closed t).2))))) rfl (oy rfl rfl rfl rfl (op_bin rfl rfl rfl (b_eql _ _ _ _) rfl)) ?_
    refine rg_put (d := 76) (v := .d (.fl (.bool (((purge s.rules s.images s.closed t).2 == (purge s.rules s.images s.closed t).2))))) rfl (og rfl (op_pick rfl rfl rfl rfl)) ?_
    refine rg_put (d := 77) (v := .d (.fl (.bool (((purge s.rules s.images s.closed t).2 == (purge s.rules s.images s.closed t).2))))) rfl (og rfl (op_move rfl rfl rfl)) ?_
    refine rg_put (d := 78) (v := .d (.fl (.int .i64 ((nxt s.rules s.images s.closed t).1)))) rfl (oy rfl rfl rfl (eq_self_b _) (op_move rfl rfl rfl)) ?_
    refine rg_put (d := 79) (v := .d (.fl (.int .i64 ((nxt s.rules s.images s.closed t).1)))) rfl (oy rfl rfl rfl (eq_self_b _) (op_move rfl rfl rfl)) ?_
    refine rg_put (d := 80) (v := .d (.fl (.bool (((nxt s.rules s.images s.closed t).1 == (nxt s.rules s.images s.closed t).1))))) rfl (oy rfl rfl rfl (eq_self_b _) (op_bin rfl rfl rfl (b_eql _ _ _ _) rfl)) ?_
    refine rg_put (d := 81) (v := .d (.fl (.bool (((nxt s.rules s.images s.closed t).1 == (nxt s.rules s.images s.closed t).1))))) rfl (og rfl (op_pick rfl rfl (by rw [(eq_self_b _)]; rfl) rfl)) ?_
    refine rg_put (d := 82) (v := .d (.fl (.bool (((nxt s.rules s.images s.closed t).1 == (nxt s.rules s.images s.closed t).1))))) rfl (og rfl (op_move rfl rfl rfl)) ?_
    refine rg_put (d := 83) (v := .d (.fl (.bool ((nxt s.rules s.images s.closed t).2)))) rfl (oy rfl rfl rfl (eq_self_b _) (op_move rfl rfl rfl)) ?_
    refine rg_put (d := 84) (v := .d (.fl (.bool ((nxt s.rules s.images s.closed t).2)))) rfl (oy rfl rfl rfl (eq_self_b _) (op_move rfl rfl rfl)) ?_
    refine rg_put (d := 85) (v := .d (.fl (.bool (((nxt s.rules s.images s.closed t).2 == (nxt s.rules s.images s.closed t).2))))) rfl (oy rfl rfl rfl (eq_self_b _) (op_bin rfl rfl rfl (fun x y w => b_beq _ _ _ x y w Try.underlying4) rfl)) ?_
    refine rg_put (d := 86) (v := .d (.fl (.bool (((nxt s.rules s.images s.closed t).2 == (nxt s.rules s.images s.closed t).2))))) rfl (og rfl (op_pick rfl rfl (by rw [(eq_self_b _)]; rfl) rfl)) ?_
    refine rg_put (d := 87) (v := .d (.fl (.bool (((nxt s.rules s.images s.closed t).2 == (nxt s.rules s.images s.closed t).2))))) rfl (og rfl (op_move rfl rfl rfl)) ?_
    refine rg_put (d := 88) (v := .d (.fl (.bool true))) rfl (oy rfl rfl rfl (eq_self_bb _) (op_call rfl Try.func9 nm9 rfl .nil awake_true rfl)) ?_
    refine rg_put (d := 89) (v := .d (.fl (.bool true))) rfl (og rfl (op_pick rfl rfl (by rw [(eq_self_bb _)]; rfl) rfl)) ?_
    refine rg_put (d := 4) (v := .d (.fl (.bool true))) rfl (og rfl (op_assign rfl rfl rfl)) ?_
    refine rg_done rfl ?_
    refine a_ret ?_
    show ∃ ds, ResL _ _ _ ds ∧ RV.of ds = _
    refine ⟨[.fl (.bool true)], (.cons (.tmp rfl (.d _)) .nil), ?_⟩
    rfl
end Go.Proofs.Yteplcjhnmmpicaa.Wk
