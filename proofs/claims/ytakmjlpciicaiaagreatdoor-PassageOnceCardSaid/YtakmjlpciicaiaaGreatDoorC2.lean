/- The sort of the reference, and the law of sorting. No condition. -/
import Derived.Test.YtakmjlpciicaiaaGreatDoorAl
import Derived.Test.YtakmjlpciicaiaaGreatDoorB2
set_option linter.unusedSimpArgs false
set_option linter.unusedVariables false
namespace Go.Proofs.YtakmjlpciicaiaaGreatDoor.Wk
open Go Go.RowKit Go.Proofs.YtakmjlpciicaiaaGreatDoor.Av
theorem srt_0 : srt [] = [] := List.length_eq_zero_iff.1 (by rw [srt_len]; rfl)
theorem ins_srt {l : List Psg} {k j : Nat} (hk : k < l.length) (hj : j ≤ (srt (l.take k)).length) (hq : ∀ q, q < j → cp (ix (srt (l.take k)) q) (ix l k) ≤ 0)
    (hn : j < (srt (l.take k)).length → ¬ cp (ix (srt (l.take k)) j) (ix l k) ≤ 0) : ((((srt (l.take k)).drop 0).take (j - 0)) ++ [ix l k]) ++ ((srt (l.take k)).drop j) = srt (l.take (k + 1)) := by
  have hp : (srt (l.take k)).Perm (l.take k) := srt_perm _
  have hs := srt_pw (l.take k)
  generalize srt (l.take k) = u at *
  rw [List.drop_zero, Nat.sub_zero]
  refine srt_eq ?_ ?_
  · rw [take_ix hk]
    refine List.Perm.trans ?_ (List.Perm.append_right _ hp)
    refine List.Perm.trans (List.Perm.append_right _ (List.perm_append_comm)) ?_
    rw [List.append_assoc, List.take_append_drop]
    exact List.perm_append_comm
  · have hg : ∀ q, j ≤ q → q < u.length → cp (ix l k) (ix u q) ≤ 0 := by
      intro q h1 h2
      have hj2 : j < u.length := by omega
      have h3 : cp (ix l k) (ix u j) ≤ 0 := by have := hn hj2; have := cp_neg (ix l k) (ix u j); omega
      by_cases e : j = q
      · subst e; exact h3
      · have := List.pairwise_iff_getElem.1 hs j q hj2 h2 (by omega)
        rw [ix_eq hj2, ix_eq h2] at this
        exact (cp_tq _ _ _ h3 this).1
    rw [List.pairwise_append, List.pairwise_append]
    refine ⟨⟨hs.sublist (List.take_sublist _ _), List.pairwise_singleton _ _, fun a ha b hb => ?_⟩, hs.sublist (List.drop_sublist _ _), fun a ha b hb => ?_⟩
    · rw [List.mem_singleton] at hb
      subst hb
      obtain ⟨q, hq1, rfl⟩ := List.getElem_of_mem ha
      rw [List.length_take] at hq1
      rw [List.getElem_take, ix_eq (by omega)]
      exact hq q (by omega)
    · obtain ⟨q, hq1, rfl⟩ := List.getElem_of_mem hb
      rw [List.length_drop] at hq1
      rw [List.getElem_drop, ix_eq (by omega)]
      rcases List.mem_append.1 ha with ha | ha
      · obtain ⟨q', hq2, rfl⟩ := List.getElem_of_mem ha
        rw [List.length_take] at hq2
        rw [List.getElem_take]
        have := List.pairwise_iff_getElem.1 hs q' (j + q) (by omega) (by omega) (by omega)
        rw [ix_eq (i := j + q) (by omega)] at this
        exact this
      · rw [List.mem_singleton] at ha
        subst ha
        exact hg (j + q) (by omega) (by omega)

set_option maxHeartbeats 4000000 in
set_option maxRecDepth 100000 in
theorem sortR (l : List Psg) (hl : l.length ≤ 1000) (hz : ∀ x ∈ l, szP x) : Ctr Tryz.prog 22 [.sl 8 (List.map ePsg l)] (.d (.sl 8 (List.map ePsg (srt l)))) := by
  refine ctr (n := 49) (rs := #[.tmp 2]) (L := [(0, .d (.sl 8 (List.map ePsg l)))]) Tryz.func22 rfl rfl rfl rfl rfl (fun w0 U0 => ?_)
  refine a_rseq ?_
  refine rg_put (d := 2) (v := .d (.fl (.slice none 0 0))) rfl (og rfl (op_assign rfl rfl rfl)) ?_
  refine rg_done rfl ?_
  refine a_rseq ?_
  refine rg_put (d := 3) (v := .d (.fl (.slice none 0 0))) rfl (og rfl (op_assign rfl rfl rfl)) ?_
  refine rg_done rfl ?_
  refine a_seq ?_
  refine a_rseq ?_
  refine rg_imp (imp_nilT 3 101 24 8 rfl rfl) ?_
  refine rg_imp (imp_leakT 3 101 (f := ePsg) (l := []) rfl rfl) ?_
  refine rg_put (d := 4) (v := .d (.fl (.int .i64 0))) rfl (og rfl (op_assign rfl rfl rfl)) ?_
  refine rg_done rfl ?_
  refine a_block ?_
  refine a_loop (ι := Nat) (fun k => SS [(0, .d (.sl 8 (List.map ePsg l))), (2, .d (.fl (.slice none 0 0))), (4, .d (.fl (.int .i64 (k : Int)))), (3, .d (.sl 8 (List.map ePsg ((srt (l.take k))))))] []) (fun k => k ≤ l.length) (fun k => l.length - k) 0 (by omega) (imp_forget rfl ⟨rfl, rfl, (by first | rfl | exact ci (by omega) | exact ci (by simp) | exact cd (by simp) | simp), (cd (by rw [List.take_zero, srt_0])), trivial⟩ trivial) (fun k hok => ?_)
  have hk := hok
  have hsu : ∀ x ∈ srt (l.take k), szP x := fun x hx => hz x (List.mem_of_mem_take ((srt_perm _).subset hx))
  have hlu : (srt (l.take k)).length = k := by rw [srt_len, List.length_take]; omega
  refine a_seq ?_
  refine a_rseq ?_
  refine rg_put (d := 7) (v := .d (.fl (.int .i64 (k : Int)))) rfl (og rfl (op_move rfl rfl rfl)) ?_
  refine rg_put (d := 8) (v := .d (.sl 8 (List.map ePsg l))) rfl (og rfl (op_move rfl rfl rfl)) ?_
  refine rg_put (d := 9) (v := .d (.fl (.int .i64 (l.length : Int)))) rfl (og rfl (s_len rfl Tryz.underlying38 rfl rfl)) ?_
  refine rg_put (d := 10) (v := .d (.fl (.bool ((decide ((k : Int) < (l.length : Int))))))) rfl (og rfl (op_bin rfl rfl rfl (b_lss _ _ _ _) rfl)) ?_
  refine rg_done rfl ?_
  refine a_cond rfl (fun h1 => ?_) (fun h1 => ?_)
  · skip
    have h2 := t_dec h1
    refine a_skip ?_
    show A _ _ _ _ _ _ _
    refine a_seq ?_
    refine a_block ?_
    refine a_rseq ?_
    refine rg_put (d := 5) (v := .d (.fl (.int .i64 0))) rfl (og rfl (op_assign rfl rfl rfl)) ?_
    refine rg_done rfl ?_
    refine a_seq ?_
    refine a_block ?_
    refine a_loop (ι := Nat) (fun j => SS [(0, .d (.sl 8 (List.map ePsg l))), (2, .d (.fl (.slice none 0 0))), (3, .d (.sl 8 (List.map ePsg ((srt (l.take k)))))), (4, .d (.fl (.int .i64 (k : Int)))), (10, .d (.fl (.bool ((decide ((k : Int) < (l.length : Int))))))), (5, .d (.fl (.int .i64 (j : Int))))] []) (fun j => j ≤ (srt (l.take k)).length ∧ ∀ q, q < j → cp (ix (srt (l.take k)) q) (ix l k) ≤ 0) (fun j => (srt (l.take k)).length - j) 0 (⟨by omega, fun q h => absurd h (by omega)⟩) (imp_forget rfl ⟨rfl, rfl, rfl, rfl, rfl, (by first | rfl | exact ci (by omega) | exact ci (by simp) | exact cd (by simp) | simp), trivial⟩ trivial) (fun j hok => ?_)
    obtain ⟨hj, hq⟩ := hok
    refine a_seq ?_
    refine a_dseq (by kernel_rfl) ?_
    refine dr_put (d := 13) (v := .d (.fl (.int .i64 (j : Int)))) rfl (og rfl (op_move rfl rfl rfl)) ?_
    refine dr_put (d := 14) (v := .d (.sl 8 (List.map ePsg ((srt (l.take k)))))) rfl (og rfl (op_move rfl rfl rfl)) ?_
    refine dr_put (d := 15) (v := .d (.fl (.int .i64 ((((srt (l.take k))).length : Int))))) rfl (og rfl (s_len rfl Tryz.underlying38 rfl rfl)) ?_
    refine dr_put (d := 16) (v := .d (.fl (.bool ((decide ((j : Int) < (((srt (l.take k))).length : Int))))))) rfl (og rfl (op_bin rfl rfl rfl (b_lss _ _ _ _) rfl)) ?_
    refine dr_put (d := 17) (v := .d (.fl (.bool ((decide ((j : Int) < (((srt (l.take k))).length : Int))))))) rfl (og rfl (op_move rfl rfl rfl)) ?_
    rcases fot ((decide ((j : Int) < (((srt (l.take k))).length : Int)))) with h3 | h3
    · skip
      have h4 := f_dec h3
      refine dr_put (d := 18) (v := .d (.fl undef)) rfl (on rfl rfl rfl h3) ?_
      refine dr_put (d := 19) (v := .d (.fl undef)) rfl (on rfl rfl rfl h3) ?_
      refine dr_put (d := 20) (v := .d (.fl undef)) rfl (on rfl rfl rfl h3) ?_
      refine dr_put (d := 21) (v := .d (.fl undef)) rfl (on rfl rfl rfl h3) ?_
      refine dr_put (d := 22) (v := .d (.fl undef)) rfl (on rfl rfl rfl h3) ?_
      refine dr_put (d := 23) (v := .d (.fl undef)) rfl (on rfl rfl rfl h3) ?_
      refine dr_put (d := 24) (v := .d (.fl undef)) rfl (on rfl rfl rfl h3) ?_
      refine dr_put (d := 25) (v := .d (.fl undef)) rfl (on rfl rfl rfl h3) ?_
      refine dr_put (d := 26) (v := .d (.fl undef)) rfl (on rfl rfl rfl h3) ?_
      refine dr_put (d := 27) (v := .d (.fl undef)) rfl (on rfl rfl rfl h3) ?_
      refine dr_put (d := 28) (v := .d (.fl (.bool false))) rfl (og rfl (op_pick rfl rfl (by rw [h3]; rfl) rfl)) ?_
      refine dr_done rfl (sepB_of [0, 0, 2, 7, 15, 31, 31, 127, 255, 31, 31, 1567, 3615, 8191, 16383, 32767] (by kernel_rfl)) (by kernel_rfl) ?_
      refine a_condF rfl rfl ?_
      refine a_exit ?_
      show A _ _ _ _ _ _ _
      refine a_rseq ?_
      refine rg_put (d := 6) (v := .d (.fl (.slice none 0 0))) rfl (og rfl (op_assign rfl rfl rfl)) ?_
      refine rg_done rfl ?_
      refine a_rseq ?_
      refine rg_put (d := 31) (v := .d (.fl (.slice none 0 0))) rfl (og rfl (op_move rfl rfl rfl)) ?_
      refine rg_put (d := 32) (v := .d (.sl 8 (List.map ePsg ((srt (l.take k)))))) rfl (og rfl (op_move rfl rfl rfl)) ?_
      refine rg_put (d := 33) (v := .d (.fl (.int .i64 (j : Int)))) rfl (og rfl (op_move rfl rfl rfl)) ?_
      refine rg_put (d := 34) (v := .d (.sl 8 (List.map ePsg (((((srt (l.take k))).drop 0).take (j - 0)))))) rfl (og rfl (s_slice rfl Tryz.underlying38 ti24 rfl (.no _) (.so (n := j) _ rfl (by omega)) (by omega) (by omega) rfl)) ?_
      refine rg_nam (d := 35) (v := .ow 102) (m := 102) (nw := [(102, .tr 24 8 (tD ePsg (((((srt (l.take k))).drop 0).take (j - 0)))))]) rfl (og rfl (of_eff (s_append_nilT 102 rfl Tryz.underlying38 ti24 rfl rfl rfl rfl (.d _) (by simp only [List.length_append, List.length_cons, List.length_nil, List.length_take, List.length_drop]; omega) rfl) rfl)) rfl ?_
      refine rg_put (d := 6) (v := .ow 102) rfl (og rfl (op_assign rfl rfl rfl)) ?_
      refine rg_done rfl ?_
      refine a_rseq ?_
      refine rg_put (d := 36) (v := .ow 102) rfl (og rfl (op_move rfl rfl rfl)) ?_
      refine rg_put (d := 37) (v := .d (.sl 8 (List.map ePsg l))) rfl (og rfl (op_move rfl rfl rfl)) ?_
      refine rg_put (d := 38) (v := .d (.fl (.int .i64 (k : Int)))) rfl (og rfl (op_move rfl rfl rfl)) ?_
      refine rg_put (d := 39) (v := .el ((ePsg (ix l k)))) rfl (og rfl (s_index rfl Tryz.underlying38 ti24 rfl rfl (by omega) (row_at (by omega)) rfl)) ?_
      refine rg_put (d := 40) (v := .d (.ag (ePsg (ix l k)))) rfl (og rfl (of_eff (s_load_els rfl Tryz.underlying24 rfl ti24 rfl rfl rfl) rfl)) ?_
      refine rg_put (d := 41) (v := .d (.sl 8 (List.map ePsg [(ix l k)]))) rfl (og rfl (of_eff (op_slices rfl Tryz.underlying38 ti24 rfl rfl rfl (by kernel_rfl) (xs := [.ag (ePsg (ix l k))]) rfl rfl (.cons rfl rfl (.d _) rfl rfl rfl .nil) rfl) rfl)) ?_
      refine rg_nam (d := 42) (v := .ow 103) (m := 103) (nw := [(103, .tr 24 8 (tD ePsg ((((((srt (l.take k))).drop 0).take (j - 0)) ++ [(ix l k)])))), (102, .no)]) rfl (og rfl (of_eff (s_append_td 103 rfl Tryz.underlying38 ti24 rfl rfl rfl rfl rfl (.d _) (by simp only [List.length_append, List.length_cons, List.length_nil, List.length_take, List.length_drop]; omega) rfl) rfl)) rfl ?_
      refine rg_put (d := 6) (v := .ow 103) rfl (og rfl (op_assign rfl rfl rfl)) ?_
      refine rg_done rfl ?_
      refine a_region ?_
      refine rg_put (d := 43) (v := .ow 103) rfl (og rfl (op_move rfl rfl rfl)) ?_
      refine rg_put (d := 44) (v := .d (.sl 8 (List.map ePsg ((srt (l.take k)))))) rfl (og rfl (op_move rfl rfl rfl)) ?_
      refine rg_put (d := 45) (v := .d (.fl (.int .i64 (j : Int)))) rfl (og rfl (op_move rfl rfl rfl)) ?_
      refine rg_put (d := 46) (v := .d (.sl 8 (List.map ePsg ((((srt (l.take k))).drop j))))) rfl (og rfl (s_sliceTail rfl Tryz.underlying38 ti24 rfl (.so (n := j) _ rfl (by omega)) (by omega) rfl)) ?_
      refine rg_nam (d := 47) (v := .ow 104) (m := 104) (nw := [(104, .tr 24 8 (tD ePsg (((((((srt (l.take k))).drop 0).take (j - 0)) ++ [(ix l k)]) ++ (((srt (l.take k))).drop j))))), (103, .no)]) rfl (og rfl (of_eff (s_append_td 104 rfl Tryz.underlying38 ti24 rfl rfl rfl rfl rfl (.d _) (by simp only [List.length_append, List.length_cons, List.length_nil, List.length_take, List.length_drop]; omega) rfl) rfl)) rfl ?_
      refine rg_put (d := 3) (v := .ow 104) rfl (og rfl (op_assign rfl rfl rfl)) ?_
      refine rg_done rfl ?_
      show A _ _ _ _ _ _ _
      refine a_region ?_
      rw [show ((((((srt (l.take k))).drop 0).take (j - 0)) ++ [(ix l k)]) ++ (((srt (l.take k))).drop j)) = (srt (l.take (k + 1))) from ins_srt (by omega) hj hq (fun h => absurd h (by omega))]
      refine rg_imp (imp_leakT 3 104 rfl rfl) ?_
      refine rg_put (d := 11) (v := .d (.fl (.int .i64 (k : Int)))) rfl (og rfl (op_move rfl rfl rfl)) ?_
      refine rg_put (d := 12) (v := .d (.fl (.int .i64 (((k : Int) + 1))))) rfl (og rfl (op_bin rfl rfl rfl (fun x y w => b_add64 _ _ _ x y w (by omega)) rfl)) ?_
      refine rg_put (d := 4) (v := .d (.fl (.int .i64 (((k : Int) + 1))))) rfl (og rfl (op_assign rfl rfl rfl)) ?_
      refine rg_done rfl ?_
      show ∃ i, _ ∧ _ ∧ Imp _ _ _ _ _
      refine ⟨k + 1, (by omega), by omega, imp_forget rfl ⟨rfl, rfl, (ci (by omega)), rfl, trivial⟩ trivial⟩
    · skip
      have h5 := t_dec h3
      refine dr_put (d := 18) (v := .d (.sl 8 (List.map ePsg ((srt (l.take k)))))) rfl (oy rfl rfl rfl h3 (op_move rfl rfl rfl)) ?_
      refine dr_put (d := 19) (v := .d (.fl (.int .i64 (j : Int)))) rfl (oy rfl rfl rfl h3 (op_move rfl rfl rfl)) ?_
      refine dr_put (d := 20) (v := .el ((ePsg ((ix ((srt (l.take k))) j))))) rfl (oy rfl rfl rfl h3 (s_index rfl Tryz.underlying38 ti24 rfl rfl (by omega) (row_at (by omega)) rfl)) ?_
      refine dr_put (d := 21) (v := .d (.ag (ePsg (((ix ((srt (l.take k))) j)))))) rfl (oy rfl rfl rfl h3 (of_eff (s_load_els rfl Tryz.underlying24 rfl ti24 rfl rfl rfl) rfl)) ?_
      refine dr_put (d := 22) (v := .d (.sl 8 (List.map ePsg l))) rfl (oy rfl rfl rfl h3 (op_move rfl rfl rfl)) ?_
      refine dr_put (d := 23) (v := .d (.fl (.int .i64 (k : Int)))) rfl (oy rfl rfl rfl h3 (op_move rfl rfl rfl)) ?_
      refine dr_put (d := 24) (v := .el ((ePsg (ix l k)))) rfl (oy rfl rfl rfl h3 (s_index rfl Tryz.underlying38 ti24 rfl rfl (by omega) (row_at (by omega)) rfl)) ?_
      refine dr_put (d := 25) (v := .d (.ag (ePsg (ix l k)))) rfl (oy rfl rfl rfl h3 (of_eff (s_load_els rfl Tryz.underlying24 rfl ti24 rfl rfl rfl) rfl)) ?_
      refine dr_put (d := 26) (v := .d (.fl (.int .i64 ((cp (((ix ((srt (l.take k))) j))) (ix l k)))))) rfl (oy rfl rfl rfl h3 (op_call rfl Tryz.func31 nm31 rfl (.cons rfl (.d _) (.cons rfl (.d _) .nil)) (cpR (((ix ((srt (l.take k))) j))) (ix l k) (hsu _ (ix_mem (by omega))) (hz _ (ix_mem (by omega)))) rfl)) ?_
      refine dr_put (d := 27) (v := .d (.fl (.bool ((decide ((cp (((ix ((srt (l.take k))) j))) (ix l k)) ≤ 0)))))) rfl (oy rfl rfl rfl h3 (op_bin rfl rfl rfl (b_leq _ _ _ _) rfl)) ?_
      refine dr_put (d := 28) (v := .d (.fl (.bool ((decide ((cp (((ix ((srt (l.take k))) j))) (ix l k)) ≤ 0)))))) rfl (og rfl (op_pick rfl rfl (by rw [h3]; rfl) rfl)) ?_
      refine dr_done rfl (sepB_of [0, 0, 2, 7, 15, 31, 31, 127, 255, 31, 31, 1567, 3615, 8191, 16383, 32767] (by kernel_rfl)) (by kernel_rfl) ?_
      refine a_cond rfl (fun h6 => ?_) (fun h6 => ?_)
      · skip
        have h7 := t_dec h6
        refine a_skip ?_
        show A _ _ _ _ _ _ _
        refine a_block ?_
        refine a_region ?_
        refine rg_put (d := 29) (v := .d (.fl (.int .i64 (j : Int)))) rfl (og rfl (op_move rfl rfl rfl)) ?_
        refine rg_put (d := 30) (v := .d (.fl (.int .i64 (((j : Int) + 1))))) rfl (og rfl (op_bin rfl rfl rfl (fun x y w => b_add64 _ _ _ x y w (by omega)) rfl)) ?_
        refine rg_put (d := 5) (v := .d (.fl (.int .i64 (((j : Int) + 1))))) rfl (og rfl (op_assign rfl rfl rfl)) ?_
        refine rg_done rfl ?_
        have hcj := of_decide_eq_true h6
        show ∃ i, _ ∧ _ ∧ Imp _ _ _ _ _
        refine ⟨j + 1, ⟨by omega, fun q h => by rcases Nat.lt_succ_iff_lt_or_eq.1 h with h | h <;> first | exact hq q h | (subst h; exact hcj)⟩, by omega, imp_forget rfl ⟨rfl, rfl, rfl, rfl, rfl, (ci (by omega)), trivial⟩ trivial⟩
      · skip
        have h8 := f_dec h6
        refine a_exit ?_
        show A _ _ _ _ _ _ _
        refine a_rseq ?_
        refine rg_put (d := 6) (v := .d (.fl (.slice none 0 0))) rfl (og rfl (op_assign rfl rfl rfl)) ?_
        refine rg_done rfl ?_
        refine a_rseq ?_
        refine rg_put (d := 31) (v := .d (.fl (.slice none 0 0))) rfl (og rfl (op_move rfl rfl rfl)) ?_
        refine rg_put (d := 32) (v := .d (.sl 8 (List.map ePsg ((srt (l.take k)))))) rfl (og rfl (op_move rfl rfl rfl)) ?_
        refine rg_put (d := 33) (v := .d (.fl (.int .i64 (j : Int)))) rfl (og rfl (op_move rfl rfl rfl)) ?_
        refine rg_put (d := 34) (v := .d (.sl 8 (List.map ePsg (((((srt (l.take k))).drop 0).take (j - 0)))))) rfl (og rfl (s_slice rfl Tryz.underlying38 ti24 rfl (.no _) (.so (n := j) _ rfl (by omega)) (by omega) (by omega) rfl)) ?_
        refine rg_nam (d := 35) (v := .ow 105) (m := 105) (nw := [(105, .tr 24 8 (tD ePsg (((((srt (l.take k))).drop 0).take (j - 0)))))]) rfl (og rfl (of_eff (s_append_nilT 105 rfl Tryz.underlying38 ti24 rfl rfl rfl rfl (.d _) (by simp only [List.length_append, List.length_cons, List.length_nil, List.length_take, List.length_drop]; omega) rfl) rfl)) rfl ?_
        refine rg_put (d := 6) (v := .ow 105) rfl (og rfl (op_assign rfl rfl rfl)) ?_
        refine rg_done rfl ?_
        refine a_rseq ?_
        refine rg_put (d := 36) (v := .ow 105) rfl (og rfl (op_move rfl rfl rfl)) ?_
        refine rg_put (d := 37) (v := .d (.sl 8 (List.map ePsg l))) rfl (og rfl (op_move rfl rfl rfl)) ?_
        refine rg_put (d := 38) (v := .d (.fl (.int .i64 (k : Int)))) rfl (og rfl (op_move rfl rfl rfl)) ?_
        refine rg_put (d := 39) (v := .el ((ePsg (ix l k)))) rfl (og rfl (s_index rfl Tryz.underlying38 ti24 rfl rfl (by omega) (row_at (by omega)) rfl)) ?_
        refine rg_put (d := 40) (v := .d (.ag (ePsg (ix l k)))) rfl (og rfl (of_eff (s_load_els rfl Tryz.underlying24 rfl ti24 rfl rfl rfl) rfl)) ?_
        refine rg_put (d := 41) (v := .d (.sl 8 (List.map ePsg [(ix l k)]))) rfl (og rfl (of_eff (op_slices rfl Tryz.underlying38 ti24 rfl rfl rfl (by kernel_rfl) (xs := [.ag (ePsg (ix l k))]) rfl rfl (.cons rfl rfl (.d _) rfl rfl rfl .nil) rfl) rfl)) ?_
        refine rg_nam (d := 42) (v := .ow 106) (m := 106) (nw := [(106, .tr 24 8 (tD ePsg ((((((srt (l.take k))).drop 0).take (j - 0)) ++ [(ix l k)])))), (105, .no)]) rfl (og rfl (of_eff (s_append_td 106 rfl Tryz.underlying38 ti24 rfl rfl rfl rfl rfl (.d _) (by simp only [List.length_append, List.length_cons, List.length_nil, List.length_take, List.length_drop]; omega) rfl) rfl)) rfl ?_
        refine rg_put (d := 6) (v := .ow 106) rfl (og rfl (op_assign rfl rfl rfl)) ?_
        refine rg_done rfl ?_
        refine a_region ?_
        refine rg_put (d := 43) (v := .ow 106) rfl (og rfl (op_move rfl rfl rfl)) ?_
        refine rg_put (d := 44) (v := .d (.sl 8 (List.map ePsg ((srt (l.take k)))))) rfl (og rfl (op_move rfl rfl rfl)) ?_
        refine rg_put (d := 45) (v := .d (.fl (.int .i64 (j : Int)))) rfl (og rfl (op_move rfl rfl rfl)) ?_
        refine rg_put (d := 46) (v := .d (.sl 8 (List.map ePsg ((((srt (l.take k))).drop j))))) rfl (og rfl (s_sliceTail rfl Tryz.underlying38 ti24 rfl (.so (n := j) _ rfl (by omega)) (by omega) rfl)) ?_
        refine rg_nam (d := 47) (v := .ow 107) (m := 107) (nw := [(107, .tr 24 8 (tD ePsg (((((((srt (l.take k))).drop 0).take (j - 0)) ++ [(ix l k)]) ++ (((srt (l.take k))).drop j))))), (106, .no)]) rfl (og rfl (of_eff (s_append_td 107 rfl Tryz.underlying38 ti24 rfl rfl rfl rfl rfl (.d _) (by simp only [List.length_append, List.length_cons, List.length_nil, List.length_take, List.length_drop]; omega) rfl) rfl)) rfl ?_
        refine rg_put (d := 3) (v := .ow 107) rfl (og rfl (op_assign rfl rfl rfl)) ?_
        refine rg_done rfl ?_
        show A _ _ _ _ _ _ _
        refine a_region ?_
        rw [show ((((((srt (l.take k))).drop 0).take (j - 0)) ++ [(ix l k)]) ++ (((srt (l.take k))).drop j)) = (srt (l.take (k + 1))) from ins_srt (by omega) hj hq (fun _ => of_decide_eq_false h6)]
        refine rg_imp (imp_leakT 3 107 rfl rfl) ?_
        refine rg_put (d := 11) (v := .d (.fl (.int .i64 (k : Int)))) rfl (og rfl (op_move rfl rfl rfl)) ?_
        refine rg_put (d := 12) (v := .d (.fl (.int .i64 (((k : Int) + 1))))) rfl (og rfl (op_bin rfl rfl rfl (fun x y w => b_add64 _ _ _ x y w (by omega)) rfl)) ?_
        refine rg_put (d := 4) (v := .d (.fl (.int .i64 (((k : Int) + 1))))) rfl (og rfl (op_assign rfl rfl rfl)) ?_
        refine rg_done rfl ?_
        show ∃ i, _ ∧ _ ∧ Imp _ _ _ _ _
        refine ⟨k + 1, (by omega), by omega, imp_forget rfl ⟨rfl, rfl, (ci (by omega)), rfl, trivial⟩ trivial⟩
  · skip
    have h9 := f_dec h1
    refine a_exit ?_
    show A _ _ _ _ _ _ _
    refine a_rseq ?_
    rw [show (srt (l.take k)) = (srt l) from (by rw [List.take_of_length_le (by omega)])]
    refine rg_put (d := 48) (v := .d (.sl 8 (List.map ePsg (srt l)))) rfl (og rfl (op_move rfl rfl rfl)) ?_
    refine rg_put (d := 2) (v := .d (.sl 8 (List.map ePsg (srt l)))) rfl (og rfl (op_assign rfl rfl rfl)) ?_
    refine rg_done rfl ?_
    refine a_ret ?_
    show ∃ ds, ResL _ _ _ ds ∧ RV.of ds = _
    refine ⟨[.sl 8 (List.map ePsg (srt l))], (.cons (.tmp rfl (.d _)) .nil), ?_⟩
    rfl
set_option maxHeartbeats 4000000 in
set_option maxRecDepth 100000 in
theorem sameR (l : List Psg) (hl : l.length ≤ 1000) (hz : ∀ x ∈ l, szP x) : Ctr Tryz.prog 20 [.sl 8 (List.map ePsg l), .sl 8 (List.map ePsg l)] (.d (.fl (.bool (true)))) := by
  refine ctr (n := 27) (rs := #[.tmp 4]) (L := [(0, .d (.sl 8 (List.map ePsg l))), (1, .d (.sl 8 (List.map ePsg l)))]) Tryz.func20 rfl rfl rfl rfl rfl (fun w0 U0 => ?_)
  refine a_rseq ?_
  refine rg_put (d := 4) (v := .d (.fl (.bool false))) rfl (og rfl (op_assign rfl rfl rfl)) ?_
  refine rg_done rfl ?_
  refine a_seq ?_
  refine a_rseq ?_
  refine rg_put (d := 6) (v := .d (.sl 8 (List.map ePsg l))) rfl (og rfl (op_move rfl rfl rfl)) ?_
  refine rg_put (d := 7) (v := .d (.fl (.int .i64 (l.length : Int)))) rfl (og rfl (s_len rfl Tryz.underlying38 rfl rfl)) ?_
  refine rg_put (d := 8) (v := .d (.sl 8 (List.map ePsg l))) rfl (og rfl (op_move rfl rfl rfl)) ?_
  refine rg_put (d := 9) (v := .d (.fl (.int .i64 (l.length : Int)))) rfl (og rfl (s_len rfl Tryz.underlying38 rfl rfl)) ?_
  refine rg_put (d := 10) (v := .d (.fl (.bool (((l.length : Int) != (l.length : Int)))))) rfl (og rfl (op_bin rfl rfl rfl (b_neq _ _ _ _) rfl)) ?_
  refine rg_done rfl ?_
  refine a_condF rfl (by rw [bne_eq_false_iff_eq]) ?_
  refine a_skip ?_
  show A _ _ _ _ _ _ _
  refine a_seq ?_
  refine a_rseq ?_
  refine rg_put (d := 5) (v := .d (.fl (.int .i64 0))) rfl (og rfl (op_assign rfl rfl rfl)) ?_
  refine rg_done rfl ?_
  refine a_block ?_
  refine a_loop (ι := Nat) (fun k => SS [(0, .d (.sl 8 (List.map ePsg l))), (1, .d (.sl 8 (List.map ePsg l))), (10, .d (.fl (.bool (((l.length : Int) != (l.length : Int)))))), (5, .d (.fl (.int .i64 (k : Int))))] []) (fun k => k ≤ l.length) (fun k => l.length - k) 0 (by omega) (imp_forget rfl ⟨rfl, rfl, rfl, (by first | rfl | exact ci (by omega) | exact ci (by simp) | exact cd (by simp) | simp), trivial⟩ trivial) (fun k hok => ?_)
  have hk := hok
  refine a_seq ?_
  refine a_rseq ?_
  refine rg_put (d := 11) (v := .d (.fl (.int .i64 (k : Int)))) rfl (og rfl (op_move rfl rfl rfl)) ?_
  refine rg_put (d := 12) (v := .d (.sl 8 (List.map ePsg l))) rfl (og rfl (op_move rfl rfl rfl)) ?_
  refine rg_put (d := 13) (v := .d (.fl (.int .i64 (l.length : Int)))) rfl (og rfl (s_len rfl Tryz.underlying38 rfl rfl)) ?_
  refine rg_put (d := 14) (v := .d (.fl (.bool ((decide ((k : Int) < (l.length : Int))))))) rfl (og rfl (op_bin rfl rfl rfl (b_lss _ _ _ _) rfl)) ?_
  refine rg_done rfl ?_
  refine a_cond rfl (fun h1 => ?_) (fun h1 => ?_)
  · skip
    have h2 := t_dec h1
    refine a_skip ?_
    show A _ _ _ _ _ _ _
    refine a_seq ?_
    refine a_block ?_
    refine a_dseq (by kernel_rfl) ?_
    refine dr_put (d := 17) (v := .d (.sl 8 (List.map ePsg l))) rfl (og rfl (op_move rfl rfl rfl)) ?_
    refine dr_put (d := 18) (v := .d (.fl (.int .i64 (k : Int)))) rfl (og rfl (op_move rfl rfl rfl)) ?_
    refine dr_put (d := 19) (v := .el ((ePsg (ix l k)))) rfl (og rfl (s_index rfl Tryz.underlying38 ti24 rfl rfl (by omega) (row_at (by omega)) rfl)) ?_
    refine dr_put (d := 20) (v := .d (.ag (ePsg (ix l k)))) rfl (og rfl (of_eff (s_load_els rfl Tryz.underlying24 rfl ti24 rfl rfl rfl) rfl)) ?_
    refine dr_put (d := 21) (v := .d (.sl 8 (List.map ePsg l))) rfl (og rfl (op_move rfl rfl rfl)) ?_
    refine dr_put (d := 22) (v := .d (.fl (.int .i64 (k : Int)))) rfl (og rfl (op_move rfl rfl rfl)) ?_
    refine dr_put (d := 23) (v := .el ((ePsg (ix l k)))) rfl (og rfl (s_index rfl Tryz.underlying38 ti24 rfl rfl (by omega) (row_at (by omega)) rfl)) ?_
    refine dr_put (d := 24) (v := .d (.ag (ePsg (ix l k)))) rfl (og rfl (of_eff (s_load_els rfl Tryz.underlying24 rfl ti24 rfl rfl rfl) rfl)) ?_
    refine dr_put (d := 25) (v := .d (.fl (.bool ((cp (ix l k) (ix l k) == 0))))) rfl (og rfl (op_call rfl Tryz.func30 nm30 rfl (.cons rfl (.d _) (.cons rfl (.d _) .nil)) (oneR (ix l k) (ix l k) (hz _ (ix_mem (by omega))) (hz _ (ix_mem (by omega)))) rfl)) ?_
    refine dr_put (d := 26) (v := .d (.fl (.bool ((!((cp (ix l k) (ix l k) == 0))))))) rfl (og rfl (op_un rfl rfl (u_not _) rfl)) ?_
    refine dr_done rfl (by kernel_rfl) (by kernel_rfl) ?_
    refine a_condF rfl (not_f (by rw [cp_self]; rfl)) ?_
    refine a_skip ?_
    show A _ _ _ _ _ _ _
    refine a_region ?_
    refine rg_put (d := 15) (v := .d (.fl (.int .i64 (k : Int)))) rfl (og rfl (op_move rfl rfl rfl)) ?_
    refine rg_put (d := 16) (v := .d (.fl (.int .i64 (((k : Int) + 1))))) rfl (og rfl (op_bin rfl rfl rfl (fun x y w => b_add64 _ _ _ x y w (by omega)) rfl)) ?_
    refine rg_put (d := 5) (v := .d (.fl (.int .i64 (((k : Int) + 1))))) rfl (og rfl (op_assign rfl rfl rfl)) ?_
    refine rg_done rfl ?_
    show ∃ i, _ ∧ _ ∧ Imp _ _ _ _ _
    refine ⟨k + 1, (by omega), by omega, imp_forget rfl ⟨rfl, rfl, rfl, (by first | rfl | exact ci (by omega) | exact ci (by simp) | exact cd (by simp) | simp), trivial⟩ trivial⟩
  · skip
    have h3 := f_dec h1
    refine a_exit ?_
    show A _ _ _ _ _ _ _
    refine a_rseq ?_
    refine rg_put (d := 4) (v := .d (.fl (.bool true))) rfl (og rfl (op_assign rfl rfl rfl)) ?_
    refine rg_done rfl ?_
    refine a_ret ?_
    show ∃ ds, ResL _ _ _ ds ∧ RV.of ds = _
    refine ⟨[.fl (.bool true)], (.cons (.tmp rfl (.d _)) .nil), ?_⟩
    rfl
set_option maxHeartbeats 4000000 in
set_option maxRecDepth 100000 in
theorem law4 (l : List Psg) (hl9 : l.length ≤ 9223372036854775807) (hm9 : ∀ x ∈ l, x.src.length ≤ 9223372036854775807) : Ctr Tryz.prog 4 [.sl 8 (List.map ePsg l)] (.d (.fl (.bool true))) := by
  refine ctr (n := 15) (rs := #[.tmp 2]) (L := [(0, .d (.sl 8 (List.map ePsg l)))]) Tryz.func4 rfl rfl rfl rfl rfl (fun w0 U0 => ?_)
  refine a_rseq ?_
  refine rg_put (d := 2) (v := .d (.fl (.bool false))) rfl (og rfl (op_assign rfl rfl rfl)) ?_
  refine rg_done rfl ?_
  refine a_seq ?_
  refine a_rseq ?_
  refine rg_put (d := 3) (v := .d (.sl 8 (List.map ePsg l))) rfl (og rfl (op_move rfl rfl rfl)) ?_
  refine rg_put (d := 4) (v := .d (.fl (.bool (fewP l)))) rfl (og rfl (op_call rfl Tryz.func19 nm19 rfl (.cons rfl (.d _) .nil) (fewC l hl9 hm9) rfl)) ?_
  refine rg_put (d := 5) (v := .d (.fl (.bool ((!(fewP l)))))) rfl (og rfl (op_un rfl rfl (u_not _) rfl)) ?_
  refine rg_done rfl ?_
  refine a_cond rfl (fun h1 => ?_) (fun h1 => ?_)
  · skip
    have h2 := t_not h1
    refine a_rseq ?_
    refine rg_put (d := 6) (v := .d (.fl (.bool true))) rfl (og rfl (op_call rfl Tryz.func12 nm12 rfl .nil aliveT rfl)) ?_
    refine rg_put (d := 2) (v := .d (.fl (.bool true))) rfl (og rfl (op_assign rfl rfl rfl)) ?_
    refine rg_done rfl ?_
    refine a_ret ?_
    show ∃ ds, ResL _ _ _ ds ∧ RV.of ds = _
    refine ⟨[.fl (.bool true)], (.cons (.tmp rfl (.d _)) .nil), ?_⟩
    rfl
  · skip
    have h3 := f_not h1
    refine a_skip ?_
    show A _ _ _ _ _ _ _
    refine a_rseq ?_
    obtain ⟨hl40, hsz⟩ := few_t h3
    have hss : ∀ x ∈ srt l, szP x := fun x hx => hsz x ((srt_perm l).subset hx)
    have hsn := srt_len l
    refine rg_put (d := 7) (v := .d (.sl 8 (List.map ePsg l))) rfl (og rfl (op_move rfl rfl rfl)) ?_
    refine rg_put (d := 8) (v := .d (.sl 8 (List.map ePsg (srt l)))) rfl (og rfl (op_call rfl Tryz.func21 nm21 rfl (.cons rfl (.d _) .nil) (sortC l (by omega) (fun x hx => (hsz x hx).n)) rfl)) ?_
    refine rg_put (d := 9) (v := .d (.sl 8 (List.map ePsg l))) rfl (og rfl (op_move rfl rfl rfl)) ?_
    refine rg_put (d := 10) (v := .d (.sl 8 (List.map ePsg (srt l)))) rfl (og rfl (op_call rfl Tryz.func22 nm22 rfl (.cons rfl (.d _) .nil) (sortR l (by omega) hsz) rfl)) ?_
    refine rg_put (d := 11) (v := .d (.fl (.bool true))) rfl (og rfl (op_call rfl Tryz.func20 nm20 rfl (.cons rfl (.d _) (.cons rfl (.d _) .nil)) (sameR (srt l) (by omega) hss) rfl)) ?_
    refine rg_put (d := 12) (v := .d (.fl (.bool true))) rfl (og rfl (op_move rfl rfl rfl)) ?_
    refine rg_put (d := 13) (v := .d (.fl (.bool true))) rfl (oy rfl rfl rfl rfl (op_call rfl Tryz.func12 nm12 rfl .nil aliveT rfl)) ?_
    refine rg_put (d := 14) (v := .d (.fl (.bool true))) rfl (og rfl (op_pick rfl rfl rfl rfl)) ?_
    refine rg_put (d := 2) (v := .d (.fl (.bool true))) rfl (og rfl (op_assign rfl rfl rfl)) ?_
    refine rg_done rfl ?_
    refine a_ret ?_
    show ∃ ds, ResL _ _ _ ds ∧ RV.of ds = _
    refine ⟨[.fl (.bool true)], (.cons (.tmp rfl (.d _)) .nil), ?_⟩
    rfl
end Go.Proofs.YtakmjlpciicaiaaGreatDoor.Wk
