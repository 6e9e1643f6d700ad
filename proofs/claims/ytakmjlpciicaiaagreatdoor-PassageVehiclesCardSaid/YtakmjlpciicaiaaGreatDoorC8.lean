/- The law of vehicles. No condition. -/
import Derived.Test.YtakmjlpciicaiaaGreatDoorAl
import Derived.Test.YtakmjlpciicaiaaGreatDoorB13
set_option linter.unusedSimpArgs false
set_option linter.unusedVariables false
namespace Go.Proofs.YtakmjlpciicaiaaGreatDoor.Wk
open Go Go.RowKit Go.Proofs.YtakmjlpciicaiaaGreatDoor.Av
set_option maxHeartbeats 4000000 in
set_option maxRecDepth 100000 in
theorem law6 (l : List Psg) (s : ByteArray) (hl9 : l.length ≤ 9223372036854775807) (hm9 : ∀ x ∈ l, x.src.length ≤ 9223372036854775807) : Ctr Tryz.prog 6 [.sl 8 (List.map ePsg l), .fl (.string s)] (.d (.fl (.bool true))) := by
  refine ctr (n := 31) (rs := #[.tmp 4]) (L := [(0, .d (.sl 8 (List.map ePsg l))), (1, .d (.fl (.string s)))]) Tryz.func6 rfl rfl rfl rfl rfl (fun w0 U0 => ?_)
  refine a_rseq ?_
  refine rg_put (d := 4) (v := .d (.fl (.bool false))) rfl (og rfl (op_assign rfl rfl rfl)) ?_
  refine rg_done rfl ?_
  refine a_seq ?_
  refine a_rseq ?_
  refine rg_put (d := 5) (v := .d (.sl 8 (List.map ePsg l))) rfl (og rfl (op_move rfl rfl rfl)) ?_
  refine rg_put (d := 6) (v := .d (.fl (.bool (fewP l)))) rfl (og rfl (op_call rfl Tryz.func19 nm19 rfl (.cons rfl (.d _) .nil) (fewC l hl9 hm9) rfl)) ?_
  refine rg_put (d := 7) (v := .d (.fl (.bool ((!(fewP l)))))) rfl (og rfl (op_un rfl rfl (u_not _) rfl)) ?_
  refine rg_put (d := 8) (v := .d (.fl (.bool ((!(fewP l)))))) rfl (og rfl (op_move rfl rfl rfl)) ?_
  rcases fot ((!(fewP l))) with h1 | h1
  · skip
    have h2 := f_not h1
    refine rg_put (d := 9) (v := .d (.fl (.string s))) rfl (oy rfl rfl rfl h1 (op_move rfl rfl rfl)) ?_
    refine rg_put (d := 10) (v := .d (.fl (.int .i64 (s.size : Int)))) rfl (oy rfl rfl rfl h1 (op_len_str rfl Tryz.underlying9 rfl rfl)) ?_
    refine rg_put (d := 11) (v := .d (.fl (.bool ((decide (40 < (s.size : Int))))))) rfl (oy rfl rfl rfl h1 (op_bin rfl rfl rfl (b_gtr _ _ _ _) rfl)) ?_
    refine rg_put (d := 12) (v := .d (.fl (.bool ((decide (40 < (s.size : Int))))))) rfl (og rfl (op_pick rfl rfl (by rw [h1]; rfl) rfl)) ?_
    refine rg_done rfl ?_
    refine a_cond rfl (fun h3 => ?_) (fun h3 => ?_)
    · skip
      have h4 := t_dec h3
      refine a_rseq ?_
      refine rg_put (d := 13) (v := .d (.fl (.bool true))) rfl (og rfl (op_call rfl Tryz.func12 nm12 rfl .nil aliveT rfl)) ?_
      refine rg_put (d := 4) (v := .d (.fl (.bool true))) rfl (og rfl (op_assign rfl rfl rfl)) ?_
      refine rg_done rfl ?_
      refine a_ret ?_
      show ∃ ds, ResL _ _ _ ds ∧ RV.of ds = _
      refine ⟨[.fl (.bool true)], (.cons (.tmp rfl (.d _)) .nil), ?_⟩
      rfl
    · skip
      have h5 := f_dec h3
      refine a_skip ?_
      show A _ _ _ _ _ _ _
      refine a_rseq ?_
      obtain ⟨hl40, hsz⟩ := few_t h2
      have hsu : ∀ y ∈ (srt (l.filter (bq l s))), szP y := fun y hy => hsz y (List.mem_filter.1 ((srt_perm _).subset hy)).1
      have hul : (srt (l.filter (bq l s))).length ≤ l.length := by rw [srt_len]; exact List.length_filter_le _ _
      have hvl : (srtS (vs l l.length)).length ≤ l.length := by rw [srtS_len]; exact vs_len l _
      refine rg_put (d := 14) (v := .d (.sl 8 (List.map ePsg l))) rfl (og rfl (op_move rfl rfl rfl)) ?_
      refine rg_put (d := 15) (v := .d (.fl (.string s))) rfl (og rfl (op_move rfl rfl rfl)) ?_
      refine rg_put (d := 16) (v := .d (.sl 8 (List.map ePsg ((srt (l.filter (bq l s))))))) rfl (og rfl (op_call rfl Tryz.func25 nm25 rfl (.cons rfl (.d _) (.cons rfl (.d _) .nil)) (ofP l s (by omega) (fun x hx => (hsz x hx).n)) rfl)) ?_
      refine rg_put (d := 17) (v := .d (.sl 8 (List.map ePsg l))) rfl (og rfl (op_move rfl rfl rfl)) ?_
      refine rg_put (d := 18) (v := .d (.fl (.string s))) rfl (og rfl (op_move rfl rfl rfl)) ?_
      refine rg_put (d := 19) (v := .d (.sl 8 (List.map ePsg ((srt (l.filter (bq l s))))))) rfl (og rfl (op_call rfl Tryz.func26 nm26 rfl (.cons rfl (.d _) (.cons rfl (.d _) .nil)) (ofR l s (by omega) hsz) rfl)) ?_
      refine rg_put (d := 20) (v := .d (.fl (.bool true))) rfl (og rfl (op_call rfl Tryz.func20 nm20 rfl (.cons rfl (.d _) (.cons rfl (.d _) .nil)) (sameR (srt (l.filter (bq l s))) (by omega) hsu) rfl)) ?_
      refine rg_put (d := 21) (v := .d (.fl (.bool true))) rfl (og rfl (op_move rfl rfl rfl)) ?_
      refine rg_put (d := 22) (v := .d (.sl 8 (List.map ePsg l))) rfl (oy rfl rfl rfl rfl (op_move rfl rfl rfl)) ?_
      refine rg_put (d := 23) (v := .d (.sl 1 (List.map rS ((srtS (vs l l.length)))))) rfl (oy rfl rfl rfl rfl (op_call rfl Tryz.func28 nm28 rfl (.cons rfl (.d _) .nil) (vehC l (by omega) (fun s hs => Nat.le_trans (vs_size hsz _ (Nat.le_refl _) s hs) (by decide))) rfl)) ?_
      refine rg_put (d := 24) (v := .d (.sl 8 (List.map ePsg l))) rfl (oy rfl rfl rfl rfl (op_move rfl rfl rfl)) ?_
      refine rg_put (d := 25) (v := .d (.sl 1 (List.map rS ((srtS (vs l l.length)))))) rfl (oy rfl rfl rfl rfl (op_call rfl Tryz.func29 nm29 rfl (.cons rfl (.d _) .nil) (vehR l (by omega) hsz) rfl)) ?_
      refine rg_put (d := 26) (v := .d (.fl (.bool true))) rfl (oy rfl rfl rfl rfl (op_call rfl Tryz.func27 nm27 rfl (.cons rfl (.d _) (.cons rfl (.d _) .nil)) (sameS (srtS (vs l l.length)) (by omega)) rfl)) ?_
      refine rg_put (d := 27) (v := .d (.fl (.bool true))) rfl (og rfl (op_pick rfl rfl rfl rfl)) ?_
      refine rg_put (d := 28) (v := .d (.fl (.bool true))) rfl (og rfl (op_move rfl rfl rfl)) ?_
      refine rg_put (d := 29) (v := .d (.fl (.bool true))) rfl (oy rfl rfl rfl rfl (op_call rfl Tryz.func12 nm12 rfl .nil aliveT rfl)) ?_
      refine rg_put (d := 30) (v := .d (.fl (.bool true))) rfl (og rfl (op_pick rfl rfl rfl rfl)) ?_
      refine rg_put (d := 4) (v := .d (.fl (.bool true))) rfl (og rfl (op_assign rfl rfl rfl)) ?_
      refine rg_done rfl ?_
      refine a_ret ?_
      show ∃ ds, ResL _ _ _ ds ∧ RV.of ds = _
      refine ⟨[.fl (.bool true)], (.cons (.tmp rfl (.d _)) .nil), ?_⟩
      rfl
  · skip
    have h6 := t_not h1
    refine rg_put (d := 9) (v := .d (.fl undef)) rfl (on rfl rfl rfl h1) ?_
    refine rg_put (d := 10) (v := .d (.fl undef)) rfl (on rfl rfl rfl h1) ?_
    refine rg_put (d := 11) (v := .d (.fl undef)) rfl (on rfl rfl rfl h1) ?_
    refine rg_put (d := 12) (v := .d (.fl (.bool true))) rfl (og rfl (op_pick rfl rfl (by rw [h1]; rfl) rfl)) ?_
    refine rg_done rfl ?_
    refine a_condK rfl rfl ?_
    refine a_rseq ?_
    refine rg_put (d := 13) (v := .d (.fl (.bool true))) rfl (og rfl (op_call rfl Tryz.func12 nm12 rfl .nil aliveT rfl)) ?_
    refine rg_put (d := 4) (v := .d (.fl (.bool true))) rfl (og rfl (op_assign rfl rfl rfl)) ?_
    refine rg_done rfl ?_
    refine a_ret ?_
    show ∃ ds, ResL _ _ _ ds ∧ RV.of ds = _
    refine ⟨[.fl (.bool true)], (.cons (.tmp rfl (.d _)) .nil), ?_⟩
    rfl
end Go.Proofs.YtakmjlpciicaiaaGreatDoor.Wk
