/- Vehicles, both sides. No condition. -/
import Derived.Test.YtakmjlpciicaiaaGreatDoorB12
set_option linter.unusedSimpArgs false
set_option linter.unusedVariables false
namespace Go.Proofs.YtakmjlpciicaiaaGreatDoor.Wk
open Go Go.RowKit Go.Proofs.YtakmjlpciicaiaaGreatDoor.Av
theorem vs_ins {l : List Psg} {k : Nat} (h : sEq (bel (ow l l.length) (ix l k)) em = false) : insT (srtS (vs l k)) (bel (ow l l.length) (ix l k)) = srtS (vs l (k + 1)) := by
  rw [insT_srt]
  cases h2 : (vs l k).any (fun s => sEq s (bel (ow l l.length) (ix l k))) with
  | true => rw [vs_old h h2]; rfl
  | false => rw [vs_new h h2]; rfl
theorem srtS_len (l : List ByteArray) : (srtS l).length = l.length := (srtS_perm l).length_eq
theorem bel_size {l : List Psg} {x : Psg} (hz : ∀ y ∈ l, szP y) (hx : x ∈ l) : (bel (ow l l.length) x).size ≤ 80 := by
  have hq := hz x hx
  cases hs : sEq (bel (ow l l.length) x) em with
  | true => rw [sEq_eq hs]; exact Nat.zero_le _
  | false =>
    rcases bel_cases hs rfl with ⟨_, h⟩ | ⟨_, h | h⟩
    · rw [← h]; have := hq.t; omega
    · rw [← h]; have := hq.l; omega
    · obtain ⟨q, h1, _, h3⟩ := ow_sound l l.length x.plate _ h (fun e => by rw [e] at hs; exact absurd hs (by decide))
      rw [← h3]; have := (hz _ (ix_mem h1)).t; omega
theorem vs_size {l : List Psg} (hz : ∀ y ∈ l, szP y) : ∀ k, k ≤ l.length → ∀ s ∈ vs l k, s.size ≤ 80
  | 0, _, s, h => by simp [vs] at h
  | k + 1, hk, s, h => by
    have ih := vs_size hz k (by omega) s
    simp only [vs] at h
    cases h1 : sEq (bel (ow l l.length) (ix l k)) em with
    | true => rw [h1] at h; exact ih h
    | false =>
      rw [h1] at h
      cases h2 : (vs l k).any (fun s => sEq s (bel (ow l l.length) (ix l k))) with
      | true => rw [h2] at h; exact ih h
      | false =>
        rw [h2] at h
        rcases List.mem_append.1 h with h | h
        · exact ih h
        · rw [List.mem_singleton] at h; rw [h]; exact bel_size hz (ix_mem (by omega))
theorem srtS_nil : srtS [] = [] := List.length_eq_zero_iff.1 (by rw [srtS_len]; rfl)

set_option maxHeartbeats 4000000 in
set_option maxRecDepth 100000 in
theorem vehR (l : List Psg) (hl : l.length ≤ 1000) (hz : ∀ x ∈ l, szP x) : Ctr Tryz.prog 29 [.sl 8 (List.map ePsg l)] (.d (.sl 1 (List.map rS (srtS (vs l l.length))))) := by
  refine ctr (n := 24) (rs := #[.tmp 2]) (L := [(0, .d (.sl 8 (List.map ePsg l)))]) Tryz.func29 rfl rfl rfl rfl rfl (fun w0 U0 => ?_)
  refine a_rseq ?_
  refine rg_put (d := 2) (v := .d (.fl (.slice none 0 0))) rfl (og rfl (op_assign rfl rfl rfl)) ?_
  refine rg_done rfl ?_
  refine a_rseq ?_
  refine rg_put (d := 3) (v := .d (.fl (.slice none 0 0))) rfl (og rfl (op_assign rfl rfl rfl)) ?_
  refine rg_done rfl ?_
  refine a_seq ?_
  refine a_rseq ?_
  refine rg_imp (imp_nilT 3 101 9 1 rfl rfl) ?_
  refine rg_imp (imp_leakT 3 101 (f := rS) (l := []) rfl rfl) ?_
  refine rg_put (d := 4) (v := .d (.fl (.int .i64 0))) rfl (og rfl (op_assign rfl rfl rfl)) ?_
  refine rg_done rfl ?_
  refine a_block ?_
  refine a_loop (ι := Nat) (fun k => SS [(0, .d (.sl 8 (List.map ePsg l))), (2, .d (.fl (.slice none 0 0))), (4, .d (.fl (.int .i64 (k : Int)))), (3, .d (.sl 1 (List.map rS ((srtS (vs l k))))))] []) (fun k => k ≤ l.length) (fun k => l.length - k) 0 (by omega) (imp_forget rfl ⟨rfl, rfl, (by first | rfl | exact ci (by omega) | exact ci (by simp) | exact cd (by simp) | simp), (cd (by rw [show vs l 0 = [] from rfl, srtS_nil])), trivial⟩ trivial) (fun k hok => ?_)
  have hk := hok
  have hvl := vs_len l k
  have hsl := srtS_len (vs l k)
  refine a_seq ?_
  refine a_rseq ?_
  refine rg_put (d := 6) (v := .d (.fl (.int .i64 (k : Int)))) rfl (og rfl (op_move rfl rfl rfl)) ?_
  refine rg_put (d := 7) (v := .d (.sl 8 (List.map ePsg l))) rfl (og rfl (op_move rfl rfl rfl)) ?_
  refine rg_put (d := 8) (v := .d (.fl (.int .i64 (l.length : Int)))) rfl (og rfl (s_len rfl Tryz.underlying38 rfl rfl)) ?_
  refine rg_put (d := 9) (v := .d (.fl (.bool ((decide ((k : Int) < (l.length : Int))))))) rfl (og rfl (op_bin rfl rfl rfl (b_lss _ _ _ _) rfl)) ?_
  refine rg_done rfl ?_
  refine a_cond rfl (fun h1 => ?_) (fun h1 => ?_)
  · skip
    have h2 := t_dec h1
    refine a_skip ?_
    show A _ _ _ _ _ _ _
    refine a_seq ?_
    refine a_block ?_
    refine a_rseq ?_
    refine rg_put (d := 12) (v := .d (.sl 8 (List.map ePsg l))) rfl (og rfl (op_move rfl rfl rfl)) ?_
    refine rg_put (d := 13) (v := .d (.sl 8 (List.map ePsg l))) rfl (og rfl (op_move rfl rfl rfl)) ?_
    refine rg_put (d := 14) (v := .d (.fl (.int .i64 (k : Int)))) rfl (og rfl (op_move rfl rfl rfl)) ?_
    refine rg_put (d := 15) (v := .el ((ePsg (ix l k)))) rfl (og rfl (s_index rfl Tryz.underlying38 ti24 rfl rfl (by omega) (row_at (by omega)) rfl)) ?_
    refine rg_put (d := 16) (v := .d (.ag (ePsg (ix l k)))) rfl (og rfl (of_eff (s_load_els rfl Tryz.underlying24 rfl ti24 rfl rfl rfl) rfl)) ?_
    refine rg_put (d := 17) (v := .d (.fl (.string ((bel (ow l l.length) (ix l k)))))) rfl (og rfl (op_call rfl Tryz.func54 nm54 rfl (.cons rfl (.d _) (.cons rfl (.d _) .nil)) (blgR l (ix l k) hl) rfl)) ?_
    refine rg_put (d := 5) (v := .d (.fl (.string ((bel (ow l l.length) (ix l k)))))) rfl (og rfl (op_assign rfl rfl rfl)) ?_
    refine rg_done rfl ?_
    refine a_rseq ?_
    refine rg_put (d := 18) (v := .d (.fl (.string ((bel (ow l l.length) (ix l k)))))) rfl (og rfl (op_move rfl rfl rfl)) ?_
    refine rg_put (d := 19) (v := .d (.fl (.bool ((!(sEq ((bel (ow l l.length) (ix l k))) (⟨#[]⟩))))))) rfl (og rfl (op_bin rfl rfl rfl (b_sne _ _ _) rfl)) ?_
    refine rg_done rfl ?_
    refine a_cond rfl (fun h3 => ?_) (fun h3 => ?_)
    · skip
      have h4 := t_not h3
      refine a_region ?_
      refine rg_put (d := 20) (v := .d (.sl 1 (List.map rS ((srtS (vs l k)))))) rfl (og rfl (op_move rfl rfl rfl)) ?_
      refine rg_put (d := 21) (v := .d (.fl (.string ((bel (ow l l.length) (ix l k)))))) rfl (og rfl (op_move rfl rfl rfl)) ?_
      refine rg_put (d := 22) (v := .d (.sl 1 (List.map rS ((insT ((srtS (vs l k))) ((bel (ow l l.length) (ix l k)))))))) rfl (og rfl (op_call rfl Tryz.func57 nm57 rfl (.cons rfl (.d _) (.cons rfl (.d _) .nil)) (insC ((srtS (vs l k))) ((bel (ow l l.length) (ix l k))) (by omega) (fun y hy => vs_size hz k (by omega) y ((srtS_perm _).subset hy)) (bel_size hz (ix_mem (by omega)))) rfl)) ?_
      refine rg_put (d := 3) (v := .d (.sl 1 (List.map rS ((insT ((srtS (vs l k))) ((bel (ow l l.length) (ix l k)))))))) rfl (og rfl (op_assign rfl rfl rfl)) ?_
      refine rg_done rfl ?_
      show A _ _ _ _ _ _ _
      refine a_region ?_
      refine rg_put (d := 10) (v := .d (.fl (.int .i64 (k : Int)))) rfl (og rfl (op_move rfl rfl rfl)) ?_
      refine rg_put (d := 11) (v := .d (.fl (.int .i64 (((k : Int) + 1))))) rfl (og rfl (op_bin rfl rfl rfl (fun x y w => b_add64 _ _ _ x y w (by omega)) rfl)) ?_
      refine rg_put (d := 4) (v := .d (.fl (.int .i64 (((k : Int) + 1))))) rfl (og rfl (op_assign rfl rfl rfl)) ?_
      refine rg_done rfl ?_
      have hst : (insT ((srtS (vs l k))) ((bel (ow l l.length) (ix l k)))) = srtS (vs l (k + 1)) := vs_ins h4
      show ∃ i, _ ∧ _ ∧ Imp _ _ _ _ _
      refine ⟨k + 1, (by omega), by omega, imp_forget rfl ⟨rfl, rfl, (by first | rfl | exact ci (by omega) | exact ci (by simp) | exact cd (by simp) | simp), (cd (congrArg (fun z => DV.sl 1 (List.map rS z)) hst)), trivial⟩ trivial⟩
    · skip
      have h5 := f_not h3
      refine a_skip ?_
      show A _ _ _ _ _ _ _
      refine a_region ?_
      refine rg_put (d := 10) (v := .d (.fl (.int .i64 (k : Int)))) rfl (og rfl (op_move rfl rfl rfl)) ?_
      refine rg_put (d := 11) (v := .d (.fl (.int .i64 (((k : Int) + 1))))) rfl (og rfl (op_bin rfl rfl rfl (fun x y w => b_add64 _ _ _ x y w (by omega)) rfl)) ?_
      refine rg_put (d := 4) (v := .d (.fl (.int .i64 (((k : Int) + 1))))) rfl (og rfl (op_assign rfl rfl rfl)) ?_
      refine rg_done rfl ?_
      have hst : (srtS (vs l k)) = srtS (vs l (k + 1)) := by rw [vs_no h5]
      show ∃ i, _ ∧ _ ∧ Imp _ _ _ _ _
      refine ⟨k + 1, (by omega), by omega, imp_forget rfl ⟨rfl, rfl, (by first | rfl | exact ci (by omega) | exact ci (by simp) | exact cd (by simp) | simp), (cd (congrArg (fun z => DV.sl 1 (List.map rS z)) hst)), trivial⟩ trivial⟩
  · skip
    have h6 := f_dec h1
    refine a_exit ?_
    show A _ _ _ _ _ _ _
    refine a_rseq ?_
    have hkl : k = l.length := by omega
    rw [show (srtS (vs l k)) = (srtS (vs l l.length)) from (by rw [hkl])]
    refine rg_put (d := 23) (v := .d (.sl 1 (List.map rS ((srtS (vs l l.length)))))) rfl (og rfl (op_move rfl rfl rfl)) ?_
    refine rg_put (d := 2) (v := .d (.sl 1 (List.map rS ((srtS (vs l l.length)))))) rfl (og rfl (op_assign rfl rfl rfl)) ?_
    refine rg_done rfl ?_
    refine a_ret ?_
    show ∃ ds, ResL _ _ _ ds ∧ RV.of ds = _
    refine ⟨[.sl 1 (List.map rS ((srtS (vs l l.length))))], (.cons (.tmp rfl (.d _)) .nil), ?_⟩
    rfl
set_option maxHeartbeats 4000000 in
set_option maxRecDepth 100000 in
theorem sameS (u : List ByteArray) (hu : u.length ≤ 1000) : Ctr Tryz.prog 27 [.sl 1 (List.map rS u), .sl 1 (List.map rS u)] (.d (.fl (.bool (true)))) := by
  refine ctr (n := 26) (rs := #[.tmp 4]) (L := [(0, .d (.sl 1 (List.map rS u))), (1, .d (.sl 1 (List.map rS u)))]) Tryz.func27 rfl rfl rfl rfl rfl (fun w0 U0 => ?_)
  refine a_rseq ?_
  refine rg_put (d := 4) (v := .d (.fl (.bool false))) rfl (og rfl (op_assign rfl rfl rfl)) ?_
  refine rg_done rfl ?_
  refine a_seq ?_
  refine a_rseq ?_
  refine rg_put (d := 6) (v := .d (.sl 1 (List.map rS u))) rfl (og rfl (op_move rfl rfl rfl)) ?_
  refine rg_put (d := 7) (v := .d (.fl (.int .i64 (u.length : Int)))) rfl (og rfl (s_len rfl Tryz.underlying46 rfl rfl)) ?_
  refine rg_put (d := 8) (v := .d (.sl 1 (List.map rS u))) rfl (og rfl (op_move rfl rfl rfl)) ?_
  refine rg_put (d := 9) (v := .d (.fl (.int .i64 (u.length : Int)))) rfl (og rfl (s_len rfl Tryz.underlying46 rfl rfl)) ?_
  refine rg_put (d := 10) (v := .d (.fl (.bool (((u.length : Int) != (u.length : Int)))))) rfl (og rfl (op_bin rfl rfl rfl (b_neq _ _ _ _) rfl)) ?_
  refine rg_done rfl ?_
  refine a_condF rfl (by rw [bne_eq_false_iff_eq]) ?_
  refine a_skip ?_
  show A _ _ _ _ _ _ _
  refine a_seq ?_
  refine a_rseq ?_
  refine rg_put (d := 5) (v := .d (.fl (.int .i64 0))) rfl (og rfl (op_assign rfl rfl rfl)) ?_
  refine rg_done rfl ?_
  refine a_block ?_
  refine a_loop (ι := Nat) (fun k => SS [(0, .d (.sl 1 (List.map rS u))), (1, .d (.sl 1 (List.map rS u))), (10, .d (.fl (.bool (((u.length : Int) != (u.length : Int)))))), (5, .d (.fl (.int .i64 (k : Int))))] []) (fun k => k ≤ u.length) (fun k => u.length - k) 0 (by omega) (imp_forget rfl ⟨rfl, rfl, rfl, (by first | rfl | exact ci (by omega) | exact ci (by simp) | exact cd (by simp) | simp), trivial⟩ trivial) (fun k hok => ?_)
  have hk := hok
  refine a_seq ?_
  refine a_rseq ?_
  refine rg_put (d := 11) (v := .d (.fl (.int .i64 (k : Int)))) rfl (og rfl (op_move rfl rfl rfl)) ?_
  refine rg_put (d := 12) (v := .d (.sl 1 (List.map rS u))) rfl (og rfl (op_move rfl rfl rfl)) ?_
  refine rg_put (d := 13) (v := .d (.fl (.int .i64 (u.length : Int)))) rfl (og rfl (s_len rfl Tryz.underlying46 rfl rfl)) ?_
  refine rg_put (d := 14) (v := .d (.fl (.bool ((decide ((k : Int) < (u.length : Int))))))) rfl (og rfl (op_bin rfl rfl rfl (b_lss _ _ _ _) rfl)) ?_
  refine rg_done rfl ?_
  refine a_cond rfl (fun h1 => ?_) (fun h1 => ?_)
  · skip
    have h2 := t_dec h1
    refine a_skip ?_
    show A _ _ _ _ _ _ _
    refine a_seq ?_
    refine a_block ?_
    refine a_dseq (by kernel_rfl) ?_
    refine dr_put (d := 17) (v := .d (.sl 1 (List.map rS u))) rfl (og rfl (op_move rfl rfl rfl)) ?_
    refine dr_put (d := 18) (v := .d (.fl (.int .i64 (k : Int)))) rfl (og rfl (op_move rfl rfl rfl)) ?_
    refine dr_put (d := 19) (v := .el ((rS (ix u k)))) rfl (og rfl (s_index rfl Tryz.underlying46 ti9 rfl rfl (by omega) (row_at (by omega)) rfl)) ?_
    refine dr_put (d := 20) (v := .d (.fl (.string (ix u k)))) rfl (og rfl (op_load_el rfl Tryz.underlying9 rfl rfl rfl rfl)) ?_
    refine dr_put (d := 21) (v := .d (.sl 1 (List.map rS u))) rfl (og rfl (op_move rfl rfl rfl)) ?_
    refine dr_put (d := 22) (v := .d (.fl (.int .i64 (k : Int)))) rfl (og rfl (op_move rfl rfl rfl)) ?_
    refine dr_put (d := 23) (v := .el ((rS (ix u k)))) rfl (og rfl (s_index rfl Tryz.underlying46 ti9 rfl rfl (by omega) (row_at (by omega)) rfl)) ?_
    refine dr_put (d := 24) (v := .d (.fl (.string (ix u k)))) rfl (og rfl (op_load_el rfl Tryz.underlying9 rfl rfl rfl rfl)) ?_
    refine dr_put (d := 25) (v := .d (.fl (.bool ((!(sEq (ix u k) (ix u k))))))) rfl (og rfl (op_bin rfl rfl rfl (b_sne _ _ _) rfl)) ?_
    refine dr_done rfl (by kernel_rfl) (by kernel_rfl) ?_
    refine a_condF rfl (not_f (by simp [sEq])) ?_
    refine a_skip ?_
    show A _ _ _ _ _ _ _
    refine a_region ?_
    refine rg_put (d := 15) (v := .d (.fl (.int .i64 (k : Int)))) rfl (og rfl (op_move rfl rfl rfl)) ?_
    refine rg_put (d := 16) (v := .d (.fl (.int .i64 (((k : Int) + 1))))) rfl (og rfl (op_bin rfl rfl rfl (fun x y w => b_add64 _ _ _ x y w (by omega)) rfl)) ?_
    refine rg_put (d := 5) (v := .d (.fl (.int .i64 (((k : Int) + 1))))) rfl (og rfl (op_assign rfl rfl rfl)) ?_
    refine rg_done rfl ?_
    show ∃ i, _ ∧ _ ∧ Imp _ _ _ _ _
    refine ⟨k + 1, (by omega), by omega, imp_forget rfl ⟨rfl, rfl, rfl, (by first | rfl | exact ci (by omega) | exact ci (by simp) | exact cd (by simp) | simp), trivial⟩ trivial⟩
  · skip
    have h3 := f_dec h1
    refine a_exit ?_
    show A _ _ _ _ _ _ _
    refine a_rseq ?_
    refine rg_put (d := 4) (v := .d (.fl (.bool true))) rfl (og rfl (op_assign rfl rfl rfl)) ?_
    refine rg_done rfl ?_
    refine a_ret ?_
    show ∃ ds, ResL _ _ _ ds ∧ RV.of ds = _
    refine ⟨[.fl (.bool true)], (.cons (.tmp rfl (.d _)) .nil), ?_⟩
    rfl
end Go.Proofs.YtakmjlpciicaiaaGreatDoor.Wk
