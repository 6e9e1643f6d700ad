/- The vehicles of a list. Condition: their texts are no longer than any text. -/
import Derived.Test.YtakmjlpciicaiaaGreatDoorSk
import Derived.Test.YtakmjlpciicaiaaGreatDoorB8
set_option linter.unusedSimpArgs false
set_option linter.unusedVariables false
namespace Go.Proofs.YtakmjlpciicaiaaGreatDoor.Wk
open Go Go.RowKit Go.Proofs.YtakmjlpciicaiaaGreatDoor.Av

/-- the vehicles of the first k passages, each once -/
def vs (l : List Psg) : Nat → List ByteArray
  | 0 => []
  | k + 1 => bif sEq (bel (ow l l.length) (ix l k)) em then vs l k else bif (vs l k).any (fun s => sEq s (bel (ow l l.length) (ix l k))) then vs l k else vs l k ++ [bel (ow l l.length) (ix l k)]
def setV (l : List ByteArray) : List (Value × DV) := l.map fun s => (Value.string s, DV.fl (.bool true))
theorem vs_no {l : List Psg} {k : Nat} (h : sEq (bel (ow l l.length) (ix l k)) em = true) : vs l (k + 1) = vs l k := by simp only [vs, h, cond_true]
theorem vs_old {l : List Psg} {k : Nat} (h : sEq (bel (ow l l.length) (ix l k)) em = false) (h2 : (vs l k).any (fun s => sEq s (bel (ow l l.length) (ix l k))) = true) : vs l (k + 1) = vs l k := by simp only [vs, h, h2, cond_true, cond_false]
theorem vs_new {l : List Psg} {k : Nat} (h : sEq (bel (ow l l.length) (ix l k)) em = false) (h2 : (vs l k).any (fun s => sEq s (bel (ow l l.length) (ix l k))) = false) : vs l (k + 1) = vs l k ++ [bel (ow l l.length) (ix l k)] := by simp only [vs, h, h2, cond_false]
theorem vs_len (l : List Psg) : ∀ k, (vs l k).length ≤ k
  | 0 => by simp [vs]
  | k + 1 => by
    have := vs_len l k
    simp only [vs]
    cases sEq (bel (ow l l.length) (ix l k)) em <;> cases (vs l k).any (fun s => sEq s (bel (ow l l.length) (ix l k))) <;> simp only [cond_true, cond_false, List.length_append, List.length_singleton] <;> omega

set_option maxHeartbeats 4000000 in
set_option maxRecDepth 100000 in
theorem vehC (l : List Psg) (hl : l.length ≤ 1000) (hb : ∀ s ∈ vs l l.length, s.size ≤ maxLen) : Ctr Tryz.prog 28 [.sl 8 (List.map ePsg l)] (.d (.sl 1 (List.map rS (srtS (vs l l.length))))) := by
  refine ctr (n := 28) (rs := #[.tmp 2]) (L := [(0, .d (.sl 8 (List.map ePsg l)))]) Tryz.func28 rfl rfl rfl rfl rfl (fun w0 U0 => ?_)
  refine a_rseq ?_
  refine rg_put (d := 2) (v := .d (.fl (.slice none 0 0))) rfl (og rfl (op_assign rfl rfl rfl)) ?_
  refine rg_done rfl ?_
  refine a_rseq ?_
  refine rg_put (d := 8) (v := .d (.sl 8 (List.map ePsg l))) rfl (og rfl (op_move rfl rfl rfl)) ?_
  refine rg_put (d := 9) (v := .d (.mp (setO (ow l l.length)))) rfl (og rfl (op_call rfl Tryz.func52 nm52 rfl (.cons rfl (.d _) .nil) (learnC l (by omega)) rfl)) ?_
  refine rg_put (d := 3) (v := .d (.mp (setO (ow l l.length)))) rfl (og rfl (op_assign rfl rfl rfl)) ?_
  refine rg_done rfl ?_
  refine a_rseq ?_
  refine rg_nam (d := 10) (v := .ow 101) (m := 101) (nw := [(101, .mp [])]) rfl (og rfl (op_makeMap 101 rfl rfl)) rfl ?_
  refine rg_put (d := 4) (v := .ow 101) rfl (og rfl (op_assign rfl rfl rfl)) ?_
  refine rg_done rfl ?_
  refine a_seq ?_
  refine a_rseq ?_
  refine rg_put (d := 11) (v := .d (.sl 8 (List.map ePsg l))) rfl (og rfl (op_move rfl rfl rfl)) ?_
  refine rg_put (d := 12) (v := .d (.fl (.int .i64 (l.length : Int)))) rfl (og rfl (s_len rfl Tryz.underlying38 rfl rfl)) ?_
  refine rg_put (d := 13) (v := .d (.fl (.int .i64 0))) rfl (og rfl (op_move rfl rfl rfl)) ?_
  refine rg_done rfl ?_
  refine a_block ?_
  refine a_loop (ι := Nat) (fun k => SS [(0, .d (.sl 8 (List.map ePsg l))), (2, .d (.fl (.slice none 0 0))), (3, .d (.mp (setO (ow l l.length)))), (4, .ow 101), (11, .d (.sl 8 (List.map ePsg l))), (12, .d (.fl (.int .i64 (l.length : Int)))), (13, .d (.fl (.int .i64 (k : Int))))] [(101, .mp ((setV (vs l k))))]) (fun k => k ≤ l.length) (fun k => l.length - k) 0 (by omega) (imp_forget rfl ⟨rfl, rfl, rfl, rfl, rfl, rfl, (by first | rfl | exact ci (by omega) | exact ci (by simp) | exact cd (by simp) | simp), trivial⟩ ⟨rfl, trivial⟩) (fun k hok => ?_)
  have hk := hok
  refine a_rseq ?_
  refine rg_put (d := 14) (v := .d (.fl (.bool ((decide ((k : Int) < (l.length : Int))))))) rfl (og rfl (op_bin rfl rfl rfl (b_lss _ _ _ _) rfl)) ?_
  refine rg_done rfl ?_
  refine a_seq ?_
  refine a_cond rfl (fun h1 => ?_) (fun h1 => ?_)
  · skip
    have h2 := t_dec h1
    refine a_skip ?_
    show A _ _ _ _ _ _ _
    refine a_seq ?_
    refine a_block ?_
    refine a_rseq ?_
    refine rg_put (d := 15) (v := .el ((ePsg (ix l k)))) rfl (og rfl (s_index rfl Tryz.underlying38 ti24 rfl rfl (by omega) (row_at (by omega)) rfl)) ?_
    refine rg_put (d := 16) (v := .d (.ag (ePsg (ix l k)))) rfl (og rfl (of_eff (s_load_els rfl Tryz.underlying24 rfl ti24 rfl rfl rfl) rfl)) ?_
    refine rg_nam (d := 6) (v := .pt 102 0) (m := 102) (nw := [(102, .bx 24 ([.fl (.string (⟨#[]⟩)), .fl (.string (⟨#[]⟩)), .fl (.int .i64 0), .fl (.string (⟨#[]⟩)), .fl (.string (⟨#[]⟩)), .fl (.int .i64 0), .fl (.int .i64 0), .fl (.slice none 0 0)]))]) rfl (og rfl (of_eff (s_alloc 102 rfl ti24 (by kernel_rfl) rfl) rfl)) rfl ?_
    refine rg_sto (nw := [(102, .bx 24 ((ePsg (ix l k))))]) rfl (og rfl (of_eff (s_store rfl rfl ti24 rfl rfl rfl rfl rfl rfl) rfl)) ?_
    refine rg_done rfl ?_
    refine a_rseq ?_
    refine rg_put (d := 17) (v := .d (.mp (setO (ow l l.length)))) rfl (og rfl (op_move rfl rfl rfl)) ?_
    refine rg_put (d := 18) (v := .d (.ag (ePsg (ix l k)))) rfl (og rfl (of_eff (s_load_pts rfl Tryz.underlying24 rfl ti24 rfl rfl rfl rfl) rfl)) ?_
    refine rg_put (d := 19) (v := .d (.fl (.string ((bel (ow l l.length) (ix l k)))))) rfl (og rfl (op_call rfl Tryz.func53 nm53 rfl (.cons rfl (.d _) (.cons rfl (.d _) .nil)) (belC (ow l l.length) (ix l k)) rfl)) ?_
    refine rg_put (d := 7) (v := .d (.fl (.string ((bel (ow l l.length) (ix l k)))))) rfl (og rfl (op_assign rfl rfl rfl)) ?_
    refine rg_done rfl ?_
    refine a_rseq ?_
    refine rg_put (d := 20) (v := .d (.fl (.string ((bel (ow l l.length) (ix l k)))))) rfl (og rfl (op_move rfl rfl rfl)) ?_
    refine rg_put (d := 21) (v := .d (.fl (.bool ((!(sEq ((bel (ow l l.length) (ix l k))) (⟨#[]⟩))))))) rfl (og rfl (op_bin rfl rfl rfl (b_sne _ _ _) rfl)) ?_
    refine rg_done rfl ?_
    refine a_cond rfl (fun h3 => ?_) (fun h3 => ?_)
    · skip
      have h4 := t_not h3
      refine a_region ?_
      refine rg_put (d := 22) (v := .ow 101) rfl (og rfl (op_move rfl rfl rfl)) ?_
      refine rg_put (d := 23) (v := .d (.fl (.string ((bel (ow l l.length) (ix l k)))))) rfl (og rfl (op_move rfl rfl rfl)) ?_
      rcases fot (((vs l k).any (fun s => sEq s (bel (ow l l.length) (ix l k))))) with h5 | h5
      · skip
        refine rg_sto (nw := [(101, .mp ((setV (vs l k)) ++ [((.string ((bel (ow l l.length) (ix l k)))), .fl (.bool true))]))]) rfl (og rfl (op_mapPush rfl rfl Tryz.underlying74 Tryz.underlying9 rfl rfl rfl rfl ((mfind_set (fun s => s) _ _).trans (by rw [show ((vs l k).any fun s => sEq s (bel (ow l l.length) (ix l k))) = false from h5]; rfl)) rfl)) ?_
        refine rg_done rfl ?_
        show A _ _ _ _ _ _ _
        refine a_region ?_
        refine rg_put (d := 24) (v := .d (.fl (.int .i64 (((k : Int) + 1))))) rfl (og rfl (op_bin rfl rfl rfl (fun x y w => b_add64 _ _ _ x y w (by omega)) rfl)) ?_
        refine rg_put (d := 13) (v := .d (.fl (.int .i64 (((k : Int) + 1))))) rfl (og rfl (op_move rfl rfl rfl)) ?_
        refine rg_done rfl ?_
        have hst : ((setV (vs l k)) ++ [((.string ((bel (ow l l.length) (ix l k)))), .fl (.bool true))]) = setV (vs l (k + 1)) := by rw [vs_new h4 h5]; unfold setV; rw [List.map_append]; rfl
        show ∃ i, _ ∧ _ ∧ Imp _ _ _ _ _
        refine ⟨k + 1, (by omega), by omega, imp_forget rfl ⟨rfl, rfl, rfl, rfl, rfl, rfl, (by first | rfl | exact ci (by omega) | exact ci (by simp) | exact cd (by simp) | simp), trivial⟩ ⟨(congrArg (fun z => Ob.mp z) hst), trivial⟩⟩
      · skip
        refine rg_sto (nw := [(101, .mp ((setV (vs l k))))]) rfl (og rfl (op_mapSameS rfl rfl Tryz.underlying74 Tryz.underlying9 rfl rfl rfl rfl ((mfind_set (fun s => s) _ _).trans (by rw [show ((vs l k).any fun s => sEq s (bel (ow l l.length) (ix l k))) = true from h5]; rfl)) rfl)) ?_
        refine rg_done rfl ?_
        show A _ _ _ _ _ _ _
        refine a_region ?_
        refine rg_put (d := 24) (v := .d (.fl (.int .i64 (((k : Int) + 1))))) rfl (og rfl (op_bin rfl rfl rfl (fun x y w => b_add64 _ _ _ x y w (by omega)) rfl)) ?_
        refine rg_put (d := 13) (v := .d (.fl (.int .i64 (((k : Int) + 1))))) rfl (og rfl (op_move rfl rfl rfl)) ?_
        refine rg_done rfl ?_
        have hst : (setV (vs l k)) = setV (vs l (k + 1)) := by rw [vs_old h4 h5]
        show ∃ i, _ ∧ _ ∧ Imp _ _ _ _ _
        refine ⟨k + 1, (by omega), by omega, imp_forget rfl ⟨rfl, rfl, rfl, rfl, rfl, rfl, (by first | rfl | exact ci (by omega) | exact ci (by simp) | exact cd (by simp) | simp), trivial⟩ ⟨(congrArg (fun z => Ob.mp z) hst), trivial⟩⟩
    · skip
      have h6 := f_not h3
      refine a_skip ?_
      show A _ _ _ _ _ _ _
      refine a_region ?_
      refine rg_put (d := 24) (v := .d (.fl (.int .i64 (((k : Int) + 1))))) rfl (og rfl (op_bin rfl rfl rfl (fun x y w => b_add64 _ _ _ x y w (by omega)) rfl)) ?_
      refine rg_put (d := 13) (v := .d (.fl (.int .i64 (((k : Int) + 1))))) rfl (og rfl (op_move rfl rfl rfl)) ?_
      refine rg_done rfl ?_
      have hst : (setV (vs l k)) = setV (vs l (k + 1)) := by rw [vs_no h6]
      show ∃ i, _ ∧ _ ∧ Imp _ _ _ _ _
      refine ⟨k + 1, (by omega), by omega, imp_forget rfl ⟨rfl, rfl, rfl, rfl, rfl, rfl, (by first | rfl | exact ci (by omega) | exact ci (by simp) | exact cd (by simp) | simp), trivial⟩ ⟨(congrArg (fun z => Ob.mp z) hst), trivial⟩⟩
  · skip
    have h7 := f_dec h1
    refine a_exit ?_
    show A _ _ _ _ _ _ _
    refine a_rseq ?_
    have hkl : k = l.length := by omega
    rw [show (setV (vs l k)) = (setV (vs l l.length)) from (by rw [hkl])]
    have hvl := vs_len l l.length
    refine rg_put (d := 25) (v := .ow 101) rfl (og rfl (op_move rfl rfl rfl)) ?_
    refine rg_imp (imp_mp 25 101 rfl rfl) ?_
    refine rg_two (m2 := 103) rfl rfl rfl rfl rfl Tryz.func56 nm56 rfl rfl rfl rfl rfl rfl Tryz.func55 nm55 rfl rfl (keysF keysG _) (sortedV sortedG Tryz.underlying9 (l := vs l l.length) (by unfold setV; rw [List.map_map]; rfl) (by omega) hb) rfl ?_
    refine rg_put (d := 2) (v := .ow 103) rfl (og rfl (op_assign rfl rfl rfl)) ?_
    refine rg_done rfl ?_
    refine a_imp (imp_leakT 2 103 rfl rfl) ?_
    refine a_ret ?_
    show ∃ ds, ResL _ _ _ ds ∧ RV.of ds = _
    refine ⟨[.sl 1 (List.map rS ((srtS (vs l l.length))))], (.cons (.tmp rfl (.d _)) .nil), ?_⟩
    rfl
end Go.Proofs.YtakmjlpciicaiaaGreatDoor.Wk
