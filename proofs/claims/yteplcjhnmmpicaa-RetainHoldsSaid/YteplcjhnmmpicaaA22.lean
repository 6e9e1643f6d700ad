/- Holds, the plain way. Condition: lists of at most a thousand. -/
import Derived.Test.YteplcjhnmmpicaaAv29
import Derived.Test.YteplcjhnmmpicaaA20
import Derived.Test.YteplcjhnmmpicaaAv22
import Derived.Test.YteplcjhnmmpicaaA21
set_option linter.unusedSimpArgs false
set_option linter.unusedVariables false
namespace Go.Proofs.Yteplcjhnmmpicaa.Wk
open Go Go.RowKit Go.Proofs.Yteplcjhnmmpicaa.Av
theorem sEq_comm (a b : ByteArray) : sEq a b = sEq b a := by
  unfold sEq
  rw [Bool.eq_iff_iff]
  simp [eq_comm]
theorem idx_comm (r : ByteArray) (l : List ByteArray) : idx (fun x => sEq x r) l = idx (fun x => sEq r x) l := by
  congr 1; funext x; exact sEq_comm x r
theorem take_mapI {l : List Im} {k : Nat} (h : k < l.length) : (l.take k).map oIm ++ [oIm (ix l k)] = (l.take (k + 1)).map oIm := by
  rw [take_ix h, List.map_append]; rfl
theorem map_allI {l : List Im} {k : Nat} (h : ¬ k < l.length) : (l.take k).map oIm = l.map oIm := by
  rw [List.take_of_length_le (by omega)]

set_option maxHeartbeats 4000000 in
set_option maxRecDepth 100000 in
theorem ref_find (l : List Im) (id : ByteArray) (hl : l.length < 9223372036854775807) : Ctr Try.prog 36 [.sl 5 (List.map eIm l), .fl (.string id)] (.d (.fl (.int .i64 (ifind l id)))) := by
  refine ctr (n := 20) (rs := #[.tmp 4]) (L := [(0, .d (.sl 5 (List.map eIm l))), (1, .d (.fl (.string id)))]) Try.func36 rfl rfl rfl rfl rfl (fun w0 U0 => ?_)
  refine a_rseq ?_
  refine rg_put (d := 4) (v := .d (.fl (.int .i64 0))) rfl (og rfl (op_assign rfl rfl rfl)) ?_
  refine rg_done rfl ?_
  refine a_seq ?_
  refine a_rseq ?_
  refine rg_put (d := 5) (v := .d (.fl (.int .i64 0))) rfl (og rfl (op_assign rfl rfl rfl)) ?_
  refine rg_done rfl ?_
  refine a_block ?_
  refine a_loop (ι := Nat) (fun k => SS [(0, .d (.sl 5 (List.map eIm l))), (1, .d (.fl (.string id))), (5, .d (.fl (.int .i64 (k : Int))))] []) (fun k => k ≤ l.length ∧ ∀ q, q < k → (sEq ((ix l q).id) id) = false) (fun k => l.length - k) 0 (⟨by omega, fun q h => by omega⟩) (imp_forget rfl ⟨rfl, rfl, (by first | rfl | exact ci (by omega) | exact ci (by simp) | exact cd (by simp) | simp), trivial⟩ trivial) (fun k hok => ?_)
  obtain ⟨hk, hq⟩ := hok
  refine a_seq ?_
  refine a_rseq ?_
  refine rg_put (d := 6) (v := .d (.fl (.int .i64 (k : Int)))) rfl (og rfl (op_move rfl rfl rfl)) ?_
  refine rg_put (d := 7) (v := .d (.sl 5 (List.map eIm l))) rfl (og rfl (op_move rfl rfl rfl)) ?_
  refine rg_put (d := 8) (v := .d (.fl (.int .i64 (l.length : Int)))) rfl (og rfl (s_len rfl Try.underlying36 rfl rfl)) ?_
  refine rg_put (d := 9) (v := .d (.fl (.bool ((decide ((k : Int) < (l.length : Int))))))) rfl (og rfl (op_bin rfl rfl rfl (b_lss _ _ _ _) rfl)) ?_
  refine rg_done rfl ?_
  refine a_cond rfl (fun h1 => ?_) (fun h1 => ?_)
  · skip
    have h2 := t_dec h1
    refine a_skip ?_
    show A _ _ _ _ _ _ _
    refine a_seq ?_
    refine a_block ?_
    refine a_rseq ?_
    refine rg_put (d := 12) (v := .d (.sl 5 (List.map eIm l))) rfl (og rfl (op_move rfl rfl rfl)) ?_
    refine rg_put (d := 13) (v := .d (.fl (.int .i64 (k : Int)))) rfl (og rfl (op_move rfl rfl rfl)) ?_
    refine rg_put (d := 14) (v := .el ((eIm (ix l k)))) rfl (og rfl (s_index rfl Try.underlying36 ti26 rfl rfl (by omega) (row_at (by omega)) rfl)) ?_
    refine rg_put (d := 15) (v := .el ((List.drop 0 ((eIm (ix l k)))))) rfl (og rfl (of_eff (s_field_el rfl Try.underlying26 rfl ti9 rfl rfl rfl) rfl)) ?_
    refine rg_put (d := 16) (v := .d (.fl (.string ((ix l k).id)))) rfl (og rfl (op_load_el rfl Try.underlying9 rfl rfl rfl rfl)) ?_
    refine rg_put (d := 17) (v := .d (.fl (.string id))) rfl (og rfl (op_move rfl rfl rfl)) ?_
    refine rg_put (d := 18) (v := .d (.fl (.bool ((sEq ((ix l k).id) id))))) rfl (og rfl (op_bin rfl rfl rfl (b_seq _ _ _) rfl)) ?_
    refine rg_done rfl ?_
    refine a_cond rfl (fun h3 => ?_) (fun h3 => ?_)
    · skip
      refine a_rseq ?_
      refine rg_put (d := 19) (v := .d (.fl (.int .i64 (k : Int)))) rfl (og rfl (op_move rfl rfl rfl)) ?_
      refine rg_put (d := 4) (v := .d (.fl (.int .i64 (k : Int)))) rfl (og rfl (op_assign rfl rfl rfl)) ?_
      refine rg_done rfl ?_
      refine a_ret ?_
      show ∃ ds, ResL _ _ _ ds ∧ RV.of ds = _
      refine ⟨[.fl (.int .i64 (k : Int))], (.cons (.tmp rfl (.d _)) .nil), ?_⟩
      exact congrArg (fun i => RV.d (.fl (.int .i64 i))) (idx_at (by omega) hq h3).symm
    · skip
      refine a_skip ?_
      show A _ _ _ _ _ _ _
      refine a_region ?_
      refine rg_put (d := 10) (v := .d (.fl (.int .i64 (k : Int)))) rfl (og rfl (op_move rfl rfl rfl)) ?_
      refine rg_put (d := 11) (v := .d (.fl (.int .i64 (((k : Int) + 1))))) rfl (og rfl (op_bin rfl rfl rfl (fun x y w => b_add64 _ _ _ x y w (by omega)) rfl)) ?_
      refine rg_put (d := 5) (v := .d (.fl (.int .i64 (((k : Int) + 1))))) rfl (og rfl (op_assign rfl rfl rfl)) ?_
      refine rg_done rfl ?_
      show ∃ i, _ ∧ _ ∧ Imp _ _ _ _ _
      refine ⟨k + 1, ⟨by omega, fun q h => by
        rcases Nat.lt_succ_iff_lt_or_eq.1 h with h | h
        · exact hq q h
        · subst h; exact h3⟩, by omega, imp_forget rfl ⟨rfl, rfl, (by first | rfl | exact ci (by omega) | exact ci (by simp) | exact cd (by simp) | simp), trivial⟩ trivial⟩
  · skip
    have h4 := f_dec h1
    refine a_exit ?_
    show A _ _ _ _ _ _ _
    refine a_rseq ?_
    refine rg_put (d := 4) (v := .d (.fl (.int .i64 (-1)))) rfl (og rfl (op_assign rfl rfl rfl)) ?_
    refine rg_done rfl ?_
    refine a_ret ?_
    show ∃ ds, ResL _ _ _ ds ∧ RV.of ds = _
    refine ⟨[.fl (.int .i64 (-1))], (.cons (.tmp rfl (.d _)) .nil), ?_⟩
    exact congrArg (fun i => RV.d (.fl (.int .i64 i))) (idx_no (fun q h => hq q (by omega))).symm
set_option maxHeartbeats 4000000 in
set_option maxRecDepth 100000 in
theorem ref_has0 (l : List ByteArray) (reason : ByteArray) (hl : l.length < 9223372036854775807) : Ctr Try.prog 37 [.sl 1 (List.map rS l), .fl (.string reason)] (.d (.fl (.int .i64 (idx (fun x => sEq x reason) l)))) := by
  refine ctr (n := 19) (rs := #[.tmp 4]) (L := [(0, .d (.sl 1 (List.map rS l))), (1, .d (.fl (.string reason)))]) Try.func37 rfl rfl rfl rfl rfl (fun w0 U0 => ?_)
  refine a_rseq ?_
  refine rg_put (d := 4) (v := .d (.fl (.int .i64 0))) rfl (og rfl (op_assign rfl rfl rfl)) ?_
  refine rg_done rfl ?_
  refine a_seq ?_
  refine a_rseq ?_
  refine rg_put (d := 5) (v := .d (.fl (.int .i64 0))) rfl (og rfl (op_assign rfl rfl rfl)) ?_
  refine rg_done rfl ?_
  refine a_block ?_
  refine a_loop (ι := Nat) (fun k => SS [(0, .d (.sl 1 (List.map rS l))), (1, .d (.fl (.string reason))), (5, .d (.fl (.int .i64 (k : Int))))] []) (fun k => k ≤ l.length ∧ ∀ q, q < k → (sEq (ix l q) reason) = false) (fun k => l.length - k) 0 (⟨by omega, fun q h => by omega⟩) (imp_forget rfl ⟨rfl, rfl, (by first | rfl | exact ci (by omega) | exact ci (by simp) | exact cd (by simp) | simp), trivial⟩ trivial) (fun k hok => ?_)
  obtain ⟨hk, hq⟩ := hok
  refine a_seq ?_
  refine a_rseq ?_
  refine rg_put (d := 6) (v := .d (.fl (.int .i64 (k : Int)))) rfl (og rfl (op_move rfl rfl rfl)) ?_
  refine rg_put (d := 7) (v := .d (.sl 1 (List.map rS l))) rfl (og rfl (op_move rfl rfl rfl)) ?_
  refine rg_put (d := 8) (v := .d (.fl (.int .i64 (l.length : Int)))) rfl (og rfl (s_len rfl Try.underlying23 rfl rfl)) ?_
  refine rg_put (d := 9) (v := .d (.fl (.bool ((decide ((k : Int) < (l.length : Int))))))) rfl (og rfl (op_bin rfl rfl rfl (b_lss _ _ _ _) rfl)) ?_
  refine rg_done rfl ?_
  refine a_cond rfl (fun h1 => ?_) (fun h1 => ?_)
  · skip
    have h2 := t_dec h1
    refine a_skip ?_
    show A _ _ _ _ _ _ _
    refine a_seq ?_
    refine a_block ?_
    refine a_rseq ?_
    refine rg_put (d := 12) (v := .d (.sl 1 (List.map rS l))) rfl (og rfl (op_move rfl rfl rfl)) ?_
    refine rg_put (d := 13) (v := .d (.fl (.int .i64 (k : Int)))) rfl (og rfl (op_move rfl rfl rfl)) ?_
    refine rg_put (d := 14) (v := .el ((rS (ix l k)))) rfl (og rfl (s_index rfl Try.underlying23 ti9 rfl rfl (by omega) (row_at (by omega)) rfl)) ?_
    refine rg_put (d := 15) (v := .d (.fl (.string (ix l k)))) rfl (og rfl (op_load_el rfl Try.underlying9 rfl rfl rfl rfl)) ?_
    refine rg_put (d := 16) (v := .d (.fl (.string reason))) rfl (og rfl (op_move rfl rfl rfl)) ?_
    refine rg_put (d := 17) (v := .d (.fl (.bool ((sEq (ix l k) reason))))) rfl (og rfl (op_bin rfl rfl rfl (b_seq _ _ _) rfl)) ?_
    refine rg_done rfl ?_
    refine a_cond rfl (fun h3 => ?_) (fun h3 => ?_)
    · skip
      refine a_rseq ?_
      refine rg_put (d := 18) (v := .d (.fl (.int .i64 (k : Int)))) rfl (og rfl (op_move rfl rfl rfl)) ?_
      refine rg_put (d := 4) (v := .d (.fl (.int .i64 (k : Int)))) rfl (og rfl (op_assign rfl rfl rfl)) ?_
      refine rg_done rfl ?_
      refine a_ret ?_
      show ∃ ds, ResL _ _ _ ds ∧ RV.of ds = _
      refine ⟨[.fl (.int .i64 (k : Int))], (.cons (.tmp rfl (.d _)) .nil), ?_⟩
      exact congrArg (fun i => RV.d (.fl (.int .i64 i))) (idx_at (by omega) hq h3).symm
    · skip
      refine a_skip ?_
      show A _ _ _ _ _ _ _
      refine a_region ?_
      refine rg_put (d := 10) (v := .d (.fl (.int .i64 (k : Int)))) rfl (og rfl (op_move rfl rfl rfl)) ?_
      refine rg_put (d := 11) (v := .d (.fl (.int .i64 (((k : Int) + 1))))) rfl (og rfl (op_bin rfl rfl rfl (fun x y w => b_add64 _ _ _ x y w (by omega)) rfl)) ?_
      refine rg_put (d := 5) (v := .d (.fl (.int .i64 (((k : Int) + 1))))) rfl (og rfl (op_assign rfl rfl rfl)) ?_
      refine rg_done rfl ?_
      show ∃ i, _ ∧ _ ∧ Imp _ _ _ _ _
      refine ⟨k + 1, ⟨by omega, fun q h => by
        rcases Nat.lt_succ_iff_lt_or_eq.1 h with h | h
        · exact hq q h
        · subst h; exact h3⟩, by omega, imp_forget rfl ⟨rfl, rfl, (by first | rfl | exact ci (by omega) | exact ci (by simp) | exact cd (by simp) | simp), trivial⟩ trivial⟩
  · skip
    have h4 := f_dec h1
    refine a_exit ?_
    show A _ _ _ _ _ _ _
    refine a_rseq ?_
    refine rg_put (d := 4) (v := .d (.fl (.int .i64 (-1)))) rfl (og rfl (op_assign rfl rfl rfl)) ?_
    refine rg_done rfl ?_
    refine a_ret ?_
    show ∃ ds, ResL _ _ _ ds ∧ RV.of ds = _
    refine ⟨[.fl (.int .i64 (-1))], (.cons (.tmp rfl (.d _)) .nil), ?_⟩
    exact congrArg (fun i => RV.d (.fl (.int .i64 i))) (idx_no (fun q h => hq q (by omega))).symm
theorem ref_has (l : List ByteArray) (reason : ByteArray) (hl : l.length < 9223372036854775807) : Ctr Try.prog 37 [.sl 1 (List.map rS l), .fl (.string reason)] (.d (.fl (.int .i64 (idx (fun x => sEq reason x) l)))) := by
  rw [← idx_comm]; exact ref_has0 l reason hl
set_option maxHeartbeats 4000000 in
set_option maxRecDepth 100000 in
theorem ref_all (l : List Im) (hl : l.length ≤ 1000) (hb : ∀ q, q < l.length → (ix l q).hold.length ≤ 1000) : CtrO Try.prog 38 [.sl 5 (List.map eIm l)] (.tr 26 5 (l.map oIm)) := by
  refine ctrO (n := 20) (rs := #[.tmp 2]) (L := [(0, .d (.sl 5 (List.map eIm l)))]) Try.func38 rfl rfl rfl rfl rfl (fun w0 U0 => ?_)
  refine a_rseq ?_
  refine rg_put (d := 2) (v := .d (.fl (.slice none 0 0))) rfl (og rfl (op_assign rfl rfl rfl)) ?_
  refine rg_done rfl ?_
  refine a_rseq ?_
  refine rg_put (d := 3) (v := .d (.fl (.slice none 0 0))) rfl (og rfl (op_assign rfl rfl rfl)) ?_
  refine rg_done rfl ?_
  refine a_seq ?_
  refine a_rseq ?_
  refine rg_put (d := 4) (v := .d (.fl (.int .i64 0))) rfl (og rfl (op_assign rfl rfl rfl)) ?_
  refine rg_done rfl ?_
  refine a_block ?_
  refine a_loop (ι := Nat) (fun k => SS [(0, .d (.sl 5 (List.map eIm l))), (2, .d (.fl (.slice none 0 0))), (4, .d (.fl (.int .i64 (k : Int)))), (3, .ow 201)] [(201, .tr 26 5 (((l.take k).map oIm)))]) (fun k => k ≤ l.length) (fun k => l.length - k) 0 (by omega) (Imp.trans (imp_nilT 3 201 26 5 rfl rfl) (imp_forget rfl ⟨rfl, rfl, (by first | rfl | exact ci (by omega) | exact ci (by simp) | exact cd (by simp) | simp), (by first | rfl | exact ci (by omega) | exact ci (by simp) | exact cd (by simp) | simp), trivial⟩ ⟨(by first | rfl | simp), trivial⟩)) (fun k hok => ?_)
  have hk := hok
  refine a_seq ?_
  refine a_rseq ?_
  refine rg_put (d := 5) (v := .d (.fl (.int .i64 (k : Int)))) rfl (og rfl (op_move rfl rfl rfl)) ?_
  refine rg_put (d := 6) (v := .d (.sl 5 (List.map eIm l))) rfl (og rfl (op_move rfl rfl rfl)) ?_
  refine rg_put (d := 7) (v := .d (.fl (.int .i64 (l.length : Int)))) rfl (og rfl (s_len rfl Try.underlying36 rfl rfl)) ?_
  refine rg_put (d := 8) (v := .d (.fl (.bool ((decide ((k : Int) < (l.length : Int))))))) rfl (og rfl (op_bin rfl rfl rfl (b_lss _ _ _ _) rfl)) ?_
  refine rg_done rfl ?_
  refine a_cond rfl (fun h1 => ?_) (fun h1 => ?_)
  · skip
    have h2 := t_dec h1
    refine a_skip ?_
    show A _ _ _ _ _ _ _
    refine a_seq ?_
    refine a_block ?_
    refine a_region ?_
    have hbk := hb k (by omega)
    refine rg_put (d := 11) (v := .ow 201) rfl (og rfl (op_move rfl rfl rfl)) ?_
    refine rg_put (d := 12) (v := .d (.sl 5 (List.map eIm l))) rfl (og rfl (op_move rfl rfl rfl)) ?_
    refine rg_put (d := 13) (v := .d (.fl (.int .i64 (k : Int)))) rfl (og rfl (op_move rfl rfl rfl)) ?_
    refine rg_put (d := 14) (v := .el ((eIm (ix l k)))) rfl (og rfl (s_index rfl Try.underlying36 ti26 rfl rfl (by omega) (row_at (by omega)) rfl)) ?_
    refine rg_put (d := 15) (v := .d (.ag (eIm (ix l k)))) rfl (og rfl (of_eff (s_load_els rfl Try.underlying26 rfl ti26 rfl rfl rfl) rfl)) ?_
    refine rg_nam (d := 16) (v := .ow 101) (m := 101) (nw := [(101, .sv [.dv (.fl (.string ((ix l k).id))), .dv (.fl (.int .i64 ((ix l k).time))), .dv (.fl (.int .i64 ((ix l k).purpose))), .ow 9 1 (List.map rS ((ix l k).hold)), .dv (.fl (.int .u64 ((ix l k).dig)))])]) rfl (og rfl (of_eff (op_callO 101 rfl Try.func30 nm30 rfl (.cons rfl (.d _) .nil) (ref_copied (ix l k) (by have := hb k (by omega); omega)) rfl) rfl)) rfl ?_
    refine rg_nam (d := 17) (v := .ow 102) (m := 102) (nw := [(102, .tr 26 5 ([[.dv (.fl (.string ((ix l k).id))), .dv (.fl (.int .i64 ((ix l k).time))), .dv (.fl (.int .i64 ((ix l k).purpose))), .ow 9 1 (List.map rS ((ix l k).hold)), .dv (.fl (.int .u64 ((ix l k).dig)))]])), (101, .no)]) rfl (og rfl (of_eff (op_slice1 102 rfl Try.underlying36 ti26 rfl rfl rfl rfl rfl rfl rfl) rfl)) rfl ?_
    refine rg_nam (d := 18) (v := .ow 103) (m := 103) (nw := [(103, .tr 26 5 ((((l.take k).map oIm) ++ [[.dv (.fl (.string ((ix l k).id))), .dv (.fl (.int .i64 ((ix l k).time))), .dv (.fl (.int .i64 ((ix l k).purpose))), .ow 9 1 (List.map rS ((ix l k).hold)), .dv (.fl (.int .u64 ((ix l k).dig)))]]))), (201, .no), (102, .no)]) rfl (og rfl (of_eff (op_append_tr 103 rfl Try.underlying36 ti26 rfl rfl rfl rfl rfl (RowsS.tr rfl) rfl (n := k) (n' := 1) (by simp; omega) rfl (by omega) rfl) rfl)) rfl ?_
    refine rg_put (d := 3) (v := .ow 103) rfl (og rfl (op_assign rfl rfl rfl)) ?_
    refine rg_done rfl ?_
    show A _ _ _ _ _ _ _
    refine a_region ?_
    refine rg_put (d := 9) (v := .d (.fl (.int .i64 (k : Int)))) rfl (og rfl (op_move rfl rfl rfl)) ?_
    refine rg_put (d := 10) (v := .d (.fl (.int .i64 (((k : Int) + 1))))) rfl (og rfl (op_bin rfl rfl rfl (fun x y w => b_add64 _ _ _ x y w (by omega)) rfl)) ?_
    refine rg_put (d := 4) (v := .d (.fl (.int .i64 (((k : Int) + 1))))) rfl (og rfl (op_assign rfl rfl rfl)) ?_
    refine rg_done rfl ?_
    show ∃ i, _ ∧ _ ∧ Imp _ _ _ _ _
    refine ⟨k + 1, (by omega), by omega, imp_ren (fun m => bif Nat.beq m 201 then 103 else m) rfl ⟨rfl, rfl, (by first | rfl | exact ci (by omega) | exact ci (by simp) | exact cd (by simp) | simp), rfl, trivial⟩ ⟨(congrArg (Ob.tr 26 5) (take_mapI (by omega))), trivial⟩⟩
  · skip
    have h3 := f_dec h1
    refine a_exit ?_
    show A _ _ _ _ _ _ _
    refine a_rseq ?_
    refine rg_put (d := 19) (v := .ow 201) rfl (og rfl (op_move rfl rfl rfl)) ?_
    refine rg_put (d := 2) (v := .ow 201) rfl (og rfl (op_assign rfl rfl rfl)) ?_
    refine rg_done rfl ?_
    refine a_ret ?_
    show ∃ rv, _ = #[rv] ∧ ResO _ _ rv _
    rw [← map_allI (l := l) (k := k) (by omega)]
    exact ⟨_, rfl, .tmp rfl rfl⟩
set_option maxHeartbeats 4000000 in
set_option maxRecDepth 100000 in
theorem ref_hold (l : List Im) (id reason : ByteArray) (hl : l.length ≤ 1000) (hb : ∀ q, q < l.length → (ix l q).hold.length ≤ 1000) : Ctr Try.prog 22 [.sl 5 (List.map eIm l), .fl (.string id), .fl (.string reason)] (.tu [.sl 5 (List.map eIm (hld l id reason).1), .fl (.int .i64 (hld l id reason).2)]) := by
  refine ctr (n := 52) (rs := #[.tmp 6, .tmp 7]) (L := [(0, .d (.sl 5 (List.map eIm l))), (1, .d (.fl (.string id))), (2, .d (.fl (.string reason)))]) Try.func22 rfl rfl rfl rfl rfl (fun w0 U0 => ?_)
  refine a_rseq ?_
  refine rg_put (d := 6) (v := .d (.fl (.slice none 0 0))) rfl (og rfl (op_assign rfl rfl rfl)) ?_
  refine rg_put (d := 7) (v := .d (.fl (.int .i64 0))) rfl (og rfl (op_assign rfl rfl rfl)) ?_
  refine rg_done rfl ?_
  refine a_seq ?_
  refine a_rseq ?_
  refine rg_put (d := 10) (v := .d (.fl (.string reason))) rfl (og rfl (op_move rfl rfl rfl)) ?_
  refine rg_put (d := 11) (v := .d (.fl (.bool (isN reason)))) rfl (og rfl (op_call rfl Try.func35 nm35 rfl (.cons rfl (.d _) .nil) (ref_name reason) rfl)) ?_
  refine rg_put (d := 12) (v := .d (.fl (.bool ((!(isN reason)))))) rfl (og rfl (op_un rfl rfl (u_not _) rfl)) ?_
  refine rg_done rfl ?_
  refine a_cond rfl (fun h1 => ?_) (fun h1 => ?_)
  · skip
    have h2 := t_not h1
    refine a_rseq ?_
    refine rg_put (d := 13) (v := .d (.sl 5 (List.map eIm l))) rfl (og rfl (op_move rfl rfl rfl)) ?_
    refine rg_put (d := 6) (v := .d (.sl 5 (List.map eIm l))) rfl (og rfl (op_assign rfl rfl rfl)) ?_
    refine rg_put (d := 7) (v := .d (.fl (.int .i64 6))) rfl (og rfl (op_assign rfl rfl rfl)) ?_
    refine rg_done rfl ?_
    refine a_ret ?_
    show ∃ ds, ResL _ _ _ ds ∧ RV.of ds = _
    refine ⟨[.sl 5 (List.map eIm l), .fl (.int .i64 6)], (.cons (.tmp rfl (.d _)) (.cons (.tmp rfl (.d _)) .nil)), ?_⟩
    have hu : hld l id reason = (l, 6) := by
      unfold hld has; simp only [h1, h2]; rfl
    rw [hu]; rfl
  · skip
    have h3 := f_not h1
    refine a_skip ?_
    show A _ _ _ _ _ _ _
    refine a_rseq ?_
    refine rg_put (d := 14) (v := .d (.sl 5 (List.map eIm l))) rfl (og rfl (op_move rfl rfl rfl)) ?_
    refine rg_put (d := 15) (v := .d (.fl (.string id))) rfl (og rfl (op_move rfl rfl rfl)) ?_
    refine rg_put (d := 16) (v := .d (.fl (.int .i64 (ifind l id)))) rfl (og rfl (op_call rfl Try.func36 nm36 rfl (.cons rfl (.d _) (.cons rfl (.d _) .nil)) (ref_find l id (by omega)) rfl)) ?_
    refine rg_put (d := 8) (v := .d (.fl (.int .i64 (ifind l id)))) rfl (og rfl (op_assign rfl rfl rfl)) ?_
    refine rg_done rfl ?_
    refine a_seq ?_
    refine a_rseq ?_
    refine rg_put (d := 17) (v := .d (.fl (.int .i64 (ifind l id)))) rfl (og rfl (op_move rfl rfl rfl)) ?_
    refine rg_put (d := 18) (v := .d (.fl (.bool ((decide ((ifind l id) < 0)))))) rfl (og rfl (op_bin rfl rfl rfl (b_lss _ _ _ _) rfl)) ?_
    refine rg_done rfl ?_
    refine a_cond rfl (fun h4 => ?_) (fun h4 => ?_)
    · skip
      have h5 := t_dec h4
      refine a_rseq ?_
      refine rg_put (d := 19) (v := .d (.sl 5 (List.map eIm l))) rfl (og rfl (op_move rfl rfl rfl)) ?_
      refine rg_put (d := 6) (v := .d (.sl 5 (List.map eIm l))) rfl (og rfl (op_assign rfl rfl rfl)) ?_
      refine rg_put (d := 7) (v := .d (.fl (.int .i64 10))) rfl (og rfl (op_assign rfl rfl rfl)) ?_
      refine rg_done rfl ?_
      refine a_ret ?_
      show ∃ ds, ResL _ _ _ ds ∧ RV.of ds = _
      refine ⟨[.sl 5 (List.map eIm l), .fl (.int .i64 10)], (.cons (.tmp rfl (.d _)) (.cons (.tmp rfl (.d _)) .nil)), ?_⟩
      have hu : hld l id reason = (l, 10) := by
        unfold hld has; simp only [h1, h3, h4]; rfl
      rw [hu]; rfl
    · skip
      have h6 := f_dec h4
      refine a_skip ?_
      show A _ _ _ _ _ _ _
      refine a_seq ?_
      refine a_rseq ?_
      have hi := ifind_lt l id
      have hbi := hb (ifind l id).toNat (by omega)
      refine rg_put (d := 20) (v := .d (.sl 5 (List.map eIm l))) rfl (og rfl (op_move rfl rfl rfl)) ?_
      refine rg_put (d := 21) (v := .d (.fl (.int .i64 (ifind l id)))) rfl (og rfl (op_move rfl rfl rfl)) ?_
      refine rg_put (d := 22) (v := .el ((eIm ((ix l ((ifind l id)).toNat))))) rfl (og rfl (s_index rfl Try.underlying36 ti26 rfl rfl (by omega) (row_atI (by omega) (by omega)) rfl)) ?_
      refine rg_put (d := 23) (v := .el ((List.drop 3 ((eIm ((ix l ((ifind l id)).toNat))))))) rfl (og rfl (of_eff (s_field_el rfl Try.underlying26 rfl ti23 rfl rfl rfl) rfl)) ?_
      refine rg_put (d := 24) (v := .d (.sl 1 (List.map rS (((ix l ((ifind l id)).toNat)).hold)))) rfl (og rfl (op_load_el rfl Try.underlying23 rfl rfl rfl rfl)) ?_
      refine rg_put (d := 25) (v := .d (.fl (.string reason))) rfl (og rfl (op_move rfl rfl rfl)) ?_
      refine rg_put (d := 26) (v := .d (.fl (.int .i64 ((idx (fun x => sEq reason x) (((ix l ((ifind l id)).toNat)).hold)))))) rfl (og rfl (op_call rfl Try.func37 nm37 rfl (.cons rfl (.d _) (.cons rfl (.d _) .nil)) (ref_has (((ix l ((ifind l id)).toNat)).hold) reason (by omega)) rfl)) ?_
      refine rg_put (d := 27) (v := .d (.fl (.bool ((decide (0 ≤ (idx (fun x => sEq reason x) (((ix l ((ifind l id)).toNat)).hold)))))))) rfl (og rfl (op_bin rfl rfl rfl (b_geq _ _ _ _) rfl)) ?_
      refine rg_done rfl ?_
      refine a_cond rfl (fun h7 => ?_) (fun h7 => ?_)
      · skip
        have h8 := t_dec h7
        refine a_rseq ?_
        refine rg_put (d := 28) (v := .d (.sl 5 (List.map eIm l))) rfl (og rfl (op_move rfl rfl rfl)) ?_
        refine rg_put (d := 6) (v := .d (.sl 5 (List.map eIm l))) rfl (og rfl (op_assign rfl rfl rfl)) ?_
        refine rg_put (d := 7) (v := .d (.fl (.int .i64 9))) rfl (og rfl (op_assign rfl rfl rfl)) ?_
        refine rg_done rfl ?_
        refine a_ret ?_
        show ∃ ds, ResL _ _ _ ds ∧ RV.of ds = _
        refine ⟨[.sl 5 (List.map eIm l), .fl (.int .i64 9)], (.cons (.tmp rfl (.d _)) (.cons (.tmp rfl (.d _)) .nil)), ?_⟩
        have hu : hld l id reason = (l, 9) := by
          unfold hld has; simp only [h1, h3, h4, h7]; rfl
        rw [hu]; rfl
      · skip
        have h9 := f_dec h7
        refine a_skip ?_
        show A _ _ _ _ _ _ _
        refine a_seq ?_
        refine a_rseq ?_
        refine rg_put (d := 29) (v := .d (.sl 5 (List.map eIm l))) rfl (og rfl (op_move rfl rfl rfl)) ?_
        refine rg_put (d := 30) (v := .d (.fl (.int .i64 (ifind l id)))) rfl (og rfl (op_move rfl rfl rfl)) ?_
        refine rg_put (d := 31) (v := .el ((eIm ((ix l ((ifind l id)).toNat))))) rfl (og rfl (s_index rfl Try.underlying36 ti26 rfl rfl (by omega) (row_atI (by omega) (by omega)) rfl)) ?_
        refine rg_put (d := 32) (v := .el ((List.drop 3 ((eIm ((ix l ((ifind l id)).toNat))))))) rfl (og rfl (of_eff (s_field_el rfl Try.underlying26 rfl ti23 rfl rfl rfl) rfl)) ?_
        refine rg_put (d := 33) (v := .d (.sl 1 (List.map rS (((ix l ((ifind l id)).toNat)).hold)))) rfl (og rfl (op_load_el rfl Try.underlying23 rfl rfl rfl rfl)) ?_
        refine rg_put (d := 34) (v := .d (.fl (.int .i64 (((((ix l ((ifind l id)).toNat)).hold).length : Int))))) rfl (og rfl (s_len rfl Try.underlying23 rfl rfl)) ?_
        refine rg_put (d := 35) (v := .d (.fl (.bool ((decide (16 ≤ ((((ix l ((ifind l id)).toNat)).hold).length : Int))))))) rfl (og rfl (op_bin rfl rfl rfl (b_geq _ _ _ _) rfl)) ?_
        refine rg_done rfl ?_
        refine a_cond rfl (fun h10 => ?_) (fun h10 => ?_)
        · skip
          have h11 := t_dec h10
          refine a_rseq ?_
          refine rg_put (d := 36) (v := .d (.sl 5 (List.map eIm l))) rfl (og rfl (op_move rfl rfl rfl)) ?_
          refine rg_put (d := 6) (v := .d (.sl 5 (List.map eIm l))) rfl (og rfl (op_assign rfl rfl rfl)) ?_
          refine rg_put (d := 7) (v := .d (.fl (.int .i64 3))) rfl (og rfl (op_assign rfl rfl rfl)) ?_
          refine rg_done rfl ?_
          refine a_ret ?_
          show ∃ ds, ResL _ _ _ ds ∧ RV.of ds = _
          refine ⟨[.sl 5 (List.map eIm l), .fl (.int .i64 3)], (.cons (.tmp rfl (.d _)) (.cons (.tmp rfl (.d _)) .nil)), ?_⟩
          have hu : hld l id reason = (l, 3) := by
            unfold hld has; simp only [h1, h3, h4, h7, h10]; rfl
          rw [hu]; rfl
        · skip
          have h12 := f_dec h10
          refine a_skip ?_
          show A _ _ _ _ _ _ _
          refine a_rseq ?_
          refine rg_put (d := 37) (v := .d (.sl 5 (List.map eIm l))) rfl (og rfl (op_move rfl rfl rfl)) ?_
          refine rg_nam (d := 38) (v := .ow 101) (m := 101) (nw := [(101, .tr 26 5 (l.map oIm))]) rfl (og rfl (of_eff (op_callO 101 rfl Try.func38 nm38 rfl (.cons rfl (.d _) .nil) (ref_all l (by omega) (fun q h => by have := hb q h; omega)) rfl) rfl)) rfl ?_
          refine rg_put (d := 9) (v := .ow 101) rfl (og rfl (op_assign rfl rfl rfl)) ?_
          refine rg_done rfl ?_
          refine a_rseq ?_
          refine rg_put (d := 39) (v := .ow 101) rfl (og rfl (op_move rfl rfl rfl)) ?_
          refine rg_put (d := 40) (v := .d (.fl (.int .i64 (ifind l id)))) rfl (og rfl (op_move rfl rfl rfl)) ?_
          refine rg_put (d := 41) (v := .ow 101) rfl (og rfl (op_move rfl rfl rfl)) ?_
          refine rg_put (d := 42) (v := .d (.fl (.int .i64 (ifind l id)))) rfl (og rfl (op_move rfl rfl rfl)) ?_
          refine rg_put (d := 43) (v := .pe 101 5 (((ifind l id)).toNat) 0) rfl (og rfl (op_index_trI rfl Try.underlying36 ti26 rfl rfl rfl (by omega) (get_lt (map_at (by omega))) rfl)) ?_
          refine rg_put (d := 44) (v := .pe 101 5 (((ifind l id)).toNat) 3) rfl (og rfl (of_eff (op_field_pe rfl Try.underlying26 rfl ti23 rfl rfl rfl) rfl)) ?_
          refine rg_nam (d := 45) (v := .ow 102) (m := 102) (nw := [(102, .tr 9 1 (tD rS ((ix l (((ifind l id)).toNat)).hold))), (101, .tr 26 5 (((l.map oIm).set (((ifind l id)).toNat) [.dv (.fl (.string ((ix l (((ifind l id)).toNat)).id))), .dv (.fl (.int .i64 ((ix l (((ifind l id)).toNat)).time))), .dv (.fl (.int .i64 ((ix l (((ifind l id)).toNat)).purpose))), .un, .dv (.fl (.int .u64 ((ix l (((ifind l id)).toNat)).dig)))])))]) rfl (og rfl (of_eff (op_take 102 rfl Try.underlying23 rfl rfl rfl (map_at (by omega)) rfl rfl rfl) rfl)) rfl ?_
          refine rg_put (d := 46) (v := .d (.fl (.string reason))) rfl (og rfl (op_move rfl rfl rfl)) ?_
          refine rg_put (d := 47) (v := .d (.sl 1 (List.map rS [reason]))) rfl (og rfl (of_eff (op_slices rfl Try.underlying23 ti9 rfl rfl rfl (by kernel_rfl) (xs := [.fl (.string reason)]) rfl rfl (.cons rfl rfl (.d _) rfl rfl rfl .nil) rfl) rfl)) ?_
          refine rg_nam (d := 48) (v := .ow 103) (m := 103) (nw := [(103, .tr 9 1 (tD rS (((ix l (((ifind l id)).toNat)).hold ++ [reason])))), (102, .no)]) rfl (og rfl (of_eff (s_append_td 103 rfl Try.underlying23 ti9 rfl rfl rfl rfl rfl (.d _) (by simp only [List.length_cons, List.length_nil]; omega) rfl) rfl)) rfl ?_
          refine rg_put (d := 49) (v := .pe 101 5 (((ifind l id)).toNat) 0) rfl (og rfl (op_index_trI rfl Try.underlying36 ti26 rfl rfl rfl (by omega) (get_lt (set_get (map_at (by omega)))) rfl)) ?_
          refine rg_put (d := 50) (v := .pe 101 5 (((ifind l id)).toNat) 3) rfl (og rfl (of_eff (op_field_pe rfl Try.underlying26 rfl ti23 rfl rfl rfl) rfl)) ?_
          refine rg_sto (nw := [(101, .tr 26 5 ((((((l.map oIm).set (((ifind l id)).toNat) [.dv (.fl (.string ((ix l (((ifind l id)).toNat)).id))), .dv (.fl (.int .i64 ((ix l (((ifind l id)).toNat)).time))), .dv (.fl (.int .i64 ((ix l (((ifind l id)).toNat)).purpose))), .un, .dv (.fl (.int .u64 ((ix l (((ifind l id)).toNat)).dig)))]))).set (((ifind l id)).toNat) [.dv (.fl (.string ((ix l (((ifind l id)).toNat)).id))), .dv (.fl (.int .i64 ((ix l (((ifind l id)).toNat)).time))), .dv (.fl (.int .i64 ((ix l (((ifind l id)).toNat)).purpose))), .ow 9 1 (List.map rS (((ix l (((ifind l id)).toNat)).hold ++ [reason]))), .dv (.fl (.int .u64 ((ix l (((ifind l id)).toNat)).dig)))]))), (103, .no)]) rfl (og rfl (of_eff (op_store_pe rfl rfl ti23 rfl rfl (set_get (map_at (by omega))) rfl (.tr rfl) rfl rfl rfl) rfl)) ?_
          refine rg_done rfl ?_
          refine a_rseq ?_
          refine rg_imp (imp_leakE 9 101 (rows' := List.map eIm (l.set (ifind l id).toNat (addR (ix l (ifind l id).toNat) reason))) rfl rfl (set_ok (y := (addR (ix l (ifind l id).toNat) reason))) (set_rd (y := (addR (ix l (ifind l id).toNat) reason)))) ?_
          refine rg_put (d := 51) (v := .d (.sl 5 (List.map eIm ((l.set (ifind l id).toNat (addR (ix l (ifind l id).toNat) reason)))))) rfl (og rfl (op_move rfl rfl rfl)) ?_
          refine rg_put (d := 6) (v := .d (.sl 5 (List.map eIm ((l.set (ifind l id).toNat (addR (ix l (ifind l id).toNat) reason)))))) rfl (og rfl (op_assign rfl rfl rfl)) ?_
          refine rg_put (d := 7) (v := .d (.fl (.int .i64 0))) rfl (og rfl (op_assign rfl rfl rfl)) ?_
          refine rg_done rfl ?_
          refine a_ret ?_
          show ∃ ds, ResL _ _ _ ds ∧ RV.of ds = _
          refine ⟨[.sl 5 (List.map eIm ((l.set (ifind l id).toNat (addR (ix l (ifind l id).toNat) reason)))), .fl (.int .i64 0)], (.cons (.tmp rfl (.d _)) (.cons (.tmp rfl (.d _)) .nil)), ?_⟩
          have hu : hld l id reason = ((l.set (ifind l id).toNat (addR (ix l (ifind l id).toNat) reason)), 0) := by
            unfold hld has; simp only [h1, h3, h4, h7, h10]; rfl
          rw [hu]; rfl
set_option maxHeartbeats 4000000 in
set_option maxRecDepth 100000 in
theorem ref_rel (l : List Im) (id reason : ByteArray) (hl : l.length ≤ 1000) (hb : ∀ q, q < l.length → (ix l q).hold.length ≤ 1000) : Ctr Try.prog 24 [.sl 5 (List.map eIm l), .fl (.string id), .fl (.string reason)] (.tu [.sl 5 (List.map eIm (rel l id reason).1), .fl (.int .i64 (rel l id reason).2)]) := by
  refine ctr (n := 57) (rs := #[.tmp 6, .tmp 7]) (L := [(0, .d (.sl 5 (List.map eIm l))), (1, .d (.fl (.string id))), (2, .d (.fl (.string reason)))]) Try.func24 rfl rfl rfl rfl rfl (fun w0 U0 => ?_)
  refine a_rseq ?_
  refine rg_put (d := 6) (v := .d (.fl (.slice none 0 0))) rfl (og rfl (op_assign rfl rfl rfl)) ?_
  refine rg_put (d := 7) (v := .d (.fl (.int .i64 0))) rfl (og rfl (op_assign rfl rfl rfl)) ?_
  refine rg_done rfl ?_
  refine a_rseq ?_
  refine rg_put (d := 11) (v := .d (.sl 5 (List.map eIm l))) rfl (og rfl (op_move rfl rfl rfl)) ?_
  refine rg_put (d := 12) (v := .d (.fl (.string id))) rfl (og rfl (op_move rfl rfl rfl)) ?_
  refine rg_put (d := 13) (v := .d (.fl (.int .i64 (ifind l id)))) rfl (og rfl (op_call rfl Try.func36 nm36 rfl (.cons rfl (.d _) (.cons rfl (.d _) .nil)) (ref_find l id (by omega)) rfl)) ?_
  refine rg_put (d := 8) (v := .d (.fl (.int .i64 (ifind l id)))) rfl (og rfl (op_assign rfl rfl rfl)) ?_
  refine rg_done rfl ?_
  refine a_seq ?_
  refine a_rseq ?_
  refine rg_put (d := 14) (v := .d (.fl (.int .i64 (ifind l id)))) rfl (og rfl (op_move rfl rfl rfl)) ?_
  refine rg_put (d := 15) (v := .d (.fl (.bool ((decide ((ifind l id) < 0)))))) rfl (og rfl (op_bin rfl rfl rfl (b_lss _ _ _ _) rfl)) ?_
  refine rg_put (d := 16) (v := .d (.fl (.bool ((decide ((ifind l id) < 0)))))) rfl (og rfl (op_move rfl rfl rfl)) ?_
  rcases fot ((decide ((ifind l id) < 0))) with h1 | h1
  · skip
    have := f_dec h1
    have hi := ifind_lt l id
    have hbi := hb (ifind l id).toNat (by omega)
    have h2 := f_dec h1
    refine rg_put (d := 17) (v := .d (.sl 5 (List.map eIm l))) rfl (oy rfl rfl rfl h1 (op_move rfl rfl rfl)) ?_
    refine rg_put (d := 18) (v := .d (.fl (.int .i64 (ifind l id)))) rfl (oy rfl rfl rfl h1 (op_move rfl rfl rfl)) ?_
    refine rg_put (d := 19) (v := .el ((eIm ((ix l ((ifind l id)).toNat))))) rfl (oy rfl rfl rfl h1 (s_index rfl Try.underlying36 ti26 rfl rfl (by omega) (row_atI (by omega) (by omega)) rfl)) ?_
    refine rg_put (d := 20) (v := .el ((List.drop 3 ((eIm ((ix l ((ifind l id)).toNat))))))) rfl (oy rfl rfl rfl h1 (of_eff (s_field_el rfl Try.underlying26 rfl ti23 rfl rfl rfl) rfl)) ?_
    refine rg_put (d := 21) (v := .d (.sl 1 (List.map rS (((ix l ((ifind l id)).toNat)).hold)))) rfl (oy rfl rfl rfl h1 (op_load_el rfl Try.underlying23 rfl rfl rfl rfl)) ?_
    refine rg_put (d := 22) (v := .d (.fl (.string reason))) rfl (oy rfl rfl rfl h1 (op_move rfl rfl rfl)) ?_
    refine rg_put (d := 23) (v := .d (.fl (.int .i64 ((idx (fun x => sEq reason x) (((ix l ((ifind l id)).toNat)).hold)))))) rfl (oy rfl rfl rfl h1 (op_call rfl Try.func37 nm37 rfl (.cons rfl (.d _) (.cons rfl (.d _) .nil)) (ref_has (((ix l ((ifind l id)).toNat)).hold) reason (by omega)) rfl)) ?_
    refine rg_put (d := 24) (v := .d (.fl (.bool ((decide ((idx (fun x => sEq reason x) (((ix l ((ifind l id)).toNat)).hold)) < 0)))))) rfl (oy rfl rfl rfl h1 (op_bin rfl rfl rfl (b_lss _ _ _ _) rfl)) ?_
    refine rg_put (d := 25) (v := .d (.fl (.bool ((decide ((idx (fun x => sEq reason x) (((ix l ((ifind l id)).toNat)).hold)) < 0)))))) rfl (og rfl (op_pick rfl rfl (by rw [h1]; rfl) rfl)) ?_
    refine rg_done rfl ?_
    refine a_cond rfl (fun h3 => ?_) (fun h3 => ?_)
    · skip
      have h4 := t_dec h3
      refine a_rseq ?_
      refine rg_put (d := 26) (v := .d (.sl 5 (List.map eIm l))) rfl (og rfl (op_move rfl rfl rfl)) ?_
      refine rg_put (d := 6) (v := .d (.sl 5 (List.map eIm l))) rfl (og rfl (op_assign rfl rfl rfl)) ?_
      refine rg_put (d := 7) (v := .d (.fl (.int .i64 10))) rfl (og rfl (op_assign rfl rfl rfl)) ?_
      refine rg_done rfl ?_
      refine a_ret ?_
      show ∃ ds, ResL _ _ _ ds ∧ RV.of ds = _
      refine ⟨[.sl 5 (List.map eIm l), .fl (.int .i64 10)], (.cons (.tmp rfl (.d _)) (.cons (.tmp rfl (.d _)) .nil)), ?_⟩
      have hu : rel l id reason = (l, 10) := by
        unfold rel; simp only [h1, h3]; rfl
      rw [hu]; rfl
    · skip
      have h5 := f_dec h3
      refine a_skip ?_
      show A _ _ _ _ _ _ _
      refine a_rseq ?_
      refine rg_put (d := 27) (v := .d (.sl 5 (List.map eIm l))) rfl (og rfl (op_move rfl rfl rfl)) ?_
      refine rg_nam (d := 28) (v := .ow 101) (m := 101) (nw := [(101, .tr 26 5 (l.map oIm))]) rfl (og rfl (of_eff (op_callO 101 rfl Try.func38 nm38 rfl (.cons rfl (.d _) .nil) (ref_all l (by omega) (fun q h => by have := hb q h; omega)) rfl) rfl)) rfl ?_
      refine rg_put (d := 9) (v := .ow 101) rfl (og rfl (op_assign rfl rfl rfl)) ?_
      refine rg_done rfl ?_
      refine a_rseq ?_
      refine rg_put (d := 29) (v := .d (.sl 5 (List.map eIm l))) rfl (og rfl (op_move rfl rfl rfl)) ?_
      refine rg_put (d := 30) (v := .d (.fl (.int .i64 (ifind l id)))) rfl (og rfl (op_move rfl rfl rfl)) ?_
      refine rg_put (d := 31) (v := .el ((eIm ((ix l ((ifind l id)).toNat))))) rfl (og rfl (s_index rfl Try.underlying36 ti26 rfl rfl (by omega) (row_atI (by omega) (by omega)) rfl)) ?_
      refine rg_put (d := 32) (v := .el ((List.drop 3 ((eIm ((ix l ((ifind l id)).toNat))))))) rfl (og rfl (of_eff (s_field_el rfl Try.underlying26 rfl ti23 rfl rfl rfl) rfl)) ?_
      refine rg_put (d := 33) (v := .d (.sl 1 (List.map rS (((ix l ((ifind l id)).toNat)).hold)))) rfl (og rfl (op_load_el rfl Try.underlying23 rfl rfl rfl rfl)) ?_
      refine rg_put (d := 34) (v := .d (.fl (.string reason))) rfl (og rfl (op_move rfl rfl rfl)) ?_
      refine rg_put (d := 35) (v := .d (.fl (.int .i64 ((idx (fun x => sEq reason x) (((ix l ((ifind l id)).toNat)).hold)))))) rfl (og rfl (op_call rfl Try.func37 nm37 rfl (.cons rfl (.d _) (.cons rfl (.d _) .nil)) (ref_has (((ix l ((ifind l id)).toNat)).hold) reason (by omega)) rfl)) ?_
      refine rg_put (d := 10) (v := .d (.fl (.int .i64 ((idx (fun x => sEq reason x) (((ix l ((ifind l id)).toNat)).hold)))))) rfl (og rfl (op_assign rfl rfl rfl)) ?_
      refine rg_done rfl ?_
      refine a_dseq (by kernel_rfl) ?_
      have hk := idx_lt (p := fun x => sEq reason x) (l := (ix l (ifind l id).toNat).hold)
      refine dr_put (d := 36) (v := .ow 101) rfl (og rfl (op_move rfl rfl rfl)) ?_
      refine dr_put (d := 37) (v := .d (.fl (.int .i64 (ifind l id)))) rfl (og rfl (op_move rfl rfl rfl)) ?_
      refine dr_put (d := 38) (v := .ow 101) rfl (og rfl (op_move rfl rfl rfl)) ?_
      refine dr_put (d := 39) (v := .d (.fl (.int .i64 (ifind l id)))) rfl (og rfl (op_move rfl rfl rfl)) ?_
      refine dr_put (d := 40) (v := .pe 101 5 (((ifind l id)).toNat) 0) rfl (og rfl (op_index_trI rfl Try.underlying36 ti26 rfl rfl rfl (by omega) (get_lt (map_at (by omega))) rfl)) ?_
      refine dr_put (d := 41) (v := .pe 101 5 (((ifind l id)).toNat) 3) rfl (og rfl (of_eff (op_field_pe rfl Try.underlying26 rfl ti23 rfl rfl rfl) rfl)) ?_
      refine dr_nam (d := 42) (v := .ow 102) (m := 102) (nw := [(102, .tr 9 1 (tD rS ((ix l (((ifind l id)).toNat)).hold))), (101, .tr 26 5 (((l.map oIm).set (((ifind l id)).toNat) [.dv (.fl (.string ((ix l (((ifind l id)).toNat)).id))), .dv (.fl (.int .i64 ((ix l (((ifind l id)).toNat)).time))), .dv (.fl (.int .i64 ((ix l (((ifind l id)).toNat)).purpose))), .un, .dv (.fl (.int .u64 ((ix l (((ifind l id)).toNat)).dig)))])))]) rfl (og rfl (of_eff (op_take 102 rfl Try.underlying23 rfl rfl rfl (map_at (by omega)) rfl rfl rfl) rfl)) ?_
      refine dr_put (d := 43) (v := .d (.fl (.int .i64 ((idx (fun x => sEq reason x) (((ix l ((ifind l id)).toNat)).hold)))))) rfl (og rfl (op_move rfl rfl rfl)) ?_
      refine dr_nam (d := 44) (v := .ow 103) (m := 103) (nw := [(103, .tr 9 1 (tD rS ((((ix l (((ifind l id)).toNat)).hold).take (((idx (fun x => sEq reason x) (((ix l ((ifind l id)).toNat)).hold))).toNat))))), (102, .no)]) rfl (og rfl (of_eff (op_sliceOwn 103 rfl Try.underlying23 ti9 rfl rfl rfl (k := ((idx (fun x => sEq reason x) (((ix l ((ifind l id)).toNat)).hold))).toNat) (by omega) (by omega) (by omega) rfl) rfl)) ?_
      refine dr_put (d := 45) (v := .d (.sl 5 (List.map eIm l))) rfl (og rfl (op_move rfl rfl rfl)) ?_
      refine dr_put (d := 46) (v := .d (.fl (.int .i64 (ifind l id)))) rfl (og rfl (op_move rfl rfl rfl)) ?_
      refine dr_put (d := 47) (v := .el ((eIm ((ix l ((ifind l id)).toNat))))) rfl (og rfl (s_index rfl Try.underlying36 ti26 rfl rfl (by omega) (row_atI (by omega) (by omega)) rfl)) ?_
      refine dr_put (d := 48) (v := .el ((List.drop 3 ((eIm ((ix l ((ifind l id)).toNat))))))) rfl (og rfl (of_eff (s_field_el rfl Try.underlying26 rfl ti23 rfl rfl rfl) rfl)) ?_
      refine dr_put (d := 49) (v := .d (.sl 1 (List.map rS (((ix l ((ifind l id)).toNat)).hold)))) rfl (og rfl (op_load_el rfl Try.underlying23 rfl rfl rfl rfl)) ?_
      refine dr_put (d := 50) (v := .d (.fl (.int .i64 ((idx (fun x => sEq reason x) (((ix l ((ifind l id)).toNat)).hold)))))) rfl (og rfl (op_move rfl rfl rfl)) ?_
      refine dr_put (d := 51) (v := .d (.fl (.int .i64 (((idx (fun x => sEq reason x) (((ix l ((ifind l id)).toNat)).hold)) + 1))))) rfl (og rfl (op_bin rfl rfl rfl (fun x y w => b_add64 _ _ _ x y w (by omega)) rfl)) ?_
      refine dr_put (d := 52) (v := .d (.sl 1 (List.map rS (((((ix l ((ifind l id)).toNat)).hold).drop ((((idx (fun x => sEq reason x) (((ix l ((ifind l id)).toNat)).hold)) + 1)).toNat)))))) rfl (og rfl (s_sliceTail rfl Try.underlying23 ti9 rfl (.so (n := (((idx (fun x => sEq reason x) (((ix l ((ifind l id)).toNat)).hold)) + 1)).toNat) _ rfl (by omega)) (by omega) rfl)) ?_
      refine dr_nam (d := 53) (v := .ow 104) (m := 104) (nw := [(104, .tr 9 1 (tD rS (((((ix l (((ifind l id)).toNat)).hold).take (((idx (fun x => sEq reason x) (((ix l ((ifind l id)).toNat)).hold))).toNat)) ++ ((((ix l ((ifind l id)).toNat)).hold).drop ((((idx (fun x => sEq reason x) (((ix l ((ifind l id)).toNat)).hold)) + 1)).toNat)))))), (103, .no)]) rfl (og rfl (of_eff (s_append_td 104 rfl Try.underlying23 ti9 rfl rfl rfl rfl rfl (.d _) (by simp only [List.length_take, List.length_drop]; omega) rfl) rfl)) ?_
      refine dr_put (d := 54) (v := .pe 101 5 (((ifind l id)).toNat) 0) rfl (og rfl (op_index_trI rfl Try.underlying36 ti26 rfl rfl rfl (by omega) (get_lt (set_get (map_at (by omega)))) rfl)) ?_
      refine dr_put (d := 55) (v := .pe 101 5 (((ifind l id)).toNat) 3) rfl (og rfl (of_eff (op_field_pe rfl Try.underlying26 rfl ti23 rfl rfl rfl) rfl)) ?_
      refine dr_sto (nw := [(101, .tr 26 5 ((((((l.map oIm).set (((ifind l id)).toNat) [.dv (.fl (.string ((ix l (((ifind l id)).toNat)).id))), .dv (.fl (.int .i64 ((ix l (((ifind l id)).toNat)).time))), .dv (.fl (.int .i64 ((ix l (((ifind l id)).toNat)).purpose))), .un, .dv (.fl (.int .u64 ((ix l (((ifind l id)).toNat)).dig)))]))).set (((ifind l id)).toNat) [.dv (.fl (.string ((ix l (((ifind l id)).toNat)).id))), .dv (.fl (.int .i64 ((ix l (((ifind l id)).toNat)).time))), .dv (.fl (.int .i64 ((ix l (((ifind l id)).toNat)).purpose))), .ow 9 1 (List.map rS (((((ix l (((ifind l id)).toNat)).hold).take (((idx (fun x => sEq reason x) (((ix l ((ifind l id)).toNat)).hold))).toNat)) ++ ((((ix l ((ifind l id)).toNat)).hold).drop ((((idx (fun x => sEq reason x) (((ix l ((ifind l id)).toNat)).hold)) + 1)).toNat))))), .dv (.fl (.int .u64 ((ix l (((ifind l id)).toNat)).dig)))]))), (104, .no)]) rfl (og rfl (of_eff (op_store_pe rfl rfl ti23 rfl rfl (set_get (map_at (by omega))) rfl (.tr rfl) rfl rfl rfl) rfl)) ?_
      refine dr_done rfl (by kernel_rfl) (by kernel_rfl) ?_
      refine a_rseq ?_
      have hX : ({ ix l (ifind l id).toNat with hold := (ix l (ifind l id).toNat).hold.take (idx (fun x => sEq reason x) (ix l (ifind l id).toNat).hold).toNat ++ (ix l (ifind l id).toNat).hold.drop ((idx (fun x => sEq reason x) (ix l (ifind l id).toNat).hold) + 1).toNat } : Im) = delR (ix l (ifind l id).toNat) (idx (fun x => sEq reason x) (ix l (ifind l id).toNat).hold).toNat := by unfold delR; rw [show ((idx (fun x => sEq reason x) (ix l (ifind l id).toNat).hold) + 1).toNat = (idx (fun x => sEq reason x) (ix l (ifind l id).toNat).hold).toNat + 1 by omega]
      refine rg_imp (imp_leakE 9 101 (rows' := List.map eIm (l.set (ifind l id).toNat ({ ix l (ifind l id).toNat with hold := (ix l (ifind l id).toNat).hold.take (idx (fun x => sEq reason x) (ix l (ifind l id).toNat).hold).toNat ++ (ix l (ifind l id).toNat).hold.drop ((idx (fun x => sEq reason x) (ix l (ifind l id).toNat).hold) + 1).toNat } : Im))) rfl rfl (set_ok (y := ({ ix l (ifind l id).toNat with hold := (ix l (ifind l id).toNat).hold.take (idx (fun x => sEq reason x) (ix l (ifind l id).toNat).hold).toNat ++ (ix l (ifind l id).toNat).hold.drop ((idx (fun x => sEq reason x) (ix l (ifind l id).toNat).hold) + 1).toNat } : Im))) (set_rd (y := ({ ix l (ifind l id).toNat with hold := (ix l (ifind l id).toNat).hold.take (idx (fun x => sEq reason x) (ix l (ifind l id).toNat).hold).toNat ++ (ix l (ifind l id).toNat).hold.drop ((idx (fun x => sEq reason x) (ix l (ifind l id).toNat).hold) + 1).toNat } : Im)))) ?_
      refine rg_put (d := 56) (v := .d (.sl 5 (List.map eIm ((l.set (ifind l id).toNat ({ ix l (ifind l id).toNat with hold := (ix l (ifind l id).toNat).hold.take (idx (fun x => sEq reason x) (ix l (ifind l id).toNat).hold).toNat ++ (ix l (ifind l id).toNat).hold.drop ((idx (fun x => sEq reason x) (ix l (ifind l id).toNat).hold) + 1).toNat } : Im)))))) rfl (og rfl (op_move rfl rfl rfl)) ?_
      refine rg_put (d := 6) (v := .d (.sl 5 (List.map eIm ((l.set (ifind l id).toNat ({ ix l (ifind l id).toNat with hold := (ix l (ifind l id).toNat).hold.take (idx (fun x => sEq reason x) (ix l (ifind l id).toNat).hold).toNat ++ (ix l (ifind l id).toNat).hold.drop ((idx (fun x => sEq reason x) (ix l (ifind l id).toNat).hold) + 1).toNat } : Im)))))) rfl (og rfl (op_assign rfl rfl rfl)) ?_
      refine rg_put (d := 7) (v := .d (.fl (.int .i64 0))) rfl (og rfl (op_assign rfl rfl rfl)) ?_
      refine rg_done rfl ?_
      refine a_ret ?_
      show ∃ ds, ResL _ _ _ ds ∧ RV.of ds = _
      refine ⟨[.sl 5 (List.map eIm ((l.set (ifind l id).toNat ({ ix l (ifind l id).toNat with hold := (ix l (ifind l id).toNat).hold.take (idx (fun x => sEq reason x) (ix l (ifind l id).toNat).hold).toNat ++ (ix l (ifind l id).toNat).hold.drop ((idx (fun x => sEq reason x) (ix l (ifind l id).toNat).hold) + 1).toNat } : Im)))), .fl (.int .i64 0)], (.cons (.tmp rfl (.d _)) (.cons (.tmp rfl (.d _)) .nil)), ?_⟩
      have hu : rel l id reason = ((l.set (ifind l id).toNat ({ ix l (ifind l id).toNat with hold := (ix l (ifind l id).toNat).hold.take (idx (fun x => sEq reason x) (ix l (ifind l id).toNat).hold).toNat ++ (ix l (ifind l id).toNat).hold.drop ((idx (fun x => sEq reason x) (ix l (ifind l id).toNat).hold) + 1).toNat } : Im)), 0) := by
        rw [hX]
        unfold rel; simp only [h1, h3]; rfl
      rw [hu]; rfl
  · skip
    have h6 := t_dec h1
    refine rg_put (d := 17) (v := .d (.fl undef)) rfl (on rfl rfl rfl h1) ?_
    refine rg_put (d := 18) (v := .d (.fl undef)) rfl (on rfl rfl rfl h1) ?_
    refine rg_put (d := 19) (v := .d (.fl undef)) rfl (on rfl rfl rfl h1) ?_
    refine rg_put (d := 20) (v := .d (.fl undef)) rfl (on rfl rfl rfl h1) ?_
    refine rg_put (d := 21) (v := .d (.fl undef)) rfl (on rfl rfl rfl h1) ?_
    refine rg_put (d := 22) (v := .d (.fl undef)) rfl (on rfl rfl rfl h1) ?_
    refine rg_put (d := 23) (v := .d (.fl undef)) rfl (on rfl rfl rfl h1) ?_
    refine rg_put (d := 24) (v := .d (.fl undef)) rfl (on rfl rfl rfl h1) ?_
    refine rg_put (d := 25) (v := .d (.fl (.bool true))) rfl (og rfl (op_pick rfl rfl (by rw [h1]; rfl) rfl)) ?_
    refine rg_done rfl ?_
    refine a_condK rfl rfl ?_
    refine a_rseq ?_
    refine rg_put (d := 26) (v := .d (.sl 5 (List.map eIm l))) rfl (og rfl (op_move rfl rfl rfl)) ?_
    refine rg_put (d := 6) (v := .d (.sl 5 (List.map eIm l))) rfl (og rfl (op_assign rfl rfl rfl)) ?_
    refine rg_put (d := 7) (v := .d (.fl (.int .i64 10))) rfl (og rfl (op_assign rfl rfl rfl)) ?_
    refine rg_done rfl ?_
    refine a_ret ?_
    show ∃ ds, ResL _ _ _ ds ∧ RV.of ds = _
    refine ⟨[.sl 5 (List.map eIm l), .fl (.int .i64 10)], (.cons (.tmp rfl (.d _)) (.cons (.tmp rfl (.d _)) .nil)), ?_⟩
    have hu : rel l id reason = (l, 10) := by
      unfold rel; simp only [h1]; rfl
    rw [hu]; rfl
end Go.Proofs.Yteplcjhnmmpicaa.Wk
