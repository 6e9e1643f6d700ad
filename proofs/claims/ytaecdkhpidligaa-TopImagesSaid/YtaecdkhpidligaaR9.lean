/- Copies of lists of images. No condition. -/
import Derived.Test.YtaecdkhpidligaaR8
set_option linter.unusedSimpArgs false
set_option linter.unusedVariables false
namespace Go.Proofs.Ytaecdkhpidligaa.Wr
open Go Go.RowKit Go.Proofs.Ytaecdkhpidligaa.Av Go.Proofs.Ytaecdkhpidligaa.Wk
theorem map_at {l : List Im} {i : Nat} (h : i < l.length) : (l.map oIm)[i]? = some (oIm (ix l i)) := by
  rw [List.getElem?_map, ix_get h]; rfl
set_option maxHeartbeats 4000000 in
set_option maxRecDepth 100000 in
theorem list_copy (l : List Im) (hl : l.length * 65 ≤ 140737488355328) (hb : ∀ q, q < l.length → (ix l q).hold.length * 17 ≤ 140737488355328) : CtrO Try.prog 26 [.sl 5 (List.map eIm l), .fn 18 []] (.tr 40 5 (l.map oIm)) := by
  refine ctrO (n := 25) (rs := #[.tmp 4]) (L := [(0, .d (.sl 5 (List.map eIm l))), (1, .d (.fn 18 []))]) Try.func26 rfl rfl rfl rfl rfl (fun w0 U0 => ?_)
  refine a_rseq ?_
  refine rg_put (d := 4) (v := .d (.fl (.slice none 0 0))) rfl (og rfl (op_assign rfl rfl rfl)) ?_
  refine rg_done rfl ?_
  refine a_rseq ?_
  refine rg_put (d := 7) (v := .d (.sl 5 (List.map eIm l))) rfl (og rfl (op_move rfl rfl rfl)) ?_
  refine rg_nam (d := 8) (v := .ow 101) (m := 101) (nw := [(101, .tr 40 5 (tD eIm l))]) rfl (og rfl (of_eff (op_callO 101 rfl Try.func34 nm34 rfl (.cons rfl (.d _) .nil) (clone_ims l (by omega)) rfl) rfl)) rfl ?_
  refine rg_put (d := 5) (v := .ow 101) rfl (og rfl (op_assign rfl rfl rfl)) ?_
  refine rg_done rfl ?_
  refine a_seq ?_
  refine a_rseq ?_
  refine rg_put (d := 9) (v := .ow 101) rfl (og rfl (op_move rfl rfl rfl)) ?_
  refine rg_put (d := 10) (v := .d (.fl (.int .i64 (((l).length : Int))))) rfl (og rfl (op_len_tr rfl Try.underlying23 rfl rfl tD_len rfl)) ?_
  refine rg_put (d := 11) (v := .d (.fl (.int .i64 0))) rfl (og rfl (op_move rfl rfl rfl)) ?_
  refine rg_done rfl ?_
  refine a_block ?_
  refine a_loop (ι := Nat) (fun k => SS [(0, .d (.sl 5 (List.map eIm l))), (1, .d (.fn 18 [])), (4, .d (.fl (.slice none 0 0))), (5, .ow 101), (10, .d (.fl (.int .i64 (((l).length : Int))))), (11, .d (.fl (.int .i64 (k : Int))))] [(101, .tr 40 5 (mix l k))]) (fun k => k ≤ l.length) (fun k => l.length - k) 0 (by omega) (imp_forget rfl ⟨rfl, rfl, rfl, rfl, rfl, (by first | rfl | exact ci (by omega) | exact ci (by simp) | exact cd (by simp) | simp), trivial⟩ ⟨(congrArg (Ob.tr 40 5) (mix_zero l)), trivial⟩) (fun k hok => ?_)
  have hk := hok
  refine a_rseq ?_
  refine rg_put (d := 12) (v := .d (.fl (.bool ((decide ((k : Int) < ((l).length : Int))))))) rfl (og rfl (op_bin rfl rfl rfl (b_lss _ _ _ _) rfl)) ?_
  refine rg_done rfl ?_
  refine a_seq ?_
  refine a_cond rfl (fun h1 => ?_) (fun h1 => ?_)
  · skip
    have h2 := t_dec h1
    refine a_skip ?_
    show A _ _ _ _ _ _ _
    refine a_seq ?_
    refine a_block ?_
    refine a_rseq ?_
    refine rg_put (d := 13) (v := .d (.fl (.int .i64 (k : Int)))) rfl (og rfl (op_move rfl rfl rfl)) ?_
    refine rg_put (d := 6) (v := .d (.fl (.int .i64 (k : Int)))) rfl (og rfl (op_assign rfl rfl rfl)) ?_
    refine rg_done rfl ?_
    refine a_region ?_
    refine rg_put (d := 14) (v := .ow 101) rfl (og rfl (op_move rfl rfl rfl)) ?_
    refine rg_put (d := 15) (v := .d (.fl (.int .i64 (k : Int)))) rfl (og rfl (op_move rfl rfl rfl)) ?_
    refine rg_put (d := 16) (v := .d (.fn 18 [])) rfl (og rfl (op_move rfl rfl rfl)) ?_
    refine rg_put (d := 17) (v := .ow 101) rfl (og rfl (op_move rfl rfl rfl)) ?_
    refine rg_put (d := 18) (v := .d (.fl (.int .i64 (k : Int)))) rfl (og rfl (op_move rfl rfl rfl)) ?_
    refine rg_put (d := 19) (v := .pe 101 5 k 0) rfl (og rfl (op_index_tr rfl Try.underlying23 ti40 rfl rfl rfl (get_lt (mix_at (by omega))) rfl)) ?_
    refine rg_put (d := 20) (v := .d (.ag (eIm (ix l k)))) rfl (og rfl (of_eff (op_load_pes rfl Try.underlying40 rfl ti40 rfl rfl (mix_at (by omega)) rfl rfl rfl) rfl)) ?_
    refine rg_nam (d := 21) (v := .ow 102) (m := 102) (nw := [(102, .sv [.dv (.fl (.string ((ix l k).id))), .dv (.fl (.int .i64 ((ix l k).time))), .dv (.fl (.int .i64 ((ix l k).purpose))), .ow 9 1 (List.map rS ((ix l k).hold)), .dv (.fl (.int .u64 ((ix l k).dig)))])]) rfl (og rfl (of_eff (op_callVO 102 rfl rfl ⟨_, Try.func18, nm18, rfl⟩ (.cons rfl (.d _) .nil) (fresh_image (ix l k) (hb k (by omega))) rfl) rfl)) rfl ?_
    refine rg_put (d := 22) (v := .pe 101 5 k 0) rfl (og rfl (op_index_tr rfl Try.underlying23 ti40 rfl rfl rfl (get_lt (mix_at (by omega))) rfl)) ?_
    refine rg_sto (nw := [(101, .tr 40 5 (((mix l k).set k [.dv (.fl (.string ((ix l k).id))), .dv (.fl (.int .i64 ((ix l k).time))), .dv (.fl (.int .i64 ((ix l k).purpose))), .ow 9 1 (List.map rS ((ix l k).hold)), .dv (.fl (.int .u64 ((ix l k).dig)))]))), (102, .no)]) rfl (og rfl (of_eff (op_store_pe rfl rfl ti40 rfl rfl (mix_at (by omega)) rfl (.sv rfl) rfl rfl rfl) rfl)) ?_
    refine rg_done rfl ?_
    show A _ _ _ _ _ _ _
    refine a_region ?_
    refine rg_put (d := 23) (v := .d (.fl (.int .i64 (((k : Int) + 1))))) rfl (og rfl (op_bin rfl rfl rfl (fun x y w => b_add64 _ _ _ x y w (by omega)) rfl)) ?_
    refine rg_put (d := 11) (v := .d (.fl (.int .i64 (((k : Int) + 1))))) rfl (og rfl (op_move rfl rfl rfl)) ?_
    refine rg_done rfl ?_
    show ∃ i, _ ∧ _ ∧ Imp _ _ _ _ _
    refine ⟨k + 1, (by omega), by omega, imp_forget rfl ⟨rfl, rfl, rfl, rfl, rfl, (by first | rfl | exact ci (by omega) | exact ci (by simp) | exact cd (by simp) | simp), trivial⟩ ⟨(congrArg (Ob.tr 40 5) (mix_set (by omega))), trivial⟩⟩
  · skip
    have h3 := f_dec h1
    refine a_exit ?_
    show A _ _ _ _ _ _ _
    refine a_rseq ?_
    refine rg_put (d := 24) (v := .ow 101) rfl (og rfl (op_move rfl rfl rfl)) ?_
    refine rg_put (d := 4) (v := .ow 101) rfl (og rfl (op_assign rfl rfl rfl)) ?_
    refine rg_done rfl ?_
    refine a_ret ?_
    show ∃ rv, _ = #[rv] ∧ ResO _ _ rv _
    rw [← mix_all (l := l) (k := k) (by omega)]
    exact ⟨_, rfl, .tmp rfl rfl⟩
set_option maxHeartbeats 4000000 in
set_option maxRecDepth 100000 in
theorem images_copy (l : List Im) (hl : l.length * 65 ≤ 140737488355328) (hb : ∀ q, q < l.length → (ix l q).hold.length * 17 ≤ 140737488355328) : CtrO Try.prog 13 [.sl 5 (List.map eIm l)] (.tr 40 5 (l.map oIm)) := by
  refine ctrO (n := 5) (rs := #[.tmp 2]) (L := [(0, .d (.sl 5 (List.map eIm l)))]) Try.func13 rfl rfl rfl rfl rfl (fun w0 U0 => ?_)
  refine a_rseq ?_
  refine rg_put (d := 2) (v := .d (.fl (.slice none 0 0))) rfl (og rfl (op_assign rfl rfl rfl)) ?_
  refine rg_done rfl ?_
  refine a_rseq ?_
  refine rg_put (d := 3) (v := .d (.sl 5 (List.map eIm l))) rfl (og rfl (op_move rfl rfl rfl)) ?_
  refine rg_nam (d := 4) (v := .ow 101) (m := 101) (nw := [(101, .tr 40 5 (l.map oIm))]) rfl (og rfl (of_eff (op_callO 101 rfl Try.func26 nm26 rfl (.cons rfl (.d _) (.cons rfl (.d _) .nil)) (list_copy l (by omega) hb) rfl) rfl)) rfl ?_
  refine rg_put (d := 2) (v := .ow 101) rfl (og rfl (op_assign rfl rfl rfl)) ?_
  refine rg_done rfl ?_
  refine a_ret ?_
  show ∃ rv, _ = #[rv] ∧ ResO _ _ rv _
  exact ⟨_, rfl, .tmp rfl rfl⟩
end Go.Proofs.Ytaecdkhpidligaa.Wr
