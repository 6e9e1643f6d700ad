/- Copies. Condition: lists of a possible length. -/
import Derived.Test.YtaecdkhpidligaaB6
set_option linter.unusedSimpArgs false
set_option linter.unusedVariables false
namespace Go.Proofs.Ytaecdkhpidligaa.Wk
open Go Go.RowKit Go.Proofs.Ytaecdkhpidligaa.Av
def oIm (x : Im) : List OC := [.dv (.fl (.string x.id)), .dv (.fl (.int .i64 x.time)), .dv (.fl (.int .i64 x.purpose)), .ow 9 1 (List.map rS x.hold), .dv (.fl (.int .u64 x.dig))]
theorem oIm_rd (x : Im) : (oIm x).map OC.rd = eIm x := rfl
def mix (l : List Im) (k : Nat) : List (List OC) := (l.take k).map oIm ++ tD eIm (l.drop k)
theorem mix_len {l : List Im} {k : Nat} : (mix l k).length = l.length := by simp [mix, tD]; omega
theorem mix_zero (l : List Im) : tD eIm l = mix l 0 := by simp [mix]
theorem mix_all {l : List Im} {k : Nat} (h : ¬ k < l.length) : mix l k = l.map oIm := by
  unfold mix; rw [List.take_of_length_le (by omega), List.drop_eq_nil_of_le (by omega)]; simp [tD]
theorem mix_at {l : List Im} {k : Nat} (h : k < l.length) : (mix l k)[k]? = some (List.map OC.dv (eIm (ix l k))) := by
  unfold mix
  rw [List.getElem?_append_right (by simp; omega), drop_ix h]
  simp [show k - min k l.length = 0 by omega, tD]
theorem mix_set {l : List Im} {k : Nat} (h : k < l.length) : (mix l k).set k (oIm (ix l k)) = mix l (k + 1) := by
  unfold mix
  rw [List.set_append_right _ _ (by simp; omega), drop_ix h, take_ix h]
  simp [show k - min k l.length = 0 by omega, tD]

set_option maxHeartbeats 4000000 in
set_option maxRecDepth 100000 in
theorem clone_str (l : List ByteArray) (hl : (l.length) * 17 ≤ 140737488355328) : CtrO Try.prog 31 [.sl 1 (List.map rS l)] (.tr 9 1 (tD rS l)) := by
  refine ctrO (n := 8) (rs := #[.tmp 2]) (L := [(0, .d (.sl 1 (List.map rS l)))]) Try.func31 rfl rfl rfl rfl rfl (fun w0 U0 => ?_)
  refine a_rseq ?_
  refine rg_put (d := 2) (v := .d (.fl (.slice none 0 0))) rfl (og rfl (op_assign rfl rfl rfl)) ?_
  refine rg_done rfl ?_
  refine a_seq ?_
  refine a_rseq ?_
  refine rg_put (d := 3) (v := .d (.sl 1 (List.map rS l))) rfl (og rfl (op_move rfl rfl rfl)) ?_
  refine rg_isnil rfl rfl rfl Try.underlying33 rfl rfl rfl (fun bh1 nh1 => ?_)
  refine rg_done rfl ?_
  refine a_cond rfl (fun h2 => ?_) (fun h2 => ?_)
  · skip
    refine a_rseq ?_
    refine rg_put (d := 2) (v := .d (.fl (.slice none 0 0))) rfl (og rfl (op_assign rfl rfl rfl)) ?_
    refine rg_done rfl ?_
    have hnil : l = [] := by simpa using nh1 h2
    subst hnil
    refine a_imp (imp_nilT 2 101 9 1 rfl rfl) ?_
    refine a_ret ?_
    show ∃ rv, _ = #[rv] ∧ ResO _ _ rv _
    exact ⟨_, rfl, .tmp rfl rfl⟩
  · skip
    refine a_skip ?_
    show A _ _ _ _ _ _ _
    refine a_rseq ?_
    refine rg_nam (d := 5) (v := .ow 102) (m := 102) (nw := [(102, .tr 9 1 (tD rS []))]) rfl (og rfl (of_eff (op_slice0 102 rfl Try.underlying33 ti9 rfl) rfl)) rfl ?_
    refine rg_put (d := 6) (v := .d (.sl 1 (List.map rS l))) rfl (og rfl (op_move rfl rfl rfl)) ?_
    refine rg_nam (d := 7) (v := .ow 103) (m := 103) (nw := [(103, .tr 9 1 (tD rS ([] ++ l))), (102, .no)]) rfl (og rfl (of_eff (s_append_td 103 rfl Try.underlying33 ti9 rfl rfl rfl rfl rfl (.d _) (by simp only [List.length_nil]; omega) rfl) rfl)) rfl ?_
    refine rg_put (d := 2) (v := .ow 103) rfl (og rfl (op_assign rfl rfl rfl)) ?_
    refine rg_done rfl ?_
    refine a_ret ?_
    show ∃ rv, _ = #[rv] ∧ ResO _ _ rv _
    exact ⟨_, rfl, .tmp rfl rfl⟩
set_option maxHeartbeats 4000000 in
set_option maxRecDepth 100000 in
theorem clone_ims (l : List Im) (hl : (l.length) * 65 ≤ 140737488355328) : CtrO Try.prog 34 [.sl 5 (List.map eIm l)] (.tr 40 5 (tD eIm l)) := by
  refine ctrO (n := 8) (rs := #[.tmp 2]) (L := [(0, .d (.sl 5 (List.map eIm l)))]) Try.func34 rfl rfl rfl rfl rfl (fun w0 U0 => ?_)
  refine a_rseq ?_
  refine rg_put (d := 2) (v := .d (.fl (.slice none 0 0))) rfl (og rfl (op_assign rfl rfl rfl)) ?_
  refine rg_done rfl ?_
  refine a_seq ?_
  refine a_rseq ?_
  refine rg_put (d := 3) (v := .d (.sl 5 (List.map eIm l))) rfl (og rfl (op_move rfl rfl rfl)) ?_
  refine rg_isnil rfl rfl rfl Try.underlying23 rfl rfl rfl (fun bh1 nh1 => ?_)
  refine rg_done rfl ?_
  refine a_cond rfl (fun h2 => ?_) (fun h2 => ?_)
  · skip
    refine a_rseq ?_
    refine rg_put (d := 2) (v := .d (.fl (.slice none 0 0))) rfl (og rfl (op_assign rfl rfl rfl)) ?_
    refine rg_done rfl ?_
    have hnil : l = [] := by simpa using nh1 h2
    subst hnil
    refine a_imp (imp_nilT 2 101 40 5 rfl rfl) ?_
    refine a_ret ?_
    show ∃ rv, _ = #[rv] ∧ ResO _ _ rv _
    exact ⟨_, rfl, .tmp rfl rfl⟩
  · skip
    refine a_skip ?_
    show A _ _ _ _ _ _ _
    refine a_rseq ?_
    refine rg_nam (d := 5) (v := .ow 102) (m := 102) (nw := [(102, .tr 40 5 (tD eIm []))]) rfl (og rfl (of_eff (op_slice0 102 rfl Try.underlying23 ti40 rfl) rfl)) rfl ?_
    refine rg_put (d := 6) (v := .d (.sl 5 (List.map eIm l))) rfl (og rfl (op_move rfl rfl rfl)) ?_
    refine rg_nam (d := 7) (v := .ow 103) (m := 103) (nw := [(103, .tr 40 5 (tD eIm ([] ++ l))), (102, .no)]) rfl (og rfl (of_eff (s_append_td 103 rfl Try.underlying23 ti40 rfl rfl rfl rfl rfl (.d _) (by simp only [List.length_nil]; omega) rfl) rfl)) rfl ?_
    refine rg_put (d := 2) (v := .ow 103) rfl (og rfl (op_assign rfl rfl rfl)) ?_
    refine rg_done rfl ?_
    refine a_ret ?_
    show ∃ rv, _ = #[rv] ∧ ResO _ _ rv _
    exact ⟨_, rfl, .tmp rfl rfl⟩
set_option maxHeartbeats 4000000 in
set_option maxRecDepth 100000 in
theorem fresh_image (im : Im) (hl : im.hold.length * 17 ≤ 140737488355328) : CtrO Try.prog 18 [.ag (eIm im)] (.sv (oIm im)) := by
  refine ctrO (n := 8) (rs := #[.cell 2 40]) (L := [(0, .d (.ag (eIm im)))]) Try.func18 rfl rfl rfl rfl rfl (fun w0 U0 => ?_)
  refine a_rseq ?_
  refine rg_nam (d := 1) (v := .pt 101 0) (m := 101) (nw := [(101, .bx 40 (eIm im))]) rfl (og rfl (of_eff (op_box 101 rfl rfl rfl rfl) rfl)) rfl ?_
  refine rg_nam (d := 2) (v := .pt 102 0) (m := 102) (nw := [(102, .bx 40 ([.fl (.string (⟨#[]⟩)), .fl (.int .i64 0), .fl (.int .i64 0), .fl (.slice none 0 0), .fl (.int .u64 0)]))]) rfl (og rfl (of_eff (s_alloc 102 rfl ti40 (by kernel_rfl) rfl) rfl)) rfl ?_
  refine rg_done rfl ?_
  refine a_rseq ?_
  refine rg_imp (imp_bt 101 rfl) ?_
  refine rg_imp (imp_bt 102 rfl) ?_
  refine rg_put (d := 3) (v := .pt 101 3) rfl (og rfl (of_eff (s_field_pt rfl Try.underlying40 rfl ti33 rfl rfl rfl) rfl)) ?_
  refine rg_put (d := 4) (v := .d (.sl 1 (List.map rS im.hold))) rfl (og rfl (op_load_bt rfl Try.underlying33 rfl rfl rfl rfl rfl)) ?_
  refine rg_nam (d := 5) (v := .ow 103) (m := 103) (nw := [(103, .tr 9 1 (tD rS im.hold))]) rfl (og rfl (of_eff (op_callO 103 rfl Try.func31 nm31 rfl (.cons rfl (.d _) .nil) (clone_str im.hold (by omega)) rfl) rfl)) rfl ?_
  refine rg_put (d := 6) (v := .pt 101 3) rfl (og rfl (of_eff (s_field_pt rfl Try.underlying40 rfl ti33 rfl rfl rfl) rfl)) ?_
  refine rg_sto (nw := [(101, .bt 40 [.dv (.fl (.string im.id)), .dv (.fl (.int .i64 im.time)), .dv (.fl (.int .i64 im.purpose)), .ow 9 1 (List.map rS im.hold), .dv (.fl (.int .u64 im.dig))]), (103, .no)]) rfl (og rfl (of_eff (op_store_bt rfl rfl ti33 rfl rfl rfl (.tr rfl) rfl rfl rfl) rfl)) ?_
  refine rg_done rfl ?_
  refine a_rseq ?_
  refine rg_nam (d := 7) (v := .ow 104) (m := 104) (nw := [(104, .sv [.dv (.fl (.string im.id)), .dv (.fl (.int .i64 im.time)), .dv (.fl (.int .i64 im.purpose)), .ow 9 1 (List.map rS im.hold), .dv (.fl (.int .u64 im.dig))]), (101, .no)]) rfl (og rfl (of_eff (op_move_bt 104 rfl Try.underlying40 rfl ti40 rfl rfl rfl rfl) rfl)) rfl ?_
  refine rg_sto (nw := [(102, .bt 40 [.dv (.fl (.string im.id)), .dv (.fl (.int .i64 im.time)), .dv (.fl (.int .i64 im.purpose)), .ow 9 1 (List.map rS im.hold), .dv (.fl (.int .u64 im.dig))]), (104, .no)]) rfl (og rfl (of_eff (op_store_bt rfl rfl ti40 rfl rfl rfl (.sv rfl) rfl rfl rfl) rfl)) ?_
  refine rg_done rfl ?_
  refine a_ret ?_
  show ∃ rv, _ = #[rv] ∧ ResO _ _ rv _
  exact ⟨_, rfl, .cell rfl rfl Try.underlying40 rfl ti40 rfl⟩
theorem image_copy (im : Im) (hl : im.hold.length * 17 ≤ 140737488355328) : Ctr Try.prog 18 [.ag (eIm im)] (.d (.ag (eIm im))) := ctr_of_O (fresh_image im hl) rfl
theorem map_at {l : List Im} {i : Nat} (h : i < l.length) : (l.map oIm)[i]? = some (oIm (ix l i)) := by
  rw [List.getElem?_map, ix_get h]; rfl
theorem map_ok {L : List Im} : ∀ r ∈ L.map oIm, ∀ c ∈ r, c.ok = true := by
  intro r hr c hc
  obtain ⟨x, _, rfl⟩ := List.mem_map.1 hr
  simp only [oIm, List.mem_cons, List.not_mem_nil, or_false] at hc
  rcases hc with rfl | rfl | rfl | rfl | rfl <;> rfl
theorem map_rd {L : List Im} : (L.map oIm).map (·.map OC.rd) = List.map eIm L := by
  rw [List.map_map]
  apply List.map_congr_left
  intro x _; exact oIm_rd x
set_option maxHeartbeats 4000000 in
set_option maxRecDepth 100000 in
theorem list_copy (l : List Im) (hl : l.length * 65 ≤ 140737488355328) (hb : ∀ q, q < l.length → (ix l q).hold.length * 17 ≤ 140737488355328) : CtrO Try.prog 26 [.sl 5 (List.map eIm l), .fn 18 []] (.tr 40 5 (l.map oIm)) := by
  refine ctrO (n := 25) (rs := #[.tmp 4]) (L := [(0, .d (.sl 5 (List.map eIm l))), (1, .d (.fn 18 []))]) Try.func26 rfl rfl rfl rfl rfl (fun w0 U0 => ?_)
  refine a_rseq ?_
  refine rg_put (d := 4) (v := .d (.fl (.slice none 0 0))) rfl (og rfl (op_assign rfl rfl rfl)) ?_
  refine rg_done rfl ?_
  refine a_rseq ?_
  refine rg_put (d := 7) (v := .d (.sl 5 (List.map eIm l))) rfl (og rfl (op_move rfl rfl rfl)) ?_
  refine rg_nam (d := 8) (v := .ow 101) (m := 101) (nw := [(101, .tr 40 5 (tD eIm l))]) rfl (og rfl (of_eff (op_callO 101 rfl Try.func34 nm34 rfl (.cons rfl (.d _) .nil) (clone_ims l (by omega)) rfl) rfl)) rfl ?_
  refine rg_put (d := 5) (v := .ow 101) rfl (og rfl (op_assign rfl rfl rfl)) ?_
  refine rg_done rfl ?_
  refine a_seq ?_
  refine a_rseq ?_
  refine rg_put (d := 9) (v := .ow 101) rfl (og rfl (op_move rfl rfl rfl)) ?_
  refine rg_put (d := 10) (v := .d (.fl (.int .i64 (((l).length : Int))))) rfl (og rfl (op_len_tr rfl Try.underlying23 rfl rfl tD_len rfl)) ?_
  refine rg_put (d := 11) (v := .d (.fl (.int .i64 0))) rfl (og rfl (op_move rfl rfl rfl)) ?_
  refine rg_done rfl ?_
  refine a_block ?_
  refine a_loop (ι := Nat) (fun k => SS [(0, .d (.sl 5 (List.map eIm l))), (1, .d (.fn 18 [])), (4, .d (.fl (.slice none 0 0))), (5, .ow 101), (10, .d (.fl (.int .i64 (((l).length : Int))))), (11, .d (.fl (.int .i64 (k : Int))))] [(101, .tr 40 5 (mix l k))]) (fun k => k ≤ l.length) (fun k => l.length - k) 0 (by omega) (imp_forget rfl ⟨rfl, rfl, rfl, rfl, rfl, (by first | rfl | exact ci (by omega) | exact ci (by simp) | exact cd (by simp) | simp), trivial⟩ ⟨(congrArg (Ob.tr 40 5) (mix_zero l)), trivial⟩) (fun k hok => ?_)
  have hk := hok
  refine a_rseq ?_
  refine rg_put (d := 12) (v := .d (.fl (.bool ((decide ((k : Int) < ((l).length : Int))))))) rfl (og rfl (op_bin rfl rfl rfl (b_lss _ _ _ _) rfl)) ?_
  refine rg_done rfl ?_
  refine a_seq ?_
  refine a_cond rfl (fun h1 => ?_) (fun h1 => ?_)
  · skip
    have h2 := t_dec h1
    refine a_skip ?_
    show A _ _ _ _ _ _ _
    refine a_seq ?_
    refine a_block ?_
    refine a_rseq ?_
    refine rg_put (d := 13) (v := .d (.fl (.int .i64 (k : Int)))) rfl (og rfl (op_move rfl rfl rfl)) ?_
    refine rg_put (d := 6) (v := .d (.fl (.int .i64 (k : Int)))) rfl (og rfl (op_assign rfl rfl rfl)) ?_
    refine rg_done rfl ?_
    refine a_region ?_
    refine rg_put (d := 14) (v := .ow 101) rfl (og rfl (op_move rfl rfl rfl)) ?_
    refine rg_put (d := 15) (v := .d (.fl (.int .i64 (k : Int)))) rfl (og rfl (op_move rfl rfl rfl)) ?_
    refine rg_put (d := 16) (v := .d (.fn 18 [])) rfl (og rfl (op_move rfl rfl rfl)) ?_
    refine rg_put (d := 17) (v := .ow 101) rfl (og rfl (op_move rfl rfl rfl)) ?_
    refine rg_put (d := 18) (v := .d (.fl (.int .i64 (k : Int)))) rfl (og rfl (op_move rfl rfl rfl)) ?_
    refine rg_put (d := 19) (v := .pe 101 5 k 0) rfl (og rfl (op_index_tr rfl Try.underlying23 ti40 rfl rfl rfl (get_lt (mix_at (by omega))) rfl)) ?_
    refine rg_put (d := 20) (v := .d (.ag (eIm (ix l k)))) rfl (og rfl (of_eff (op_load_pes rfl Try.underlying40 rfl ti40 rfl rfl (mix_at (by omega)) rfl rfl rfl) rfl)) ?_
    refine rg_nam (d := 21) (v := .ow 102) (m := 102) (nw := [(102, .sv [.dv (.fl (.string ((ix l k).id))), .dv (.fl (.int .i64 ((ix l k).time))), .dv (.fl (.int .i64 ((ix l k).purpose))), .ow 9 1 (List.map rS ((ix l k).hold)), .dv (.fl (.int .u64 ((ix l k).dig)))])]) rfl (og rfl (of_eff (op_callVO 102 rfl rfl ⟨_, Try.func18, nm18, rfl⟩ (.cons rfl (.d _) .nil) (fresh_image (ix l k) (hb k (by omega))) rfl) rfl)) rfl ?_
    refine rg_put (d := 22) (v := .pe 101 5 k 0) rfl (og rfl (op_index_tr rfl Try.underlying23 ti40 rfl rfl rfl (get_lt (mix_at (by omega))) rfl)) ?_
    refine rg_sto (nw := [(101, .tr 40 5 (((mix l k).set k [.dv (.fl (.string ((ix l k).id))), .dv (.fl (.int .i64 ((ix l k).time))), .dv (.fl (.int .i64 ((ix l k).purpose))), .ow 9 1 (List.map rS ((ix l k).hold)), .dv (.fl (.int .u64 ((ix l k).dig)))]))), (102, .no)]) rfl (og rfl (of_eff (op_store_pe rfl rfl ti40 rfl rfl (mix_at (by omega)) rfl (.sv rfl) rfl rfl rfl) rfl)) ?_
    refine rg_done rfl ?_
    show A _ _ _ _ _ _ _
    refine a_region ?_
    refine rg_put (d := 23) (v := .d (.fl (.int .i64 (((k : Int) + 1))))) rfl (og rfl (op_bin rfl rfl rfl (fun x y w => b_add64 _ _ _ x y w (by omega)) rfl)) ?_
    refine rg_put (d := 11) (v := .d (.fl (.int .i64 (((k : Int) + 1))))) rfl (og rfl (op_move rfl rfl rfl)) ?_
    refine rg_done rfl ?_
    show ∃ i, _ ∧ _ ∧ Imp _ _ _ _ _
    refine ⟨k + 1, (by omega), by omega, imp_forget rfl ⟨rfl, rfl, rfl, rfl, rfl, (by first | rfl | exact ci (by omega) | exact ci (by simp) | exact cd (by simp) | simp), trivial⟩ ⟨(congrArg (Ob.tr 40 5) (mix_set (by omega))), trivial⟩⟩
  · skip
    have h3 := f_dec h1
    refine a_exit ?_
    show A _ _ _ _ _ _ _
    refine a_rseq ?_
    refine rg_put (d := 24) (v := .ow 101) rfl (og rfl (op_move rfl rfl rfl)) ?_
    refine rg_put (d := 4) (v := .ow 101) rfl (og rfl (op_assign rfl rfl rfl)) ?_
    refine rg_done rfl ?_
    refine a_ret ?_
    show ∃ rv, _ = #[rv] ∧ ResO _ _ rv _
    rw [← mix_all (l := l) (k := k) (by omega)]
    exact ⟨_, rfl, .tmp rfl rfl⟩
set_option maxHeartbeats 4000000 in
set_option maxRecDepth 100000 in
theorem images_copy (l : List Im) (hl : l.length * 65 ≤ 140737488355328) (hb : ∀ q, q < l.length → (ix l q).hold.length * 17 ≤ 140737488355328) : CtrO Try.prog 13 [.sl 5 (List.map eIm l)] (.tr 40 5 (l.map oIm)) := by
  refine ctrO (n := 5) (rs := #[.tmp 2]) (L := [(0, .d (.sl 5 (List.map eIm l)))]) Try.func13 rfl rfl rfl rfl rfl (fun w0 U0 => ?_)
  refine a_rseq ?_
  refine rg_put (d := 2) (v := .d (.fl (.slice none 0 0))) rfl (og rfl (op_assign rfl rfl rfl)) ?_
  refine rg_done rfl ?_
  refine a_rseq ?_
  refine rg_put (d := 3) (v := .d (.sl 5 (List.map eIm l))) rfl (og rfl (op_move rfl rfl rfl)) ?_
  refine rg_nam (d := 4) (v := .ow 101) (m := 101) (nw := [(101, .tr 40 5 (l.map oIm))]) rfl (og rfl (of_eff (op_callO 101 rfl Try.func26 nm26 rfl (.cons rfl (.d _) (.cons rfl (.d _) .nil)) (list_copy l (by omega) hb) rfl) rfl)) rfl ?_
  refine rg_put (d := 2) (v := .ow 101) rfl (og rfl (op_assign rfl rfl rfl)) ?_
  refine rg_done rfl ?_
  refine a_ret ?_
  show ∃ rv, _ = #[rv] ∧ ResO _ _ rv _
  exact ⟨_, rfl, .tmp rfl rfl⟩
theorem imagesW (l : List Im) (hl : l.length ≤ 3000) (hO : ∀ im ∈ l, Okd im) : CtrW Try.prog 13 [.sl 5 (List.map eIm l)] 40 5 (List.map eIm l) :=
  ctrW_of_O (images_copy l (by omega) (fun q hq => by have := (hO _ (ix_mem hq)).l; omega)) map_ok map_rd
end Go.Proofs.Ytaecdkhpidligaa.Wk
