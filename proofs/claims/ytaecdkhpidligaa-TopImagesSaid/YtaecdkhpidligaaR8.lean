/- Copies of images. No condition. -/
import Derived.Test.YtaecdkhpidligaaR7
set_option linter.unusedSimpArgs false
set_option linter.unusedVariables false
namespace Go.Proofs.Ytaecdkhpidligaa.Wr
open Go Go.RowKit Go.Proofs.Ytaecdkhpidligaa.Av Go.Proofs.Ytaecdkhpidligaa.Wk
def oIm (x : Im) : List OC := [.dv (.fl (.string x.id)), .dv (.fl (.int .i64 x.time)), .dv (.fl (.int .i64 x.purpose)), .ow 9 1 (List.map rS x.hold), .dv (.fl (.int .u64 x.dig))]
theorem oIm_rd (x : Im) : (oIm x).map OC.rd = eIm x := rfl
def mix (l : List Im) (k : Nat) : List (List OC) := (l.take k).map oIm ++ tD eIm (l.drop k)
theorem mix_len {l : List Im} {k : Nat} : (mix l k).length = l.length := by simp [mix, tD]; omega
theorem mix_zero (l : List Im) : tD eIm l = mix l 0 := by simp [mix]
theorem mix_all {l : List Im} {k : Nat} (h : ¬ k < l.length) : mix l k = l.map oIm := by
  unfold mix; rw [List.take_of_length_le (by omega), List.drop_eq_nil_of_le (by omega)]; simp [tD]
theorem mix_at {l : List Im} {k : Nat} (h : k < l.length) : (mix l k)[k]? = some (List.map OC.dv (eIm (ix l k))) := by
  unfold mix
  rw [List.getElem?_append_right (by simp; omega), drop_ix h]
  simp [show k - min k l.length = 0 by omega, tD]
theorem mix_set {l : List Im} {k : Nat} (h : k < l.length) : (mix l k).set k (oIm (ix l k)) = mix l (k + 1) := by
  unfold mix
  rw [List.set_append_right _ _ (by simp; omega), drop_ix h, take_ix h]
  simp [show k - min k l.length = 0 by omega, tD]

set_option maxHeartbeats 4000000 in
set_option maxRecDepth 100000 in
theorem clone_str (l : List ByteArray) (hl : (l.length) * 17 ≤ 140737488355328) : CtrO Try.prog 31 [.sl 1 (List.map rS l)] (.tr 9 1 (tD rS l)) := by
  refine ctrO (n := 8) (rs := #[.tmp 2]) (L := [(0, .d (.sl 1 (List.map rS l)))]) Try.func31 rfl rfl rfl rfl rfl (fun w0 U0 => ?_)
  refine a_rseq ?_
  refine rg_put (d := 2) (v := .d (.fl (.slice none 0 0))) rfl (og rfl (op_assign rfl rfl rfl)) ?_
  refine rg_done rfl ?_
  refine a_seq ?_
  refine a_rseq ?_
  refine rg_put (d := 3) (v := .d (.sl 1 (List.map rS l))) rfl (og rfl (op_move rfl rfl rfl)) ?_
  refine rg_isnil rfl rfl rfl Try.underlying33 rfl rfl rfl (fun bh1 nh1 => ?_)
  refine rg_done rfl ?_
  refine a_cond rfl (fun h2 => ?_) (fun h2 => ?_)
  · skip
    refine a_rseq ?_
    refine rg_put (d := 2) (v := .d (.fl (.slice none 0 0))) rfl (og rfl (op_assign rfl rfl rfl)) ?_
    refine rg_done rfl ?_
    have hnil : l = [] := by simpa using nh1 h2
    subst hnil
    refine a_imp (imp_nilT 2 101 9 1 rfl rfl) ?_
    refine a_ret ?_
    show ∃ rv, _ = #[rv] ∧ ResO _ _ rv _
    exact ⟨_, rfl, .tmp rfl rfl⟩
  · skip
    refine a_skip ?_
    show A _ _ _ _ _ _ _
    refine a_rseq ?_
    refine rg_nam (d := 5) (v := .ow 102) (m := 102) (nw := [(102, .tr 9 1 (tD rS []))]) rfl (og rfl (of_eff (op_slice0 102 rfl Try.underlying33 ti9 rfl) rfl)) rfl ?_
    refine rg_put (d := 6) (v := .d (.sl 1 (List.map rS l))) rfl (og rfl (op_move rfl rfl rfl)) ?_
    refine rg_nam (d := 7) (v := .ow 103) (m := 103) (nw := [(103, .tr 9 1 (tD rS ([] ++ l))), (102, .no)]) rfl (og rfl (of_eff (s_append_td 103 rfl Try.underlying33 ti9 rfl rfl rfl rfl rfl (.d _) (by simp only [List.length_nil]; omega) rfl) rfl)) rfl ?_
    refine rg_put (d := 2) (v := .ow 103) rfl (og rfl (op_assign rfl rfl rfl)) ?_
    refine rg_done rfl ?_
    refine a_ret ?_
    show ∃ rv, _ = #[rv] ∧ ResO _ _ rv _
    exact ⟨_, rfl, .tmp rfl rfl⟩
set_option maxHeartbeats 4000000 in
set_option maxRecDepth 100000 in
theorem clone_ims (l : List Im) (hl : (l.length) * 65 ≤ 140737488355328) : CtrO Try.prog 34 [.sl 5 (List.map eIm l)] (.tr 40 5 (tD eIm l)) := by
  refine ctrO (n := 8) (rs := #[.tmp 2]) (L := [(0, .d (.sl 5 (List.map eIm l)))]) Try.func34 rfl rfl rfl rfl rfl (fun w0 U0 => ?_)
  refine a_rseq ?_
  refine rg_put (d := 2) (v := .d (.fl (.slice none 0 0))) rfl (og rfl (op_assign rfl rfl rfl)) ?_
  refine rg_done rfl ?_
  refine a_seq ?_
  refine a_rseq ?_
  refine rg_put (d := 3) (v := .d (.sl 5 (List.map eIm l))) rfl (og rfl (op_move rfl rfl rfl)) ?_
  refine rg_isnil rfl rfl rfl Try.underlying23 rfl rfl rfl (fun bh1 nh1 => ?_)
  refine rg_done rfl ?_
  refine a_cond rfl (fun h2 => ?_) (fun h2 => ?_)
  · skip
    refine a_rseq ?_
    refine rg_put (d := 2) (v := .d (.fl (.slice none 0 0))) rfl (og rfl (op_assign rfl rfl rfl)) ?_
    refine rg_done rfl ?_
    have hnil : l = [] := by simpa using nh1 h2
    subst hnil
    refine a_imp (imp_nilT 2 101 40 5 rfl rfl) ?_
    refine a_ret ?_
    show ∃ rv, _ = #[rv] ∧ ResO _ _ rv _
    exact ⟨_, rfl, .tmp rfl rfl⟩
  · skip
    refine a_skip ?_
    show A _ _ _ _ _ _ _
    refine a_rseq ?_
    refine rg_nam (d := 5) (v := .ow 102) (m := 102) (nw := [(102, .tr 40 5 (tD eIm []))]) rfl (og rfl (of_eff (op_slice0 102 rfl Try.underlying23 ti40 rfl) rfl)) rfl ?_
    refine rg_put (d := 6) (v := .d (.sl 5 (List.map eIm l))) rfl (og rfl (op_move rfl rfl rfl)) ?_
    refine rg_nam (d := 7) (v := .ow 103) (m := 103) (nw := [(103, .tr 40 5 (tD eIm ([] ++ l))), (102, .no)]) rfl (og rfl (of_eff (s_append_td 103 rfl Try.underlying23 ti40 rfl rfl rfl rfl rfl (.d _) (by simp only [List.length_nil]; omega) rfl) rfl)) rfl ?_
    refine rg_put (d := 2) (v := .ow 103) rfl (og rfl (op_assign rfl rfl rfl)) ?_
    refine rg_done rfl ?_
    refine a_ret ?_
    show ∃ rv, _ = #[rv] ∧ ResO _ _ rv _
    exact ⟨_, rfl, .tmp rfl rfl⟩
set_option maxHeartbeats 4000000 in
set_option maxRecDepth 100000 in
theorem fresh_image (im : Im) (hl : im.hold.length * 17 ≤ 140737488355328) : CtrO Try.prog 18 [.ag (eIm im)] (.sv (oIm im)) := by
  refine ctrO (n := 8) (rs := #[.cell 2 40]) (L := [(0, .d (.ag (eIm im)))]) Try.func18 rfl rfl rfl rfl rfl (fun w0 U0 => ?_)
  refine a_rseq ?_
  refine rg_nam (d := 1) (v := .pt 101 0) (m := 101) (nw := [(101, .bx 40 (eIm im))]) rfl (og rfl (of_eff (op_box 101 rfl rfl rfl rfl) rfl)) rfl ?_
  refine rg_nam (d := 2) (v := .pt 102 0) (m := 102) (nw := [(102, .bx 40 ([.fl (.string (⟨#[]⟩)), .fl (.int .i64 0), .fl (.int .i64 0), .fl (.slice none 0 0), .fl (.int .u64 0)]))]) rfl (og rfl (of_eff (s_alloc 102 rfl ti40 (by kernel_rfl) rfl) rfl)) rfl ?_
  refine rg_done rfl ?_
  refine a_rseq ?_
  refine rg_imp (imp_bt 101 rfl) ?_
  refine rg_imp (imp_bt 102 rfl) ?_
  refine rg_put (d := 3) (v := .pt 101 3) rfl (og rfl (of_eff (s_field_pt rfl Try.underlying40 rfl ti33 rfl rfl rfl) rfl)) ?_
  refine rg_put (d := 4) (v := .d (.sl 1 (List.map rS im.hold))) rfl (og rfl (op_load_bt rfl Try.underlying33 rfl rfl rfl rfl rfl)) ?_
  refine rg_nam (d := 5) (v := .ow 103) (m := 103) (nw := [(103, .tr 9 1 (tD rS im.hold))]) rfl (og rfl (of_eff (op_callO 103 rfl Try.func31 nm31 rfl (.cons rfl (.d _) .nil) (clone_str im.hold (by omega)) rfl) rfl)) rfl ?_
  refine rg_put (d := 6) (v := .pt 101 3) rfl (og rfl (of_eff (s_field_pt rfl Try.underlying40 rfl ti33 rfl rfl rfl) rfl)) ?_
  refine rg_sto (nw := [(101, .bt 40 [.dv (.fl (.string im.id)), .dv (.fl (.int .i64 im.time)), .dv (.fl (.int .i64 im.purpose)), .ow 9 1 (List.map rS im.hold), .dv (.fl (.int .u64 im.dig))]), (103, .no)]) rfl (og rfl (of_eff (op_store_bt rfl rfl ti33 rfl rfl rfl (.tr rfl) rfl rfl rfl) rfl)) ?_
  refine rg_done rfl ?_
  refine a_rseq ?_
  refine rg_nam (d := 7) (v := .ow 104) (m := 104) (nw := [(104, .sv [.dv (.fl (.string im.id)), .dv (.fl (.int .i64 im.time)), .dv (.fl (.int .i64 im.purpose)), .ow 9 1 (List.map rS im.hold), .dv (.fl (.int .u64 im.dig))]), (101, .no)]) rfl (og rfl (of_eff (op_move_bt 104 rfl Try.underlying40 rfl ti40 rfl rfl rfl rfl) rfl)) rfl ?_
  refine rg_sto (nw := [(102, .bt 40 [.dv (.fl (.string im.id)), .dv (.fl (.int .i64 im.time)), .dv (.fl (.int .i64 im.purpose)), .ow 9 1 (List.map rS im.hold), .dv (.fl (.int .u64 im.dig))]), (104, .no)]) rfl (og rfl (of_eff (op_store_bt rfl rfl ti40 rfl rfl rfl (.sv rfl) rfl rfl rfl) rfl)) ?_
  refine rg_done rfl ?_
  refine a_ret ?_
  show ∃ rv, _ = #[rv] ∧ ResO _ _ rv _
  exact ⟨_, rfl, .cell rfl rfl Try.underlying40 rfl ti40 rfl⟩
theorem image_copy (im : Im) (hl : im.hold.length * 17 ≤ 140737488355328) : Ctr Try.prog 18 [.ag (eIm im)] (.d (.ag (eIm im))) := ctr_of_O (fresh_image im hl) rfl
end Go.Proofs.Ytaecdkhpidligaa.Wr
