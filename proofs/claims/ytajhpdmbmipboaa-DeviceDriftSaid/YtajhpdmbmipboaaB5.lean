/- The devices of the example, sorted, and their outages. No condition. -/
import Derived.Test.YtajhpdmbmipboaaB4
set_option linter.unusedSimpArgs false
set_option linter.unusedVariables false
namespace Go.Proofs.Ytajhpdmbmipboaa.Wk
open Go Go.RowKit Go.Proofs.Ytajhpdmbmipboaa.Av
def oDc (x : Dc) : List OC := [.dv (.fl (.string x.name)), .dv (.fl (.string x.point)), .dv (.fl (.int .i64 x.kind)), .dv (.fl (.int .i64 x.lane)), .ow 46 2 (List.map eOf x.offs), .ow 48 2 (List.map eIv x.down)]
set_option maxHeartbeats 4000000 in
set_option maxRecDepth 100000 in
theorem clone_of (l : List Of) (hl : (l.length) * 17 ≤ 140737488355328) : CtrO Try.prog 36 [.sl 2 (List.map eOf l)] (.tr 46 2 (tD eOf l)) := by
  refine ctrO (n := 8) (rs := #[.tmp 2]) (L := [(0, .d (.sl 2 (List.map eOf l)))]) Try.func36 rfl rfl rfl rfl rfl (fun w0 U0 => ?_)
  refine a_rseq ?_
  refine rg_put (d := 2) (v := .d (.fl (.slice none 0 0))) rfl (og rfl (op_assign rfl rfl rfl)) ?_
  refine rg_done rfl ?_
  refine a_seq ?_
  refine a_rseq ?_
  refine rg_put (d := 3) (v := .d (.sl 2 (List.map eOf l))) rfl (og rfl (op_move rfl rfl rfl)) ?_
  refine rg_isnil rfl rfl rfl Try.underlying33 rfl rfl rfl (fun bh1 nh1 => ?_)
  refine rg_done rfl ?_
  refine a_cond rfl (fun h2 => ?_) (fun h2 => ?_)
  · skip
    refine a_rseq ?_
    refine rg_put (d := 2) (v := .d (.fl (.slice none 0 0))) rfl (og rfl (op_assign rfl rfl rfl)) ?_
    refine rg_done rfl ?_
    have hnil : l = [] := by simpa using nh1 h2
    subst hnil
    refine a_imp (imp_nilT 2 101 46 2 rfl rfl) ?_
    refine a_ret ?_
    show ∃ rv, _ = #[rv] ∧ ResO _ _ rv _
    exact ⟨_, rfl, .tmp rfl rfl⟩
  · skip
    refine a_skip ?_
    show A _ _ _ _ _ _ _
    refine a_rseq ?_
    refine rg_nam (d := 5) (v := .ow 102) (m := 102) (nw := [(102, .tr 46 2 (tD eOf []))]) rfl (og rfl (of_eff (op_slice0 102 rfl Try.underlying33 ti46 rfl) rfl)) rfl ?_
    refine rg_put (d := 6) (v := .d (.sl 2 (List.map eOf l))) rfl (og rfl (op_move rfl rfl rfl)) ?_
    refine rg_nam (d := 7) (v := .ow 103) (m := 103) (nw := [(103, .tr 46 2 (tD eOf ([] ++ l))), (102, .no)]) rfl (og rfl (of_eff (s_append_td 103 rfl Try.underlying33 ti46 rfl rfl rfl rfl rfl (.d _) (by simp only [List.length_nil]; omega) rfl) rfl)) rfl ?_
    refine rg_put (d := 2) (v := .ow 103) rfl (og rfl (op_assign rfl rfl rfl)) ?_
    refine rg_done rfl ?_
    refine a_ret ?_
    show ∃ rv, _ = #[rv] ∧ ResO _ _ rv _
    exact ⟨_, rfl, .tmp rfl rfl⟩
set_option maxHeartbeats 4000000 in
set_option maxRecDepth 100000 in
theorem clone_iv (l : List Iv) (hl : (l.length) * 17 ≤ 140737488355328) : CtrO Try.prog 37 [.sl 2 (List.map eIv l)] (.tr 48 2 (tD eIv l)) := by
  refine ctrO (n := 8) (rs := #[.tmp 2]) (L := [(0, .d (.sl 2 (List.map eIv l)))]) Try.func37 rfl rfl rfl rfl rfl (fun w0 U0 => ?_)
  refine a_rseq ?_
  refine rg_put (d := 2) (v := .d (.fl (.slice none 0 0))) rfl (og rfl (op_assign rfl rfl rfl)) ?_
  refine rg_done rfl ?_
  refine a_seq ?_
  refine a_rseq ?_
  refine rg_put (d := 3) (v := .d (.sl 2 (List.map eIv l))) rfl (og rfl (op_move rfl rfl rfl)) ?_
  refine rg_isnil rfl rfl rfl Try.underlying34 rfl rfl rfl (fun bh1 nh1 => ?_)
  refine rg_done rfl ?_
  refine a_cond rfl (fun h2 => ?_) (fun h2 => ?_)
  · skip
    refine a_rseq ?_
    refine rg_put (d := 2) (v := .d (.fl (.slice none 0 0))) rfl (og rfl (op_assign rfl rfl rfl)) ?_
    refine rg_done rfl ?_
    have hnil : l = [] := by simpa using nh1 h2
    subst hnil
    refine a_imp (imp_nilT 2 101 48 2 rfl rfl) ?_
    refine a_ret ?_
    show ∃ rv, _ = #[rv] ∧ ResO _ _ rv _
    exact ⟨_, rfl, .tmp rfl rfl⟩
  · skip
    refine a_skip ?_
    show A _ _ _ _ _ _ _
    refine a_rseq ?_
    refine rg_nam (d := 5) (v := .ow 102) (m := 102) (nw := [(102, .tr 48 2 (tD eIv []))]) rfl (og rfl (of_eff (op_slice0 102 rfl Try.underlying34 ti48 rfl) rfl)) rfl ?_
    refine rg_put (d := 6) (v := .d (.sl 2 (List.map eIv l))) rfl (og rfl (op_move rfl rfl rfl)) ?_
    refine rg_nam (d := 7) (v := .ow 103) (m := 103) (nw := [(103, .tr 48 2 (tD eIv ([] ++ l))), (102, .no)]) rfl (og rfl (of_eff (s_append_td 103 rfl Try.underlying34 ti48 rfl rfl rfl rfl rfl (.d _) (by simp only [List.length_nil]; omega) rfl) rfl)) rfl ?_
    refine rg_put (d := 2) (v := .ow 103) rfl (og rfl (op_assign rfl rfl rfl)) ?_
    refine rg_done rfl ?_
    refine a_ret ?_
    show ∃ rv, _ = #[rv] ∧ ResO _ _ rv _
    exact ⟨_, rfl, .tmp rfl rfl⟩
set_option maxHeartbeats 4000000 in
set_option maxRecDepth 100000 in
theorem fresh_dc (x : Dc) (h1 : x.offs.length ≤ 1000) (h2 : x.down.length ≤ 1000) : CtrO Try.prog 29 [.ag (eDc x)] (.sv (oDc x)) := by
  refine ctrO (n := 12) (rs := #[.cell 2 36]) (L := [(0, .d (.ag (eDc x)))]) Try.func29 rfl rfl rfl rfl rfl (fun w0 U0 => ?_)
  refine a_rseq ?_
  refine rg_nam (d := 1) (v := .pt 101 0) (m := 101) (nw := [(101, .bx 36 (eDc x))]) rfl (og rfl (of_eff (op_box 101 rfl rfl rfl rfl) rfl)) rfl ?_
  refine rg_nam (d := 2) (v := .pt 102 0) (m := 102) (nw := [(102, .bx 36 ([.fl (.string (⟨#[]⟩)), .fl (.string (⟨#[]⟩)), .fl (.int .i64 0), .fl (.int .i64 0), .fl (.slice none 0 0), .fl (.slice none 0 0)]))]) rfl (og rfl (of_eff (s_alloc 102 rfl ti36 (by kernel_rfl) rfl) rfl)) rfl ?_
  refine rg_done rfl ?_
  refine a_rseq ?_
  refine rg_imp (imp_bt 101 rfl) ?_
  refine rg_imp (imp_bt 102 rfl) ?_
  refine rg_put (d := 3) (v := .pt 101 4) rfl (og rfl (of_eff (s_field_pt rfl Try.underlying36 rfl ti33 rfl rfl rfl) rfl)) ?_
  refine rg_put (d := 4) (v := .d (.sl 2 (List.map eOf x.offs))) rfl (og rfl (op_load_bt rfl Try.underlying33 rfl rfl rfl rfl rfl)) ?_
  refine rg_nam (d := 5) (v := .ow 103) (m := 103) (nw := [(103, .tr 46 2 (tD eOf x.offs))]) rfl (og rfl (of_eff (op_callO 103 rfl Try.func36 nm36 rfl (.cons rfl (.d _) .nil) (clone_of x.offs (by omega)) rfl) rfl)) rfl ?_
  refine rg_put (d := 6) (v := .pt 101 4) rfl (og rfl (of_eff (s_field_pt rfl Try.underlying36 rfl ti33 rfl rfl rfl) rfl)) ?_
  refine rg_sto (nw := [(101, .bt 36 [.dv (.fl (.string x.name)), .dv (.fl (.string x.point)), .dv (.fl (.int .i64 x.kind)), .dv (.fl (.int .i64 x.lane)), .ow 46 2 (List.map eOf x.offs), .dv (.sl 2 (List.map eIv x.down))]), (103, .no)]) rfl (og rfl (of_eff (op_store_bt rfl rfl ti33 rfl rfl rfl (.tr rfl) rfl rfl rfl) rfl)) ?_
  refine rg_done rfl ?_
  refine a_rseq ?_
  refine rg_put (d := 7) (v := .pt 101 5) rfl (og rfl (of_eff (s_field_pt rfl Try.underlying36 rfl ti34 rfl rfl rfl) rfl)) ?_
  refine rg_put (d := 8) (v := .d (.sl 2 (List.map eIv x.down))) rfl (og rfl (op_load_bt rfl Try.underlying34 rfl rfl rfl rfl rfl)) ?_
  refine rg_nam (d := 9) (v := .ow 104) (m := 104) (nw := [(104, .tr 48 2 (tD eIv x.down))]) rfl (og rfl (of_eff (op_callO 104 rfl Try.func37 nm37 rfl (.cons rfl (.d _) .nil) (clone_iv x.down (by omega)) rfl) rfl)) rfl ?_
  refine rg_put (d := 10) (v := .pt 101 5) rfl (og rfl (of_eff (s_field_pt rfl Try.underlying36 rfl ti34 rfl rfl rfl) rfl)) ?_
  refine rg_sto (nw := [(101, .bt 36 [.dv (.fl (.string x.name)), .dv (.fl (.string x.point)), .dv (.fl (.int .i64 x.kind)), .dv (.fl (.int .i64 x.lane)), .ow 46 2 (List.map eOf x.offs), .ow 48 2 (List.map eIv x.down)]), (104, .no)]) rfl (og rfl (of_eff (op_store_bt rfl rfl ti34 rfl rfl rfl (.tr rfl) rfl rfl rfl) rfl)) ?_
  refine rg_done rfl ?_
  refine a_rseq ?_
  refine rg_nam (d := 11) (v := .ow 105) (m := 105) (nw := [(105, .sv [.dv (.fl (.string x.name)), .dv (.fl (.string x.point)), .dv (.fl (.int .i64 x.kind)), .dv (.fl (.int .i64 x.lane)), .ow 46 2 (List.map eOf x.offs), .ow 48 2 (List.map eIv x.down)]), (101, .no)]) rfl (og rfl (of_eff (op_move_bt 105 rfl Try.underlying36 rfl ti36 rfl rfl rfl rfl) rfl)) rfl ?_
  refine rg_sto (nw := [(102, .bt 36 [.dv (.fl (.string x.name)), .dv (.fl (.string x.point)), .dv (.fl (.int .i64 x.kind)), .dv (.fl (.int .i64 x.lane)), .ow 46 2 (List.map eOf x.offs), .ow 48 2 (List.map eIv x.down)]), (105, .no)]) rfl (og rfl (of_eff (op_store_bt rfl rfl ti36 rfl rfl rfl (.sv rfl) rfl rfl rfl) rfl)) ?_
  refine rg_done rfl ?_
  refine a_ret ?_
  show ∃ rv, _ = #[rv] ∧ ResO _ _ rv _
  exact ⟨_, rfl, .cell rfl rfl Try.underlying36 rfl ti36 rfl⟩
theorem copy29 (x : Dc) (h1 : x.offs.length ≤ 1000) (h2 : x.down.length ≤ 1000) : Ctr Try.prog 29 [.ag (eDc x)] (.d (.ag (eDc x))) := ctr_of_O (fresh_dc x h1 h2) rfl
def cmpS (a b : ByteArray) : Int := if sLt a b = true then -1 else if (!(sLt a b || sEq a b)) = true then 1 else 0
set_option maxHeartbeats 4000000 in
set_option maxRecDepth 100000 in
theorem nan40 (a : ByteArray) : Ctr Try.prog 40 [.fl (.string a)] (.d (.fl (.bool false))) := by
  refine ctr (n := 6) (rs := #[.tmp 2]) (L := [(0, .d (.fl (.string a)))]) Try.func40 rfl rfl rfl rfl rfl (fun w0 U0 => ?_)
  refine a_rseq ?_
  refine rg_put (d := 2) (v := .d (.fl (.bool false))) rfl (og rfl (op_assign rfl rfl rfl)) ?_
  refine rg_done rfl ?_
  refine a_rseq ?_
  refine rg_put (d := 3) (v := .d (.fl (.string a))) rfl (og rfl (op_move rfl rfl rfl)) ?_
  refine rg_put (d := 4) (v := .d (.fl (.string a))) rfl (og rfl (op_move rfl rfl rfl)) ?_
  refine rg_put (d := 5) (v := .d (.fl (.bool ((!(sEq a a)))))) rfl (og rfl (op_bin rfl rfl rfl (b_sne _ _ _) rfl)) ?_
  refine rg_put (d := 2) (v := .d (.fl (.bool ((!(sEq a a)))))) rfl (og rfl (op_assign rfl rfl rfl)) ?_
  refine rg_done rfl ?_
  refine a_ret ?_
  show ∃ ds, ResL _ _ _ ds ∧ RV.of ds = _
  refine ⟨[.fl (.bool ((!(sEq a a))))], (.cons (.tmp rfl (.d _)) .nil), ?_⟩
  rw [show sEq a a = true by simp [sEq]]; rfl
set_option maxHeartbeats 4000000 in
set_option maxRecDepth 100000 in
theorem cmp33 (a b : ByteArray) : Ctr Try.prog 33 [.fl (.string a), .fl (.string b)] (.d (.fl (.int .i64 (cmpS a b)))) := by
  refine ctr (n := 20) (rs := #[.tmp 4]) (L := [(0, .d (.fl (.string a))), (1, .d (.fl (.string b)))]) Try.func33 rfl rfl rfl rfl rfl (fun w0 U0 => ?_)
  refine a_rseq ?_
  refine rg_put (d := 4) (v := .d (.fl (.int .i64 0))) rfl (og rfl (op_assign rfl rfl rfl)) ?_
  refine rg_done rfl ?_
  refine a_rseq ?_
  refine rg_put (d := 7) (v := .d (.fl (.string a))) rfl (og rfl (op_move rfl rfl rfl)) ?_
  refine rg_put (d := 8) (v := .d (.fl (.bool false))) rfl (og rfl (op_call rfl Try.func40 nm40 rfl (.cons rfl (.d _) .nil) (nan40 a) rfl)) ?_
  refine rg_put (d := 5) (v := .d (.fl (.bool false))) rfl (og rfl (op_assign rfl rfl rfl)) ?_
  refine rg_done rfl ?_
  refine a_rseq ?_
  refine rg_put (d := 9) (v := .d (.fl (.string b))) rfl (og rfl (op_move rfl rfl rfl)) ?_
  refine rg_put (d := 10) (v := .d (.fl (.bool false))) rfl (og rfl (op_call rfl Try.func40 nm40 rfl (.cons rfl (.d _) .nil) (nan40 b) rfl)) ?_
  refine rg_put (d := 6) (v := .d (.fl (.bool false))) rfl (og rfl (op_assign rfl rfl rfl)) ?_
  refine rg_done rfl ?_
  refine a_seq ?_
  refine a_rseq ?_
  refine rg_put (d := 11) (v := .d (.fl (.bool false))) rfl (og rfl (op_move rfl rfl rfl)) ?_
  refine rg_done rfl ?_
  refine a_condF rfl rfl ?_
  refine a_skip ?_
  show A _ _ _ _ _ _ _
  refine a_seq ?_
  refine a_rseq ?_
  refine rg_put (d := 13) (v := .d (.fl (.bool false))) rfl (og rfl (op_move rfl rfl rfl)) ?_
  refine rg_done rfl ?_
  refine a_condF rfl rfl ?_
  refine a_skip ?_
  show A _ _ _ _ _ _ _
  refine a_seq ?_
  refine a_rseq ?_
  refine rg_put (d := 14) (v := .d (.fl (.string a))) rfl (og rfl (op_move rfl rfl rfl)) ?_
  refine rg_put (d := 15) (v := .d (.fl (.string b))) rfl (og rfl (op_move rfl rfl rfl)) ?_
  refine rg_put (d := 16) (v := .d (.fl (.bool (sLt a b)))) rfl (og rfl (op_bin rfl rfl rfl (b_slt _ _ _) rfl)) ?_
  refine rg_done rfl ?_
  refine a_cond rfl (fun h1 => ?_) (fun h1 => ?_)
  · skip
    refine a_rseq ?_
    refine rg_put (d := 4) (v := .d (.fl (.int .i64 (-1)))) rfl (og rfl (op_assign rfl rfl rfl)) ?_
    refine rg_done rfl ?_
    refine a_ret ?_
    show ∃ ds, ResL _ _ _ ds ∧ RV.of ds = _
    refine ⟨[.fl (.int .i64 (-1))], (.cons (.tmp rfl (.d _)) .nil), ?_⟩
    have hu : cmpS a b = (-1) := by
      unfold cmpS; rw [if_pos h1]
    rw [hu]; rfl
  · skip
    refine a_skip ?_
    show A _ _ _ _ _ _ _
    refine a_seq ?_
    refine a_rseq ?_
    refine rg_put (d := 17) (v := .d (.fl (.string a))) rfl (og rfl (op_move rfl rfl rfl)) ?_
    refine rg_put (d := 18) (v := .d (.fl (.string b))) rfl (og rfl (op_move rfl rfl rfl)) ?_
    refine rg_put (d := 19) (v := .d (.fl (.bool ((!(sLt a b || sEq a b)))))) rfl (og rfl (op_bin rfl rfl rfl (b_sgt _ _ _) rfl)) ?_
    refine rg_done rfl ?_
    refine a_cond rfl (fun h2 => ?_) (fun h2 => ?_)
    · skip
      have h3 := t_not h2
      refine a_rseq ?_
      refine rg_put (d := 4) (v := .d (.fl (.int .i64 1))) rfl (og rfl (op_assign rfl rfl rfl)) ?_
      refine rg_done rfl ?_
      refine a_ret ?_
      show ∃ ds, ResL _ _ _ ds ∧ RV.of ds = _
      refine ⟨[.fl (.int .i64 1)], (.cons (.tmp rfl (.d _)) .nil), ?_⟩
      have hu : cmpS a b = 1 := by
        unfold cmpS; rw [if_neg (by rw [h1]; decide)]; simp only [h2] <;> rfl
      rw [hu]; rfl
    · skip
      have h4 := f_not h2
      refine a_skip ?_
      show A _ _ _ _ _ _ _
      refine a_rseq ?_
      refine rg_put (d := 4) (v := .d (.fl (.int .i64 0))) rfl (og rfl (op_assign rfl rfl rfl)) ?_
      refine rg_done rfl ?_
      refine a_ret ?_
      show ∃ ds, ResL _ _ _ ds ∧ RV.of ds = _
      refine ⟨[.fl (.int .i64 0)], (.cons (.tmp rfl (.d _)) .nil), ?_⟩
      have hu : cmpS a b = 0 := by
        unfold cmpS; rw [if_neg (by rw [h1]; decide)]; simp only [h2] <;> rfl
      rw [hu]; rfl
theorem cmp33c : Ctr Try.prog 33 [.fl (.string ⟨#[99, 49]⟩), .fl (.string ⟨#[99, 50]⟩)] (.d (.fl (.int .i64 (-1)))) := by
  have := cmp33 ⟨#[99, 49]⟩ ⟨#[99, 50]⟩
  rw [show cmpS ⟨#[99, 49]⟩ ⟨#[99, 50]⟩ = -1 by kernel_rfl] at this; exact this
set_option maxHeartbeats 4000000 in
set_option maxRecDepth 100000 in
theorem clo32  : Ctr Try.prog 32 [.ag (eDc D1), .ag (eDc E1)] (.d (.fl (.int .i64 (-1)))) := by
  refine ctr (n := 10) (rs := #[.tmp 4]) (L := [(0, .d (.ag (eDc D1))), (1, .d (.ag (eDc E1)))]) Try.func32 rfl rfl rfl rfl rfl (fun w0 U0 => ?_)
  refine a_rseq ?_
  refine rg_nam (d := 2) (v := .pt 101 0) (m := 101) (nw := [(101, .bx 36 (eDc D1))]) rfl (og rfl (of_eff (op_box 101 rfl rfl rfl rfl) rfl)) rfl ?_
  refine rg_nam (d := 3) (v := .pt 102 0) (m := 102) (nw := [(102, .bx 36 (eDc E1))]) rfl (og rfl (of_eff (op_box 102 rfl rfl rfl rfl) rfl)) rfl ?_
  refine rg_put (d := 4) (v := .d (.fl (.int .i64 0))) rfl (og rfl (op_assign rfl rfl rfl)) ?_
  refine rg_done rfl ?_
  refine a_rseq ?_
  refine rg_put (d := 5) (v := .pt 101 0) rfl (og rfl (of_eff (s_field_pt rfl Try.underlying36 rfl ti9 rfl rfl rfl) rfl)) ?_
  refine rg_put (d := 6) (v := .d (.fl (.string D1.name))) rfl (og rfl (op_load_pt rfl Try.underlying9 rfl rfl rfl rfl rfl)) ?_
  refine rg_put (d := 7) (v := .pt 102 0) rfl (og rfl (of_eff (s_field_pt rfl Try.underlying36 rfl ti9 rfl rfl rfl) rfl)) ?_
  refine rg_put (d := 8) (v := .d (.fl (.string E1.name))) rfl (og rfl (op_load_pt rfl Try.underlying9 rfl rfl rfl rfl rfl)) ?_
  refine rg_put (d := 9) (v := .d (.fl (.int .i64 (-1 : Int)))) rfl (og rfl (op_call rfl Try.func33 nm33 rfl (.cons rfl (.d _) (.cons rfl (.d _) .nil)) cmp33c rfl)) ?_
  refine rg_put (d := 4) (v := .d (.fl (.int .i64 (-1 : Int)))) rfl (og rfl (op_assign rfl rfl rfl)) ?_
  refine rg_done rfl ?_
  refine a_ret ?_
  show ∃ ds, ResL _ _ _ ds ∧ RV.of ds = _
  refine ⟨[.fl (.int .i64 (-1 : Int))], (.cons (.tmp rfl (.d _)) .nil), ?_⟩
  rfl
set_option maxHeartbeats 4000000 in
set_option maxRecDepth 100000 in
theorem insD  : CtrM Try.prog 42 .r (.tr 36 6 (tD eDc [E1, D1])) [.fl (.int .i64 (0 : Int)), .fl (.int .i64 (2 : Int)), .fn 32 []] (.tr 36 6 (tD eDc [D1, E1])) (.tu []) := by
  refine ctrM (n := 53) (rs := #[]) (L := [(1, .d (.fl (.int .i64 (0 : Int)))), (2, .d (.fl (.int .i64 (2 : Int)))), (3, .d (.fn 32 []))]) Try.func42 rfl rfl rfl rfl rfl rfl rfl (fun w0 U0 v0 H0 V0 Q0 => ?_)
  refine a_rseq ?_
  refine rg_put (d := 10) (v := .d (.fl (.int .i64 (0 : Int)))) rfl (og rfl (op_move rfl rfl rfl)) ?_
  rw [show (0 : Int) = (0 : Int) from by first | rfl | kernel_rfl]
  refine rg_put (d := 11) (v := .d (.fl (.int .i64 (1 : Int)))) rfl (og rfl (op_bin rfl rfl rfl (fun x y w => b_add64 _ _ _ x y w (by first | decide | (simp [ix]; done) | omega)) rfl)) ?_
  refine rg_put (d := 8) (v := .d (.fl (.int .i64 (1 : Int)))) rfl (og rfl (op_assign rfl rfl rfl)) ?_
  rw [show (1 : Int) = (1 : Int) from by first | rfl | kernel_rfl]
  refine rg_done rfl ?_
  refine a_block ?_
  refine a_rounds (n := 1000000) ?_
  refine ard_succ ?_
  refine a_imp (τ := SS [(0, .pw 0 v0), (1, .d (.fl (.int .i64 (0 : Int)))), (2, .d (.fl (.int .i64 (2 : Int)))), (3, .d (.fn 32 [])), (8, .d (.fl (.int .i64 (1 : Int))))] [(0, .tr 36 6 (tD eDc [E1, D1])), (1, .pin H0 V0 Q0)]) (imp_forget rfl ⟨rfl, rfl, rfl, rfl, rfl, trivial⟩ ⟨rfl, rfl, trivial⟩) ?_
  refine a_seq ?_
  refine a_rseq ?_
  refine rg_put (d := 12) (v := .d (.fl (.int .i64 (1 : Int)))) rfl (og rfl (op_move rfl rfl rfl)) ?_
  rw [show (1 : Int) = (1 : Int) from by first | rfl | kernel_rfl]
  refine rg_put (d := 13) (v := .d (.fl (.int .i64 (2 : Int)))) rfl (og rfl (op_move rfl rfl rfl)) ?_
  rw [show (2 : Int) = (2 : Int) from by first | rfl | kernel_rfl]
  refine rg_put (d := 14) (v := .d (.fl (.bool true))) rfl (og rfl (op_bin rfl rfl rfl (b_lss _ _ _ _) rfl)) ?_
  refine rg_done rfl ?_
  refine a_condK rfl rfl ?_
  refine a_skip ?_
  show A _ _ _ _ _ _ _
  refine a_seq ?_
  refine a_block ?_
  refine a_rseq ?_
  refine rg_put (d := 17) (v := .d (.fl (.int .i64 (1 : Int)))) rfl (og rfl (op_move rfl rfl rfl)) ?_
  rw [show (1 : Int) = (1 : Int) from by first | rfl | kernel_rfl]
  refine rg_put (d := 9) (v := .d (.fl (.int .i64 (1 : Int)))) rfl (og rfl (op_assign rfl rfl rfl)) ?_
  rw [show (1 : Int) = (1 : Int) from by first | rfl | kernel_rfl]
  refine rg_done rfl ?_
  refine a_block ?_
  refine a_rounds (n := 1000000) ?_
  refine ard_succ ?_
  refine a_imp (τ := SS [(0, .pw 0 v0), (1, .d (.fl (.int .i64 (0 : Int)))), (2, .d (.fl (.int .i64 (2 : Int)))), (3, .d (.fn 32 [])), (8, .d (.fl (.int .i64 (1 : Int)))), (9, .d (.fl (.int .i64 (1 : Int)))), (14, .d (.fl (.bool true)))] [(0, .tr 36 6 (tD eDc [E1, D1])), (1, .pin H0 V0 Q0)]) (imp_forget rfl ⟨rfl, rfl, rfl, rfl, rfl, rfl, rfl, trivial⟩ ⟨rfl, rfl, trivial⟩) ?_
  refine a_seq ?_
  refine a_dseq (by kernel_rfl) ?_
  refine dr_put (d := 18) (v := .d (.fl (.int .i64 (1 : Int)))) rfl (og rfl (op_move rfl rfl rfl)) ?_
  rw [show (1 : Int) = (1 : Int) from by first | rfl | kernel_rfl]
  refine dr_put (d := 19) (v := .d (.fl (.int .i64 (0 : Int)))) rfl (og rfl (op_move rfl rfl rfl)) ?_
  rw [show (0 : Int) = (0 : Int) from by first | rfl | kernel_rfl]
  refine dr_put (d := 20) (v := .d (.fl (.bool true))) rfl (og rfl (op_bin rfl rfl rfl (b_gtr _ _ _ _) rfl)) ?_
  refine dr_put (d := 21) (v := .d (.fl (.bool true))) rfl (og rfl (op_move rfl rfl rfl)) ?_
  refine dr_put (d := 22) (v := .d (.fn 32 [])) rfl (oy rfl rfl rfl rfl (op_move rfl rfl rfl)) ?_
  refine dr_put (d := 23) (v := .ow 0) rfl (oy rfl rfl rfl rfl (op_move_pw rfl rfl rfl)) ?_
  refine dr_put (d := 24) (v := .d (.fl (.int .i64 (1 : Int)))) rfl (oy rfl rfl rfl rfl (op_move rfl rfl rfl)) ?_
  rw [show (1 : Int) = (1 : Int) from by first | rfl | kernel_rfl]
  refine dr_put (d := 25) (v := .pe 0 6 1 0) rfl (oy rfl rfl rfl rfl (op_index_tr rfl Try.underlying22 ti36 rfl rfl rfl (get_lt (tD_at (by first | decide | (simp [ix]; done) | omega))) rfl)) ?_
  refine dr_put (d := 26) (v := .d (.ag (eDc (ix [E1, D1] 1)))) rfl (oy rfl rfl rfl rfl (of_eff (op_load_pes rfl Try.underlying36 rfl ti36 rfl rfl (tD_at (by first | decide | (simp [ix]; done) | omega)) rfl rfl rfl) rfl)) ?_
  refine dr_put (d := 27) (v := .ow 0) rfl (oy rfl rfl rfl rfl (op_move_pw rfl rfl rfl)) ?_
  refine dr_put (d := 28) (v := .d (.fl (.int .i64 (1 : Int)))) rfl (oy rfl rfl rfl rfl (op_move rfl rfl rfl)) ?_
  rw [show (1 : Int) = (1 : Int) from by first | rfl | kernel_rfl]
  refine dr_put (d := 29) (v := .d (.fl (.int .i64 (0 : Int)))) rfl (oy rfl rfl rfl rfl (op_bin rfl rfl rfl (fun x y w => b_sub64 _ _ _ x y w (by first | decide | (simp [ix]; done) | omega)) rfl)) ?_
  refine dr_put (d := 30) (v := .pe 0 6 0 0) rfl (oy rfl rfl rfl rfl (op_index_tr rfl Try.underlying22 ti36 rfl rfl rfl (get_lt (tD_at (by first | decide | (simp [ix]; done) | omega))) rfl)) ?_
  refine dr_put (d := 31) (v := .d (.ag (eDc (ix [E1, D1] 0)))) rfl (oy rfl rfl rfl rfl (of_eff (op_load_pes rfl Try.underlying36 rfl ti36 rfl rfl (tD_at (by first | decide | (simp [ix]; done) | omega)) rfl rfl rfl) rfl)) ?_
  refine dr_put (d := 32) (v := .d (.fl (.int .i64 (-1 : Int)))) rfl (oy rfl rfl rfl rfl (op_callV rfl rfl ⟨_, Try.func32, nm32, rfl⟩ (.cons rfl (.d _) (.cons rfl (.d _) .nil)) clo32 rfl)) ?_
  rw [show (-1 : Int) = (-1 : Int) from by first | rfl | kernel_rfl]
  refine dr_put (d := 33) (v := .d (.fl (.bool true))) rfl (oy rfl rfl rfl rfl (op_bin rfl rfl rfl (b_lss _ _ _ _) rfl)) ?_
  refine dr_put (d := 34) (v := .d (.fl (.bool true))) rfl (og rfl (op_pick rfl rfl rfl rfl)) ?_
  refine dr_done rfl (sepB_of [0, 0, 3, 7, 15, 15, 15, 111, 239, 15, 15, 1039, 3599, 7695, 16383, 32767, 65535] (by kernel_rfl)) (by kernel_rfl) ?_
  refine a_condK rfl rfl ?_
  refine a_skip ?_
  show A _ _ _ _ _ _ _
  refine a_seq ?_
  refine a_block ?_
  refine a_draw (by kernel_rfl) ?_
  refine dr_put (d := 37) (v := .ow 0) rfl (og rfl (op_move_pw rfl rfl rfl)) ?_
  refine dr_put (d := 38) (v := .d (.fl (.int .i64 (1 : Int)))) rfl (og rfl (op_move rfl rfl rfl)) ?_
  rw [show (1 : Int) = (1 : Int) from by first | rfl | kernel_rfl]
  refine dr_put (d := 39) (v := .ow 0) rfl (og rfl (op_move_pw rfl rfl rfl)) ?_
  refine dr_put (d := 40) (v := .d (.fl (.int .i64 (1 : Int)))) rfl (og rfl (op_move rfl rfl rfl)) ?_
  rw [show (1 : Int) = (1 : Int) from by first | rfl | kernel_rfl]
  refine dr_put (d := 41) (v := .d (.fl (.int .i64 (0 : Int)))) rfl (og rfl (op_bin rfl rfl rfl (fun x y w => b_sub64 _ _ _ x y w (by first | decide | (simp [ix]; done) | omega)) rfl)) ?_
  refine dr_put (d := 42) (v := .ow 0) rfl (og rfl (op_move_pw rfl rfl rfl)) ?_
  refine dr_put (d := 43) (v := .d (.fl (.int .i64 (1 : Int)))) rfl (og rfl (op_move rfl rfl rfl)) ?_
  rw [show (1 : Int) = (1 : Int) from by first | rfl | kernel_rfl]
  refine dr_put (d := 44) (v := .d (.fl (.int .i64 (0 : Int)))) rfl (og rfl (op_bin rfl rfl rfl (fun x y w => b_sub64 _ _ _ x y w (by first | decide | (simp [ix]; done) | omega)) rfl)) ?_
  refine dr_put (d := 45) (v := .pe 0 6 0 0) rfl (og rfl (op_index_tr rfl Try.underlying22 ti36 rfl rfl rfl (get_lt (tD_at (by first | decide | (simp [ix]; done) | omega))) rfl)) ?_
  refine dr_put (d := 46) (v := .d (.ag (eDc (ix [E1, D1] 0)))) rfl (og rfl (of_eff (op_load_pes rfl Try.underlying36 rfl ti36 rfl rfl (tD_at (by first | decide | (simp [ix]; done) | omega)) rfl rfl rfl) rfl)) ?_
  refine dr_put (d := 47) (v := .ow 0) rfl (og rfl (op_move_pw rfl rfl rfl)) ?_
  refine dr_put (d := 48) (v := .d (.fl (.int .i64 (1 : Int)))) rfl (og rfl (op_move rfl rfl rfl)) ?_
  rw [show (1 : Int) = (1 : Int) from by first | rfl | kernel_rfl]
  refine dr_put (d := 49) (v := .pe 0 6 1 0) rfl (og rfl (op_index_tr rfl Try.underlying22 ti36 rfl rfl rfl (get_lt (tD_at (by first | decide | (simp [ix]; done) | omega))) rfl)) ?_
  refine dr_put (d := 50) (v := .d (.ag (eDc (ix [E1, D1] 1)))) rfl (og rfl (of_eff (op_load_pes rfl Try.underlying36 rfl ti36 rfl rfl (tD_at (by first | decide | (simp [ix]; done) | omega)) rfl rfl rfl) rfl)) ?_
  refine dr_put (d := 51) (v := .pe 0 6 1 0) rfl (og rfl (op_index_tr rfl Try.underlying22 ti36 rfl rfl rfl (get_lt (tD_at (by first | decide | (simp [ix]; done) | omega))) rfl)) ?_
  refine dr_sto (nw := [(0, .tr 36 6 (((tD eDc [E1, D1]).set 1 [.dv (.fl (.string ((ix [E1, D1] 0).name))), .dv (.fl (.string ((ix [E1, D1] 0).point))), .dv (.fl (.int .i64 ((ix [E1, D1] 0).kind))), .dv (.fl (.int .i64 ((ix [E1, D1] 0).lane))), .dv (.sl 2 (List.map eOf ((ix [E1, D1] 0).offs))), .dv (.sl 2 (List.map eIv ((ix [E1, D1] 0).down)))])))]) rfl (og rfl (of_eff (op_store_pe rfl rfl ti36 rfl rfl (tD_at (by first | decide | (simp [ix]; done) | omega)) rfl (.d rfl) rfl rfl rfl) rfl)) ?_
  refine dr_put (d := 52) (v := .pe 0 6 0 0) rfl (og rfl (op_index_tr rfl Try.underlying22 ti36 rfl rfl rfl (get_lt rfl) rfl)) ?_
  refine dr_sto (nw := [(0, .tr 36 6 ((((((tD eDc [E1, D1]).set 1 [.dv (.fl (.string ((ix [E1, D1] 0).name))), .dv (.fl (.string ((ix [E1, D1] 0).point))), .dv (.fl (.int .i64 ((ix [E1, D1] 0).kind))), .dv (.fl (.int .i64 ((ix [E1, D1] 0).lane))), .dv (.sl 2 (List.map eOf ((ix [E1, D1] 0).offs))), .dv (.sl 2 (List.map eIv ((ix [E1, D1] 0).down)))]))).set 0 [.dv (.fl (.string ((ix [E1, D1] 1).name))), .dv (.fl (.string ((ix [E1, D1] 1).point))), .dv (.fl (.int .i64 ((ix [E1, D1] 1).kind))), .dv (.fl (.int .i64 ((ix [E1, D1] 1).lane))), .dv (.sl 2 (List.map eOf ((ix [E1, D1] 1).offs))), .dv (.sl 2 (List.map eIv ((ix [E1, D1] 1).down)))])))]) rfl (og rfl (of_eff (op_store_pe rfl rfl ti36 rfl rfl rfl rfl (.d rfl) rfl rfl rfl) rfl)) ?_
  refine dr_done rfl (sepB_of [0, 0, 0, 0, 8, 0, 0, 64, 224, 480, 0, 0, 3072, 7168, 16355, 32739, 65535, 131071] (by kernel_rfl)) (by kernel_rfl) ?_
  show A _ _ _ _ _ _ _
  refine a_region ?_
  refine rg_put (d := 35) (v := .d (.fl (.int .i64 (1 : Int)))) rfl (og rfl (op_move rfl rfl rfl)) ?_
  rw [show (1 : Int) = (1 : Int) from by first | rfl | kernel_rfl]
  refine rg_put (d := 36) (v := .d (.fl (.int .i64 (0 : Int)))) rfl (og rfl (op_bin rfl rfl rfl (fun x y w => b_sub64 _ _ _ x y w (by first | decide | (simp [ix]; done) | omega)) rfl)) ?_
  refine rg_put (d := 9) (v := .d (.fl (.int .i64 (0 : Int)))) rfl (og rfl (op_assign rfl rfl rfl)) ?_
  rw [show (0 : Int) = (0 : Int) from by first | rfl | kernel_rfl]
  refine rg_done rfl ?_
  show ARd _ _ _ _ _ _ _ _
  refine ard_succ ?_
  refine a_imp (τ := SS [(0, .pw 0 v0), (1, .d (.fl (.int .i64 (0 : Int)))), (2, .d (.fl (.int .i64 (2 : Int)))), (3, .d (.fn 32 [])), (8, .d (.fl (.int .i64 (1 : Int)))), (9, .d (.fl (.int .i64 (0 : Int)))), (14, .d (.fl (.bool true))), (34, .d (.fl (.bool true)))] [(0, .tr 36 6 ((((((tD eDc [E1, D1]).set 1 [.dv (.fl (.string ((ix [E1, D1] 0).name))), .dv (.fl (.string ((ix [E1, D1] 0).point))), .dv (.fl (.int .i64 ((ix [E1, D1] 0).kind))), .dv (.fl (.int .i64 ((ix [E1, D1] 0).lane))), .dv (.sl 2 (List.map eOf ((ix [E1, D1] 0).offs))), .dv (.sl 2 (List.map eIv ((ix [E1, D1] 0).down)))]))).set 0 [.dv (.fl (.string ((ix [E1, D1] 1).name))), .dv (.fl (.string ((ix [E1, D1] 1).point))), .dv (.fl (.int .i64 ((ix [E1, D1] 1).kind))), .dv (.fl (.int .i64 ((ix [E1, D1] 1).lane))), .dv (.sl 2 (List.map eOf ((ix [E1, D1] 1).offs))), .dv (.sl 2 (List.map eIv ((ix [E1, D1] 1).down)))]))), (1, .pin H0 V0 Q0)]) (imp_forget rfl ⟨rfl, rfl, rfl, rfl, rfl, rfl, rfl, rfl, trivial⟩ ⟨rfl, rfl, trivial⟩) ?_
  refine a_seq ?_
  refine a_dseq (by kernel_rfl) ?_
  refine dr_put (d := 18) (v := .d (.fl (.int .i64 (0 : Int)))) rfl (og rfl (op_move rfl rfl rfl)) ?_
  rw [show (0 : Int) = (0 : Int) from by first | rfl | kernel_rfl]
  refine dr_put (d := 19) (v := .d (.fl (.int .i64 (0 : Int)))) rfl (og rfl (op_move rfl rfl rfl)) ?_
  rw [show (0 : Int) = (0 : Int) from by first | rfl | kernel_rfl]
  refine dr_put (d := 20) (v := .d (.fl (.bool false))) rfl (og rfl (op_bin rfl rfl rfl (b_gtr _ _ _ _) rfl)) ?_
  refine dr_put (d := 21) (v := .d (.fl (.bool false))) rfl (og rfl (op_move rfl rfl rfl)) ?_
  refine dr_put (d := 22) (v := .d (.fl undef)) rfl (on rfl rfl rfl rfl) ?_
  refine dr_put (d := 23) (v := .d (.fl undef)) rfl (on rfl rfl rfl rfl) ?_
  refine dr_put (d := 24) (v := .d (.fl undef)) rfl (on rfl rfl rfl rfl) ?_
  refine dr_put (d := 25) (v := .d (.fl undef)) rfl (on rfl rfl rfl rfl) ?_
  refine dr_put (d := 26) (v := .d (.fl undef)) rfl (on rfl rfl rfl rfl) ?_
  refine dr_put (d := 27) (v := .d (.fl undef)) rfl (on rfl rfl rfl rfl) ?_
  refine dr_put (d := 28) (v := .d (.fl undef)) rfl (on rfl rfl rfl rfl) ?_
  refine dr_put (d := 29) (v := .d (.fl undef)) rfl (on rfl rfl rfl rfl) ?_
  refine dr_put (d := 30) (v := .d (.fl undef)) rfl (on rfl rfl rfl rfl) ?_
  refine dr_put (d := 31) (v := .d (.fl undef)) rfl (on rfl rfl rfl rfl) ?_
  refine dr_put (d := 32) (v := .d (.fl undef)) rfl (on rfl rfl rfl rfl) ?_
  refine dr_put (d := 33) (v := .d (.fl undef)) rfl (on rfl rfl rfl rfl) ?_
  refine dr_put (d := 34) (v := .d (.fl (.bool false))) rfl (og rfl (op_pick rfl rfl rfl rfl)) ?_
  refine dr_done rfl (sepB_of [0, 0, 3, 7, 15, 15, 15, 111, 239, 15, 15, 1039, 3599, 7695, 16383, 32767, 65535] (by kernel_rfl)) (by kernel_rfl) ?_
  refine a_condF rfl rfl ?_
  refine a_exit ?_
  show A _ _ _ _ _ _ _
  refine a_region ?_
  refine rg_put (d := 15) (v := .d (.fl (.int .i64 (1 : Int)))) rfl (og rfl (op_move rfl rfl rfl)) ?_
  rw [show (1 : Int) = (1 : Int) from by first | rfl | kernel_rfl]
  refine rg_put (d := 16) (v := .d (.fl (.int .i64 (2 : Int)))) rfl (og rfl (op_bin rfl rfl rfl (fun x y w => b_add64 _ _ _ x y w (by first | decide | (simp [ix]; done) | omega)) rfl)) ?_
  refine rg_put (d := 8) (v := .d (.fl (.int .i64 (2 : Int)))) rfl (og rfl (op_assign rfl rfl rfl)) ?_
  rw [show (2 : Int) = (2 : Int) from by first | rfl | kernel_rfl]
  refine rg_done rfl ?_
  show ARd _ _ _ _ _ _ _ _
  refine ard_succ ?_
  refine a_imp (τ := SS [(0, .pw 0 v0), (1, .d (.fl (.int .i64 (0 : Int)))), (2, .d (.fl (.int .i64 (2 : Int)))), (3, .d (.fn 32 [])), (8, .d (.fl (.int .i64 (2 : Int)))), (9, .d (.fl (.int .i64 (0 : Int)))), (14, .d (.fl (.bool true))), (34, .d (.fl (.bool false)))] [(0, .tr 36 6 ((((((tD eDc [E1, D1]).set 1 [.dv (.fl (.string ((ix [E1, D1] 0).name))), .dv (.fl (.string ((ix [E1, D1] 0).point))), .dv (.fl (.int .i64 ((ix [E1, D1] 0).kind))), .dv (.fl (.int .i64 ((ix [E1, D1] 0).lane))), .dv (.sl 2 (List.map eOf ((ix [E1, D1] 0).offs))), .dv (.sl 2 (List.map eIv ((ix [E1, D1] 0).down)))]))).set 0 [.dv (.fl (.string ((ix [E1, D1] 1).name))), .dv (.fl (.string ((ix [E1, D1] 1).point))), .dv (.fl (.int .i64 ((ix [E1, D1] 1).kind))), .dv (.fl (.int .i64 ((ix [E1, D1] 1).lane))), .dv (.sl 2 (List.map eOf ((ix [E1, D1] 1).offs))), .dv (.sl 2 (List.map eIv ((ix [E1, D1] 1).down)))]))), (1, .pin H0 V0 Q0)]) (imp_forget rfl ⟨rfl, rfl, rfl, rfl, rfl, rfl, rfl, rfl, trivial⟩ ⟨rfl, rfl, trivial⟩) ?_
  refine a_seq ?_
  refine a_rseq ?_
  refine rg_put (d := 12) (v := .d (.fl (.int .i64 (2 : Int)))) rfl (og rfl (op_move rfl rfl rfl)) ?_
  rw [show (2 : Int) = (2 : Int) from by first | rfl | kernel_rfl]
  refine rg_put (d := 13) (v := .d (.fl (.int .i64 (2 : Int)))) rfl (og rfl (op_move rfl rfl rfl)) ?_
  rw [show (2 : Int) = (2 : Int) from by first | rfl | kernel_rfl]
  refine rg_put (d := 14) (v := .d (.fl (.bool false))) rfl (og rfl (op_bin rfl rfl rfl (b_lss _ _ _ _) rfl)) ?_
  refine rg_done rfl ?_
  refine a_condF rfl rfl ?_
  refine a_exit ?_
  show (∃ ds, ResL _ _ _ ds ∧ RV.of ds = _) ∧ _ = _ ∧ _ = _ ∧ _ = _
  refine ⟨⟨[], .nil, ?_⟩, rfl, ?_, rfl⟩
  all_goals rfl
set_option maxHeartbeats 4000000 in
set_option maxRecDepth 100000 in
theorem stabD  : CtrM Try.prog 39 .r (.tr 36 6 (tD eDc [E1, D1])) [.fl (.int .i64 (2 : Int)), .fn 32 []] (.tr 36 6 (tD eDc [D1, E1])) (.tu []) := by
  refine ctrM (n := 63) (rs := #[]) (L := [(1, .d (.fl (.int .i64 (2 : Int)))), (2, .d (.fn 32 []))]) Try.func39 rfl rfl rfl rfl rfl rfl rfl (fun w0 U0 v0 H0 V0 Q0 => ?_)
  refine a_rseq ?_
  refine rg_put (d := 6) (v := .d (.fl (.int .i64 20))) rfl (og rfl (op_assign rfl rfl rfl)) ?_
  rw [show 20 = (20 : Int) from by first | rfl | kernel_rfl]
  refine rg_done rfl ?_
  refine a_rseq ?_
  refine rg_put (d := 10) (v := .d (.fl (.int .i64 (20 : Int)))) rfl (og rfl (op_move rfl rfl rfl)) ?_
  rw [show (20 : Int) = (20 : Int) from by first | rfl | kernel_rfl]
  refine rg_put (d := 7) (v := .d (.fl (.int .i64 0))) rfl (og rfl (op_assign rfl rfl rfl)) ?_
  rw [show 0 = (0 : Int) from by first | rfl | kernel_rfl]
  refine rg_put (d := 8) (v := .d (.fl (.int .i64 (20 : Int)))) rfl (og rfl (op_assign rfl rfl rfl)) ?_
  rw [show (20 : Int) = (20 : Int) from by first | rfl | kernel_rfl]
  refine rg_done rfl ?_
  refine a_seq ?_
  refine a_block ?_
  refine a_rounds (n := 1000000) ?_
  refine ard_succ ?_
  refine a_imp (τ := SS [(0, .pw 0 v0), (1, .d (.fl (.int .i64 (2 : Int)))), (2, .d (.fn 32 [])), (6, .d (.fl (.int .i64 (20 : Int)))), (7, .d (.fl (.int .i64 (0 : Int)))), (8, .d (.fl (.int .i64 (20 : Int))))] [(0, .tr 36 6 (tD eDc [E1, D1])), (1, .pin H0 V0 Q0)]) (imp_forget rfl ⟨rfl, rfl, rfl, rfl, rfl, rfl, trivial⟩ ⟨rfl, rfl, trivial⟩) ?_
  refine a_seq ?_
  refine a_rseq ?_
  refine rg_put (d := 11) (v := .d (.fl (.int .i64 (20 : Int)))) rfl (og rfl (op_move rfl rfl rfl)) ?_
  rw [show (20 : Int) = (20 : Int) from by first | rfl | kernel_rfl]
  refine rg_put (d := 12) (v := .d (.fl (.int .i64 (2 : Int)))) rfl (og rfl (op_move rfl rfl rfl)) ?_
  rw [show (2 : Int) = (2 : Int) from by first | rfl | kernel_rfl]
  refine rg_put (d := 13) (v := .d (.fl (.bool false))) rfl (og rfl (op_bin rfl rfl rfl (b_leq _ _ _ _) rfl)) ?_
  refine rg_done rfl ?_
  refine a_condF rfl rfl ?_
  refine a_exit ?_
  show A _ _ _ _ _ _ _
  refine a_rseq ?_
  refine rg_put (d := 23) (v := .ow 0) rfl (og rfl (op_move_pw rfl rfl rfl)) ?_
  refine rg_put (d := 24) (v := .d (.fl (.int .i64 (0 : Int)))) rfl (og rfl (op_move rfl rfl rfl)) ?_
  rw [show (0 : Int) = (0 : Int) from by first | rfl | kernel_rfl]
  refine rg_put (d := 25) (v := .d (.fl (.int .i64 (2 : Int)))) rfl (og rfl (op_move rfl rfl rfl)) ?_
  rw [show (2 : Int) = (2 : Int) from by first | rfl | kernel_rfl]
  refine rg_put (d := 26) (v := .d (.fn 32 [])) rfl (og rfl (op_move rfl rfl rfl)) ?_
  refine rg_upd (d := 27) (v := .tu []) (nw := [(0, .tr 36 6 (tD eDc [D1, E1]))]) rfl (og rfl (of_eff (op_callM .r (m := 0) (ob := .tr 36 6 (tD eDc [E1, D1])) (ob' := .tr 36 6 (tD eDc [D1, E1])) (r := .tu []) rfl Try.func42 nm42 rfl rfl rfl rfl rfl rfl (.cons rfl (.d _) (.cons rfl (.d _) (.cons rfl (.d _) .nil))) insD rfl) rfl)) ?_
  refine rg_done rfl ?_
  refine a_block ?_
  refine a_rounds (n := 1000000) ?_
  refine ard_succ ?_
  refine a_imp (τ := SS [(0, .pw 0 v0), (1, .d (.fl (.int .i64 (2 : Int)))), (2, .d (.fn 32 [])), (6, .d (.fl (.int .i64 (20 : Int)))), (7, .d (.fl (.int .i64 (0 : Int)))), (8, .d (.fl (.int .i64 (20 : Int)))), (13, .d (.fl (.bool false)))] [(0, .tr 36 6 (tD eDc [D1, E1])), (1, .pin H0 V0 Q0)]) (imp_forget rfl ⟨rfl, rfl, rfl, rfl, rfl, rfl, rfl, trivial⟩ ⟨rfl, rfl, trivial⟩) ?_
  refine a_seq ?_
  refine a_rseq ?_
  refine rg_put (d := 28) (v := .d (.fl (.int .i64 (20 : Int)))) rfl (og rfl (op_move rfl rfl rfl)) ?_
  rw [show (20 : Int) = (20 : Int) from by first | rfl | kernel_rfl]
  refine rg_put (d := 29) (v := .d (.fl (.int .i64 (2 : Int)))) rfl (og rfl (op_move rfl rfl rfl)) ?_
  rw [show (2 : Int) = (2 : Int) from by first | rfl | kernel_rfl]
  refine rg_put (d := 30) (v := .d (.fl (.bool false))) rfl (og rfl (op_bin rfl rfl rfl (b_lss _ _ _ _) rfl)) ?_
  refine rg_done rfl ?_
  refine a_condF rfl rfl ?_
  refine a_exit ?_
  show (∃ ds, ResL _ _ _ ds ∧ RV.of ds = _) ∧ _ = _ ∧ _ = _ ∧ _ = _
  refine ⟨⟨[], .nil, ?_⟩, rfl, ?_, rfl⟩
  all_goals rfl
set_option maxHeartbeats 4000000 in
set_option maxRecDepth 100000 in
theorem sortD  : CtrM Try.prog 31 .r (.tr 36 6 (tD eDc [E1, D1])) [.fn 32 []] (.tr 36 6 (tD eDc [D1, E1])) (.tu []) := by
  refine ctrM (n := 9) (rs := #[]) (L := [(1, .d (.fn 32 []))]) Try.func31 rfl rfl rfl rfl rfl rfl rfl (fun w0 U0 v0 H0 V0 Q0 => ?_)
  refine a_region ?_
  refine rg_put (d := 4) (v := .ow 0) rfl (og rfl (op_move_pw rfl rfl rfl)) ?_
  refine rg_put (d := 5) (v := .ow 0) rfl (og rfl (op_move_pw rfl rfl rfl)) ?_
  refine rg_put (d := 6) (v := .d (.fl (.int .i64 ((([E1, D1]).length : Int))))) rfl (og rfl (op_len_tr rfl Try.underlying22 rfl rfl tD_len rfl)) ?_
  rw [show (([E1, D1]).length : Int) = (2 : Int) from by first | rfl | kernel_rfl]
  refine rg_put (d := 7) (v := .d (.fn 32 [])) rfl (og rfl (op_move rfl rfl rfl)) ?_
  refine rg_upd (d := 8) (v := .tu []) (nw := [(0, .tr 36 6 (tD eDc [D1, E1]))]) rfl (og rfl (of_eff (op_callM .r (m := 0) (ob := .tr 36 6 (tD eDc [E1, D1])) (ob' := .tr 36 6 (tD eDc [D1, E1])) (r := .tu []) rfl Try.func39 nm39 rfl rfl rfl rfl rfl rfl (.cons rfl (.d _) (.cons rfl (.d _) .nil)) stabD rfl) rfl)) ?_
  refine rg_done rfl ?_
  show (∃ ds, ResL _ _ _ ds ∧ RV.of ds = _) ∧ _ = _ ∧ _ = _ ∧ _ = _
  refine ⟨⟨[], .nil, ?_⟩, rfl, ?_, rfl⟩
  all_goals rfl
set_option maxHeartbeats 4000000 in
set_option maxRecDepth 100000 in
theorem insD0  : CtrM Try.prog 42 .r (.tr 36 6 (tD eDc ([] : List Dc))) [.fl (.int .i64 (0 : Int)), .fl (.int .i64 (0 : Int)), .fn 32 []] (.tr 36 6 (tD eDc ([] : List Dc))) (.tu []) := by
  refine ctrM (n := 53) (rs := #[]) (L := [(1, .d (.fl (.int .i64 (0 : Int)))), (2, .d (.fl (.int .i64 (0 : Int)))), (3, .d (.fn 32 []))]) Try.func42 rfl rfl rfl rfl rfl rfl rfl (fun w0 U0 v0 H0 V0 Q0 => ?_)
  refine a_rseq ?_
  refine rg_put (d := 10) (v := .d (.fl (.int .i64 (0 : Int)))) rfl (og rfl (op_move rfl rfl rfl)) ?_
  rw [show (0 : Int) = (0 : Int) from by first | rfl | kernel_rfl]
  refine rg_put (d := 11) (v := .d (.fl (.int .i64 (1 : Int)))) rfl (og rfl (op_bin rfl rfl rfl (fun x y w => b_add64 _ _ _ x y w (by first | decide | (simp [ix]; done) | omega)) rfl)) ?_
  refine rg_put (d := 8) (v := .d (.fl (.int .i64 (1 : Int)))) rfl (og rfl (op_assign rfl rfl rfl)) ?_
  rw [show (1 : Int) = (1 : Int) from by first | rfl | kernel_rfl]
  refine rg_done rfl ?_
  refine a_block ?_
  refine a_rounds (n := 1000000) ?_
  refine ard_succ ?_
  refine a_imp (τ := SS [(0, .pw 0 v0), (1, .d (.fl (.int .i64 (0 : Int)))), (2, .d (.fl (.int .i64 (0 : Int)))), (3, .d (.fn 32 [])), (8, .d (.fl (.int .i64 (1 : Int))))] [(0, .tr 36 6 (tD eDc ([] : List Dc))), (1, .pin H0 V0 Q0)]) (imp_forget rfl ⟨rfl, rfl, rfl, rfl, rfl, trivial⟩ ⟨rfl, rfl, trivial⟩) ?_
  refine a_seq ?_
  refine a_rseq ?_
  refine rg_put (d := 12) (v := .d (.fl (.int .i64 (1 : Int)))) rfl (og rfl (op_move rfl rfl rfl)) ?_
  rw [show (1 : Int) = (1 : Int) from by first | rfl | kernel_rfl]
  refine rg_put (d := 13) (v := .d (.fl (.int .i64 (0 : Int)))) rfl (og rfl (op_move rfl rfl rfl)) ?_
  rw [show (0 : Int) = (0 : Int) from by first | rfl | kernel_rfl]
  refine rg_put (d := 14) (v := .d (.fl (.bool false))) rfl (og rfl (op_bin rfl rfl rfl (b_lss _ _ _ _) rfl)) ?_
  refine rg_done rfl ?_
  refine a_condF rfl rfl ?_
  refine a_exit ?_
  show (∃ ds, ResL _ _ _ ds ∧ RV.of ds = _) ∧ _ = _ ∧ _ = _ ∧ _ = _
  refine ⟨⟨[], .nil, ?_⟩, rfl, ?_, rfl⟩
  all_goals rfl
set_option maxHeartbeats 4000000 in
set_option maxRecDepth 100000 in
theorem stabD0  : CtrM Try.prog 39 .r (.tr 36 6 (tD eDc ([] : List Dc))) [.fl (.int .i64 (0 : Int)), .fn 32 []] (.tr 36 6 (tD eDc ([] : List Dc))) (.tu []) := by
  refine ctrM (n := 63) (rs := #[]) (L := [(1, .d (.fl (.int .i64 (0 : Int)))), (2, .d (.fn 32 []))]) Try.func39 rfl rfl rfl rfl rfl rfl rfl (fun w0 U0 v0 H0 V0 Q0 => ?_)
  refine a_rseq ?_
  refine rg_put (d := 6) (v := .d (.fl (.int .i64 20))) rfl (og rfl (op_assign rfl rfl rfl)) ?_
  rw [show 20 = (20 : Int) from by first | rfl | kernel_rfl]
  refine rg_done rfl ?_
  refine a_rseq ?_
  refine rg_put (d := 10) (v := .d (.fl (.int .i64 (20 : Int)))) rfl (og rfl (op_move rfl rfl rfl)) ?_
  rw [show (20 : Int) = (20 : Int) from by first | rfl | kernel_rfl]
  refine rg_put (d := 7) (v := .d (.fl (.int .i64 0))) rfl (og rfl (op_assign rfl rfl rfl)) ?_
  rw [show 0 = (0 : Int) from by first | rfl | kernel_rfl]
  refine rg_put (d := 8) (v := .d (.fl (.int .i64 (20 : Int)))) rfl (og rfl (op_assign rfl rfl rfl)) ?_
  rw [show (20 : Int) = (20 : Int) from by first | rfl | kernel_rfl]
  refine rg_done rfl ?_
  refine a_seq ?_
  refine a_block ?_
  refine a_rounds (n := 1000000) ?_
  refine ard_succ ?_
  refine a_imp (τ := SS [(0, .pw 0 v0), (1, .d (.fl (.int .i64 (0 : Int)))), (2, .d (.fn 32 [])), (6, .d (.fl (.int .i64 (20 : Int)))), (7, .d (.fl (.int .i64 (0 : Int)))), (8, .d (.fl (.int .i64 (20 : Int))))] [(0, .tr 36 6 (tD eDc ([] : List Dc))), (1, .pin H0 V0 Q0)]) (imp_forget rfl ⟨rfl, rfl, rfl, rfl, rfl, rfl, trivial⟩ ⟨rfl, rfl, trivial⟩) ?_
  refine a_seq ?_
  refine a_rseq ?_
  refine rg_put (d := 11) (v := .d (.fl (.int .i64 (20 : Int)))) rfl (og rfl (op_move rfl rfl rfl)) ?_
  rw [show (20 : Int) = (20 : Int) from by first | rfl | kernel_rfl]
  refine rg_put (d := 12) (v := .d (.fl (.int .i64 (0 : Int)))) rfl (og rfl (op_move rfl rfl rfl)) ?_
  rw [show (0 : Int) = (0 : Int) from by first | rfl | kernel_rfl]
  refine rg_put (d := 13) (v := .d (.fl (.bool false))) rfl (og rfl (op_bin rfl rfl rfl (b_leq _ _ _ _) rfl)) ?_
  refine rg_done rfl ?_
  refine a_condF rfl rfl ?_
  refine a_exit ?_
  show A _ _ _ _ _ _ _
  refine a_rseq ?_
  refine rg_put (d := 23) (v := .ow 0) rfl (og rfl (op_move_pw rfl rfl rfl)) ?_
  refine rg_put (d := 24) (v := .d (.fl (.int .i64 (0 : Int)))) rfl (og rfl (op_move rfl rfl rfl)) ?_
  rw [show (0 : Int) = (0 : Int) from by first | rfl | kernel_rfl]
  refine rg_put (d := 25) (v := .d (.fl (.int .i64 (0 : Int)))) rfl (og rfl (op_move rfl rfl rfl)) ?_
  rw [show (0 : Int) = (0 : Int) from by first | rfl | kernel_rfl]
  refine rg_put (d := 26) (v := .d (.fn 32 [])) rfl (og rfl (op_move rfl rfl rfl)) ?_
  refine rg_upd (d := 27) (v := .tu []) (nw := [(0, .tr 36 6 (tD eDc ([] : List Dc)))]) rfl (og rfl (of_eff (op_callM .r (m := 0) (ob := .tr 36 6 (tD eDc ([] : List Dc))) (ob' := .tr 36 6 (tD eDc ([] : List Dc))) (r := .tu []) rfl Try.func42 nm42 rfl rfl rfl rfl rfl rfl (.cons rfl (.d _) (.cons rfl (.d _) (.cons rfl (.d _) .nil))) insD0 rfl) rfl)) ?_
  refine rg_done rfl ?_
  refine a_block ?_
  refine a_rounds (n := 1000000) ?_
  refine ard_succ ?_
  refine a_imp (τ := SS [(0, .pw 0 v0), (1, .d (.fl (.int .i64 (0 : Int)))), (2, .d (.fn 32 [])), (6, .d (.fl (.int .i64 (20 : Int)))), (7, .d (.fl (.int .i64 (0 : Int)))), (8, .d (.fl (.int .i64 (20 : Int)))), (13, .d (.fl (.bool false)))] [(0, .tr 36 6 (tD eDc ([] : List Dc))), (1, .pin H0 V0 Q0)]) (imp_forget rfl ⟨rfl, rfl, rfl, rfl, rfl, rfl, rfl, trivial⟩ ⟨rfl, rfl, trivial⟩) ?_
  refine a_seq ?_
  refine a_rseq ?_
  refine rg_put (d := 28) (v := .d (.fl (.int .i64 (20 : Int)))) rfl (og rfl (op_move rfl rfl rfl)) ?_
  rw [show (20 : Int) = (20 : Int) from by first | rfl | kernel_rfl]
  refine rg_put (d := 29) (v := .d (.fl (.int .i64 (0 : Int)))) rfl (og rfl (op_move rfl rfl rfl)) ?_
  rw [show (0 : Int) = (0 : Int) from by first | rfl | kernel_rfl]
  refine rg_put (d := 30) (v := .d (.fl (.bool false))) rfl (og rfl (op_bin rfl rfl rfl (b_lss _ _ _ _) rfl)) ?_
  refine rg_done rfl ?_
  refine a_condF rfl rfl ?_
  refine a_exit ?_
  show (∃ ds, ResL _ _ _ ds ∧ RV.of ds = _) ∧ _ = _ ∧ _ = _ ∧ _ = _
  refine ⟨⟨[], .nil, ?_⟩, rfl, ?_, rfl⟩
  all_goals rfl
set_option maxHeartbeats 4000000 in
set_option maxRecDepth 100000 in
theorem sortD0  : CtrM Try.prog 31 .r (.tr 36 6 (tD eDc ([] : List Dc))) [.fn 32 []] (.tr 36 6 (tD eDc ([] : List Dc))) (.tu []) := by
  refine ctrM (n := 9) (rs := #[]) (L := [(1, .d (.fn 32 []))]) Try.func31 rfl rfl rfl rfl rfl rfl rfl (fun w0 U0 v0 H0 V0 Q0 => ?_)
  refine a_region ?_
  refine rg_put (d := 4) (v := .ow 0) rfl (og rfl (op_move_pw rfl rfl rfl)) ?_
  refine rg_put (d := 5) (v := .ow 0) rfl (og rfl (op_move_pw rfl rfl rfl)) ?_
  refine rg_put (d := 6) (v := .d (.fl (.int .i64 (((([] : List Dc)).length : Int))))) rfl (og rfl (op_len_tr rfl Try.underlying22 rfl rfl tD_len rfl)) ?_
  rw [show ((([] : List Dc)).length : Int) = (0 : Int) from by first | rfl | kernel_rfl]
  refine rg_put (d := 7) (v := .d (.fn 32 [])) rfl (og rfl (op_move rfl rfl rfl)) ?_
  refine rg_upd (d := 8) (v := .tu []) (nw := [(0, .tr 36 6 (tD eDc ([] : List Dc)))]) rfl (og rfl (of_eff (op_callM .r (m := 0) (ob := .tr 36 6 (tD eDc ([] : List Dc))) (ob' := .tr 36 6 (tD eDc ([] : List Dc))) (r := .tu []) rfl Try.func39 nm39 rfl rfl rfl rfl rfl rfl (.cons rfl (.d _) (.cons rfl (.d _) .nil)) stabD0 rfl) rfl)) ?_
  refine rg_done rfl ?_
  show (∃ ds, ResL _ _ _ ds ∧ RV.of ds = _) ∧ _ = _ ∧ _ = _ ∧ _ = _
  refine ⟨⟨[], .nil, ?_⟩, rfl, ?_, rfl⟩
  all_goals rfl
set_option maxHeartbeats 4000000 in
set_option maxRecDepth 100000 in
theorem at2  : Ctr Try.prog 17 [.sl 6 (List.map eDc [E1, D1]), .fl (.string (⟨#[97]⟩)), .fl (.int .i64 (2 : Int))] (.d (.sl 6 (List.map eDc [D1, E1]))) := by
  refine ctr (n := 39) (rs := #[.tmp 6]) (L := [(0, .d (.sl 6 (List.map eDc [E1, D1]))), (1, .d (.fl (.string (⟨#[97]⟩)))), (2, .d (.fl (.int .i64 (2 : Int))))]) Try.func17 rfl rfl rfl rfl rfl (fun w0 U0 => ?_)
  refine a_rseq ?_
  refine rg_put (d := 6) (v := .d (.fl (.slice none 0 0))) rfl (og rfl (op_assign rfl rfl rfl)) ?_
  refine rg_done rfl ?_
  refine a_rseq ?_
  refine rg_put (d := 7) (v := .d (.fl (.slice none 0 0))) rfl (og rfl (op_assign rfl rfl rfl)) ?_
  refine rg_done rfl ?_
  refine a_seq ?_
  refine a_rseq ?_
  refine rg_imp (imp_nilT 7 101 36 6 rfl rfl) ?_
  refine rg_put (d := 10) (v := .d (.sl 6 (List.map eDc [E1, D1]))) rfl (og rfl (op_move rfl rfl rfl)) ?_
  refine rg_put (d := 11) (v := .d (.fl (.int .i64 ([E1, D1].length : Int)))) rfl (og rfl (s_len rfl Try.underlying22 rfl rfl)) ?_
  rw [show ([E1, D1].length : Int) = (2 : Int) from by first | rfl | kernel_rfl]
  refine rg_put (d := 12) (v := .d (.fl (.int .i64 0))) rfl (og rfl (op_move rfl rfl rfl)) ?_
  rw [show 0 = (0 : Int) from by first | rfl | kernel_rfl]
  refine rg_done rfl ?_
  refine a_block ?_
  refine a_rounds (n := 1000000) ?_
  refine ard_succ ?_
  refine a_imp (τ := SS [(0, .d (.sl 6 (List.map eDc [E1, D1]))), (1, .d (.fl (.string (⟨#[97]⟩)))), (2, .d (.fl (.int .i64 (2 : Int)))), (6, .d (.fl (.slice none 0 0))), (7, .ow 101), (10, .d (.sl 6 (List.map eDc [E1, D1]))), (11, .d (.fl (.int .i64 (2 : Int)))), (12, .d (.fl (.int .i64 (0 : Int))))] [(101, .tr 36 6 (tD eDc []))]) (imp_forget rfl ⟨rfl, rfl, rfl, rfl, rfl, rfl, rfl, rfl, trivial⟩ ⟨rfl, trivial⟩) ?_
  refine a_rseq ?_
  refine rg_put (d := 13) (v := .d (.fl (.bool true))) rfl (og rfl (op_bin rfl rfl rfl (b_lss _ _ _ _) rfl)) ?_
  refine rg_done rfl ?_
  refine a_seq ?_
  refine a_condK rfl rfl ?_
  refine a_skip ?_
  show A _ _ _ _ _ _ _
  refine a_seq ?_
  refine a_block ?_
  refine a_rseq ?_
  refine rg_put (d := 14) (v := .el ((eDc (ix [E1, D1] 0)))) rfl (og rfl (s_index rfl Try.underlying22 ti36 rfl rfl (by first | decide | (simp [ix]; done) | omega) (row_at (by first | decide | (simp [ix]; done) | omega)) rfl)) ?_
  refine rg_put (d := 15) (v := .d (.ag (eDc (ix [E1, D1] 0)))) rfl (og rfl (of_eff (s_load_els rfl Try.underlying36 rfl ti36 rfl rfl rfl) rfl)) ?_
  refine rg_nam (d := 9) (v := .pt 102 0) (m := 102) (nw := [(102, .bx 36 ([.fl (.string (⟨#[]⟩)), .fl (.string (⟨#[]⟩)), .fl (.int .i64 0), .fl (.int .i64 0), .fl (.slice none 0 0), .fl (.slice none 0 0)]))]) rfl (og rfl (of_eff (s_alloc 102 rfl ti36 (by kernel_rfl) rfl) rfl)) rfl ?_
  refine rg_sto (nw := [(102, .bx 36 ((eDc (ix [E1, D1] 0))))]) rfl (og rfl (of_eff (s_store rfl rfl ti36 rfl rfl rfl rfl rfl rfl) rfl)) ?_
  refine rg_done rfl ?_
  refine a_rseq ?_
  refine rg_put (d := 16) (v := .pt 102 1) rfl (og rfl (of_eff (s_field_pt rfl Try.underlying36 rfl ti9 rfl rfl rfl) rfl)) ?_
  refine rg_put (d := 17) (v := .d (.fl (.string ((ix [E1, D1] 0).point)))) rfl (og rfl (op_load_pt rfl Try.underlying9 rfl rfl rfl rfl rfl)) ?_
  refine rg_put (d := 18) (v := .d (.fl (.string (⟨#[97]⟩)))) rfl (og rfl (op_move rfl rfl rfl)) ?_
  refine rg_put (d := 19) (v := .d (.fl (.bool true))) rfl (og rfl (op_bin rfl rfl rfl (b_seq _ _ _) rfl)) ?_
  refine rg_put (d := 20) (v := .d (.fl (.bool true))) rfl (og rfl (op_move rfl rfl rfl)) ?_
  refine rg_put (d := 21) (v := .d (.fl (.int .i64 (2 : Int)))) rfl (oy rfl rfl rfl rfl (op_move rfl rfl rfl)) ?_
  rw [show (2 : Int) = (2 : Int) from by first | rfl | kernel_rfl]
  refine rg_put (d := 22) (v := .d (.fl (.bool false))) rfl (oy rfl rfl rfl rfl (op_bin rfl rfl rfl (b_eql _ _ _ _) rfl)) ?_
  refine rg_put (d := 23) (v := .d (.fl (.bool false))) rfl (oy rfl rfl rfl rfl (op_move rfl rfl rfl)) ?_
  refine rg_put (d := 24) (v := .pt 102 2) rfl (oy rfl rfl rfl rfl (of_eff (s_field_pt rfl Try.underlying36 rfl ti3 rfl rfl rfl) rfl)) ?_
  refine rg_put (d := 25) (v := .d (.fl (.int .i64 ((ix [E1, D1] 0).kind)))) rfl (oy rfl rfl rfl rfl (op_load_pt rfl Try.underlying3 rfl rfl rfl rfl rfl)) ?_
  rw [show (ix [E1, D1] 0).kind = (2 : Int) from by first | rfl | kernel_rfl]
  refine rg_put (d := 26) (v := .d (.fl (.int .i64 (2 : Int)))) rfl (oy rfl rfl rfl rfl (op_move rfl rfl rfl)) ?_
  rw [show (2 : Int) = (2 : Int) from by first | rfl | kernel_rfl]
  refine rg_put (d := 27) (v := .d (.fl (.bool true))) rfl (oy rfl rfl rfl rfl (op_bin rfl rfl rfl (b_eql _ _ _ _) rfl)) ?_
  refine rg_put (d := 28) (v := .d (.fl (.bool true))) rfl (oy rfl rfl rfl rfl (op_pick rfl rfl rfl rfl)) ?_
  refine rg_put (d := 29) (v := .d (.fl (.bool true))) rfl (og rfl (op_pick rfl rfl rfl rfl)) ?_
  refine rg_done rfl ?_
  refine a_condK rfl rfl ?_
  refine a_region ?_
  refine rg_put (d := 30) (v := .ow 101) rfl (og rfl (op_move rfl rfl rfl)) ?_
  refine rg_put (d := 31) (v := .d (.ag (eDc (ix [E1, D1] 0)))) rfl (og rfl (of_eff (s_load_pts rfl Try.underlying36 rfl ti36 rfl rfl rfl rfl) rfl)) ?_
  refine rg_put (d := 32) (v := .d (.ag (eDc E1))) rfl (og rfl (op_call rfl Try.func29 nm29 rfl (.cons rfl (.d _) .nil) (copy29 E1 (by decide) (by decide)) rfl)) ?_
  refine rg_put (d := 33) (v := .d (.sl 6 (List.map eDc [E1]))) rfl (og rfl (of_eff (op_slices rfl Try.underlying22 ti36 rfl rfl rfl (by kernel_rfl) (xs := [.ag (eDc E1)]) rfl rfl (.cons rfl rfl (.d _) rfl rfl rfl .nil) rfl) rfl)) ?_
  refine rg_nam (d := 34) (v := .ow 103) (m := 103) (nw := [(103, .tr 36 6 (tD eDc ([] ++ [E1]))), (101, .no)]) rfl (og rfl (of_eff (s_append_td 103 rfl Try.underlying22 ti36 rfl rfl rfl rfl rfl (.d _) (by simp) rfl) rfl)) rfl ?_
  refine rg_put (d := 7) (v := .ow 103) rfl (og rfl (op_assign rfl rfl rfl)) ?_
  refine rg_done rfl ?_
  show A _ _ _ _ _ _ _
  refine a_region ?_
  refine rg_put (d := 35) (v := .d (.fl (.int .i64 (1 : Int)))) rfl (og rfl (op_bin rfl rfl rfl (fun x y w => b_add64 _ _ _ x y w (by first | decide | (simp [ix]; done) | omega)) rfl)) ?_
  refine rg_put (d := 12) (v := .d (.fl (.int .i64 (1 : Int)))) rfl (og rfl (op_move rfl rfl rfl)) ?_
  rw [show (1 : Int) = (1 : Int) from by first | rfl | kernel_rfl]
  refine rg_done rfl ?_
  show ARd _ _ _ _ _ _ _ _
  refine ard_succ ?_
  refine a_imp (τ := SS [(0, .d (.sl 6 (List.map eDc [E1, D1]))), (1, .d (.fl (.string (⟨#[97]⟩)))), (2, .d (.fl (.int .i64 (2 : Int)))), (6, .d (.fl (.slice none 0 0))), (7, .ow 103), (9, .pt 102 0), (10, .d (.sl 6 (List.map eDc [E1, D1]))), (11, .d (.fl (.int .i64 (2 : Int)))), (12, .d (.fl (.int .i64 (1 : Int)))), (13, .d (.fl (.bool true))), (29, .d (.fl (.bool true)))] [(102, .bx 36 ((eDc (ix [E1, D1] 0)))), (103, .tr 36 6 (tD eDc ([] ++ [E1])))]) (imp_forget rfl ⟨rfl, rfl, rfl, rfl, rfl, rfl, rfl, rfl, rfl, rfl, rfl, trivial⟩ ⟨rfl, rfl, trivial⟩) ?_
  refine a_rseq ?_
  refine rg_put (d := 13) (v := .d (.fl (.bool true))) rfl (og rfl (op_bin rfl rfl rfl (b_lss _ _ _ _) rfl)) ?_
  refine rg_done rfl ?_
  refine a_seq ?_
  refine a_condK rfl rfl ?_
  refine a_skip ?_
  show A _ _ _ _ _ _ _
  refine a_seq ?_
  refine a_block ?_
  refine a_rseq ?_
  refine rg_put (d := 14) (v := .el ((eDc (ix [E1, D1] 1)))) rfl (og rfl (s_index rfl Try.underlying22 ti36 rfl rfl (by first | decide | (simp [ix]; done) | omega) (row_at (by first | decide | (simp [ix]; done) | omega)) rfl)) ?_
  refine rg_put (d := 15) (v := .d (.ag (eDc (ix [E1, D1] 1)))) rfl (og rfl (of_eff (s_load_els rfl Try.underlying36 rfl ti36 rfl rfl rfl) rfl)) ?_
  refine rg_nam (d := 9) (v := .pt 104 0) (m := 104) (nw := [(104, .bx 36 ([.fl (.string (⟨#[]⟩)), .fl (.string (⟨#[]⟩)), .fl (.int .i64 0), .fl (.int .i64 0), .fl (.slice none 0 0), .fl (.slice none 0 0)]))]) rfl (og rfl (of_eff (s_alloc 104 rfl ti36 (by kernel_rfl) rfl) rfl)) rfl ?_
  refine rg_sto (nw := [(104, .bx 36 ((eDc (ix [E1, D1] 1))))]) rfl (og rfl (of_eff (s_store rfl rfl ti36 rfl rfl rfl rfl rfl rfl) rfl)) ?_
  refine rg_done rfl ?_
  refine a_rseq ?_
  refine rg_put (d := 16) (v := .pt 104 1) rfl (og rfl (of_eff (s_field_pt rfl Try.underlying36 rfl ti9 rfl rfl rfl) rfl)) ?_
  refine rg_put (d := 17) (v := .d (.fl (.string ((ix [E1, D1] 1).point)))) rfl (og rfl (op_load_pt rfl Try.underlying9 rfl rfl rfl rfl rfl)) ?_
  refine rg_put (d := 18) (v := .d (.fl (.string (⟨#[97]⟩)))) rfl (og rfl (op_move rfl rfl rfl)) ?_
  refine rg_put (d := 19) (v := .d (.fl (.bool true))) rfl (og rfl (op_bin rfl rfl rfl (b_seq _ _ _) rfl)) ?_
  refine rg_put (d := 20) (v := .d (.fl (.bool true))) rfl (og rfl (op_move rfl rfl rfl)) ?_
  refine rg_put (d := 21) (v := .d (.fl (.int .i64 (2 : Int)))) rfl (oy rfl rfl rfl rfl (op_move rfl rfl rfl)) ?_
  rw [show (2 : Int) = (2 : Int) from by first | rfl | kernel_rfl]
  refine rg_put (d := 22) (v := .d (.fl (.bool false))) rfl (oy rfl rfl rfl rfl (op_bin rfl rfl rfl (b_eql _ _ _ _) rfl)) ?_
  refine rg_put (d := 23) (v := .d (.fl (.bool false))) rfl (oy rfl rfl rfl rfl (op_move rfl rfl rfl)) ?_
  refine rg_put (d := 24) (v := .pt 104 2) rfl (oy rfl rfl rfl rfl (of_eff (s_field_pt rfl Try.underlying36 rfl ti3 rfl rfl rfl) rfl)) ?_
  refine rg_put (d := 25) (v := .d (.fl (.int .i64 ((ix [E1, D1] 1).kind)))) rfl (oy rfl rfl rfl rfl (op_load_pt rfl Try.underlying3 rfl rfl rfl rfl rfl)) ?_
  rw [show (ix [E1, D1] 1).kind = (2 : Int) from by first | rfl | kernel_rfl]
  refine rg_put (d := 26) (v := .d (.fl (.int .i64 (2 : Int)))) rfl (oy rfl rfl rfl rfl (op_move rfl rfl rfl)) ?_
  rw [show (2 : Int) = (2 : Int) from by first | rfl | kernel_rfl]
  refine rg_put (d := 27) (v := .d (.fl (.bool true))) rfl (oy rfl rfl rfl rfl (op_bin rfl rfl rfl (b_eql _ _ _ _) rfl)) ?_
  refine rg_put (d := 28) (v := .d (.fl (.bool true))) rfl (oy rfl rfl rfl rfl (op_pick rfl rfl rfl rfl)) ?_
  refine rg_put (d := 29) (v := .d (.fl (.bool true))) rfl (og rfl (op_pick rfl rfl rfl rfl)) ?_
  refine rg_done rfl ?_
  refine a_condK rfl rfl ?_
  refine a_region ?_
  refine rg_put (d := 30) (v := .ow 103) rfl (og rfl (op_move rfl rfl rfl)) ?_
  refine rg_put (d := 31) (v := .d (.ag (eDc (ix [E1, D1] 1)))) rfl (og rfl (of_eff (s_load_pts rfl Try.underlying36 rfl ti36 rfl rfl rfl rfl) rfl)) ?_
  refine rg_put (d := 32) (v := .d (.ag (eDc D1))) rfl (og rfl (op_call rfl Try.func29 nm29 rfl (.cons rfl (.d _) .nil) (copy29 D1 (by decide) (by decide)) rfl)) ?_
  refine rg_put (d := 33) (v := .d (.sl 6 (List.map eDc [D1]))) rfl (og rfl (of_eff (op_slices rfl Try.underlying22 ti36 rfl rfl rfl (by kernel_rfl) (xs := [.ag (eDc D1)]) rfl rfl (.cons rfl rfl (.d _) rfl rfl rfl .nil) rfl) rfl)) ?_
  refine rg_nam (d := 34) (v := .ow 105) (m := 105) (nw := [(105, .tr 36 6 (tD eDc ((([] ++ [E1]) ++ [D1])))), (103, .no)]) rfl (og rfl (of_eff (s_append_td 105 rfl Try.underlying22 ti36 rfl rfl rfl rfl rfl (.d _) (by simp) rfl) rfl)) rfl ?_
  refine rg_put (d := 7) (v := .ow 105) rfl (og rfl (op_assign rfl rfl rfl)) ?_
  refine rg_done rfl ?_
  show A _ _ _ _ _ _ _
  refine a_region ?_
  refine rg_put (d := 35) (v := .d (.fl (.int .i64 (2 : Int)))) rfl (og rfl (op_bin rfl rfl rfl (fun x y w => b_add64 _ _ _ x y w (by first | decide | (simp [ix]; done) | omega)) rfl)) ?_
  refine rg_put (d := 12) (v := .d (.fl (.int .i64 (2 : Int)))) rfl (og rfl (op_move rfl rfl rfl)) ?_
  rw [show (2 : Int) = (2 : Int) from by first | rfl | kernel_rfl]
  refine rg_done rfl ?_
  show ARd _ _ _ _ _ _ _ _
  refine ard_succ ?_
  refine a_imp (τ := SS [(0, .d (.sl 6 (List.map eDc [E1, D1]))), (1, .d (.fl (.string (⟨#[97]⟩)))), (2, .d (.fl (.int .i64 (2 : Int)))), (6, .d (.fl (.slice none 0 0))), (7, .ow 105), (9, .pt 104 0), (10, .d (.sl 6 (List.map eDc [E1, D1]))), (11, .d (.fl (.int .i64 (2 : Int)))), (12, .d (.fl (.int .i64 (2 : Int)))), (13, .d (.fl (.bool true))), (29, .d (.fl (.bool true)))] [(104, .bx 36 ((eDc (ix [E1, D1] 1)))), (105, .tr 36 6 (tD eDc ((([] ++ [E1]) ++ [D1]))))]) (imp_forget rfl ⟨rfl, rfl, rfl, rfl, rfl, rfl, rfl, rfl, rfl, rfl, rfl, trivial⟩ ⟨rfl, rfl, trivial⟩) ?_
  refine a_rseq ?_
  refine rg_put (d := 13) (v := .d (.fl (.bool false))) rfl (og rfl (op_bin rfl rfl rfl (b_lss _ _ _ _) rfl)) ?_
  refine rg_done rfl ?_
  refine a_seq ?_
  refine a_condF rfl rfl ?_
  refine a_exit ?_
  show A _ _ _ _ _ _ _
  refine a_rseq ?_
  rw [show (([] ++ [E1]) ++ [D1]) = [E1, D1] from rfl]
  refine rg_put (d := 36) (v := .ow 105) rfl (og rfl (op_move rfl rfl rfl)) ?_
  refine rg_upd (d := 37) (v := .tu []) (nw := [(105, .tr 36 6 (tD eDc [D1, E1]))]) rfl (og rfl (of_eff (op_callM .r (m := 105) (ob := .tr 36 6 (tD eDc [E1, D1])) (ob' := .tr 36 6 (tD eDc [D1, E1])) (r := .tu []) rfl Try.func31 nm31 rfl rfl rfl rfl rfl rfl (.cons rfl (.d _) .nil) sortD rfl) rfl)) ?_
  refine rg_done rfl ?_
  refine a_rseq ?_
  refine rg_put (d := 38) (v := .ow 105) rfl (og rfl (op_move rfl rfl rfl)) ?_
  refine rg_put (d := 6) (v := .ow 105) rfl (og rfl (op_assign rfl rfl rfl)) ?_
  refine rg_done rfl ?_
  refine a_imp (imp_leakT 6 105 rfl rfl) ?_
  refine a_ret ?_
  show ∃ ds, ResL _ _ _ ds ∧ RV.of ds = _
  refine ⟨[.sl 6 (List.map eDc [D1, E1])], (.cons (.tmp rfl (.d _)) .nil), ?_⟩
  rfl
set_option maxHeartbeats 4000000 in
set_option maxRecDepth 100000 in
theorem at0  : Ctr Try.prog 17 [.sl 6 (List.map eDc [E1, D1]), .fl (.string (⟨#[97]⟩)), .fl (.int .i64 (0 : Int))] (.d (.sl 6 (List.map eDc [D1, E1]))) := by
  refine ctr (n := 39) (rs := #[.tmp 6]) (L := [(0, .d (.sl 6 (List.map eDc [E1, D1]))), (1, .d (.fl (.string (⟨#[97]⟩)))), (2, .d (.fl (.int .i64 (0 : Int))))]) Try.func17 rfl rfl rfl rfl rfl (fun w0 U0 => ?_)
  refine a_rseq ?_
  refine rg_put (d := 6) (v := .d (.fl (.slice none 0 0))) rfl (og rfl (op_assign rfl rfl rfl)) ?_
  refine rg_done rfl ?_
  refine a_rseq ?_
  refine rg_put (d := 7) (v := .d (.fl (.slice none 0 0))) rfl (og rfl (op_assign rfl rfl rfl)) ?_
  refine rg_done rfl ?_
  refine a_seq ?_
  refine a_rseq ?_
  refine rg_imp (imp_nilT 7 101 36 6 rfl rfl) ?_
  refine rg_put (d := 10) (v := .d (.sl 6 (List.map eDc [E1, D1]))) rfl (og rfl (op_move rfl rfl rfl)) ?_
  refine rg_put (d := 11) (v := .d (.fl (.int .i64 ([E1, D1].length : Int)))) rfl (og rfl (s_len rfl Try.underlying22 rfl rfl)) ?_
  rw [show ([E1, D1].length : Int) = (2 : Int) from by first | rfl | kernel_rfl]
  refine rg_put (d := 12) (v := .d (.fl (.int .i64 0))) rfl (og rfl (op_move rfl rfl rfl)) ?_
  rw [show 0 = (0 : Int) from by first | rfl | kernel_rfl]
  refine rg_done rfl ?_
  refine a_block ?_
  refine a_rounds (n := 1000000) ?_
  refine ard_succ ?_
  refine a_imp (τ := SS [(0, .d (.sl 6 (List.map eDc [E1, D1]))), (1, .d (.fl (.string (⟨#[97]⟩)))), (2, .d (.fl (.int .i64 (0 : Int)))), (6, .d (.fl (.slice none 0 0))), (7, .ow 101), (10, .d (.sl 6 (List.map eDc [E1, D1]))), (11, .d (.fl (.int .i64 (2 : Int)))), (12, .d (.fl (.int .i64 (0 : Int))))] [(101, .tr 36 6 (tD eDc []))]) (imp_forget rfl ⟨rfl, rfl, rfl, rfl, rfl, rfl, rfl, rfl, trivial⟩ ⟨rfl, trivial⟩) ?_
  refine a_rseq ?_
  refine rg_put (d := 13) (v := .d (.fl (.bool true))) rfl (og rfl (op_bin rfl rfl rfl (b_lss _ _ _ _) rfl)) ?_
  refine rg_done rfl ?_
  refine a_seq ?_
  refine a_condK rfl rfl ?_
  refine a_skip ?_
  show A _ _ _ _ _ _ _
  refine a_seq ?_
  refine a_block ?_
  refine a_rseq ?_
  refine rg_put (d := 14) (v := .el ((eDc (ix [E1, D1] 0)))) rfl (og rfl (s_index rfl Try.underlying22 ti36 rfl rfl (by first | decide | (simp [ix]; done) | omega) (row_at (by first | decide | (simp [ix]; done) | omega)) rfl)) ?_
  refine rg_put (d := 15) (v := .d (.ag (eDc (ix [E1, D1] 0)))) rfl (og rfl (of_eff (s_load_els rfl Try.underlying36 rfl ti36 rfl rfl rfl) rfl)) ?_
  refine rg_nam (d := 9) (v := .pt 102 0) (m := 102) (nw := [(102, .bx 36 ([.fl (.string (⟨#[]⟩)), .fl (.string (⟨#[]⟩)), .fl (.int .i64 0), .fl (.int .i64 0), .fl (.slice none 0 0), .fl (.slice none 0 0)]))]) rfl (og rfl (of_eff (s_alloc 102 rfl ti36 (by kernel_rfl) rfl) rfl)) rfl ?_
  refine rg_sto (nw := [(102, .bx 36 ((eDc (ix [E1, D1] 0))))]) rfl (og rfl (of_eff (s_store rfl rfl ti36 rfl rfl rfl rfl rfl rfl) rfl)) ?_
  refine rg_done rfl ?_
  refine a_rseq ?_
  refine rg_put (d := 16) (v := .pt 102 1) rfl (og rfl (of_eff (s_field_pt rfl Try.underlying36 rfl ti9 rfl rfl rfl) rfl)) ?_
  refine rg_put (d := 17) (v := .d (.fl (.string ((ix [E1, D1] 0).point)))) rfl (og rfl (op_load_pt rfl Try.underlying9 rfl rfl rfl rfl rfl)) ?_
  refine rg_put (d := 18) (v := .d (.fl (.string (⟨#[97]⟩)))) rfl (og rfl (op_move rfl rfl rfl)) ?_
  refine rg_put (d := 19) (v := .d (.fl (.bool true))) rfl (og rfl (op_bin rfl rfl rfl (b_seq _ _ _) rfl)) ?_
  refine rg_put (d := 20) (v := .d (.fl (.bool true))) rfl (og rfl (op_move rfl rfl rfl)) ?_
  refine rg_put (d := 21) (v := .d (.fl (.int .i64 (0 : Int)))) rfl (oy rfl rfl rfl rfl (op_move rfl rfl rfl)) ?_
  rw [show (0 : Int) = (0 : Int) from by first | rfl | kernel_rfl]
  refine rg_put (d := 22) (v := .d (.fl (.bool true))) rfl (oy rfl rfl rfl rfl (op_bin rfl rfl rfl (b_eql _ _ _ _) rfl)) ?_
  refine rg_put (d := 23) (v := .d (.fl (.bool true))) rfl (oy rfl rfl rfl rfl (op_move rfl rfl rfl)) ?_
  refine rg_put (d := 24) (v := .d (.fl undef)) rfl (on rfl rfl rfl rfl) ?_
  refine rg_put (d := 25) (v := .d (.fl undef)) rfl (on rfl rfl rfl rfl) ?_
  refine rg_put (d := 26) (v := .d (.fl undef)) rfl (on rfl rfl rfl rfl) ?_
  refine rg_put (d := 27) (v := .d (.fl undef)) rfl (on rfl rfl rfl rfl) ?_
  refine rg_put (d := 28) (v := .d (.fl (.bool true))) rfl (oy rfl rfl rfl rfl (op_pick rfl rfl rfl rfl)) ?_
  refine rg_put (d := 29) (v := .d (.fl (.bool true))) rfl (og rfl (op_pick rfl rfl rfl rfl)) ?_
  refine rg_done rfl ?_
  refine a_condK rfl rfl ?_
  refine a_region ?_
  refine rg_put (d := 30) (v := .ow 101) rfl (og rfl (op_move rfl rfl rfl)) ?_
  refine rg_put (d := 31) (v := .d (.ag (eDc (ix [E1, D1] 0)))) rfl (og rfl (of_eff (s_load_pts rfl Try.underlying36 rfl ti36 rfl rfl rfl rfl) rfl)) ?_
  refine rg_put (d := 32) (v := .d (.ag (eDc E1))) rfl (og rfl (op_call rfl Try.func29 nm29 rfl (.cons rfl (.d _) .nil) (copy29 E1 (by decide) (by decide)) rfl)) ?_
  refine rg_put (d := 33) (v := .d (.sl 6 (List.map eDc [E1]))) rfl (og rfl (of_eff (op_slices rfl Try.underlying22 ti36 rfl rfl rfl (by kernel_rfl) (xs := [.ag (eDc E1)]) rfl rfl (.cons rfl rfl (.d _) rfl rfl rfl .nil) rfl) rfl)) ?_
  refine rg_nam (d := 34) (v := .ow 103) (m := 103) (nw := [(103, .tr 36 6 (tD eDc ([] ++ [E1]))), (101, .no)]) rfl (og rfl (of_eff (s_append_td 103 rfl Try.underlying22 ti36 rfl rfl rfl rfl rfl (.d _) (by simp) rfl) rfl)) rfl ?_
  refine rg_put (d := 7) (v := .ow 103) rfl (og rfl (op_assign rfl rfl rfl)) ?_
  refine rg_done rfl ?_
  show A _ _ _ _ _ _ _
  refine a_region ?_
  refine rg_put (d := 35) (v := .d (.fl (.int .i64 (1 : Int)))) rfl (og rfl (op_bin rfl rfl rfl (fun x y w => b_add64 _ _ _ x y w (by first | decide | (simp [ix]; done) | omega)) rfl)) ?_
  refine rg_put (d := 12) (v := .d (.fl (.int .i64 (1 : Int)))) rfl (og rfl (op_move rfl rfl rfl)) ?_
  rw [show (1 : Int) = (1 : Int) from by first | rfl | kernel_rfl]
  refine rg_done rfl ?_
  show ARd _ _ _ _ _ _ _ _
  refine ard_succ ?_
  refine a_imp (τ := SS [(0, .d (.sl 6 (List.map eDc [E1, D1]))), (1, .d (.fl (.string (⟨#[97]⟩)))), (2, .d (.fl (.int .i64 (0 : Int)))), (6, .d (.fl (.slice none 0 0))), (7, .ow 103), (9, .pt 102 0), (10, .d (.sl 6 (List.map eDc [E1, D1]))), (11, .d (.fl (.int .i64 (2 : Int)))), (12, .d (.fl (.int .i64 (1 : Int)))), (13, .d (.fl (.bool true))), (29, .d (.fl (.bool true)))] [(102, .bx 36 ((eDc (ix [E1, D1] 0)))), (103, .tr 36 6 (tD eDc ([] ++ [E1])))]) (imp_forget rfl ⟨rfl, rfl, rfl, rfl, rfl, rfl, rfl, rfl, rfl, rfl, rfl, trivial⟩ ⟨rfl, rfl, trivial⟩) ?_
  refine a_rseq ?_
  refine rg_put (d := 13) (v := .d (.fl (.bool true))) rfl (og rfl (op_bin rfl rfl rfl (b_lss _ _ _ _) rfl)) ?_
  refine rg_done rfl ?_
  refine a_seq ?_
  refine a_condK rfl rfl ?_
  refine a_skip ?_
  show A _ _ _ _ _ _ _
  refine a_seq ?_
  refine a_block ?_
  refine a_rseq ?_
  refine rg_put (d := 14) (v := .el ((eDc (ix [E1, D1] 1)))) rfl (og rfl (s_index rfl Try.underlying22 ti36 rfl rfl (by first | decide | (simp [ix]; done) | omega) (row_at (by first | decide | (simp [ix]; done) | omega)) rfl)) ?_
  refine rg_put (d := 15) (v := .d (.ag (eDc (ix [E1, D1] 1)))) rfl (og rfl (of_eff (s_load_els rfl Try.underlying36 rfl ti36 rfl rfl rfl) rfl)) ?_
  refine rg_nam (d := 9) (v := .pt 104 0) (m := 104) (nw := [(104, .bx 36 ([.fl (.string (⟨#[]⟩)), .fl (.string (⟨#[]⟩)), .fl (.int .i64 0), .fl (.int .i64 0), .fl (.slice none 0 0), .fl (.slice none 0 0)]))]) rfl (og rfl (of_eff (s_alloc 104 rfl ti36 (by kernel_rfl) rfl) rfl)) rfl ?_
  refine rg_sto (nw := [(104, .bx 36 ((eDc (ix [E1, D1] 1))))]) rfl (og rfl (of_eff (s_store rfl rfl ti36 rfl rfl rfl rfl rfl rfl) rfl)) ?_
  refine rg_done rfl ?_
  refine a_rseq ?_
  refine rg_put (d := 16) (v := .pt 104 1) rfl (og rfl (of_eff (s_field_pt rfl Try.underlying36 rfl ti9 rfl rfl rfl) rfl)) ?_
  refine rg_put (d := 17) (v := .d (.fl (.string ((ix [E1, D1] 1).point)))) rfl (og rfl (op_load_pt rfl Try.underlying9 rfl rfl rfl rfl rfl)) ?_
  refine rg_put (d := 18) (v := .d (.fl (.string (⟨#[97]⟩)))) rfl (og rfl (op_move rfl rfl rfl)) ?_
  refine rg_put (d := 19) (v := .d (.fl (.bool true))) rfl (og rfl (op_bin rfl rfl rfl (b_seq _ _ _) rfl)) ?_
  refine rg_put (d := 20) (v := .d (.fl (.bool true))) rfl (og rfl (op_move rfl rfl rfl)) ?_
  refine rg_put (d := 21) (v := .d (.fl (.int .i64 (0 : Int)))) rfl (oy rfl rfl rfl rfl (op_move rfl rfl rfl)) ?_
  rw [show (0 : Int) = (0 : Int) from by first | rfl | kernel_rfl]
  refine rg_put (d := 22) (v := .d (.fl (.bool true))) rfl (oy rfl rfl rfl rfl (op_bin rfl rfl rfl (b_eql _ _ _ _) rfl)) ?_
  refine rg_put (d := 23) (v := .d (.fl (.bool true))) rfl (oy rfl rfl rfl rfl (op_move rfl rfl rfl)) ?_
  refine rg_put (d := 24) (v := .d (.fl undef)) rfl (on rfl rfl rfl rfl) ?_
  refine rg_put (d := 25) (v := .d (.fl undef)) rfl (on rfl rfl rfl rfl) ?_
  refine rg_put (d := 26) (v := .d (.fl undef)) rfl (on rfl rfl rfl rfl) ?_
  refine rg_put (d := 27) (v := .d (.fl undef)) rfl (on rfl rfl rfl rfl) ?_
  refine rg_put (d := 28) (v := .d (.fl (.bool true))) rfl (oy rfl rfl rfl rfl (op_pick rfl rfl rfl rfl)) ?_
  refine rg_put (d := 29) (v := .d (.fl (.bool true))) rfl (og rfl (op_pick rfl rfl rfl rfl)) ?_
  refine rg_done rfl ?_
  refine a_condK rfl rfl ?_
  refine a_region ?_
  refine rg_put (d := 30) (v := .ow 103) rfl (og rfl (op_move rfl rfl rfl)) ?_
  refine rg_put (d := 31) (v := .d (.ag (eDc (ix [E1, D1] 1)))) rfl (og rfl (of_eff (s_load_pts rfl Try.underlying36 rfl ti36 rfl rfl rfl rfl) rfl)) ?_
  refine rg_put (d := 32) (v := .d (.ag (eDc D1))) rfl (og rfl (op_call rfl Try.func29 nm29 rfl (.cons rfl (.d _) .nil) (copy29 D1 (by decide) (by decide)) rfl)) ?_
  refine rg_put (d := 33) (v := .d (.sl 6 (List.map eDc [D1]))) rfl (og rfl (of_eff (op_slices rfl Try.underlying22 ti36 rfl rfl rfl (by kernel_rfl) (xs := [.ag (eDc D1)]) rfl rfl (.cons rfl rfl (.d _) rfl rfl rfl .nil) rfl) rfl)) ?_
  refine rg_nam (d := 34) (v := .ow 105) (m := 105) (nw := [(105, .tr 36 6 (tD eDc ((([] ++ [E1]) ++ [D1])))), (103, .no)]) rfl (og rfl (of_eff (s_append_td 105 rfl Try.underlying22 ti36 rfl rfl rfl rfl rfl (.d _) (by simp) rfl) rfl)) rfl ?_
  refine rg_put (d := 7) (v := .ow 105) rfl (og rfl (op_assign rfl rfl rfl)) ?_
  refine rg_done rfl ?_
  show A _ _ _ _ _ _ _
  refine a_region ?_
  refine rg_put (d := 35) (v := .d (.fl (.int .i64 (2 : Int)))) rfl (og rfl (op_bin rfl rfl rfl (fun x y w => b_add64 _ _ _ x y w (by first | decide | (simp [ix]; done) | omega)) rfl)) ?_
  refine rg_put (d := 12) (v := .d (.fl (.int .i64 (2 : Int)))) rfl (og rfl (op_move rfl rfl rfl)) ?_
  rw [show (2 : Int) = (2 : Int) from by first | rfl | kernel_rfl]
  refine rg_done rfl ?_
  show ARd _ _ _ _ _ _ _ _
  refine ard_succ ?_
  refine a_imp (τ := SS [(0, .d (.sl 6 (List.map eDc [E1, D1]))), (1, .d (.fl (.string (⟨#[97]⟩)))), (2, .d (.fl (.int .i64 (0 : Int)))), (6, .d (.fl (.slice none 0 0))), (7, .ow 105), (9, .pt 104 0), (10, .d (.sl 6 (List.map eDc [E1, D1]))), (11, .d (.fl (.int .i64 (2 : Int)))), (12, .d (.fl (.int .i64 (2 : Int)))), (13, .d (.fl (.bool true))), (29, .d (.fl (.bool true)))] [(104, .bx 36 ((eDc (ix [E1, D1] 1)))), (105, .tr 36 6 (tD eDc ((([] ++ [E1]) ++ [D1]))))]) (imp_forget rfl ⟨rfl, rfl, rfl, rfl, rfl, rfl, rfl, rfl, rfl, rfl, rfl, trivial⟩ ⟨rfl, rfl, trivial⟩) ?_
  refine a_rseq ?_
  refine rg_put (d := 13) (v := .d (.fl (.bool false))) rfl (og rfl (op_bin rfl rfl rfl (b_lss _ _ _ _) rfl)) ?_
  refine rg_done rfl ?_
  refine a_seq ?_
  refine a_condF rfl rfl ?_
  refine a_exit ?_
  show A _ _ _ _ _ _ _
  refine a_rseq ?_
  rw [show (([] ++ [E1]) ++ [D1]) = [E1, D1] from rfl]
  refine rg_put (d := 36) (v := .ow 105) rfl (og rfl (op_move rfl rfl rfl)) ?_
  refine rg_upd (d := 37) (v := .tu []) (nw := [(105, .tr 36 6 (tD eDc [D1, E1]))]) rfl (og rfl (of_eff (op_callM .r (m := 105) (ob := .tr 36 6 (tD eDc [E1, D1])) (ob' := .tr 36 6 (tD eDc [D1, E1])) (r := .tu []) rfl Try.func31 nm31 rfl rfl rfl rfl rfl rfl (.cons rfl (.d _) .nil) sortD rfl) rfl)) ?_
  refine rg_done rfl ?_
  refine a_rseq ?_
  refine rg_put (d := 38) (v := .ow 105) rfl (og rfl (op_move rfl rfl rfl)) ?_
  refine rg_put (d := 6) (v := .ow 105) rfl (og rfl (op_assign rfl rfl rfl)) ?_
  refine rg_done rfl ?_
  refine a_imp (imp_leakT 6 105 rfl rfl) ?_
  refine a_ret ?_
  show ∃ ds, ResL _ _ _ ds ∧ RV.of ds = _
  refine ⟨[.sl 6 (List.map eDc [D1, E1])], (.cons (.tmp rfl (.d _)) .nil), ?_⟩
  rfl
set_option maxHeartbeats 4000000 in
set_option maxRecDepth 100000 in
theorem at1  : Ctr Try.prog 17 [.sl 6 (List.map eDc [E1, D1]), .fl (.string (⟨#[97]⟩)), .fl (.int .i64 (1 : Int))] (.d (.sl 6 (List.map eDc ([] : List Dc)))) := by
  refine ctr (n := 39) (rs := #[.tmp 6]) (L := [(0, .d (.sl 6 (List.map eDc [E1, D1]))), (1, .d (.fl (.string (⟨#[97]⟩)))), (2, .d (.fl (.int .i64 (1 : Int))))]) Try.func17 rfl rfl rfl rfl rfl (fun w0 U0 => ?_)
  refine a_rseq ?_
  refine rg_put (d := 6) (v := .d (.fl (.slice none 0 0))) rfl (og rfl (op_assign rfl rfl rfl)) ?_
  refine rg_done rfl ?_
  refine a_rseq ?_
  refine rg_put (d := 7) (v := .d (.fl (.slice none 0 0))) rfl (og rfl (op_assign rfl rfl rfl)) ?_
  refine rg_done rfl ?_
  refine a_seq ?_
  refine a_rseq ?_
  refine rg_imp (imp_nilT 7 101 36 6 rfl rfl) ?_
  refine rg_put (d := 10) (v := .d (.sl 6 (List.map eDc [E1, D1]))) rfl (og rfl (op_move rfl rfl rfl)) ?_
  refine rg_put (d := 11) (v := .d (.fl (.int .i64 ([E1, D1].length : Int)))) rfl (og rfl (s_len rfl Try.underlying22 rfl rfl)) ?_
  rw [show ([E1, D1].length : Int) = (2 : Int) from by first | rfl | kernel_rfl]
  refine rg_put (d := 12) (v := .d (.fl (.int .i64 0))) rfl (og rfl (op_move rfl rfl rfl)) ?_
  rw [show 0 = (0 : Int) from by first | rfl | kernel_rfl]
  refine rg_done rfl ?_
  refine a_block ?_
  refine a_rounds (n := 1000000) ?_
  refine ard_succ ?_
  refine a_imp (τ := SS [(0, .d (.sl 6 (List.map eDc [E1, D1]))), (1, .d (.fl (.string (⟨#[97]⟩)))), (2, .d (.fl (.int .i64 (1 : Int)))), (6, .d (.fl (.slice none 0 0))), (7, .ow 101), (10, .d (.sl 6 (List.map eDc [E1, D1]))), (11, .d (.fl (.int .i64 (2 : Int)))), (12, .d (.fl (.int .i64 (0 : Int))))] [(101, .tr 36 6 (tD eDc []))]) (imp_forget rfl ⟨rfl, rfl, rfl, rfl, rfl, rfl, rfl, rfl, trivial⟩ ⟨rfl, trivial⟩) ?_
  refine a_rseq ?_
  refine rg_put (d := 13) (v := .d (.fl (.bool true))) rfl (og rfl (op_bin rfl rfl rfl (b_lss _ _ _ _) rfl)) ?_
  refine rg_done rfl ?_
  refine a_seq ?_
  refine a_condK rfl rfl ?_
  refine a_skip ?_
  show A _ _ _ _ _ _ _
  refine a_seq ?_
  refine a_block ?_
  refine a_rseq ?_
  refine rg_put (d := 14) (v := .el ((eDc (ix [E1, D1] 0)))) rfl (og rfl (s_index rfl Try.underlying22 ti36 rfl rfl (by first | decide | (simp [ix]; done) | omega) (row_at (by first | decide | (simp [ix]; done) | omega)) rfl)) ?_
  refine rg_put (d := 15) (v := .d (.ag (eDc (ix [E1, D1] 0)))) rfl (og rfl (of_eff (s_load_els rfl Try.underlying36 rfl ti36 rfl rfl rfl) rfl)) ?_
  refine rg_nam (d := 9) (v := .pt 102 0) (m := 102) (nw := [(102, .bx 36 ([.fl (.string (⟨#[]⟩)), .fl (.string (⟨#[]⟩)), .fl (.int .i64 0), .fl (.int .i64 0), .fl (.slice none 0 0), .fl (.slice none 0 0)]))]) rfl (og rfl (of_eff (s_alloc 102 rfl ti36 (by kernel_rfl) rfl) rfl)) rfl ?_
  refine rg_sto (nw := [(102, .bx 36 ((eDc (ix [E1, D1] 0))))]) rfl (og rfl (of_eff (s_store rfl rfl ti36 rfl rfl rfl rfl rfl rfl) rfl)) ?_
  refine rg_done rfl ?_
  refine a_rseq ?_
  refine rg_put (d := 16) (v := .pt 102 1) rfl (og rfl (of_eff (s_field_pt rfl Try.underlying36 rfl ti9 rfl rfl rfl) rfl)) ?_
  refine rg_put (d := 17) (v := .d (.fl (.string ((ix [E1, D1] 0).point)))) rfl (og rfl (op_load_pt rfl Try.underlying9 rfl rfl rfl rfl rfl)) ?_
  refine rg_put (d := 18) (v := .d (.fl (.string (⟨#[97]⟩)))) rfl (og rfl (op_move rfl rfl rfl)) ?_
  refine rg_put (d := 19) (v := .d (.fl (.bool true))) rfl (og rfl (op_bin rfl rfl rfl (b_seq _ _ _) rfl)) ?_
  refine rg_put (d := 20) (v := .d (.fl (.bool true))) rfl (og rfl (op_move rfl rfl rfl)) ?_
  refine rg_put (d := 21) (v := .d (.fl (.int .i64 (1 : Int)))) rfl (oy rfl rfl rfl rfl (op_move rfl rfl rfl)) ?_
  rw [show (1 : Int) = (1 : Int) from by first | rfl | kernel_rfl]
  refine rg_put (d := 22) (v := .d (.fl (.bool false))) rfl (oy rfl rfl rfl rfl (op_bin rfl rfl rfl (b_eql _ _ _ _) rfl)) ?_
  refine rg_put (d := 23) (v := .d (.fl (.bool false))) rfl (oy rfl rfl rfl rfl (op_move rfl rfl rfl)) ?_
  refine rg_put (d := 24) (v := .pt 102 2) rfl (oy rfl rfl rfl rfl (of_eff (s_field_pt rfl Try.underlying36 rfl ti3 rfl rfl rfl) rfl)) ?_
  refine rg_put (d := 25) (v := .d (.fl (.int .i64 ((ix [E1, D1] 0).kind)))) rfl (oy rfl rfl rfl rfl (op_load_pt rfl Try.underlying3 rfl rfl rfl rfl rfl)) ?_
  rw [show (ix [E1, D1] 0).kind = (2 : Int) from by first | rfl | kernel_rfl]
  refine rg_put (d := 26) (v := .d (.fl (.int .i64 (1 : Int)))) rfl (oy rfl rfl rfl rfl (op_move rfl rfl rfl)) ?_
  rw [show (1 : Int) = (1 : Int) from by first | rfl | kernel_rfl]
  refine rg_put (d := 27) (v := .d (.fl (.bool false))) rfl (oy rfl rfl rfl rfl (op_bin rfl rfl rfl (b_eql _ _ _ _) rfl)) ?_
  refine rg_put (d := 28) (v := .d (.fl (.bool false))) rfl (oy rfl rfl rfl rfl (op_pick rfl rfl rfl rfl)) ?_
  refine rg_put (d := 29) (v := .d (.fl (.bool false))) rfl (og rfl (op_pick rfl rfl rfl rfl)) ?_
  refine rg_done rfl ?_
  refine a_condF rfl rfl ?_
  refine a_skip ?_
  show A _ _ _ _ _ _ _
  refine a_region ?_
  refine rg_put (d := 35) (v := .d (.fl (.int .i64 (1 : Int)))) rfl (og rfl (op_bin rfl rfl rfl (fun x y w => b_add64 _ _ _ x y w (by first | decide | (simp [ix]; done) | omega)) rfl)) ?_
  refine rg_put (d := 12) (v := .d (.fl (.int .i64 (1 : Int)))) rfl (og rfl (op_move rfl rfl rfl)) ?_
  rw [show (1 : Int) = (1 : Int) from by first | rfl | kernel_rfl]
  refine rg_done rfl ?_
  show ARd _ _ _ _ _ _ _ _
  refine ard_succ ?_
  refine a_imp (τ := SS [(0, .d (.sl 6 (List.map eDc [E1, D1]))), (1, .d (.fl (.string (⟨#[97]⟩)))), (2, .d (.fl (.int .i64 (1 : Int)))), (6, .d (.fl (.slice none 0 0))), (7, .ow 101), (9, .pt 102 0), (10, .d (.sl 6 (List.map eDc [E1, D1]))), (11, .d (.fl (.int .i64 (2 : Int)))), (12, .d (.fl (.int .i64 (1 : Int)))), (13, .d (.fl (.bool true))), (29, .d (.fl (.bool false)))] [(101, .tr 36 6 (tD eDc [])), (102, .bx 36 ((eDc (ix [E1, D1] 0))))]) (imp_forget rfl ⟨rfl, rfl, rfl, rfl, rfl, rfl, rfl, rfl, rfl, rfl, rfl, trivial⟩ ⟨rfl, rfl, trivial⟩) ?_
  refine a_rseq ?_
  refine rg_put (d := 13) (v := .d (.fl (.bool true))) rfl (og rfl (op_bin rfl rfl rfl (b_lss _ _ _ _) rfl)) ?_
  refine rg_done rfl ?_
  refine a_seq ?_
  refine a_condK rfl rfl ?_
  refine a_skip ?_
  show A _ _ _ _ _ _ _
  refine a_seq ?_
  refine a_block ?_
  refine a_rseq ?_
  refine rg_put (d := 14) (v := .el ((eDc (ix [E1, D1] 1)))) rfl (og rfl (s_index rfl Try.underlying22 ti36 rfl rfl (by first | decide | (simp [ix]; done) | omega) (row_at (by first | decide | (simp [ix]; done) | omega)) rfl)) ?_
  refine rg_put (d := 15) (v := .d (.ag (eDc (ix [E1, D1] 1)))) rfl (og rfl (of_eff (s_load_els rfl Try.underlying36 rfl ti36 rfl rfl rfl) rfl)) ?_
  refine rg_nam (d := 9) (v := .pt 103 0) (m := 103) (nw := [(103, .bx 36 ([.fl (.string (⟨#[]⟩)), .fl (.string (⟨#[]⟩)), .fl (.int .i64 0), .fl (.int .i64 0), .fl (.slice none 0 0), .fl (.slice none 0 0)]))]) rfl (og rfl (of_eff (s_alloc 103 rfl ti36 (by kernel_rfl) rfl) rfl)) rfl ?_
  refine rg_sto (nw := [(103, .bx 36 ((eDc (ix [E1, D1] 1))))]) rfl (og rfl (of_eff (s_store rfl rfl ti36 rfl rfl rfl rfl rfl rfl) rfl)) ?_
  refine rg_done rfl ?_
  refine a_rseq ?_
  refine rg_put (d := 16) (v := .pt 103 1) rfl (og rfl (of_eff (s_field_pt rfl Try.underlying36 rfl ti9 rfl rfl rfl) rfl)) ?_
  refine rg_put (d := 17) (v := .d (.fl (.string ((ix [E1, D1] 1).point)))) rfl (og rfl (op_load_pt rfl Try.underlying9 rfl rfl rfl rfl rfl)) ?_
  refine rg_put (d := 18) (v := .d (.fl (.string (⟨#[97]⟩)))) rfl (og rfl (op_move rfl rfl rfl)) ?_
  refine rg_put (d := 19) (v := .d (.fl (.bool true))) rfl (og rfl (op_bin rfl rfl rfl (b_seq _ _ _) rfl)) ?_
  refine rg_put (d := 20) (v := .d (.fl (.bool true))) rfl (og rfl (op_move rfl rfl rfl)) ?_
  refine rg_put (d := 21) (v := .d (.fl (.int .i64 (1 : Int)))) rfl (oy rfl rfl rfl rfl (op_move rfl rfl rfl)) ?_
  rw [show (1 : Int) = (1 : Int) from by first | rfl | kernel_rfl]
  refine rg_put (d := 22) (v := .d (.fl (.bool false))) rfl (oy rfl rfl rfl rfl (op_bin rfl rfl rfl (b_eql _ _ _ _) rfl)) ?_
  refine rg_put (d := 23) (v := .d (.fl (.bool false))) rfl (oy rfl rfl rfl rfl (op_move rfl rfl rfl)) ?_
  refine rg_put (d := 24) (v := .pt 103 2) rfl (oy rfl rfl rfl rfl (of_eff (s_field_pt rfl Try.underlying36 rfl ti3 rfl rfl rfl) rfl)) ?_
  refine rg_put (d := 25) (v := .d (.fl (.int .i64 ((ix [E1, D1] 1).kind)))) rfl (oy rfl rfl rfl rfl (op_load_pt rfl Try.underlying3 rfl rfl rfl rfl rfl)) ?_
  rw [show (ix [E1, D1] 1).kind = (2 : Int) from by first | rfl | kernel_rfl]
  refine rg_put (d := 26) (v := .d (.fl (.int .i64 (1 : Int)))) rfl (oy rfl rfl rfl rfl (op_move rfl rfl rfl)) ?_
  rw [show (1 : Int) = (1 : Int) from by first | rfl | kernel_rfl]
  refine rg_put (d := 27) (v := .d (.fl (.bool false))) rfl (oy rfl rfl rfl rfl (op_bin rfl rfl rfl (b_eql _ _ _ _) rfl)) ?_
  refine rg_put (d := 28) (v := .d (.fl (.bool false))) rfl (oy rfl rfl rfl rfl (op_pick rfl rfl rfl rfl)) ?_
  refine rg_put (d := 29) (v := .d (.fl (.bool false))) rfl (og rfl (op_pick rfl rfl rfl rfl)) ?_
  refine rg_done rfl ?_
  refine a_condF rfl rfl ?_
  refine a_skip ?_
  show A _ _ _ _ _ _ _
  refine a_region ?_
  refine rg_put (d := 35) (v := .d (.fl (.int .i64 (2 : Int)))) rfl (og rfl (op_bin rfl rfl rfl (fun x y w => b_add64 _ _ _ x y w (by first | decide | (simp [ix]; done) | omega)) rfl)) ?_
  refine rg_put (d := 12) (v := .d (.fl (.int .i64 (2 : Int)))) rfl (og rfl (op_move rfl rfl rfl)) ?_
  rw [show (2 : Int) = (2 : Int) from by first | rfl | kernel_rfl]
  refine rg_done rfl ?_
  show ARd _ _ _ _ _ _ _ _
  refine ard_succ ?_
  refine a_imp (τ := SS [(0, .d (.sl 6 (List.map eDc [E1, D1]))), (1, .d (.fl (.string (⟨#[97]⟩)))), (2, .d (.fl (.int .i64 (1 : Int)))), (6, .d (.fl (.slice none 0 0))), (7, .ow 101), (9, .pt 103 0), (10, .d (.sl 6 (List.map eDc [E1, D1]))), (11, .d (.fl (.int .i64 (2 : Int)))), (12, .d (.fl (.int .i64 (2 : Int)))), (13, .d (.fl (.bool true))), (29, .d (.fl (.bool false)))] [(101, .tr 36 6 (tD eDc [])), (103, .bx 36 ((eDc (ix [E1, D1] 1))))]) (imp_forget rfl ⟨rfl, rfl, rfl, rfl, rfl, rfl, rfl, rfl, rfl, rfl, rfl, trivial⟩ ⟨rfl, rfl, trivial⟩) ?_
  refine a_rseq ?_
  refine rg_put (d := 13) (v := .d (.fl (.bool false))) rfl (og rfl (op_bin rfl rfl rfl (b_lss _ _ _ _) rfl)) ?_
  refine rg_done rfl ?_
  refine a_seq ?_
  refine a_condF rfl rfl ?_
  refine a_exit ?_
  show A _ _ _ _ _ _ _
  refine a_rseq ?_
  refine rg_put (d := 36) (v := .ow 101) rfl (og rfl (op_move rfl rfl rfl)) ?_
  refine rg_upd (d := 37) (v := .tu []) (nw := [(101, .tr 36 6 (tD eDc ([] : List Dc)))]) rfl (og rfl (of_eff (op_callM .r (m := 101) (ob := .tr 36 6 (tD eDc ([] : List Dc))) (ob' := .tr 36 6 (tD eDc ([] : List Dc))) (r := .tu []) rfl Try.func31 nm31 rfl rfl rfl rfl rfl rfl (.cons rfl (.d _) .nil) sortD0 rfl) rfl)) ?_
  refine rg_done rfl ?_
  refine a_rseq ?_
  refine rg_put (d := 38) (v := .ow 101) rfl (og rfl (op_move rfl rfl rfl)) ?_
  refine rg_put (d := 6) (v := .ow 101) rfl (og rfl (op_assign rfl rfl rfl)) ?_
  refine rg_done rfl ?_
  refine a_imp (imp_leakT 6 101 rfl rfl) ?_
  refine a_ret ?_
  show ∃ ds, ResL _ _ _ ds ∧ RV.of ds = _
  refine ⟨[.sl 6 (List.map eDc ([] : List Dc))], (.cons (.tmp rfl (.d _)) .nil), ?_⟩
  rfl
set_option maxHeartbeats 4000000 in
set_option maxRecDepth 100000 in
theorem out2  : Ctr Try.prog 16 [.sl 6 (List.map eDc [E1, D1]), .fl (.string (⟨#[97]⟩)), .fl (.int .i64 (2 : Int))] (.d (.sl 2 (List.map eIv [I3]))) := by
  refine ctr (n := 27) (rs := #[.tmp 6]) (L := [(0, .d (.sl 6 (List.map eDc [E1, D1]))), (1, .d (.fl (.string (⟨#[97]⟩)))), (2, .d (.fl (.int .i64 (2 : Int))))]) Try.func16 rfl rfl rfl rfl rfl (fun w0 U0 => ?_)
  refine a_rseq ?_
  refine rg_put (d := 6) (v := .d (.fl (.slice none 0 0))) rfl (og rfl (op_assign rfl rfl rfl)) ?_
  refine rg_done rfl ?_
  refine a_rseq ?_
  refine rg_put (d := 10) (v := .d (.ag (eIv I0))) rfl (og rfl (of_eff (op_build rfl Try.underlying48 ti48 rfl (by kernel_rfl) (by kernel_rfl) (pl := #[(0, 1), (1, 1)]) (by kernel_rfl) (.cons rfl rfl (.d _) rfl rfl rfl (.cons rfl rfl (.d _) rfl rfl rfl .nil)) rfl) rfl)) ?_
  refine rg_put (d := 11) (v := .d (.sl 2 (List.map eIv [I0]))) rfl (og rfl (of_eff (op_slices rfl Try.underlying34 ti48 rfl rfl rfl (by kernel_rfl) (xs := [.ag (eIv I0)]) rfl rfl (.cons rfl rfl (.d _) rfl rfl rfl .nil) rfl) rfl)) ?_
  refine rg_put (d := 7) (v := .d (.sl 2 (List.map eIv [I0]))) rfl (og rfl (op_assign rfl rfl rfl)) ?_
  refine rg_done rfl ?_
  refine a_seq ?_
  refine a_rseq ?_
  refine rg_put (d := 12) (v := .d (.sl 6 (List.map eDc [E1, D1]))) rfl (og rfl (op_move rfl rfl rfl)) ?_
  refine rg_put (d := 13) (v := .d (.fl (.string (⟨#[97]⟩)))) rfl (og rfl (op_move rfl rfl rfl)) ?_
  refine rg_put (d := 14) (v := .d (.fl (.int .i64 (2 : Int)))) rfl (og rfl (op_move rfl rfl rfl)) ?_
  rw [show (2 : Int) = (2 : Int) from by first | rfl | kernel_rfl]
  refine rg_put (d := 15) (v := .d (.sl 6 (List.map eDc [D1, E1]))) rfl (og rfl (op_call rfl Try.func17 nm17 rfl (.cons rfl (.d _) (.cons rfl (.d _) (.cons rfl (.d _) .nil))) at2 rfl)) ?_
  refine rg_put (d := 16) (v := .d (.fl (.int .i64 ([D1, E1].length : Int)))) rfl (og rfl (s_len rfl Try.underlying22 rfl rfl)) ?_
  rw [show ([D1, E1].length : Int) = (2 : Int) from by first | rfl | kernel_rfl]
  refine rg_put (d := 17) (v := .d (.fl (.int .i64 0))) rfl (og rfl (op_move rfl rfl rfl)) ?_
  rw [show 0 = (0 : Int) from by first | rfl | kernel_rfl]
  refine rg_done rfl ?_
  refine a_block ?_
  refine a_rounds (n := 1000000) ?_
  refine ard_succ ?_
  refine a_imp (τ := SS [(0, .d (.sl 6 (List.map eDc [E1, D1]))), (1, .d (.fl (.string (⟨#[97]⟩)))), (2, .d (.fl (.int .i64 (2 : Int)))), (6, .d (.fl (.slice none 0 0))), (7, .d (.sl 2 (List.map eIv [I0]))), (15, .d (.sl 6 (List.map eDc [D1, E1]))), (16, .d (.fl (.int .i64 (2 : Int)))), (17, .d (.fl (.int .i64 (0 : Int))))] []) (imp_forget rfl ⟨rfl, rfl, rfl, rfl, rfl, rfl, rfl, rfl, trivial⟩ trivial) ?_
  refine a_rseq ?_
  refine rg_put (d := 18) (v := .d (.fl (.bool true))) rfl (og rfl (op_bin rfl rfl rfl (b_lss _ _ _ _) rfl)) ?_
  refine rg_done rfl ?_
  refine a_seq ?_
  refine a_condK rfl rfl ?_
  refine a_skip ?_
  show A _ _ _ _ _ _ _
  refine a_seq ?_
  refine a_block ?_
  refine a_rseq ?_
  refine rg_put (d := 19) (v := .el ((eDc (ix [D1, E1] 0)))) rfl (og rfl (s_index rfl Try.underlying22 ti36 rfl rfl (by first | decide | (simp [ix]; done) | omega) (row_at (by first | decide | (simp [ix]; done) | omega)) rfl)) ?_
  refine rg_put (d := 20) (v := .d (.ag (eDc (ix [D1, E1] 0)))) rfl (og rfl (of_eff (s_load_els rfl Try.underlying36 rfl ti36 rfl rfl rfl) rfl)) ?_
  refine rg_nam (d := 9) (v := .pt 101 0) (m := 101) (nw := [(101, .bx 36 ([.fl (.string (⟨#[]⟩)), .fl (.string (⟨#[]⟩)), .fl (.int .i64 0), .fl (.int .i64 0), .fl (.slice none 0 0), .fl (.slice none 0 0)]))]) rfl (og rfl (of_eff (s_alloc 101 rfl ti36 (by kernel_rfl) rfl) rfl)) rfl ?_
  refine rg_sto (nw := [(101, .bx 36 ((eDc (ix [D1, E1] 0))))]) rfl (og rfl (of_eff (s_store rfl rfl ti36 rfl rfl rfl rfl rfl rfl) rfl)) ?_
  refine rg_done rfl ?_
  refine a_region ?_
  refine rg_put (d := 21) (v := .d (.sl 2 (List.map eIv [I0]))) rfl (og rfl (op_move rfl rfl rfl)) ?_
  refine rg_put (d := 22) (v := .pt 101 5) rfl (og rfl (of_eff (s_field_pt rfl Try.underlying36 rfl ti34 rfl rfl rfl) rfl)) ?_
  refine rg_put (d := 23) (v := .d (.sl 2 (List.map eIv ((ix [D1, E1] 0).down)))) rfl (og rfl (op_load_pt rfl Try.underlying34 rfl rfl rfl rfl rfl)) ?_
  refine rg_put (d := 24) (v := .d (.sl 2 (List.map eIv [I1]))) rfl (og rfl (op_call rfl Try.func30 nm30 rfl (.cons rfl (.d _) (.cons rfl (.d _) .nil)) meetA rfl)) ?_
  refine rg_put (d := 7) (v := .d (.sl 2 (List.map eIv [I1]))) rfl (og rfl (op_assign rfl rfl rfl)) ?_
  refine rg_done rfl ?_
  show A _ _ _ _ _ _ _
  refine a_region ?_
  refine rg_put (d := 25) (v := .d (.fl (.int .i64 (1 : Int)))) rfl (og rfl (op_bin rfl rfl rfl (fun x y w => b_add64 _ _ _ x y w (by first | decide | (simp [ix]; done) | omega)) rfl)) ?_
  refine rg_put (d := 17) (v := .d (.fl (.int .i64 (1 : Int)))) rfl (og rfl (op_move rfl rfl rfl)) ?_
  rw [show (1 : Int) = (1 : Int) from by first | rfl | kernel_rfl]
  refine rg_done rfl ?_
  show ARd _ _ _ _ _ _ _ _
  refine ard_succ ?_
  refine a_imp (τ := SS [(0, .d (.sl 6 (List.map eDc [E1, D1]))), (1, .d (.fl (.string (⟨#[97]⟩)))), (2, .d (.fl (.int .i64 (2 : Int)))), (6, .d (.fl (.slice none 0 0))), (7, .d (.sl 2 (List.map eIv [I1]))), (9, .pt 101 0), (15, .d (.sl 6 (List.map eDc [D1, E1]))), (16, .d (.fl (.int .i64 (2 : Int)))), (17, .d (.fl (.int .i64 (1 : Int)))), (18, .d (.fl (.bool true)))] [(101, .bx 36 ((eDc (ix [D1, E1] 0))))]) (imp_forget rfl ⟨rfl, rfl, rfl, rfl, rfl, rfl, rfl, rfl, rfl, rfl, trivial⟩ ⟨rfl, trivial⟩) ?_
  refine a_rseq ?_
  refine rg_put (d := 18) (v := .d (.fl (.bool true))) rfl (og rfl (op_bin rfl rfl rfl (b_lss _ _ _ _) rfl)) ?_
  refine rg_done rfl ?_
  refine a_seq ?_
  refine a_condK rfl rfl ?_
  refine a_skip ?_
  show A _ _ _ _ _ _ _
  refine a_seq ?_
  refine a_block ?_
  refine a_rseq ?_
  refine rg_put (d := 19) (v := .el ((eDc (ix [D1, E1] 1)))) rfl (og rfl (s_index rfl Try.underlying22 ti36 rfl rfl (by first | decide | (simp [ix]; done) | omega) (row_at (by first | decide | (simp [ix]; done) | omega)) rfl)) ?_
  refine rg_put (d := 20) (v := .d (.ag (eDc (ix [D1, E1] 1)))) rfl (og rfl (of_eff (s_load_els rfl Try.underlying36 rfl ti36 rfl rfl rfl) rfl)) ?_
  refine rg_nam (d := 9) (v := .pt 102 0) (m := 102) (nw := [(102, .bx 36 ([.fl (.string (⟨#[]⟩)), .fl (.string (⟨#[]⟩)), .fl (.int .i64 0), .fl (.int .i64 0), .fl (.slice none 0 0), .fl (.slice none 0 0)]))]) rfl (og rfl (of_eff (s_alloc 102 rfl ti36 (by kernel_rfl) rfl) rfl)) rfl ?_
  refine rg_sto (nw := [(102, .bx 36 ((eDc (ix [D1, E1] 1))))]) rfl (og rfl (of_eff (s_store rfl rfl ti36 rfl rfl rfl rfl rfl rfl) rfl)) ?_
  refine rg_done rfl ?_
  refine a_region ?_
  refine rg_put (d := 21) (v := .d (.sl 2 (List.map eIv [I1]))) rfl (og rfl (op_move rfl rfl rfl)) ?_
  refine rg_put (d := 22) (v := .pt 102 5) rfl (og rfl (of_eff (s_field_pt rfl Try.underlying36 rfl ti34 rfl rfl rfl) rfl)) ?_
  refine rg_put (d := 23) (v := .d (.sl 2 (List.map eIv ((ix [D1, E1] 1).down)))) rfl (og rfl (op_load_pt rfl Try.underlying34 rfl rfl rfl rfl rfl)) ?_
  refine rg_put (d := 24) (v := .d (.sl 2 (List.map eIv [I3]))) rfl (og rfl (op_call rfl Try.func30 nm30 rfl (.cons rfl (.d _) (.cons rfl (.d _) .nil)) meetB rfl)) ?_
  refine rg_put (d := 7) (v := .d (.sl 2 (List.map eIv [I3]))) rfl (og rfl (op_assign rfl rfl rfl)) ?_
  refine rg_done rfl ?_
  show A _ _ _ _ _ _ _
  refine a_region ?_
  refine rg_put (d := 25) (v := .d (.fl (.int .i64 (2 : Int)))) rfl (og rfl (op_bin rfl rfl rfl (fun x y w => b_add64 _ _ _ x y w (by first | decide | (simp [ix]; done) | omega)) rfl)) ?_
  refine rg_put (d := 17) (v := .d (.fl (.int .i64 (2 : Int)))) rfl (og rfl (op_move rfl rfl rfl)) ?_
  rw [show (2 : Int) = (2 : Int) from by first | rfl | kernel_rfl]
  refine rg_done rfl ?_
  show ARd _ _ _ _ _ _ _ _
  refine ard_succ ?_
  refine a_imp (τ := SS [(0, .d (.sl 6 (List.map eDc [E1, D1]))), (1, .d (.fl (.string (⟨#[97]⟩)))), (2, .d (.fl (.int .i64 (2 : Int)))), (6, .d (.fl (.slice none 0 0))), (7, .d (.sl 2 (List.map eIv [I3]))), (9, .pt 102 0), (15, .d (.sl 6 (List.map eDc [D1, E1]))), (16, .d (.fl (.int .i64 (2 : Int)))), (17, .d (.fl (.int .i64 (2 : Int)))), (18, .d (.fl (.bool true)))] [(102, .bx 36 ((eDc (ix [D1, E1] 1))))]) (imp_forget rfl ⟨rfl, rfl, rfl, rfl, rfl, rfl, rfl, rfl, rfl, rfl, trivial⟩ ⟨rfl, trivial⟩) ?_
  refine a_rseq ?_
  refine rg_put (d := 18) (v := .d (.fl (.bool false))) rfl (og rfl (op_bin rfl rfl rfl (b_lss _ _ _ _) rfl)) ?_
  refine rg_done rfl ?_
  refine a_seq ?_
  refine a_condF rfl rfl ?_
  refine a_exit ?_
  show A _ _ _ _ _ _ _
  refine a_rseq ?_
  refine rg_put (d := 26) (v := .d (.sl 2 (List.map eIv [I3]))) rfl (og rfl (op_move rfl rfl rfl)) ?_
  refine rg_put (d := 6) (v := .d (.sl 2 (List.map eIv [I3]))) rfl (og rfl (op_assign rfl rfl rfl)) ?_
  refine rg_done rfl ?_
  refine a_ret ?_
  show ∃ ds, ResL _ _ _ ds ∧ RV.of ds = _
  refine ⟨[.sl 2 (List.map eIv [I3])], (.cons (.tmp rfl (.d _)) .nil), ?_⟩
  rfl
set_option maxHeartbeats 4000000 in
set_option maxRecDepth 100000 in
theorem out1  : Ctr Try.prog 16 [.sl 6 (List.map eDc [E1, D1]), .fl (.string (⟨#[97]⟩)), .fl (.int .i64 (1 : Int))] (.d (.sl 2 (List.map eIv [I0]))) := by
  refine ctr (n := 27) (rs := #[.tmp 6]) (L := [(0, .d (.sl 6 (List.map eDc [E1, D1]))), (1, .d (.fl (.string (⟨#[97]⟩)))), (2, .d (.fl (.int .i64 (1 : Int))))]) Try.func16 rfl rfl rfl rfl rfl (fun w0 U0 => ?_)
  refine a_rseq ?_
  refine rg_put (d := 6) (v := .d (.fl (.slice none 0 0))) rfl (og rfl (op_assign rfl rfl rfl)) ?_
  refine rg_done rfl ?_
  refine a_rseq ?_
  refine rg_put (d := 10) (v := .d (.ag (eIv I0))) rfl (og rfl (of_eff (op_build rfl Try.underlying48 ti48 rfl (by kernel_rfl) (by kernel_rfl) (pl := #[(0, 1), (1, 1)]) (by kernel_rfl) (.cons rfl rfl (.d _) rfl rfl rfl (.cons rfl rfl (.d _) rfl rfl rfl .nil)) rfl) rfl)) ?_
  refine rg_put (d := 11) (v := .d (.sl 2 (List.map eIv [I0]))) rfl (og rfl (of_eff (op_slices rfl Try.underlying34 ti48 rfl rfl rfl (by kernel_rfl) (xs := [.ag (eIv I0)]) rfl rfl (.cons rfl rfl (.d _) rfl rfl rfl .nil) rfl) rfl)) ?_
  refine rg_put (d := 7) (v := .d (.sl 2 (List.map eIv [I0]))) rfl (og rfl (op_assign rfl rfl rfl)) ?_
  refine rg_done rfl ?_
  refine a_seq ?_
  refine a_rseq ?_
  refine rg_put (d := 12) (v := .d (.sl 6 (List.map eDc [E1, D1]))) rfl (og rfl (op_move rfl rfl rfl)) ?_
  refine rg_put (d := 13) (v := .d (.fl (.string (⟨#[97]⟩)))) rfl (og rfl (op_move rfl rfl rfl)) ?_
  refine rg_put (d := 14) (v := .d (.fl (.int .i64 (1 : Int)))) rfl (og rfl (op_move rfl rfl rfl)) ?_
  rw [show (1 : Int) = (1 : Int) from by first | rfl | kernel_rfl]
  refine rg_put (d := 15) (v := .d (.sl 6 (List.map eDc ([] : List Dc)))) rfl (og rfl (op_call rfl Try.func17 nm17 rfl (.cons rfl (.d _) (.cons rfl (.d _) (.cons rfl (.d _) .nil))) at1 rfl)) ?_
  refine rg_put (d := 16) (v := .d (.fl (.int .i64 ((([] : List Dc).length : Int))))) rfl (og rfl (s_len rfl Try.underlying22 rfl rfl)) ?_
  rw [show (([] : List Dc).length : Int) = (0 : Int) from by first | rfl | kernel_rfl]
  refine rg_put (d := 17) (v := .d (.fl (.int .i64 0))) rfl (og rfl (op_move rfl rfl rfl)) ?_
  rw [show 0 = (0 : Int) from by first | rfl | kernel_rfl]
  refine rg_done rfl ?_
  refine a_block ?_
  refine a_rounds (n := 1000000) ?_
  refine ard_succ ?_
  refine a_imp (τ := SS [(0, .d (.sl 6 (List.map eDc [E1, D1]))), (1, .d (.fl (.string (⟨#[97]⟩)))), (2, .d (.fl (.int .i64 (1 : Int)))), (6, .d (.fl (.slice none 0 0))), (7, .d (.sl 2 (List.map eIv [I0]))), (15, .d (.sl 6 (List.map eDc ([] : List Dc)))), (16, .d (.fl (.int .i64 (0 : Int)))), (17, .d (.fl (.int .i64 (0 : Int))))] []) (imp_forget rfl ⟨rfl, rfl, rfl, rfl, rfl, rfl, rfl, rfl, trivial⟩ trivial) ?_
  refine a_rseq ?_
  refine rg_put (d := 18) (v := .d (.fl (.bool false))) rfl (og rfl (op_bin rfl rfl rfl (b_lss _ _ _ _) rfl)) ?_
  refine rg_done rfl ?_
  refine a_seq ?_
  refine a_condF rfl rfl ?_
  refine a_exit ?_
  show A _ _ _ _ _ _ _
  refine a_rseq ?_
  refine rg_put (d := 26) (v := .d (.sl 2 (List.map eIv [I0]))) rfl (og rfl (op_move rfl rfl rfl)) ?_
  refine rg_put (d := 6) (v := .d (.sl 2 (List.map eIv [I0]))) rfl (og rfl (op_assign rfl rfl rfl)) ?_
  refine rg_done rfl ?_
  refine a_ret ?_
  show ∃ ds, ResL _ _ _ ds ∧ RV.of ds = _
  refine ⟨[.sl 2 (List.map eIv [I0])], (.cons (.tmp rfl (.d _)) .nil), ?_⟩
  rfl
end Go.Proofs.Ytajhpdmbmipboaa.Wk
