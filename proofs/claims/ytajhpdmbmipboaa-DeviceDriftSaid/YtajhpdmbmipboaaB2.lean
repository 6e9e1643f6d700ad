/- An interval alone is sorted. No condition. -/
import Derived.Test.YtajhpdmbmipboaaB1
set_option linter.unusedSimpArgs false
set_option linter.unusedVariables false
namespace Go.Proofs.Ytajhpdmbmipboaa.Wk
open Go Go.RowKit Go.Proofs.Ytajhpdmbmipboaa.Av
abbrev I0 : Iv := Iv.mk 0 68719476736
abbrev I1 : Iv := Iv.mk 10 30
abbrev I2 : Iv := Iv.mk 20 40
abbrev I3 : Iv := Iv.mk 20 30
abbrev O1 : Of := Of.mk 100 5
abbrev O2 : Of := Of.mk 200 (-5)
abbrev O3 : Of := Of.mk 0 (-10)
abbrev D1 : Dc := Dc.mk ⟨#[99, 49]⟩ ⟨#[97]⟩ 2 0 [O1, O2] [I1]
abbrev E1 : Dc := Dc.mk ⟨#[99, 50]⟩ ⟨#[97]⟩ 2 0 [O3] [I2]
abbrev P1 : Pn := Pn.mk ⟨#[97]⟩ 0 ⟨#[]⟩
abbrev N1 : Nw := Nw.mk [P1] []

set_option maxHeartbeats 4000000 in
set_option maxRecDepth 100000 in
theorem len61  : Ctr Try.prog 61 [.fl (.int .u64 1)] (.d (.fl (.int .i64 1))) := by
  refine ctr (n := 25) (rs := #[.tmp 2]) (L := [(0, .d (.fl (.int .u64 1)))]) Try.func61 rfl rfl rfl rfl rfl (fun w0 U0 => ?_)
  refine a_rseq ?_
  refine rg_put (d := 2) (v := .d (.fl (.int .i64 (0 : Int)))) rfl (og rfl (op_assign rfl rfl rfl)) ?_
  refine rg_done rfl ?_
  refine a_seq ?_
  refine a_rseq ?_
  refine rg_put (d := 3) (v := .d (.fl (.int .u64 (1 : Int)))) rfl (og rfl (op_move rfl rfl rfl)) ?_
  refine rg_put (d := 4) (v := .d (.fl (.bool false))) rfl (og rfl (op_bin rfl rfl rfl (b_geq _ _ _ _) rfl)) ?_
  refine rg_done rfl ?_
  refine a_condF rfl rfl ?_
  refine a_skip ?_
  show A _ _ _ _ _ _ _
  refine a_seq ?_
  refine a_rseq ?_
  refine rg_put (d := 7) (v := .d (.fl (.int .u64 (1 : Int)))) rfl (og rfl (op_move rfl rfl rfl)) ?_
  refine rg_put (d := 8) (v := .d (.fl (.bool false))) rfl (og rfl (op_bin rfl rfl rfl (b_geq _ _ _ _) rfl)) ?_
  refine rg_done rfl ?_
  refine a_condF rfl rfl ?_
  refine a_skip ?_
  show A _ _ _ _ _ _ _
  refine a_seq ?_
  refine a_rseq ?_
  refine rg_put (d := 13) (v := .d (.fl (.int .u64 (1 : Int)))) rfl (og rfl (op_move rfl rfl rfl)) ?_
  refine rg_put (d := 14) (v := .d (.fl (.bool false))) rfl (og rfl (op_bin rfl rfl rfl (b_geq _ _ _ _) rfl)) ?_
  refine rg_done rfl ?_
  refine a_condF rfl rfl ?_
  refine a_skip ?_
  show A _ _ _ _ _ _ _
  refine a_rseq ?_
  refine rg_put (d := 19) (v := .d (.fl (.int .i64 (0 : Int)))) rfl (og rfl (op_move rfl rfl rfl)) ?_
  refine rg_put (d := 20) (v := .d (.fl (.int .u64 (1 : Int)))) rfl (og rfl (op_move rfl rfl rfl)) ?_
  refine rg_put (d := 21) (v := .d (.fl (.int .u8 ((IntKind.u8.wrap (1 : Int)))))) rfl (og rfl (op_convK rfl Try.underlying92 Try.underlying5 rfl rfl)) ?_
  rw [show (IntKind.u8.wrap (1 : Int)) = (1 : Int) from by kernel_rfl]
  refine rg_put (d := 22) (v := .d (.fl (.int .u8 (((bt (⟨#[0, 1, 2, 2, 3, 3, 3, 3, 4, 4, 4, 4, 4, 4, 4, 4, 5, 5, 5, 5, 5, 5, 5, 5, 5, 5, 5, 5, 5, 5, 5, 5, 6, 6, 6, 6, 6, 6, 6, 6, 6, 6, 6, 6, 6, 6, 6, 6, 6, 6, 6, 6, 6, 6, 6, 6, 6, 6, 6, 6, 6, 6, 6, 6, 7, 7, 7, 7, 7, 7, 7, 7, 7, 7, 7, 7, 7, 7, 7, 7, 7, 7, 7, 7, 7, 7, 7, 7, 7, 7, 7, 7, 7, 7, 7, 7, 7, 7, 7, 7, 7, 7, 7, 7, 7, 7, 7, 7, 7, 7, 7, 7, 7, 7, 7, 7, 7, 7, 7, 7, 7, 7, 7, 7, 7, 7, 7, 7, 8, 8, 8, 8, 8, 8, 8, 8, 8, 8, 8, 8, 8, 8, 8, 8, 8, 8, 8, 8, 8, 8, 8, 8, 8, 8, 8, 8, 8, 8, 8, 8, 8, 8, 8, 8, 8, 8, 8, 8, 8, 8, 8, 8, 8, 8, 8, 8, 8, 8, 8, 8, 8, 8, 8, 8, 8, 8, 8, 8, 8, 8, 8, 8, 8, 8, 8, 8, 8, 8, 8, 8, 8, 8, 8, 8, 8, 8, 8, 8, 8, 8, 8, 8, 8, 8, 8, 8, 8, 8, 8, 8, 8, 8, 8, 8, 8, 8, 8, 8, 8, 8, 8, 8, 8, 8, 8, 8, 8, 8, 8, 8, 8, 8, 8, 8, 8, 8, 8, 8, 8, 8, 8, 8, 8, 8, 8, 8]⟩) 1).toNat : Int))))) rfl (og rfl (op_strindex rfl Try.underlying9 rfl rfl (by decide) (byte_ix (by decide)) rfl)) ?_
  rw [show ((bt (⟨#[0, 1, 2, 2, 3, 3, 3, 3, 4, 4, 4, 4, 4, 4, 4, 4, 5, 5, 5, 5, 5, 5, 5, 5, 5, 5, 5, 5, 5, 5, 5, 5, 6, 6, 6, 6, 6, 6, 6, 6, 6, 6, 6, 6, 6, 6, 6, 6, 6, 6, 6, 6, 6, 6, 6, 6, 6, 6, 6, 6, 6, 6, 6, 6, 7, 7, 7, 7, 7, 7, 7, 7, 7, 7, 7, 7, 7, 7, 7, 7, 7, 7, 7, 7, 7, 7, 7, 7, 7, 7, 7, 7, 7, 7, 7, 7, 7, 7, 7, 7, 7, 7, 7, 7, 7, 7, 7, 7, 7, 7, 7, 7, 7, 7, 7, 7, 7, 7, 7, 7, 7, 7, 7, 7, 7, 7, 7, 7, 8, 8, 8, 8, 8, 8, 8, 8, 8, 8, 8, 8, 8, 8, 8, 8, 8, 8, 8, 8, 8, 8, 8, 8, 8, 8, 8, 8, 8, 8, 8, 8, 8, 8, 8, 8, 8, 8, 8, 8, 8, 8, 8, 8, 8, 8, 8, 8, 8, 8, 8, 8, 8, 8, 8, 8, 8, 8, 8, 8, 8, 8, 8, 8, 8, 8, 8, 8, 8, 8, 8, 8, 8, 8, 8, 8, 8, 8, 8, 8, 8, 8, 8, 8, 8, 8, 8, 8, 8, 8, 8, 8, 8, 8, 8, 8, 8, 8, 8, 8, 8, 8, 8, 8, 8, 8, 8, 8, 8, 8, 8, 8, 8, 8, 8, 8, 8, 8, 8, 8, 8, 8, 8, 8, 8, 8, 8, 8]⟩) 1).toNat : Int) = (1 : Int) from by kernel_rfl]
  refine rg_put (d := 23) (v := .d (.fl (.int .i64 (1 : Int)))) rfl (og rfl (op_conv rfl Try.underlying5 Try.underlying3 rfl (w64 (by decide)) rfl)) ?_
  refine rg_put (d := 24) (v := .d (.fl (.int .i64 (1 : Int)))) rfl (og rfl (op_bin rfl rfl rfl (fun x y w => b_add64 _ _ _ x y w (by decide)) rfl)) ?_
  refine rg_put (d := 2) (v := .d (.fl (.int .i64 (1 : Int)))) rfl (og rfl (op_assign rfl rfl rfl)) ?_
  refine rg_done rfl ?_
  refine a_ret ?_
  show ∃ ds, ResL _ _ _ ds ∧ RV.of ds = _
  refine ⟨[.fl (.int .i64 (1 : Int))], (.cons (.tmp rfl (.d _)) .nil), ?_⟩
  rfl
set_option maxHeartbeats 4000000 in
set_option maxRecDepth 100000 in
theorem len49  : Ctr Try.prog 49 [.fl (.int .u64 1)] (.d (.fl (.int .i64 1))) := by
  refine ctr (n := 8) (rs := #[.tmp 2]) (L := [(0, .d (.fl (.int .u64 1)))]) Try.func49 rfl rfl rfl rfl rfl (fun w0 U0 => ?_)
  refine a_rseq ?_
  refine rg_put (d := 2) (v := .d (.fl (.int .i64 (0 : Int)))) rfl (og rfl (op_assign rfl rfl rfl)) ?_
  refine rg_done rfl ?_
  refine a_seq ?_
  refine a_condF rfl rfl ?_
  refine a_skip ?_
  show A _ _ _ _ _ _ _
  refine a_rseq ?_
  refine rg_put (d := 6) (v := .d (.fl (.int .u64 (1 : Int)))) rfl (og rfl (op_move rfl rfl rfl)) ?_
  refine rg_put (d := 7) (v := .d (.fl (.int .i64 (1 : Int)))) rfl (og rfl (op_call rfl Try.func61 nm61 rfl (.cons rfl (.d _) .nil) len61 rfl)) ?_
  refine rg_put (d := 2) (v := .d (.fl (.int .i64 (1 : Int)))) rfl (og rfl (op_assign rfl rfl rfl)) ?_
  refine rg_done rfl ?_
  refine a_ret ?_
  show ∃ ds, ResL _ _ _ ds ∧ RV.of ds = _
  refine ⟨[.fl (.int .i64 (1 : Int))], (.cons (.tmp rfl (.d _)) .nil), ?_⟩
  rfl
set_option maxHeartbeats 4000000 in
set_option maxRecDepth 100000 in
theorem ins52 (i : Iv) : CtrM Try.prog 52 .r (.tr 48 2 (tD eIv [i])) [.fl (.int .i64 0), .fl (.int .i64 1), .fn 45 []] (.tr 48 2 (tD eIv [i])) (.tu []) := by
  refine ctrM (n := 53) (rs := #[]) (L := [(1, .d (.fl (.int .i64 0))), (2, .d (.fl (.int .i64 1))), (3, .d (.fn 45 []))]) Try.func52 rfl rfl rfl rfl rfl rfl rfl (fun w0 U0 v0 H0 V0 Q0 => ?_)
  refine a_rseq ?_
  refine rg_put (d := 10) (v := .d (.fl (.int .i64 (0 : Int)))) rfl (og rfl (op_move rfl rfl rfl)) ?_
  refine rg_put (d := 11) (v := .d (.fl (.int .i64 (1 : Int)))) rfl (og rfl (op_bin rfl rfl rfl (fun x y w => b_add64 _ _ _ x y w (by decide)) rfl)) ?_
  refine rg_put (d := 8) (v := .d (.fl (.int .i64 (1 : Int)))) rfl (og rfl (op_assign rfl rfl rfl)) ?_
  refine rg_done rfl ?_
  refine a_block ?_
  refine a_rounds (n := 1000000) ?_
  refine ard_succ ?_
  refine a_imp (τ := SS [(0, .pw 0 v0), (1, .d (.fl (.int .i64 0))), (2, .d (.fl (.int .i64 1))), (3, .d (.fn 45 [])), (8, .d (.fl (.int .i64 (1 : Int))))] [(0, .tr 48 2 (tD eIv [i])), (1, .pin H0 V0 Q0)]) (imp_forget rfl ⟨rfl, rfl, rfl, rfl, rfl, trivial⟩ ⟨rfl, rfl, trivial⟩) ?_
  refine a_seq ?_
  refine a_rseq ?_
  refine rg_put (d := 12) (v := .d (.fl (.int .i64 (1 : Int)))) rfl (og rfl (op_move rfl rfl rfl)) ?_
  refine rg_put (d := 13) (v := .d (.fl (.int .i64 (1 : Int)))) rfl (og rfl (op_move rfl rfl rfl)) ?_
  refine rg_put (d := 14) (v := .d (.fl (.bool false))) rfl (og rfl (op_bin rfl rfl rfl (b_lss _ _ _ _) rfl)) ?_
  refine rg_done rfl ?_
  refine a_condF rfl rfl ?_
  refine a_exit ?_
  show (∃ ds, ResL _ _ _ ds ∧ RV.of ds = _) ∧ _ = _ ∧ _ = _ ∧ _ = _
  refine ⟨⟨[], .nil, ?_⟩, rfl, ?_, rfl⟩
  all_goals rfl
set_option maxHeartbeats 4000000 in
set_option maxRecDepth 100000 in
theorem pdq48 (i : Iv) : CtrM Try.prog 48 .r (.tr 48 2 (tD eIv [i])) [.fl (.int .i64 0), .fl (.int .i64 1), .fl (.int .i64 1), .fn 45 []] (.tr 48 2 (tD eIv [i])) (.tu []) := by
  refine ctrM (n := 148) (rs := #[]) (L := [(1, .d (.fl (.int .i64 0))), (2, .d (.fl (.int .i64 1))), (3, .d (.fl (.int .i64 1))), (4, .d (.fn 45 []))]) Try.func48 rfl rfl rfl rfl rfl rfl rfl (fun w0 U0 v0 H0 V0 Q0 => ?_)
  refine a_rseq ?_
  refine rg_put (d := 10) (v := .d (.fl (.bool true))) rfl (og rfl (op_assign rfl rfl rfl)) ?_
  refine rg_done rfl ?_
  refine a_rseq ?_
  refine rg_put (d := 11) (v := .d (.fl (.bool true))) rfl (og rfl (op_assign rfl rfl rfl)) ?_
  refine rg_done rfl ?_
  refine a_block ?_
  refine a_rounds (n := 1000000) ?_
  refine ard_succ ?_
  refine a_imp (τ := SS [(0, .pw 0 v0), (1, .d (.fl (.int .i64 0))), (2, .d (.fl (.int .i64 1))), (3, .d (.fl (.int .i64 1))), (4, .d (.fn 45 [])), (10, .d (.fl (.bool true))), (11, .d (.fl (.bool true)))] [(0, .tr 48 2 (tD eIv [i])), (1, .pin H0 V0 Q0)]) (imp_forget rfl ⟨rfl, rfl, rfl, rfl, rfl, rfl, rfl, trivial⟩ ⟨rfl, rfl, trivial⟩) ?_
  refine a_block ?_
  refine a_rseq ?_
  refine rg_put (d := 21) (v := .d (.fl (.int .i64 (1 : Int)))) rfl (og rfl (op_move rfl rfl rfl)) ?_
  refine rg_put (d := 22) (v := .d (.fl (.int .i64 (0 : Int)))) rfl (og rfl (op_move rfl rfl rfl)) ?_
  refine rg_put (d := 23) (v := .d (.fl (.int .i64 (1 : Int)))) rfl (og rfl (op_bin rfl rfl rfl (fun x y w => b_sub64 _ _ _ x y w (by decide)) rfl)) ?_
  refine rg_put (d := 12) (v := .d (.fl (.int .i64 (1 : Int)))) rfl (og rfl (op_assign rfl rfl rfl)) ?_
  refine rg_done rfl ?_
  refine a_seq ?_
  refine a_rseq ?_
  refine rg_put (d := 24) (v := .d (.fl (.int .i64 (1 : Int)))) rfl (og rfl (op_move rfl rfl rfl)) ?_
  refine rg_put (d := 25) (v := .d (.fl (.bool true))) rfl (og rfl (op_bin rfl rfl rfl (b_leq _ _ _ _) rfl)) ?_
  refine rg_done rfl ?_
  refine a_condK rfl rfl ?_
  refine a_rseq ?_
  refine rg_put (d := 26) (v := .ow 0) rfl (og rfl (op_move_pw rfl rfl rfl)) ?_
  refine rg_put (d := 27) (v := .d (.fl (.int .i64 (0 : Int)))) rfl (og rfl (op_move rfl rfl rfl)) ?_
  refine rg_put (d := 28) (v := .d (.fl (.int .i64 (1 : Int)))) rfl (og rfl (op_move rfl rfl rfl)) ?_
  refine rg_put (d := 29) (v := .d (.fn 45 [])) rfl (og rfl (op_move rfl rfl rfl)) ?_
  refine rg_upd (d := 30) (v := .tu []) (nw := [(0, .tr 48 2 (tD eIv [i]))]) rfl (og rfl (of_eff (op_callM .r (m := 0) (ob := .tr 48 2 (tD eIv [i])) (ob' := .tr 48 2 (tD eIv [i])) (r := .tu []) rfl Try.func52 nm52 rfl rfl rfl rfl rfl rfl (.cons rfl (.d _) (.cons rfl (.d _) (.cons rfl (.d _) .nil))) (ins52 i) rfl) rfl)) ?_
  refine rg_done rfl ?_
  refine a_ret ?_
  show (∃ ds, ResL _ _ _ ds ∧ RV.of ds = _) ∧ _ = _ ∧ _ = _ ∧ _ = _
  refine ⟨⟨[], .nil, ?_⟩, rfl, ?_, rfl⟩
  all_goals rfl
set_option maxHeartbeats 4000000 in
set_option maxRecDepth 100000 in
theorem sort44 (i : Iv) : CtrM Try.prog 44 .r (.tr 48 2 (tD eIv [i])) [.fn 45 []] (.tr 48 2 (tD eIv [i])) (.tu []) := by
  refine ctrM (n := 14) (rs := #[]) (L := [(1, .d (.fn 45 []))]) Try.func44 rfl rfl rfl rfl rfl rfl rfl (fun w0 U0 v0 H0 V0 Q0 => ?_)
  refine a_rseq ?_
  refine rg_put (d := 5) (v := .ow 0) rfl (og rfl (op_move_pw rfl rfl rfl)) ?_
  refine rg_put (d := 6) (v := .d (.fl (.int .i64 (1 : Int)))) rfl (og rfl (op_len_tr rfl Try.underlying34 rfl rfl tD_len rfl)) ?_
  refine rg_put (d := 4) (v := .d (.fl (.int .i64 (1 : Int)))) rfl (og rfl (op_assign rfl rfl rfl)) ?_
  refine rg_done rfl ?_
  refine a_region ?_
  refine rg_put (d := 7) (v := .ow 0) rfl (og rfl (op_move_pw rfl rfl rfl)) ?_
  refine rg_put (d := 8) (v := .d (.fl (.int .i64 (1 : Int)))) rfl (og rfl (op_move rfl rfl rfl)) ?_
  refine rg_put (d := 9) (v := .d (.fl (.int .i64 (1 : Int)))) rfl (og rfl (op_move rfl rfl rfl)) ?_
  refine rg_put (d := 10) (v := .d (.fl (.int .u64 ((IntKind.u64.wrap (1 : Int)))))) rfl (og rfl (op_convK rfl Try.underlying3 Try.underlying79 rfl rfl)) ?_
  rw [show (IntKind.u64.wrap (1 : Int)) = (1 : Int) from by kernel_rfl]
  refine rg_put (d := 11) (v := .d (.fl (.int .i64 (1 : Int)))) rfl (og rfl (op_call rfl Try.func49 nm49 rfl (.cons rfl (.d _) .nil) len49 rfl)) ?_
  refine rg_put (d := 12) (v := .d (.fn 45 [])) rfl (og rfl (op_move rfl rfl rfl)) ?_
  refine rg_upd (d := 13) (v := .tu []) (nw := [(0, .tr 48 2 (tD eIv [i]))]) rfl (og rfl (of_eff (op_callM .r (m := 0) (ob := .tr 48 2 (tD eIv [i])) (ob' := .tr 48 2 (tD eIv [i])) (r := .tu []) rfl Try.func48 nm48 rfl rfl rfl rfl rfl rfl (.cons rfl (.d _) (.cons rfl (.d _) (.cons rfl (.d _) (.cons rfl (.d _) .nil)))) (pdq48 i) rfl) rfl)) ?_
  refine rg_done rfl ?_
  show (∃ ds, ResL _ _ _ ds ∧ RV.of ds = _) ∧ _ = _ ∧ _ = _ ∧ _ = _
  refine ⟨⟨[], .nil, ?_⟩, rfl, ?_, rfl⟩
  all_goals rfl
end Go.Proofs.Ytajhpdmbmipboaa.Wk
