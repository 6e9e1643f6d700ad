/- Frames. Conditions: as each theorem names them. -/
import Derived.Test.YtipkielpicfobaaAvS
import Derived.Test.YtipkielpicfobaaAvX
import Derived.Test.YtipkielpicfobaaAvL
import Derived.Test.YtipkielpicfobaaAvN
import Derived.Test.YtipkielpicfobaaO3
set_option linter.unusedSimpArgs false
set_option linter.unusedVariables false
namespace Go.Proofs.Ytipkielpicfobaa.Wk
open Go Go.RowKit Go.Proofs.Ytipkielpicfobaa.Av
set_option maxHeartbeats 4000000 in
set_option maxRecDepth 100000 in
theorem cloD (l : List Sen) (hl : l.length ≤ 1000) : Ctr Try.prog 30 [.sl 11 (List.map eSen l)] (.d (.sl 11 (List.map eSen l))) := by
  refine ctr (n := 8) (rs := #[.tmp 2]) (L := [(0, .d (.sl 11 (List.map eSen l)))]) Try.func30 rfl rfl rfl rfl rfl (fun w0 U0 => ?_)
  refine a_rseq ?_
  refine rg_put (d := 2) (v := .d (.fl (.slice none 0 0))) rfl (og rfl (op_assign rfl rfl rfl)) ?_
  refine rg_done rfl ?_
  refine a_seq ?_
  refine a_rseq ?_
  refine rg_put (d := 3) (v := .d (.sl 11 (List.map eSen l))) rfl (og rfl (op_move rfl rfl rfl)) ?_
  refine rg_isnil rfl rfl rfl Try.underlying22 rfl rfl rfl (fun bh1 nh1 => ?_)
  refine rg_done rfl ?_
  refine a_cond rfl (fun h2 => ?_) (fun h2 => ?_)
  · skip
    refine a_rseq ?_
    refine rg_put (d := 2) (v := .d (.fl (.slice none 0 0))) rfl (og rfl (op_assign rfl rfl rfl)) ?_
    refine rg_done rfl ?_
    have hnil : l = [] := by simpa using nh1 h2
    subst hnil
    refine a_ret ?_
    show ∃ ds, ResL _ _ _ ds ∧ RV.of ds = _
    refine ⟨[.sl 11 (List.map eSen [])], (.cons (.tmp rfl (.cv (Cv.nil _))) .nil), ?_⟩
    rfl
  · skip
    refine a_skip ?_
    show A _ _ _ _ _ _ _
    refine a_rseq ?_
    refine rg_nam (d := 5) (v := .ow 101) (m := 101) (nw := [(101, .tr 31 11 (tD eSen []))]) rfl (og rfl (of_eff (op_slice0 101 rfl Try.underlying22 ti31 rfl) rfl)) rfl ?_
    refine rg_put (d := 6) (v := .d (.sl 11 (List.map eSen l))) rfl (og rfl (op_move rfl rfl rfl)) ?_
    refine rg_nam (d := 7) (v := .ow 102) (m := 102) (nw := [(102, .tr 31 11 (tD eSen ([] ++ l))), (101, .no)]) rfl (og rfl (of_eff (s_append_td 102 rfl Try.underlying22 ti31 rfl rfl rfl rfl rfl (.d _) (by simp only [List.length_nil]; omega) rfl) rfl)) rfl ?_
    refine rg_put (d := 2) (v := .ow 102) rfl (og rfl (op_assign rfl rfl rfl)) ?_
    refine rg_done rfl ?_
    refine a_imp (imp_leakT 2 102 rfl rfl) ?_
    refine a_ret ?_
    show ∃ ds, ResL _ _ _ ds ∧ RV.of ds = _
    refine ⟨[.sl 11 (List.map eSen ([] ++ l))], (.cons (.tmp rfl (.d _)) .nil), ?_⟩
    rfl
set_option maxHeartbeats 4000000 in
set_option maxRecDepth 100000 in
theorem frm11 (l : List Sen) (gap : Int) (hl : l.length ≤ 1000) : Ctr Try.prog 11 [.sl 11 (List.map eSen l), .fl (.int .i64 gap)] (.d (.sl 1 (List.map (rL 11 eSen) (frm l gap)))) := by
  refine ctrN (n := 19) (rs := #[.tmp 4]) (L := [(0, .d (.sl 11 (List.map eSen l))), (1, .d (.fl (.int .i64 gap)))]) Try.func11 rfl rfl rfl rfl rfl (fun w0 U0 => ?_)
  refine b_rseq ?_
  refine rg_put (d := 4) (v := .d (.fl (.slice none 0 0))) rfl (og rfl (op_assign rfl rfl rfl)) ?_
  refine rg_done rfl ?_
  refine b_rseq ?_
  refine rg_nam (d := 5) (v := .pt 101 0) (m := 101) (nw := [(101, .bx 24 [.fl (.slice none 0 0)])]) rfl (og rfl (of_eff (s_alloc 101 rfl ti24 (by kernel_rfl) rfl) rfl)) rfl ?_
  refine rg_done rfl ?_
  refine b_seqB ?_
  refine b_rseq ?_
  refine rg_imp (imp_bt 101 rfl) ?_
  refine rg_imp (imp_btnil 101 0 22 1 rfl rfl) ?_
  refine rg_put (d := 7) (v := .d (.sl 11 (List.map eSen l))) rfl (og rfl (op_move rfl rfl rfl)) ?_
  refine rg_put (d := 8) (v := .d (.fl (.int .i64 gap))) rfl (og rfl (op_move rfl rfl rfl)) ?_
  refine rg_put (d := 9) (v := .d (.fn 52 [.el [.sl 11 (List.map eSen (srt l))], .el [.fl (.int .i64 gap)]])) rfl (og rfl (op_call rfl Try.func29 nm29 rfl (.cons rfl (.d _) (.cons rfl (.d _) .nil)) (fra29 l gap hl) rfl)) ?_
  refine rg_done rfl ?_
  refine b_block ?_
  refine b_name 5 101 rfl (fun vn5 => ?_)
  refine b_imp (τ := SS [(0, .d (.sl 11 (List.map eSen l))), (1, .d (.fl (.int .i64 gap))), (4, .d (.fl (.slice none 0 0))), (5, .pv 101 vn5), (9, .d (.fn 52 [.el [.sl 11 (List.map eSen (srt l))], .el [.fl (.int .i64 gap)]]))] [(101, .bt 24 [.ow 22 1 (List.map (rL 11 eSen) (((rnA l gap).take 0)))])]) (imp_forget rfl ⟨rfl, rfl, rfl, rfl, rfl, trivial⟩ ⟨(by first | rfl | simp), trivial⟩) ?_
  refine b_range (L := [(0, .d (.sl 11 (List.map eSen l))), (1, .d (.fl (.int .i64 gap))), (4, .d (.fl (.slice none 0 0))), (5, .pv 101 vn5), (9, .d (.fn 52 [.el [.sl 11 (List.map eSen (srt l))], .el [.fl (.int .i64 gap)]]))]) (xs := List.map (fun x => .sl 11 (List.map eSen x)) (rnA l gap)) (fun _ => false) (fun k => [(101, .bt 24 [.ow 22 1 (List.map (rL 11 eSen) (((rnA l gap).take k)))])]) rfl Try.func52 nm52 rfl (seqF (srt l) gap (by rw [srt_len]; exact hl)) rfl rfl (fun k => rfl) (fun k => rfl) (fun k x hx hst H0 V0 Q0 => ?_) (fun hst H0 V0 Q0 => ?_)
  · skip
    obtain ⟨hkk, rfl⟩ := mapget hx
    have hrl := rnA_len l gap
    refine a_region ?_
    refine rg_put (d := 6) (v := .d (.sl 11 (List.map eSen ((ix (rnA l gap) k))))) rfl (og rfl (op_assign rfl rfl rfl)) ?_
    refine rg_done rfl ?_
    show ∃ L1 M1, _ ∧ _ ∧ _
    refine ⟨_, _, rfl, rfl, fun H0 V0 Q0 => ?_⟩
    show A _ _ _ _ _ _ (SS _ _)
    refine a_block ?_
    refine a_draw (by kernel_rfl) ?_
    refine dr_nam (d := 11) (v := .ow 102) (m := 102) (nw := [(102, .tr 22 1 (tD (rL 11 eSen) (((rnA l gap).take k)))), (101, .bt 24 [.un])]) rfl (og rfl (of_eff (op_takeBt 102 rfl Try.underlying24 rfl rfl rfl rfl rfl rfl) rfl)) ?_
    refine dr_put (d := 12) (v := .d (.sl 11 (List.map eSen ((ix (rnA l gap) k))))) rfl (og rfl (op_move rfl rfl rfl)) ?_
    refine dr_put (d := 13) (v := .d (.sl 11 (List.map eSen ((ix (rnA l gap) k))))) rfl (og rfl (op_call rfl Try.func30 nm30 rfl (.cons rfl (.d _) .nil) (cloD ((ix (rnA l gap) k)) (by have := rnA_row (ix_mem hkk); omega)) rfl)) ?_
    refine dr_put (d := 14) (v := .d (.sl 1 (List.map (rL 11 eSen) [(ix (rnA l gap) k)]))) rfl (og rfl (of_eff (op_slices rfl Try.underlying24 ti22 rfl rfl rfl (by kernel_rfl) (xs := [.sl 11 (List.map eSen ((ix (rnA l gap) k)))]) rfl rfl (.cons rfl rfl (.d _) rfl rfl rfl .nil) rfl) rfl)) ?_
    refine dr_nam (d := 15) (v := .ow 103) (m := 103) (nw := [(103, .tr 22 1 (tD (rL 11 eSen) ((((rnA l gap).take k) ++ [(ix (rnA l gap) k)])))), (102, .no)]) rfl (og rfl (of_eff (s_append_td 103 rfl Try.underlying24 ti22 rfl rfl rfl rfl rfl (.d _) (by have hrl2 := rnA_len l gap; simp only [List.length_append, List.length_take, List.length_cons, List.length_nil]; omega) rfl) rfl)) ?_
    refine dr_sto (nw := [(101, .bt 24 [.ow 22 1 (List.map (rL 11 eSen) ((((rnA l gap).take k) ++ [(ix (rnA l gap) k)])))]), (103, .no)]) rfl (og rfl (of_eff (op_store_bt rfl rfl ti24 rfl rfl rfl (.tr rfl) rfl rfl rfl) rfl)) ?_
    refine dr_done rfl (by kernel_rfl) (by kernel_rfl) ?_
    show (_ ∧ _ ∧ _) ∨ _
    refine .inl ⟨rfl, rfl, ?_⟩
    exact imp_forget rfl ⟨rfl, rfl, rfl, rfl, rfl, trivial⟩ ⟨rfl, (congrArg (fun z => Ob.bt 24 [.ow 22 1 (List.map (rL 11 eSen) z)]) (take_ix hkk).symm), trivial⟩
  · skip
    rw [List.length_map]
    show A _ _ _ _ _ _ _
    refine a_rseq ?_
    rw [show ((rnA l gap).take (rnA l gap).length) = (rnA l gap) from List.take_length]
    have hrl := rnA_len l gap
    refine rg_lendBt 104 rfl rfl rfl rfl Try.underlying24 rfl rfl rfl rfl rfl rfl rfl (fun uh1 => ?_)
    refine rg_sortE rfl rfl rfl rfl (by rfl) Try.func31 nm31 rfl rfl rfl rfl (fun _ => rfl) (p := fun r => r.length ≠ 0 ∧ r.length ≤ 100000) (fun r hr => ⟨((rnA_ok l gap).2.1 r hr).ne, by have := rnA_row hr; omega⟩) sortF (by omega) (fun F hp hs => ?_)
    refine rg_imp (imp_back 16 101 104 0 (rows := List.map (rL 11 eSen) F) rfl rfl rfl rfl rfl) ?_
    have hFe : F = frm l gap := frm_eq hp (hs.imp (fun h => le_of_sorted cf0_neg h))
    subst hFe
    refine rg_done rfl ?_
    refine a_rseq ?_
    refine rg_nam (d := 18) (v := .ow 105) (m := 105) (nw := [(105, .tr 22 1 (tD (rL 11 eSen) (frm l gap))), (101, .bt 24 [.un])]) rfl (og rfl (of_eff (op_takeBt 105 rfl Try.underlying24 rfl rfl rfl rfl rfl rfl) rfl)) rfl ?_
    refine rg_put (d := 4) (v := .ow 105) rfl (og rfl (op_assign rfl rfl rfl)) ?_
    refine rg_done rfl ?_
    refine a_imp (imp_leakT 4 105 rfl rfl) ?_
    refine a_ret ?_
    show _ ∧ _
    refine ⟨?_, rfl⟩
    show ∃ ds, ResL _ _ _ ds ∧ RV.of ds = _
    refine ⟨[.sl 1 (List.map (rL 11 eSen) (frm l gap))], (.cons (.tmp rfl (.d _)) .nil), ?_⟩
    rfl
end Go.Proofs.Ytipkielpicfobaa.Wk
