/- Copies of charges. Conditions: as each theorem names them. -/
import Derived.Test.YtaapmifdglaehaaDoorB3
set_option linter.unusedSimpArgs false
set_option linter.unusedVariables false
namespace Go.Proofs.YtaapmifdglaehaaDoor.Wk
open Go Go.RowKit Go.Proofs.YtaapmifdglaehaaDoor.Av
def oCh (x : Chg) : List OC := [.dv (.fl (.string x.key)), .dv (.fl (.string x.veh)), .dv (.fl (.string x.sys)), .dv (.fl (.int .i64 x.cls)), .dv (.fl (.int .i64 x.time)), .ow 78 2 (List.map eLin x.lines), .dv (.fl (.int .i64 x.cents))]
set_option maxHeartbeats 4000000 in
set_option maxRecDepth 100000 in
theorem cloX (l : List Chg) (hl : l.length ≤ 1000) : CtrO Tryd.prog 60 [.sl 7 (List.map eChg l)] (.tr 74 7 (tD eChg l)) := by
  refine ctrO (n := 8) (rs := #[.tmp 2]) (L := [(0, .d (.sl 7 (List.map eChg l)))]) Tryd.func60 rfl rfl rfl rfl rfl (fun w0 U0 => ?_)
  refine a_rseq ?_
  refine rg_put (d := 2) (v := .d (.fl (.slice none 0 0))) rfl (og rfl (op_assign rfl rfl rfl)) ?_
  refine rg_done rfl ?_
  refine a_seq ?_
  refine a_rseq ?_
  refine rg_put (d := 3) (v := .d (.sl 7 (List.map eChg l))) rfl (og rfl (op_move rfl rfl rfl)) ?_
  refine rg_isnil rfl rfl rfl Tryd.underlying24 rfl rfl rfl (fun bh1 nh1 => ?_)
  refine rg_done rfl ?_
  refine a_cond rfl (fun h2 => ?_) (fun h2 => ?_)
  · skip
    refine a_rseq ?_
    refine rg_put (d := 2) (v := .d (.fl (.slice none 0 0))) rfl (og rfl (op_assign rfl rfl rfl)) ?_
    refine rg_done rfl ?_
    have hnil : l = [] := by simpa using nh1 h2
    subst hnil
    refine a_imp (imp_nilT 2 101 74 7 rfl rfl) ?_
    refine a_ret ?_
    show ∃ rv, _ = #[rv] ∧ ResO _ _ rv _
    exact ⟨_, rfl, .tmp rfl rfl⟩
  · skip
    refine a_skip ?_
    show A _ _ _ _ _ _ _
    refine a_rseq ?_
    refine rg_nam (d := 5) (v := .ow 102) (m := 102) (nw := [(102, .tr 74 7 (tD eChg []))]) rfl (og rfl (of_eff (op_slice0 102 rfl Tryd.underlying24 ti74 rfl) rfl)) rfl ?_
    refine rg_put (d := 6) (v := .d (.sl 7 (List.map eChg l))) rfl (og rfl (op_move rfl rfl rfl)) ?_
    refine rg_nam (d := 7) (v := .ow 103) (m := 103) (nw := [(103, .tr 74 7 (tD eChg ([] ++ l))), (102, .no)]) rfl (og rfl (of_eff (s_append_td 103 rfl Tryd.underlying24 ti74 rfl rfl rfl rfl rfl (.d _) (by simp only [List.length_nil]; omega) rfl) rfl)) rfl ?_
    refine rg_put (d := 2) (v := .ow 103) rfl (og rfl (op_assign rfl rfl rfl)) ?_
    refine rg_done rfl ?_
    refine a_ret ?_
    show ∃ rv, _ = #[rv] ∧ ResO _ _ rv _
    exact ⟨_, rfl, .tmp rfl rfl⟩
set_option maxHeartbeats 4000000 in
set_option maxRecDepth 100000 in
theorem cloL (l : List Lin) (hl : l.length ≤ 1000) : CtrO Tryd.prog 61 [.sl 2 (List.map eLin l)] (.tr 78 2 (tD eLin l)) := by
  refine ctrO (n := 8) (rs := #[.tmp 2]) (L := [(0, .d (.sl 2 (List.map eLin l)))]) Tryd.func61 rfl rfl rfl rfl rfl (fun w0 U0 => ?_)
  refine a_rseq ?_
  refine rg_put (d := 2) (v := .d (.fl (.slice none 0 0))) rfl (og rfl (op_assign rfl rfl rfl)) ?_
  refine rg_done rfl ?_
  refine a_seq ?_
  refine a_rseq ?_
  refine rg_put (d := 3) (v := .d (.sl 2 (List.map eLin l))) rfl (og rfl (op_move rfl rfl rfl)) ?_
  refine rg_isnil rfl rfl rfl Tryd.underlying72 rfl rfl rfl (fun bh1 nh1 => ?_)
  refine rg_done rfl ?_
  refine a_cond rfl (fun h2 => ?_) (fun h2 => ?_)
  · skip
    refine a_rseq ?_
    refine rg_put (d := 2) (v := .d (.fl (.slice none 0 0))) rfl (og rfl (op_assign rfl rfl rfl)) ?_
    refine rg_done rfl ?_
    have hnil : l = [] := by simpa using nh1 h2
    subst hnil
    refine a_imp (imp_nilT 2 101 78 2 rfl rfl) ?_
    refine a_ret ?_
    show ∃ rv, _ = #[rv] ∧ ResO _ _ rv _
    exact ⟨_, rfl, .tmp rfl rfl⟩
  · skip
    refine a_skip ?_
    show A _ _ _ _ _ _ _
    refine a_rseq ?_
    refine rg_nam (d := 5) (v := .ow 102) (m := 102) (nw := [(102, .tr 78 2 (tD eLin []))]) rfl (og rfl (of_eff (op_slice0 102 rfl Tryd.underlying72 ti78 rfl) rfl)) rfl ?_
    refine rg_put (d := 6) (v := .d (.sl 2 (List.map eLin l))) rfl (og rfl (op_move rfl rfl rfl)) ?_
    refine rg_nam (d := 7) (v := .ow 103) (m := 103) (nw := [(103, .tr 78 2 (tD eLin ([] ++ l))), (102, .no)]) rfl (og rfl (of_eff (s_append_td 103 rfl Tryd.underlying72 ti78 rfl rfl rfl rfl rfl (.d _) (by simp only [List.length_nil]; omega) rfl) rfl)) rfl ?_
    refine rg_put (d := 2) (v := .ow 103) rfl (og rfl (op_assign rfl rfl rfl)) ?_
    refine rg_done rfl ?_
    refine a_ret ?_
    show ∃ rv, _ = #[rv] ∧ ResO _ _ rv _
    exact ⟨_, rfl, .tmp rfl rfl⟩
set_option maxHeartbeats 4000000 in
set_option maxRecDepth 100000 in
theorem fresh_x (x : Chg) (h1 : x.lines.length ≤ 8) : CtrO Tryd.prog 44 [.ag (eChg x)] (.sv (oCh x)) := by
  refine ctrO (n := 8) (rs := #[.cell 2 74]) (L := [(0, .d (.ag (eChg x)))]) Tryd.func44 rfl rfl rfl rfl rfl (fun w0 U0 => ?_)
  refine a_rseq ?_
  refine rg_nam (d := 1) (v := .pt 101 0) (m := 101) (nw := [(101, .bx 74 (eChg x))]) rfl (og rfl (of_eff (op_box 101 rfl rfl rfl rfl) rfl)) rfl ?_
  refine rg_nam (d := 2) (v := .pt 102 0) (m := 102) (nw := [(102, .bx 74 ([.fl (.string (⟨#[]⟩)), .fl (.string (⟨#[]⟩)), .fl (.string (⟨#[]⟩)), .fl (.int .i64 0), .fl (.int .i64 0), .fl (.slice none 0 0), .fl (.int .i64 0)]))]) rfl (og rfl (of_eff (s_alloc 102 rfl ti74 (by kernel_rfl) rfl) rfl)) rfl ?_
  refine rg_done rfl ?_
  refine a_rseq ?_
  refine rg_imp (imp_bt 101 rfl) ?_
  refine rg_imp (imp_bt 102 rfl) ?_
  refine rg_put (d := 3) (v := .pt 101 5) rfl (og rfl (of_eff (s_field_pt rfl Tryd.underlying74 rfl ti72 rfl rfl rfl) rfl)) ?_
  refine rg_put (d := 4) (v := .d (.sl 2 (List.map eLin x.lines))) rfl (og rfl (op_load_bt rfl Tryd.underlying72 rfl rfl rfl rfl rfl)) ?_
  refine rg_nam (d := 5) (v := .ow 103) (m := 103) (nw := [(103, .tr 78 2 (tD eLin x.lines))]) rfl (og rfl (of_eff (op_callO 103 rfl Tryd.func61 nm61 rfl (.cons rfl (.d _) .nil) (cloL x.lines (by omega)) rfl) rfl)) rfl ?_
  refine rg_put (d := 6) (v := .pt 101 5) rfl (og rfl (of_eff (s_field_pt rfl Tryd.underlying74 rfl ti72 rfl rfl rfl) rfl)) ?_
  refine rg_sto (nw := [(101, .bt 74 [.dv (.fl (.string x.key)), .dv (.fl (.string x.veh)), .dv (.fl (.string x.sys)), .dv (.fl (.int .i64 x.cls)), .dv (.fl (.int .i64 x.time)), .ow 78 2 (List.map eLin x.lines), .dv (.fl (.int .i64 x.cents))]), (103, .no)]) rfl (og rfl (of_eff (op_store_bt rfl rfl ti72 rfl rfl rfl (.tr rfl) rfl rfl rfl) rfl)) ?_
  refine rg_done rfl ?_
  refine a_rseq ?_
  refine rg_nam (d := 7) (v := .ow 104) (m := 104) (nw := [(104, .sv [.dv (.fl (.string x.key)), .dv (.fl (.string x.veh)), .dv (.fl (.string x.sys)), .dv (.fl (.int .i64 x.cls)), .dv (.fl (.int .i64 x.time)), .ow 78 2 (List.map eLin x.lines), .dv (.fl (.int .i64 x.cents))]), (101, .no)]) rfl (og rfl (of_eff (op_move_bt 104 rfl Tryd.underlying74 rfl ti74 rfl rfl rfl rfl) rfl)) rfl ?_
  refine rg_sto (nw := [(102, .bt 74 [.dv (.fl (.string x.key)), .dv (.fl (.string x.veh)), .dv (.fl (.string x.sys)), .dv (.fl (.int .i64 x.cls)), .dv (.fl (.int .i64 x.time)), .ow 78 2 (List.map eLin x.lines), .dv (.fl (.int .i64 x.cents))]), (104, .no)]) rfl (og rfl (of_eff (op_store_bt rfl rfl ti74 rfl rfl rfl (.sv rfl) rfl rfl rfl) rfl)) ?_
  refine rg_done rfl ?_
  refine a_ret ?_
  show ∃ rv, _ = #[rv] ∧ ResO _ _ rv _
  exact ⟨_, rfl, .cell rfl rfl Tryd.underlying74 rfl ti74 rfl⟩
theorem copyX (x : Chg) (h1 : x.lines.length ≤ 8) : Ctr Tryd.prog 44 [.ag (eChg x)] (.d (.ag (eChg x))) := ctr_of_O (fresh_x x h1) rfl
set_option maxHeartbeats 4000000 in
set_option maxRecDepth 100000 in
theorem lisX (l : List Chg) (hl : l.length ≤ 30) (hz : ∀ q, q < l.length → (ix l q).lines.length ≤ 8) : Ctr Tryd.prog 43 [.sl 7 (List.map eChg l), .fn 44 []] (.d (.sl 7 (List.map eChg l))) := by
  refine ctr (n := 25) (rs := #[.tmp 4]) (L := [(0, .d (.sl 7 (List.map eChg l))), (1, .d (.fn 44 []))]) Tryd.func43 rfl rfl rfl rfl rfl (fun w0 U0 => ?_)
  refine a_rseq ?_
  refine rg_put (d := 4) (v := .d (.fl (.slice none 0 0))) rfl (og rfl (op_assign rfl rfl rfl)) ?_
  refine rg_done rfl ?_
  refine a_rseq ?_
  refine rg_put (d := 7) (v := .d (.sl 7 (List.map eChg l))) rfl (og rfl (op_move rfl rfl rfl)) ?_
  refine rg_nam (d := 8) (v := .ow 101) (m := 101) (nw := [(101, .tr 74 7 (tD eChg l))]) rfl (og rfl (of_eff (op_callO 101 rfl Tryd.func60 nm60 rfl (.cons rfl (.d _) .nil) (cloX l (by omega)) rfl) rfl)) rfl ?_
  refine rg_put (d := 5) (v := .ow 101) rfl (og rfl (op_assign rfl rfl rfl)) ?_
  refine rg_done rfl ?_
  refine a_seq ?_
  refine a_rseq ?_
  refine rg_put (d := 9) (v := .ow 101) rfl (og rfl (op_move rfl rfl rfl)) ?_
  refine rg_put (d := 10) (v := .d (.fl (.int .i64 (((l).length : Int))))) rfl (og rfl (op_len_tr rfl Tryd.underlying24 rfl rfl tD_len rfl)) ?_
  refine rg_put (d := 11) (v := .d (.fl (.int .i64 0))) rfl (og rfl (op_move rfl rfl rfl)) ?_
  refine rg_done rfl ?_
  refine a_block ?_
  refine a_loop (ι := Nat) (fun k => SS [(0, .d (.sl 7 (List.map eChg l))), (1, .d (.fn 44 [])), (4, .d (.fl (.slice none 0 0))), (5, .ow 101), (10, .d (.fl (.int .i64 (((l).length : Int))))), (11, .d (.fl (.int .i64 (k : Int))))] [(101, .tr 74 7 (tD eChg l))]) (fun k => k ≤ l.length) (fun k => l.length - k) 0 (by omega) (imp_forget rfl ⟨rfl, rfl, rfl, (by first | rfl | exact ci (by omega) | exact ci (by simp) | exact cd (by simp) | simp), rfl, (by first | rfl | exact ci (by omega) | exact ci (by simp) | exact cd (by simp) | simp), trivial⟩ ⟨(by first | rfl | simp), trivial⟩) (fun k hok => ?_)
  have hk := hok
  refine a_rseq ?_
  refine rg_put (d := 12) (v := .d (.fl (.bool ((decide ((k : Int) < ((l).length : Int))))))) rfl (og rfl (op_bin rfl rfl rfl (b_lss _ _ _ _) rfl)) ?_
  refine rg_done rfl ?_
  refine a_seq ?_
  refine a_cond rfl (fun h1 => ?_) (fun h1 => ?_)
  · skip
    have h2 := t_dec h1
    refine a_skip ?_
    show A _ _ _ _ _ _ _
    refine a_seq ?_
    refine a_block ?_
    refine a_rseq ?_
    refine rg_put (d := 13) (v := .d (.fl (.int .i64 (k : Int)))) rfl (og rfl (op_move rfl rfl rfl)) ?_
    refine rg_put (d := 6) (v := .d (.fl (.int .i64 (k : Int)))) rfl (og rfl (op_assign rfl rfl rfl)) ?_
    refine rg_done rfl ?_
    refine a_region ?_
    refine rg_put (d := 14) (v := .ow 101) rfl (og rfl (op_move rfl rfl rfl)) ?_
    refine rg_put (d := 15) (v := .d (.fl (.int .i64 (k : Int)))) rfl (og rfl (op_move rfl rfl rfl)) ?_
    refine rg_put (d := 16) (v := .d (.fn 44 [])) rfl (og rfl (op_move rfl rfl rfl)) ?_
    refine rg_put (d := 17) (v := .ow 101) rfl (og rfl (op_move rfl rfl rfl)) ?_
    refine rg_put (d := 18) (v := .d (.fl (.int .i64 (k : Int)))) rfl (og rfl (op_move rfl rfl rfl)) ?_
    refine rg_put (d := 19) (v := .pe 101 7 k 0) rfl (og rfl (op_index_tr rfl Tryd.underlying24 ti74 rfl rfl rfl (get_lt (tD_at (by omega))) rfl)) ?_
    refine rg_put (d := 20) (v := .d (.ag (eChg (ix l k)))) rfl (og rfl (of_eff (op_load_pes rfl Tryd.underlying74 rfl ti74 rfl rfl (tD_at (by omega)) rfl rfl rfl) rfl)) ?_
    refine rg_put (d := 21) (v := .d (.ag (eChg (ix l k)))) rfl (og rfl (op_callV rfl rfl ⟨_, Tryd.func44, nm44, rfl⟩ (.cons rfl (.d _) .nil) (copyX (ix l k) (hz k (by omega))) rfl)) ?_
    refine rg_put (d := 22) (v := .pe 101 7 k 0) rfl (og rfl (op_index_tr rfl Tryd.underlying24 ti74 rfl rfl rfl (get_lt (tD_at (by omega))) rfl)) ?_
    refine rg_sto (nw := [(101, .tr 74 7 (((tD eChg l).set k [.dv (.fl (.string ((ix l k).key))), .dv (.fl (.string ((ix l k).veh))), .dv (.fl (.string ((ix l k).sys))), .dv (.fl (.int .i64 ((ix l k).cls))), .dv (.fl (.int .i64 ((ix l k).time))), .dv (.sl 2 (List.map eLin ((ix l k).lines))), .dv (.fl (.int .i64 ((ix l k).cents)))])))]) rfl (og rfl (of_eff (op_store_pe rfl rfl ti74 rfl rfl (tD_at (by omega)) rfl (.d rfl) rfl rfl rfl) rfl)) ?_
    refine rg_done rfl ?_
    show A _ _ _ _ _ _ _
    refine a_region ?_
    refine rg_put (d := 23) (v := .d (.fl (.int .i64 (((k : Int) + 1))))) rfl (og rfl (op_bin rfl rfl rfl (fun x y w => b_add64 _ _ _ x y w (by omega)) rfl)) ?_
    refine rg_put (d := 11) (v := .d (.fl (.int .i64 (((k : Int) + 1))))) rfl (og rfl (op_move rfl rfl rfl)) ?_
    refine rg_done rfl ?_
    show ∃ i, _ ∧ _ ∧ Imp _ _ _ _ _
    refine ⟨k + 1, (by omega), by omega, imp_forget rfl ⟨rfl, rfl, rfl, rfl, rfl, (by first | rfl | exact ci (by omega) | exact ci (by simp) | exact cd (by simp) | simp), trivial⟩ ⟨(congrArg (fun z => Ob.tr 74 7 z) (tD_same (by omega) rfl)), trivial⟩⟩
  · skip
    have h3 := f_dec h1
    refine a_exit ?_
    show A _ _ _ _ _ _ _
    refine a_rseq ?_
    refine rg_put (d := 24) (v := .ow 101) rfl (og rfl (op_move rfl rfl rfl)) ?_
    refine rg_put (d := 4) (v := .ow 101) rfl (og rfl (op_assign rfl rfl rfl)) ?_
    refine rg_done rfl ?_
    refine a_imp (imp_leakT 4 101 rfl rfl) ?_
    refine a_ret ?_
    show ∃ ds, ResL _ _ _ ds ∧ RV.of ds = _
    refine ⟨[.sl 7 (List.map eChg l)], (.cons (.tmp rfl (.d _)) .nil), ?_⟩
    rfl
set_option maxHeartbeats 4000000 in
set_option maxRecDepth 100000 in
theorem chsX (l : List Chg) (hl : l.length ≤ 30) (hz : ∀ q, q < l.length → (ix l q).lines.length ≤ 8) : Ctr Tryd.prog 26 [.sl 7 (List.map eChg l)] (.d (.sl 7 (List.map eChg l))) := by
  refine ctr (n := 5) (rs := #[.tmp 2]) (L := [(0, .d (.sl 7 (List.map eChg l)))]) Tryd.func26 rfl rfl rfl rfl rfl (fun w0 U0 => ?_)
  refine a_rseq ?_
  refine rg_put (d := 2) (v := .d (.fl (.slice none 0 0))) rfl (og rfl (op_assign rfl rfl rfl)) ?_
  refine rg_done rfl ?_
  refine a_rseq ?_
  refine rg_put (d := 3) (v := .d (.sl 7 (List.map eChg l))) rfl (og rfl (op_move rfl rfl rfl)) ?_
  refine rg_put (d := 4) (v := .d (.sl 7 (List.map eChg l))) rfl (og rfl (op_call rfl Tryd.func43 nm43 rfl (.cons rfl (.d _) (.cons rfl (.d _) .nil)) (lisX l (by omega) hz) rfl)) ?_
  refine rg_put (d := 2) (v := .d (.sl 7 (List.map eChg l))) rfl (og rfl (op_assign rfl rfl rfl)) ?_
  refine rg_done rfl ?_
  refine a_ret ?_
  show ∃ ds, ResL _ _ _ ds ∧ RV.of ds = _
  refine ⟨[.sl 7 (List.map eChg l)], (.cons (.tmp rfl (.d _)) .nil), ?_⟩
  rfl
end Go.Proofs.YtaapmifdglaehaaDoor.Wk
