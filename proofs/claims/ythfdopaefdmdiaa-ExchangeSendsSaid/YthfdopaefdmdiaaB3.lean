/- Files that arrive, both sides. Condition: partners that are not too great. -/
import Derived.Test.YthfdopaefdmdiaaB2
set_option linter.unusedSimpArgs false
set_option linter.unusedVariables false
namespace Go.Proofs.Ythfdopaefdmdiaa.Wk
open Go Go.RowKit Go.Proofs.Ythfdopaefdmdiaa.Av
set_option maxHeartbeats 4000000 in
set_option maxRecDepth 100000 in
theorem recD (l : List Rec) (hl : l.length ≤ 2000) : Ctr Try.prog 25 [.sl 5 (List.map eRec l)] (.d (.sl 5 (List.map eRec l))) := by
  refine ctr (n := 7) (rs := #[.tmp 2]) (L := [(0, .d (.sl 5 (List.map eRec l)))]) Try.func25 rfl rfl rfl rfl rfl (fun w0 U0 => ?_)
  refine a_rseq ?_
  refine rg_put (d := 2) (v := .d (.fl (.slice none 0 0))) rfl (og rfl (op_assign rfl rfl rfl)) ?_
  refine rg_done rfl ?_
  refine a_rseq ?_
  refine rg_put (d := 3) (v := .d (.fl (.slice none 0 0))) rfl (og rfl (op_assign rfl rfl rfl)) ?_
  refine rg_done rfl ?_
  refine a_rseq ?_
  refine rg_put (d := 4) (v := .d (.fl (.slice none 0 0))) rfl (og rfl (op_move rfl rfl rfl)) ?_
  refine rg_put (d := 5) (v := .d (.sl 5 (List.map eRec l))) rfl (og rfl (op_move rfl rfl rfl)) ?_
  refine rg_nam (d := 6) (v := .ow 101) (m := 101) (nw := [(101, .ow 48 5 (List.map eRec l))]) rfl (og rfl (s_append_nil 101 rfl Try.underlying23 ti48 rfl rfl rfl rfl (.d _) (by first | omega | (simp only [List.length_append, List.length_cons, List.length_nil]; omega) | (simp only [List.length_take, List.length_drop]; omega)) rfl)) rfl ?_
  refine rg_put (d := 2) (v := .ow 101) rfl (og rfl (op_assign rfl rfl rfl)) ?_
  refine rg_done rfl ?_
  refine a_ret ?_
  show ∃ ds, ResL _ _ _ ds ∧ RV.of ds = _
  refine ⟨[.sl 5 (List.map eRec l)], (.cons (.tmp rfl (.ow rfl)) .nil), ?_⟩
  rfl
set_option maxHeartbeats 4000000 in
set_option maxRecDepth 100000 in
theorem recO (l : List Rec) (hl : l.length ≤ 2000) : CtrO Try.prog 25 [.sl 5 (List.map eRec l)] (.tr 48 5 (tD eRec l)) := by
  refine ctrO (n := 7) (rs := #[.tmp 2]) (L := [(0, .d (.sl 5 (List.map eRec l)))]) Try.func25 rfl rfl rfl rfl rfl (fun w0 U0 => ?_)
  refine a_rseq ?_
  refine rg_put (d := 2) (v := .d (.fl (.slice none 0 0))) rfl (og rfl (op_assign rfl rfl rfl)) ?_
  refine rg_done rfl ?_
  refine a_rseq ?_
  refine rg_put (d := 3) (v := .d (.fl (.slice none 0 0))) rfl (og rfl (op_assign rfl rfl rfl)) ?_
  refine rg_done rfl ?_
  refine a_rseq ?_
  refine rg_imp (imp_nilT 3 101 48 5 rfl rfl) ?_
  refine rg_put (d := 4) (v := .ow 101) rfl (og rfl (op_move rfl rfl rfl)) ?_
  refine rg_put (d := 5) (v := .d (.sl 5 (List.map eRec l))) rfl (og rfl (op_move rfl rfl rfl)) ?_
  refine rg_nam (d := 6) (v := .ow 102) (m := 102) (nw := [(102, .tr 48 5 (tD eRec ([] ++ l))), (101, .no)]) rfl (og rfl (of_eff (s_append_td 102 rfl Try.underlying23 ti48 rfl rfl rfl rfl rfl (.d _) (by first | omega | (simp only [List.length_append, List.length_cons, List.length_nil]; omega) | (simp only [List.length_take, List.length_drop]; omega)) rfl) rfl)) rfl ?_
  refine rg_put (d := 2) (v := .ow 102) rfl (og rfl (op_assign rfl rfl rfl)) ?_
  refine rg_done rfl ?_
  refine a_ret ?_
  show ∃ rv, _ = #[rv] ∧ ResO _ _ rv _
  exact ⟨_, rfl, .tmp rfl rfl⟩
set_option maxHeartbeats 4000000 in
set_option maxRecDepth 100000 in
theorem filO (l : List Fil) (hl : l.length ≤ 1000) (hz : ∀ x ∈ l, x.recs.length ≤ 1100) : CtrO Try.prog 26 [.sl 4 (List.map eFil l)] (.tr 27 4 (tD eFil l)) := by
  refine ctrO (n := 28) (rs := #[.tmp 2]) (L := [(0, .d (.sl 4 (List.map eFil l)))]) Try.func26 rfl rfl rfl rfl rfl (fun w0 U0 => ?_)
  refine a_rseq ?_
  refine rg_put (d := 2) (v := .d (.fl (.slice none 0 0))) rfl (og rfl (op_assign rfl rfl rfl)) ?_
  refine rg_done rfl ?_
  refine a_rseq ?_
  refine rg_put (d := 3) (v := .d (.fl (.slice none 0 0))) rfl (og rfl (op_assign rfl rfl rfl)) ?_
  refine rg_done rfl ?_
  refine a_seq ?_
  refine a_rseq ?_
  refine rg_imp (imp_nilT 3 101 27 4 rfl rfl) ?_
  refine rg_put (d := 4) (v := .d (.fl (.int .i64 0))) rfl (og rfl (op_assign rfl rfl rfl)) ?_
  refine rg_done rfl ?_
  refine a_block ?_
  refine a_loop (ι := Nat) (fun k => SS [(0, .d (.sl 4 (List.map eFil l))), (2, .d (.fl (.slice none 0 0))), (4, .d (.fl (.int .i64 (k : Int)))), (3, .ow 101)] [(101, .tr 27 4 (tD eFil (l.take k)))]) (fun k => k ≤ l.length) (fun k => l.length - k) 0 (by omega) (imp_forget rfl ⟨rfl, rfl, (by first | rfl | exact ci (by omega) | exact ci (by simp) | exact cd (by simp) | simp), (by first | rfl | exact ci (by omega) | exact ci (by simp) | exact cd (by simp) | simp), trivial⟩ ⟨rfl, trivial⟩) (fun k hok => ?_)
  have hk := hok
  have hnl : (l.take k).length = k := by rw [List.length_take]; omega
  refine a_seq ?_
  refine a_rseq ?_
  refine rg_put (d := 6) (v := .d (.fl (.int .i64 (k : Int)))) rfl (og rfl (op_move rfl rfl rfl)) ?_
  refine rg_put (d := 7) (v := .d (.sl 4 (List.map eFil l))) rfl (og rfl (op_move rfl rfl rfl)) ?_
  refine rg_put (d := 8) (v := .d (.fl (.int .i64 (l.length : Int)))) rfl (og rfl (s_len rfl Try.underlying22 rfl rfl)) ?_
  refine rg_put (d := 9) (v := .d (.fl (.bool ((decide ((k : Int) < (l.length : Int))))))) rfl (og rfl (op_bin rfl rfl rfl (b_lss _ _ _ _) rfl)) ?_
  refine rg_done rfl ?_
  refine a_cond rfl (fun h1 => ?_) (fun h1 => ?_)
  · skip
    have h2 := t_dec h1
    refine a_skip ?_
    show A _ _ _ _ _ _ _
    refine a_seq ?_
    refine a_block ?_
    refine a_rseq ?_
    refine rg_put (d := 12) (v := .d (.sl 4 (List.map eFil l))) rfl (og rfl (op_move rfl rfl rfl)) ?_
    refine rg_put (d := 13) (v := .d (.fl (.int .i64 (k : Int)))) rfl (og rfl (op_move rfl rfl rfl)) ?_
    refine rg_put (d := 14) (v := .el ((eFil (ix l k)))) rfl (og rfl (s_index rfl Try.underlying22 ti27 rfl rfl (by omega) (row_at (by omega)) rfl)) ?_
    refine rg_put (d := 15) (v := .d (.ag (eFil (ix l k)))) rfl (og rfl (of_eff (s_load_els rfl Try.underlying27 rfl ti27 rfl rfl rfl) rfl)) ?_
    refine rg_nam (d := 5) (v := .pt 102 0) (m := 102) (nw := [(102, .bx 27 ([.fl (.string (⟨#[]⟩)), .fl (.string (⟨#[]⟩)), .fl (.int .i64 0), .fl (.slice none 0 0)]))]) rfl (og rfl (of_eff (s_alloc 102 rfl ti27 (by kernel_rfl) rfl) rfl)) rfl ?_
    refine rg_sto (nw := [(102, .bx 27 ((eFil (ix l k))))]) rfl (og rfl (of_eff (s_store rfl rfl ti27 rfl rfl rfl rfl rfl rfl) rfl)) ?_
    refine rg_done rfl ?_
    refine a_rseq ?_
    refine rg_put (d := 16) (v := .d (.sl 4 (List.map eFil l))) rfl (og rfl (op_move rfl rfl rfl)) ?_
    refine rg_put (d := 17) (v := .d (.fl (.int .i64 (k : Int)))) rfl (og rfl (op_move rfl rfl rfl)) ?_
    refine rg_put (d := 18) (v := .el ((eFil (ix l k)))) rfl (og rfl (s_index rfl Try.underlying22 ti27 rfl rfl (by omega) (row_at (by omega)) rfl)) ?_
    refine rg_put (d := 19) (v := .el ((List.drop 3 ((eFil (ix l k)))))) rfl (og rfl (of_eff (s_field_el rfl Try.underlying27 rfl ti23 rfl rfl rfl) rfl)) ?_
    refine rg_put (d := 20) (v := .d (.sl 5 (List.map eRec ((ix l k).recs)))) rfl (og rfl (op_load_el rfl Try.underlying23 rfl rfl rfl rfl)) ?_
    refine rg_put (d := 21) (v := .d (.sl 5 (List.map eRec ((ix l k).recs)))) rfl (og rfl (op_call rfl Try.func25 nm25 rfl (.cons rfl (.d _) .nil) (recD ((ix l k).recs) (by have := hz _ (ix_mem (by omega : k < l.length)); omega)) rfl)) ?_
    refine rg_put (d := 22) (v := .pt 102 3) rfl (og rfl (of_eff (s_field_pt rfl Try.underlying27 rfl ti23 rfl rfl rfl) rfl)) ?_
    refine rg_sto (nw := [(102, .bx 27 [.fl (.string ((ix l k).fr)), .fl (.string ((ix l k).to)), .fl (.int .i64 ((ix l k).seq)), .sl 5 (List.map eRec ((ix l k).recs))])]) rfl (og rfl (of_eff (s_store rfl rfl ti23 rfl rfl rfl rfl rfl rfl) rfl)) ?_
    refine rg_done rfl ?_
    refine a_region ?_
    refine rg_put (d := 23) (v := .ow 101) rfl (og rfl (op_move rfl rfl rfl)) ?_
    refine rg_put (d := 24) (v := .d (.ag (eFil (ix l k)))) rfl (og rfl (of_eff (s_load_pts rfl Try.underlying27 rfl ti27 rfl rfl rfl rfl) rfl)) ?_
    refine rg_put (d := 25) (v := .d (.sl 4 (List.map eFil [(ix l k)]))) rfl (og rfl (of_eff (op_slices rfl Try.underlying22 ti27 rfl rfl rfl (by kernel_rfl) (xs := [.ag (eFil (ix l k))]) rfl rfl (.cons rfl rfl (.d _) rfl rfl rfl .nil) rfl) rfl)) ?_
    refine rg_nam (d := 26) (v := .ow 103) (m := 103) (nw := [(103, .tr 27 4 (tD eFil (((l.take k) ++ [(ix l k)])))), (101, .no)]) rfl (og rfl (of_eff (s_append_td 103 rfl Try.underlying22 ti27 rfl rfl rfl rfl rfl (.d _) (by first | omega | (simp only [List.length_append, List.length_cons, List.length_nil]; omega) | (simp only [List.length_take, List.length_drop]; omega)) rfl) rfl)) rfl ?_
    refine rg_put (d := 3) (v := .ow 103) rfl (og rfl (op_assign rfl rfl rfl)) ?_
    refine rg_done rfl ?_
    show A _ _ _ _ _ _ _
    refine a_region ?_
    refine rg_put (d := 10) (v := .d (.fl (.int .i64 (k : Int)))) rfl (og rfl (op_move rfl rfl rfl)) ?_
    refine rg_put (d := 11) (v := .d (.fl (.int .i64 (((k : Int) + 1))))) rfl (og rfl (op_bin rfl rfl rfl (fun x y w => b_add64 _ _ _ x y w (by omega)) rfl)) ?_
    refine rg_put (d := 4) (v := .d (.fl (.int .i64 (((k : Int) + 1))))) rfl (og rfl (op_assign rfl rfl rfl)) ?_
    refine rg_done rfl ?_
    show ∃ i, _ ∧ _ ∧ Imp _ _ _ _ _
    refine ⟨k + 1, (by omega), by omega, imp_ren (fun m => bif Nat.beq m 101 then 103 else m) rfl ⟨rfl, rfl, (by first | rfl | exact ci (by omega) | exact ci (by simp) | exact cd (by simp) | simp), rfl, trivial⟩ ⟨(congrArg (fun z => Ob.tr 27 4 (tD eFil z)) (take_ix (by omega)).symm), trivial⟩⟩
  · skip
    have h3 := f_dec h1
    refine a_exit ?_
    show A _ _ _ _ _ _ _
    refine a_rseq ?_
    rw [show (l.take k) = l from (List.take_of_length_le (by omega))]
    refine rg_put (d := 27) (v := .ow 101) rfl (og rfl (op_move rfl rfl rfl)) ?_
    refine rg_put (d := 2) (v := .ow 101) rfl (og rfl (op_assign rfl rfl rfl)) ?_
    refine rg_done rfl ?_
    refine a_ret ?_
    show ∃ rv, _ = #[rv] ∧ ResO _ _ rv _
    exact ⟨_, rfl, .tmp rfl rfl⟩
set_option maxHeartbeats 4000000 in
set_option maxRecDepth 100000 in
theorem copO (p : Ptn) (hp : okP p) : CtrO Try.prog 22 [.ag (ePt p)] (.sv [.dv (.fl (.string p.name)), .dv (.fl (.int .i64 p.out)), .dv (.fl (.int .i64 p.inn)), .ow 27 4 (List.map eFil p.wait), .ow 48 5 (List.map eRec p.ours), .ow 48 5 (List.map eRec p.theirs)]) := by
  refine ctrO (n := 18) (rs := #[.cell 2 25]) (L := [(0, .d (.ag (ePt p)))]) Try.func22 rfl rfl rfl rfl rfl (fun w0 U0 => ?_)
  refine a_rseq ?_
  refine rg_nam (d := 1) (v := .pt 101 0) (m := 101) (nw := [(101, .bx 25 (ePt p))]) rfl (og rfl (of_eff (op_box 101 rfl rfl rfl rfl) rfl)) rfl ?_
  refine rg_nam (d := 2) (v := .pt 102 0) (m := 102) (nw := [(102, .bx 25 ([.fl (.string (⟨#[]⟩)), .fl (.int .i64 0), .fl (.int .i64 0), .fl (.slice none 0 0), .fl (.slice none 0 0), .fl (.slice none 0 0)]))]) rfl (og rfl (of_eff (s_alloc 102 rfl ti25 (by kernel_rfl) rfl) rfl)) rfl ?_
  refine rg_done rfl ?_
  refine a_rseq ?_
  refine rg_put (d := 4) (v := .d (.ag (ePt p))) rfl (og rfl (of_eff (s_load_pts rfl Try.underlying25 rfl ti25 rfl rfl rfl rfl) rfl)) ?_
  refine rg_nam (d := 3) (v := .pt 103 0) (m := 103) (nw := [(103, .bx 25 ([.fl (.string (⟨#[]⟩)), .fl (.int .i64 0), .fl (.int .i64 0), .fl (.slice none 0 0), .fl (.slice none 0 0), .fl (.slice none 0 0)]))]) rfl (og rfl (of_eff (s_alloc 103 rfl ti25 (by kernel_rfl) rfl) rfl)) rfl ?_
  refine rg_sto (nw := [(103, .bx 25 (ePt p))]) rfl (og rfl (of_eff (s_store rfl rfl ti25 rfl rfl rfl rfl rfl rfl) rfl)) ?_
  refine rg_imp (imp_bt 103 rfl) ?_
  refine rg_imp (imp_bt 102 rfl) ?_
  refine rg_done rfl ?_
  refine a_dseq (by kernel_rfl) ?_
  refine dr_put (d := 5) (v := .pt 101 3) rfl (og rfl (of_eff (s_field_pt rfl Try.underlying25 rfl ti22 rfl rfl rfl) rfl)) ?_
  refine dr_put (d := 6) (v := .d (.sl 4 (List.map eFil p.wait))) rfl (og rfl (op_load_pt rfl Try.underlying22 rfl rfl rfl rfl rfl)) ?_
  refine dr_nam (d := 7) (v := .ow 104) (m := 104) (nw := [(104, .tr 27 4 (tD eFil p.wait))]) rfl (og rfl (of_eff (op_callO 104 rfl Try.func26 nm26 rfl (.cons rfl (.d _) .nil) (filO p.wait (by have := hp.w; omega) hp.r) rfl) rfl)) ?_
  refine dr_put (d := 8) (v := .pt 101 4) rfl (og rfl (of_eff (s_field_pt rfl Try.underlying25 rfl ti23 rfl rfl rfl) rfl)) ?_
  refine dr_put (d := 9) (v := .d (.sl 5 (List.map eRec p.ours))) rfl (og rfl (op_load_pt rfl Try.underlying23 rfl rfl rfl rfl rfl)) ?_
  refine dr_nam (d := 10) (v := .ow 105) (m := 105) (nw := [(105, .tr 48 5 (tD eRec p.ours))]) rfl (og rfl (of_eff (op_callO 105 rfl Try.func25 nm25 rfl (.cons rfl (.d _) .nil) (recO p.ours (by have := hp.o; have := hp.t; omega)) rfl) rfl)) ?_
  refine dr_put (d := 11) (v := .pt 101 5) rfl (og rfl (of_eff (s_field_pt rfl Try.underlying25 rfl ti23 rfl rfl rfl) rfl)) ?_
  refine dr_put (d := 12) (v := .d (.sl 5 (List.map eRec p.theirs))) rfl (og rfl (op_load_pt rfl Try.underlying23 rfl rfl rfl rfl rfl)) ?_
  refine dr_nam (d := 13) (v := .ow 106) (m := 106) (nw := [(106, .tr 48 5 (tD eRec p.theirs))]) rfl (og rfl (of_eff (op_callO 106 rfl Try.func25 nm25 rfl (.cons rfl (.d _) .nil) (recO p.theirs (by have := hp.o; have := hp.t; omega)) rfl) rfl)) ?_
  refine dr_put (d := 14) (v := .pt 103 3) rfl (og rfl (of_eff (s_field_pt rfl Try.underlying25 rfl ti22 rfl rfl rfl) rfl)) ?_
  refine dr_sto (nw := [(103, .bt 25 [.dv (.fl (.string p.name)), .dv (.fl (.int .i64 p.out)), .dv (.fl (.int .i64 p.inn)), .ow 27 4 (List.map eFil p.wait), .dv (.sl 5 (List.map eRec p.ours)), .dv (.sl 5 (List.map eRec p.theirs))]), (104, .no)]) rfl (og rfl (of_eff (op_store_bt rfl rfl ti22 rfl rfl rfl (.tr rfl) rfl rfl rfl) rfl)) ?_
  refine dr_put (d := 15) (v := .pt 103 4) rfl (og rfl (of_eff (s_field_pt rfl Try.underlying25 rfl ti23 rfl rfl rfl) rfl)) ?_
  refine dr_sto (nw := [(103, .bt 25 [.dv (.fl (.string p.name)), .dv (.fl (.int .i64 p.out)), .dv (.fl (.int .i64 p.inn)), .ow 27 4 (List.map eFil p.wait), .ow 48 5 (List.map eRec p.ours), .dv (.sl 5 (List.map eRec p.theirs))]), (105, .no)]) rfl (og rfl (of_eff (op_store_bt rfl rfl ti23 rfl rfl rfl (.tr rfl) rfl rfl rfl) rfl)) ?_
  refine dr_put (d := 16) (v := .pt 103 5) rfl (og rfl (of_eff (s_field_pt rfl Try.underlying25 rfl ti23 rfl rfl rfl) rfl)) ?_
  refine dr_sto (nw := [(103, .bt 25 [.dv (.fl (.string p.name)), .dv (.fl (.int .i64 p.out)), .dv (.fl (.int .i64 p.inn)), .ow 27 4 (List.map eFil p.wait), .ow 48 5 (List.map eRec p.ours), .ow 48 5 (List.map eRec p.theirs)]), (106, .no)]) rfl (og rfl (of_eff (op_store_bt rfl rfl ti23 rfl rfl rfl (.tr rfl) rfl rfl rfl) rfl)) ?_
  refine dr_done rfl (sepB_of [0, 1, 3, 0, 8, 31, 0, 64, 255, 7, 1023, 2047, 4095, 8191, 16383] (by kernel_rfl)) (by kernel_rfl) ?_
  refine a_rseq ?_
  refine rg_nam (d := 17) (v := .ow 107) (m := 107) (nw := [(107, .sv [.dv (.fl (.string p.name)), .dv (.fl (.int .i64 p.out)), .dv (.fl (.int .i64 p.inn)), .ow 27 4 (List.map eFil p.wait), .ow 48 5 (List.map eRec p.ours), .ow 48 5 (List.map eRec p.theirs)]), (103, .no)]) rfl (og rfl (of_eff (op_move_bt 107 rfl Try.underlying25 rfl ti25 rfl rfl rfl rfl) rfl)) rfl ?_
  refine rg_sto (nw := [(102, .bt 25 [.dv (.fl (.string p.name)), .dv (.fl (.int .i64 p.out)), .dv (.fl (.int .i64 p.inn)), .ow 27 4 (List.map eFil p.wait), .ow 48 5 (List.map eRec p.ours), .ow 48 5 (List.map eRec p.theirs)]), (107, .no)]) rfl (og rfl (of_eff (op_store_bt rfl rfl ti25 rfl rfl rfl (.sv rfl) rfl rfl rfl) rfl)) ?_
  refine rg_done rfl ?_
  refine a_ret ?_
  show ∃ rv, _ = #[rv] ∧ ResO _ _ rv _
  exact ⟨_, rfl, .cell rfl rfl Try.underlying25 rfl ti25 rfl⟩
def tkE (a b : ByteArray) (s t : Int) : Bool := sEq a b && (s == t)
end Go.Proofs.Ythfdopaefdmdiaa.Wk
