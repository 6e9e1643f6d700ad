/- The law of files that arrive. Condition: rows of machine length. -/
import Derived.Test.YthfdopaefdmdiaaAl7
import Derived.Test.YthfdopaefdmdiaaB3
set_option linter.unusedSimpArgs false
set_option linter.unusedVariables false
namespace Go.Proofs.Ythfdopaefdmdiaa.Wk
open Go Go.RowKit Go.Proofs.Ythfdopaefdmdiaa.Av
theorem eqI48 (a : Rec) (w : World) : (Op.equalIn 10000 48 (.agg (([.int .i64 a.kind, .string a.key, .int .i64 a.time, .int .i64 a.cents, .int .i64 a.why] : List Value).toArray)) (.agg (([.int .i64 a.kind, .string a.key, .int .i64 a.time, .int .i64 a.cents, .int .i64 a.why] : List Value).toArray))).run Try.prog w = .ok true w := by
  have hS : Try.prog.underlying 48 = some (.struct (Try.prog.fieldsOf 48)) := by kernel_rfl
  have hp : Try.prog.stoodInHeld 48 = false := by kernel_rfl
  rw [show (10000 : Nat) = 9999 + 1 from rfl, run_equalIn_agg w 9999 48 _ _ hS hp]
  simp only [Program.fieldsOf, Try.underlying48]
  go_simp

theorem neq48 (a : Rec) (x y : Operand) (w : World) : (do eqGuard .neq 48 x y (.agg (([.int .i64 a.kind, .string a.key, .int .i64 a.time, .int .i64 a.cents, .int .i64 a.why] : List Value).toArray)) (.agg (([.int .i64 a.kind, .string a.key, .int .i64 a.time, .int .i64 a.cents, .int .i64 a.why] : List Value).toArray)); binOp .neq 48 (.agg (([.int .i64 a.kind, .string a.key, .int .i64 a.time, .int .i64 a.cents, .int .i64 a.why] : List Value).toArray)) (.agg (([.int .i64 a.kind, .string a.key, .int .i64 a.time, .int .i64 a.cents, .int .i64 a.why] : List Value).toArray)) : Sem Value).run Try.prog w = .ok (.bool false) w := by
  have hm : Try.prog.eqGuardType Try.prog.depth 48 = false := by kernel_rfl
  rw [Sem.run_bind, run_eqGuard_agg w .neq 48 x y _ _ hm, Result.andThen_ok, run_neq_struct, eqI48]
  rfl

set_option maxHeartbeats 4000000 in
set_option maxRecDepth 100000 in
theorem sarC (l : List Rec) (hl : l.length ≤ 4000) : Ctr Try.prog 23 [.sl 5 (List.map eRec l), .sl 5 (List.map eRec l)] (.d (.fl (.bool (true)))) := by
  refine ctr (n := 26) (rs := #[.tmp 4]) (L := [(0, .d (.sl 5 (List.map eRec l))), (1, .d (.sl 5 (List.map eRec l)))]) Try.func23 rfl rfl rfl rfl rfl (fun w0 U0 => ?_)
  refine a_rseq ?_
  refine rg_put (d := 4) (v := .d (.fl (.bool false))) rfl (og rfl (op_assign rfl rfl rfl)) ?_
  refine rg_done rfl ?_
  refine a_seq ?_
  refine a_rseq ?_
  refine rg_put (d := 6) (v := .d (.sl 5 (List.map eRec l))) rfl (og rfl (op_move rfl rfl rfl)) ?_
  refine rg_put (d := 7) (v := .d (.fl (.int .i64 (l.length : Int)))) rfl (og rfl (s_len rfl Try.underlying23 rfl rfl)) ?_
  refine rg_put (d := 8) (v := .d (.sl 5 (List.map eRec l))) rfl (og rfl (op_move rfl rfl rfl)) ?_
  refine rg_put (d := 9) (v := .d (.fl (.int .i64 (l.length : Int)))) rfl (og rfl (s_len rfl Try.underlying23 rfl rfl)) ?_
  refine rg_put (d := 10) (v := .d (.fl (.bool (((l.length : Int) != (l.length : Int)))))) rfl (og rfl (op_bin rfl rfl rfl (b_neq _ _ _ _) rfl)) ?_
  refine rg_done rfl ?_
  refine a_condF rfl (ne_self_b _) ?_
  refine a_skip ?_
  show A _ _ _ _ _ _ _
  refine a_seq ?_
  refine a_rseq ?_
  refine rg_put (d := 5) (v := .d (.fl (.int .i64 0))) rfl (og rfl (op_assign rfl rfl rfl)) ?_
  refine rg_done rfl ?_
  refine a_block ?_
  refine a_loop (ι := Nat) (fun k => SS [(0, .d (.sl 5 (List.map eRec l))), (1, .d (.sl 5 (List.map eRec l))), (10, .d (.fl (.bool (((l.length : Int) != (l.length : Int)))))), (5, .d (.fl (.int .i64 (k : Int))))] []) (fun k => k ≤ l.length) (fun k => l.length - k) 0 (by omega) (imp_forget rfl ⟨rfl, rfl, rfl, (by first | rfl | exact ci (by omega) | exact ci (by simp) | exact cd (by simp) | simp), trivial⟩ trivial) (fun k hok => ?_)
  have hk := hok
  refine a_seq ?_
  refine a_rseq ?_
  refine rg_put (d := 11) (v := .d (.fl (.int .i64 (k : Int)))) rfl (og rfl (op_move rfl rfl rfl)) ?_
  refine rg_put (d := 12) (v := .d (.sl 5 (List.map eRec l))) rfl (og rfl (op_move rfl rfl rfl)) ?_
  refine rg_put (d := 13) (v := .d (.fl (.int .i64 (l.length : Int)))) rfl (og rfl (s_len rfl Try.underlying23 rfl rfl)) ?_
  refine rg_put (d := 14) (v := .d (.fl (.bool ((decide ((k : Int) < (l.length : Int))))))) rfl (og rfl (op_bin rfl rfl rfl (b_lss _ _ _ _) rfl)) ?_
  refine rg_done rfl ?_
  refine a_cond rfl (fun h1 => ?_) (fun h1 => ?_)
  · skip
    have h2 := t_dec h1
    refine a_skip ?_
    show A _ _ _ _ _ _ _
    refine a_seq ?_
    refine a_block ?_
    refine a_dseq (by kernel_rfl) ?_
    refine dr_put (d := 17) (v := .d (.sl 5 (List.map eRec l))) rfl (og rfl (op_move rfl rfl rfl)) ?_
    refine dr_put (d := 18) (v := .d (.fl (.int .i64 (k : Int)))) rfl (og rfl (op_move rfl rfl rfl)) ?_
    refine dr_put (d := 19) (v := .el ((eRec (ix l k)))) rfl (og rfl (s_index rfl Try.underlying23 ti48 rfl rfl (by omega) (row_at (by omega)) rfl)) ?_
    refine dr_put (d := 20) (v := .d (.ag (eRec (ix l k)))) rfl (og rfl (of_eff (s_load_els rfl Try.underlying48 rfl ti48 rfl rfl rfl) rfl)) ?_
    refine dr_put (d := 21) (v := .d (.sl 5 (List.map eRec l))) rfl (og rfl (op_move rfl rfl rfl)) ?_
    refine dr_put (d := 22) (v := .d (.fl (.int .i64 (k : Int)))) rfl (og rfl (op_move rfl rfl rfl)) ?_
    refine dr_put (d := 23) (v := .el ((eRec (ix l k)))) rfl (og rfl (s_index rfl Try.underlying23 ti48 rfl rfl (by omega) (row_at (by omega)) rfl)) ?_
    refine dr_put (d := 24) (v := .d (.ag (eRec (ix l k)))) rfl (og rfl (of_eff (s_load_els rfl Try.underlying48 rfl ti48 rfl rfl rfl) rfl)) ?_
    refine dr_put (d := 25) (v := .d (.fl (.bool false))) rfl (og rfl (op_eqS [.int .i64 ((ix l k).kind), .string ((ix l k).key), .int .i64 ((ix l k).time), .int .i64 ((ix l k).cents), .int .i64 ((ix l k).why)] [.int .i64 ((ix l k).kind), .string ((ix l k).key), .int .i64 ((ix l k).time), .int .i64 ((ix l k).cents), .int .i64 ((ix l k).why)] rfl rfl rfl (b := false) (fun ww => neq48 (ix l k) _ _ ww) rfl)) ?_
    refine dr_done rfl (by kernel_rfl) (by kernel_rfl) ?_
    refine a_condF rfl rfl ?_
    refine a_skip ?_
    show A _ _ _ _ _ _ _
    refine a_region ?_
    refine rg_put (d := 15) (v := .d (.fl (.int .i64 (k : Int)))) rfl (og rfl (op_move rfl rfl rfl)) ?_
    refine rg_put (d := 16) (v := .d (.fl (.int .i64 (((k : Int) + 1))))) rfl (og rfl (op_bin rfl rfl rfl (fun x y w => b_add64 _ _ _ x y w (by omega)) rfl)) ?_
    refine rg_put (d := 5) (v := .d (.fl (.int .i64 (((k : Int) + 1))))) rfl (og rfl (op_assign rfl rfl rfl)) ?_
    refine rg_done rfl ?_
    show ∃ i, _ ∧ _ ∧ Imp _ _ _ _ _
    refine ⟨k + 1, (by omega), by omega, imp_forget rfl ⟨rfl, rfl, rfl, (by first | rfl | exact ci (by omega) | exact ci (by simp) | exact cd (by simp) | simp), trivial⟩ trivial⟩
  · skip
    have h3 := f_dec h1
    refine a_exit ?_
    show A _ _ _ _ _ _ _
    refine a_rseq ?_
    refine rg_put (d := 4) (v := .d (.fl (.bool true))) rfl (og rfl (op_assign rfl rfl rfl)) ?_
    refine rg_done rfl ?_
    refine a_ret ?_
    show ∃ ds, ResL _ _ _ ds ∧ RV.of ds = _
    refine ⟨[.fl (.bool true)], (.cons (.tmp rfl (.d _)) .nil), ?_⟩
    rfl
set_option maxHeartbeats 4000000 in
set_option maxRecDepth 100000 in
theorem safC (l : List Fil) (hl : l.length ≤ 1000) (hz : ∀ x ∈ l, x.recs.length ≤ 1100) : Ctr Try.prog 15 [.sl 4 (List.map eFil l), .sl 4 (List.map eFil l)] (.d (.fl (.bool (true)))) := by
  refine ctr (n := 68) (rs := #[.tmp 4]) (L := [(0, .d (.sl 4 (List.map eFil l))), (1, .d (.sl 4 (List.map eFil l)))]) Try.func15 rfl rfl rfl rfl rfl (fun w0 U0 => ?_)
  refine a_rseq ?_
  refine rg_put (d := 4) (v := .d (.fl (.bool false))) rfl (og rfl (op_assign rfl rfl rfl)) ?_
  refine rg_done rfl ?_
  refine a_seq ?_
  refine a_rseq ?_
  refine rg_put (d := 6) (v := .d (.sl 4 (List.map eFil l))) rfl (og rfl (op_move rfl rfl rfl)) ?_
  refine rg_put (d := 7) (v := .d (.fl (.int .i64 (l.length : Int)))) rfl (og rfl (s_len rfl Try.underlying22 rfl rfl)) ?_
  refine rg_put (d := 8) (v := .d (.sl 4 (List.map eFil l))) rfl (og rfl (op_move rfl rfl rfl)) ?_
  refine rg_put (d := 9) (v := .d (.fl (.int .i64 (l.length : Int)))) rfl (og rfl (s_len rfl Try.underlying22 rfl rfl)) ?_
  refine rg_put (d := 10) (v := .d (.fl (.bool (((l.length : Int) != (l.length : Int)))))) rfl (og rfl (op_bin rfl rfl rfl (b_neq _ _ _ _) rfl)) ?_
  refine rg_done rfl ?_
  refine a_condF rfl (bne_self_eq_false _) ?_
  refine a_skip ?_
  show A _ _ _ _ _ _ _
  refine a_seq ?_
  refine a_rseq ?_
  refine rg_put (d := 5) (v := .d (.fl (.int .i64 0))) rfl (og rfl (op_assign rfl rfl rfl)) ?_
  refine rg_done rfl ?_
  refine a_block ?_
  refine a_loop (ι := Nat) (fun k => SS [(0, .d (.sl 4 (List.map eFil l))), (1, .d (.sl 4 (List.map eFil l))), (10, .d (.fl (.bool (((l.length : Int) != (l.length : Int)))))), (5, .d (.fl (.int .i64 (k : Int))))] []) (fun k => k ≤ l.length) (fun k => l.length - k) 0 (by omega) (imp_forget rfl ⟨rfl, rfl, rfl, (by first | rfl | exact ci (by omega) | exact ci (by simp) | exact cd (by simp) | simp), trivial⟩ trivial) (fun k hok => ?_)
  have hk := hok
  refine a_seq ?_
  refine a_rseq ?_
  refine rg_put (d := 11) (v := .d (.fl (.int .i64 (k : Int)))) rfl (og rfl (op_move rfl rfl rfl)) ?_
  refine rg_put (d := 12) (v := .d (.sl 4 (List.map eFil l))) rfl (og rfl (op_move rfl rfl rfl)) ?_
  refine rg_put (d := 13) (v := .d (.fl (.int .i64 (l.length : Int)))) rfl (og rfl (s_len rfl Try.underlying22 rfl rfl)) ?_
  refine rg_put (d := 14) (v := .d (.fl (.bool ((decide ((k : Int) < (l.length : Int))))))) rfl (og rfl (op_bin rfl rfl rfl (b_lss _ _ _ _) rfl)) ?_
  refine rg_done rfl ?_
  refine a_cond rfl (fun h1 => ?_) (fun h1 => ?_)
  · skip
    have h2 := t_dec h1
    refine a_skip ?_
    show A _ _ _ _ _ _ _
    refine a_seq ?_
    refine a_block ?_
    refine a_dseq (by kernel_rfl) ?_
    refine dr_put (d := 17) (v := .d (.sl 4 (List.map eFil l))) rfl (og rfl (op_move rfl rfl rfl)) ?_
    refine dr_put (d := 18) (v := .d (.fl (.int .i64 (k : Int)))) rfl (og rfl (op_move rfl rfl rfl)) ?_
    refine dr_put (d := 19) (v := .el ((eFil (ix l k)))) rfl (og rfl (s_index rfl Try.underlying22 ti27 rfl rfl (by omega) (row_at (by omega)) rfl)) ?_
    refine dr_put (d := 20) (v := .el ((List.drop 0 ((eFil (ix l k)))))) rfl (og rfl (of_eff (s_field_el rfl Try.underlying27 rfl ti9 rfl rfl rfl) rfl)) ?_
    refine dr_put (d := 21) (v := .d (.fl (.string ((ix l k).fr)))) rfl (og rfl (op_load_el rfl Try.underlying9 rfl rfl rfl rfl)) ?_
    refine dr_put (d := 22) (v := .d (.sl 4 (List.map eFil l))) rfl (og rfl (op_move rfl rfl rfl)) ?_
    refine dr_put (d := 23) (v := .d (.fl (.int .i64 (k : Int)))) rfl (og rfl (op_move rfl rfl rfl)) ?_
    refine dr_put (d := 24) (v := .el ((eFil (ix l k)))) rfl (og rfl (s_index rfl Try.underlying22 ti27 rfl rfl (by omega) (row_at (by omega)) rfl)) ?_
    refine dr_put (d := 25) (v := .el ((List.drop 0 ((eFil (ix l k)))))) rfl (og rfl (of_eff (s_field_el rfl Try.underlying27 rfl ti9 rfl rfl rfl) rfl)) ?_
    refine dr_put (d := 26) (v := .d (.fl (.string ((ix l k).fr)))) rfl (og rfl (op_load_el rfl Try.underlying9 rfl rfl rfl rfl)) ?_
    refine dr_put (d := 27) (v := .d (.fl (.bool ((!(sEq ((ix l k).fr) ((ix l k).fr))))))) rfl (og rfl (op_bin rfl rfl rfl (b_sne _ _ _) rfl)) ?_
    refine dr_put (d := 28) (v := .d (.fl (.bool ((!(sEq ((ix l k).fr) ((ix l k).fr))))))) rfl (og rfl (op_move rfl rfl rfl)) ?_
    refine dr_put (d := 29) (v := .d (.sl 4 (List.map eFil l))) rfl (oy rfl rfl rfl (not_f (eq_self_s _)) (op_move rfl rfl rfl)) ?_
    refine dr_put (d := 30) (v := .d (.fl (.int .i64 (k : Int)))) rfl (oy rfl rfl rfl (not_f (eq_self_s _)) (op_move rfl rfl rfl)) ?_
    refine dr_put (d := 31) (v := .el ((eFil (ix l k)))) rfl (oy rfl rfl rfl (not_f (eq_self_s _)) (s_index rfl Try.underlying22 ti27 rfl rfl (by omega) (row_at (by omega)) rfl)) ?_
    refine dr_put (d := 32) (v := .el ((List.drop 1 ((eFil (ix l k)))))) rfl (oy rfl rfl rfl (not_f (eq_self_s _)) (of_eff (s_field_el rfl Try.underlying27 rfl ti9 rfl rfl rfl) rfl)) ?_
    refine dr_put (d := 33) (v := .d (.fl (.string ((ix l k).to)))) rfl (oy rfl rfl rfl (not_f (eq_self_s _)) (op_load_el rfl Try.underlying9 rfl rfl rfl rfl)) ?_
    refine dr_put (d := 34) (v := .d (.sl 4 (List.map eFil l))) rfl (oy rfl rfl rfl (not_f (eq_self_s _)) (op_move rfl rfl rfl)) ?_
    refine dr_put (d := 35) (v := .d (.fl (.int .i64 (k : Int)))) rfl (oy rfl rfl rfl (not_f (eq_self_s _)) (op_move rfl rfl rfl)) ?_
    refine dr_put (d := 36) (v := .el ((eFil (ix l k)))) rfl (oy rfl rfl rfl (not_f (eq_self_s _)) (s_index rfl Try.underlying22 ti27 rfl rfl (by omega) (row_at (by omega)) rfl)) ?_
    refine dr_put (d := 37) (v := .el ((List.drop 1 ((eFil (ix l k)))))) rfl (oy rfl rfl rfl (not_f (eq_self_s _)) (of_eff (s_field_el rfl Try.underlying27 rfl ti9 rfl rfl rfl) rfl)) ?_
    refine dr_put (d := 38) (v := .d (.fl (.string ((ix l k).to)))) rfl (oy rfl rfl rfl (not_f (eq_self_s _)) (op_load_el rfl Try.underlying9 rfl rfl rfl rfl)) ?_
    refine dr_put (d := 39) (v := .d (.fl (.bool ((!(sEq ((ix l k).to) ((ix l k).to))))))) rfl (oy rfl rfl rfl (not_f (eq_self_s _)) (op_bin rfl rfl rfl (b_sne _ _ _) rfl)) ?_
    refine dr_put (d := 40) (v := .d (.fl (.bool ((!(sEq ((ix l k).to) ((ix l k).to))))))) rfl (og rfl (op_pick rfl rfl (by rw [(not_f (eq_self_s _))]; rfl) rfl)) ?_
    refine dr_put (d := 41) (v := .d (.fl (.bool ((!(sEq ((ix l k).to) ((ix l k).to))))))) rfl (og rfl (op_move rfl rfl rfl)) ?_
    refine dr_put (d := 42) (v := .d (.sl 4 (List.map eFil l))) rfl (oy rfl rfl rfl (not_f (eq_self_s _)) (op_move rfl rfl rfl)) ?_
    refine dr_put (d := 43) (v := .d (.fl (.int .i64 (k : Int)))) rfl (oy rfl rfl rfl (not_f (eq_self_s _)) (op_move rfl rfl rfl)) ?_
    refine dr_put (d := 44) (v := .el ((eFil (ix l k)))) rfl (oy rfl rfl rfl (not_f (eq_self_s _)) (s_index rfl Try.underlying22 ti27 rfl rfl (by omega) (row_at (by omega)) rfl)) ?_
    refine dr_put (d := 45) (v := .el ((List.drop 2 ((eFil (ix l k)))))) rfl (oy rfl rfl rfl (not_f (eq_self_s _)) (of_eff (s_field_el rfl Try.underlying27 rfl ti3 rfl rfl rfl) rfl)) ?_
    refine dr_put (d := 46) (v := .d (.fl (.int .i64 ((ix l k).seq)))) rfl (oy rfl rfl rfl (not_f (eq_self_s _)) (op_load_el rfl Try.underlying3 rfl rfl rfl rfl)) ?_
    refine dr_put (d := 47) (v := .d (.sl 4 (List.map eFil l))) rfl (oy rfl rfl rfl (not_f (eq_self_s _)) (op_move rfl rfl rfl)) ?_
    refine dr_put (d := 48) (v := .d (.fl (.int .i64 (k : Int)))) rfl (oy rfl rfl rfl (not_f (eq_self_s _)) (op_move rfl rfl rfl)) ?_
    refine dr_put (d := 49) (v := .el ((eFil (ix l k)))) rfl (oy rfl rfl rfl (not_f (eq_self_s _)) (s_index rfl Try.underlying22 ti27 rfl rfl (by omega) (row_at (by omega)) rfl)) ?_
    refine dr_put (d := 50) (v := .el ((List.drop 2 ((eFil (ix l k)))))) rfl (oy rfl rfl rfl (not_f (eq_self_s _)) (of_eff (s_field_el rfl Try.underlying27 rfl ti3 rfl rfl rfl) rfl)) ?_
    refine dr_put (d := 51) (v := .d (.fl (.int .i64 ((ix l k).seq)))) rfl (oy rfl rfl rfl (not_f (eq_self_s _)) (op_load_el rfl Try.underlying3 rfl rfl rfl rfl)) ?_
    refine dr_put (d := 52) (v := .d (.fl (.bool (((ix l k).seq != (ix l k).seq))))) rfl (oy rfl rfl rfl (not_f (eq_self_s _)) (op_bin rfl rfl rfl (b_neq _ _ _ _) rfl)) ?_
    refine dr_put (d := 53) (v := .d (.fl (.bool (((ix l k).seq != (ix l k).seq))))) rfl (og rfl (op_pick rfl rfl (by rw [(not_f (eq_self_s _))]; rfl) rfl)) ?_
    refine dr_put (d := 54) (v := .d (.fl (.bool (((ix l k).seq != (ix l k).seq))))) rfl (og rfl (op_move rfl rfl rfl)) ?_
    refine dr_put (d := 55) (v := .d (.sl 4 (List.map eFil l))) rfl (oy rfl rfl rfl (bne_self_eq_false _) (op_move rfl rfl rfl)) ?_
    refine dr_put (d := 56) (v := .d (.fl (.int .i64 (k : Int)))) rfl (oy rfl rfl rfl (bne_self_eq_false _) (op_move rfl rfl rfl)) ?_
    refine dr_put (d := 57) (v := .el ((eFil (ix l k)))) rfl (oy rfl rfl rfl (bne_self_eq_false _) (s_index rfl Try.underlying22 ti27 rfl rfl (by omega) (row_at (by omega)) rfl)) ?_
    refine dr_put (d := 58) (v := .el ((List.drop 3 ((eFil (ix l k)))))) rfl (oy rfl rfl rfl (bne_self_eq_false _) (of_eff (s_field_el rfl Try.underlying27 rfl ti23 rfl rfl rfl) rfl)) ?_
    refine dr_put (d := 59) (v := .d (.sl 5 (List.map eRec ((ix l k).recs)))) rfl (oy rfl rfl rfl (bne_self_eq_false _) (op_load_el rfl Try.underlying23 rfl rfl rfl rfl)) ?_
    refine dr_put (d := 60) (v := .d (.sl 4 (List.map eFil l))) rfl (oy rfl rfl rfl (bne_self_eq_false _) (op_move rfl rfl rfl)) ?_
    refine dr_put (d := 61) (v := .d (.fl (.int .i64 (k : Int)))) rfl (oy rfl rfl rfl (bne_self_eq_false _) (op_move rfl rfl rfl)) ?_
    refine dr_put (d := 62) (v := .el ((eFil (ix l k)))) rfl (oy rfl rfl rfl (bne_self_eq_false _) (s_index rfl Try.underlying22 ti27 rfl rfl (by omega) (row_at (by omega)) rfl)) ?_
    refine dr_put (d := 63) (v := .el ((List.drop 3 ((eFil (ix l k)))))) rfl (oy rfl rfl rfl (bne_self_eq_false _) (of_eff (s_field_el rfl Try.underlying27 rfl ti23 rfl rfl rfl) rfl)) ?_
    refine dr_put (d := 64) (v := .d (.sl 5 (List.map eRec ((ix l k).recs)))) rfl (oy rfl rfl rfl (bne_self_eq_false _) (op_load_el rfl Try.underlying23 rfl rfl rfl rfl)) ?_
    refine dr_put (d := 65) (v := .d (.fl (.bool true))) rfl (oy rfl rfl rfl (bne_self_eq_false _) (op_call rfl Try.func23 nm23 rfl (.cons rfl (.d _) (.cons rfl (.d _) .nil)) (sarC ((ix l k).recs) (by have := hz _ (ix_mem (by omega : k < l.length)); omega)) rfl)) ?_
    refine dr_put (d := 66) (v := .d (.fl (.bool (!true)))) rfl (oy rfl rfl rfl (bne_self_eq_false _) (op_un rfl rfl (u_not _) rfl)) ?_
    refine dr_put (d := 67) (v := .d (.fl (.bool (!true)))) rfl (og rfl (op_pick rfl rfl (by rw [(bne_self_eq_false _)]; rfl) rfl)) ?_
    refine dr_done rfl (sepB_of [0, 0, 3, 7, 15, 0, 0, 96, 224, 480, 1023, 2047, 4095, 4095, 16383, 32767, 65535, 4095, 4095, 397311, 921599, 1970175, 4194303, 8388607, 16777215, 33554431, 33554431, 134217727, 268435455, 536870911, 33554431, 33554431, 3254779903, 7549747199, 16139681791, 34359738367, 68719476735, 137438953471, 274877906943, 274877906943, 1099511627775, 2199023255551, 4398046511103, 274877906943, 274877906943, 26663156973567, 61847529062399, 132216273240063, 281474976710655, 562949953421311, 1125899906842623] (by kernel_rfl)) (by kernel_rfl) ?_
    refine a_condF rfl rfl ?_
    refine a_skip ?_
    show A _ _ _ _ _ _ _
    refine a_region ?_
    refine rg_put (d := 15) (v := .d (.fl (.int .i64 (k : Int)))) rfl (og rfl (op_move rfl rfl rfl)) ?_
    refine rg_put (d := 16) (v := .d (.fl (.int .i64 (((k : Int) + 1))))) rfl (og rfl (op_bin rfl rfl rfl (fun x y w => b_add64 _ _ _ x y w (by omega)) rfl)) ?_
    refine rg_put (d := 5) (v := .d (.fl (.int .i64 (((k : Int) + 1))))) rfl (og rfl (op_assign rfl rfl rfl)) ?_
    refine rg_done rfl ?_
    show ∃ i, _ ∧ _ ∧ Imp _ _ _ _ _
    refine ⟨k + 1, (by omega), by omega, imp_forget rfl ⟨rfl, rfl, rfl, (by first | rfl | exact ci (by omega) | exact ci (by simp) | exact cd (by simp) | simp), trivial⟩ trivial⟩
  · skip
    have h3 := f_dec h1
    refine a_exit ?_
    show A _ _ _ _ _ _ _
    refine a_rseq ?_
    refine rg_put (d := 4) (v := .d (.fl (.bool true))) rfl (og rfl (op_assign rfl rfl rfl)) ?_
    refine rg_done rfl ?_
    refine a_ret ?_
    show ∃ ds, ResL _ _ _ ds ∧ RV.of ds = _
    refine ⟨[.fl (.bool true)], (.cons (.tmp rfl (.d _)) .nil), ?_⟩
    rfl
structure okQ (p : Ptn) : Prop where
  o : p.ours.length ≤ 3000
  t : p.theirs.length ≤ 3000
  w : p.wait.length ≤ 50
  r : ∀ x ∈ p.wait, x.recs.length ≤ 1100

set_option maxHeartbeats 4000000 in
set_option maxRecDepth 100000 in
theorem sapC (p : Ptn) (hp : okQ p) : Ctr Try.prog 10 [.ag (ePt p), .ag (ePt p)] (.d (.fl (.bool (true)))) := by
  refine ctr (n := 45) (rs := #[.tmp 4]) (L := [(0, .d (.ag (ePt p))), (1, .d (.ag (ePt p)))]) Try.func10 rfl rfl rfl rfl rfl (fun w0 U0 => ?_)
  refine a_rseq ?_
  refine rg_nam (d := 2) (v := .pt 101 0) (m := 101) (nw := [(101, .bx 25 (ePt p))]) rfl (og rfl (of_eff (op_box 101 rfl rfl rfl rfl) rfl)) rfl ?_
  refine rg_nam (d := 3) (v := .pt 102 0) (m := 102) (nw := [(102, .bx 25 (ePt p))]) rfl (og rfl (of_eff (op_box 102 rfl rfl rfl rfl) rfl)) rfl ?_
  refine rg_put (d := 4) (v := .d (.fl (.bool false))) rfl (og rfl (op_assign rfl rfl rfl)) ?_
  refine rg_done rfl ?_
  refine a_rseq ?_
  refine rg_put (d := 5) (v := .pt 101 0) rfl (og rfl (of_eff (s_field_pt rfl Try.underlying25 rfl ti9 rfl rfl rfl) rfl)) ?_
  refine rg_put (d := 6) (v := .d (.fl (.string p.name))) rfl (og rfl (op_load_pt rfl Try.underlying9 rfl rfl rfl rfl rfl)) ?_
  refine rg_put (d := 7) (v := .pt 102 0) rfl (og rfl (of_eff (s_field_pt rfl Try.underlying25 rfl ti9 rfl rfl rfl) rfl)) ?_
  refine rg_put (d := 8) (v := .d (.fl (.string p.name))) rfl (og rfl (op_load_pt rfl Try.underlying9 rfl rfl rfl rfl rfl)) ?_
  refine rg_put (d := 9) (v := .d (.fl (.bool (sEq p.name p.name)))) rfl (og rfl (op_bin rfl rfl rfl (b_seq _ _ _) rfl)) ?_
  refine rg_put (d := 10) (v := .d (.fl (.bool (sEq p.name p.name)))) rfl (og rfl (op_move rfl rfl rfl)) ?_
  refine rg_put (d := 11) (v := .pt 101 1) rfl (oy rfl rfl rfl (eq_self_s _) (of_eff (s_field_pt rfl Try.underlying25 rfl ti3 rfl rfl rfl) rfl)) ?_
  refine rg_put (d := 12) (v := .d (.fl (.int .i64 p.out))) rfl (oy rfl rfl rfl (eq_self_s _) (op_load_pt rfl Try.underlying3 rfl rfl rfl rfl rfl)) ?_
  refine rg_put (d := 13) (v := .pt 102 1) rfl (oy rfl rfl rfl (eq_self_s _) (of_eff (s_field_pt rfl Try.underlying25 rfl ti3 rfl rfl rfl) rfl)) ?_
  refine rg_put (d := 14) (v := .d (.fl (.int .i64 p.out))) rfl (oy rfl rfl rfl (eq_self_s _) (op_load_pt rfl Try.underlying3 rfl rfl rfl rfl rfl)) ?_
  refine rg_put (d := 15) (v := .d (.fl (.bool (p.out == p.out)))) rfl (oy rfl rfl rfl (eq_self_s _) (op_bin rfl rfl rfl (b_eql _ _ _ _) rfl)) ?_
  refine rg_put (d := 16) (v := .d (.fl (.bool (p.out == p.out)))) rfl (og rfl (op_pick rfl rfl (by rw [(eq_self_s _)]; rfl) rfl)) ?_
  refine rg_put (d := 17) (v := .d (.fl (.bool (p.out == p.out)))) rfl (og rfl (op_move rfl rfl rfl)) ?_
  refine rg_put (d := 18) (v := .pt 101 2) rfl (oy rfl rfl rfl (beq_self_eq_true _) (of_eff (s_field_pt rfl Try.underlying25 rfl ti3 rfl rfl rfl) rfl)) ?_
  refine rg_put (d := 19) (v := .d (.fl (.int .i64 p.inn))) rfl (oy rfl rfl rfl (beq_self_eq_true _) (op_load_pt rfl Try.underlying3 rfl rfl rfl rfl rfl)) ?_
  refine rg_put (d := 20) (v := .pt 102 2) rfl (oy rfl rfl rfl (beq_self_eq_true _) (of_eff (s_field_pt rfl Try.underlying25 rfl ti3 rfl rfl rfl) rfl)) ?_
  refine rg_put (d := 21) (v := .d (.fl (.int .i64 p.inn))) rfl (oy rfl rfl rfl (beq_self_eq_true _) (op_load_pt rfl Try.underlying3 rfl rfl rfl rfl rfl)) ?_
  refine rg_put (d := 22) (v := .d (.fl (.bool (p.inn == p.inn)))) rfl (oy rfl rfl rfl (beq_self_eq_true _) (op_bin rfl rfl rfl (b_eql _ _ _ _) rfl)) ?_
  refine rg_put (d := 23) (v := .d (.fl (.bool (p.inn == p.inn)))) rfl (og rfl (op_pick rfl rfl (by rw [(beq_self_eq_true _)]; rfl) rfl)) ?_
  refine rg_put (d := 24) (v := .d (.fl (.bool (p.inn == p.inn)))) rfl (og rfl (op_move rfl rfl rfl)) ?_
  refine rg_put (d := 25) (v := .pt 101 3) rfl (oy rfl rfl rfl (beq_self_eq_true _) (of_eff (s_field_pt rfl Try.underlying25 rfl ti22 rfl rfl rfl) rfl)) ?_
  refine rg_put (d := 26) (v := .d (.sl 4 (List.map eFil p.wait))) rfl (oy rfl rfl rfl (beq_self_eq_true _) (op_load_pt rfl Try.underlying22 rfl rfl rfl rfl rfl)) ?_
  refine rg_put (d := 27) (v := .pt 102 3) rfl (oy rfl rfl rfl (beq_self_eq_true _) (of_eff (s_field_pt rfl Try.underlying25 rfl ti22 rfl rfl rfl) rfl)) ?_
  refine rg_put (d := 28) (v := .d (.sl 4 (List.map eFil p.wait))) rfl (oy rfl rfl rfl (beq_self_eq_true _) (op_load_pt rfl Try.underlying22 rfl rfl rfl rfl rfl)) ?_
  refine rg_put (d := 29) (v := .d (.fl (.bool true))) rfl (oy rfl rfl rfl (beq_self_eq_true _) (op_call rfl Try.func15 nm15 rfl (.cons rfl (.d _) (.cons rfl (.d _) .nil)) (safC p.wait (by have := hp.w; omega) hp.r) rfl)) ?_
  refine rg_put (d := 30) (v := .d (.fl (.bool true))) rfl (og rfl (op_pick rfl rfl (by rw [(beq_self_eq_true _)]; rfl) rfl)) ?_
  refine rg_put (d := 31) (v := .d (.fl (.bool true))) rfl (og rfl (op_move rfl rfl rfl)) ?_
  refine rg_put (d := 32) (v := .pt 101 4) rfl (oy rfl rfl rfl rfl (of_eff (s_field_pt rfl Try.underlying25 rfl ti23 rfl rfl rfl) rfl)) ?_
  refine rg_put (d := 33) (v := .d (.sl 5 (List.map eRec p.ours))) rfl (oy rfl rfl rfl rfl (op_load_pt rfl Try.underlying23 rfl rfl rfl rfl rfl)) ?_
  refine rg_put (d := 34) (v := .pt 102 4) rfl (oy rfl rfl rfl rfl (of_eff (s_field_pt rfl Try.underlying25 rfl ti23 rfl rfl rfl) rfl)) ?_
  refine rg_put (d := 35) (v := .d (.sl 5 (List.map eRec p.ours))) rfl (oy rfl rfl rfl rfl (op_load_pt rfl Try.underlying23 rfl rfl rfl rfl rfl)) ?_
  refine rg_put (d := 36) (v := .d (.fl (.bool true))) rfl (oy rfl rfl rfl rfl (op_call rfl Try.func23 nm23 rfl (.cons rfl (.d _) (.cons rfl (.d _) .nil)) (sarC p.ours (by have := hp.o; have := hp.t; omega)) rfl)) ?_
  refine rg_put (d := 37) (v := .d (.fl (.bool true))) rfl (og rfl (op_pick rfl rfl rfl rfl)) ?_
  refine rg_put (d := 38) (v := .d (.fl (.bool true))) rfl (og rfl (op_move rfl rfl rfl)) ?_
  refine rg_put (d := 39) (v := .pt 101 5) rfl (oy rfl rfl rfl rfl (of_eff (s_field_pt rfl Try.underlying25 rfl ti23 rfl rfl rfl) rfl)) ?_
  refine rg_put (d := 40) (v := .d (.sl 5 (List.map eRec p.theirs))) rfl (oy rfl rfl rfl rfl (op_load_pt rfl Try.underlying23 rfl rfl rfl rfl rfl)) ?_
  refine rg_put (d := 41) (v := .pt 102 5) rfl (oy rfl rfl rfl rfl (of_eff (s_field_pt rfl Try.underlying25 rfl ti23 rfl rfl rfl) rfl)) ?_
  refine rg_put (d := 42) (v := .d (.sl 5 (List.map eRec p.theirs))) rfl (oy rfl rfl rfl rfl (op_load_pt rfl Try.underlying23 rfl rfl rfl rfl rfl)) ?_
  refine rg_put (d := 43) (v := .d (.fl (.bool true))) rfl (oy rfl rfl rfl rfl (op_call rfl Try.func23 nm23 rfl (.cons rfl (.d _) (.cons rfl (.d _) .nil)) (sarC p.theirs (by have := hp.o; have := hp.t; omega)) rfl)) ?_
  refine rg_put (d := 44) (v := .d (.fl (.bool true))) rfl (og rfl (op_pick rfl rfl rfl rfl)) ?_
  refine rg_put (d := 4) (v := .d (.fl (.bool true))) rfl (og rfl (op_assign rfl rfl rfl)) ?_
  refine rg_done rfl ?_
  refine a_ret ?_
  show ∃ ds, ResL _ _ _ ds ∧ RV.of ds = _
  refine ⟨[.fl (.bool true)], (.cons (.tmp rfl (.d _)) .nil), ?_⟩
  rfl
set_option maxHeartbeats 4000000 in
set_option maxRecDepth 100000 in
theorem hvC (l : List Rec) : Ctr Try.prog 6 [.sl 5 (List.map eRec l)] (.d (.fl (.bool (hvB l)))) := by
  refine ctr (n := 19) (rs := #[.tmp 2]) (L := [(0, .d (.sl 5 (List.map eRec l)))]) Try.func6 rfl rfl rfl rfl rfl (fun w0 U0 => ?_)
  refine a_rseq ?_
  refine rg_put (d := 2) (v := .d (.fl (.bool false))) rfl (og rfl (op_assign rfl rfl rfl)) ?_
  refine rg_done rfl ?_
  refine a_seq ?_
  refine a_rseq ?_
  refine rg_put (d := 5) (v := .d (.sl 5 (List.map eRec l))) rfl (og rfl (op_move rfl rfl rfl)) ?_
  refine rg_put (d := 6) (v := .d (.fl (.int .i64 (l.length : Int)))) rfl (og rfl (s_len rfl Try.underlying23 rfl rfl)) ?_
  refine rg_put (d := 7) (v := .d (.fl (.bool ((decide (1100 < (l.length : Int))))))) rfl (og rfl (op_bin rfl rfl rfl (b_gtr _ _ _ _) rfl)) ?_
  refine rg_done rfl ?_
  refine a_cond rfl (fun h1 => ?_) (fun h1 => ?_)
  · skip
    have h2 := t_dec h1
    refine a_rseq ?_
    refine rg_put (d := 2) (v := .d (.fl (.bool true))) rfl (og rfl (op_assign rfl rfl rfl)) ?_
    refine rg_done rfl ?_
    refine a_ret ?_
    show ∃ ds, ResL _ _ _ ds ∧ RV.of ds = _
    refine ⟨[.fl (.bool true)], (.cons (.tmp rfl (.d _)) .nil), ?_⟩
    rw [show hvB l = true from by unfold hvB; rw [h1]; rfl]; rfl
  · skip
    have h3 := f_dec h1
    refine a_skip ?_
    show A _ _ _ _ _ _ _
    refine a_seq ?_
    refine a_rseq ?_
    refine rg_put (d := 8) (v := .d (.sl 5 (List.map eRec l))) rfl (og rfl (op_move rfl rfl rfl)) ?_
    refine rg_put (d := 9) (v := .d (.fl (.int .i64 (l.length : Int)))) rfl (og rfl (s_len rfl Try.underlying23 rfl rfl)) ?_
    refine rg_put (d := 10) (v := .d (.fl (.int .i64 0))) rfl (og rfl (op_move rfl rfl rfl)) ?_
    refine rg_done rfl ?_
    refine a_block ?_
    refine a_loop (ι := Nat) (fun k => SS [(0, .d (.sl 5 (List.map eRec l))), (7, .d (.fl (.bool ((decide (1100 < (l.length : Int))))))), (8, .d (.sl 5 (List.map eRec l))), (9, .d (.fl (.int .i64 (l.length : Int)))), (10, .d (.fl (.int .i64 (k : Int))))] []) (fun k => k ≤ l.length ∧ ∀ q, q < k → (decide (300 < ((ix l q).key.size : Int))) = false) (fun k => l.length - k) 0 (⟨by omega, fun q h => by omega⟩) (imp_forget rfl ⟨rfl, rfl, rfl, rfl, (by first | rfl | exact ci (by omega) | exact ci (by simp) | exact cd (by simp) | simp), trivial⟩ trivial) (fun k hok => ?_)
    obtain ⟨hkk, hq⟩ := hok
    refine a_rseq ?_
    refine rg_put (d := 11) (v := .d (.fl (.bool ((decide ((k : Int) < (l.length : Int))))))) rfl (og rfl (op_bin rfl rfl rfl (b_lss _ _ _ _) rfl)) ?_
    refine rg_done rfl ?_
    refine a_seq ?_
    refine a_cond rfl (fun h4 => ?_) (fun h4 => ?_)
    · skip
      have h5 := t_dec h4
      refine a_skip ?_
      show A _ _ _ _ _ _ _
      refine a_seq ?_
      refine a_block ?_
      refine a_rseq ?_
      refine rg_put (d := 12) (v := .el ((eRec (ix l k)))) rfl (og rfl (s_index rfl Try.underlying23 ti48 rfl rfl (by omega) (row_at (by omega)) rfl)) ?_
      refine rg_put (d := 13) (v := .d (.ag (eRec (ix l k)))) rfl (og rfl (of_eff (s_load_els rfl Try.underlying48 rfl ti48 rfl rfl rfl) rfl)) ?_
      refine rg_nam (d := 4) (v := .pt 101 0) (m := 101) (nw := [(101, .bx 48 ([.fl (.int .i64 0), .fl (.string (⟨#[]⟩)), .fl (.int .i64 0), .fl (.int .i64 0), .fl (.int .i64 0)]))]) rfl (og rfl (of_eff (s_alloc 101 rfl ti48 (by kernel_rfl) rfl) rfl)) rfl ?_
      refine rg_sto (nw := [(101, .bx 48 ((eRec (ix l k))))]) rfl (og rfl (of_eff (s_store rfl rfl ti48 rfl rfl rfl rfl rfl rfl) rfl)) ?_
      refine rg_done rfl ?_
      refine a_rseq ?_
      refine rg_put (d := 14) (v := .pt 101 1) rfl (og rfl (of_eff (s_field_pt rfl Try.underlying48 rfl ti9 rfl rfl rfl) rfl)) ?_
      refine rg_put (d := 15) (v := .d (.fl (.string ((ix l k).key)))) rfl (og rfl (op_load_pt rfl Try.underlying9 rfl rfl rfl rfl rfl)) ?_
      refine rg_put (d := 16) (v := .d (.fl (.int .i64 ((((ix l k).key).size : Int))))) rfl (og rfl (op_len_str rfl Try.underlying9 rfl rfl)) ?_
      refine rg_put (d := 17) (v := .d (.fl (.bool ((decide (300 < (((ix l k).key).size : Int))))))) rfl (og rfl (op_bin rfl rfl rfl (b_gtr _ _ _ _) rfl)) ?_
      refine rg_done rfl ?_
      refine a_cond rfl (fun h6 => ?_) (fun h6 => ?_)
      · skip
        have h7 := t_dec h6
        refine a_rseq ?_
        refine rg_put (d := 2) (v := .d (.fl (.bool true))) rfl (og rfl (op_assign rfl rfl rfl)) ?_
        refine rg_done rfl ?_
        refine a_ret ?_
        show ∃ ds, ResL _ _ _ ds ∧ RV.of ds = _
        refine ⟨[.fl (.bool true)], (.cons (.tmp rfl (.d _)) .nil), ?_⟩
        rw [show hvB l = true from by unfold hvB; rw [any_at (p := fun x : Rec => decide (300 < (x.key.size : Int))) (by omega) h6]; simp]; rfl
      · skip
        have h8 := f_dec h6
        refine a_skip ?_
        show A _ _ _ _ _ _ _
        refine a_region ?_
        refine rg_put (d := 18) (v := .d (.fl (.int .i64 (((k : Int) + 1))))) rfl (og rfl (op_bin rfl rfl rfl (fun x y w => b_add64 _ _ _ x y w (by omega)) rfl)) ?_
        refine rg_put (d := 10) (v := .d (.fl (.int .i64 (((k : Int) + 1))))) rfl (og rfl (op_move rfl rfl rfl)) ?_
        refine rg_done rfl ?_
        have hx : (decide (300 < ((ix l k).key.size : Int))) = false := h6
        show ∃ i, _ ∧ _ ∧ Imp _ _ _ _ _
        refine ⟨k + 1, ⟨by omega, fun q h => (Nat.lt_succ_iff_lt_or_eq.1 h).elim (hq q) (fun e => by rw [e]; exact hx)⟩, by omega, imp_forget rfl ⟨rfl, rfl, rfl, rfl, (by first | rfl | exact ci (by omega) | exact ci (by simp) | exact cd (by simp) | simp), trivial⟩ trivial⟩
    · skip
      have h9 := f_dec h4
      refine a_exit ?_
      show A _ _ _ _ _ _ _
      refine a_rseq ?_
      refine rg_put (d := 2) (v := .d (.fl (.bool false))) rfl (og rfl (op_assign rfl rfl rfl)) ?_
      refine rg_done rfl ?_
      refine a_ret ?_
      show ∃ ds, ResL _ _ _ ds ∧ RV.of ds = _
      refine ⟨[.fl (.bool false)], (.cons (.tmp rfl (.d _)) .nil), ?_⟩
      rw [show hvB l = false from by unfold hvB; rw [h1, any_no (p := fun x : Rec => decide (300 < (x.key.size : Int))) (fun q h => hq q (by omega))]; rfl]; rfl
set_option maxHeartbeats 4000000 in
set_option maxRecDepth 100000 in
theorem grC (p : Ptn) (hm9 : ∀ x ∈ p.wait, x.recs.length ≤ 100000000000000) : Ctr Try.prog 5 [.ag (ePt p)] (.d (.fl (.bool (grB p)))) := by
  refine ctr (n := 40) (rs := #[.tmp 2]) (L := [(0, .d (.ag (ePt p)))]) Try.func5 rfl rfl rfl rfl rfl (fun w0 U0 => ?_)
  refine a_rseq ?_
  refine rg_nam (d := 1) (v := .pt 101 0) (m := 101) (nw := [(101, .bx 25 (ePt p))]) rfl (og rfl (of_eff (op_box 101 rfl rfl rfl rfl) rfl)) rfl ?_
  refine rg_put (d := 2) (v := .d (.fl (.bool false))) rfl (og rfl (op_assign rfl rfl rfl)) ?_
  refine rg_done rfl ?_
  refine a_seq ?_
  refine a_rseq ?_
  refine rg_put (d := 6) (v := .pt 101 4) rfl (og rfl (of_eff (s_field_pt rfl Try.underlying25 rfl ti23 rfl rfl rfl) rfl)) ?_
  refine rg_put (d := 7) (v := .d (.sl 5 (List.map eRec p.ours))) rfl (og rfl (op_load_pt rfl Try.underlying23 rfl rfl rfl rfl rfl)) ?_
  refine rg_put (d := 8) (v := .d (.fl (.bool (hvB p.ours)))) rfl (og rfl (op_call rfl Try.func6 nm6 rfl (.cons rfl (.d _) .nil) (hvC p.ours) rfl)) ?_
  refine rg_put (d := 9) (v := .d (.fl (.bool (hvB p.ours)))) rfl (og rfl (op_move rfl rfl rfl)) ?_
  rcases fot (hvB p.ours) with h1 | h1
  · skip
    refine rg_put (d := 10) (v := .pt 101 5) rfl (oy rfl rfl rfl h1 (of_eff (s_field_pt rfl Try.underlying25 rfl ti23 rfl rfl rfl) rfl)) ?_
    refine rg_put (d := 11) (v := .d (.sl 5 (List.map eRec p.theirs))) rfl (oy rfl rfl rfl h1 (op_load_pt rfl Try.underlying23 rfl rfl rfl rfl rfl)) ?_
    refine rg_put (d := 12) (v := .d (.fl (.bool (hvB p.theirs)))) rfl (oy rfl rfl rfl h1 (op_call rfl Try.func6 nm6 rfl (.cons rfl (.d _) .nil) (hvC p.theirs) rfl)) ?_
    refine rg_put (d := 13) (v := .d (.fl (.bool (hvB p.theirs)))) rfl (og rfl (op_pick rfl rfl (by rw [h1]; rfl) rfl)) ?_
    refine rg_put (d := 14) (v := .d (.fl (.bool (hvB p.theirs)))) rfl (og rfl (op_move rfl rfl rfl)) ?_
    rcases fot (hvB p.theirs) with h2 | h2
    · skip
      refine rg_put (d := 15) (v := .pt 101 3) rfl (oy rfl rfl rfl h2 (of_eff (s_field_pt rfl Try.underlying25 rfl ti22 rfl rfl rfl) rfl)) ?_
      refine rg_put (d := 16) (v := .d (.sl 4 (List.map eFil p.wait))) rfl (oy rfl rfl rfl h2 (op_load_pt rfl Try.underlying22 rfl rfl rfl rfl rfl)) ?_
      refine rg_put (d := 17) (v := .d (.fl (.int .i64 (p.wait.length : Int)))) rfl (oy rfl rfl rfl h2 (s_len rfl Try.underlying22 rfl rfl)) ?_
      refine rg_put (d := 18) (v := .d (.fl (.bool ((decide (40 < (p.wait.length : Int))))))) rfl (oy rfl rfl rfl h2 (op_bin rfl rfl rfl (b_gtr _ _ _ _) rfl)) ?_
      refine rg_put (d := 19) (v := .d (.fl (.bool ((decide (40 < (p.wait.length : Int))))))) rfl (og rfl (op_pick rfl rfl (by rw [h2]; rfl) rfl)) ?_
      refine rg_done rfl ?_
      refine a_cond rfl (fun h3 => ?_) (fun h3 => ?_)
      · skip
        have h4 := t_dec h3
        refine a_rseq ?_
        refine rg_put (d := 2) (v := .d (.fl (.bool true))) rfl (og rfl (op_assign rfl rfl rfl)) ?_
        refine rg_done rfl ?_
        refine a_ret ?_
        show ∃ ds, ResL _ _ _ ds ∧ RV.of ds = _
        refine ⟨[.fl (.bool true)], (.cons (.tmp rfl (.d _)) .nil), ?_⟩
        rw [show grB p = true from by unfold grB; simp only [h1, h2, h3, Bool.true_or, Bool.false_or, Bool.or_true, Bool.or_false, Bool.not_true, Bool.not_false, cond_true, cond_false, Bool.true_and, Bool.false_and, Bool.and_true, Bool.and_false] <;> rfl]; rfl
      · skip
        have h5 := f_dec h3
        refine a_skip ?_
        show A _ _ _ _ _ _ _
        refine a_rseq ?_
        refine rg_put (d := 3) (v := .d (.fl (.int .i64 0))) rfl (og rfl (op_assign rfl rfl rfl)) ?_
        refine rg_done rfl ?_
        refine a_seq ?_
        refine a_rseq ?_
        refine rg_put (d := 20) (v := .pt 101 3) rfl (og rfl (of_eff (s_field_pt rfl Try.underlying25 rfl ti22 rfl rfl rfl) rfl)) ?_
        refine rg_put (d := 21) (v := .d (.sl 4 (List.map eFil p.wait))) rfl (og rfl (op_load_pt rfl Try.underlying22 rfl rfl rfl rfl rfl)) ?_
        refine rg_put (d := 22) (v := .d (.fl (.int .i64 (p.wait.length : Int)))) rfl (og rfl (s_len rfl Try.underlying22 rfl rfl)) ?_
        refine rg_put (d := 23) (v := .d (.fl (.int .i64 0))) rfl (og rfl (op_move rfl rfl rfl)) ?_
        refine rg_done rfl ?_
        refine a_block ?_
        refine a_loop (ι := Nat) (fun k => SS [(0, .d (.ag (ePt p))), (1, .pt 101 0), (19, .d (.fl (.bool ((decide (40 < (p.wait.length : Int))))))), (21, .d (.sl 4 (List.map eFil p.wait))), (22, .d (.fl (.int .i64 (p.wait.length : Int)))), (23, .d (.fl (.int .i64 (k : Int)))), (3, .d (.fl (.int .i64 (sm p.wait k))))] [(101, .bx 25 (ePt p))]) (fun k => k ≤ p.wait.length ∧ ∀ q, q < k → (gb p.wait q) = false) (fun k => p.wait.length - k) 0 (⟨by omega, fun q h => by omega⟩) (imp_forget rfl ⟨rfl, rfl, rfl, rfl, rfl, rfl, rfl, trivial⟩ ⟨rfl, trivial⟩) (fun k hok => ?_)
        obtain ⟨hkk, hq⟩ := hok
        have hs0 := sm_in (l := p.wait) k
        have hs1 : k < p.wait.length → sm p.wait k ≤ 2000 := fun h => sm_le h hq
        have hr9 : k < p.wait.length → (ix p.wait k).recs.length ≤ 100000000000000 := fun h => hm9 _ (ix_mem h)
        refine a_rseq ?_
        refine rg_put (d := 24) (v := .d (.fl (.bool ((decide ((k : Int) < (p.wait.length : Int))))))) rfl (og rfl (op_bin rfl rfl rfl (b_lss _ _ _ _) rfl)) ?_
        refine rg_done rfl ?_
        refine a_seq ?_
        refine a_cond rfl (fun h6 => ?_) (fun h6 => ?_)
        · skip
          have h7 := t_dec h6
          refine a_skip ?_
          show A _ _ _ _ _ _ _
          refine a_seq ?_
          refine a_block ?_
          refine a_rseq ?_
          refine rg_put (d := 25) (v := .el ((eFil (ix p.wait k)))) rfl (og rfl (s_index rfl Try.underlying22 ti27 rfl rfl (by omega) (row_at (by omega)) rfl)) ?_
          refine rg_put (d := 26) (v := .d (.ag (eFil (ix p.wait k)))) rfl (og rfl (of_eff (s_load_els rfl Try.underlying27 rfl ti27 rfl rfl rfl) rfl)) ?_
          refine rg_nam (d := 5) (v := .pt 102 0) (m := 102) (nw := [(102, .bx 27 ([.fl (.string (⟨#[]⟩)), .fl (.string (⟨#[]⟩)), .fl (.int .i64 0), .fl (.slice none 0 0)]))]) rfl (og rfl (of_eff (s_alloc 102 rfl ti27 (by kernel_rfl) rfl) rfl)) rfl ?_
          refine rg_sto (nw := [(102, .bx 27 ((eFil (ix p.wait k))))]) rfl (og rfl (of_eff (s_store rfl rfl ti27 rfl rfl rfl rfl rfl rfl) rfl)) ?_
          refine rg_done rfl ?_
          refine a_rseq ?_
          refine rg_put (d := 27) (v := .d (.fl (.int .i64 (sm p.wait k)))) rfl (og rfl (op_move rfl rfl rfl)) ?_
          refine rg_put (d := 28) (v := .pt 102 3) rfl (og rfl (of_eff (s_field_pt rfl Try.underlying27 rfl ti23 rfl rfl rfl) rfl)) ?_
          refine rg_put (d := 29) (v := .d (.sl 5 (List.map eRec ((ix p.wait k).recs)))) rfl (og rfl (op_load_pt rfl Try.underlying23 rfl rfl rfl rfl rfl)) ?_
          refine rg_put (d := 30) (v := .d (.fl (.int .i64 ((((ix p.wait k).recs).length : Int))))) rfl (og rfl (s_len rfl Try.underlying23 rfl rfl)) ?_
          refine rg_put (d := 31) (v := .d (.fl (.int .i64 (((sm p.wait k) + (((ix p.wait k).recs).length : Int)))))) rfl (og rfl (op_bin rfl rfl rfl (fun x y w => b_add64 _ _ _ x y w (by omega)) rfl)) ?_
          refine rg_put (d := 3) (v := .d (.fl (.int .i64 (((sm p.wait k) + (((ix p.wait k).recs).length : Int)))))) rfl (og rfl (op_assign rfl rfl rfl)) ?_
          refine rg_done rfl ?_
          refine a_rseq ?_
          refine rg_put (d := 32) (v := .d (.fl (.int .i64 (((sm p.wait k) + (((ix p.wait k).recs).length : Int)))))) rfl (og rfl (op_move rfl rfl rfl)) ?_
          refine rg_put (d := 33) (v := .d (.fl (.bool ((decide (2000 < ((sm p.wait k) + (((ix p.wait k).recs).length : Int)))))))) rfl (og rfl (op_bin rfl rfl rfl (b_gtr _ _ _ _) rfl)) ?_
          refine rg_put (d := 34) (v := .d (.fl (.bool ((decide (2000 < ((sm p.wait k) + (((ix p.wait k).recs).length : Int)))))))) rfl (og rfl (op_move rfl rfl rfl)) ?_
          rcases fot ((decide (2000 < ((sm p.wait k) + (((ix p.wait k).recs).length : Int))))) with h8 | h8
          · skip
            have h9 := f_dec h8
            refine rg_put (d := 35) (v := .pt 102 3) rfl (oy rfl rfl rfl h8 (of_eff (s_field_pt rfl Try.underlying27 rfl ti23 rfl rfl rfl) rfl)) ?_
            refine rg_put (d := 36) (v := .d (.sl 5 (List.map eRec ((ix p.wait k).recs)))) rfl (oy rfl rfl rfl h8 (op_load_pt rfl Try.underlying23 rfl rfl rfl rfl rfl)) ?_
            refine rg_put (d := 37) (v := .d (.fl (.bool ((hvB ((ix p.wait k).recs)))))) rfl (oy rfl rfl rfl h8 (op_call rfl Try.func6 nm6 rfl (.cons rfl (.d _) .nil) (hvC ((ix p.wait k).recs)) rfl)) ?_
            refine rg_put (d := 38) (v := .d (.fl (.bool ((hvB ((ix p.wait k).recs)))))) rfl (og rfl (op_pick rfl rfl (by rw [h8]; rfl) rfl)) ?_
            refine rg_done rfl ?_
            refine a_cond rfl (fun h10 => ?_) (fun h10 => ?_)
            · skip
              refine a_rseq ?_
              refine rg_put (d := 2) (v := .d (.fl (.bool true))) rfl (og rfl (op_assign rfl rfl rfl)) ?_
              refine rg_done rfl ?_
              refine a_ret ?_
              show ∃ ds, ResL _ _ _ ds ∧ RV.of ds = _
              refine ⟨[.fl (.bool true)], (.cons (.tmp rfl (.d _)) .nil), ?_⟩
              have hx : gb p.wait k = true := by show (decide (2000 < sm p.wait k + ((ix p.wait k).recs.length : Int)) || hvB (ix p.wait k).recs) = true; simp only [h1, h2, h3, h6, h8, h10, Bool.true_or, Bool.false_or, Bool.or_true, Bool.or_false, Bool.not_true, Bool.not_false, cond_true, cond_false, Bool.true_and, Bool.false_and, Bool.and_true, Bool.and_false] <;> rfl
              rw [show grB p = true from by unfold grB; rw [gr_at (by omega) hx]; simp]; rfl
            · skip
              refine a_skip ?_
              show A _ _ _ _ _ _ _
              refine a_region ?_
              refine rg_put (d := 39) (v := .d (.fl (.int .i64 (((k : Int) + 1))))) rfl (og rfl (op_bin rfl rfl rfl (fun x y w => b_add64 _ _ _ x y w (by omega)) rfl)) ?_
              refine rg_put (d := 23) (v := .d (.fl (.int .i64 (((k : Int) + 1))))) rfl (og rfl (op_move rfl rfl rfl)) ?_
              refine rg_done rfl ?_
              have hx : gb p.wait k = false := by show (decide (2000 < sm p.wait k + ((ix p.wait k).recs.length : Int)) || hvB (ix p.wait k).recs) = false; simp only [h1, h2, h3, h6, h8, h10, Bool.true_or, Bool.false_or, Bool.or_true, Bool.or_false, Bool.not_true, Bool.not_false, cond_true, cond_false, Bool.true_and, Bool.false_and, Bool.and_true, Bool.and_false] <;> rfl
              show ∃ i, _ ∧ _ ∧ Imp _ _ _ _ _
              refine ⟨k + 1, ⟨by omega, fun q h => (Nat.lt_succ_iff_lt_or_eq.1 h).elim (hq q) (fun e => by rw [e]; exact hx)⟩, by omega, imp_forget rfl ⟨rfl, rfl, rfl, rfl, rfl, (ci (by omega)), rfl, trivial⟩ ⟨rfl, trivial⟩⟩
          · skip
            have h11 := t_dec h8
            refine rg_put (d := 35) (v := .d (.fl undef)) rfl (on rfl rfl rfl h8) ?_
            refine rg_put (d := 36) (v := .d (.fl undef)) rfl (on rfl rfl rfl h8) ?_
            refine rg_put (d := 37) (v := .d (.fl undef)) rfl (on rfl rfl rfl h8) ?_
            refine rg_put (d := 38) (v := .d (.fl (.bool true))) rfl (og rfl (op_pick rfl rfl (by rw [h8]; rfl) rfl)) ?_
            refine rg_done rfl ?_
            refine a_condK rfl rfl ?_
            refine a_rseq ?_
            refine rg_put (d := 2) (v := .d (.fl (.bool true))) rfl (og rfl (op_assign rfl rfl rfl)) ?_
            refine rg_done rfl ?_
            refine a_ret ?_
            show ∃ ds, ResL _ _ _ ds ∧ RV.of ds = _
            refine ⟨[.fl (.bool true)], (.cons (.tmp rfl (.d _)) .nil), ?_⟩
            have hx : gb p.wait k = true := by show (decide (2000 < sm p.wait k + ((ix p.wait k).recs.length : Int)) || hvB (ix p.wait k).recs) = true; simp only [h1, h2, h3, h6, h8, Bool.true_or, Bool.false_or, Bool.or_true, Bool.or_false, Bool.not_true, Bool.not_false, cond_true, cond_false, Bool.true_and, Bool.false_and, Bool.and_true, Bool.and_false] <;> rfl
            rw [show grB p = true from by unfold grB; rw [gr_at (by omega) hx]; simp]; rfl
        · skip
          have h12 := f_dec h6
          refine a_exit ?_
          show A _ _ _ _ _ _ _
          refine a_rseq ?_
          refine rg_put (d := 2) (v := .d (.fl (.bool false))) rfl (og rfl (op_assign rfl rfl rfl)) ?_
          refine rg_done rfl ?_
          refine a_ret ?_
          show ∃ ds, ResL _ _ _ ds ∧ RV.of ds = _
          refine ⟨[.fl (.bool false)], (.cons (.tmp rfl (.d _)) .nil), ?_⟩
          rw [show grB p = false from by unfold grB; rw [gr_no (fun q h => hq q (by omega))]; simp only [h1, h2, h3, h6, Bool.true_or, Bool.false_or, Bool.or_true, Bool.or_false, Bool.not_true, Bool.not_false, cond_true, cond_false, Bool.true_and, Bool.false_and, Bool.and_true, Bool.and_false] <;> rfl]; rfl
    · skip
      refine rg_put (d := 15) (v := .d (.fl undef)) rfl (on rfl rfl rfl h2) ?_
      refine rg_put (d := 16) (v := .d (.fl undef)) rfl (on rfl rfl rfl h2) ?_
      refine rg_put (d := 17) (v := .d (.fl undef)) rfl (on rfl rfl rfl h2) ?_
      refine rg_put (d := 18) (v := .d (.fl undef)) rfl (on rfl rfl rfl h2) ?_
      refine rg_put (d := 19) (v := .d (.fl (.bool true))) rfl (og rfl (op_pick rfl rfl (by rw [h2]; rfl) rfl)) ?_
      refine rg_done rfl ?_
      refine a_condK rfl rfl ?_
      refine a_rseq ?_
      refine rg_put (d := 2) (v := .d (.fl (.bool true))) rfl (og rfl (op_assign rfl rfl rfl)) ?_
      refine rg_done rfl ?_
      refine a_ret ?_
      show ∃ ds, ResL _ _ _ ds ∧ RV.of ds = _
      refine ⟨[.fl (.bool true)], (.cons (.tmp rfl (.d _)) .nil), ?_⟩
      rw [show grB p = true from by unfold grB; simp only [h1, h2, Bool.true_or, Bool.false_or, Bool.or_true, Bool.or_false, Bool.not_true, Bool.not_false, cond_true, cond_false, Bool.true_and, Bool.false_and, Bool.and_true, Bool.and_false] <;> rfl]; rfl
  · skip
    refine rg_put (d := 10) (v := .d (.fl undef)) rfl (on rfl rfl rfl h1) ?_
    refine rg_put (d := 11) (v := .d (.fl undef)) rfl (on rfl rfl rfl h1) ?_
    refine rg_put (d := 12) (v := .d (.fl undef)) rfl (on rfl rfl rfl h1) ?_
    refine rg_put (d := 13) (v := .d (.fl (.bool true))) rfl (og rfl (op_pick rfl rfl (by rw [h1]; rfl) rfl)) ?_
    refine rg_put (d := 14) (v := .d (.fl (.bool true))) rfl (og rfl (op_move rfl rfl rfl)) ?_
    refine rg_put (d := 15) (v := .d (.fl undef)) rfl (on rfl rfl rfl rfl) ?_
    refine rg_put (d := 16) (v := .d (.fl undef)) rfl (on rfl rfl rfl rfl) ?_
    refine rg_put (d := 17) (v := .d (.fl undef)) rfl (on rfl rfl rfl rfl) ?_
    refine rg_put (d := 18) (v := .d (.fl undef)) rfl (on rfl rfl rfl rfl) ?_
    refine rg_put (d := 19) (v := .d (.fl (.bool true))) rfl (og rfl (op_pick rfl rfl rfl rfl)) ?_
    refine rg_done rfl ?_
    refine a_condK rfl rfl ?_
    refine a_rseq ?_
    refine rg_put (d := 2) (v := .d (.fl (.bool true))) rfl (og rfl (op_assign rfl rfl rfl)) ?_
    refine rg_done rfl ?_
    refine a_ret ?_
    show ∃ ds, ResL _ _ _ ds ∧ RV.of ds = _
    refine ⟨[.fl (.bool true)], (.cons (.tmp rfl (.d _)) .nil), ?_⟩
    rw [show grB p = true from by unfold grB; simp only [h1, Bool.true_or, Bool.false_or, Bool.or_true, Bool.or_false, Bool.not_true, Bool.not_false, cond_true, cond_false, Bool.true_and, Bool.false_and, Bool.and_true, Bool.and_false] <;> rfl]; rfl
end Go.Proofs.Ythfdopaefdmdiaa.Wk
