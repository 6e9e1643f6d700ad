/- The law of what frames answer. No condition. -/
import Derived.Test.YtipkielpicfobaaAl13
import Derived.Test.YtipkielpicfobaaB2
set_option linter.unusedSimpArgs false
set_option linter.unusedVariables false
namespace Go.Proofs.Ytipkielpicfobaa.Wk
open Go Go.RowKit Go.Proofs.Ytipkielpicfobaa.Av
theorem eqI31 (a : Sen) (w : World) : (Op.equalIn 10000 31 (.agg (([.string a.d.dev, .int .i64 a.d.seq, .int .i64 a.d.time, .string a.d.tag, .string a.d.plate, .int .i64 a.d.axl, .int .i64 a.d.score, .int .i64 a.time, .string a.point, .int .i64 a.lane, .int .i64 a.kind] : List Value).toArray)) (.agg (([.string a.d.dev, .int .i64 a.d.seq, .int .i64 a.d.time, .string a.d.tag, .string a.d.plate, .int .i64 a.d.axl, .int .i64 a.d.score, .int .i64 a.time, .string a.point, .int .i64 a.lane, .int .i64 a.kind] : List Value).toArray))).run Try.prog w = .ok true w := by
  have hS : Try.prog.underlying 31 = some (.struct (Try.prog.fieldsOf 31)) := by kernel_rfl
  have hp : Try.prog.stoodInHeld 31 = false := by kernel_rfl
  rw [show (10000 : Nat) = 9999 + 1 from rfl, run_equalIn_agg w 9999 31 _ _ hS hp]
  simp only [Program.fieldsOf, Try.underlying31, Try.underlying29]
  go_simp

theorem eql31 (a : Sen) (x y : Operand) (w : World) : (do eqGuard .eql 31 x y (.agg (([.string a.d.dev, .int .i64 a.d.seq, .int .i64 a.d.time, .string a.d.tag, .string a.d.plate, .int .i64 a.d.axl, .int .i64 a.d.score, .int .i64 a.time, .string a.point, .int .i64 a.lane, .int .i64 a.kind] : List Value).toArray)) (.agg (([.string a.d.dev, .int .i64 a.d.seq, .int .i64 a.d.time, .string a.d.tag, .string a.d.plate, .int .i64 a.d.axl, .int .i64 a.d.score, .int .i64 a.time, .string a.point, .int .i64 a.lane, .int .i64 a.kind] : List Value).toArray)); binOp .eql 31 (.agg (([.string a.d.dev, .int .i64 a.d.seq, .int .i64 a.d.time, .string a.d.tag, .string a.d.plate, .int .i64 a.d.axl, .int .i64 a.d.score, .int .i64 a.time, .string a.point, .int .i64 a.lane, .int .i64 a.kind] : List Value).toArray)) (.agg (([.string a.d.dev, .int .i64 a.d.seq, .int .i64 a.d.time, .string a.d.tag, .string a.d.plate, .int .i64 a.d.axl, .int .i64 a.d.score, .int .i64 a.time, .string a.point, .int .i64 a.lane, .int .i64 a.kind] : List Value).toArray)) : Sem Value).run Try.prog w = .ok (.bool true) w := by
  have hm : Try.prog.eqGuardType Try.prog.depth 31 = false := by kernel_rfl
  rw [Sem.run_bind, run_eqGuard_agg w .eql 31 x y _ _ hm, Result.andThen_ok, run_eql_struct, eqI31]
  rfl

theorem neq31 (a : Sen) (x y : Operand) (w : World) : (do eqGuard .neq 31 x y (.agg (([.string a.d.dev, .int .i64 a.d.seq, .int .i64 a.d.time, .string a.d.tag, .string a.d.plate, .int .i64 a.d.axl, .int .i64 a.d.score, .int .i64 a.time, .string a.point, .int .i64 a.lane, .int .i64 a.kind] : List Value).toArray)) (.agg (([.string a.d.dev, .int .i64 a.d.seq, .int .i64 a.d.time, .string a.d.tag, .string a.d.plate, .int .i64 a.d.axl, .int .i64 a.d.score, .int .i64 a.time, .string a.point, .int .i64 a.lane, .int .i64 a.kind] : List Value).toArray)); binOp .neq 31 (.agg (([.string a.d.dev, .int .i64 a.d.seq, .int .i64 a.d.time, .string a.d.tag, .string a.d.plate, .int .i64 a.d.axl, .int .i64 a.d.score, .int .i64 a.time, .string a.point, .int .i64 a.lane, .int .i64 a.kind] : List Value).toArray)) (.agg (([.string a.d.dev, .int .i64 a.d.seq, .int .i64 a.d.time, .string a.d.tag, .string a.d.plate, .int .i64 a.d.axl, .int .i64 a.d.score, .int .i64 a.time, .string a.point, .int .i64 a.lane, .int .i64 a.kind] : List Value).toArray)) : Sem Value).run Try.prog w = .ok (.bool false) w := by
  have hm : Try.prog.eqGuardType Try.prog.depth 31 = false := by kernel_rfl
  rw [Sem.run_bind, run_eqGuard_agg w .neq 31 x y _ _ hm, Result.andThen_ok, run_neq_struct, eqI31]
  rfl

theorem eqI35 (a : Itv) (w : World) : (Op.equalIn 10000 35 (.agg (([.int .i64 a.fr, .int .i64 a.to] : List Value).toArray)) (.agg (([.int .i64 a.fr, .int .i64 a.to] : List Value).toArray))).run Try.prog w = .ok true w := by
  have hS : Try.prog.underlying 35 = some (.struct (Try.prog.fieldsOf 35)) := by kernel_rfl
  have hp : Try.prog.stoodInHeld 35 = false := by kernel_rfl
  rw [show (10000 : Nat) = 9999 + 1 from rfl, run_equalIn_agg w 9999 35 _ _ hS hp]
  simp only [Program.fieldsOf, Try.underlying35]
  go_simp

theorem eql35 (a : Itv) (x y : Operand) (w : World) : (do eqGuard .eql 35 x y (.agg (([.int .i64 a.fr, .int .i64 a.to] : List Value).toArray)) (.agg (([.int .i64 a.fr, .int .i64 a.to] : List Value).toArray)); binOp .eql 35 (.agg (([.int .i64 a.fr, .int .i64 a.to] : List Value).toArray)) (.agg (([.int .i64 a.fr, .int .i64 a.to] : List Value).toArray)) : Sem Value).run Try.prog w = .ok (.bool true) w := by
  have hm : Try.prog.eqGuardType Try.prog.depth 35 = false := by kernel_rfl
  rw [Sem.run_bind, run_eqGuard_agg w .eql 35 x y _ _ hm, Result.andThen_ok, run_eql_struct, eqI35]
  rfl

theorem neq35 (a : Itv) (x y : Operand) (w : World) : (do eqGuard .neq 35 x y (.agg (([.int .i64 a.fr, .int .i64 a.to] : List Value).toArray)) (.agg (([.int .i64 a.fr, .int .i64 a.to] : List Value).toArray)); binOp .neq 35 (.agg (([.int .i64 a.fr, .int .i64 a.to] : List Value).toArray)) (.agg (([.int .i64 a.fr, .int .i64 a.to] : List Value).toArray)) : Sem Value).run Try.prog w = .ok (.bool false) w := by
  have hm : Try.prog.eqGuardType Try.prog.depth 35 = false := by kernel_rfl
  rw [Sem.run_bind, run_eqGuard_agg w .neq 35 x y _ _ hm, Result.andThen_ok, run_neq_struct, eqI35]
  rfl

set_option maxHeartbeats 4000000 in
set_option maxRecDepth 100000 in
theorem saC (l : List Sen) (hl : l.length ≤ 1000) : Ctr Try.prog 20 [.sl 11 (List.map eSen l), .sl 11 (List.map eSen l)] (.d (.fl (.bool (true)))) := by
  refine ctr (n := 26) (rs := #[.tmp 4]) (L := [(0, .d (.sl 11 (List.map eSen l))), (1, .d (.sl 11 (List.map eSen l)))]) Try.func20 rfl rfl rfl rfl rfl (fun w0 U0 => ?_)
  refine a_rseq ?_
  refine rg_put (d := 4) (v := .d (.fl (.bool false))) rfl (og rfl (op_assign rfl rfl rfl)) ?_
  refine rg_done rfl ?_
  refine a_seq ?_
  refine a_rseq ?_
  refine rg_put (d := 6) (v := .d (.sl 11 (List.map eSen l))) rfl (og rfl (op_move rfl rfl rfl)) ?_
  refine rg_put (d := 7) (v := .d (.fl (.int .i64 (l.length : Int)))) rfl (og rfl (s_len rfl Try.underlying22 rfl rfl)) ?_
  refine rg_put (d := 8) (v := .d (.sl 11 (List.map eSen l))) rfl (og rfl (op_move rfl rfl rfl)) ?_
  refine rg_put (d := 9) (v := .d (.fl (.int .i64 (l.length : Int)))) rfl (og rfl (s_len rfl Try.underlying22 rfl rfl)) ?_
  refine rg_put (d := 10) (v := .d (.fl (.bool (((l.length : Int) != (l.length : Int)))))) rfl (og rfl (op_bin rfl rfl rfl (b_neq _ _ _ _) rfl)) ?_
  refine rg_done rfl ?_
  refine a_condF rfl (ne_self_b _) ?_
  refine a_skip ?_
  show A _ _ _ _ _ _ _
  refine a_seq ?_
  refine a_rseq ?_
  refine rg_put (d := 5) (v := .d (.fl (.int .i64 0))) rfl (og rfl (op_assign rfl rfl rfl)) ?_
  refine rg_done rfl ?_
  refine a_block ?_
  refine a_loop (ι := Nat) (fun k => SS [(0, .d (.sl 11 (List.map eSen l))), (1, .d (.sl 11 (List.map eSen l))), (10, .d (.fl (.bool (((l.length : Int) != (l.length : Int)))))), (5, .d (.fl (.int .i64 (k : Int))))] []) (fun k => k ≤ l.length) (fun k => l.length - k) 0 (by omega) (imp_forget rfl ⟨rfl, rfl, rfl, (by first | rfl | exact ci (by omega) | exact ci (by simp) | exact cd (by simp) | simp), trivial⟩ trivial) (fun k hok => ?_)
  have hk := hok
  refine a_seq ?_
  refine a_rseq ?_
  refine rg_put (d := 11) (v := .d (.fl (.int .i64 (k : Int)))) rfl (og rfl (op_move rfl rfl rfl)) ?_
  refine rg_put (d := 12) (v := .d (.sl 11 (List.map eSen l))) rfl (og rfl (op_move rfl rfl rfl)) ?_
  refine rg_put (d := 13) (v := .d (.fl (.int .i64 (l.length : Int)))) rfl (og rfl (s_len rfl Try.underlying22 rfl rfl)) ?_
  refine rg_put (d := 14) (v := .d (.fl (.bool ((decide ((k : Int) < (l.length : Int))))))) rfl (og rfl (op_bin rfl rfl rfl (b_lss _ _ _ _) rfl)) ?_
  refine rg_done rfl ?_
  refine a_cond rfl (fun h1 => ?_) (fun h1 => ?_)
  · skip
    have h2 := t_dec h1
    refine a_skip ?_
    show A _ _ _ _ _ _ _
    refine a_seq ?_
    refine a_block ?_
    refine a_dseq (by kernel_rfl) ?_
    refine dr_put (d := 17) (v := .d (.sl 11 (List.map eSen l))) rfl (og rfl (op_move rfl rfl rfl)) ?_
    refine dr_put (d := 18) (v := .d (.fl (.int .i64 (k : Int)))) rfl (og rfl (op_move rfl rfl rfl)) ?_
    refine dr_put (d := 19) (v := .el ((eSen (ix l k)))) rfl (og rfl (s_index rfl Try.underlying22 ti31 rfl rfl (by omega) (row_at (by omega)) rfl)) ?_
    refine dr_put (d := 20) (v := .d (.ag (eSen (ix l k)))) rfl (og rfl (of_eff (s_load_els rfl Try.underlying31 rfl ti31 rfl rfl rfl) rfl)) ?_
    refine dr_put (d := 21) (v := .d (.sl 11 (List.map eSen l))) rfl (og rfl (op_move rfl rfl rfl)) ?_
    refine dr_put (d := 22) (v := .d (.fl (.int .i64 (k : Int)))) rfl (og rfl (op_move rfl rfl rfl)) ?_
    refine dr_put (d := 23) (v := .el ((eSen (ix l k)))) rfl (og rfl (s_index rfl Try.underlying22 ti31 rfl rfl (by omega) (row_at (by omega)) rfl)) ?_
    refine dr_put (d := 24) (v := .d (.ag (eSen (ix l k)))) rfl (og rfl (of_eff (s_load_els rfl Try.underlying31 rfl ti31 rfl rfl rfl) rfl)) ?_
    refine dr_put (d := 25) (v := .d (.fl (.bool false))) rfl (og rfl (op_eqS [.string (((ix l k).d).dev), .int .i64 (((ix l k).d).seq), .int .i64 (((ix l k).d).time), .string (((ix l k).d).tag), .string (((ix l k).d).plate), .int .i64 (((ix l k).d).axl), .int .i64 (((ix l k).d).score), .int .i64 ((ix l k).time), .string ((ix l k).point), .int .i64 ((ix l k).lane), .int .i64 ((ix l k).kind)] [.string (((ix l k).d).dev), .int .i64 (((ix l k).d).seq), .int .i64 (((ix l k).d).time), .string (((ix l k).d).tag), .string (((ix l k).d).plate), .int .i64 (((ix l k).d).axl), .int .i64 (((ix l k).d).score), .int .i64 ((ix l k).time), .string ((ix l k).point), .int .i64 ((ix l k).lane), .int .i64 ((ix l k).kind)] rfl rfl rfl (b := false) (fun ww => neq31 (ix l k) _ _ ww) rfl)) ?_
    refine dr_done rfl (by kernel_rfl) (by kernel_rfl) ?_
    refine a_condF rfl rfl ?_
    refine a_skip ?_
    show A _ _ _ _ _ _ _
    refine a_region ?_
    refine rg_put (d := 15) (v := .d (.fl (.int .i64 (k : Int)))) rfl (og rfl (op_move rfl rfl rfl)) ?_
    refine rg_put (d := 16) (v := .d (.fl (.int .i64 (((k : Int) + 1))))) rfl (og rfl (op_bin rfl rfl rfl (fun x y w => b_add64 _ _ _ x y w (by omega)) rfl)) ?_
    refine rg_put (d := 5) (v := .d (.fl (.int .i64 (((k : Int) + 1))))) rfl (og rfl (op_assign rfl rfl rfl)) ?_
    refine rg_done rfl ?_
    show ∃ i, _ ∧ _ ∧ Imp _ _ _ _ _
    refine ⟨k + 1, (by omega), by omega, imp_forget rfl ⟨rfl, rfl, rfl, (by first | rfl | exact ci (by omega) | exact ci (by simp) | exact cd (by simp) | simp), trivial⟩ trivial⟩
  · skip
    have h3 := f_dec h1
    refine a_exit ?_
    show A _ _ _ _ _ _ _
    refine a_rseq ?_
    refine rg_put (d := 4) (v := .d (.fl (.bool true))) rfl (og rfl (op_assign rfl rfl rfl)) ?_
    refine rg_done rfl ?_
    refine a_ret ?_
    show ∃ ds, ResL _ _ _ ds ∧ RV.of ds = _
    refine ⟨[.fl (.bool true)], (.cons (.tmp rfl (.d _)) .nil), ?_⟩
    rfl
set_option maxHeartbeats 4000000 in
set_option maxRecDepth 100000 in
theorem law1 (l : List Sen) (s : Sen) (gap kind : Int) : Ctr Try.prog 4 [.sl 11 (List.map eSen l), .ag (eSen s), .fl (.int .i64 gap), .fl (.int .i64 kind)] (.d (.fl (.bool (true)))) := by
  refine ctr (n := 67) (rs := #[.tmp 8]) (L := [(0, .d (.sl 11 (List.map eSen l))), (1, .d (.ag (eSen s))), (2, .d (.fl (.int .i64 gap))), (3, .d (.fl (.int .i64 kind)))]) Try.func4 rfl rfl rfl rfl rfl (fun w0 U0 => ?_)
  refine a_rseq ?_
  refine rg_nam (d := 5) (v := .pt 101 0) (m := 101) (nw := [(101, .bx 31 (eSen s))]) rfl (og rfl (of_eff (op_box 101 rfl rfl rfl rfl) rfl)) rfl ?_
  refine rg_put (d := 8) (v := .d (.fl (.bool false))) rfl (og rfl (op_assign rfl rfl rfl)) ?_
  refine rg_done rfl ?_
  refine a_seq ?_
  refine a_rseq ?_
  refine rg_put (d := 12) (v := .d (.sl 11 (List.map eSen l))) rfl (og rfl (op_move rfl rfl rfl)) ?_
  refine rg_put (d := 13) (v := .d (.fl (.int .i64 (l.length : Int)))) rfl (og rfl (s_len rfl Try.underlying22 rfl rfl)) ?_
  refine rg_put (d := 14) (v := .d (.fl (.bool ((decide (40 < (l.length : Int))))))) rfl (og rfl (op_bin rfl rfl rfl (b_gtr _ _ _ _) rfl)) ?_
  refine rg_done rfl ?_
  refine a_cond rfl (fun h1 => ?_) (fun h1 => ?_)
  · skip
    have h2 := t_dec h1
    refine a_rseq ?_
    refine rg_put (d := 8) (v := .d (.fl (.bool true))) rfl (og rfl (op_assign rfl rfl rfl)) ?_
    refine rg_done rfl ?_
    refine a_ret ?_
    show ∃ ds, ResL _ _ _ ds ∧ RV.of ds = _
    refine ⟨[.fl (.bool true)], (.cons (.tmp rfl (.d _)) .nil), ?_⟩
    rfl
  · skip
    have h3 := f_dec h1
    refine a_skip ?_
    show A _ _ _ _ _ _ _
    refine a_rseq ?_
    refine rg_put (d := 15) (v := .d (.sl 11 (List.map eSen l))) rfl (og rfl (op_move rfl rfl rfl)) ?_
    refine rg_put (d := 16) (v := .d (.sl 1 (List.map (rI .i64) (rsP l l.length)))) rfl (og rfl (op_call rfl Try.func14 nm14 rfl (.cons rfl (.d _) .nil) (lanC l (by omega)) rfl)) ?_
    refine rg_put (d := 17) (v := .d (.sl 11 (List.map eSen l))) rfl (og rfl (op_move rfl rfl rfl)) ?_
    refine rg_put (d := 18) (v := .d (.sl 1 (List.map (rI .i64) (rsP l l.length)))) rfl (og rfl (op_call rfl Try.func15 nm15 rfl (.cons rfl (.d _) .nil) (lanR l (by omega)) rfl)) ?_
    refine rg_put (d := 9) (v := .d (.sl 1 (List.map (rI .i64) (rsP l l.length)))) rfl (og rfl (op_assign rfl rfl rfl)) ?_
    refine rg_put (d := 10) (v := .d (.sl 1 (List.map (rI .i64) (rsP l l.length)))) rfl (og rfl (op_assign rfl rfl rfl)) ?_
    refine rg_done rfl ?_
    refine a_seq ?_
    refine a_rseq ?_
    have hrl := rsP_len l l.length
    refine rg_put (d := 19) (v := .d (.sl 1 (List.map (rI .i64) (rsP l l.length)))) rfl (og rfl (op_move rfl rfl rfl)) ?_
    refine rg_put (d := 20) (v := .d (.fl (.int .i64 (((rsP l l.length).length : Int))))) rfl (og rfl (s_len rfl Try.underlying32 rfl rfl)) ?_
    refine rg_put (d := 21) (v := .d (.sl 1 (List.map (rI .i64) (rsP l l.length)))) rfl (og rfl (op_move rfl rfl rfl)) ?_
    refine rg_put (d := 22) (v := .d (.fl (.int .i64 (((rsP l l.length).length : Int))))) rfl (og rfl (s_len rfl Try.underlying32 rfl rfl)) ?_
    refine rg_put (d := 23) (v := .d (.fl (.bool ((((rsP l l.length).length : Int) != ((rsP l l.length).length : Int)))))) rfl (og rfl (op_bin rfl rfl rfl (b_neq _ _ _ _) rfl)) ?_
    refine rg_done rfl ?_
    refine a_condF rfl (bne_self_eq_false _) ?_
    refine a_skip ?_
    show A _ _ _ _ _ _ _
    refine a_seq ?_
    refine a_rseq ?_
    refine rg_put (d := 11) (v := .d (.fl (.int .i64 0))) rfl (og rfl (op_assign rfl rfl rfl)) ?_
    refine rg_done rfl ?_
    refine a_block ?_
    refine a_loop (ι := Nat) (fun k => SS [(0, .d (.sl 11 (List.map eSen l))), (1, .d (.ag (eSen s))), (2, .d (.fl (.int .i64 gap))), (3, .d (.fl (.int .i64 kind))), (5, .pt 101 0), (9, .d (.sl 1 (List.map (rI .i64) (rsP l l.length)))), (10, .d (.sl 1 (List.map (rI .i64) (rsP l l.length)))), (14, .d (.fl (.bool ((decide (40 < (l.length : Int))))))), (23, .d (.fl (.bool ((((rsP l l.length).length : Int) != ((rsP l l.length).length : Int)))))), (11, .d (.fl (.int .i64 (k : Int))))] [(101, .bx 31 (eSen s))]) (fun k => k ≤ (rsP l l.length).length) (fun k => (rsP l l.length).length - k) 0 (by omega) (imp_forget rfl ⟨rfl, rfl, rfl, rfl, rfl, rfl, rfl, rfl, rfl, (by first | rfl | exact ci (by omega) | exact ci (by simp) | exact cd (by simp) | simp), trivial⟩ ⟨rfl, trivial⟩) (fun k hok => ?_)
    have hk := hok
    refine a_seq ?_
    refine a_rseq ?_
    refine rg_put (d := 24) (v := .d (.fl (.int .i64 (k : Int)))) rfl (og rfl (op_move rfl rfl rfl)) ?_
    refine rg_put (d := 25) (v := .d (.sl 1 (List.map (rI .i64) (rsP l l.length)))) rfl (og rfl (op_move rfl rfl rfl)) ?_
    refine rg_put (d := 26) (v := .d (.fl (.int .i64 (((rsP l l.length).length : Int))))) rfl (og rfl (s_len rfl Try.underlying32 rfl rfl)) ?_
    refine rg_put (d := 27) (v := .d (.fl (.bool ((decide ((k : Int) < ((rsP l l.length).length : Int))))))) rfl (og rfl (op_bin rfl rfl rfl (b_lss _ _ _ _) rfl)) ?_
    refine rg_done rfl ?_
    refine a_cond rfl (fun h4 => ?_) (fun h4 => ?_)
    · skip
      have h5 := t_dec h4
      refine a_skip ?_
      show A _ _ _ _ _ _ _
      refine a_seq ?_
      refine a_block ?_
      refine a_dseq (by kernel_rfl) ?_
      refine dr_put (d := 30) (v := .d (.sl 1 (List.map (rI .i64) (rsP l l.length)))) rfl (og rfl (op_move rfl rfl rfl)) ?_
      refine dr_put (d := 31) (v := .d (.fl (.int .i64 (k : Int)))) rfl (og rfl (op_move rfl rfl rfl)) ?_
      refine dr_put (d := 32) (v := .el ((rI .i64 ((ix (rsP l l.length) k))))) rfl (og rfl (s_index rfl Try.underlying32 ti3 rfl rfl (by omega) (row_at (by omega)) rfl)) ?_
      refine dr_put (d := 33) (v := .d (.fl (.int .i64 ((ix (rsP l l.length) k))))) rfl (og rfl (op_load_el rfl Try.underlying3 rfl rfl rfl rfl)) ?_
      refine dr_put (d := 34) (v := .d (.sl 1 (List.map (rI .i64) (rsP l l.length)))) rfl (og rfl (op_move rfl rfl rfl)) ?_
      refine dr_put (d := 35) (v := .d (.fl (.int .i64 (k : Int)))) rfl (og rfl (op_move rfl rfl rfl)) ?_
      refine dr_put (d := 36) (v := .el ((rI .i64 ((ix (rsP l l.length) k))))) rfl (og rfl (s_index rfl Try.underlying32 ti3 rfl rfl (by omega) (row_at (by omega)) rfl)) ?_
      refine dr_put (d := 37) (v := .d (.fl (.int .i64 ((ix (rsP l l.length) k))))) rfl (og rfl (op_load_el rfl Try.underlying3 rfl rfl rfl rfl)) ?_
      refine dr_put (d := 38) (v := .d (.fl (.bool (((ix (rsP l l.length) k) != (ix (rsP l l.length) k)))))) rfl (og rfl (op_bin rfl rfl rfl (b_neq _ _ _ _) rfl)) ?_
      refine dr_done rfl (by kernel_rfl) (by kernel_rfl) ?_
      refine a_condF rfl (bne_self_eq_false _) ?_
      refine a_skip ?_
      show A _ _ _ _ _ _ _
      refine a_region ?_
      refine rg_put (d := 28) (v := .d (.fl (.int .i64 (k : Int)))) rfl (og rfl (op_move rfl rfl rfl)) ?_
      refine rg_put (d := 29) (v := .d (.fl (.int .i64 (((k : Int) + 1))))) rfl (og rfl (op_bin rfl rfl rfl (fun x y w => b_add64 _ _ _ x y w (by omega)) rfl)) ?_
      refine rg_put (d := 11) (v := .d (.fl (.int .i64 (((k : Int) + 1))))) rfl (og rfl (op_assign rfl rfl rfl)) ?_
      refine rg_done rfl ?_
      show ∃ i, _ ∧ _ ∧ Imp _ _ _ _ _
      refine ⟨k + 1, (by omega), by omega, imp_forget rfl ⟨rfl, rfl, rfl, rfl, rfl, rfl, rfl, rfl, rfl, (by first | rfl | exact ci (by omega) | exact ci (by simp) | exact cd (by simp) | simp), trivial⟩ ⟨rfl, trivial⟩⟩
    · skip
      have h6 := f_dec h4
      refine a_exit ?_
      show A _ _ _ _ _ _ _
      refine a_dseq (by kernel_rfl) ?_
      refine dr_put (d := 39) (v := .d (.sl 11 (List.map eSen l))) rfl (og rfl (op_move rfl rfl rfl)) ?_
      refine dr_put (d := 40) (v := .d (.ag (eItv (sp l)))) rfl (og rfl (op_call rfl Try.func16 nm16 rfl (.cons rfl (.d _) .nil) (spC l (by omega)) rfl)) ?_
      refine dr_put (d := 41) (v := .d (.sl 11 (List.map eSen l))) rfl (og rfl (op_move rfl rfl rfl)) ?_
      refine dr_put (d := 42) (v := .d (.ag (eItv (sp l)))) rfl (og rfl (op_call rfl Try.func17 nm17 rfl (.cons rfl (.d _) .nil) (spR l (by omega)) rfl)) ?_
      refine dr_put (d := 43) (v := .d (.fl (.bool true))) rfl (og rfl (op_eqS [.int .i64 ((sp l).fr), .int .i64 ((sp l).to)] [.int .i64 ((sp l).fr), .int .i64 ((sp l).to)] rfl rfl rfl (b := true) (fun ww => eql35 (sp l) _ _ ww) rfl)) ?_
      refine dr_put (d := 44) (v := .d (.fl (.bool true))) rfl (og rfl (op_move rfl rfl rfl)) ?_
      refine dr_put (d := 45) (v := .d (.sl 11 (List.map eSen l))) rfl (oy rfl rfl rfl rfl (op_move rfl rfl rfl)) ?_
      refine dr_put (d := 46) (v := .d (.ag (eSen s))) rfl (oy rfl rfl rfl rfl (of_eff (s_load_pts rfl Try.underlying31 rfl ti31 rfl rfl rfl rfl) rfl)) ?_
      refine dr_put (d := 47) (v := .d (.fl (.int .i64 gap))) rfl (oy rfl rfl rfl rfl (op_move rfl rfl rfl)) ?_
      refine dr_put (d := 48) (v := .d (.fl (.bool (tcB l s gap)))) rfl (oy rfl rfl rfl rfl (op_call rfl Try.func18 nm18 rfl (.cons rfl (.d _) (.cons rfl (.d _) (.cons rfl (.d _) .nil))) (toC l s gap (by omega)) rfl)) ?_
      refine dr_put (d := 49) (v := .d (.sl 11 (List.map eSen l))) rfl (oy rfl rfl rfl rfl (op_move rfl rfl rfl)) ?_
      refine dr_put (d := 50) (v := .d (.ag (eSen s))) rfl (oy rfl rfl rfl rfl (of_eff (s_load_pts rfl Try.underlying31 rfl ti31 rfl rfl rfl rfl) rfl)) ?_
      refine dr_put (d := 51) (v := .d (.fl (.int .i64 gap))) rfl (oy rfl rfl rfl rfl (op_move rfl rfl rfl)) ?_
      refine dr_put (d := 52) (v := .d (.fl (.bool (tcB l s gap)))) rfl (oy rfl rfl rfl rfl (op_call rfl Try.func19 nm19 rfl (.cons rfl (.d _) (.cons rfl (.d _) (.cons rfl (.d _) .nil))) (toR l s gap (by omega)) rfl)) ?_
      refine dr_put (d := 53) (v := .d (.fl (.bool (((tcB l s gap) == (tcB l s gap)))))) rfl (oy rfl rfl rfl rfl (op_bin rfl rfl rfl (fun x y w => b_beq _ _ _ x y w Try.underlying4) rfl)) ?_
      refine dr_put (d := 54) (v := .d (.fl (.bool (((tcB l s gap) == (tcB l s gap)))))) rfl (og rfl (op_pick rfl rfl rfl rfl)) ?_
      refine dr_put (d := 55) (v := .d (.fl (.bool (((tcB l s gap) == (tcB l s gap)))))) rfl (og rfl (op_move rfl rfl rfl)) ?_
      refine dr_put (d := 56) (v := .d (.sl 11 (List.map eSen l))) rfl (oy rfl rfl rfl (eq_self_bb _) (op_move rfl rfl rfl)) ?_
      refine dr_put (d := 57) (v := .d (.fl (.int .i64 kind))) rfl (oy rfl rfl rfl (eq_self_bb _) (op_move rfl rfl rfl)) ?_
      refine dr_put (d := 58) (v := .d (.sl 11 (List.map eSen (ofE l kind l.length)))) rfl (oy rfl rfl rfl (eq_self_bb _) (op_call rfl Try.func21 nm21 rfl (.cons rfl (.d _) (.cons rfl (.d _) .nil)) (ofC l kind (by omega)) rfl)) ?_
      refine dr_put (d := 59) (v := .d (.sl 11 (List.map eSen l))) rfl (oy rfl rfl rfl (eq_self_bb _) (op_move rfl rfl rfl)) ?_
      refine dr_put (d := 60) (v := .d (.fl (.int .i64 kind))) rfl (oy rfl rfl rfl (eq_self_bb _) (op_move rfl rfl rfl)) ?_
      refine dr_put (d := 61) (v := .d (.sl 11 (List.map eSen (ofE l kind l.length)))) rfl (oy rfl rfl rfl (eq_self_bb _) (op_call rfl Try.func22 nm22 rfl (.cons rfl (.d _) (.cons rfl (.d _) .nil)) (ofR l kind (by omega)) rfl)) ?_
      refine dr_put (d := 62) (v := .d (.fl (.bool true))) rfl (oy rfl rfl rfl (eq_self_bb _) (op_call rfl Try.func20 nm20 rfl (.cons rfl (.d _) (.cons rfl (.d _) .nil)) (saC _ (by have := ofE_len l kind l.length; omega)) rfl)) ?_
      refine dr_put (d := 63) (v := .d (.fl (.bool true))) rfl (og rfl (op_pick rfl rfl (by rw [(eq_self_bb _)]; rfl) rfl)) ?_
      refine dr_put (d := 64) (v := .d (.fl (.bool true))) rfl (og rfl (op_move rfl rfl rfl)) ?_
      refine dr_put (d := 65) (v := .d (.fl (.bool true))) rfl (oy rfl rfl rfl rfl (op_call rfl Try.func13 nm13 rfl .nil alive13 rfl)) ?_
      refine dr_put (d := 66) (v := .d (.fl (.bool true))) rfl (og rfl (op_pick rfl rfl rfl rfl)) ?_
      refine dr_put (d := 8) (v := .d (.fl (.bool true))) rfl (og rfl (op_assign rfl rfl rfl)) ?_
      refine dr_done rfl (sepB_of [0, 1, 0, 7, 15, 31, 63, 63, 63, 511, 63, 63, 63, 8191, 16383, 32767, 65535, 131071, 131071, 524287, 131071, 131071, 4194303, 8388607, 16777215, 33554431, 67108863, 134217727, 268435455] (by kernel_rfl)) (by kernel_rfl) ?_
      refine a_ret ?_
      show ∃ ds, ResL _ _ _ ds ∧ RV.of ds = _
      refine ⟨[.fl (.bool true)], (.cons (.tmp rfl (.d _)) .nil), ?_⟩
      rfl
end Go.Proofs.Ytipkielpicfobaa.Wk
