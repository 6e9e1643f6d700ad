/- The law of owners. Conditions: as each theorem names them. -/
import Derived.Test.YtejkkfmpjafkmaaDoorAl
import Derived.Test.YtejkkfmpjafkmaaDoorB2
set_option linter.unusedSimpArgs false
set_option linter.unusedVariables false
namespace Go.Proofs.YtejkkfmpjafkmaaDoor.Wk
open Go Go.RowKit Go.Proofs.YtejkkfmpjafkmaaDoor.Av
theorem eqI27 (a : Rf) (w : World) : (Op.equalIn 10000 27 (.agg (([.int .i64 a.below, .int .i64 a.cents, .int .i64 a.tries, .int .i64 a.wait] : List Value).toArray)) (.agg (([.int .i64 a.below, .int .i64 a.cents, .int .i64 a.tries, .int .i64 a.wait] : List Value).toArray))).run Tryd.prog w = .ok true w := by
  have hS : Tryd.prog.underlying 27 = some (.struct (Tryd.prog.fieldsOf 27)) := by kernel_rfl
  have hp : Tryd.prog.stoodInHeld 27 = false := by kernel_rfl
  rw [show (10000 : Nat) = 9999 + 1 from rfl, run_equalIn_agg w 9999 27 _ _ hS hp]
  simp only [Program.fieldsOf, Tryd.underlying27]
  go_simp

theorem eql27 (a : Rf) (x y : Operand) (w : World) : (do eqGuard .eql 27 x y (.agg (([.int .i64 a.below, .int .i64 a.cents, .int .i64 a.tries, .int .i64 a.wait] : List Value).toArray)) (.agg (([.int .i64 a.below, .int .i64 a.cents, .int .i64 a.tries, .int .i64 a.wait] : List Value).toArray)); binOp .eql 27 (.agg (([.int .i64 a.below, .int .i64 a.cents, .int .i64 a.tries, .int .i64 a.wait] : List Value).toArray)) (.agg (([.int .i64 a.below, .int .i64 a.cents, .int .i64 a.tries, .int .i64 a.wait] : List Value).toArray)) : Sem Value).run Tryd.prog w = .ok (.bool true) w := by
  have hm : Tryd.prog.eqGuardType Tryd.prog.depth 27 = false := by kernel_rfl
  rw [Sem.run_bind, run_eqGuard_agg w .eql 27 x y _ _ hm, Result.andThen_ok, run_eql_struct, eqI27]
  rfl

theorem neq27 (a : Rf) (x y : Operand) (w : World) : (do eqGuard .neq 27 x y (.agg (([.int .i64 a.below, .int .i64 a.cents, .int .i64 a.tries, .int .i64 a.wait] : List Value).toArray)) (.agg (([.int .i64 a.below, .int .i64 a.cents, .int .i64 a.tries, .int .i64 a.wait] : List Value).toArray)); binOp .neq 27 (.agg (([.int .i64 a.below, .int .i64 a.cents, .int .i64 a.tries, .int .i64 a.wait] : List Value).toArray)) (.agg (([.int .i64 a.below, .int .i64 a.cents, .int .i64 a.tries, .int .i64 a.wait] : List Value).toArray)) : Sem Value).run Tryd.prog w = .ok (.bool false) w := by
  have hm : Tryd.prog.eqGuardType Tryd.prog.depth 27 = false := by kernel_rfl
  rw [Sem.run_bind, run_eqGuard_agg w .neq 27 x y _ _ hm, Result.andThen_ok, run_neq_struct, eqI27]
  rfl

theorem eqI48 (a : Ow) (w : World) : (Op.equalIn 10000 48 (.agg (([.string a.tag, .string a.plate, .int .i64 a.time.fr, .int .i64 a.time.to] : List Value).toArray)) (.agg (([.string a.tag, .string a.plate, .int .i64 a.time.fr, .int .i64 a.time.to] : List Value).toArray))).run Tryd.prog w = .ok true w := by
  have hS : Tryd.prog.underlying 48 = some (.struct (Tryd.prog.fieldsOf 48)) := by kernel_rfl
  have hp : Tryd.prog.stoodInHeld 48 = false := by kernel_rfl
  rw [show (10000 : Nat) = 9999 + 1 from rfl, run_equalIn_agg w 9999 48 _ _ hS hp]
  simp only [Program.fieldsOf, Tryd.underlying48, Tryd.underlying46]
  go_simp

theorem eql48 (a : Ow) (x y : Operand) (w : World) : (do eqGuard .eql 48 x y (.agg (([.string a.tag, .string a.plate, .int .i64 a.time.fr, .int .i64 a.time.to] : List Value).toArray)) (.agg (([.string a.tag, .string a.plate, .int .i64 a.time.fr, .int .i64 a.time.to] : List Value).toArray)); binOp .eql 48 (.agg (([.string a.tag, .string a.plate, .int .i64 a.time.fr, .int .i64 a.time.to] : List Value).toArray)) (.agg (([.string a.tag, .string a.plate, .int .i64 a.time.fr, .int .i64 a.time.to] : List Value).toArray)) : Sem Value).run Tryd.prog w = .ok (.bool true) w := by
  have hm : Tryd.prog.eqGuardType Tryd.prog.depth 48 = false := by kernel_rfl
  rw [Sem.run_bind, run_eqGuard_agg w .eql 48 x y _ _ hm, Result.andThen_ok, run_eql_struct, eqI48]
  rfl

theorem neq48 (a : Ow) (x y : Operand) (w : World) : (do eqGuard .neq 48 x y (.agg (([.string a.tag, .string a.plate, .int .i64 a.time.fr, .int .i64 a.time.to] : List Value).toArray)) (.agg (([.string a.tag, .string a.plate, .int .i64 a.time.fr, .int .i64 a.time.to] : List Value).toArray)); binOp .neq 48 (.agg (([.string a.tag, .string a.plate, .int .i64 a.time.fr, .int .i64 a.time.to] : List Value).toArray)) (.agg (([.string a.tag, .string a.plate, .int .i64 a.time.fr, .int .i64 a.time.to] : List Value).toArray)) : Sem Value).run Tryd.prog w = .ok (.bool false) w := by
  have hm : Tryd.prog.eqGuardType Tryd.prog.depth 48 = false := by kernel_rfl
  rw [Sem.run_bind, run_eqGuard_agg w .neq 48 x y _ _ hm, Result.andThen_ok, run_neq_struct, eqI48]
  rfl

set_option maxHeartbeats 4000000 in
set_option maxRecDepth 100000 in
theorem lrg17 (o : Ow) : Ctr Tryd.prog 17 [.ag (eOw o)] (.d (.fl (.bool (lrg o)))) := by
  refine ctr (n := 13) (rs := #[.tmp 2]) (L := [(0, .d (.ag (eOw o)))]) Tryd.func17 rfl rfl rfl rfl rfl (fun w0 U0 => ?_)
  refine a_rseq ?_
  refine rg_nam (d := 1) (v := .pt 101 0) (m := 101) (nw := [(101, .bx 48 (eOw o))]) rfl (og rfl (of_eff (op_box 101 rfl rfl rfl rfl) rfl)) rfl ?_
  refine rg_put (d := 2) (v := .d (.fl (.bool false))) rfl (og rfl (op_assign rfl rfl rfl)) ?_
  refine rg_done rfl ?_
  refine a_rseq ?_
  refine rg_put (d := 3) (v := .pt 101 0) rfl (og rfl (of_eff (s_field_pt rfl Tryd.underlying48 rfl ti9 rfl rfl rfl) rfl)) ?_
  refine rg_put (d := 4) (v := .d (.fl (.string o.tag))) rfl (og rfl (op_load_pt rfl Tryd.underlying9 rfl rfl rfl rfl rfl)) ?_
  refine rg_put (d := 5) (v := .d (.fl (.int .i64 (o.tag.size : Int)))) rfl (og rfl (op_len_str rfl Tryd.underlying9 rfl rfl)) ?_
  refine rg_put (d := 6) (v := .d (.fl (.bool ((decide (100 < (o.tag.size : Int))))))) rfl (og rfl (op_bin rfl rfl rfl (b_gtr _ _ _ _) rfl)) ?_
  refine rg_put (d := 7) (v := .d (.fl (.bool ((decide (100 < (o.tag.size : Int))))))) rfl (og rfl (op_move rfl rfl rfl)) ?_
  rcases fot ((decide (100 < (o.tag.size : Int)))) with h1 | h1
  · skip
    have h2 := f_dec h1
    refine rg_put (d := 8) (v := .pt 101 1) rfl (oy rfl rfl rfl h1 (of_eff (s_field_pt rfl Tryd.underlying48 rfl ti9 rfl rfl rfl) rfl)) ?_
    refine rg_put (d := 9) (v := .d (.fl (.string o.plate))) rfl (oy rfl rfl rfl h1 (op_load_pt rfl Tryd.underlying9 rfl rfl rfl rfl rfl)) ?_
    refine rg_put (d := 10) (v := .d (.fl (.int .i64 (o.plate.size : Int)))) rfl (oy rfl rfl rfl h1 (op_len_str rfl Tryd.underlying9 rfl rfl)) ?_
    refine rg_put (d := 11) (v := .d (.fl (.bool ((decide (100 < (o.plate.size : Int))))))) rfl (oy rfl rfl rfl h1 (op_bin rfl rfl rfl (b_gtr _ _ _ _) rfl)) ?_
    refine rg_put (d := 12) (v := .d (.fl (.bool ((decide (100 < (o.plate.size : Int))))))) rfl (og rfl (op_pick rfl rfl (by rw [h1]; rfl) rfl)) ?_
    refine rg_put (d := 2) (v := .d (.fl (.bool ((decide (100 < (o.plate.size : Int))))))) rfl (og rfl (op_assign rfl rfl rfl)) ?_
    refine rg_done rfl ?_
    refine a_ret ?_
    show ∃ ds, ResL _ _ _ ds ∧ RV.of ds = _
    refine ⟨[.fl (.bool ((decide (100 < (o.plate.size : Int)))))], (.cons (.tmp rfl (.d _)) .nil), ?_⟩
    first
      | (have hu : lrg o = (decide (100 < (o.plate.size : Int))) := by
          unfold lrg; simp only [h1, Bool.true_or, Bool.false_or, Bool.or_true, Bool.or_false, Bool.not_true, Bool.not_false, cond_true, cond_false, Bool.true_and, Bool.false_and, Bool.and_true, Bool.and_false] <;> rfl
         rw [hu]; rfl)
      | (exfalso; omega)
  · skip
    have h3 := t_dec h1
    refine rg_put (d := 8) (v := .d (.fl undef)) rfl (on rfl rfl rfl h1) ?_
    refine rg_put (d := 9) (v := .d (.fl undef)) rfl (on rfl rfl rfl h1) ?_
    refine rg_put (d := 10) (v := .d (.fl undef)) rfl (on rfl rfl rfl h1) ?_
    refine rg_put (d := 11) (v := .d (.fl undef)) rfl (on rfl rfl rfl h1) ?_
    refine rg_put (d := 12) (v := .d (.fl (.bool true))) rfl (og rfl (op_pick rfl rfl (by rw [h1]; rfl) rfl)) ?_
    refine rg_put (d := 2) (v := .d (.fl (.bool true))) rfl (og rfl (op_assign rfl rfl rfl)) ?_
    refine rg_done rfl ?_
    refine a_ret ?_
    show ∃ ds, ResL _ _ _ ds ∧ RV.of ds = _
    refine ⟨[.fl (.bool true)], (.cons (.tmp rfl (.d _)) .nil), ?_⟩
    first
      | (have hu : lrg o = true := by
          unfold lrg; simp only [h1, Bool.true_or, Bool.false_or, Bool.or_true, Bool.or_false, Bool.not_true, Bool.not_false, cond_true, cond_false, Bool.true_and, Bool.false_and, Bool.and_true, Bool.and_false] <;> rfl
         rw [hu]; rfl)
      | (exfalso; omega)
set_option maxHeartbeats 4000000 in
set_option maxRecDepth 100000 in
theorem grt7 (l : List Ac) : Ctr Tryd.prog 7 [.sl 9 (List.map eAc l)] (.d (.fl (.bool (grt l)))) := by
  refine ctr (n := 31) (rs := #[.tmp 2]) (L := [(0, .d (.sl 9 (List.map eAc l)))]) Tryd.func7 rfl rfl rfl rfl rfl (fun w0 U0 => ?_)
  refine a_rseq ?_
  refine rg_put (d := 2) (v := .d (.fl (.bool false))) rfl (og rfl (op_assign rfl rfl rfl)) ?_
  refine rg_done rfl ?_
  refine a_seq ?_
  refine a_rseq ?_
  refine rg_put (d := 7) (v := .d (.sl 9 (List.map eAc l))) rfl (og rfl (op_move rfl rfl rfl)) ?_
  refine rg_put (d := 8) (v := .d (.fl (.int .i64 (l.length : Int)))) rfl (og rfl (s_len rfl Tryd.underlying22 rfl rfl)) ?_
  refine rg_put (d := 9) (v := .d (.fl (.bool ((decide (30 < (l.length : Int))))))) rfl (og rfl (op_bin rfl rfl rfl (b_gtr _ _ _ _) rfl)) ?_
  refine rg_done rfl ?_
  refine a_cond rfl (fun h1 => ?_) (fun h1 => ?_)
  · skip
    have h2 := t_dec h1
    refine a_rseq ?_
    refine rg_put (d := 2) (v := .d (.fl (.bool true))) rfl (og rfl (op_assign rfl rfl rfl)) ?_
    refine rg_done rfl ?_
    refine a_ret ?_
    show ∃ ds, ResL _ _ _ ds ∧ RV.of ds = _
    refine ⟨[.fl (.bool true)], (.cons (.tmp rfl (.d _)) .nil), ?_⟩
    have hu : grt l = true := by unfold grt; rw [h1]; rfl
    rw [hu]; rfl
  · skip
    have h3 := f_dec h1
    refine a_skip ?_
    show A _ _ _ _ _ _ _
    refine a_seq ?_
    refine a_rseq ?_
    refine rg_put (d := 10) (v := .d (.sl 9 (List.map eAc l))) rfl (og rfl (op_move rfl rfl rfl)) ?_
    refine rg_put (d := 11) (v := .d (.fl (.int .i64 (l.length : Int)))) rfl (og rfl (s_len rfl Tryd.underlying22 rfl rfl)) ?_
    refine rg_put (d := 12) (v := .d (.fl (.int .i64 0))) rfl (og rfl (op_move rfl rfl rfl)) ?_
    refine rg_done rfl ?_
    refine a_block ?_
    refine a_loop (ι := Nat) (fun k => SS [(0, .d (.sl 9 (List.map eAc l))), (9, .d (.fl (.bool ((decide (30 < (l.length : Int))))))), (10, .d (.sl 9 (List.map eAc l))), (11, .d (.fl (.int .i64 (l.length : Int)))), (12, .d (.fl (.int .i64 (k : Int))))] []) (fun k => k ≤ l.length ∧ ∀ q, q < k → bga (ix l q) = false) (fun k => l.length - k) 0 (⟨by omega, fun q h => by omega⟩) (imp_forget rfl ⟨rfl, rfl, rfl, rfl, (by first | rfl | exact ci (by omega) | exact ci (by simp) | exact cd (by simp) | simp), trivial⟩ trivial) (fun k hok => ?_)
    obtain ⟨hkk, hq⟩ := hok
    refine a_rseq ?_
    refine rg_put (d := 13) (v := .d (.fl (.bool ((decide ((k : Int) < (l.length : Int))))))) rfl (og rfl (op_bin rfl rfl rfl (b_lss _ _ _ _) rfl)) ?_
    refine rg_done rfl ?_
    refine a_seq ?_
    refine a_cond rfl (fun h4 => ?_) (fun h4 => ?_)
    · skip
      have h5 := t_dec h4
      refine a_skip ?_
      show A _ _ _ _ _ _ _
      refine a_seq ?_
      refine a_block ?_
      refine a_rseq ?_
      refine rg_put (d := 14) (v := .el ((eAc (ix l k)))) rfl (og rfl (s_index rfl Tryd.underlying22 ti29 rfl rfl (by omega) (row_at (by omega)) rfl)) ?_
      refine rg_put (d := 15) (v := .d (.ag (eAc (ix l k)))) rfl (og rfl (of_eff (s_load_els rfl Tryd.underlying29 rfl ti29 rfl rfl rfl) rfl)) ?_
      refine rg_nam (d := 4) (v := .pt 101 0) (m := 101) (nw := [(101, .bx 29 ([.fl (.string (⟨#[]⟩)), .fl (.string (⟨#[]⟩)), .fl (.bool false), .fl (.slice none 0 0), .fl (.int .i64 0), .fl (.int .i64 0), .fl (.int .i64 0), .fl (.int .i64 0), .fl (.bool false)]))]) rfl (og rfl (of_eff (s_alloc 101 rfl ti29 (by kernel_rfl) rfl) rfl)) rfl ?_
      refine rg_sto (nw := [(101, .bx 29 ((eAc (ix l k))))]) rfl (og rfl (of_eff (s_store rfl rfl ti29 rfl rfl rfl rfl rfl rfl) rfl)) ?_
      refine rg_done rfl ?_
      refine a_seq ?_
      refine a_rseq ?_
      refine rg_put (d := 16) (v := .pt 101 3) rfl (og rfl (of_eff (s_field_pt rfl Tryd.underlying29 rfl ti25 rfl rfl rfl) rfl)) ?_
      refine rg_put (d := 17) (v := .d (.sl 4 (List.map eOw ((ix l k).owned)))) rfl (og rfl (op_load_pt rfl Tryd.underlying25 rfl rfl rfl rfl rfl)) ?_
      refine rg_put (d := 18) (v := .d (.fl (.int .i64 ((((ix l k).owned).length : Int))))) rfl (og rfl (s_len rfl Tryd.underlying25 rfl rfl)) ?_
      refine rg_put (d := 19) (v := .d (.fl (.bool ((decide (80 < (((ix l k).owned).length : Int))))))) rfl (og rfl (op_bin rfl rfl rfl (b_gtr _ _ _ _) rfl)) ?_
      refine rg_done rfl ?_
      refine a_cond rfl (fun h6 => ?_) (fun h6 => ?_)
      · skip
        have h7 := t_dec h6
        refine a_rseq ?_
        refine rg_put (d := 2) (v := .d (.fl (.bool true))) rfl (og rfl (op_assign rfl rfl rfl)) ?_
        refine rg_done rfl ?_
        refine a_ret ?_
        show ∃ ds, ResL _ _ _ ds ∧ RV.of ds = _
        refine ⟨[.fl (.bool true)], (.cons (.tmp rfl (.d _)) .nil), ?_⟩
        have hb : bga (ix l k) = true := by unfold bga; rw [h6]; rfl
        have hu : grt l = true := by unfold grt; rw [h1, any_at (by omega) hb]; rfl
        rw [hu]; rfl
      · skip
        have h8 := f_dec h6
        refine a_skip ?_
        show A _ _ _ _ _ _ _
        refine a_rseq ?_
        refine rg_put (d := 20) (v := .pt 101 3) rfl (og rfl (of_eff (s_field_pt rfl Tryd.underlying29 rfl ti25 rfl rfl rfl) rfl)) ?_
        refine rg_put (d := 21) (v := .d (.sl 4 (List.map eOw ((ix l k).owned)))) rfl (og rfl (op_load_pt rfl Tryd.underlying25 rfl rfl rfl rfl rfl)) ?_
        refine rg_put (d := 22) (v := .d (.fl (.int .i64 ((((ix l k).owned).length : Int))))) rfl (og rfl (s_len rfl Tryd.underlying25 rfl rfl)) ?_
        refine rg_put (d := 23) (v := .d (.fl (.int .i64 0))) rfl (og rfl (op_move rfl rfl rfl)) ?_
        refine rg_done rfl ?_
        refine a_block ?_
        refine a_loop (ι := Nat) (fun j => SS [(0, .d (.sl 9 (List.map eAc l))), (4, .pt 101 0), (9, .d (.fl (.bool ((decide (30 < (l.length : Int))))))), (10, .d (.sl 9 (List.map eAc l))), (11, .d (.fl (.int .i64 (l.length : Int)))), (12, .d (.fl (.int .i64 (k : Int)))), (13, .d (.fl (.bool ((decide ((k : Int) < (l.length : Int))))))), (19, .d (.fl (.bool ((decide (80 < (((ix l k).owned).length : Int))))))), (21, .d (.sl 4 (List.map eOw ((ix l k).owned)))), (22, .d (.fl (.int .i64 ((((ix l k).owned).length : Int))))), (23, .d (.fl (.int .i64 (j : Int))))] [(101, .bx 29 ((eAc (ix l k))))]) (fun j => j ≤ (ix l k).owned.length ∧ ∀ q, q < j → lrg (ix (ix l k).owned q) = false) (fun j => (ix l k).owned.length - j) 0 (⟨by omega, fun q h => by omega⟩) (imp_forget rfl ⟨rfl, rfl, rfl, rfl, rfl, rfl, rfl, rfl, rfl, rfl, (by first | rfl | exact ci (by omega) | exact ci (by simp) | exact cd (by simp) | simp), trivial⟩ ⟨rfl, trivial⟩) (fun j hok => ?_)
        obtain ⟨hkj, hr⟩ := hok
        refine a_rseq ?_
        refine rg_put (d := 24) (v := .d (.fl (.bool ((decide ((j : Int) < (((ix l k).owned).length : Int))))))) rfl (og rfl (op_bin rfl rfl rfl (b_lss _ _ _ _) rfl)) ?_
        refine rg_done rfl ?_
        refine a_seq ?_
        refine a_cond rfl (fun h9 => ?_) (fun h9 => ?_)
        · skip
          have h10 := t_dec h9
          refine a_skip ?_
          show A _ _ _ _ _ _ _
          refine a_seq ?_
          refine a_block ?_
          refine a_rseq ?_
          refine rg_put (d := 25) (v := .el ((eOw ((ix ((ix l k).owned) j))))) rfl (og rfl (s_index rfl Tryd.underlying25 ti48 rfl rfl (by omega) (row_at (by omega)) rfl)) ?_
          refine rg_put (d := 26) (v := .d (.ag (eOw (((ix ((ix l k).owned) j)))))) rfl (og rfl (of_eff (s_load_els rfl Tryd.underlying48 rfl ti48 rfl rfl rfl) rfl)) ?_
          refine rg_nam (d := 6) (v := .pt 102 0) (m := 102) (nw := [(102, .bx 48 ([.fl (.string (⟨#[]⟩)), .fl (.string (⟨#[]⟩)), .fl (.int .i64 0), .fl (.int .i64 0)]))]) rfl (og rfl (of_eff (s_alloc 102 rfl ti48 (by kernel_rfl) rfl) rfl)) rfl ?_
          refine rg_sto (nw := [(102, .bx 48 ((eOw (((ix ((ix l k).owned) j))))))]) rfl (og rfl (of_eff (s_store rfl rfl ti48 rfl rfl rfl rfl rfl rfl) rfl)) ?_
          refine rg_done rfl ?_
          refine a_rseq ?_
          refine rg_put (d := 27) (v := .d (.ag (eOw ((((ix ((ix l k).owned) j))))))) rfl (og rfl (of_eff (s_load_pts rfl Tryd.underlying48 rfl ti48 rfl rfl rfl rfl) rfl)) ?_
          refine rg_put (d := 28) (v := .d (.fl (.bool ((lrg ((((ix ((ix l k).owned) j))))))))) rfl (og rfl (op_call rfl Tryd.func17 nm17 rfl (.cons rfl (.d _) .nil) (lrg17 ((((ix ((ix l k).owned) j))))) rfl)) ?_
          refine rg_done rfl ?_
          refine a_cond rfl (fun h11 => ?_) (fun h11 => ?_)
          · skip
            refine a_rseq ?_
            refine rg_put (d := 2) (v := .d (.fl (.bool true))) rfl (og rfl (op_assign rfl rfl rfl)) ?_
            refine rg_done rfl ?_
            refine a_ret ?_
            show ∃ ds, ResL _ _ _ ds ∧ RV.of ds = _
            refine ⟨[.fl (.bool true)], (.cons (.tmp rfl (.d _)) .nil), ?_⟩
            have hb : bga (ix l k) = true := by unfold bga; rw [h6, any_at (by omega) h11]; rfl
            have hu : grt l = true := by unfold grt; rw [h1, any_at (by omega) hb]; rfl
            rw [hu]; rfl
          · skip
            refine a_skip ?_
            show A _ _ _ _ _ _ _
            refine a_region ?_
            refine rg_put (d := 29) (v := .d (.fl (.int .i64 (((j : Int) + 1))))) rfl (og rfl (op_bin rfl rfl rfl (fun x y w => b_add64 _ _ _ x y w (by omega)) rfl)) ?_
            refine rg_put (d := 23) (v := .d (.fl (.int .i64 (((j : Int) + 1))))) rfl (og rfl (op_move rfl rfl rfl)) ?_
            refine rg_done rfl ?_
            have hxj : lrg (ix (ix l k).owned j) = false := h11
            show ∃ i, _ ∧ _ ∧ Imp _ _ _ _ _
            refine ⟨j + 1, ⟨by omega, fun q h => (Nat.lt_succ_iff_lt_or_eq.1 h).elim (hr q) (fun e => by rw [e]; exact hxj)⟩, by omega, imp_forget rfl ⟨rfl, rfl, rfl, rfl, rfl, rfl, rfl, rfl, rfl, rfl, (by first | rfl | exact ci (by omega) | exact ci (by simp) | exact cd (by simp) | simp), trivial⟩ ⟨rfl, trivial⟩⟩
        · skip
          have h12 := f_dec h9
          refine a_exit ?_
          show A _ _ _ _ _ _ _
          refine a_region ?_
          refine rg_put (d := 30) (v := .d (.fl (.int .i64 (((k : Int) + 1))))) rfl (og rfl (op_bin rfl rfl rfl (fun x y w => b_add64 _ _ _ x y w (by omega)) rfl)) ?_
          refine rg_put (d := 12) (v := .d (.fl (.int .i64 (((k : Int) + 1))))) rfl (og rfl (op_move rfl rfl rfl)) ?_
          refine rg_done rfl ?_
          have hx : bga (ix l k) = false := by unfold bga; rw [h6, any_no (fun q h => hr q (by omega))]; rfl
          show ∃ i, _ ∧ _ ∧ Imp _ _ _ _ _
          refine ⟨k + 1, ⟨by omega, fun q h => (Nat.lt_succ_iff_lt_or_eq.1 h).elim (hq q) (fun e => by rw [e]; exact hx)⟩, by omega, imp_forget rfl ⟨rfl, rfl, rfl, rfl, (by first | rfl | exact ci (by omega) | exact ci (by simp) | exact cd (by simp) | simp), trivial⟩ trivial⟩
    · skip
      have h13 := f_dec h4
      refine a_exit ?_
      show A _ _ _ _ _ _ _
      refine a_rseq ?_
      refine rg_put (d := 2) (v := .d (.fl (.bool false))) rfl (og rfl (op_assign rfl rfl rfl)) ?_
      refine rg_done rfl ?_
      refine a_ret ?_
      show ∃ ds, ResL _ _ _ ds ∧ RV.of ds = _
      refine ⟨[.fl (.bool false)], (.cons (.tmp rfl (.d _)) .nil), ?_⟩
      have hu : grt l = false := by unfold grt; rw [h1, any_no (fun q h => hq q (by omega))]; rfl
      rw [hu]; rfl
set_option maxHeartbeats 4000000 in
set_option maxRecDepth 100000 in
theorem same13 (l : List Ac) (hl : l.length ≤ 30) (ha : ∀ q, q < l.length → (ix l q).owned.length ≤ 80) : Ctr Tryd.prog 13 [.sl 9 (List.map eAc l), .sl 9 (List.map eAc l)] (.d (.fl (.bool true))) := by
  refine ctr (n := 88) (rs := #[.tmp 4]) (L := [(0, .d (.sl 9 (List.map eAc l))), (1, .d (.sl 9 (List.map eAc l)))]) Tryd.func13 rfl rfl rfl rfl rfl (fun w0 U0 => ?_)
  refine a_rseq ?_
  refine rg_put (d := 4) (v := .d (.fl (.bool false))) rfl (og rfl (op_assign rfl rfl rfl)) ?_
  refine rg_done rfl ?_
  refine a_seq ?_
  refine a_rseq ?_
  refine rg_put (d := 9) (v := .d (.sl 9 (List.map eAc l))) rfl (og rfl (op_move rfl rfl rfl)) ?_
  refine rg_put (d := 10) (v := .d (.fl (.int .i64 (l.length : Int)))) rfl (og rfl (s_len rfl Tryd.underlying22 rfl rfl)) ?_
  refine rg_put (d := 11) (v := .d (.sl 9 (List.map eAc l))) rfl (og rfl (op_move rfl rfl rfl)) ?_
  refine rg_put (d := 12) (v := .d (.fl (.int .i64 (l.length : Int)))) rfl (og rfl (s_len rfl Tryd.underlying22 rfl rfl)) ?_
  refine rg_put (d := 13) (v := .d (.fl (.bool (((l.length : Int) != (l.length : Int)))))) rfl (og rfl (op_bin rfl rfl rfl (b_neq _ _ _ _) rfl)) ?_
  refine rg_done rfl ?_
  refine a_condF rfl (bne_self_eq_false _) ?_
  refine a_skip ?_
  show A _ _ _ _ _ _ _
  refine a_seq ?_
  refine a_rseq ?_
  refine rg_put (d := 5) (v := .d (.fl (.int .i64 0))) rfl (og rfl (op_assign rfl rfl rfl)) ?_
  refine rg_done rfl ?_
  refine a_block ?_
  refine a_loop (ι := Nat) (fun k => SS [(0, .d (.sl 9 (List.map eAc l))), (1, .d (.sl 9 (List.map eAc l))), (13, .d (.fl (.bool (((l.length : Int) != (l.length : Int)))))), (5, .d (.fl (.int .i64 (k : Int))))] []) (fun k => k ≤ l.length) (fun k => l.length - k) 0 (by omega) (imp_forget rfl ⟨rfl, rfl, rfl, (by first | rfl | exact ci (by omega) | exact ci (by simp) | exact cd (by simp) | simp), trivial⟩ trivial) (fun k hok => ?_)
  have hk := hok
  refine a_seq ?_
  refine a_rseq ?_
  refine rg_put (d := 14) (v := .d (.fl (.int .i64 (k : Int)))) rfl (og rfl (op_move rfl rfl rfl)) ?_
  refine rg_put (d := 15) (v := .d (.sl 9 (List.map eAc l))) rfl (og rfl (op_move rfl rfl rfl)) ?_
  refine rg_put (d := 16) (v := .d (.fl (.int .i64 (l.length : Int)))) rfl (og rfl (s_len rfl Tryd.underlying22 rfl rfl)) ?_
  refine rg_put (d := 17) (v := .d (.fl (.bool ((decide ((k : Int) < (l.length : Int))))))) rfl (og rfl (op_bin rfl rfl rfl (b_lss _ _ _ _) rfl)) ?_
  refine rg_done rfl ?_
  refine a_cond rfl (fun h1 => ?_) (fun h1 => ?_)
  · skip
    have h2 := t_dec h1
    refine a_skip ?_
    show A _ _ _ _ _ _ _
    refine a_seq ?_
    refine a_block ?_
    refine a_dseq (by kernel_rfl) ?_
    refine dr_put (d := 20) (v := .d (.sl 9 (List.map eAc l))) rfl (og rfl (op_move rfl rfl rfl)) ?_
    refine dr_put (d := 21) (v := .d (.fl (.int .i64 (k : Int)))) rfl (og rfl (op_move rfl rfl rfl)) ?_
    refine dr_put (d := 22) (v := .el ((eAc (ix l k)))) rfl (og rfl (s_index rfl Tryd.underlying22 ti29 rfl rfl (by omega) (row_at (by omega)) rfl)) ?_
    refine dr_put (d := 23) (v := .d (.ag (eAc (ix l k)))) rfl (og rfl (of_eff (s_load_els rfl Tryd.underlying29 rfl ti29 rfl rfl rfl) rfl)) ?_
    refine dr_put (d := 24) (v := .d (.sl 9 (List.map eAc l))) rfl (og rfl (op_move rfl rfl rfl)) ?_
    refine dr_put (d := 25) (v := .d (.fl (.int .i64 (k : Int)))) rfl (og rfl (op_move rfl rfl rfl)) ?_
    refine dr_put (d := 26) (v := .el ((eAc (ix l k)))) rfl (og rfl (s_index rfl Tryd.underlying22 ti29 rfl rfl (by omega) (row_at (by omega)) rfl)) ?_
    refine dr_put (d := 27) (v := .d (.ag (eAc (ix l k)))) rfl (og rfl (of_eff (s_load_els rfl Tryd.underlying29 rfl ti29 rfl rfl rfl) rfl)) ?_
    refine dr_nam (d := 6) (v := .pt 101 0) (m := 101) (nw := [(101, .bx 29 ([.fl (.string (⟨#[]⟩)), .fl (.string (⟨#[]⟩)), .fl (.bool false), .fl (.slice none 0 0), .fl (.int .i64 0), .fl (.int .i64 0), .fl (.int .i64 0), .fl (.int .i64 0), .fl (.bool false)]))]) rfl (og rfl (of_eff (s_alloc 101 rfl ti29 (by kernel_rfl) rfl) rfl)) ?_
    refine dr_nam (d := 7) (v := .pt 102 0) (m := 102) (nw := [(102, .bx 29 ([.fl (.string (⟨#[]⟩)), .fl (.string (⟨#[]⟩)), .fl (.bool false), .fl (.slice none 0 0), .fl (.int .i64 0), .fl (.int .i64 0), .fl (.int .i64 0), .fl (.int .i64 0), .fl (.bool false)]))]) rfl (og rfl (of_eff (s_alloc 102 rfl ti29 (by kernel_rfl) rfl) rfl)) ?_
    refine dr_sto (nw := [(101, .bx 29 ((eAc (ix l k))))]) rfl (og rfl (of_eff (s_store rfl rfl ti29 rfl rfl rfl rfl rfl rfl) rfl)) ?_
    refine dr_sto (nw := [(102, .bx 29 ((eAc (ix l k))))]) rfl (og rfl (of_eff (s_store rfl rfl ti29 rfl rfl rfl rfl rfl rfl) rfl)) ?_
    refine dr_done rfl (by kernel_rfl) (by kernel_rfl) ?_
    refine a_seq ?_
    refine a_rseq ?_
    refine rg_put (d := 28) (v := .pt 101 0) rfl (og rfl (of_eff (s_field_pt rfl Tryd.underlying29 rfl ti9 rfl rfl rfl) rfl)) ?_
    refine rg_put (d := 29) (v := .d (.fl (.string ((ix l k).name)))) rfl (og rfl (op_load_pt rfl Tryd.underlying9 rfl rfl rfl rfl rfl)) ?_
    refine rg_put (d := 30) (v := .pt 102 0) rfl (og rfl (of_eff (s_field_pt rfl Tryd.underlying29 rfl ti9 rfl rfl rfl) rfl)) ?_
    refine rg_put (d := 31) (v := .d (.fl (.string ((ix l k).name)))) rfl (og rfl (op_load_pt rfl Tryd.underlying9 rfl rfl rfl rfl rfl)) ?_
    refine rg_put (d := 32) (v := .d (.fl (.bool ((!(sEq ((ix l k).name) ((ix l k).name))))))) rfl (og rfl (op_bin rfl rfl rfl (b_sne _ _ _) rfl)) ?_
    refine rg_put (d := 33) (v := .d (.fl (.bool ((!(sEq ((ix l k).name) ((ix l k).name))))))) rfl (og rfl (op_move rfl rfl rfl)) ?_
    refine rg_put (d := 34) (v := .pt 101 1) rfl (oy rfl rfl rfl (not_f (eq_self_s _)) (of_eff (s_field_pt rfl Tryd.underlying29 rfl ti9 rfl rfl rfl) rfl)) ?_
    refine rg_put (d := 35) (v := .d (.fl (.string ((ix l k).agency)))) rfl (oy rfl rfl rfl (not_f (eq_self_s _)) (op_load_pt rfl Tryd.underlying9 rfl rfl rfl rfl rfl)) ?_
    refine rg_put (d := 36) (v := .pt 102 1) rfl (oy rfl rfl rfl (not_f (eq_self_s _)) (of_eff (s_field_pt rfl Tryd.underlying29 rfl ti9 rfl rfl rfl) rfl)) ?_
    refine rg_put (d := 37) (v := .d (.fl (.string ((ix l k).agency)))) rfl (oy rfl rfl rfl (not_f (eq_self_s _)) (op_load_pt rfl Tryd.underlying9 rfl rfl rfl rfl rfl)) ?_
    refine rg_put (d := 38) (v := .d (.fl (.bool ((!(sEq ((ix l k).agency) ((ix l k).agency))))))) rfl (oy rfl rfl rfl (not_f (eq_self_s _)) (op_bin rfl rfl rfl (b_sne _ _ _) rfl)) ?_
    refine rg_put (d := 39) (v := .d (.fl (.bool ((!(sEq ((ix l k).agency) ((ix l k).agency))))))) rfl (og rfl (op_pick rfl rfl (by rw [(not_f (eq_self_s _))]; rfl) rfl)) ?_
    refine rg_put (d := 40) (v := .d (.fl (.bool ((!(sEq ((ix l k).agency) ((ix l k).agency))))))) rfl (og rfl (op_move rfl rfl rfl)) ?_
    refine rg_put (d := 41) (v := .pt 101 2) rfl (oy rfl rfl rfl (not_f (eq_self_s _)) (of_eff (s_field_pt rfl Tryd.underlying29 rfl ti4 rfl rfl rfl) rfl)) ?_
    refine rg_put (d := 42) (v := .d (.fl (.bool ((ix l k).prepay)))) rfl (oy rfl rfl rfl (not_f (eq_self_s _)) (op_load_pt rfl Tryd.underlying4 rfl rfl rfl rfl rfl)) ?_
    refine rg_put (d := 43) (v := .pt 102 2) rfl (oy rfl rfl rfl (not_f (eq_self_s _)) (of_eff (s_field_pt rfl Tryd.underlying29 rfl ti4 rfl rfl rfl) rfl)) ?_
    refine rg_put (d := 44) (v := .d (.fl (.bool ((ix l k).prepay)))) rfl (oy rfl rfl rfl (not_f (eq_self_s _)) (op_load_pt rfl Tryd.underlying4 rfl rfl rfl rfl rfl)) ?_
    refine rg_put (d := 45) (v := .d (.fl (.bool ((!((ix l k).prepay == (ix l k).prepay)))))) rfl (oy rfl rfl rfl (not_f (eq_self_s _)) (op_bin rfl rfl rfl (fun x y w => b_bne _ _ _ x y w Tryd.underlying4) rfl)) ?_
    refine rg_put (d := 46) (v := .d (.fl (.bool ((!((ix l k).prepay == (ix l k).prepay)))))) rfl (og rfl (op_pick rfl rfl (by rw [(not_f (eq_self_s _))]; rfl) rfl)) ?_
    refine rg_put (d := 47) (v := .d (.fl (.bool ((!((ix l k).prepay == (ix l k).prepay)))))) rfl (og rfl (op_move rfl rfl rfl)) ?_
    refine rg_put (d := 48) (v := .pt 101 4) rfl (oy rfl rfl rfl (not_f (beq_self_eq_true _)) (of_eff (s_field_pt rfl Tryd.underlying29 rfl ti27 rfl rfl rfl) rfl)) ?_
    refine rg_put (d := 49) (v := .d (.ag (eRf ((ix l k).refill)))) rfl (oy rfl rfl rfl (not_f (beq_self_eq_true _)) (of_eff (s_load_pts rfl Tryd.underlying27 rfl ti27 rfl rfl rfl rfl) rfl)) ?_
    refine rg_put (d := 50) (v := .pt 102 4) rfl (oy rfl rfl rfl (not_f (beq_self_eq_true _)) (of_eff (s_field_pt rfl Tryd.underlying29 rfl ti27 rfl rfl rfl) rfl)) ?_
    refine rg_put (d := 51) (v := .d (.ag (eRf ((ix l k).refill)))) rfl (oy rfl rfl rfl (not_f (beq_self_eq_true _)) (of_eff (s_load_pts rfl Tryd.underlying27 rfl ti27 rfl rfl rfl rfl) rfl)) ?_
    refine rg_put (d := 52) (v := .d (.fl (.bool false))) rfl (oy rfl rfl rfl (not_f (beq_self_eq_true _)) (op_eqS [.int .i64 (((ix l k).refill).below), .int .i64 (((ix l k).refill).cents), .int .i64 (((ix l k).refill).tries), .int .i64 (((ix l k).refill).wait)] [.int .i64 (((ix l k).refill).below), .int .i64 (((ix l k).refill).cents), .int .i64 (((ix l k).refill).tries), .int .i64 (((ix l k).refill).wait)] rfl rfl rfl (b := false) (fun ww => neq27 ((ix l k).refill) _ _ ww) rfl)) ?_
    refine rg_put (d := 53) (v := .d (.fl (.bool false))) rfl (og rfl (op_pick rfl rfl (by rw [(not_f (beq_self_eq_true _))]; rfl) rfl)) ?_
    refine rg_put (d := 54) (v := .d (.fl (.bool false))) rfl (og rfl (op_move rfl rfl rfl)) ?_
    refine rg_put (d := 55) (v := .pt 101 8) rfl (oy rfl rfl rfl rfl (of_eff (s_field_pt rfl Tryd.underlying29 rfl ti4 rfl rfl rfl) rfl)) ?_
    refine rg_put (d := 56) (v := .d (.fl (.bool ((ix l k).exempt)))) rfl (oy rfl rfl rfl rfl (op_load_pt rfl Tryd.underlying4 rfl rfl rfl rfl rfl)) ?_
    refine rg_put (d := 57) (v := .pt 102 8) rfl (oy rfl rfl rfl rfl (of_eff (s_field_pt rfl Tryd.underlying29 rfl ti4 rfl rfl rfl) rfl)) ?_
    refine rg_put (d := 58) (v := .d (.fl (.bool ((ix l k).exempt)))) rfl (oy rfl rfl rfl rfl (op_load_pt rfl Tryd.underlying4 rfl rfl rfl rfl rfl)) ?_
    refine rg_put (d := 59) (v := .d (.fl (.bool ((!((ix l k).exempt == (ix l k).exempt)))))) rfl (oy rfl rfl rfl rfl (op_bin rfl rfl rfl (fun x y w => b_bne _ _ _ x y w Tryd.underlying4) rfl)) ?_
    refine rg_put (d := 60) (v := .d (.fl (.bool ((!((ix l k).exempt == (ix l k).exempt)))))) rfl (og rfl (op_pick rfl rfl rfl rfl)) ?_
    refine rg_put (d := 61) (v := .d (.fl (.bool ((!((ix l k).exempt == (ix l k).exempt)))))) rfl (og rfl (op_move rfl rfl rfl)) ?_
    refine rg_put (d := 62) (v := .pt 101 3) rfl (oy rfl rfl rfl (not_f (beq_self_eq_true _)) (of_eff (s_field_pt rfl Tryd.underlying29 rfl ti25 rfl rfl rfl) rfl)) ?_
    refine rg_put (d := 63) (v := .d (.sl 4 (List.map eOw ((ix l k).owned)))) rfl (oy rfl rfl rfl (not_f (beq_self_eq_true _)) (op_load_pt rfl Tryd.underlying25 rfl rfl rfl rfl rfl)) ?_
    refine rg_put (d := 64) (v := .d (.fl (.int .i64 ((((ix l k).owned).length : Int))))) rfl (oy rfl rfl rfl (not_f (beq_self_eq_true _)) (s_len rfl Tryd.underlying25 rfl rfl)) ?_
    refine rg_put (d := 65) (v := .pt 102 3) rfl (oy rfl rfl rfl (not_f (beq_self_eq_true _)) (of_eff (s_field_pt rfl Tryd.underlying29 rfl ti25 rfl rfl rfl) rfl)) ?_
    refine rg_put (d := 66) (v := .d (.sl 4 (List.map eOw ((ix l k).owned)))) rfl (oy rfl rfl rfl (not_f (beq_self_eq_true _)) (op_load_pt rfl Tryd.underlying25 rfl rfl rfl rfl rfl)) ?_
    refine rg_put (d := 67) (v := .d (.fl (.int .i64 ((((ix l k).owned).length : Int))))) rfl (oy rfl rfl rfl (not_f (beq_self_eq_true _)) (s_len rfl Tryd.underlying25 rfl rfl)) ?_
    refine rg_put (d := 68) (v := .d (.fl (.bool (((((ix l k).owned).length : Int) != (((ix l k).owned).length : Int)))))) rfl (oy rfl rfl rfl (not_f (beq_self_eq_true _)) (op_bin rfl rfl rfl (b_neq _ _ _ _) rfl)) ?_
    refine rg_put (d := 69) (v := .d (.fl (.bool (((((ix l k).owned).length : Int) != (((ix l k).owned).length : Int)))))) rfl (og rfl (op_pick rfl rfl (by rw [(not_f (beq_self_eq_true _))]; rfl) rfl)) ?_
    refine rg_done rfl ?_
    refine a_condF rfl (bne_self_eq_false _) ?_
    refine a_skip ?_
    show A _ _ _ _ _ _ _
    refine a_rseq ?_
    have ho := ha k (by omega)
    refine rg_put (d := 8) (v := .d (.fl (.int .i64 0))) rfl (og rfl (op_assign rfl rfl rfl)) ?_
    refine rg_done rfl ?_
    refine a_block ?_
    refine a_loop (ι := Nat) (fun j => SS [(0, .d (.sl 9 (List.map eAc l))), (1, .d (.sl 9 (List.map eAc l))), (5, .d (.fl (.int .i64 (k : Int)))), (6, .pt 101 0), (7, .pt 102 0), (13, .d (.fl (.bool (((l.length : Int) != (l.length : Int)))))), (17, .d (.fl (.bool ((decide ((k : Int) < (l.length : Int))))))), (69, .d (.fl (.bool (((((ix l k).owned).length : Int) != (((ix l k).owned).length : Int)))))), (8, .d (.fl (.int .i64 (j : Int))))] [(101, .bx 29 ((eAc (ix l k)))), (102, .bx 29 ((eAc (ix l k))))]) (fun j => j ≤ (ix l k).owned.length) (fun j => (ix l k).owned.length - j) 0 (by omega) (imp_forget rfl ⟨rfl, rfl, rfl, rfl, rfl, rfl, rfl, rfl, (by first | rfl | exact ci (by omega) | exact ci (by simp) | exact cd (by simp) | simp), trivial⟩ ⟨rfl, rfl, trivial⟩) (fun j hok => ?_)
    have hkj := hok
    refine a_seq ?_
    refine a_rseq ?_
    refine rg_put (d := 70) (v := .d (.fl (.int .i64 (j : Int)))) rfl (og rfl (op_move rfl rfl rfl)) ?_
    refine rg_put (d := 71) (v := .pt 101 3) rfl (og rfl (of_eff (s_field_pt rfl Tryd.underlying29 rfl ti25 rfl rfl rfl) rfl)) ?_
    refine rg_put (d := 72) (v := .d (.sl 4 (List.map eOw ((ix l k).owned)))) rfl (og rfl (op_load_pt rfl Tryd.underlying25 rfl rfl rfl rfl rfl)) ?_
    refine rg_put (d := 73) (v := .d (.fl (.int .i64 ((((ix l k).owned).length : Int))))) rfl (og rfl (s_len rfl Tryd.underlying25 rfl rfl)) ?_
    refine rg_put (d := 74) (v := .d (.fl (.bool ((decide ((j : Int) < (((ix l k).owned).length : Int))))))) rfl (og rfl (op_bin rfl rfl rfl (b_lss _ _ _ _) rfl)) ?_
    refine rg_done rfl ?_
    refine a_cond rfl (fun h3 => ?_) (fun h3 => ?_)
    · skip
      have h4 := t_dec h3
      refine a_skip ?_
      show A _ _ _ _ _ _ _
      refine a_seq ?_
      refine a_block ?_
      refine a_dseq (by kernel_rfl) ?_
      refine dr_put (d := 77) (v := .pt 101 3) rfl (og rfl (of_eff (s_field_pt rfl Tryd.underlying29 rfl ti25 rfl rfl rfl) rfl)) ?_
      refine dr_put (d := 78) (v := .d (.sl 4 (List.map eOw ((ix l k).owned)))) rfl (og rfl (op_load_pt rfl Tryd.underlying25 rfl rfl rfl rfl rfl)) ?_
      refine dr_put (d := 79) (v := .d (.fl (.int .i64 (j : Int)))) rfl (og rfl (op_move rfl rfl rfl)) ?_
      refine dr_put (d := 80) (v := .el ((eOw ((ix ((ix l k).owned) j))))) rfl (og rfl (s_index rfl Tryd.underlying25 ti48 rfl rfl (by omega) (row_at (by omega)) rfl)) ?_
      refine dr_put (d := 81) (v := .d (.ag (eOw (((ix ((ix l k).owned) j)))))) rfl (og rfl (of_eff (s_load_els rfl Tryd.underlying48 rfl ti48 rfl rfl rfl) rfl)) ?_
      refine dr_put (d := 82) (v := .pt 102 3) rfl (og rfl (of_eff (s_field_pt rfl Tryd.underlying29 rfl ti25 rfl rfl rfl) rfl)) ?_
      refine dr_put (d := 83) (v := .d (.sl 4 (List.map eOw ((ix l k).owned)))) rfl (og rfl (op_load_pt rfl Tryd.underlying25 rfl rfl rfl rfl rfl)) ?_
      refine dr_put (d := 84) (v := .d (.fl (.int .i64 (j : Int)))) rfl (og rfl (op_move rfl rfl rfl)) ?_
      refine dr_put (d := 85) (v := .el ((eOw ((ix ((ix l k).owned) j))))) rfl (og rfl (s_index rfl Tryd.underlying25 ti48 rfl rfl (by omega) (row_at (by omega)) rfl)) ?_
      refine dr_put (d := 86) (v := .d (.ag (eOw (((ix ((ix l k).owned) j)))))) rfl (og rfl (of_eff (s_load_els rfl Tryd.underlying48 rfl ti48 rfl rfl rfl) rfl)) ?_
      refine dr_put (d := 87) (v := .d (.fl (.bool false))) rfl (og rfl (op_eqS [.string ((((ix ((ix l k).owned) j))).tag), .string ((((ix ((ix l k).owned) j))).plate), .int .i64 (((((ix ((ix l k).owned) j))).time).fr), .int .i64 (((((ix ((ix l k).owned) j))).time).to)] [.string ((((ix ((ix l k).owned) j))).tag), .string ((((ix ((ix l k).owned) j))).plate), .int .i64 (((((ix ((ix l k).owned) j))).time).fr), .int .i64 (((((ix ((ix l k).owned) j))).time).to)] rfl rfl rfl (b := false) (fun ww => neq48 (((ix ((ix l k).owned) j))) _ _ ww) rfl)) ?_
      refine dr_done rfl (by kernel_rfl) (by kernel_rfl) ?_
      refine a_condF rfl rfl ?_
      refine a_skip ?_
      show A _ _ _ _ _ _ _
      refine a_region ?_
      refine rg_put (d := 75) (v := .d (.fl (.int .i64 (j : Int)))) rfl (og rfl (op_move rfl rfl rfl)) ?_
      refine rg_put (d := 76) (v := .d (.fl (.int .i64 (((j : Int) + 1))))) rfl (og rfl (op_bin rfl rfl rfl (fun x y w => b_add64 _ _ _ x y w (by omega)) rfl)) ?_
      refine rg_put (d := 8) (v := .d (.fl (.int .i64 (((j : Int) + 1))))) rfl (og rfl (op_assign rfl rfl rfl)) ?_
      refine rg_done rfl ?_
      show ∃ i, _ ∧ _ ∧ Imp _ _ _ _ _
      refine ⟨j + 1, (by omega), by omega, imp_forget rfl ⟨rfl, rfl, rfl, rfl, rfl, rfl, rfl, rfl, (by first | rfl | exact ci (by omega) | exact ci (by simp) | exact cd (by simp) | simp), trivial⟩ ⟨rfl, rfl, trivial⟩⟩
    · skip
      have h5 := f_dec h3
      refine a_exit ?_
      show A _ _ _ _ _ _ _
      refine a_region ?_
      refine rg_put (d := 18) (v := .d (.fl (.int .i64 (k : Int)))) rfl (og rfl (op_move rfl rfl rfl)) ?_
      refine rg_put (d := 19) (v := .d (.fl (.int .i64 (((k : Int) + 1))))) rfl (og rfl (op_bin rfl rfl rfl (fun x y w => b_add64 _ _ _ x y w (by omega)) rfl)) ?_
      refine rg_put (d := 5) (v := .d (.fl (.int .i64 (((k : Int) + 1))))) rfl (og rfl (op_assign rfl rfl rfl)) ?_
      refine rg_done rfl ?_
      show ∃ i, _ ∧ _ ∧ Imp _ _ _ _ _
      refine ⟨k + 1, (by omega), by omega, imp_forget rfl ⟨rfl, rfl, rfl, (by first | rfl | exact ci (by omega) | exact ci (by simp) | exact cd (by simp) | simp), trivial⟩ trivial⟩
  · skip
    have h6 := f_dec h1
    refine a_exit ?_
    show A _ _ _ _ _ _ _
    refine a_rseq ?_
    refine rg_put (d := 4) (v := .d (.fl (.bool true))) rfl (og rfl (op_assign rfl rfl rfl)) ?_
    refine rg_done rfl ?_
    refine a_ret ?_
    show ∃ ds, ResL _ _ _ ds ∧ RV.of ds = _
    refine ⟨[.fl (.bool true)], (.cons (.tmp rfl (.d _)) .nil), ?_⟩
    rfl
theorem fin_in (l : List Ac) (s : ByteArray) (ha : ∀ q, q < l.length → (ix l q).owned.length ≤ 80) : ∀ q, q < [(fin_ l s).1].length → (ix [(fin_ l s).1] q).owned.length ≤ 80 := by
  intro q hq
  have h0 : q = 0 := by simp at hq; omega
  subst h0
  show (fin_ l s).1.owned.length ≤ 80
  have := ai_in l s
  unfold fin_
  by_cases h : ai l s < 0
  · rw [if_pos h]; simp
  · rw [if_neg h]; exact ha _ (by omega)
set_option maxHeartbeats 4000000 in
set_option maxRecDepth 100000 in
theorem law3 (l : List Ac) (s : ByteArray) (t : Int) : Ctr Tryd.prog 3 [.sl 9 (List.map eAc l), .fl (.string s), .fl (.int .i64 t)] (.d (.fl (.bool true))) := by
  refine ctr (n := 67) (rs := #[.tmp 6]) (L := [(0, .d (.sl 9 (List.map eAc l))), (1, .d (.fl (.string s))), (2, .d (.fl (.int .i64 t)))]) Tryd.func3 rfl rfl rfl rfl rfl (fun w0 U0 => ?_)
  refine a_rseq ?_
  refine rg_put (d := 6) (v := .d (.fl (.bool false))) rfl (og rfl (op_assign rfl rfl rfl)) ?_
  refine rg_done rfl ?_
  refine a_seq ?_
  refine a_rseq ?_
  refine rg_put (d := 15) (v := .d (.sl 9 (List.map eAc l))) rfl (og rfl (op_move rfl rfl rfl)) ?_
  refine rg_put (d := 16) (v := .d (.fl (.bool (grt l)))) rfl (og rfl (op_call rfl Tryd.func7 nm7 rfl (.cons rfl (.d _) .nil) (grt7 l) rfl)) ?_
  refine rg_done rfl ?_
  refine a_cond rfl (fun h1 => ?_) (fun h1 => ?_)
  · skip
    refine a_rseq ?_
    refine rg_put (d := 17) (v := .d (.fl (.bool true))) rfl (og rfl (op_call rfl Tryd.func8 nm8 rfl .nil alive8 rfl)) ?_
    refine rg_put (d := 6) (v := .d (.fl (.bool true))) rfl (og rfl (op_assign rfl rfl rfl)) ?_
    refine rg_done rfl ?_
    refine a_ret ?_
    show ∃ ds, ResL _ _ _ ds ∧ RV.of ds = _
    refine ⟨[.fl (.bool true)], (.cons (.tmp rfl (.d _)) .nil), ?_⟩
    rfl
  · skip
    refine a_skip ?_
    show A _ _ _ _ _ _ _
    refine a_rseq ?_
    have hg := grt_f h1
    have ha := hg.2
    have hf : ∀ q, q < [(fin_ l s).1].length → (ix [(fin_ l s).1] q).owned.length ≤ 80 := fin_in l s hg.2
    refine rg_put (d := 19) (v := .d (.sl 9 (List.map eAc l))) rfl (og rfl (op_move rfl rfl rfl)) ?_
    refine rg_put (d := 20) (v := .d (.fl (.string s))) rfl (og rfl (op_move rfl rfl rfl)) ?_
    refine rg_put (d := 21) (v := .tu [.ag (eAc ((fin_ l s).1)), .fl (.bool ((fin_ l s).2))]) rfl (og rfl (op_call rfl Tryd.func9 nm9 rfl (.cons rfl (.d _) (.cons rfl (.d _) .nil)) (fiP l s (by omega) hg.2) rfl)) ?_
    refine rg_put (d := 18) (v := .tu [.ag (eAc ((fin_ l s).1)), .fl (.bool ((fin_ l s).2))]) rfl (og rfl (op_move rfl rfl rfl)) ?_
    refine rg_put (d := 22) (v := .d (.ag (eAc ((fin_ l s).1)))) rfl (og rfl (op_extract rfl rfl rfl rfl)) ?_
    refine rg_put (d := 23) (v := .d (.fl (.bool ((fin_ l s).2)))) rfl (og rfl (op_extract rfl rfl rfl rfl)) ?_
    refine rg_nam (d := 7) (v := .pt 101 0) (m := 101) (nw := [(101, .bx 29 ([.fl (.string (⟨#[]⟩)), .fl (.string (⟨#[]⟩)), .fl (.bool false), .fl (.slice none 0 0), .fl (.int .i64 0), .fl (.int .i64 0), .fl (.int .i64 0), .fl (.int .i64 0), .fl (.bool false)]))]) rfl (og rfl (of_eff (s_alloc 101 rfl ti29 (by kernel_rfl) rfl) rfl)) rfl ?_
    refine rg_sto (nw := [(101, .bx 29 ((eAc ((fin_ l s).1))))]) rfl (og rfl (of_eff (s_store rfl rfl ti29 rfl rfl rfl rfl rfl rfl) rfl)) ?_
    refine rg_put (d := 8) (v := .d (.fl (.bool ((fin_ l s).2)))) rfl (og rfl (op_assign rfl rfl rfl)) ?_
    refine rg_done rfl ?_
    refine a_rseq ?_
    refine rg_put (d := 25) (v := .d (.sl 9 (List.map eAc l))) rfl (og rfl (op_move rfl rfl rfl)) ?_
    refine rg_put (d := 26) (v := .d (.fl (.string s))) rfl (og rfl (op_move rfl rfl rfl)) ?_
    refine rg_put (d := 27) (v := .tu [.ag (eAc ((fin_ l s).1)), .fl (.bool ((fin_ l s).2))]) rfl (og rfl (op_call rfl Tryd.func10 nm10 rfl (.cons rfl (.d _) (.cons rfl (.d _) .nil)) (fiR l s (by omega) hg.2) rfl)) ?_
    refine rg_put (d := 24) (v := .tu [.ag (eAc ((fin_ l s).1)), .fl (.bool ((fin_ l s).2))]) rfl (og rfl (op_move rfl rfl rfl)) ?_
    refine rg_put (d := 28) (v := .d (.ag (eAc ((fin_ l s).1)))) rfl (og rfl (op_extract rfl rfl rfl rfl)) ?_
    refine rg_put (d := 29) (v := .d (.fl (.bool ((fin_ l s).2)))) rfl (og rfl (op_extract rfl rfl rfl rfl)) ?_
    refine rg_nam (d := 9) (v := .pt 102 0) (m := 102) (nw := [(102, .bx 29 ([.fl (.string (⟨#[]⟩)), .fl (.string (⟨#[]⟩)), .fl (.bool false), .fl (.slice none 0 0), .fl (.int .i64 0), .fl (.int .i64 0), .fl (.int .i64 0), .fl (.int .i64 0), .fl (.bool false)]))]) rfl (og rfl (of_eff (s_alloc 102 rfl ti29 (by kernel_rfl) rfl) rfl)) rfl ?_
    refine rg_sto (nw := [(102, .bx 29 ((eAc ((fin_ l s).1))))]) rfl (og rfl (of_eff (s_store rfl rfl ti29 rfl rfl rfl rfl rfl rfl) rfl)) ?_
    refine rg_put (d := 10) (v := .d (.fl (.bool ((fin_ l s).2)))) rfl (og rfl (op_assign rfl rfl rfl)) ?_
    refine rg_done rfl ?_
    refine a_rseq ?_
    refine rg_put (d := 31) (v := .d (.sl 9 (List.map eAc l))) rfl (og rfl (op_move rfl rfl rfl)) ?_
    refine rg_put (d := 32) (v := .d (.fl (.string s))) rfl (og rfl (op_move rfl rfl rfl)) ?_
    refine rg_put (d := 33) (v := .d (.fl (.int .i64 t))) rfl (og rfl (op_move rfl rfl rfl)) ?_
    refine rg_put (d := 34) (v := .tu [.fl (.string ((own l s t).1)), .fl (.bool ((own l s t).2))]) rfl (og rfl (op_call rfl Tryd.func11 nm11 rfl (.cons rfl (.d _) (.cons rfl (.d _) (.cons rfl (.d _) .nil))) (owP l s t (by omega) ha) rfl)) ?_
    refine rg_put (d := 30) (v := .tu [.fl (.string ((own l s t).1)), .fl (.bool ((own l s t).2))]) rfl (og rfl (op_move rfl rfl rfl)) ?_
    refine rg_put (d := 35) (v := .d (.fl (.string ((own l s t).1)))) rfl (og rfl (op_extract rfl rfl rfl rfl)) ?_
    refine rg_put (d := 36) (v := .d (.fl (.bool ((own l s t).2)))) rfl (og rfl (op_extract rfl rfl rfl rfl)) ?_
    refine rg_put (d := 11) (v := .d (.fl (.string ((own l s t).1)))) rfl (og rfl (op_assign rfl rfl rfl)) ?_
    refine rg_put (d := 12) (v := .d (.fl (.bool ((own l s t).2)))) rfl (og rfl (op_assign rfl rfl rfl)) ?_
    refine rg_done rfl ?_
    refine a_rseq ?_
    refine rg_put (d := 38) (v := .d (.sl 9 (List.map eAc l))) rfl (og rfl (op_move rfl rfl rfl)) ?_
    refine rg_put (d := 39) (v := .d (.fl (.string s))) rfl (og rfl (op_move rfl rfl rfl)) ?_
    refine rg_put (d := 40) (v := .d (.fl (.int .i64 t))) rfl (og rfl (op_move rfl rfl rfl)) ?_
    refine rg_put (d := 41) (v := .tu [.fl (.string ((own l s t).1)), .fl (.bool ((own l s t).2))]) rfl (og rfl (op_call rfl Tryd.func12 nm12 rfl (.cons rfl (.d _) (.cons rfl (.d _) (.cons rfl (.d _) .nil))) (owR l s t (by omega) ha) rfl)) ?_
    refine rg_put (d := 37) (v := .tu [.fl (.string ((own l s t).1)), .fl (.bool ((own l s t).2))]) rfl (og rfl (op_move rfl rfl rfl)) ?_
    refine rg_put (d := 42) (v := .d (.fl (.string ((own l s t).1)))) rfl (og rfl (op_extract rfl rfl rfl rfl)) ?_
    refine rg_put (d := 43) (v := .d (.fl (.bool ((own l s t).2)))) rfl (og rfl (op_extract rfl rfl rfl rfl)) ?_
    refine rg_put (d := 13) (v := .d (.fl (.string ((own l s t).1)))) rfl (og rfl (op_assign rfl rfl rfl)) ?_
    refine rg_put (d := 14) (v := .d (.fl (.bool ((own l s t).2)))) rfl (og rfl (op_assign rfl rfl rfl)) ?_
    refine rg_done rfl ?_
    refine a_rseq ?_
    refine rg_put (d := 44) (v := .d (.fl (.bool ((fin_ l s).2)))) rfl (og rfl (op_move rfl rfl rfl)) ?_
    refine rg_put (d := 45) (v := .d (.fl (.bool ((fin_ l s).2)))) rfl (og rfl (op_move rfl rfl rfl)) ?_
    refine rg_put (d := 46) (v := .d (.fl (.bool (((fin_ l s).2 == (fin_ l s).2))))) rfl (og rfl (op_bin rfl rfl rfl (fun x y w => b_beq _ _ _ x y w Tryd.underlying4) rfl)) ?_
    refine rg_put (d := 47) (v := .d (.fl (.bool (((fin_ l s).2 == (fin_ l s).2))))) rfl (og rfl (op_move rfl rfl rfl)) ?_
    refine rg_put (d := 48) (v := .d (.ag (eAc ((fin_ l s).1)))) rfl (oy rfl rfl rfl (beq_self_eq_true _) (of_eff (s_load_pts rfl Tryd.underlying29 rfl ti29 rfl rfl rfl rfl) rfl)) ?_
    refine rg_put (d := 49) (v := .d (.sl 9 (List.map eAc [(fin_ l s).1]))) rfl (oy rfl rfl rfl (beq_self_eq_true _) (of_eff (op_slices rfl Tryd.underlying22 ti29 rfl rfl rfl (by kernel_rfl) (xs := [.ag (eAc ((fin_ l s).1))]) rfl rfl (.cons rfl rfl (.d _) rfl rfl rfl .nil) rfl) rfl)) ?_
    refine rg_put (d := 50) (v := .d (.ag (eAc ((fin_ l s).1)))) rfl (oy rfl rfl rfl (beq_self_eq_true _) (of_eff (s_load_pts rfl Tryd.underlying29 rfl ti29 rfl rfl rfl rfl) rfl)) ?_
    refine rg_put (d := 51) (v := .d (.sl 9 (List.map eAc [(fin_ l s).1]))) rfl (oy rfl rfl rfl (beq_self_eq_true _) (of_eff (op_slices rfl Tryd.underlying22 ti29 rfl rfl rfl (by kernel_rfl) (xs := [.ag (eAc ((fin_ l s).1))]) rfl rfl (.cons rfl rfl (.d _) rfl rfl rfl .nil) rfl) rfl)) ?_
    refine rg_put (d := 52) (v := .d (.fl (.bool true))) rfl (oy rfl rfl rfl (beq_self_eq_true _) (op_call rfl Tryd.func13 nm13 rfl (.cons rfl (.d _) (.cons rfl (.d _) .nil)) (same13 [(fin_ l s).1] (by simp) (fun q h => hf q h)) rfl)) ?_
    refine rg_put (d := 53) (v := .d (.fl (.bool true))) rfl (og rfl (op_pick rfl rfl (by rw [(beq_self_eq_true _)]; rfl) rfl)) ?_
    refine rg_put (d := 54) (v := .d (.fl (.bool true))) rfl (og rfl (op_move rfl rfl rfl)) ?_
    refine rg_put (d := 55) (v := .d (.fl (.string ((own l s t).1)))) rfl (oy rfl rfl rfl rfl (op_move rfl rfl rfl)) ?_
    refine rg_put (d := 56) (v := .d (.fl (.string ((own l s t).1)))) rfl (oy rfl rfl rfl rfl (op_move rfl rfl rfl)) ?_
    refine rg_put (d := 57) (v := .d (.fl (.bool ((sEq ((own l s t).1) ((own l s t).1)))))) rfl (oy rfl rfl rfl rfl (op_bin rfl rfl rfl (b_seq _ _ _) rfl)) ?_
    refine rg_put (d := 58) (v := .d (.fl (.bool ((sEq ((own l s t).1) ((own l s t).1)))))) rfl (og rfl (op_pick rfl rfl rfl rfl)) ?_
    refine rg_put (d := 59) (v := .d (.fl (.bool ((sEq ((own l s t).1) ((own l s t).1)))))) rfl (og rfl (op_move rfl rfl rfl)) ?_
    refine rg_put (d := 60) (v := .d (.fl (.bool ((own l s t).2)))) rfl (oy rfl rfl rfl (eq_self_s _) (op_move rfl rfl rfl)) ?_
    refine rg_put (d := 61) (v := .d (.fl (.bool ((own l s t).2)))) rfl (oy rfl rfl rfl (eq_self_s _) (op_move rfl rfl rfl)) ?_
    refine rg_put (d := 62) (v := .d (.fl (.bool (((own l s t).2 == (own l s t).2))))) rfl (oy rfl rfl rfl (eq_self_s _) (op_bin rfl rfl rfl (fun x y w => b_beq _ _ _ x y w Tryd.underlying4) rfl)) ?_
    refine rg_put (d := 63) (v := .d (.fl (.bool (((own l s t).2 == (own l s t).2))))) rfl (og rfl (op_pick rfl rfl (by rw [(eq_self_s _)]; rfl) rfl)) ?_
    refine rg_put (d := 64) (v := .d (.fl (.bool (((own l s t).2 == (own l s t).2))))) rfl (og rfl (op_move rfl rfl rfl)) ?_
    refine rg_put (d := 65) (v := .d (.fl (.bool true))) rfl (oy rfl rfl rfl (beq_self_eq_true _) (op_call rfl Tryd.func8 nm8 rfl .nil alive8 rfl)) ?_
    refine rg_put (d := 66) (v := .d (.fl (.bool true))) rfl (og rfl (op_pick rfl rfl (by rw [(beq_self_eq_true _)]; rfl) rfl)) ?_
    refine rg_put (d := 6) (v := .d (.fl (.bool true))) rfl (og rfl (op_assign rfl rfl rfl)) ?_
    refine rg_done rfl ?_
    refine a_ret ?_
    show ∃ ds, ResL _ _ _ ds ∧ RV.of ds = _
    refine ⟨[.fl (.bool true)], (.cons (.tmp rfl (.d _)) .nil), ?_⟩
    rfl
end Go.Proofs.YtejkkfmpjafkmaaDoor.Wk
