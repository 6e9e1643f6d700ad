/- The law of what a topology tells. No condition. -/
import Derived.Test.YtlmihhecpaomjaaGreatAl
import Derived.Test.YtlmihhecpaomjaaGreatB6
set_option linter.unusedSimpArgs false
set_option linter.unusedVariables false
namespace Go.Proofs.YtlmihhecpaomjaaGreat.Wk
open Go Go.RowKit Go.Proofs.YtlmihhecpaomjaaGreat.Av
theorem eqI31 (a : Sys) (w : World) : (Op.equalIn 10000 31 (.agg (([.string a.name, .bool a.closed, .int .i64 a.most] : List Value).toArray)) (.agg (([.string a.name, .bool a.closed, .int .i64 a.most] : List Value).toArray))).run Tryz.prog w = .ok true w := by
  have hS : Tryz.prog.underlying 31 = some (.struct (Tryz.prog.fieldsOf 31)) := by kernel_rfl
  have hp : Tryz.prog.stoodInHeld 31 = false := by kernel_rfl
  rw [show (10000 : Nat) = 9999 + 1 from rfl, run_equalIn_agg w 9999 31 _ _ hS hp]
  simp only [Program.fieldsOf, Tryz.underlying31]
  go_simp

theorem eql31 (a : Sys) (x y : Operand) (w : World) : (do eqGuard .eql 31 x y (.agg (([.string a.name, .bool a.closed, .int .i64 a.most] : List Value).toArray)) (.agg (([.string a.name, .bool a.closed, .int .i64 a.most] : List Value).toArray)); binOp .eql 31 (.agg (([.string a.name, .bool a.closed, .int .i64 a.most] : List Value).toArray)) (.agg (([.string a.name, .bool a.closed, .int .i64 a.most] : List Value).toArray)) : Sem Value).run Tryz.prog w = .ok (.bool true) w := by
  have hm : Tryz.prog.eqGuardType Tryz.prog.depth 31 = false := by kernel_rfl
  rw [Sem.run_bind, run_eqGuard_agg w .eql 31 x y _ _ hm, Result.andThen_ok, run_eql_struct, eqI31]
  rfl

theorem neq31 (a : Sys) (x y : Operand) (w : World) : (do eqGuard .neq 31 x y (.agg (([.string a.name, .bool a.closed, .int .i64 a.most] : List Value).toArray)) (.agg (([.string a.name, .bool a.closed, .int .i64 a.most] : List Value).toArray)); binOp .neq 31 (.agg (([.string a.name, .bool a.closed, .int .i64 a.most] : List Value).toArray)) (.agg (([.string a.name, .bool a.closed, .int .i64 a.most] : List Value).toArray)) : Sem Value).run Tryz.prog w = .ok (.bool false) w := by
  have hm : Tryz.prog.eqGuardType Tryz.prog.depth 31 = false := by kernel_rfl
  rw [Sem.run_bind, run_eqGuard_agg w .neq 31 x y _ _ hm, Result.andThen_ok, run_neq_struct, eqI31]
  rfl

set_option maxHeartbeats 4000000 in
set_option maxRecDepth 100000 in
theorem law3 (t : Tpg) (s y : ByteArray) (c : Int) : Ctr Tryz.prog 3 [.ag (eTpg t), .fl (.string s), .fl (.string y), .fl (.int .i64 c)] (.d (.fl (.bool true))) := by
  refine ctr (n := 59) (rs := #[.tmp 8]) (L := [(0, .d (.ag (eTpg t))), (1, .d (.fl (.string s))), (2, .d (.fl (.string y))), (3, .d (.fl (.int .i64 c)))]) Tryz.func3 rfl rfl rfl rfl rfl (fun w0 U0 => ?_)
  refine a_rseq ?_
  refine rg_nam (d := 4) (v := .pt 101 0) (m := 101) (nw := [(101, .bx 28 (eTpg t))]) rfl (og rfl (of_eff (op_box 101 rfl rfl rfl rfl) rfl)) rfl ?_
  refine rg_put (d := 8) (v := .d (.fl (.bool false))) rfl (og rfl (op_assign rfl rfl rfl)) ?_
  refine rg_done rfl ?_
  refine a_seq ?_
  refine a_rseq ?_
  refine rg_put (d := 13) (v := .d (.ag (eTpg t))) rfl (og rfl (of_eff (s_load_pts rfl Tryz.underlying28 rfl ti28 rfl rfl rfl rfl) rfl)) ?_
  refine rg_put (d := 14) (v := .d (.fl (.bool (smlT t)))) rfl (og rfl (op_call rfl Tryz.func4 nm4 rfl (.cons rfl (.d _) .nil) (smlC t) rfl)) ?_
  refine rg_put (d := 15) (v := .d (.fl (.bool ((!(smlT t)))))) rfl (og rfl (op_un rfl rfl (u_not _) rfl)) ?_
  refine rg_done rfl ?_
  refine a_cond rfl (fun h1 => ?_) (fun h1 => ?_)
  · skip
    have h2 := t_not h1
    refine a_rseq ?_
    refine rg_put (d := 8) (v := .d (.fl (.bool true))) rfl (og rfl (op_assign rfl rfl rfl)) ?_
    refine rg_done rfl ?_
    refine a_ret ?_
    show ∃ ds, ResL _ _ _ ds ∧ RV.of ds = _
    refine ⟨[.fl (.bool true)], (.cons (.tmp rfl (.d _)) .nil), ?_⟩
    rfl
  · skip
    have h3 := f_not h1
    refine a_skip ?_
    show A _ _ _ _ _ _ _
    refine a_rseq ?_
    refine rg_put (d := 17) (v := .d (.ag (eTpg t))) rfl (og rfl (of_eff (s_load_pts rfl Tryz.underlying28 rfl ti28 rfl rfl rfl rfl) rfl)) ?_
    refine rg_put (d := 18) (v := .d (.fl (.string s))) rfl (og rfl (op_move rfl rfl rfl)) ?_
    refine rg_put (d := 19) (v := .tu [.ag (eSys ((sR t s).1)), .fl (.bool ((sR t s).2))]) rfl (og rfl (op_call rfl Tryz.func5 nm5 rfl (.cons rfl (.d _) (.cons rfl (.d _) .nil)) (sysC t s) rfl)) ?_
    refine rg_put (d := 16) (v := .tu [.ag (eSys ((sR t s).1)), .fl (.bool ((sR t s).2))]) rfl (og rfl (op_move rfl rfl rfl)) ?_
    refine rg_put (d := 20) (v := .d (.ag (eSys ((sR t s).1)))) rfl (og rfl (op_extract rfl rfl rfl rfl)) ?_
    refine rg_put (d := 21) (v := .d (.fl (.bool ((sR t s).2)))) rfl (og rfl (op_extract rfl rfl rfl rfl)) ?_
    refine rg_nam (d := 9) (v := .pt 102 0) (m := 102) (nw := [(102, .bx 31 ([.fl (.string (⟨#[]⟩)), .fl (.bool false), .fl (.int .i64 0)]))]) rfl (og rfl (of_eff (s_alloc 102 rfl ti31 (by kernel_rfl) rfl) rfl)) rfl ?_
    refine rg_sto (nw := [(102, .bx 31 ((eSys ((sR t s).1))))]) rfl (og rfl (of_eff (s_store rfl rfl ti31 rfl rfl rfl rfl rfl rfl) rfl)) ?_
    refine rg_put (d := 10) (v := .d (.fl (.bool ((sR t s).2)))) rfl (og rfl (op_assign rfl rfl rfl)) ?_
    refine rg_done rfl ?_
    refine a_rseq ?_
    refine rg_put (d := 23) (v := .d (.ag (eTpg t))) rfl (og rfl (of_eff (s_load_pts rfl Tryz.underlying28 rfl ti28 rfl rfl rfl rfl) rfl)) ?_
    refine rg_put (d := 24) (v := .d (.fl (.string s))) rfl (og rfl (op_move rfl rfl rfl)) ?_
    refine rg_put (d := 25) (v := .tu [.ag (eSys ((sR t s).1)), .fl (.bool ((sR t s).2))]) rfl (og rfl (op_call rfl Tryz.func6 nm6 rfl (.cons rfl (.d _) (.cons rfl (.d _) .nil)) (sysR t s) rfl)) ?_
    refine rg_put (d := 22) (v := .tu [.ag (eSys ((sR t s).1)), .fl (.bool ((sR t s).2))]) rfl (og rfl (op_move rfl rfl rfl)) ?_
    refine rg_put (d := 26) (v := .d (.ag (eSys ((sR t s).1)))) rfl (og rfl (op_extract rfl rfl rfl rfl)) ?_
    refine rg_put (d := 27) (v := .d (.fl (.bool ((sR t s).2)))) rfl (og rfl (op_extract rfl rfl rfl rfl)) ?_
    refine rg_nam (d := 11) (v := .pt 103 0) (m := 103) (nw := [(103, .bx 31 ([.fl (.string (⟨#[]⟩)), .fl (.bool false), .fl (.int .i64 0)]))]) rfl (og rfl (of_eff (s_alloc 103 rfl ti31 (by kernel_rfl) rfl) rfl)) rfl ?_
    refine rg_sto (nw := [(103, .bx 31 ((eSys ((sR t s).1))))]) rfl (og rfl (of_eff (s_store rfl rfl ti31 rfl rfl rfl rfl rfl rfl) rfl)) ?_
    refine rg_put (d := 12) (v := .d (.fl (.bool ((sR t s).2)))) rfl (og rfl (op_assign rfl rfl rfl)) ?_
    refine rg_done rfl ?_
    refine a_dseq (by kernel_rfl) ?_
    refine dr_put (d := 28) (v := .d (.ag (eSys ((sR t s).1)))) rfl (og rfl (of_eff (s_load_pts rfl Tryz.underlying31 rfl ti31 rfl rfl rfl rfl) rfl)) ?_
    refine dr_put (d := 29) (v := .d (.ag (eSys ((sR t s).1)))) rfl (og rfl (of_eff (s_load_pts rfl Tryz.underlying31 rfl ti31 rfl rfl rfl rfl) rfl)) ?_
    refine dr_put (d := 30) (v := .d (.fl (.bool true))) rfl (og rfl (op_eqS [.string (((sR t s).1).name), .bool (((sR t s).1).closed), .int .i64 (((sR t s).1).most)] [.string (((sR t s).1).name), .bool (((sR t s).1).closed), .int .i64 (((sR t s).1).most)] rfl rfl rfl (b := true) (fun ww => eql31 ((sR t s).1) _ _ ww) rfl)) ?_
    refine dr_put (d := 31) (v := .d (.fl (.bool true))) rfl (og rfl (op_move rfl rfl rfl)) ?_
    refine dr_put (d := 32) (v := .d (.fl (.bool ((sR t s).2)))) rfl (oy rfl rfl rfl rfl (op_move rfl rfl rfl)) ?_
    refine dr_put (d := 33) (v := .d (.fl (.bool ((sR t s).2)))) rfl (oy rfl rfl rfl rfl (op_move rfl rfl rfl)) ?_
    refine dr_put (d := 34) (v := .d (.fl (.bool (((sR t s).2 == (sR t s).2))))) rfl (oy rfl rfl rfl rfl (op_bin rfl rfl rfl (fun x y w => b_beq _ _ _ x y w Tryz.underlying4) rfl)) ?_
    refine dr_put (d := 35) (v := .d (.fl (.bool (((sR t s).2 == (sR t s).2))))) rfl (og rfl (op_pick rfl rfl rfl rfl)) ?_
    refine dr_put (d := 36) (v := .d (.fl (.bool (((sR t s).2 == (sR t s).2))))) rfl (og rfl (op_move rfl rfl rfl)) ?_
    refine dr_put (d := 37) (v := .d (.ag (eTpg t))) rfl (oy rfl rfl rfl (beq_self_eq_true _) (of_eff (s_load_pts rfl Tryz.underlying28 rfl ti28 rfl rfl rfl rfl) rfl)) ?_
    refine dr_put (d := 38) (v := .d (.fl (.string s))) rfl (oy rfl rfl rfl (beq_self_eq_true _) (op_move rfl rfl rfl)) ?_
    refine dr_put (d := 39) (v := .d (.fl (.int .i64 ((kd (kn t) s))))) rfl (oy rfl rfl rfl (beq_self_eq_true _) (op_call rfl Tryz.func7 nm7 rfl (.cons rfl (.d _) (.cons rfl (.d _) .nil)) (kindC t s) rfl)) ?_
    refine dr_put (d := 40) (v := .d (.ag (eTpg t))) rfl (oy rfl rfl rfl (beq_self_eq_true _) (of_eff (s_load_pts rfl Tryz.underlying28 rfl ti28 rfl rfl rfl rfl) rfl)) ?_
    refine dr_put (d := 41) (v := .d (.fl (.string s))) rfl (oy rfl rfl rfl (beq_self_eq_true _) (op_move rfl rfl rfl)) ?_
    refine dr_put (d := 42) (v := .d (.fl (.int .i64 ((kd (kn t) s))))) rfl (oy rfl rfl rfl (beq_self_eq_true _) (op_call rfl Tryz.func8 nm8 rfl (.cons rfl (.d _) (.cons rfl (.d _) .nil)) (kind_r t s) rfl)) ?_
    refine dr_put (d := 43) (v := .d (.fl (.bool (((kd (kn t) s) == (kd (kn t) s)))))) rfl (oy rfl rfl rfl (beq_self_eq_true _) (op_bin rfl rfl rfl (b_eql _ _ _ _) rfl)) ?_
    refine dr_put (d := 44) (v := .d (.fl (.bool (((kd (kn t) s) == (kd (kn t) s)))))) rfl (og rfl (op_pick rfl rfl (by rw [(beq_self_eq_true _)]; rfl) rfl)) ?_
    refine dr_put (d := 45) (v := .d (.fl (.bool (((kd (kn t) s) == (kd (kn t) s)))))) rfl (og rfl (op_move rfl rfl rfl)) ?_
    refine dr_put (d := 46) (v := .d (.ag (eTpg t))) rfl (oy rfl rfl rfl (beq_self_eq_true _) (of_eff (s_load_pts rfl Tryz.underlying28 rfl ti28 rfl rfl rfl rfl) rfl)) ?_
    refine dr_put (d := 47) (v := .d (.fl (.string y))) rfl (oy rfl rfl rfl (beq_self_eq_true _) (op_move rfl rfl rfl)) ?_
    refine dr_put (d := 48) (v := .d (.fl (.int .i64 c))) rfl (oy rfl rfl rfl (beq_self_eq_true _) (op_move rfl rfl rfl)) ?_
    refine dr_put (d := 49) (v := .d (.sl 1 (List.map rS ((srtS (pn (kn t) y c (kn t).length)))))) rfl (oy rfl rfl rfl (beq_self_eq_true _) (op_call rfl Tryz.func10 nm10 rfl (.cons rfl (.d _) (.cons rfl (.d _) (.cons rfl (.d _) .nil))) (ptsC t y c) rfl)) ?_
    refine dr_put (d := 50) (v := .d (.ag (eTpg t))) rfl (oy rfl rfl rfl (beq_self_eq_true _) (of_eff (s_load_pts rfl Tryz.underlying28 rfl ti28 rfl rfl rfl rfl) rfl)) ?_
    refine dr_put (d := 51) (v := .d (.fl (.string y))) rfl (oy rfl rfl rfl (beq_self_eq_true _) (op_move rfl rfl rfl)) ?_
    refine dr_put (d := 52) (v := .d (.fl (.int .i64 c))) rfl (oy rfl rfl rfl (beq_self_eq_true _) (op_move rfl rfl rfl)) ?_
    refine dr_put (d := 53) (v := .d (.sl 1 (List.map rS ((srtS (pn (kn t) y c (kn t).length)))))) rfl (oy rfl rfl rfl (beq_self_eq_true _) (op_call rfl Tryz.func11 nm11 rfl (.cons rfl (.d _) (.cons rfl (.d _) (.cons rfl (.d _) .nil))) (ptsR t y c) rfl)) ?_
    refine dr_put (d := 54) (v := .d (.fl (.bool true))) rfl (oy rfl rfl rfl (beq_self_eq_true _) (op_call rfl Tryz.func9 nm9 rfl (.cons rfl (.d _) (.cons rfl (.d _) .nil)) (sameS ((srtS (pn (kn t) y c (kn t).length))) (by rw [srtS_len]; have := pn_len (kn t) y c (kn t).length; have := kn_len t; omega)) rfl)) ?_
    refine dr_put (d := 55) (v := .d (.fl (.bool true))) rfl (og rfl (op_pick rfl rfl (by rw [(beq_self_eq_true _)]; rfl) rfl)) ?_
    refine dr_put (d := 56) (v := .d (.fl (.bool true))) rfl (og rfl (op_move rfl rfl rfl)) ?_
    refine dr_put (d := 57) (v := .d (.fl (.bool true))) rfl (oy rfl rfl rfl rfl (op_call rfl Tryz.func12 nm12 rfl .nil alive12 rfl)) ?_
    refine dr_put (d := 58) (v := .d (.fl (.bool true))) rfl (og rfl (op_pick rfl rfl rfl rfl)) ?_
    refine dr_put (d := 8) (v := .d (.fl (.bool true))) rfl (og rfl (op_assign rfl rfl rfl)) ?_
    refine dr_done rfl (sepB_of [0, 0, 3, 7, 15, 15, 63, 127, 255, 511, 511, 2047, 511, 511, 16383, 32767, 65535, 131071, 262143, 262143, 262143, 2097151, 262143, 262143, 262143, 33554431, 67108863, 134217727, 268435455, 536870911, 1073741823, 2147483647] (by kernel_rfl)) (by kernel_rfl) ?_
    refine a_ret ?_
    show ∃ ds, ResL _ _ _ ds ∧ RV.of ds = _
    refine ⟨[.fl (.bool true)], (.cons (.tmp rfl (.d _)) .nil), ?_⟩
    rfl
end Go.Proofs.YtlmihhecpaomjaaGreat.Wk
