/- Rates of a place, tariffs held against themselves. No condition. -/
import Derived.Test.YtgcagigpolnjfaaB2
set_option linter.unusedSimpArgs false
set_option linter.unusedVariables false
namespace Go.Proofs.Ytgcagigpolnjfaa.Wk
open Go Go.RowKit Go.Proofs.Ytgcagigpolnjfaa.Av
theorem eqG46 (a b : Rt) (w : World) : (Op.equalIn 10000 46 (.agg (([.string a.fr, .string a.to, .int .i64 a.cls, .string a.band, .int .i64 a.cents] : List Value).toArray)) (.agg (([.string b.fr, .string b.to, .int .i64 b.cls, .string b.band, .int .i64 b.cents] : List Value).toArray))).run Try.prog w = .ok (eR a b) w := by
  have hS : Try.prog.underlying 46 = some (.struct (Try.prog.fieldsOf 46)) := by kernel_rfl
  have hp : Try.prog.stoodInHeld 46 = false := by kernel_rfl
  unfold eR
  rw [show (10000 : Nat) = 9999 + 1 from rfl, run_equalIn_agg w 9999 46 _ _ hS hp]
  simp only [Program.fieldsOf, Try.underlying46]
  simp only [← toList_sEq]
  by_cases h1 : a.fr.toList == b.fr.toList <;> by_cases h2 : a.to.toList == b.to.toList <;> by_cases h3 : a.cls == b.cls <;> by_cases h4 : a.band.toList == b.band.toList <;> by_cases h5 : a.cents == b.cents <;> simp only [h1, h2, h3, h4, h5] <;> go_simp
theorem eqlG46 (a b : Rt) (x y : Operand) (w : World) : (do eqGuard .eql 46 x y (.agg (([.string a.fr, .string a.to, .int .i64 a.cls, .string a.band, .int .i64 a.cents] : List Value).toArray)) (.agg (([.string b.fr, .string b.to, .int .i64 b.cls, .string b.band, .int .i64 b.cents] : List Value).toArray)); binOp .eql 46 (.agg (([.string a.fr, .string a.to, .int .i64 a.cls, .string a.band, .int .i64 a.cents] : List Value).toArray)) (.agg (([.string b.fr, .string b.to, .int .i64 b.cls, .string b.band, .int .i64 b.cents] : List Value).toArray)) : Sem Value).run Try.prog w = .ok (.bool (eR a b)) w := by
  have hm : Try.prog.eqGuardType Try.prog.depth 46 = false := by kernel_rfl
  rw [Sem.run_bind, run_eqGuard_agg w .eql 46 x y _ _ hm, Result.andThen_ok, run_eql_struct, eqG46]
  rfl
theorem eqI24 (a : Iv) (w : World) : (Op.equalIn 10000 24 (.agg (([.int .i64 a.fr, .int .i64 a.to] : List Value).toArray)) (.agg (([.int .i64 a.fr, .int .i64 a.to] : List Value).toArray))).run Try.prog w = .ok true w := by
  have hS : Try.prog.underlying 24 = some (.struct (Try.prog.fieldsOf 24)) := by kernel_rfl
  have hp : Try.prog.stoodInHeld 24 = false := by kernel_rfl
  rw [show (10000 : Nat) = 9999 + 1 from rfl, run_equalIn_agg w 9999 24 _ _ hS hp]
  simp only [Program.fieldsOf, Try.underlying24]
  go_simp
theorem neq24 (a : Iv) (x y : Operand) (w : World) : (do eqGuard .neq 24 x y (.agg (([.int .i64 a.fr, .int .i64 a.to] : List Value).toArray)) (.agg (([.int .i64 a.fr, .int .i64 a.to] : List Value).toArray)); binOp .neq 24 (.agg (([.int .i64 a.fr, .int .i64 a.to] : List Value).toArray)) (.agg (([.int .i64 a.fr, .int .i64 a.to] : List Value).toArray)) : Sem Value).run Try.prog w = .ok (.bool false) w := by
  have hm : Try.prog.eqGuardType Try.prog.depth 24 = false := by kernel_rfl
  rw [Sem.run_bind, run_eqGuard_agg w .neq 24 x y _ _ hm, Result.andThen_ok, run_neq_struct, eqI24]
  rfl
theorem eqI54 (a : Bd) (w : World) : (Op.equalIn 10000 54 (.agg (([.string a.name, .int .i64 a.win.days, .int .i64 a.win.fr, .int .i64 a.win.to] : List Value).toArray)) (.agg (([.string a.name, .int .i64 a.win.days, .int .i64 a.win.fr, .int .i64 a.win.to] : List Value).toArray))).run Try.prog w = .ok true w := by
  have hS : Try.prog.underlying 54 = some (.struct (Try.prog.fieldsOf 54)) := by kernel_rfl
  have hp : Try.prog.stoodInHeld 54 = false := by kernel_rfl
  rw [show (10000 : Nat) = 9999 + 1 from rfl, run_equalIn_agg w 9999 54 _ _ hS hp]
  simp only [Program.fieldsOf, Try.underlying54]
  go_simp
theorem neq54 (a : Bd) (x y : Operand) (w : World) : (do eqGuard .neq 54 x y (.agg (([.string a.name, .int .i64 a.win.days, .int .i64 a.win.fr, .int .i64 a.win.to] : List Value).toArray)) (.agg (([.string a.name, .int .i64 a.win.days, .int .i64 a.win.fr, .int .i64 a.win.to] : List Value).toArray)); binOp .neq 54 (.agg (([.string a.name, .int .i64 a.win.days, .int .i64 a.win.fr, .int .i64 a.win.to] : List Value).toArray)) (.agg (([.string a.name, .int .i64 a.win.days, .int .i64 a.win.fr, .int .i64 a.win.to] : List Value).toArray)) : Sem Value).run Try.prog w = .ok (.bool false) w := by
  have hm : Try.prog.eqGuardType Try.prog.depth 54 = false := by kernel_rfl
  rw [Sem.run_bind, run_eqGuard_agg w .neq 54 x y _ _ hm, Result.andThen_ok, run_neq_struct, eqI54]
  rfl
theorem eqI46 (a : Rt) (w : World) : (Op.equalIn 10000 46 (.agg (([.string a.fr, .string a.to, .int .i64 a.cls, .string a.band, .int .i64 a.cents] : List Value).toArray)) (.agg (([.string a.fr, .string a.to, .int .i64 a.cls, .string a.band, .int .i64 a.cents] : List Value).toArray))).run Try.prog w = .ok true w := by
  have hS : Try.prog.underlying 46 = some (.struct (Try.prog.fieldsOf 46)) := by kernel_rfl
  have hp : Try.prog.stoodInHeld 46 = false := by kernel_rfl
  rw [show (10000 : Nat) = 9999 + 1 from rfl, run_equalIn_agg w 9999 46 _ _ hS hp]
  simp only [Program.fieldsOf, Try.underlying46]
  go_simp
theorem neq46 (a : Rt) (x y : Operand) (w : World) : (do eqGuard .neq 46 x y (.agg (([.string a.fr, .string a.to, .int .i64 a.cls, .string a.band, .int .i64 a.cents] : List Value).toArray)) (.agg (([.string a.fr, .string a.to, .int .i64 a.cls, .string a.band, .int .i64 a.cents] : List Value).toArray)); binOp .neq 46 (.agg (([.string a.fr, .string a.to, .int .i64 a.cls, .string a.band, .int .i64 a.cents] : List Value).toArray)) (.agg (([.string a.fr, .string a.to, .int .i64 a.cls, .string a.band, .int .i64 a.cents] : List Value).toArray)) : Sem Value).run Try.prog w = .ok (.bool false) w := by
  have hm : Try.prog.eqGuardType Try.prog.depth 46 = false := by kernel_rfl
  rw [Sem.run_bind, run_eqGuard_agg w .neq 46 x y _ _ hm, Result.andThen_ok, run_neq_struct, eqI46]
  rfl
set_option maxHeartbeats 4000000 in
set_option maxRecDepth 100000 in
theorem plc23 (r : Rt) : Ctr Try.prog 23 [.ag (eRt r)] (.d (.ag (eRt (plc r)))) := by
  refine ctr (n := 5) (rs := #[.cell 2 46]) (L := [(0, .d (.ag (eRt r)))]) Try.func23 rfl rfl rfl rfl rfl (fun w0 U0 => ?_)
  refine a_rseq ?_
  refine rg_nam (d := 1) (v := .pt 101 0) (m := 101) (nw := [(101, .bx 46 (eRt r))]) rfl (og rfl (of_eff (op_box 101 rfl rfl rfl rfl) rfl)) rfl ?_
  refine rg_nam (d := 2) (v := .pt 102 0) (m := 102) (nw := [(102, .bx 46 ([.fl (.string (⟨#[]⟩)), .fl (.string (⟨#[]⟩)), .fl (.int .i64 0), .fl (.string (⟨#[]⟩)), .fl (.int .i64 0)]))]) rfl (og rfl (of_eff (s_alloc 102 rfl ti46 (by kernel_rfl) rfl) rfl)) rfl ?_
  refine rg_done rfl ?_
  refine a_rseq ?_
  refine rg_put (d := 3) (v := .pt 101 4) rfl (og rfl (of_eff (s_field_pt rfl Try.underlying46 rfl ti3 rfl rfl rfl) rfl)) ?_
  refine rg_sto (nw := [(101, .bx 46 [.fl (.string r.fr), .fl (.string r.to), .fl (.int .i64 r.cls), .fl (.string r.band), .fl (.int .i64 0)])]) rfl (og rfl (of_eff (s_store rfl rfl ti3 rfl rfl rfl rfl rfl rfl) rfl)) ?_
  refine rg_done rfl ?_
  refine a_rseq ?_
  refine rg_put (d := 4) (v := .d (.ag (eRt (Rt.mk r.fr r.to r.cls r.band 0)))) rfl (og rfl (of_eff (s_load_pts rfl Try.underlying46 rfl ti46 rfl rfl rfl rfl) rfl)) ?_
  refine rg_sto (nw := [(102, .bx 46 ((eRt (Rt.mk r.fr r.to r.cls r.band 0))))]) rfl (og rfl (of_eff (s_store rfl rfl ti46 rfl rfl rfl rfl rfl rfl) rfl)) ?_
  refine rg_done rfl ?_
  refine a_ret ?_
  show ∃ ds, ResL _ _ _ ds ∧ RV.of ds = _
  refine ⟨[.ag [.fl (.string ((Rt.mk r.fr r.to r.cls r.band 0).fr)), .fl (.string ((Rt.mk r.fr r.to r.cls r.band 0).to)), .fl (.int .i64 ((Rt.mk r.fr r.to r.cls r.band 0).cls)), .fl (.string ((Rt.mk r.fr r.to r.cls r.band 0).band)), .fl (.int .i64 ((Rt.mk r.fr r.to r.cls r.band 0).cents))]], (.cons (.cellT rfl rfl Try.underlying46 rfl ti46 rfl (Cv.ag (xs := [.fl (.string ((Rt.mk r.fr r.to r.cls r.band 0).fr)), .fl (.string ((Rt.mk r.fr r.to r.cls r.band 0).to)), .fl (.int .i64 ((Rt.mk r.fr r.to r.cls r.band 0).cls)), .fl (.string ((Rt.mk r.fr r.to r.cls r.band 0).band)), .fl (.int .i64 ((Rt.mk r.fr r.to r.cls r.band 0).cents))]) (ys := [.fl (.string ((Rt.mk r.fr r.to r.cls r.band 0).fr)), .fl (.string ((Rt.mk r.fr r.to r.cls r.band 0).to)), .fl (.int .i64 ((Rt.mk r.fr r.to r.cls r.band 0).cls)), .fl (.string ((Rt.mk r.fr r.to r.cls r.band 0).band)), .fl (.int .i64 ((Rt.mk r.fr r.to r.cls r.band 0).cents))]) ⟨Cv.refl _, Cv.refl _, Cv.refl _, Cv.refl _, Cv.refl _, trivial⟩)) .nil), ?_⟩
  rfl
set_option maxHeartbeats 4000000 in
set_option maxRecDepth 100000 in
theorem rate14 (x : Ta) (fr to : ByteArray) (c t : Int) (hb : x.bands.length ≤ 1000) (hr : x.rates.length ≤ 1000) : Ctr Try.prog 14 [.ag (eTa x), .fl (.string fr), .fl (.string to), .fl (.int .i64 c), .fl (.int .i64 t)] (.tu [.fl (.int .i64 (rte x fr to c t).1), .fl (.int .i64 (rte x fr to c t).2)]) := by
  refine ctr (n := 46) (rs := #[.tmp 10, .tmp 11]) (L := [(0, .d (.ag (eTa x))), (1, .d (.fl (.string fr))), (2, .d (.fl (.string to))), (3, .d (.fl (.int .i64 c))), (4, .d (.fl (.int .i64 t)))]) Try.func14 rfl rfl rfl rfl rfl (fun w0 U0 => ?_)
  refine a_rseq ?_
  refine rg_nam (d := 5) (v := .pt 101 0) (m := 101) (nw := [(101, .bx 28 (eTa x))]) rfl (og rfl (of_eff (op_box 101 rfl rfl rfl rfl) rfl)) rfl ?_
  refine rg_put (d := 10) (v := .d (.fl (.int .i64 (0 : Int)))) rfl (og rfl (op_assign rfl rfl rfl)) ?_
  refine rg_put (d := 11) (v := .d (.fl (.int .i64 (0 : Int)))) rfl (og rfl (op_assign rfl rfl rfl)) ?_
  refine rg_done rfl ?_
  refine a_seq ?_
  refine a_rseq ?_
  refine rg_put (d := 17) (v := .d (.ag (eTa x))) rfl (og rfl (of_eff (s_load_pts rfl Try.underlying28 rfl ti28 rfl rfl rfl rfl) rfl)) ?_
  refine rg_put (d := 18) (v := .d (.fl (.int .i64 t))) rfl (og rfl (op_move rfl rfl rfl)) ?_
  refine rg_put (d := 19) (v := .d (.fl (.string (bnd x.bands t)))) rfl (og rfl (op_call rfl Try.func11 nm11 rfl (.cons rfl (.d _) (.cons rfl (.d _) .nil)) (band11 x t hb) rfl)) ?_
  refine rg_put (d := 20) (v := .d (.sl 1 (List.map rS ([(bnd x.bands t), ⟨#[]⟩])))) rfl (og rfl (of_eff (op_slices rfl Try.underlying59 ti9 rfl rfl rfl (by kernel_rfl) (xs := [.fl (.string (bnd x.bands t)), .fl (.string (⟨#[]⟩))]) rfl rfl (.cons rfl rfl (.d _) rfl rfl rfl (.cons rfl rfl (.d _) rfl rfl rfl .nil)) rfl) rfl)) ?_
  refine rg_put (d := 21) (v := .d (.fl (.int .i64 ((([(bnd x.bands t), ⟨#[]⟩]).length : Int))))) rfl (og rfl (s_len rfl Try.underlying59 rfl rfl)) ?_
  refine rg_put (d := 22) (v := .d (.fl (.int .i64 (0 : Int)))) rfl (og rfl (op_move rfl rfl rfl)) ?_
  refine rg_done rfl ?_
  refine a_block ?_
  refine a_rounds (n := 1000000) ?_
  refine ard_succ ?_
  refine a_imp (τ := SS [(0, .d (.ag (eTa x))), (1, .d (.fl (.string fr))), (2, .d (.fl (.string to))), (3, .d (.fl (.int .i64 c))), (4, .d (.fl (.int .i64 t))), (5, .pt 101 0), (10, .d (.fl (.int .i64 (0 : Int)))), (11, .d (.fl (.int .i64 (0 : Int)))), (20, .d (.sl 1 (List.map rS ([(bnd x.bands t), ⟨#[]⟩])))), (21, .d (.fl (.int .i64 ((([(bnd x.bands t), ⟨#[]⟩]).length : Int))))), (22, .d (.fl (.int .i64 (0 : Int))))] [(101, .bx 28 (eTa x))]) (imp_forget rfl ⟨rfl, rfl, rfl, rfl, rfl, rfl, rfl, rfl, rfl, rfl, rfl, trivial⟩ ⟨rfl, trivial⟩) ?_
  refine a_rseq ?_
  refine rg_put (d := 23) (v := .d (.fl (.bool true))) rfl (og rfl (op_bin rfl rfl rfl (b_lss _ _ _ _) rfl)) ?_
  refine rg_done rfl ?_
  refine a_seq ?_
  refine a_condK rfl rfl ?_
  refine a_skip ?_
  show A _ _ _ _ _ _ _
  refine a_seq ?_
  refine a_block ?_
  refine a_rseq ?_
  refine rg_put (d := 24) (v := .el ((rS ((ix ([(bnd x.bands t), ⟨#[]⟩]) ((0 : Int)).toNat))))) rfl (og rfl (s_index rfl Try.underlying59 ti9 rfl rfl (by first | omega | (simp only [List.length_cons, List.length_nil]; omega)) (row_atI (by first | omega | (simp only [List.length_cons, List.length_nil]; omega)) (by first | omega | (simp only [List.length_cons, List.length_nil]; omega))) rfl)) ?_
  refine rg_put (d := 25) (v := .d (.fl (.string ((ix ([(bnd x.bands t), ⟨#[]⟩]) ((0 : Int)).toNat))))) rfl (og rfl (op_load_el rfl Try.underlying9 rfl rfl rfl rfl)) ?_
  refine rg_put (d := 13) (v := .d (.fl (.string ((ix ([(bnd x.bands t), ⟨#[]⟩]) ((0 : Int)).toNat))))) rfl (og rfl (op_assign rfl rfl rfl)) ?_
  refine rg_done rfl ?_
  refine a_rseq ?_
  rw [show (ix ([(bnd x.bands t), ⟨#[]⟩]) ((0 : Int)).toNat) = (bnd x.bands t) from rfl]
  refine rg_put (d := 26) (v := .d (.fl (.string fr))) rfl (og rfl (op_move rfl rfl rfl)) ?_
  refine rg_put (d := 27) (v := .d (.fl (.string to))) rfl (og rfl (op_move rfl rfl rfl)) ?_
  refine rg_put (d := 28) (v := .d (.fl (.int .i64 c))) rfl (og rfl (op_move rfl rfl rfl)) ?_
  refine rg_put (d := 29) (v := .d (.fl (.string (bnd x.bands t)))) rfl (og rfl (op_move rfl rfl rfl)) ?_
  refine rg_put (d := 30) (v := .d (.ag (eRt ((Rt.mk fr to c (bnd x.bands t) 0))))) rfl (og rfl (of_eff (op_build rfl Try.underlying46 ti46 rfl (by kernel_rfl) (by kernel_rfl) (pl := #[(0, 1), (1, 1), (2, 1), (3, 1), (4, 1)]) (by kernel_rfl) (.cons rfl rfl (.d _) rfl rfl rfl (.cons rfl rfl (.d _) rfl rfl rfl (.cons rfl rfl (.d _) rfl rfl rfl (.cons rfl rfl (.d _) rfl rfl rfl .nil)))) rfl) rfl)) ?_
  refine rg_nam (d := 14) (v := .pt 102 0) (m := 102) (nw := [(102, .bx 46 ([.fl (.string (⟨#[]⟩)), .fl (.string (⟨#[]⟩)), .fl (.int .i64 0), .fl (.string (⟨#[]⟩)), .fl (.int .i64 0)]))]) rfl (og rfl (of_eff (s_alloc 102 rfl ti46 (by kernel_rfl) rfl) rfl)) rfl ?_
  refine rg_sto (nw := [(102, .bx 46 ((eRt ((Rt.mk fr to c (bnd x.bands t) 0)))))]) rfl (og rfl (of_eff (s_store rfl rfl ti46 rfl rfl rfl rfl rfl rfl) rfl)) ?_
  refine rg_done rfl ?_
  refine a_rseq ?_
  refine rg_put (d := 31) (v := .pt 101 3) rfl (og rfl (of_eff (s_field_pt rfl Try.underlying28 rfl ti26 rfl rfl rfl) rfl)) ?_
  refine rg_put (d := 32) (v := .d (.sl 5 (List.map eRt x.rates))) rfl (og rfl (op_load_pt rfl Try.underlying26 rfl rfl rfl rfl rfl)) ?_
  refine rg_put (d := 33) (v := .d (.fl (.int .i64 (x.rates.length : Int)))) rfl (og rfl (s_len rfl Try.underlying26 rfl rfl)) ?_
  refine rg_put (d := 34) (v := .d (.fl (.int .i64 (0 : Int)))) rfl (og rfl (op_move rfl rfl rfl)) ?_
  refine rg_done rfl ?_
  refine a_block ?_
  refine a_loop (ι := Nat) (fun k => SS [(0, .d (.ag (eTa x))), (1, .d (.fl (.string fr))), (2, .d (.fl (.string to))), (3, .d (.fl (.int .i64 c))), (4, .d (.fl (.int .i64 t))), (5, .pt 101 0), (13, .d (.fl (.string (bnd x.bands t)))), (14, .pt 102 0), (20, .d (.sl 1 (List.map rS ([(bnd x.bands t), ⟨#[]⟩])))), (21, .d (.fl (.int .i64 ((([(bnd x.bands t), ⟨#[]⟩]).length : Int))))), (22, .d (.fl (.int .i64 (0 : Int)))), (23, .d (.fl (.bool true))), (32, .d (.sl 5 (List.map eRt x.rates))), (33, .d (.fl (.int .i64 (x.rates.length : Int)))), (34, .d (.fl (.int .i64 (k : Int))))] [(101, .bx 28 (eTa x)), (102, .bx 46 ((eRt ((Rt.mk fr to c (bnd x.bands t) 0)))))]) (fun k => k ≤ x.rates.length ∧ ∀ q, q < k → fit (ix x.rates q) fr to c (bnd x.bands t) = false) (fun k => x.rates.length - k) 0 (⟨by omega, fun q h => by omega⟩) (imp_forget rfl ⟨rfl, rfl, rfl, rfl, rfl, rfl, rfl, rfl, rfl, rfl, rfl, rfl, rfl, rfl, (by first | rfl | exact ci (by omega) | exact ci (by simp) | exact cd (by simp) | simp), trivial⟩ ⟨rfl, rfl, trivial⟩) (fun k hok => ?_)
  obtain ⟨hk, hq⟩ := hok
  refine a_rseq ?_
  refine rg_put (d := 35) (v := .d (.fl (.bool ((decide ((k : Int) < (x.rates.length : Int))))))) rfl (og rfl (op_bin rfl rfl rfl (b_lss _ _ _ _) rfl)) ?_
  refine rg_done rfl ?_
  refine a_seq ?_
  refine a_cond rfl (fun h1 => ?_) (fun h1 => ?_)
  · skip
    have h2 := t_dec h1
    refine a_skip ?_
    show A _ _ _ _ _ _ _
    refine a_seq ?_
    refine a_block ?_
    refine a_rseq ?_
    refine rg_put (d := 36) (v := .el ((eRt (ix x.rates k)))) rfl (og rfl (s_index rfl Try.underlying26 ti46 rfl rfl (by first | omega | (simp only [List.length_cons, List.length_nil]; omega)) (row_at (by first | omega | (simp only [List.length_cons, List.length_nil]; omega))) rfl)) ?_
    refine rg_put (d := 37) (v := .d (.ag (eRt (ix x.rates k)))) rfl (og rfl (of_eff (s_load_els rfl Try.underlying46 rfl ti46 rfl rfl rfl) rfl)) ?_
    refine rg_nam (d := 16) (v := .pt 103 0) (m := 103) (nw := [(103, .bx 46 ([.fl (.string (⟨#[]⟩)), .fl (.string (⟨#[]⟩)), .fl (.int .i64 0), .fl (.string (⟨#[]⟩)), .fl (.int .i64 0)]))]) rfl (og rfl (of_eff (s_alloc 103 rfl ti46 (by kernel_rfl) rfl) rfl)) rfl ?_
    refine rg_sto (nw := [(103, .bx 46 ((eRt (ix x.rates k))))]) rfl (og rfl (of_eff (s_store rfl rfl ti46 rfl rfl rfl rfl rfl rfl) rfl)) ?_
    refine rg_done rfl ?_
    refine a_dseq (by kernel_rfl) ?_
    refine dr_put (d := 38) (v := .d (.ag (eRt (ix x.rates k)))) rfl (og rfl (of_eff (s_load_pts rfl Try.underlying46 rfl ti46 rfl rfl rfl rfl) rfl)) ?_
    refine dr_put (d := 39) (v := .d (.ag (eRt ((plc (ix x.rates k)))))) rfl (og rfl (op_call rfl Try.func23 nm23 rfl (.cons rfl (.d _) .nil) (plc23 (ix x.rates k)) rfl)) ?_
    refine dr_put (d := 40) (v := .d (.ag (eRt (((Rt.mk fr to c (bnd x.bands t) 0)))))) rfl (og rfl (of_eff (s_load_pts rfl Try.underlying46 rfl ti46 rfl rfl rfl rfl) rfl)) ?_
    refine dr_put (d := 41) (v := .d (.fl (.bool ((fit (ix x.rates k) fr to c (bnd x.bands t)))))) rfl (og rfl (op_eqS [.string (((plc (ix x.rates k))).fr), .string (((plc (ix x.rates k))).to), .int .i64 (((plc (ix x.rates k))).cls), .string (((plc (ix x.rates k))).band), .int .i64 (((plc (ix x.rates k))).cents)] [.string ((((Rt.mk fr to c (bnd x.bands t) 0))).fr), .string ((((Rt.mk fr to c (bnd x.bands t) 0))).to), .int .i64 ((((Rt.mk fr to c (bnd x.bands t) 0))).cls), .string ((((Rt.mk fr to c (bnd x.bands t) 0))).band), .int .i64 ((((Rt.mk fr to c (bnd x.bands t) 0))).cents)] rfl rfl rfl (b := (fit (ix x.rates k) fr to c (bnd x.bands t))) (fun ww => eqlG46 (plc (ix x.rates k)) ((Rt.mk fr to c (bnd x.bands t) 0)) _ _ ww) rfl)) ?_
    refine dr_done rfl (by kernel_rfl) (by kernel_rfl) ?_
    refine a_cond rfl (fun h3 => ?_) (fun h3 => ?_)
    · skip
      refine a_rseq ?_
      refine rg_put (d := 42) (v := .pt 103 4) rfl (og rfl (of_eff (s_field_pt rfl Try.underlying46 rfl ti3 rfl rfl rfl) rfl)) ?_
      refine rg_put (d := 43) (v := .d (.fl (.int .i64 ((ix x.rates k).cents)))) rfl (og rfl (op_load_pt rfl Try.underlying3 rfl rfl rfl rfl rfl)) ?_
      refine rg_put (d := 10) (v := .d (.fl (.int .i64 ((ix x.rates k).cents)))) rfl (og rfl (op_assign rfl rfl rfl)) ?_
      refine rg_put (d := 11) (v := .d (.fl (.int .i64 (0 : Int)))) rfl (og rfl (op_assign rfl rfl rfl)) ?_
      refine rg_done rfl ?_
      refine a_ret ?_
      show ∃ ds, ResL _ _ _ ds ∧ RV.of ds = _
      refine ⟨[.fl (.int .i64 ((ix x.rates k).cents)), .fl (.int .i64 (0 : Int))], (.cons (.tmp rfl (.d _)) (.cons (.tmp rfl (.d _)) .nil)), ?_⟩
      rw [rte_1 (by omega) hq h3]; rfl
    · skip
      refine a_skip ?_
      show A _ _ _ _ _ _ _
      refine a_region ?_
      refine rg_put (d := 44) (v := .d (.fl (.int .i64 (((k : Int) + 1))))) rfl (og rfl (op_bin rfl rfl rfl (fun x y w => b_add64 _ _ _ x y w (by first | omega | (simp only [List.length_cons, List.length_nil]; omega))) rfl)) ?_
      refine rg_put (d := 34) (v := .d (.fl (.int .i64 (((k : Int) + 1))))) rfl (og rfl (op_move rfl rfl rfl)) ?_
      refine rg_done rfl ?_
      have hx : fit (ix x.rates k) fr to c (bnd x.bands t) = false := h3
      show ∃ i, _ ∧ _ ∧ Imp _ _ _ _ _
      refine ⟨k + 1, ⟨by omega, fun q h => (Nat.lt_succ_iff_lt_or_eq.1 h).elim (hq q) (fun e => by rw [e]; exact hx)⟩, by omega, imp_forget rfl ⟨rfl, rfl, rfl, rfl, rfl, rfl, rfl, rfl, rfl, rfl, rfl, rfl, rfl, rfl, (by first | rfl | exact ci (by omega) | exact ci (by simp) | exact cd (by simp) | simp), trivial⟩ ⟨rfl, rfl, trivial⟩⟩
  · skip
    have h4 := f_dec h1
    refine a_exit ?_
    show A _ _ _ _ _ _ _
    refine a_region ?_
    have hn : ∀ q, q < x.rates.length → fit (ix x.rates q) fr to c (bnd x.bands t) = false := fun q h => hq q (by omega)
    refine rg_put (d := 45) (v := .d (.fl (.int .i64 (1 : Int)))) rfl (og rfl (op_bin rfl rfl rfl (fun x y w => b_add64 _ _ _ x y w (by first | omega | (simp only [List.length_cons, List.length_nil]; omega))) rfl)) ?_
    refine rg_put (d := 22) (v := .d (.fl (.int .i64 (1 : Int)))) rfl (og rfl (op_move rfl rfl rfl)) ?_
    refine rg_done rfl ?_
    show ARd _ _ _ _ _ _ _ _
    refine ard_succ ?_
    refine a_imp (τ := SS [(0, .d (.ag (eTa x))), (1, .d (.fl (.string fr))), (2, .d (.fl (.string to))), (3, .d (.fl (.int .i64 c))), (4, .d (.fl (.int .i64 t))), (5, .pt 101 0), (13, .d (.fl (.string (bnd x.bands t)))), (14, .pt 102 0), (20, .d (.sl 1 (List.map rS ([(bnd x.bands t), ⟨#[]⟩])))), (21, .d (.fl (.int .i64 ((([(bnd x.bands t), ⟨#[]⟩]).length : Int))))), (22, .d (.fl (.int .i64 (1 : Int)))), (23, .d (.fl (.bool true))), (32, .d (.sl 5 (List.map eRt x.rates))), (33, .d (.fl (.int .i64 (x.rates.length : Int)))), (34, .d (.fl (.int .i64 (k : Int)))), (35, .d (.fl (.bool ((decide ((k : Int) < (x.rates.length : Int)))))))] [(101, .bx 28 (eTa x)), (102, .bx 46 ((eRt ((Rt.mk fr to c (bnd x.bands t) 0)))))]) (imp_forget rfl ⟨rfl, rfl, rfl, rfl, rfl, rfl, rfl, rfl, rfl, rfl, rfl, rfl, rfl, rfl, rfl, rfl, trivial⟩ ⟨rfl, rfl, trivial⟩) ?_
    refine a_rseq ?_
    refine rg_put (d := 23) (v := .d (.fl (.bool true))) rfl (og rfl (op_bin rfl rfl rfl (b_lss _ _ _ _) rfl)) ?_
    refine rg_done rfl ?_
    refine a_seq ?_
    refine a_condK rfl rfl ?_
    refine a_skip ?_
    show A _ _ _ _ _ _ _
    refine a_seq ?_
    refine a_block ?_
    refine a_rseq ?_
    refine rg_put (d := 24) (v := .el ((rS ((ix ([(bnd x.bands t), ⟨#[]⟩]) ((1 : Int)).toNat))))) rfl (og rfl (s_index rfl Try.underlying59 ti9 rfl rfl (by first | omega | (simp only [List.length_cons, List.length_nil]; omega)) (row_atI (by first | omega | (simp only [List.length_cons, List.length_nil]; omega)) (by first | omega | (simp only [List.length_cons, List.length_nil]; omega))) rfl)) ?_
    refine rg_put (d := 25) (v := .d (.fl (.string ((ix ([(bnd x.bands t), ⟨#[]⟩]) ((1 : Int)).toNat))))) rfl (og rfl (op_load_el rfl Try.underlying9 rfl rfl rfl rfl)) ?_
    refine rg_put (d := 13) (v := .d (.fl (.string ((ix ([(bnd x.bands t), ⟨#[]⟩]) ((1 : Int)).toNat))))) rfl (og rfl (op_assign rfl rfl rfl)) ?_
    refine rg_done rfl ?_
    refine a_rseq ?_
    rw [show (ix ([(bnd x.bands t), ⟨#[]⟩]) ((1 : Int)).toNat) = ⟨#[]⟩ from rfl]
    refine rg_put (d := 26) (v := .d (.fl (.string fr))) rfl (og rfl (op_move rfl rfl rfl)) ?_
    refine rg_put (d := 27) (v := .d (.fl (.string to))) rfl (og rfl (op_move rfl rfl rfl)) ?_
    refine rg_put (d := 28) (v := .d (.fl (.int .i64 c))) rfl (og rfl (op_move rfl rfl rfl)) ?_
    refine rg_put (d := 29) (v := .d (.fl (.string (⟨#[]⟩)))) rfl (og rfl (op_move rfl rfl rfl)) ?_
    refine rg_put (d := 30) (v := .d (.ag (eRt ((Rt.mk fr to c (⟨#[]⟩) 0))))) rfl (og rfl (of_eff (op_build rfl Try.underlying46 ti46 rfl (by kernel_rfl) (by kernel_rfl) (pl := #[(0, 1), (1, 1), (2, 1), (3, 1), (4, 1)]) (by kernel_rfl) (.cons rfl rfl (.d _) rfl rfl rfl (.cons rfl rfl (.d _) rfl rfl rfl (.cons rfl rfl (.d _) rfl rfl rfl (.cons rfl rfl (.d _) rfl rfl rfl .nil)))) rfl) rfl)) ?_
    refine rg_nam (d := 14) (v := .pt 104 0) (m := 104) (nw := [(104, .bx 46 ([.fl (.string (⟨#[]⟩)), .fl (.string (⟨#[]⟩)), .fl (.int .i64 0), .fl (.string (⟨#[]⟩)), .fl (.int .i64 0)]))]) rfl (og rfl (of_eff (s_alloc 104 rfl ti46 (by kernel_rfl) rfl) rfl)) rfl ?_
    refine rg_sto (nw := [(104, .bx 46 ((eRt ((Rt.mk fr to c (⟨#[]⟩) 0)))))]) rfl (og rfl (of_eff (s_store rfl rfl ti46 rfl rfl rfl rfl rfl rfl) rfl)) ?_
    refine rg_done rfl ?_
    refine a_rseq ?_
    refine rg_put (d := 31) (v := .pt 101 3) rfl (og rfl (of_eff (s_field_pt rfl Try.underlying28 rfl ti26 rfl rfl rfl) rfl)) ?_
    refine rg_put (d := 32) (v := .d (.sl 5 (List.map eRt x.rates))) rfl (og rfl (op_load_pt rfl Try.underlying26 rfl rfl rfl rfl rfl)) ?_
    refine rg_put (d := 33) (v := .d (.fl (.int .i64 (x.rates.length : Int)))) rfl (og rfl (s_len rfl Try.underlying26 rfl rfl)) ?_
    refine rg_put (d := 34) (v := .d (.fl (.int .i64 (0 : Int)))) rfl (og rfl (op_move rfl rfl rfl)) ?_
    refine rg_done rfl ?_
    refine a_block ?_
    refine a_loop (ι := Nat) (fun j => SS [(0, .d (.ag (eTa x))), (1, .d (.fl (.string fr))), (2, .d (.fl (.string to))), (3, .d (.fl (.int .i64 c))), (4, .d (.fl (.int .i64 t))), (5, .pt 101 0), (13, .d (.fl (.string (⟨#[]⟩)))), (14, .pt 104 0), (20, .d (.sl 1 (List.map rS ([(bnd x.bands t), ⟨#[]⟩])))), (21, .d (.fl (.int .i64 ((([(bnd x.bands t), ⟨#[]⟩]).length : Int))))), (22, .d (.fl (.int .i64 (1 : Int)))), (23, .d (.fl (.bool true))), (32, .d (.sl 5 (List.map eRt x.rates))), (33, .d (.fl (.int .i64 (x.rates.length : Int)))), (34, .d (.fl (.int .i64 (j : Int))))] [(101, .bx 28 (eTa x)), (104, .bx 46 ((eRt ((Rt.mk fr to c (⟨#[]⟩) 0)))))]) (fun j => j ≤ x.rates.length ∧ ∀ q, q < j → fit (ix x.rates q) fr to c ⟨#[]⟩ = false) (fun j => x.rates.length - j) 0 (⟨by omega, fun q h => by omega⟩) (imp_forget rfl ⟨rfl, rfl, rfl, rfl, rfl, rfl, rfl, rfl, rfl, rfl, rfl, rfl, rfl, rfl, (by first | rfl | exact ci (by omega) | exact ci (by simp) | exact cd (by simp) | simp), trivial⟩ ⟨rfl, rfl, trivial⟩) (fun j hok => ?_)
    obtain ⟨hk, hp⟩ := hok
    refine a_rseq ?_
    refine rg_put (d := 35) (v := .d (.fl (.bool ((decide ((j : Int) < (x.rates.length : Int))))))) rfl (og rfl (op_bin rfl rfl rfl (b_lss _ _ _ _) rfl)) ?_
    refine rg_done rfl ?_
    refine a_seq ?_
    refine a_cond rfl (fun h5 => ?_) (fun h5 => ?_)
    · skip
      have h6 := t_dec h5
      refine a_skip ?_
      show A _ _ _ _ _ _ _
      refine a_seq ?_
      refine a_block ?_
      refine a_rseq ?_
      refine rg_put (d := 36) (v := .el ((eRt (ix x.rates j)))) rfl (og rfl (s_index rfl Try.underlying26 ti46 rfl rfl (by first | omega | (simp only [List.length_cons, List.length_nil]; omega)) (row_at (by first | omega | (simp only [List.length_cons, List.length_nil]; omega))) rfl)) ?_
      refine rg_put (d := 37) (v := .d (.ag (eRt (ix x.rates j)))) rfl (og rfl (of_eff (s_load_els rfl Try.underlying46 rfl ti46 rfl rfl rfl) rfl)) ?_
      refine rg_nam (d := 16) (v := .pt 105 0) (m := 105) (nw := [(105, .bx 46 ([.fl (.string (⟨#[]⟩)), .fl (.string (⟨#[]⟩)), .fl (.int .i64 0), .fl (.string (⟨#[]⟩)), .fl (.int .i64 0)]))]) rfl (og rfl (of_eff (s_alloc 105 rfl ti46 (by kernel_rfl) rfl) rfl)) rfl ?_
      refine rg_sto (nw := [(105, .bx 46 ((eRt (ix x.rates j))))]) rfl (og rfl (of_eff (s_store rfl rfl ti46 rfl rfl rfl rfl rfl rfl) rfl)) ?_
      refine rg_done rfl ?_
      refine a_dseq (by kernel_rfl) ?_
      refine dr_put (d := 38) (v := .d (.ag (eRt (ix x.rates j)))) rfl (og rfl (of_eff (s_load_pts rfl Try.underlying46 rfl ti46 rfl rfl rfl rfl) rfl)) ?_
      refine dr_put (d := 39) (v := .d (.ag (eRt ((plc (ix x.rates j)))))) rfl (og rfl (op_call rfl Try.func23 nm23 rfl (.cons rfl (.d _) .nil) (plc23 (ix x.rates j)) rfl)) ?_
      refine dr_put (d := 40) (v := .d (.ag (eRt (((Rt.mk fr to c (⟨#[]⟩) 0)))))) rfl (og rfl (of_eff (s_load_pts rfl Try.underlying46 rfl ti46 rfl rfl rfl rfl) rfl)) ?_
      refine dr_put (d := 41) (v := .d (.fl (.bool ((fit (ix x.rates j) fr to c (⟨#[]⟩)))))) rfl (og rfl (op_eqS [.string (((plc (ix x.rates j))).fr), .string (((plc (ix x.rates j))).to), .int .i64 (((plc (ix x.rates j))).cls), .string (((plc (ix x.rates j))).band), .int .i64 (((plc (ix x.rates j))).cents)] [.string ((((Rt.mk fr to c (⟨#[]⟩) 0))).fr), .string ((((Rt.mk fr to c (⟨#[]⟩) 0))).to), .int .i64 ((((Rt.mk fr to c (⟨#[]⟩) 0))).cls), .string ((((Rt.mk fr to c (⟨#[]⟩) 0))).band), .int .i64 ((((Rt.mk fr to c (⟨#[]⟩) 0))).cents)] rfl rfl rfl (b := (fit (ix x.rates j) fr to c (⟨#[]⟩))) (fun ww => eqlG46 (plc (ix x.rates j)) ((Rt.mk fr to c (⟨#[]⟩) 0)) _ _ ww) rfl)) ?_
      refine dr_done rfl (by kernel_rfl) (by kernel_rfl) ?_
      refine a_cond rfl (fun h7 => ?_) (fun h7 => ?_)
      · skip
        refine a_rseq ?_
        refine rg_put (d := 42) (v := .pt 105 4) rfl (og rfl (of_eff (s_field_pt rfl Try.underlying46 rfl ti3 rfl rfl rfl) rfl)) ?_
        refine rg_put (d := 43) (v := .d (.fl (.int .i64 ((ix x.rates j).cents)))) rfl (og rfl (op_load_pt rfl Try.underlying3 rfl rfl rfl rfl rfl)) ?_
        refine rg_put (d := 10) (v := .d (.fl (.int .i64 ((ix x.rates j).cents)))) rfl (og rfl (op_assign rfl rfl rfl)) ?_
        refine rg_put (d := 11) (v := .d (.fl (.int .i64 (0 : Int)))) rfl (og rfl (op_assign rfl rfl rfl)) ?_
        refine rg_done rfl ?_
        refine a_ret ?_
        show ∃ ds, ResL _ _ _ ds ∧ RV.of ds = _
        refine ⟨[.fl (.int .i64 ((ix x.rates j).cents)), .fl (.int .i64 (0 : Int))], (.cons (.tmp rfl (.d _)) (.cons (.tmp rfl (.d _)) .nil)), ?_⟩
        rw [rte_2 hn (by omega) hp h7]; rfl
      · skip
        refine a_skip ?_
        show A _ _ _ _ _ _ _
        refine a_region ?_
        refine rg_put (d := 44) (v := .d (.fl (.int .i64 (((j : Int) + 1))))) rfl (og rfl (op_bin rfl rfl rfl (fun x y w => b_add64 _ _ _ x y w (by first | omega | (simp only [List.length_cons, List.length_nil]; omega))) rfl)) ?_
        refine rg_put (d := 34) (v := .d (.fl (.int .i64 (((j : Int) + 1))))) rfl (og rfl (op_move rfl rfl rfl)) ?_
        refine rg_done rfl ?_
        have hx : fit (ix x.rates j) fr to c ⟨#[]⟩ = false := h7
        show ∃ i, _ ∧ _ ∧ Imp _ _ _ _ _
        refine ⟨j + 1, ⟨by omega, fun q h => (Nat.lt_succ_iff_lt_or_eq.1 h).elim (hp q) (fun e => by rw [e]; exact hx)⟩, by omega, imp_forget rfl ⟨rfl, rfl, rfl, rfl, rfl, rfl, rfl, rfl, rfl, rfl, rfl, rfl, rfl, rfl, (by first | rfl | exact ci (by omega) | exact ci (by simp) | exact cd (by simp) | simp), trivial⟩ ⟨rfl, rfl, trivial⟩⟩
    · skip
      have h8 := f_dec h5
      refine a_exit ?_
      show A _ _ _ _ _ _ _
      refine a_region ?_
      refine rg_put (d := 45) (v := .d (.fl (.int .i64 (2 : Int)))) rfl (og rfl (op_bin rfl rfl rfl (fun x y w => b_add64 _ _ _ x y w (by first | omega | (simp only [List.length_cons, List.length_nil]; omega))) rfl)) ?_
      refine rg_put (d := 22) (v := .d (.fl (.int .i64 (2 : Int)))) rfl (og rfl (op_move rfl rfl rfl)) ?_
      refine rg_done rfl ?_
      show ARd _ _ _ _ _ _ _ _
      refine ard_succ ?_
      refine a_imp (τ := SS [(0, .d (.ag (eTa x))), (1, .d (.fl (.string fr))), (2, .d (.fl (.string to))), (3, .d (.fl (.int .i64 c))), (4, .d (.fl (.int .i64 t))), (5, .pt 101 0), (13, .d (.fl (.string (⟨#[]⟩)))), (14, .pt 104 0), (20, .d (.sl 1 (List.map rS ([(bnd x.bands t), ⟨#[]⟩])))), (21, .d (.fl (.int .i64 ((([(bnd x.bands t), ⟨#[]⟩]).length : Int))))), (22, .d (.fl (.int .i64 (2 : Int)))), (23, .d (.fl (.bool true))), (32, .d (.sl 5 (List.map eRt x.rates))), (33, .d (.fl (.int .i64 (x.rates.length : Int)))), (34, .d (.fl (.int .i64 (j : Int)))), (35, .d (.fl (.bool ((decide ((j : Int) < (x.rates.length : Int)))))))] [(101, .bx 28 (eTa x)), (104, .bx 46 ((eRt ((Rt.mk fr to c (⟨#[]⟩) 0)))))]) (imp_forget rfl ⟨rfl, rfl, rfl, rfl, rfl, rfl, rfl, rfl, rfl, rfl, rfl, rfl, rfl, rfl, rfl, rfl, trivial⟩ ⟨rfl, rfl, trivial⟩) ?_
      refine a_rseq ?_
      refine rg_put (d := 23) (v := .d (.fl (.bool false))) rfl (og rfl (op_bin rfl rfl rfl (b_lss _ _ _ _) rfl)) ?_
      refine rg_done rfl ?_
      refine a_seq ?_
      refine a_condF rfl rfl ?_
      refine a_exit ?_
      show A _ _ _ _ _ _ _
      refine a_rseq ?_
      refine rg_put (d := 10) (v := .d (.fl (.int .i64 (0 : Int)))) rfl (og rfl (op_assign rfl rfl rfl)) ?_
      refine rg_put (d := 11) (v := .d (.fl (.int .i64 (22 : Int)))) rfl (og rfl (op_assign rfl rfl rfl)) ?_
      refine rg_done rfl ?_
      refine a_ret ?_
      show ∃ ds, ResL _ _ _ ds ∧ RV.of ds = _
      refine ⟨[.fl (.int .i64 (0 : Int)), .fl (.int .i64 (22 : Int))], (.cons (.tmp rfl (.d _)) (.cons (.tmp rfl (.d _)) .nil)), ?_⟩
      rw [rte_3 hn (fun q h => hp q (by omega))]; rfl
set_option maxHeartbeats 4000000 in
set_option maxRecDepth 100000 in
theorem sameR18 (a : List Rt) (hl : a.length ≤ 1000) : Ctr Try.prog 18 [.sl 5 (List.map eRt a), .sl 5 (List.map eRt a)] (.d (.fl (.bool true))) := by
  refine ctr (n := 26) (rs := #[.tmp 4]) (L := [(0, .d (.sl 5 (List.map eRt a))), (1, .d (.sl 5 (List.map eRt a)))]) Try.func18 rfl rfl rfl rfl rfl (fun w0 U0 => ?_)
  refine a_rseq ?_
  refine rg_put (d := 4) (v := .d (.fl (.bool false))) rfl (og rfl (op_assign rfl rfl rfl)) ?_
  refine rg_done rfl ?_
  refine a_seq ?_
  refine a_rseq ?_
  refine rg_put (d := 6) (v := .d (.sl 5 (List.map eRt a))) rfl (og rfl (op_move rfl rfl rfl)) ?_
  refine rg_put (d := 7) (v := .d (.fl (.int .i64 (a.length : Int)))) rfl (og rfl (s_len rfl Try.underlying26 rfl rfl)) ?_
  refine rg_put (d := 8) (v := .d (.sl 5 (List.map eRt a))) rfl (og rfl (op_move rfl rfl rfl)) ?_
  refine rg_put (d := 9) (v := .d (.fl (.int .i64 (a.length : Int)))) rfl (og rfl (s_len rfl Try.underlying26 rfl rfl)) ?_
  refine rg_put (d := 10) (v := .d (.fl (.bool (((a.length : Int) != (a.length : Int)))))) rfl (og rfl (op_bin rfl rfl rfl (b_neq _ _ _ _) rfl)) ?_
  refine rg_done rfl ?_
  refine a_condF rfl (ne_self_b _) ?_
  refine a_skip ?_
  show A _ _ _ _ _ _ _
  refine a_seq ?_
  refine a_rseq ?_
  refine rg_put (d := 5) (v := .d (.fl (.int .i64 0))) rfl (og rfl (op_assign rfl rfl rfl)) ?_
  refine rg_done rfl ?_
  refine a_block ?_
  refine a_loop (ι := Nat) (fun k => SS [(0, .d (.sl 5 (List.map eRt a))), (1, .d (.sl 5 (List.map eRt a))), (10, .d (.fl (.bool (((a.length : Int) != (a.length : Int)))))), (5, .d (.fl (.int .i64 (k : Int))))] []) (fun k => k ≤ a.length) (fun k => a.length - k) 0 (by omega) (imp_forget rfl ⟨rfl, rfl, rfl, (by first | rfl | exact ci (by omega) | exact ci (by simp) | exact cd (by simp) | simp), trivial⟩ trivial) (fun k hok => ?_)
  have hk := hok
  refine a_seq ?_
  refine a_rseq ?_
  refine rg_put (d := 11) (v := .d (.fl (.int .i64 (k : Int)))) rfl (og rfl (op_move rfl rfl rfl)) ?_
  refine rg_put (d := 12) (v := .d (.sl 5 (List.map eRt a))) rfl (og rfl (op_move rfl rfl rfl)) ?_
  refine rg_put (d := 13) (v := .d (.fl (.int .i64 (a.length : Int)))) rfl (og rfl (s_len rfl Try.underlying26 rfl rfl)) ?_
  refine rg_put (d := 14) (v := .d (.fl (.bool ((decide ((k : Int) < (a.length : Int))))))) rfl (og rfl (op_bin rfl rfl rfl (b_lss _ _ _ _) rfl)) ?_
  refine rg_done rfl ?_
  refine a_cond rfl (fun h1 => ?_) (fun h1 => ?_)
  · skip
    have h2 := t_dec h1
    refine a_skip ?_
    show A _ _ _ _ _ _ _
    refine a_seq ?_
    refine a_block ?_
    refine a_dseq (by kernel_rfl) ?_
    refine dr_put (d := 17) (v := .d (.sl 5 (List.map eRt a))) rfl (og rfl (op_move rfl rfl rfl)) ?_
    refine dr_put (d := 18) (v := .d (.fl (.int .i64 (k : Int)))) rfl (og rfl (op_move rfl rfl rfl)) ?_
    refine dr_put (d := 19) (v := .el ((eRt (ix a k)))) rfl (og rfl (s_index rfl Try.underlying26 ti46 rfl rfl (by omega) (row_at (by omega)) rfl)) ?_
    refine dr_put (d := 20) (v := .d (.ag (eRt (ix a k)))) rfl (og rfl (of_eff (s_load_els rfl Try.underlying46 rfl ti46 rfl rfl rfl) rfl)) ?_
    refine dr_put (d := 21) (v := .d (.sl 5 (List.map eRt a))) rfl (og rfl (op_move rfl rfl rfl)) ?_
    refine dr_put (d := 22) (v := .d (.fl (.int .i64 (k : Int)))) rfl (og rfl (op_move rfl rfl rfl)) ?_
    refine dr_put (d := 23) (v := .el ((eRt (ix a k)))) rfl (og rfl (s_index rfl Try.underlying26 ti46 rfl rfl (by omega) (row_at (by omega)) rfl)) ?_
    refine dr_put (d := 24) (v := .d (.ag (eRt (ix a k)))) rfl (og rfl (of_eff (s_load_els rfl Try.underlying46 rfl ti46 rfl rfl rfl) rfl)) ?_
    refine dr_put (d := 25) (v := .d (.fl (.bool false))) rfl (og rfl (op_eqS [.string ((ix a k).fr), .string ((ix a k).to), .int .i64 ((ix a k).cls), .string ((ix a k).band), .int .i64 ((ix a k).cents)] [.string ((ix a k).fr), .string ((ix a k).to), .int .i64 ((ix a k).cls), .string ((ix a k).band), .int .i64 ((ix a k).cents)] rfl rfl rfl (b := false) (fun ww => neq46 (ix a k) _ _ ww) rfl)) ?_
    refine dr_done rfl (by kernel_rfl) (by kernel_rfl) ?_
    refine a_condF rfl rfl ?_
    refine a_skip ?_
    show A _ _ _ _ _ _ _
    refine a_region ?_
    refine rg_put (d := 15) (v := .d (.fl (.int .i64 (k : Int)))) rfl (og rfl (op_move rfl rfl rfl)) ?_
    refine rg_put (d := 16) (v := .d (.fl (.int .i64 (((k : Int) + 1))))) rfl (og rfl (op_bin rfl rfl rfl (fun x y w => b_add64 _ _ _ x y w (by omega)) rfl)) ?_
    refine rg_put (d := 5) (v := .d (.fl (.int .i64 (((k : Int) + 1))))) rfl (og rfl (op_assign rfl rfl rfl)) ?_
    refine rg_done rfl ?_
    show ∃ i, _ ∧ _ ∧ Imp _ _ _ _ _
    refine ⟨k + 1, (by omega), by omega, imp_forget rfl ⟨rfl, rfl, rfl, (by first | rfl | exact ci (by omega) | exact ci (by simp) | exact cd (by simp) | simp), trivial⟩ trivial⟩
  · skip
    have h3 := f_dec h1
    refine a_exit ?_
    show A _ _ _ _ _ _ _
    refine a_rseq ?_
    refine rg_put (d := 4) (v := .d (.fl (.bool true))) rfl (og rfl (op_assign rfl rfl rfl)) ?_
    refine rg_done rfl ?_
    refine a_ret ?_
    show ∃ ds, ResL _ _ _ ds ∧ RV.of ds = _
    refine ⟨[.fl (.bool true)], (.cons (.tmp rfl (.d _)) .nil), ?_⟩
    rfl
set_option maxHeartbeats 4000000 in
set_option maxRecDepth 100000 in
theorem same10 (x : Ta) (hb : x.bands.length ≤ 1000) (hr : x.rates.length ≤ 1000) : Ctr Try.prog 10 [.ag (eTa x), .ag (eTa x)] (.d (.fl (.bool true))) := by
  refine ctr (n := 43) (rs := #[.tmp 4]) (L := [(0, .d (.ag (eTa x))), (1, .d (.ag (eTa x)))]) Try.func10 rfl rfl rfl rfl rfl (fun w0 U0 => ?_)
  refine a_rseq ?_
  refine rg_nam (d := 2) (v := .pt 101 0) (m := 101) (nw := [(101, .bx 28 (eTa x))]) rfl (og rfl (of_eff (op_box 101 rfl rfl rfl rfl) rfl)) rfl ?_
  refine rg_nam (d := 3) (v := .pt 102 0) (m := 102) (nw := [(102, .bx 28 (eTa x))]) rfl (og rfl (of_eff (op_box 102 rfl rfl rfl rfl) rfl)) rfl ?_
  refine rg_put (d := 4) (v := .d (.fl (.bool false))) rfl (og rfl (op_assign rfl rfl rfl)) ?_
  refine rg_done rfl ?_
  refine a_seq ?_
  refine a_rseq ?_
  refine rg_put (d := 6) (v := .pt 101 0) rfl (og rfl (of_eff (s_field_pt rfl Try.underlying28 rfl ti24 rfl rfl rfl) rfl)) ?_
  refine rg_put (d := 7) (v := .d (.ag (eIv x.val))) rfl (og rfl (of_eff (s_load_pts rfl Try.underlying24 rfl ti24 rfl rfl rfl rfl) rfl)) ?_
  refine rg_put (d := 8) (v := .pt 102 0) rfl (og rfl (of_eff (s_field_pt rfl Try.underlying28 rfl ti24 rfl rfl rfl) rfl)) ?_
  refine rg_put (d := 9) (v := .d (.ag (eIv x.val))) rfl (og rfl (of_eff (s_load_pts rfl Try.underlying24 rfl ti24 rfl rfl rfl rfl) rfl)) ?_
  refine rg_put (d := 10) (v := .d (.fl (.bool false))) rfl (og rfl (op_eqS [.int .i64 x.val.fr, .int .i64 x.val.to] [.int .i64 x.val.fr, .int .i64 x.val.to] rfl rfl rfl (b := false) (fun ww => neq24 x.val _ _ ww) rfl)) ?_
  refine rg_put (d := 11) (v := .d (.fl (.bool false))) rfl (og rfl (op_move rfl rfl rfl)) ?_
  refine rg_put (d := 12) (v := .pt 101 2) rfl (oy rfl rfl rfl rfl (of_eff (s_field_pt rfl Try.underlying28 rfl ti25 rfl rfl rfl) rfl)) ?_
  refine rg_put (d := 13) (v := .d (.sl 4 (List.map eBd x.bands))) rfl (oy rfl rfl rfl rfl (op_load_pt rfl Try.underlying25 rfl rfl rfl rfl rfl)) ?_
  refine rg_put (d := 14) (v := .d (.fl (.int .i64 (x.bands.length : Int)))) rfl (oy rfl rfl rfl rfl (s_len rfl Try.underlying25 rfl rfl)) ?_
  refine rg_put (d := 15) (v := .pt 102 2) rfl (oy rfl rfl rfl rfl (of_eff (s_field_pt rfl Try.underlying28 rfl ti25 rfl rfl rfl) rfl)) ?_
  refine rg_put (d := 16) (v := .d (.sl 4 (List.map eBd x.bands))) rfl (oy rfl rfl rfl rfl (op_load_pt rfl Try.underlying25 rfl rfl rfl rfl rfl)) ?_
  refine rg_put (d := 17) (v := .d (.fl (.int .i64 (x.bands.length : Int)))) rfl (oy rfl rfl rfl rfl (s_len rfl Try.underlying25 rfl rfl)) ?_
  refine rg_put (d := 18) (v := .d (.fl (.bool (((x.bands.length : Int) != (x.bands.length : Int)))))) rfl (oy rfl rfl rfl rfl (op_bin rfl rfl rfl (b_neq _ _ _ _) rfl)) ?_
  refine rg_put (d := 19) (v := .d (.fl (.bool (((x.bands.length : Int) != (x.bands.length : Int)))))) rfl (og rfl (op_pick rfl rfl rfl rfl)) ?_
  refine rg_done rfl ?_
  refine a_condF rfl (ne_self_b _) ?_
  refine a_skip ?_
  show A _ _ _ _ _ _ _
  refine a_seq ?_
  refine a_rseq ?_
  refine rg_put (d := 5) (v := .d (.fl (.int .i64 0))) rfl (og rfl (op_assign rfl rfl rfl)) ?_
  refine rg_done rfl ?_
  refine a_block ?_
  refine a_loop (ι := Nat) (fun k => SS [(0, .d (.ag (eTa x))), (1, .d (.ag (eTa x))), (2, .pt 101 0), (3, .pt 102 0), (19, .d (.fl (.bool (((x.bands.length : Int) != (x.bands.length : Int)))))), (5, .d (.fl (.int .i64 (k : Int))))] [(101, .bx 28 (eTa x)), (102, .bx 28 (eTa x))]) (fun k => k ≤ x.bands.length) (fun k => x.bands.length - k) 0 (by omega) (imp_forget rfl ⟨rfl, rfl, rfl, rfl, rfl, (by first | rfl | exact ci (by omega) | exact ci (by simp) | exact cd (by simp) | simp), trivial⟩ ⟨rfl, rfl, trivial⟩) (fun k hok => ?_)
  have hk := hok
  refine a_seq ?_
  refine a_rseq ?_
  refine rg_put (d := 20) (v := .d (.fl (.int .i64 (k : Int)))) rfl (og rfl (op_move rfl rfl rfl)) ?_
  refine rg_put (d := 21) (v := .pt 101 2) rfl (og rfl (of_eff (s_field_pt rfl Try.underlying28 rfl ti25 rfl rfl rfl) rfl)) ?_
  refine rg_put (d := 22) (v := .d (.sl 4 (List.map eBd x.bands))) rfl (og rfl (op_load_pt rfl Try.underlying25 rfl rfl rfl rfl rfl)) ?_
  refine rg_put (d := 23) (v := .d (.fl (.int .i64 (x.bands.length : Int)))) rfl (og rfl (s_len rfl Try.underlying25 rfl rfl)) ?_
  refine rg_put (d := 24) (v := .d (.fl (.bool ((decide ((k : Int) < (x.bands.length : Int))))))) rfl (og rfl (op_bin rfl rfl rfl (b_lss _ _ _ _) rfl)) ?_
  refine rg_done rfl ?_
  refine a_cond rfl (fun h1 => ?_) (fun h1 => ?_)
  · skip
    have h2 := t_dec h1
    refine a_skip ?_
    show A _ _ _ _ _ _ _
    refine a_seq ?_
    refine a_block ?_
    refine a_dseq (by kernel_rfl) ?_
    refine dr_put (d := 27) (v := .pt 101 2) rfl (og rfl (of_eff (s_field_pt rfl Try.underlying28 rfl ti25 rfl rfl rfl) rfl)) ?_
    refine dr_put (d := 28) (v := .d (.sl 4 (List.map eBd x.bands))) rfl (og rfl (op_load_pt rfl Try.underlying25 rfl rfl rfl rfl rfl)) ?_
    refine dr_put (d := 29) (v := .d (.fl (.int .i64 (k : Int)))) rfl (og rfl (op_move rfl rfl rfl)) ?_
    refine dr_put (d := 30) (v := .el ((eBd (ix x.bands k)))) rfl (og rfl (s_index rfl Try.underlying25 ti54 rfl rfl (by omega) (row_at (by omega)) rfl)) ?_
    refine dr_put (d := 31) (v := .d (.ag (eBd (ix x.bands k)))) rfl (og rfl (of_eff (s_load_els rfl Try.underlying54 rfl ti54 rfl rfl rfl) rfl)) ?_
    refine dr_put (d := 32) (v := .pt 102 2) rfl (og rfl (of_eff (s_field_pt rfl Try.underlying28 rfl ti25 rfl rfl rfl) rfl)) ?_
    refine dr_put (d := 33) (v := .d (.sl 4 (List.map eBd x.bands))) rfl (og rfl (op_load_pt rfl Try.underlying25 rfl rfl rfl rfl rfl)) ?_
    refine dr_put (d := 34) (v := .d (.fl (.int .i64 (k : Int)))) rfl (og rfl (op_move rfl rfl rfl)) ?_
    refine dr_put (d := 35) (v := .el ((eBd (ix x.bands k)))) rfl (og rfl (s_index rfl Try.underlying25 ti54 rfl rfl (by omega) (row_at (by omega)) rfl)) ?_
    refine dr_put (d := 36) (v := .d (.ag (eBd (ix x.bands k)))) rfl (og rfl (of_eff (s_load_els rfl Try.underlying54 rfl ti54 rfl rfl rfl) rfl)) ?_
    refine dr_put (d := 37) (v := .d (.fl (.bool false))) rfl (og rfl (op_eqS [.string ((ix x.bands k).name), .int .i64 (((ix x.bands k).win).days), .int .i64 (((ix x.bands k).win).fr), .int .i64 (((ix x.bands k).win).to)] [.string ((ix x.bands k).name), .int .i64 (((ix x.bands k).win).days), .int .i64 (((ix x.bands k).win).fr), .int .i64 (((ix x.bands k).win).to)] rfl rfl rfl (b := false) (fun ww => neq54 (ix x.bands k) _ _ ww) rfl)) ?_
    refine dr_done rfl (by kernel_rfl) (by kernel_rfl) ?_
    refine a_condF rfl rfl ?_
    refine a_skip ?_
    show A _ _ _ _ _ _ _
    refine a_region ?_
    refine rg_put (d := 25) (v := .d (.fl (.int .i64 (k : Int)))) rfl (og rfl (op_move rfl rfl rfl)) ?_
    refine rg_put (d := 26) (v := .d (.fl (.int .i64 (((k : Int) + 1))))) rfl (og rfl (op_bin rfl rfl rfl (fun x y w => b_add64 _ _ _ x y w (by omega)) rfl)) ?_
    refine rg_put (d := 5) (v := .d (.fl (.int .i64 (((k : Int) + 1))))) rfl (og rfl (op_assign rfl rfl rfl)) ?_
    refine rg_done rfl ?_
    show ∃ i, _ ∧ _ ∧ Imp _ _ _ _ _
    refine ⟨k + 1, (by omega), by omega, imp_forget rfl ⟨rfl, rfl, rfl, rfl, rfl, (by first | rfl | exact ci (by omega) | exact ci (by simp) | exact cd (by simp) | simp), trivial⟩ ⟨rfl, rfl, trivial⟩⟩
  · skip
    have h3 := f_dec h1
    refine a_exit ?_
    show A _ _ _ _ _ _ _
    refine a_rseq ?_
    refine rg_put (d := 38) (v := .pt 101 3) rfl (og rfl (of_eff (s_field_pt rfl Try.underlying28 rfl ti26 rfl rfl rfl) rfl)) ?_
    refine rg_put (d := 39) (v := .d (.sl 5 (List.map eRt x.rates))) rfl (og rfl (op_load_pt rfl Try.underlying26 rfl rfl rfl rfl rfl)) ?_
    refine rg_put (d := 40) (v := .pt 102 3) rfl (og rfl (of_eff (s_field_pt rfl Try.underlying28 rfl ti26 rfl rfl rfl) rfl)) ?_
    refine rg_put (d := 41) (v := .d (.sl 5 (List.map eRt x.rates))) rfl (og rfl (op_load_pt rfl Try.underlying26 rfl rfl rfl rfl rfl)) ?_
    refine rg_put (d := 42) (v := .d (.fl (.bool true))) rfl (og rfl (op_call rfl Try.func18 nm18 rfl (.cons rfl (.d _) (.cons rfl (.d _) .nil)) (sameR18 x.rates (by omega)) rfl)) ?_
    refine rg_put (d := 4) (v := .d (.fl (.bool true))) rfl (og rfl (op_assign rfl rfl rfl)) ?_
    refine rg_done rfl ?_
    refine a_ret ?_
    show ∃ ds, ResL _ _ _ ds ∧ RV.of ds = _
    refine ⟨[.fl (.bool true)], (.cons (.tmp rfl (.d _)) .nil), ?_⟩
    rfl
end Go.Proofs.Ytgcagigpolnjfaa.Wk
