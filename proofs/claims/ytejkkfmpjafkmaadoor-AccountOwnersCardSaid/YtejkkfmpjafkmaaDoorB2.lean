/- Accounts found, both sides. Conditions: as each theorem names them. -/
import Derived.Test.YtejkkfmpjafkmaaDoorB1
import Derived.Test.YtejkkfmpjafkmaaDoorAvH
set_option linter.unusedSimpArgs false
set_option linter.unusedVariables false
namespace Go.Proofs.YtejkkfmpjafkmaaDoor.Wk
open Go Go.RowKit Go.Proofs.YtejkkfmpjafkmaaDoor.Av
set_option maxHeartbeats 4000000 in
set_option maxRecDepth 100000 in
theorem cop21 (l : List Ow) (c : Int) (hl : l.length ≤ 1000) (hc : 0 ≤ c ∧ c ≤ 1000) : Ctr Tryd.prog 21 [.sl 4 (List.map eOw l), .fl (.int .i64 c)] (.d (.sl 4 (List.map eOw l))) := by
  refine ctr (n := 17) (rs := #[.tmp 4]) (L := [(0, .d (.sl 4 (List.map eOw l))), (1, .d (.fl (.int .i64 c)))]) Tryd.func21 rfl rfl rfl rfl rfl (fun w0 U0 => ?_)
  refine a_rseq ?_
  refine rg_put (d := 4) (v := .d (.fl (.slice none 0 0))) rfl (og rfl (op_assign rfl rfl rfl)) ?_
  refine rg_done rfl ?_
  refine a_rseq ?_
  refine rg_put (d := 6) (v := .d (.sl 4 (List.map eOw l))) rfl (og rfl (op_move rfl rfl rfl)) ?_
  refine rg_put (d := 7) (v := .d (.fl (.int .i64 (l.length : Int)))) rfl (og rfl (s_len rfl Tryd.underlying25 rfl rfl)) ?_
  refine rg_put (d := 8) (v := .d (.sl 4 (List.map eOw l))) rfl (og rfl (op_move rfl rfl rfl)) ?_
  refine rg_put (d := 9) (v := .d (.fl (.int .i64 (l.length : Int)))) rfl (og rfl (s_len rfl Tryd.underlying25 rfl rfl)) ?_
  refine rg_put (d := 10) (v := .d (.fl (.int .i64 c))) rfl (og rfl (op_move rfl rfl rfl)) ?_
  refine rg_put (d := 11) (v := .d (.fl (.int .i64 (((l.length : Int) + c))))) rfl (og rfl (op_bin rfl rfl rfl (fun x y w => b_add64 _ _ _ x y w (by omega)) rfl)) ?_
  refine rg_nam (d := 12) (v := .ow 101) (m := 101) (nw := [(101, .tr 48 4 (tD eOw ((List.replicate l.length (⟨⟨#[]⟩, ⟨#[]⟩, ⟨0, 0⟩⟩ : Ow)))))]) rfl (og rfl (of_eff (of_eff (op_makeS 101 rfl Tryd.underlying25 ti48 (n := l.length) rfl rfl (by omega) (by omega) (by omega) (by omega) (enc := eOw) (z0 := (⟨⟨#[]⟩, ⟨#[]⟩, ⟨0, 0⟩⟩ : Ow)) rfl rfl (List.forall_mem_cons.2 ⟨rfl, List.forall_mem_cons.2 ⟨rfl, List.forall_mem_cons.2 ⟨rfl, List.forall_mem_cons.2 ⟨rfl, fun _ h => (List.not_mem_nil h).elim⟩⟩⟩⟩) rfl) rfl) rfl)) rfl ?_
  refine rg_put (d := 5) (v := .ow 101) rfl (og rfl (op_assign rfl rfl rfl)) ?_
  refine rg_done rfl ?_
  refine a_rseq ?_
  refine rg_put (d := 13) (v := .ow 101) rfl (og rfl (op_move rfl rfl rfl)) ?_
  refine rg_put (d := 14) (v := .d (.sl 4 (List.map eOw l))) rfl (og rfl (op_move rfl rfl rfl)) ?_
  refine rg_upd (d := 15) (v := .d (.fl (.int .i64 (l.length : Int)))) (nw := [(101, .tr 48 4 (tD eOw ((l ++ List.drop l.length ((List.replicate l.length (⟨⟨#[]⟩, ⟨#[]⟩, ⟨0, 0⟩⟩ : Ow)))))))]) rfl (og rfl (of_eff (op_copyS rfl Tryd.underlying25 ti48 (by decide) (enc := eOw) (fun _ => rfl) (B := l) rfl rfl rfl (.d _) (by simp) rfl) rfl)) ?_
  refine rg_done rfl ?_
  refine a_rseq ?_
  rw [show (l ++ List.drop l.length ((List.replicate l.length (⟨⟨#[]⟩, ⟨#[]⟩, ⟨0, 0⟩⟩ : Ow)))) = l from by simp]
  refine rg_put (d := 16) (v := .ow 101) rfl (og rfl (op_move rfl rfl rfl)) ?_
  refine rg_put (d := 4) (v := .ow 101) rfl (og rfl (op_assign rfl rfl rfl)) ?_
  refine rg_done rfl ?_
  refine a_imp (imp_leakT 4 101 rfl rfl) ?_
  refine a_ret ?_
  show ∃ ds, ResL _ _ _ ds ∧ RV.of ds = _
  refine ⟨[.sl 4 (List.map eOw l)], (.cons (.tmp rfl (.d _)) .nil), ?_⟩
  rfl
set_option maxHeartbeats 4000000 in
set_option maxRecDepth 100000 in
theorem fiP (l : List Ac) (s : ByteArray) (hl : l.length ≤ 30) (ha : ∀ q, q < l.length → (ix l q).owned.length ≤ 80) : Ctr Tryd.prog 9 [.sl 9 (List.map eAc l), .fl (.string s)] (.tu [.ag (eAc (fin_ l s).1), .fl (.bool (fin_ l s).2)]) := by
  refine ctr (n := 23) (rs := #[.cell 4 29, .tmp 5]) (L := [(0, .d (.sl 9 (List.map eAc l))), (1, .d (.fl (.string s)))]) Tryd.func9 rfl rfl rfl rfl rfl (fun w0 U0 => ?_)
  refine a_rseq ?_
  refine rg_nam (d := 4) (v := .pt 101 0) (m := 101) (nw := [(101, .bx 29 ([.fl (.string (⟨#[]⟩)), .fl (.string (⟨#[]⟩)), .fl (.bool false), .fl (.slice none 0 0), .fl (.int .i64 0), .fl (.int .i64 0), .fl (.int .i64 0), .fl (.int .i64 0), .fl (.bool false)]))]) rfl (og rfl (of_eff (s_alloc 101 rfl ti29 (by kernel_rfl) rfl) rfl)) rfl ?_
  refine rg_put (d := 5) (v := .d (.fl (.bool false))) rfl (og rfl (op_assign rfl rfl rfl)) ?_
  refine rg_done rfl ?_
  refine a_rseq ?_
  have hai := ai_in l s
  refine rg_put (d := 8) (v := .d (.sl 9 (List.map eAc l))) rfl (og rfl (op_move rfl rfl rfl)) ?_
  refine rg_put (d := 9) (v := .d (.fl (.string s))) rfl (og rfl (op_move rfl rfl rfl)) ?_
  refine rg_put (d := 10) (v := .d (.fl (.int .i64 (ai l s)))) rfl (og rfl (op_call rfl Tryd.func20 nm20 rfl (.cons rfl (.d _) (.cons rfl (.d _) .nil)) (ixP l s (by omega)) rfl)) ?_
  refine rg_put (d := 6) (v := .d (.fl (.int .i64 (ai l s)))) rfl (og rfl (op_assign rfl rfl rfl)) ?_
  refine rg_done rfl ?_
  refine a_seq ?_
  refine a_rseq ?_
  refine rg_put (d := 11) (v := .d (.fl (.int .i64 (ai l s)))) rfl (og rfl (op_move rfl rfl rfl)) ?_
  refine rg_put (d := 12) (v := .d (.fl (.bool ((decide ((ai l s) < 0)))))) rfl (og rfl (op_bin rfl rfl rfl (b_lss _ _ _ _) rfl)) ?_
  refine rg_done rfl ?_
  refine a_cond rfl (fun h1 => ?_) (fun h1 => ?_)
  · skip
    have h2 := t_dec h1
    refine a_rseq ?_
    refine rg_put (d := 13) (v := .d (.ag [.fl (.string (⟨#[]⟩)), .fl (.string (⟨#[]⟩)), .fl (.bool false), .fl (.slice none 0 0), .fl (.int .i64 0), .fl (.int .i64 0), .fl (.int .i64 0), .fl (.int .i64 0), .fl (.bool false)])) rfl (og rfl (of_eff (op_build rfl Tryd.underlying29 ti29 rfl (by kernel_rfl) (by kernel_rfl) (pl := #[(0, 1), (1, 1), (2, 1), (3, 1), (4, 4), (8, 1)]) (by kernel_rfl) .nil rfl) rfl)) ?_
    refine rg_sto (nw := [(101, .bx 29 ([.fl (.string (⟨#[]⟩)), .fl (.string (⟨#[]⟩)), .fl (.bool false), .fl (.slice none 0 0), .fl (.int .i64 0), .fl (.int .i64 0), .fl (.int .i64 0), .fl (.int .i64 0), .fl (.bool false)]))]) rfl (og rfl (of_eff (s_store rfl rfl ti29 rfl rfl rfl rfl rfl rfl) rfl)) ?_
    refine rg_put (d := 5) (v := .d (.fl (.bool false))) rfl (og rfl (op_assign rfl rfl rfl)) ?_
    refine rg_done rfl ?_
    refine a_ret ?_
    show ∃ ds, ResL _ _ _ ds ∧ RV.of ds = _
    refine ⟨[.ag [.fl (.string (⟨#[]⟩)), .fl (.string (⟨#[]⟩)), .fl (.bool false), .sl 4 (List.map eOw []), .fl (.int .i64 0), .fl (.int .i64 0), .fl (.int .i64 0), .fl (.int .i64 0), .fl (.bool false)], .fl (.bool false)], (.cons (.cellT rfl rfl Tryd.underlying29 rfl ti29 rfl (Cv.ag (xs := [.fl (.string (⟨#[]⟩)), .fl (.string (⟨#[]⟩)), .fl (.bool false), .fl (.slice none 0 0), .fl (.int .i64 0), .fl (.int .i64 0), .fl (.int .i64 0), .fl (.int .i64 0), .fl (.bool false)]) (ys := [.fl (.string (⟨#[]⟩)), .fl (.string (⟨#[]⟩)), .fl (.bool false), .sl 4 (List.map eOw []), .fl (.int .i64 0), .fl (.int .i64 0), .fl (.int .i64 0), .fl (.int .i64 0), .fl (.bool false)]) ⟨Cv.refl _, Cv.refl _, Cv.refl _, Cv.nil _, Cv.refl _, Cv.refl _, Cv.refl _, Cv.refl _, Cv.refl _, trivial⟩)) (.cons (.tmp rfl (.d _)) .nil)), ?_⟩
    have hu : fin_ l s = (⟨⟨#[]⟩, ⟨#[]⟩, false, [], ⟨0, 0, 0, 0⟩, false⟩, false) := by unfold fin_; rw [if_pos (by omega)]
    rw [hu]; rfl
  · skip
    have h3 := f_dec h1
    refine a_skip ?_
    show A _ _ _ _ _ _ _
    refine a_rseq ?_
    refine rg_put (d := 14) (v := .d (.sl 9 (List.map eAc l))) rfl (og rfl (op_move rfl rfl rfl)) ?_
    refine rg_put (d := 15) (v := .d (.fl (.int .i64 (ai l s)))) rfl (og rfl (op_move rfl rfl rfl)) ?_
    refine rg_put (d := 16) (v := .el ((eAc ((ix l ((ai l s)).toNat))))) rfl (og rfl (s_index rfl Tryd.underlying22 ti29 rfl rfl (by omega) (row_atI (by omega) (by omega)) rfl)) ?_
    refine rg_put (d := 17) (v := .d (.ag (eAc (((ix l ((ai l s)).toNat)))))) rfl (og rfl (of_eff (s_load_els rfl Tryd.underlying29 rfl ti29 rfl rfl rfl) rfl)) ?_
    refine rg_nam (d := 7) (v := .pt 102 0) (m := 102) (nw := [(102, .bx 29 ([.fl (.string (⟨#[]⟩)), .fl (.string (⟨#[]⟩)), .fl (.bool false), .fl (.slice none 0 0), .fl (.int .i64 0), .fl (.int .i64 0), .fl (.int .i64 0), .fl (.int .i64 0), .fl (.bool false)]))]) rfl (og rfl (of_eff (s_alloc 102 rfl ti29 (by kernel_rfl) rfl) rfl)) rfl ?_
    refine rg_sto (nw := [(102, .bx 29 ((eAc (((ix l ((ai l s)).toNat))))))]) rfl (og rfl (of_eff (s_store rfl rfl ti29 rfl rfl rfl rfl rfl rfl) rfl)) ?_
    refine rg_done rfl ?_
    refine a_rseq ?_
    refine rg_put (d := 18) (v := .pt 102 3) rfl (og rfl (of_eff (s_field_pt rfl Tryd.underlying29 rfl ti25 rfl rfl rfl) rfl)) ?_
    refine rg_put (d := 19) (v := .d (.sl 4 (List.map eOw ((((ix l ((ai l s)).toNat))).owned)))) rfl (og rfl (op_load_pt rfl Tryd.underlying25 rfl rfl rfl rfl rfl)) ?_
    refine rg_put (d := 20) (v := .d (.sl 4 (List.map eOw ((((ix l ((ai l s)).toNat))).owned)))) rfl (og rfl (op_call rfl Tryd.func21 nm21 rfl (.cons rfl (.d _) (.cons rfl (.d _) .nil)) (cop21 ((((ix l ((ai l s)).toNat))).owned) 0 (by have := ha (ai l s).toNat (by omega); omega) (by omega)) rfl)) ?_
    refine rg_put (d := 21) (v := .pt 102 3) rfl (og rfl (of_eff (s_field_pt rfl Tryd.underlying29 rfl ti25 rfl rfl rfl) rfl)) ?_
    refine rg_sto (nw := [(102, .bx 29 [.fl (.string ((((ix l ((ai l s)).toNat))).name)), .fl (.string ((((ix l ((ai l s)).toNat))).agency)), .fl (.bool ((((ix l ((ai l s)).toNat))).prepay)), .sl 4 (List.map eOw ((((ix l ((ai l s)).toNat))).owned)), .fl (.int .i64 (((((ix l ((ai l s)).toNat))).refill).below)), .fl (.int .i64 (((((ix l ((ai l s)).toNat))).refill).cents)), .fl (.int .i64 (((((ix l ((ai l s)).toNat))).refill).tries)), .fl (.int .i64 (((((ix l ((ai l s)).toNat))).refill).wait)), .fl (.bool ((((ix l ((ai l s)).toNat))).exempt))])]) rfl (og rfl (of_eff (s_store rfl rfl ti25 rfl rfl rfl rfl rfl rfl) rfl)) ?_
    refine rg_done rfl ?_
    refine a_rseq ?_
    refine rg_put (d := 22) (v := .d (.ag (eAc ((Ac.mk ((((ix l ((ai l s)).toNat))).name) ((((ix l ((ai l s)).toNat))).agency) ((((ix l ((ai l s)).toNat))).prepay) ((((ix l ((ai l s)).toNat))).owned) ((Rf.mk (((((ix l ((ai l s)).toNat))).refill).below) (((((ix l ((ai l s)).toNat))).refill).cents) (((((ix l ((ai l s)).toNat))).refill).tries) (((((ix l ((ai l s)).toNat))).refill).wait))) ((((ix l ((ai l s)).toNat))).exempt)))))) rfl (og rfl (of_eff (s_load_pts rfl Tryd.underlying29 rfl ti29 rfl rfl rfl rfl) rfl)) ?_
    refine rg_sto (nw := [(101, .bx 29 ((eAc ((Ac.mk ((((ix l ((ai l s)).toNat))).name) ((((ix l ((ai l s)).toNat))).agency) ((((ix l ((ai l s)).toNat))).prepay) ((((ix l ((ai l s)).toNat))).owned) ((Rf.mk (((((ix l ((ai l s)).toNat))).refill).below) (((((ix l ((ai l s)).toNat))).refill).cents) (((((ix l ((ai l s)).toNat))).refill).tries) (((((ix l ((ai l s)).toNat))).refill).wait))) ((((ix l ((ai l s)).toNat))).exempt))))))]) rfl (og rfl (of_eff (s_store rfl rfl ti29 rfl rfl rfl rfl rfl rfl) rfl)) ?_
    refine rg_put (d := 5) (v := .d (.fl (.bool true))) rfl (og rfl (op_assign rfl rfl rfl)) ?_
    refine rg_done rfl ?_
    refine a_ret ?_
    show ∃ ds, ResL _ _ _ ds ∧ RV.of ds = _
    refine ⟨[.ag [.fl (.string ((Ac.mk ((ix l (ai l s).toNat).name) ((ix l (ai l s).toNat).agency) ((ix l (ai l s).toNat).prepay) ((ix l (ai l s).toNat).owned) (Rf.mk (((ix l (ai l s).toNat).refill).below) (((ix l (ai l s).toNat).refill).cents) (((ix l (ai l s).toNat).refill).tries) (((ix l (ai l s).toNat).refill).wait)) ((ix l (ai l s).toNat).exempt)).name)), .fl (.string ((Ac.mk ((ix l (ai l s).toNat).name) ((ix l (ai l s).toNat).agency) ((ix l (ai l s).toNat).prepay) ((ix l (ai l s).toNat).owned) (Rf.mk (((ix l (ai l s).toNat).refill).below) (((ix l (ai l s).toNat).refill).cents) (((ix l (ai l s).toNat).refill).tries) (((ix l (ai l s).toNat).refill).wait)) ((ix l (ai l s).toNat).exempt)).agency)), .fl (.bool ((Ac.mk ((ix l (ai l s).toNat).name) ((ix l (ai l s).toNat).agency) ((ix l (ai l s).toNat).prepay) ((ix l (ai l s).toNat).owned) (Rf.mk (((ix l (ai l s).toNat).refill).below) (((ix l (ai l s).toNat).refill).cents) (((ix l (ai l s).toNat).refill).tries) (((ix l (ai l s).toNat).refill).wait)) ((ix l (ai l s).toNat).exempt)).prepay)), .sl 4 (List.map eOw ((Ac.mk ((ix l (ai l s).toNat).name) ((ix l (ai l s).toNat).agency) ((ix l (ai l s).toNat).prepay) ((ix l (ai l s).toNat).owned) (Rf.mk (((ix l (ai l s).toNat).refill).below) (((ix l (ai l s).toNat).refill).cents) (((ix l (ai l s).toNat).refill).tries) (((ix l (ai l s).toNat).refill).wait)) ((ix l (ai l s).toNat).exempt)).owned)), .fl (.int .i64 (((Ac.mk ((ix l (ai l s).toNat).name) ((ix l (ai l s).toNat).agency) ((ix l (ai l s).toNat).prepay) ((ix l (ai l s).toNat).owned) (Rf.mk (((ix l (ai l s).toNat).refill).below) (((ix l (ai l s).toNat).refill).cents) (((ix l (ai l s).toNat).refill).tries) (((ix l (ai l s).toNat).refill).wait)) ((ix l (ai l s).toNat).exempt)).refill).below)), .fl (.int .i64 (((Ac.mk ((ix l (ai l s).toNat).name) ((ix l (ai l s).toNat).agency) ((ix l (ai l s).toNat).prepay) ((ix l (ai l s).toNat).owned) (Rf.mk (((ix l (ai l s).toNat).refill).below) (((ix l (ai l s).toNat).refill).cents) (((ix l (ai l s).toNat).refill).tries) (((ix l (ai l s).toNat).refill).wait)) ((ix l (ai l s).toNat).exempt)).refill).cents)), .fl (.int .i64 (((Ac.mk ((ix l (ai l s).toNat).name) ((ix l (ai l s).toNat).agency) ((ix l (ai l s).toNat).prepay) ((ix l (ai l s).toNat).owned) (Rf.mk (((ix l (ai l s).toNat).refill).below) (((ix l (ai l s).toNat).refill).cents) (((ix l (ai l s).toNat).refill).tries) (((ix l (ai l s).toNat).refill).wait)) ((ix l (ai l s).toNat).exempt)).refill).tries)), .fl (.int .i64 (((Ac.mk ((ix l (ai l s).toNat).name) ((ix l (ai l s).toNat).agency) ((ix l (ai l s).toNat).prepay) ((ix l (ai l s).toNat).owned) (Rf.mk (((ix l (ai l s).toNat).refill).below) (((ix l (ai l s).toNat).refill).cents) (((ix l (ai l s).toNat).refill).tries) (((ix l (ai l s).toNat).refill).wait)) ((ix l (ai l s).toNat).exempt)).refill).wait)), .fl (.bool ((Ac.mk ((ix l (ai l s).toNat).name) ((ix l (ai l s).toNat).agency) ((ix l (ai l s).toNat).prepay) ((ix l (ai l s).toNat).owned) (Rf.mk (((ix l (ai l s).toNat).refill).below) (((ix l (ai l s).toNat).refill).cents) (((ix l (ai l s).toNat).refill).tries) (((ix l (ai l s).toNat).refill).wait)) ((ix l (ai l s).toNat).exempt)).exempt))], .fl (.bool true)], (.cons (.cellT rfl rfl Tryd.underlying29 rfl ti29 rfl (Cv.ag (xs := [.fl (.string ((Ac.mk ((ix l (ai l s).toNat).name) ((ix l (ai l s).toNat).agency) ((ix l (ai l s).toNat).prepay) ((ix l (ai l s).toNat).owned) (Rf.mk (((ix l (ai l s).toNat).refill).below) (((ix l (ai l s).toNat).refill).cents) (((ix l (ai l s).toNat).refill).tries) (((ix l (ai l s).toNat).refill).wait)) ((ix l (ai l s).toNat).exempt)).name)), .fl (.string ((Ac.mk ((ix l (ai l s).toNat).name) ((ix l (ai l s).toNat).agency) ((ix l (ai l s).toNat).prepay) ((ix l (ai l s).toNat).owned) (Rf.mk (((ix l (ai l s).toNat).refill).below) (((ix l (ai l s).toNat).refill).cents) (((ix l (ai l s).toNat).refill).tries) (((ix l (ai l s).toNat).refill).wait)) ((ix l (ai l s).toNat).exempt)).agency)), .fl (.bool ((Ac.mk ((ix l (ai l s).toNat).name) ((ix l (ai l s).toNat).agency) ((ix l (ai l s).toNat).prepay) ((ix l (ai l s).toNat).owned) (Rf.mk (((ix l (ai l s).toNat).refill).below) (((ix l (ai l s).toNat).refill).cents) (((ix l (ai l s).toNat).refill).tries) (((ix l (ai l s).toNat).refill).wait)) ((ix l (ai l s).toNat).exempt)).prepay)), .sl 4 (List.map eOw ((Ac.mk ((ix l (ai l s).toNat).name) ((ix l (ai l s).toNat).agency) ((ix l (ai l s).toNat).prepay) ((ix l (ai l s).toNat).owned) (Rf.mk (((ix l (ai l s).toNat).refill).below) (((ix l (ai l s).toNat).refill).cents) (((ix l (ai l s).toNat).refill).tries) (((ix l (ai l s).toNat).refill).wait)) ((ix l (ai l s).toNat).exempt)).owned)), .fl (.int .i64 (((Ac.mk ((ix l (ai l s).toNat).name) ((ix l (ai l s).toNat).agency) ((ix l (ai l s).toNat).prepay) ((ix l (ai l s).toNat).owned) (Rf.mk (((ix l (ai l s).toNat).refill).below) (((ix l (ai l s).toNat).refill).cents) (((ix l (ai l s).toNat).refill).tries) (((ix l (ai l s).toNat).refill).wait)) ((ix l (ai l s).toNat).exempt)).refill).below)), .fl (.int .i64 (((Ac.mk ((ix l (ai l s).toNat).name) ((ix l (ai l s).toNat).agency) ((ix l (ai l s).toNat).prepay) ((ix l (ai l s).toNat).owned) (Rf.mk (((ix l (ai l s).toNat).refill).below) (((ix l (ai l s).toNat).refill).cents) (((ix l (ai l s).toNat).refill).tries) (((ix l (ai l s).toNat).refill).wait)) ((ix l (ai l s).toNat).exempt)).refill).cents)), .fl (.int .i64 (((Ac.mk ((ix l (ai l s).toNat).name) ((ix l (ai l s).toNat).agency) ((ix l (ai l s).toNat).prepay) ((ix l (ai l s).toNat).owned) (Rf.mk (((ix l (ai l s).toNat).refill).below) (((ix l (ai l s).toNat).refill).cents) (((ix l (ai l s).toNat).refill).tries) (((ix l (ai l s).toNat).refill).wait)) ((ix l (ai l s).toNat).exempt)).refill).tries)), .fl (.int .i64 (((Ac.mk ((ix l (ai l s).toNat).name) ((ix l (ai l s).toNat).agency) ((ix l (ai l s).toNat).prepay) ((ix l (ai l s).toNat).owned) (Rf.mk (((ix l (ai l s).toNat).refill).below) (((ix l (ai l s).toNat).refill).cents) (((ix l (ai l s).toNat).refill).tries) (((ix l (ai l s).toNat).refill).wait)) ((ix l (ai l s).toNat).exempt)).refill).wait)), .fl (.bool ((Ac.mk ((ix l (ai l s).toNat).name) ((ix l (ai l s).toNat).agency) ((ix l (ai l s).toNat).prepay) ((ix l (ai l s).toNat).owned) (Rf.mk (((ix l (ai l s).toNat).refill).below) (((ix l (ai l s).toNat).refill).cents) (((ix l (ai l s).toNat).refill).tries) (((ix l (ai l s).toNat).refill).wait)) ((ix l (ai l s).toNat).exempt)).exempt))]) (ys := [.fl (.string ((Ac.mk ((ix l (ai l s).toNat).name) ((ix l (ai l s).toNat).agency) ((ix l (ai l s).toNat).prepay) ((ix l (ai l s).toNat).owned) (Rf.mk (((ix l (ai l s).toNat).refill).below) (((ix l (ai l s).toNat).refill).cents) (((ix l (ai l s).toNat).refill).tries) (((ix l (ai l s).toNat).refill).wait)) ((ix l (ai l s).toNat).exempt)).name)), .fl (.string ((Ac.mk ((ix l (ai l s).toNat).name) ((ix l (ai l s).toNat).agency) ((ix l (ai l s).toNat).prepay) ((ix l (ai l s).toNat).owned) (Rf.mk (((ix l (ai l s).toNat).refill).below) (((ix l (ai l s).toNat).refill).cents) (((ix l (ai l s).toNat).refill).tries) (((ix l (ai l s).toNat).refill).wait)) ((ix l (ai l s).toNat).exempt)).agency)), .fl (.bool ((Ac.mk ((ix l (ai l s).toNat).name) ((ix l (ai l s).toNat).agency) ((ix l (ai l s).toNat).prepay) ((ix l (ai l s).toNat).owned) (Rf.mk (((ix l (ai l s).toNat).refill).below) (((ix l (ai l s).toNat).refill).cents) (((ix l (ai l s).toNat).refill).tries) (((ix l (ai l s).toNat).refill).wait)) ((ix l (ai l s).toNat).exempt)).prepay)), .sl 4 (List.map eOw ((Ac.mk ((ix l (ai l s).toNat).name) ((ix l (ai l s).toNat).agency) ((ix l (ai l s).toNat).prepay) ((ix l (ai l s).toNat).owned) (Rf.mk (((ix l (ai l s).toNat).refill).below) (((ix l (ai l s).toNat).refill).cents) (((ix l (ai l s).toNat).refill).tries) (((ix l (ai l s).toNat).refill).wait)) ((ix l (ai l s).toNat).exempt)).owned)), .fl (.int .i64 (((Ac.mk ((ix l (ai l s).toNat).name) ((ix l (ai l s).toNat).agency) ((ix l (ai l s).toNat).prepay) ((ix l (ai l s).toNat).owned) (Rf.mk (((ix l (ai l s).toNat).refill).below) (((ix l (ai l s).toNat).refill).cents) (((ix l (ai l s).toNat).refill).tries) (((ix l (ai l s).toNat).refill).wait)) ((ix l (ai l s).toNat).exempt)).refill).below)), .fl (.int .i64 (((Ac.mk ((ix l (ai l s).toNat).name) ((ix l (ai l s).toNat).agency) ((ix l (ai l s).toNat).prepay) ((ix l (ai l s).toNat).owned) (Rf.mk (((ix l (ai l s).toNat).refill).below) (((ix l (ai l s).toNat).refill).cents) (((ix l (ai l s).toNat).refill).tries) (((ix l (ai l s).toNat).refill).wait)) ((ix l (ai l s).toNat).exempt)).refill).cents)), .fl (.int .i64 (((Ac.mk ((ix l (ai l s).toNat).name) ((ix l (ai l s).toNat).agency) ((ix l (ai l s).toNat).prepay) ((ix l (ai l s).toNat).owned) (Rf.mk (((ix l (ai l s).toNat).refill).below) (((ix l (ai l s).toNat).refill).cents) (((ix l (ai l s).toNat).refill).tries) (((ix l (ai l s).toNat).refill).wait)) ((ix l (ai l s).toNat).exempt)).refill).tries)), .fl (.int .i64 (((Ac.mk ((ix l (ai l s).toNat).name) ((ix l (ai l s).toNat).agency) ((ix l (ai l s).toNat).prepay) ((ix l (ai l s).toNat).owned) (Rf.mk (((ix l (ai l s).toNat).refill).below) (((ix l (ai l s).toNat).refill).cents) (((ix l (ai l s).toNat).refill).tries) (((ix l (ai l s).toNat).refill).wait)) ((ix l (ai l s).toNat).exempt)).refill).wait)), .fl (.bool ((Ac.mk ((ix l (ai l s).toNat).name) ((ix l (ai l s).toNat).agency) ((ix l (ai l s).toNat).prepay) ((ix l (ai l s).toNat).owned) (Rf.mk (((ix l (ai l s).toNat).refill).below) (((ix l (ai l s).toNat).refill).cents) (((ix l (ai l s).toNat).refill).tries) (((ix l (ai l s).toNat).refill).wait)) ((ix l (ai l s).toNat).exempt)).exempt))]) ⟨Cv.refl _, Cv.refl _, Cv.refl _, Cv.refl _, Cv.refl _, Cv.refl _, Cv.refl _, Cv.refl _, Cv.refl _, trivial⟩)) (.cons (.tmp rfl (.d _)) .nil)), ?_⟩
    have hu : fin_ l s = (ix l (ai l s).toNat, true) := by unfold fin_; rw [if_neg (by omega)]
    rw [hu]; rfl
set_option maxHeartbeats 4000000 in
set_option maxRecDepth 100000 in
theorem fiR (l : List Ac) (s : ByteArray) (hl : l.length ≤ 30) (ha : ∀ q, q < l.length → (ix l q).owned.length ≤ 80) : Ctr Tryd.prog 10 [.sl 9 (List.map eAc l), .fl (.string s)] (.tu [.ag (eAc (fin_ l s).1), .fl (.bool (fin_ l s).2)]) := by
  refine ctr (n := 17) (rs := #[.cell 4 29, .tmp 5]) (L := [(0, .d (.sl 9 (List.map eAc l))), (1, .d (.fl (.string s)))]) Tryd.func10 rfl rfl rfl rfl rfl (fun w0 U0 => ?_)
  refine a_rseq ?_
  refine rg_nam (d := 4) (v := .pt 101 0) (m := 101) (nw := [(101, .bx 29 ([.fl (.string (⟨#[]⟩)), .fl (.string (⟨#[]⟩)), .fl (.bool false), .fl (.slice none 0 0), .fl (.int .i64 0), .fl (.int .i64 0), .fl (.int .i64 0), .fl (.int .i64 0), .fl (.bool false)]))]) rfl (og rfl (of_eff (s_alloc 101 rfl ti29 (by kernel_rfl) rfl) rfl)) rfl ?_
  refine rg_put (d := 5) (v := .d (.fl (.bool false))) rfl (og rfl (op_assign rfl rfl rfl)) ?_
  refine rg_done rfl ?_
  refine a_rseq ?_
  have hai := ai_in l s
  refine rg_put (d := 7) (v := .d (.sl 9 (List.map eAc l))) rfl (og rfl (op_move rfl rfl rfl)) ?_
  refine rg_put (d := 8) (v := .d (.fl (.string s))) rfl (og rfl (op_move rfl rfl rfl)) ?_
  refine rg_put (d := 9) (v := .d (.fl (.int .i64 (ai l s)))) rfl (og rfl (op_call rfl Tryd.func22 nm22 rfl (.cons rfl (.d _) (.cons rfl (.d _) .nil)) (ixR l s (by omega)) rfl)) ?_
  refine rg_put (d := 6) (v := .d (.fl (.int .i64 (ai l s)))) rfl (og rfl (op_assign rfl rfl rfl)) ?_
  refine rg_done rfl ?_
  refine a_seq ?_
  refine a_rseq ?_
  refine rg_put (d := 10) (v := .d (.fl (.int .i64 (ai l s)))) rfl (og rfl (op_move rfl rfl rfl)) ?_
  refine rg_put (d := 11) (v := .d (.fl (.bool ((decide ((ai l s) < 0)))))) rfl (og rfl (op_bin rfl rfl rfl (b_lss _ _ _ _) rfl)) ?_
  refine rg_done rfl ?_
  refine a_cond rfl (fun h1 => ?_) (fun h1 => ?_)
  · skip
    have h2 := t_dec h1
    refine a_rseq ?_
    refine rg_put (d := 12) (v := .d (.ag [.fl (.string (⟨#[]⟩)), .fl (.string (⟨#[]⟩)), .fl (.bool false), .fl (.slice none 0 0), .fl (.int .i64 0), .fl (.int .i64 0), .fl (.int .i64 0), .fl (.int .i64 0), .fl (.bool false)])) rfl (og rfl (of_eff (op_build rfl Tryd.underlying29 ti29 rfl (by kernel_rfl) (by kernel_rfl) (pl := #[(0, 1), (1, 1), (2, 1), (3, 1), (4, 4), (8, 1)]) (by kernel_rfl) .nil rfl) rfl)) ?_
    refine rg_sto (nw := [(101, .bx 29 ([.fl (.string (⟨#[]⟩)), .fl (.string (⟨#[]⟩)), .fl (.bool false), .fl (.slice none 0 0), .fl (.int .i64 0), .fl (.int .i64 0), .fl (.int .i64 0), .fl (.int .i64 0), .fl (.bool false)]))]) rfl (og rfl (of_eff (s_store rfl rfl ti29 rfl rfl rfl rfl rfl rfl) rfl)) ?_
    refine rg_put (d := 5) (v := .d (.fl (.bool false))) rfl (og rfl (op_assign rfl rfl rfl)) ?_
    refine rg_done rfl ?_
    refine a_ret ?_
    show ∃ ds, ResL _ _ _ ds ∧ RV.of ds = _
    refine ⟨[.ag [.fl (.string (⟨#[]⟩)), .fl (.string (⟨#[]⟩)), .fl (.bool false), .sl 4 (List.map eOw []), .fl (.int .i64 0), .fl (.int .i64 0), .fl (.int .i64 0), .fl (.int .i64 0), .fl (.bool false)], .fl (.bool false)], (.cons (.cellT rfl rfl Tryd.underlying29 rfl ti29 rfl (Cv.ag (xs := [.fl (.string (⟨#[]⟩)), .fl (.string (⟨#[]⟩)), .fl (.bool false), .fl (.slice none 0 0), .fl (.int .i64 0), .fl (.int .i64 0), .fl (.int .i64 0), .fl (.int .i64 0), .fl (.bool false)]) (ys := [.fl (.string (⟨#[]⟩)), .fl (.string (⟨#[]⟩)), .fl (.bool false), .sl 4 (List.map eOw []), .fl (.int .i64 0), .fl (.int .i64 0), .fl (.int .i64 0), .fl (.int .i64 0), .fl (.bool false)]) ⟨Cv.refl _, Cv.refl _, Cv.refl _, Cv.nil _, Cv.refl _, Cv.refl _, Cv.refl _, Cv.refl _, Cv.refl _, trivial⟩)) (.cons (.tmp rfl (.d _)) .nil)), ?_⟩
    have hu : fin_ l s = (⟨⟨#[]⟩, ⟨#[]⟩, false, [], ⟨0, 0, 0, 0⟩, false⟩, false) := by unfold fin_; rw [if_pos (by omega)]
    rw [hu]; rfl
  · skip
    have h3 := f_dec h1
    refine a_skip ?_
    show A _ _ _ _ _ _ _
    refine a_rseq ?_
    refine rg_put (d := 13) (v := .d (.sl 9 (List.map eAc l))) rfl (og rfl (op_move rfl rfl rfl)) ?_
    refine rg_put (d := 14) (v := .d (.fl (.int .i64 (ai l s)))) rfl (og rfl (op_move rfl rfl rfl)) ?_
    refine rg_put (d := 15) (v := .el ((eAc ((ix l ((ai l s)).toNat))))) rfl (og rfl (s_index rfl Tryd.underlying22 ti29 rfl rfl (by omega) (row_atI (by omega) (by omega)) rfl)) ?_
    refine rg_put (d := 16) (v := .d (.ag (eAc (((ix l ((ai l s)).toNat)))))) rfl (og rfl (of_eff (s_load_els rfl Tryd.underlying29 rfl ti29 rfl rfl rfl) rfl)) ?_
    refine rg_sto (nw := [(101, .bx 29 ((eAc (((ix l ((ai l s)).toNat))))))]) rfl (og rfl (of_eff (s_store rfl rfl ti29 rfl rfl rfl rfl rfl rfl) rfl)) ?_
    refine rg_put (d := 5) (v := .d (.fl (.bool true))) rfl (og rfl (op_assign rfl rfl rfl)) ?_
    refine rg_done rfl ?_
    refine a_ret ?_
    show ∃ ds, ResL _ _ _ ds ∧ RV.of ds = _
    refine ⟨[.ag [.fl (.string ((ix l (ai l s).toNat).name)), .fl (.string ((ix l (ai l s).toNat).agency)), .fl (.bool ((ix l (ai l s).toNat).prepay)), .sl 4 (List.map eOw ((ix l (ai l s).toNat).owned)), .fl (.int .i64 (((ix l (ai l s).toNat).refill).below)), .fl (.int .i64 (((ix l (ai l s).toNat).refill).cents)), .fl (.int .i64 (((ix l (ai l s).toNat).refill).tries)), .fl (.int .i64 (((ix l (ai l s).toNat).refill).wait)), .fl (.bool ((ix l (ai l s).toNat).exempt))], .fl (.bool true)], (.cons (.cellT rfl rfl Tryd.underlying29 rfl ti29 rfl (Cv.ag (xs := [.fl (.string ((ix l (ai l s).toNat).name)), .fl (.string ((ix l (ai l s).toNat).agency)), .fl (.bool ((ix l (ai l s).toNat).prepay)), .sl 4 (List.map eOw ((ix l (ai l s).toNat).owned)), .fl (.int .i64 (((ix l (ai l s).toNat).refill).below)), .fl (.int .i64 (((ix l (ai l s).toNat).refill).cents)), .fl (.int .i64 (((ix l (ai l s).toNat).refill).tries)), .fl (.int .i64 (((ix l (ai l s).toNat).refill).wait)), .fl (.bool ((ix l (ai l s).toNat).exempt))]) (ys := [.fl (.string ((ix l (ai l s).toNat).name)), .fl (.string ((ix l (ai l s).toNat).agency)), .fl (.bool ((ix l (ai l s).toNat).prepay)), .sl 4 (List.map eOw ((ix l (ai l s).toNat).owned)), .fl (.int .i64 (((ix l (ai l s).toNat).refill).below)), .fl (.int .i64 (((ix l (ai l s).toNat).refill).cents)), .fl (.int .i64 (((ix l (ai l s).toNat).refill).tries)), .fl (.int .i64 (((ix l (ai l s).toNat).refill).wait)), .fl (.bool ((ix l (ai l s).toNat).exempt))]) ⟨Cv.refl _, Cv.refl _, Cv.refl _, Cv.refl _, Cv.refl _, Cv.refl _, Cv.refl _, Cv.refl _, Cv.refl _, trivial⟩)) (.cons (.tmp rfl (.d _)) .nil)), ?_⟩
    have hu : fin_ l s = (ix l (ai l s).toNat, true) := by unfold fin_; rw [if_neg (by omega)]
    rw [hu]; rfl
end Go.Proofs.YtejkkfmpjafkmaaDoor.Wk
