/- The laws of posting, asking, zero, once and order. No condition. -/
import Derived.Test.YtmmadlhkniikdaaAl
import Derived.Test.YtmmadlhkniikdaaB6
set_option linter.unusedSimpArgs false
set_option linter.unusedVariables false
namespace Go.Proofs.Ytmmadlhkniikdaa.Wk
open Go Go.RowKit Go.Proofs.Ytmmadlhkniikdaa.Av
structure Ask where
  key : ByteArray
  acc : ByteArray
  time : Int
  deriving Inhabited
def eAsk (x : Ask) : List DV := [.fl (.string x.key), .fl (.string x.acc), .fl (.int .i64 x.time)]
theorem ti45 : TI Try.prog 45 (.agg #[.string ⟨#[]⟩, .string ⟨#[]⟩, .int .i64 0]) 3 40 := ti_of (by kernel_rfl)
set_option maxHeartbeats 4000000 in
set_option maxRecDepth 100000 in
theorem law5 (l : List En) : Ctr Try.prog 5 [.sl 3 (List.map eEn l)] (.d (.fl (.bool true))) := by
  refine ctr (n := 55) (rs := #[.tmp 2]) (L := [(0, .d (.sl 3 (List.map eEn l)))]) Try.func5 rfl rfl rfl rfl rfl (fun w0 U0 => ?_)
  refine a_rseq ?_
  refine rg_put (d := 2) (v := .d (.fl (.bool false))) rfl (og rfl (op_assign rfl rfl rfl)) ?_
  refine rg_done rfl ?_
  refine a_seq ?_
  refine a_rseq ?_
  refine rg_put (d := 13) (v := .d (.sl 3 (List.map eEn l))) rfl (og rfl (op_move rfl rfl rfl)) ?_
  refine rg_put (d := 14) (v := .tu [.ag (eLe ((Led.mk (bdR l).1))), .fl (.bool ((bdR l).2))]) rfl (og rfl (op_call rfl Try.func14 nm14 rfl (.cons rfl (.d _) .nil) (bldC l) rfl)) ?_
  refine rg_put (d := 12) (v := .tu [.ag (eLe ((Led.mk (bdR l).1))), .fl (.bool ((bdR l).2))]) rfl (og rfl (op_move rfl rfl rfl)) ?_
  refine rg_put (d := 15) (v := .d (.ag (eLe ((Led.mk (bdR l).1))))) rfl (og rfl (op_extract rfl rfl rfl rfl)) ?_
  refine rg_put (d := 16) (v := .d (.fl (.bool ((bdR l).2)))) rfl (og rfl (op_extract rfl rfl rfl rfl)) ?_
  refine rg_nam (d := 3) (v := .pt 101 0) (m := 101) (nw := [(101, .bx 35 [.fl (.slice none 0 0)])]) rfl (og rfl (of_eff (s_alloc 101 rfl ti35 (by kernel_rfl) rfl) rfl)) rfl ?_
  refine rg_sto (nw := [(101, .bx 35 ((eLe ((Led.mk (bdR l).1)))))]) rfl (og rfl (of_eff (s_store rfl rfl ti35 rfl rfl rfl rfl rfl rfl) rfl)) ?_
  refine rg_put (d := 4) (v := .d (.fl (.bool ((bdR l).2)))) rfl (og rfl (op_assign rfl rfl rfl)) ?_
  refine rg_done rfl ?_
  refine a_rseq ?_
  refine rg_put (d := 17) (v := .d (.fl (.bool ((bdR l).2)))) rfl (og rfl (op_move rfl rfl rfl)) ?_
  refine rg_put (d := 18) (v := .d (.fl (.bool ((!((bdR l).2)))))) rfl (og rfl (op_un rfl rfl (u_not _) rfl)) ?_
  refine rg_done rfl ?_
  refine a_cond rfl (fun h1 => ?_) (fun h1 => ?_)
  · skip
    have h2 := t_not h1
    refine a_rseq ?_
    refine rg_put (d := 2) (v := .d (.fl (.bool true))) rfl (og rfl (op_assign rfl rfl rfl)) ?_
    refine rg_done rfl ?_
    refine a_ret ?_
    show ∃ ds, ResL _ _ _ ds ∧ RV.of ds = _
    refine ⟨[.fl (.bool true)], (.cons (.tmp rfl (.d _)) .nil), ?_⟩
    rfl
  · skip
    have h3 := f_not h1
    refine a_skip ?_
    show A _ _ _ _ _ _ _
    refine a_rseq ?_
    obtain ⟨hl40, hs, hbe⟩ := bdR_t h3
    refine rg_nam (d := 5) (v := .pt 102 0) (m := 102) (nw := [(102, .bx 35 [.fl (.slice none 0 0)])]) rfl (og rfl (of_eff (s_alloc 102 rfl ti35 (by kernel_rfl) rfl) rfl)) rfl ?_
    refine rg_nam (d := 6) (v := .pt 103 0) (m := 103) (nw := [(103, .bx 35 [.fl (.slice none 0 0)])]) rfl (og rfl (of_eff (s_alloc 103 rfl ti35 (by kernel_rfl) rfl) rfl)) rfl ?_
    refine rg_done rfl ?_
    refine a_seq ?_
    refine a_rseq ?_
    refine rg_imp (imp_bt 102 rfl) ?_
    refine rg_imp (imp_btnil 102 0 24 3 rfl rfl) ?_
    refine rg_imp (imp_leakBt 102 (ds := [.sl 3 (List.map eEn ([] : List En))]) rfl rfl rfl) ?_
    refine rg_imp (imp_bt 103 rfl) ?_
    refine rg_imp (imp_btnil 103 0 24 3 rfl rfl) ?_
    refine rg_imp (imp_leakBt 103 (ds := [.sl 3 (List.map eEn ([] : List En))]) rfl rfl rfl) ?_
    refine rg_put (d := 7) (v := .d (.fl (.int .i64 0))) rfl (og rfl (op_assign rfl rfl rfl)) ?_
    refine rg_done rfl ?_
    refine a_block ?_
    refine a_loop (ι := Nat) (fun k => SS [(0, .d (.sl 3 (List.map eEn l))), (4, .d (.fl (.bool ((bdR l).2)))), (5, .pt 102 0), (6, .pt 103 0), (18, .d (.fl (.bool ((!((bdR l).2)))))), (7, .d (.fl (.int .i64 (k : Int))))] [(102, .bx 35 [.sl 3 (List.map eEn (bld l k))]), (103, .bx 35 [.sl 3 (List.map eEn (bld l k))])]) (fun k => k ≤ l.length) (fun k => l.length - k) 0 (by omega) (imp_forget rfl ⟨rfl, rfl, rfl, rfl, rfl, (by first | rfl | exact ci (by omega) | exact ci (by simp) | exact cd (by simp) | simp), trivial⟩ ⟨rfl, rfl, trivial⟩) (fun k hok => ?_)
    have hk := hok
    refine a_seq ?_
    refine a_rseq ?_
    refine rg_put (d := 19) (v := .d (.fl (.int .i64 (k : Int)))) rfl (og rfl (op_move rfl rfl rfl)) ?_
    refine rg_put (d := 20) (v := .d (.sl 3 (List.map eEn l))) rfl (og rfl (op_move rfl rfl rfl)) ?_
    refine rg_put (d := 21) (v := .d (.fl (.int .i64 (l.length : Int)))) rfl (og rfl (s_len rfl Try.underlying33 rfl rfl)) ?_
    refine rg_put (d := 22) (v := .d (.fl (.bool ((decide ((k : Int) < (l.length : Int))))))) rfl (og rfl (op_bin rfl rfl rfl (b_lss _ _ _ _) rfl)) ?_
    refine rg_done rfl ?_
    refine a_cond rfl (fun h4 => ?_) (fun h4 => ?_)
    · skip
      have h5 := t_dec h4
      refine a_skip ?_
      show A _ _ _ _ _ _ _
      refine a_seq ?_
      refine a_block ?_
      refine a_dseq (by kernel_rfl) ?_
      have hsk := sml_t (hs k (by omega))
      have hbl := (bld_in hs k (by omega)).1
      have hbo := bld_ok (by omega) hs (show k ≤ l.length by omega)
      have hbn := bld_ok (by omega) hs (show k + 1 ≤ l.length by omega)
      refine dr_put (d := 26) (v := .d (.ag (eLe ((Led.mk (bld l k)))))) rfl (og rfl (of_eff (s_load_pts rfl Try.underlying35 rfl ti35 rfl rfl rfl rfl) rfl)) ?_
      refine dr_put (d := 27) (v := .d (.sl 3 (List.map eEn l))) rfl (og rfl (op_move rfl rfl rfl)) ?_
      refine dr_put (d := 28) (v := .d (.fl (.int .i64 (k : Int)))) rfl (og rfl (op_move rfl rfl rfl)) ?_
      refine dr_put (d := 29) (v := .el ((eEn (ix l k)))) rfl (og rfl (s_index rfl Try.underlying33 ti24 rfl rfl (by omega) (row_at (by omega)) rfl)) ?_
      refine dr_put (d := 30) (v := .d (.ag (eEn (ix l k)))) rfl (og rfl (of_eff (s_load_els rfl Try.underlying24 rfl ti24 rfl rfl rfl) rfl)) ?_
      refine dr_put (d := 31) (v := .tu [.ag (eLe ((Led.mk (pst ((Led.mk (bld l k))).ents (ix l k)).1))), .fl (.int .i64 ((pst ((Led.mk (bld l k))).ents (ix l k)).2))]) rfl (og rfl (op_call rfl Try.func15 nm15 rfl (.cons rfl (.d _) (.cons rfl (.d _) .nil)) (postC ((Led.mk (bld l k))) (ix l k) hbo (by have := hbl; show (bld l k).length ≤ 41; omega) hsk.1 hsk.2.1 hsk.2.2) rfl)) ?_
      refine dr_put (d := 25) (v := .tu [.ag (eLe ((Led.mk (pst ((Led.mk (bld l k))).ents (ix l k)).1))), .fl (.int .i64 ((pst ((Led.mk (bld l k))).ents (ix l k)).2))]) rfl (og rfl (op_move rfl rfl rfl)) ?_
      refine dr_put (d := 32) (v := .d (.ag (eLe ((Led.mk (pst ((Led.mk (bld l k))).ents (ix l k)).1))))) rfl (og rfl (op_extract rfl rfl rfl rfl)) ?_
      refine dr_put (d := 33) (v := .d (.fl (.int .i64 ((pst ((Led.mk (bld l k))).ents (ix l k)).2)))) rfl (og rfl (op_extract rfl rfl rfl rfl)) ?_
      refine dr_nam (d := 8) (v := .pt 104 0) (m := 104) (nw := [(104, .bx 35 [.fl (.slice none 0 0)])]) rfl (og rfl (of_eff (s_alloc 104 rfl ti35 (by kernel_rfl) rfl) rfl)) ?_
      refine dr_sto (nw := [(104, .bx 35 ((eLe ((Led.mk (pst ((Led.mk (bld l k))).ents (ix l k)).1)))))]) rfl (og rfl (of_eff (s_store rfl rfl ti35 rfl rfl rfl rfl rfl rfl) rfl)) ?_
      refine dr_put (d := 9) (v := .d (.fl (.int .i64 ((pst ((Led.mk (bld l k))).ents (ix l k)).2)))) rfl (og rfl (op_assign rfl rfl rfl)) ?_
      refine dr_done rfl (by kernel_rfl) (by kernel_rfl) ?_
      refine a_dseq (by kernel_rfl) ?_
      refine dr_put (d := 35) (v := .d (.ag (eLe ((Led.mk (bld l k)))))) rfl (og rfl (of_eff (s_load_pts rfl Try.underlying35 rfl ti35 rfl rfl rfl rfl) rfl)) ?_
      refine dr_put (d := 36) (v := .d (.sl 3 (List.map eEn l))) rfl (og rfl (op_move rfl rfl rfl)) ?_
      refine dr_put (d := 37) (v := .d (.fl (.int .i64 (k : Int)))) rfl (og rfl (op_move rfl rfl rfl)) ?_
      refine dr_put (d := 38) (v := .el ((eEn (ix l k)))) rfl (og rfl (s_index rfl Try.underlying33 ti24 rfl rfl (by omega) (row_at (by omega)) rfl)) ?_
      refine dr_put (d := 39) (v := .d (.ag (eEn (ix l k)))) rfl (og rfl (of_eff (s_load_els rfl Try.underlying24 rfl ti24 rfl rfl rfl) rfl)) ?_
      refine dr_put (d := 40) (v := .tu [.ag (eLe ((Led.mk (pst ((Led.mk (bld l k))).ents (ix l k)).1))), .fl (.int .i64 ((pst ((Led.mk (bld l k))).ents (ix l k)).2))]) rfl (og rfl (op_call rfl Try.func16 nm16 rfl (.cons rfl (.d _) (.cons rfl (.d _) .nil)) (postR ((Led.mk (bld l k))) (ix l k) hbo (by have := hbl; show (bld l k).length ≤ 41; omega) hsk.1 hsk.2.1 hsk.2.2) rfl)) ?_
      refine dr_put (d := 34) (v := .tu [.ag (eLe ((Led.mk (pst ((Led.mk (bld l k))).ents (ix l k)).1))), .fl (.int .i64 ((pst ((Led.mk (bld l k))).ents (ix l k)).2))]) rfl (og rfl (op_move rfl rfl rfl)) ?_
      refine dr_put (d := 41) (v := .d (.ag (eLe ((Led.mk (pst ((Led.mk (bld l k))).ents (ix l k)).1))))) rfl (og rfl (op_extract rfl rfl rfl rfl)) ?_
      refine dr_put (d := 42) (v := .d (.fl (.int .i64 ((pst ((Led.mk (bld l k))).ents (ix l k)).2)))) rfl (og rfl (op_extract rfl rfl rfl rfl)) ?_
      refine dr_nam (d := 10) (v := .pt 105 0) (m := 105) (nw := [(105, .bx 35 [.fl (.slice none 0 0)])]) rfl (og rfl (of_eff (s_alloc 105 rfl ti35 (by kernel_rfl) rfl) rfl)) ?_
      refine dr_sto (nw := [(105, .bx 35 ((eLe ((Led.mk (pst ((Led.mk (bld l k))).ents (ix l k)).1)))))]) rfl (og rfl (of_eff (s_store rfl rfl ti35 rfl rfl rfl rfl rfl rfl) rfl)) ?_
      refine dr_put (d := 11) (v := .d (.fl (.int .i64 ((pst ((Led.mk (bld l k))).ents (ix l k)).2)))) rfl (og rfl (op_assign rfl rfl rfl)) ?_
      refine dr_done rfl (by kernel_rfl) (by kernel_rfl) ?_
      refine a_seq ?_
      refine a_rseq ?_
      refine rg_put (d := 43) (v := .d (.fl (.int .i64 ((pst ((Led.mk (bld l k))).ents (ix l k)).2)))) rfl (og rfl (op_move rfl rfl rfl)) ?_
      refine rg_put (d := 44) (v := .d (.fl (.int .i64 ((pst ((Led.mk (bld l k))).ents (ix l k)).2)))) rfl (og rfl (op_move rfl rfl rfl)) ?_
      refine rg_put (d := 45) (v := .d (.fl (.bool (((pst ((Led.mk (bld l k))).ents (ix l k)).2 != (pst ((Led.mk (bld l k))).ents (ix l k)).2))))) rfl (og rfl (op_bin rfl rfl rfl (b_neq _ _ _ _) rfl)) ?_
      refine rg_put (d := 46) (v := .d (.fl (.bool (((pst ((Led.mk (bld l k))).ents (ix l k)).2 != (pst ((Led.mk (bld l k))).ents (ix l k)).2))))) rfl (og rfl (op_move rfl rfl rfl)) ?_
      refine rg_put (d := 47) (v := .d (.ag (eLe (((Led.mk (pst ((Led.mk (bld l k))).ents (ix l k)).1)))))) rfl (oy rfl rfl rfl (bne_self_eq_false _) (of_eff (s_load_pts rfl Try.underlying35 rfl ti35 rfl rfl rfl rfl) rfl)) ?_
      refine rg_put (d := 48) (v := .d (.ag (eLe (((Led.mk (pst ((Led.mk (bld l k))).ents (ix l k)).1)))))) rfl (oy rfl rfl rfl (bne_self_eq_false _) (of_eff (s_load_pts rfl Try.underlying35 rfl ti35 rfl rfl rfl rfl) rfl)) ?_
      refine rg_put (d := 49) (v := .d (.fl (.bool true))) rfl (oy rfl rfl rfl (bne_self_eq_false _) (op_call rfl Try.func17 nm17 rfl (.cons rfl (.d _) (.cons rfl (.d _) .nil)) (samL (((Led.mk (pst ((Led.mk (bld l k))).ents (ix l k)).1))) hbn) rfl)) ?_
      refine rg_put (d := 50) (v := .d (.fl (.bool (!true)))) rfl (oy rfl rfl rfl (bne_self_eq_false _) (op_un rfl rfl (u_not _) rfl)) ?_
      refine rg_put (d := 51) (v := .d (.fl (.bool (!true)))) rfl (og rfl (op_pick rfl rfl (by rw [(bne_self_eq_false _)]; rfl) rfl)) ?_
      refine rg_done rfl ?_
      refine a_condF rfl rfl ?_
      refine a_skip ?_
      show A _ _ _ _ _ _ _
      refine a_draw (by kernel_rfl) ?_
      refine dr_put (d := 52) (v := .d (.ag (eLe (((Led.mk (pst ((Led.mk (bld l k))).ents (ix l k)).1)))))) rfl (og rfl (of_eff (s_load_pts rfl Try.underlying35 rfl ti35 rfl rfl rfl rfl) rfl)) ?_
      refine dr_put (d := 53) (v := .d (.ag (eLe (((Led.mk (pst ((Led.mk (bld l k))).ents (ix l k)).1)))))) rfl (og rfl (of_eff (s_load_pts rfl Try.underlying35 rfl ti35 rfl rfl rfl rfl) rfl)) ?_
      refine dr_sto (nw := [(102, .bx 35 ((eLe (((Led.mk (pst ((Led.mk (bld l k))).ents (ix l k)).1))))))]) rfl (og rfl (of_eff (s_store rfl rfl ti35 rfl rfl rfl rfl rfl rfl) rfl)) ?_
      refine dr_sto (nw := [(103, .bx 35 ((eLe (((Led.mk (pst ((Led.mk (bld l k))).ents (ix l k)).1))))))]) rfl (og rfl (of_eff (s_store rfl rfl ti35 rfl rfl rfl rfl rfl rfl) rfl)) ?_
      refine dr_done rfl (by kernel_rfl) (by kernel_rfl) ?_
      show A _ _ _ _ _ _ _
      refine a_region ?_
      refine rg_put (d := 23) (v := .d (.fl (.int .i64 (k : Int)))) rfl (og rfl (op_move rfl rfl rfl)) ?_
      refine rg_put (d := 24) (v := .d (.fl (.int .i64 (((k : Int) + 1))))) rfl (og rfl (op_bin rfl rfl rfl (fun x y w => b_add64 _ _ _ x y w (by omega)) rfl)) ?_
      refine rg_put (d := 7) (v := .d (.fl (.int .i64 (((k : Int) + 1))))) rfl (og rfl (op_assign rfl rfl rfl)) ?_
      refine rg_done rfl ?_
      show ∃ i, _ ∧ _ ∧ Imp _ _ _ _ _
      refine ⟨k + 1, (by omega), by omega, imp_forget rfl ⟨rfl, rfl, rfl, rfl, rfl, (by first | rfl | exact ci (by omega) | exact ci (by simp) | exact cd (by simp) | simp), trivial⟩ ⟨rfl, rfl, trivial⟩⟩
    · skip
      have h6 := f_dec h4
      refine a_exit ?_
      show A _ _ _ _ _ _ _
      refine a_rseq ?_
      refine rg_put (d := 54) (v := .d (.fl (.bool true))) rfl (og rfl (op_call rfl Try.func13 nm13 rfl .nil alive13 rfl)) ?_
      refine rg_put (d := 2) (v := .d (.fl (.bool true))) rfl (og rfl (op_assign rfl rfl rfl)) ?_
      refine rg_done rfl ?_
      refine a_ret ?_
      show ∃ ds, ResL _ _ _ ds ∧ RV.of ds = _
      refine ⟨[.fl (.bool true)], (.cons (.tmp rfl (.d _)) .nil), ?_⟩
      rfl
theorem fd_len {l : List En} (h : okL l) (s : ByteArray) : (fdE l s).1.posts.length ≤ 40 := by
  unfold fdE
  cases hf : l.find? (kq s) with
  | none => exact Nat.zero_le _
  | some e => exact (h.e e (List.mem_of_find?_eq_some hf)).l
theorem okL_flt {l : List En} (h : okL l) (p : En → Bool) : okL (l.filter p) := ⟨Nat.le_trans (List.length_filter_le _ _) h.n, fun x hx => h.e x (List.mem_filter.1 hx).1⟩

set_option maxHeartbeats 4000000 in
set_option maxRecDepth 100000 in
theorem law6 (l : List En) (a : Ask) : Ctr Try.prog 6 [.sl 3 (List.map eEn l), .ag (eAsk a)] (.d (.fl (.bool true))) := by
  refine ctr (n := 95) (rs := #[.tmp 4]) (L := [(0, .d (.sl 3 (List.map eEn l))), (1, .d (.ag (eAsk a)))]) Try.func6 rfl rfl rfl rfl rfl (fun w0 U0 => ?_)
  refine a_rseq ?_
  refine rg_nam (d := 3) (v := .pt 101 0) (m := 101) (nw := [(101, .bx 45 (eAsk a))]) rfl (og rfl (of_eff (op_box 101 rfl rfl rfl rfl) rfl)) rfl ?_
  refine rg_put (d := 4) (v := .d (.fl (.bool false))) rfl (og rfl (op_assign rfl rfl rfl)) ?_
  refine rg_done rfl ?_
  refine a_rseq ?_
  refine rg_put (d := 16) (v := .d (.sl 3 (List.map eEn l))) rfl (og rfl (op_move rfl rfl rfl)) ?_
  refine rg_put (d := 17) (v := .tu [.ag (eLe ((Led.mk (bdR l).1))), .fl (.bool ((bdR l).2))]) rfl (og rfl (op_call rfl Try.func14 nm14 rfl (.cons rfl (.d _) .nil) (bldC l) rfl)) ?_
  refine rg_put (d := 15) (v := .tu [.ag (eLe ((Led.mk (bdR l).1))), .fl (.bool ((bdR l).2))]) rfl (og rfl (op_move rfl rfl rfl)) ?_
  refine rg_put (d := 18) (v := .d (.ag (eLe ((Led.mk (bdR l).1))))) rfl (og rfl (op_extract rfl rfl rfl rfl)) ?_
  refine rg_put (d := 19) (v := .d (.fl (.bool ((bdR l).2)))) rfl (og rfl (op_extract rfl rfl rfl rfl)) ?_
  refine rg_nam (d := 5) (v := .pt 102 0) (m := 102) (nw := [(102, .bx 35 [.fl (.slice none 0 0)])]) rfl (og rfl (of_eff (s_alloc 102 rfl ti35 (by kernel_rfl) rfl) rfl)) rfl ?_
  refine rg_sto (nw := [(102, .bx 35 ((eLe ((Led.mk (bdR l).1)))))]) rfl (og rfl (of_eff (s_store rfl rfl ti35 rfl rfl rfl rfl rfl rfl) rfl)) ?_
  refine rg_put (d := 6) (v := .d (.fl (.bool ((bdR l).2)))) rfl (og rfl (op_assign rfl rfl rfl)) ?_
  refine rg_done rfl ?_
  refine a_seq ?_
  refine a_rseq ?_
  refine rg_put (d := 20) (v := .d (.fl (.bool ((bdR l).2)))) rfl (og rfl (op_move rfl rfl rfl)) ?_
  refine rg_put (d := 21) (v := .d (.fl (.bool ((!((bdR l).2)))))) rfl (og rfl (op_un rfl rfl (u_not _) rfl)) ?_
  refine rg_done rfl ?_
  refine a_cond rfl (fun h1 => ?_) (fun h1 => ?_)
  · skip
    have h2 := t_not h1
    refine a_rseq ?_
    refine rg_put (d := 4) (v := .d (.fl (.bool true))) rfl (og rfl (op_assign rfl rfl rfl)) ?_
    refine rg_done rfl ?_
    refine a_ret ?_
    show ∃ ds, ResL _ _ _ ds ∧ RV.of ds = _
    refine ⟨[.fl (.bool true)], (.cons (.tmp rfl (.d _)) .nil), ?_⟩
    rfl
  · skip
    have h3 := f_not h1
    refine a_skip ?_
    show A _ _ _ _ _ _ _
    refine a_rseq ?_
    obtain ⟨hl40, hs, hbe⟩ := bdR_t h3
    have hbo := bld_ok (by omega) hs (Nat.le_refl l.length)
    have hbg := (bld_in hs l.length (Nat.le_refl _)).2.1
    have hbl := (bld_in hs l.length (Nat.le_refl _)).1
    rw [show (bdR l).1 = (bld l l.length) from hbe]
    refine rg_put (d := 23) (v := .d (.ag (eLe (((Led.mk (bld l l.length))))))) rfl (og rfl (of_eff (s_load_pts rfl Try.underlying35 rfl ti35 rfl rfl rfl rfl) rfl)) ?_
    refine rg_put (d := 24) (v := .pt 101 0) rfl (og rfl (of_eff (s_field_pt rfl Try.underlying45 rfl ti9 rfl rfl rfl) rfl)) ?_
    refine rg_put (d := 25) (v := .d (.fl (.string a.key))) rfl (og rfl (op_load_pt rfl Try.underlying9 rfl rfl rfl rfl rfl)) ?_
    refine rg_put (d := 26) (v := .tu [.ag (eEn ((fdE (bld l l.length) a.key).1)), .fl (.bool ((fdE (bld l l.length) a.key).2))]) rfl (og rfl (op_call rfl Try.func18 nm18 rfl (.cons rfl (.d _) (.cons rfl (.d _) .nil)) (finC (Led.mk (bld l l.length)) a.key hbo) rfl)) ?_
    refine rg_put (d := 22) (v := .tu [.ag (eEn ((fdE (bld l l.length) a.key).1)), .fl (.bool ((fdE (bld l l.length) a.key).2))]) rfl (og rfl (op_move rfl rfl rfl)) ?_
    refine rg_put (d := 27) (v := .d (.ag (eEn ((fdE (bld l l.length) a.key).1)))) rfl (og rfl (op_extract rfl rfl rfl rfl)) ?_
    refine rg_put (d := 28) (v := .d (.fl (.bool ((fdE (bld l l.length) a.key).2)))) rfl (og rfl (op_extract rfl rfl rfl rfl)) ?_
    refine rg_nam (d := 7) (v := .pt 103 0) (m := 103) (nw := [(103, .bx 24 ([.fl (.string (⟨#[]⟩)), .fl (.int .i64 0), .fl (.slice none 0 0)]))]) rfl (og rfl (of_eff (s_alloc 103 rfl ti24 (by kernel_rfl) rfl) rfl)) rfl ?_
    refine rg_sto (nw := [(103, .bx 24 ((eEn ((fdE (bld l l.length) a.key).1))))]) rfl (og rfl (of_eff (s_store rfl rfl ti24 rfl rfl rfl rfl rfl rfl) rfl)) ?_
    refine rg_put (d := 8) (v := .d (.fl (.bool ((fdE (bld l l.length) a.key).2)))) rfl (og rfl (op_assign rfl rfl rfl)) ?_
    refine rg_done rfl ?_
    refine a_rseq ?_
    refine rg_put (d := 30) (v := .d (.ag (eLe (((Led.mk (bld l l.length))))))) rfl (og rfl (of_eff (s_load_pts rfl Try.underlying35 rfl ti35 rfl rfl rfl rfl) rfl)) ?_
    refine rg_put (d := 31) (v := .pt 101 0) rfl (og rfl (of_eff (s_field_pt rfl Try.underlying45 rfl ti9 rfl rfl rfl) rfl)) ?_
    refine rg_put (d := 32) (v := .d (.fl (.string a.key))) rfl (og rfl (op_load_pt rfl Try.underlying9 rfl rfl rfl rfl rfl)) ?_
    refine rg_put (d := 33) (v := .tu [.ag (eEn ((fdE (bld l l.length) a.key).1)), .fl (.bool ((fdE (bld l l.length) a.key).2))]) rfl (og rfl (op_call rfl Try.func19 nm19 rfl (.cons rfl (.d _) (.cons rfl (.d _) .nil)) (finR (Led.mk (bld l l.length)) a.key hbo) rfl)) ?_
    refine rg_put (d := 29) (v := .tu [.ag (eEn ((fdE (bld l l.length) a.key).1)), .fl (.bool ((fdE (bld l l.length) a.key).2))]) rfl (og rfl (op_move rfl rfl rfl)) ?_
    refine rg_put (d := 34) (v := .d (.ag (eEn ((fdE (bld l l.length) a.key).1)))) rfl (og rfl (op_extract rfl rfl rfl rfl)) ?_
    refine rg_put (d := 35) (v := .d (.fl (.bool ((fdE (bld l l.length) a.key).2)))) rfl (og rfl (op_extract rfl rfl rfl rfl)) ?_
    refine rg_nam (d := 9) (v := .pt 104 0) (m := 104) (nw := [(104, .bx 24 ([.fl (.string (⟨#[]⟩)), .fl (.int .i64 0), .fl (.slice none 0 0)]))]) rfl (og rfl (of_eff (s_alloc 104 rfl ti24 (by kernel_rfl) rfl) rfl)) rfl ?_
    refine rg_sto (nw := [(104, .bx 24 ((eEn ((fdE (bld l l.length) a.key).1))))]) rfl (og rfl (of_eff (s_store rfl rfl ti24 rfl rfl rfl rfl rfl rfl) rfl)) ?_
    refine rg_put (d := 10) (v := .d (.fl (.bool ((fdE (bld l l.length) a.key).2)))) rfl (og rfl (op_assign rfl rfl rfl)) ?_
    refine rg_done rfl ?_
    refine a_rseq ?_
    refine rg_put (d := 37) (v := .d (.ag (eLe (((Led.mk (bld l l.length))))))) rfl (og rfl (of_eff (s_load_pts rfl Try.underlying35 rfl ti35 rfl rfl rfl rfl) rfl)) ?_
    refine rg_put (d := 38) (v := .tu [.fl (.int .i64 ((es1 gD (bld l l.length) (bld l l.length).length))), .fl (.int .i64 ((es1 gC (bld l l.length) (bld l l.length).length)))]) rfl (og rfl (op_call rfl Try.func20 nm20 rfl (.cons rfl (.d _) .nil) (triC (Led.mk (bld l l.length)) hbo) rfl)) ?_
    refine rg_put (d := 36) (v := .tu [.fl (.int .i64 ((es1 gD (bld l l.length) (bld l l.length).length))), .fl (.int .i64 ((es1 gC (bld l l.length) (bld l l.length).length)))]) rfl (og rfl (op_move rfl rfl rfl)) ?_
    refine rg_put (d := 39) (v := .d (.fl (.int .i64 ((es1 gD (bld l l.length) (bld l l.length).length))))) rfl (og rfl (op_extract rfl rfl rfl rfl)) ?_
    refine rg_put (d := 40) (v := .d (.fl (.int .i64 ((es1 gC (bld l l.length) (bld l l.length).length))))) rfl (og rfl (op_extract rfl rfl rfl rfl)) ?_
    refine rg_put (d := 11) (v := .d (.fl (.int .i64 ((es1 gD (bld l l.length) (bld l l.length).length))))) rfl (og rfl (op_assign rfl rfl rfl)) ?_
    refine rg_put (d := 12) (v := .d (.fl (.int .i64 ((es1 gC (bld l l.length) (bld l l.length).length))))) rfl (og rfl (op_assign rfl rfl rfl)) ?_
    refine rg_done rfl ?_
    refine a_rseq ?_
    refine rg_put (d := 42) (v := .d (.ag (eLe (((Led.mk (bld l l.length))))))) rfl (og rfl (of_eff (s_load_pts rfl Try.underlying35 rfl ti35 rfl rfl rfl rfl) rfl)) ?_
    refine rg_put (d := 43) (v := .tu [.fl (.int .i64 ((es1 gD (bld l l.length) (bld l l.length).length))), .fl (.int .i64 ((es1 gC (bld l l.length) (bld l l.length).length)))]) rfl (og rfl (op_call rfl Try.func21 nm21 rfl (.cons rfl (.d _) .nil) (triR (Led.mk (bld l l.length)) hbo) rfl)) ?_
    refine rg_put (d := 41) (v := .tu [.fl (.int .i64 ((es1 gD (bld l l.length) (bld l l.length).length))), .fl (.int .i64 ((es1 gC (bld l l.length) (bld l l.length).length)))]) rfl (og rfl (op_move rfl rfl rfl)) ?_
    refine rg_put (d := 44) (v := .d (.fl (.int .i64 ((es1 gD (bld l l.length) (bld l l.length).length))))) rfl (og rfl (op_extract rfl rfl rfl rfl)) ?_
    refine rg_put (d := 45) (v := .d (.fl (.int .i64 ((es1 gC (bld l l.length) (bld l l.length).length))))) rfl (og rfl (op_extract rfl rfl rfl rfl)) ?_
    refine rg_put (d := 13) (v := .d (.fl (.int .i64 ((es1 gD (bld l l.length) (bld l l.length).length))))) rfl (og rfl (op_assign rfl rfl rfl)) ?_
    refine rg_put (d := 14) (v := .d (.fl (.int .i64 ((es1 gC (bld l l.length) (bld l l.length).length))))) rfl (og rfl (op_assign rfl rfl rfl)) ?_
    refine rg_done rfl ?_
    refine a_seq ?_
    refine a_rseq ?_
    refine rg_put (d := 46) (v := .d (.ag (eEn ((fdE (bld l l.length) a.key).1)))) rfl (og rfl (of_eff (s_load_pts rfl Try.underlying24 rfl ti24 rfl rfl rfl rfl) rfl)) ?_
    refine rg_put (d := 47) (v := .d (.ag (eEn ((fdE (bld l l.length) a.key).1)))) rfl (og rfl (of_eff (s_load_pts rfl Try.underlying24 rfl ti24 rfl rfl rfl rfl) rfl)) ?_
    refine rg_put (d := 48) (v := .d (.fl (.bool true))) rfl (og rfl (op_call rfl Try.func22 nm22 rfl (.cons rfl (.d _) (.cons rfl (.d _) .nil)) (samE ((fdE (bld l l.length) a.key).1) (Nat.le_trans (fd_len hbo _) (by omega))) rfl)) ?_
    refine rg_put (d := 49) (v := .d (.fl (.bool (!true)))) rfl (og rfl (op_un rfl rfl (u_not _) rfl)) ?_
    refine rg_put (d := 50) (v := .d (.fl (.bool (!true)))) rfl (og rfl (op_move rfl rfl rfl)) ?_
    refine rg_put (d := 51) (v := .d (.fl (.bool ((fdE (bld l l.length) a.key).2)))) rfl (oy rfl rfl rfl rfl (op_move rfl rfl rfl)) ?_
    refine rg_put (d := 52) (v := .d (.fl (.bool ((fdE (bld l l.length) a.key).2)))) rfl (oy rfl rfl rfl rfl (op_move rfl rfl rfl)) ?_
    refine rg_put (d := 53) (v := .d (.fl (.bool ((!((fdE (bld l l.length) a.key).2 == (fdE (bld l l.length) a.key).2)))))) rfl (oy rfl rfl rfl rfl (op_bin rfl rfl rfl (fun x y w => b_bne _ _ _ x y w Try.underlying4) rfl)) ?_
    refine rg_put (d := 54) (v := .d (.fl (.bool ((!((fdE (bld l l.length) a.key).2 == (fdE (bld l l.length) a.key).2)))))) rfl (og rfl (op_pick rfl rfl rfl rfl)) ?_
    refine rg_put (d := 55) (v := .d (.fl (.bool ((!((fdE (bld l l.length) a.key).2 == (fdE (bld l l.length) a.key).2)))))) rfl (og rfl (op_move rfl rfl rfl)) ?_
    refine rg_put (d := 56) (v := .d (.fl (.int .i64 ((es1 gD (bld l l.length) (bld l l.length).length))))) rfl (oy rfl rfl rfl (not_f (beq_self_eq_true _)) (op_move rfl rfl rfl)) ?_
    refine rg_put (d := 57) (v := .d (.fl (.int .i64 ((es1 gD (bld l l.length) (bld l l.length).length))))) rfl (oy rfl rfl rfl (not_f (beq_self_eq_true _)) (op_move rfl rfl rfl)) ?_
    refine rg_put (d := 58) (v := .d (.fl (.bool (((es1 gD (bld l l.length) (bld l l.length).length) != (es1 gD (bld l l.length) (bld l l.length).length)))))) rfl (oy rfl rfl rfl (not_f (beq_self_eq_true _)) (op_bin rfl rfl rfl (b_neq _ _ _ _) rfl)) ?_
    refine rg_put (d := 59) (v := .d (.fl (.bool (((es1 gD (bld l l.length) (bld l l.length).length) != (es1 gD (bld l l.length) (bld l l.length).length)))))) rfl (og rfl (op_pick rfl rfl (by rw [(not_f (beq_self_eq_true _))]; rfl) rfl)) ?_
    refine rg_put (d := 60) (v := .d (.fl (.bool (((es1 gD (bld l l.length) (bld l l.length).length) != (es1 gD (bld l l.length) (bld l l.length).length)))))) rfl (og rfl (op_move rfl rfl rfl)) ?_
    refine rg_put (d := 61) (v := .d (.fl (.int .i64 ((es1 gC (bld l l.length) (bld l l.length).length))))) rfl (oy rfl rfl rfl (bne_self_eq_false _) (op_move rfl rfl rfl)) ?_
    refine rg_put (d := 62) (v := .d (.fl (.int .i64 ((es1 gC (bld l l.length) (bld l l.length).length))))) rfl (oy rfl rfl rfl (bne_self_eq_false _) (op_move rfl rfl rfl)) ?_
    refine rg_put (d := 63) (v := .d (.fl (.bool (((es1 gC (bld l l.length) (bld l l.length).length) != (es1 gC (bld l l.length) (bld l l.length).length)))))) rfl (oy rfl rfl rfl (bne_self_eq_false _) (op_bin rfl rfl rfl (b_neq _ _ _ _) rfl)) ?_
    refine rg_put (d := 64) (v := .d (.fl (.bool (((es1 gC (bld l l.length) (bld l l.length).length) != (es1 gC (bld l l.length) (bld l l.length).length)))))) rfl (og rfl (op_pick rfl rfl (by rw [(bne_self_eq_false _)]; rfl) rfl)) ?_
    refine rg_done rfl ?_
    refine a_condF rfl (bne_self_eq_false _) ?_
    refine a_skip ?_
    show A _ _ _ _ _ _ _
    refine a_dseq (by kernel_rfl) ?_
    refine dr_put (d := 65) (v := .d (.ag (eLe (((Led.mk (bld l l.length))))))) rfl (og rfl (of_eff (s_load_pts rfl Try.underlying35 rfl ti35 rfl rfl rfl rfl) rfl)) ?_
    refine dr_put (d := 66) (v := .pt 101 1) rfl (og rfl (of_eff (s_field_pt rfl Try.underlying45 rfl ti9 rfl rfl rfl) rfl)) ?_
    refine dr_put (d := 67) (v := .d (.fl (.string a.acc))) rfl (og rfl (op_load_pt rfl Try.underlying9 rfl rfl rfl rfl rfl)) ?_
    refine dr_put (d := 68) (v := .d (.fl (.int .i64 ((bal (bld l l.length) a.acc))))) rfl (og rfl (op_call rfl Try.func23 nm23 rfl (.cons rfl (.d _) (.cons rfl (.d _) .nil)) (balC (Led.mk (bld l l.length)) a.acc hbo) rfl)) ?_
    refine dr_put (d := 69) (v := .d (.ag (eLe (((Led.mk (bld l l.length))))))) rfl (og rfl (of_eff (s_load_pts rfl Try.underlying35 rfl ti35 rfl rfl rfl rfl) rfl)) ?_
    refine dr_put (d := 70) (v := .pt 101 1) rfl (og rfl (of_eff (s_field_pt rfl Try.underlying45 rfl ti9 rfl rfl rfl) rfl)) ?_
    refine dr_put (d := 71) (v := .d (.fl (.string a.acc))) rfl (og rfl (op_load_pt rfl Try.underlying9 rfl rfl rfl rfl rfl)) ?_
    refine dr_put (d := 72) (v := .d (.fl (.int .i64 ((bal (bld l l.length) a.acc))))) rfl (og rfl (op_call rfl Try.func24 nm24 rfl (.cons rfl (.d _) (.cons rfl (.d _) .nil)) (balR (Led.mk (bld l l.length)) a.acc hbo) rfl)) ?_
    refine dr_put (d := 73) (v := .d (.fl (.bool (((bal (bld l l.length) a.acc) == (bal (bld l l.length) a.acc)))))) rfl (og rfl (op_bin rfl rfl rfl (b_eql _ _ _ _) rfl)) ?_
    refine dr_put (d := 74) (v := .d (.fl (.bool (((bal (bld l l.length) a.acc) == (bal (bld l l.length) a.acc)))))) rfl (og rfl (op_move rfl rfl rfl)) ?_
    refine dr_put (d := 75) (v := .d (.ag (eLe (((Led.mk (bld l l.length))))))) rfl (oy rfl rfl rfl (beq_self_eq_true _) (of_eff (s_load_pts rfl Try.underlying35 rfl ti35 rfl rfl rfl rfl) rfl)) ?_
    refine dr_put (d := 76) (v := .d (.sl 1 (List.map rS ((srtS (acL (bld l l.length) (bld l l.length).length)))))) rfl (oy rfl rfl rfl (beq_self_eq_true _) (op_call rfl Try.func26 nm26 rfl (.cons rfl (.d _) .nil) (accC (Led.mk (bld l l.length)) hbo) rfl)) ?_
    refine dr_put (d := 77) (v := .d (.ag (eLe (((Led.mk (bld l l.length))))))) rfl (oy rfl rfl rfl (beq_self_eq_true _) (of_eff (s_load_pts rfl Try.underlying35 rfl ti35 rfl rfl rfl rfl) rfl)) ?_
    refine dr_put (d := 78) (v := .d (.sl 1 (List.map rS ((srtS (acL (bld l l.length) (bld l l.length).length)))))) rfl (oy rfl rfl rfl (beq_self_eq_true _) (op_call rfl Try.func27 nm27 rfl (.cons rfl (.d _) .nil) (accR (Led.mk (bld l l.length)) hbo) rfl)) ?_
    refine dr_put (d := 79) (v := .d (.fl (.bool true))) rfl (oy rfl rfl rfl (beq_self_eq_true _) (op_call rfl Try.func25 nm25 rfl (.cons rfl (.d _) (.cons rfl (.d _) .nil)) (sameS ((srtS (acL (bld l l.length) (bld l l.length).length))) (by rw [srtS_len]; have := acL_len hbo.e (bld l l.length).length (Nat.le_refl _); omega)) rfl)) ?_
    refine dr_put (d := 80) (v := .d (.fl (.bool true))) rfl (og rfl (op_pick rfl rfl (by rw [(beq_self_eq_true _)]; rfl) rfl)) ?_
    refine dr_put (d := 81) (v := .d (.fl (.bool true))) rfl (og rfl (op_move rfl rfl rfl)) ?_
    refine dr_put (d := 82) (v := .d (.ag (eLe (((Led.mk (bld l l.length))))))) rfl (oy rfl rfl rfl rfl (of_eff (s_load_pts rfl Try.underlying35 rfl ti35 rfl rfl rfl rfl) rfl)) ?_
    refine dr_put (d := 83) (v := .pt 101 2) rfl (oy rfl rfl rfl rfl (of_eff (s_field_pt rfl Try.underlying45 rfl ti3 rfl rfl rfl) rfl)) ?_
    refine dr_put (d := 84) (v := .d (.fl (.int .i64 a.time))) rfl (oy rfl rfl rfl rfl (op_load_pt rfl Try.underlying3 rfl rfl rfl rfl rfl)) ?_
    refine dr_put (d := 85) (v := .d (.ag (eLe ((Led.mk ((bld l l.length).filter (uq a.time))))))) rfl (oy rfl rfl rfl rfl (op_call rfl Try.func28 nm28 rfl (.cons rfl (.d _) (.cons rfl (.d _) .nil)) (untC (Led.mk (bld l l.length)) a.time hbo) rfl)) ?_
    refine dr_put (d := 86) (v := .d (.ag (eLe (((Led.mk (bld l l.length))))))) rfl (oy rfl rfl rfl rfl (of_eff (s_load_pts rfl Try.underlying35 rfl ti35 rfl rfl rfl rfl) rfl)) ?_
    refine dr_put (d := 87) (v := .pt 101 2) rfl (oy rfl rfl rfl rfl (of_eff (s_field_pt rfl Try.underlying45 rfl ti3 rfl rfl rfl) rfl)) ?_
    refine dr_put (d := 88) (v := .d (.fl (.int .i64 a.time))) rfl (oy rfl rfl rfl rfl (op_load_pt rfl Try.underlying3 rfl rfl rfl rfl rfl)) ?_
    refine dr_put (d := 89) (v := .d (.ag (eLe ((Led.mk ((bld l l.length).filter (uq a.time))))))) rfl (oy rfl rfl rfl rfl (op_call rfl Try.func29 nm29 rfl (.cons rfl (.d _) (.cons rfl (.d _) .nil)) (untR (Led.mk (bld l l.length)) a.time hbo) rfl)) ?_
    refine dr_put (d := 90) (v := .d (.fl (.bool true))) rfl (oy rfl rfl rfl rfl (op_call rfl Try.func17 nm17 rfl (.cons rfl (.d _) (.cons rfl (.d _) .nil)) (samL ((Led.mk ((bld l l.length).filter (uq a.time)))) (okL_flt hbo _)) rfl)) ?_
    refine dr_put (d := 91) (v := .d (.fl (.bool true))) rfl (og rfl (op_pick rfl rfl rfl rfl)) ?_
    refine dr_put (d := 92) (v := .d (.fl (.bool true))) rfl (og rfl (op_move rfl rfl rfl)) ?_
    refine dr_put (d := 93) (v := .d (.fl (.bool true))) rfl (oy rfl rfl rfl rfl (op_call rfl Try.func13 nm13 rfl .nil alive13 rfl)) ?_
    refine dr_put (d := 94) (v := .d (.fl (.bool true))) rfl (og rfl (op_pick rfl rfl rfl rfl)) ?_
    refine dr_put (d := 4) (v := .d (.fl (.bool true))) rfl (og rfl (op_assign rfl rfl rfl)) ?_
    refine dr_done rfl (sepB_of [0, 0, 2, 7, 0, 0, 32, 127, 255, 511, 1023, 2047, 1023, 8191, 16383, 32767, 65535, 131071, 131071, 393215, 1048575, 131071, 131071, 4325375, 16777215, 33554431, 67108863, 134217727, 268435455, 536870911, 1073741823] (by kernel_rfl)) (by kernel_rfl) ?_
    refine a_ret ?_
    show ∃ ds, ResL _ _ _ ds ∧ RV.of ds = _
    refine ⟨[.fl (.bool true)], (.cons (.tmp rfl (.d _)) .nil), ?_⟩
    rfl
set_option maxHeartbeats 4000000 in
set_option maxRecDepth 100000 in
theorem law7 (l : List En) (t : Int) : Ctr Try.prog 7 [.sl 3 (List.map eEn l), .fl (.int .i64 t)] (.d (.fl (.bool true))) := by
  refine ctr (n := 28) (rs := #[.tmp 4]) (L := [(0, .d (.sl 3 (List.map eEn l))), (1, .d (.fl (.int .i64 t)))]) Try.func7 rfl rfl rfl rfl rfl (fun w0 U0 => ?_)
  refine a_rseq ?_
  refine rg_put (d := 4) (v := .d (.fl (.bool false))) rfl (og rfl (op_assign rfl rfl rfl)) ?_
  refine rg_done rfl ?_
  refine a_seq ?_
  refine a_rseq ?_
  refine rg_put (d := 9) (v := .d (.sl 3 (List.map eEn l))) rfl (og rfl (op_move rfl rfl rfl)) ?_
  refine rg_put (d := 10) (v := .tu [.ag (eLe ((Led.mk (bdR l).1))), .fl (.bool ((bdR l).2))]) rfl (og rfl (op_call rfl Try.func14 nm14 rfl (.cons rfl (.d _) .nil) (bldC l) rfl)) ?_
  refine rg_put (d := 8) (v := .tu [.ag (eLe ((Led.mk (bdR l).1))), .fl (.bool ((bdR l).2))]) rfl (og rfl (op_move rfl rfl rfl)) ?_
  refine rg_put (d := 11) (v := .d (.ag (eLe ((Led.mk (bdR l).1))))) rfl (og rfl (op_extract rfl rfl rfl rfl)) ?_
  refine rg_put (d := 12) (v := .d (.fl (.bool ((bdR l).2)))) rfl (og rfl (op_extract rfl rfl rfl rfl)) ?_
  refine rg_nam (d := 5) (v := .pt 101 0) (m := 101) (nw := [(101, .bx 35 [.fl (.slice none 0 0)])]) rfl (og rfl (of_eff (s_alloc 101 rfl ti35 (by kernel_rfl) rfl) rfl)) rfl ?_
  refine rg_sto (nw := [(101, .bx 35 ((eLe ((Led.mk (bdR l).1)))))]) rfl (og rfl (of_eff (s_store rfl rfl ti35 rfl rfl rfl rfl rfl rfl) rfl)) ?_
  refine rg_put (d := 6) (v := .d (.fl (.bool ((bdR l).2)))) rfl (og rfl (op_assign rfl rfl rfl)) ?_
  refine rg_done rfl ?_
  refine a_rseq ?_
  refine rg_put (d := 13) (v := .d (.fl (.bool ((bdR l).2)))) rfl (og rfl (op_move rfl rfl rfl)) ?_
  refine rg_put (d := 14) (v := .d (.fl (.bool ((!((bdR l).2)))))) rfl (og rfl (op_un rfl rfl (u_not _) rfl)) ?_
  refine rg_done rfl ?_
  refine a_cond rfl (fun h1 => ?_) (fun h1 => ?_)
  · skip
    have h2 := t_not h1
    refine a_rseq ?_
    refine rg_put (d := 4) (v := .d (.fl (.bool true))) rfl (og rfl (op_assign rfl rfl rfl)) ?_
    refine rg_done rfl ?_
    refine a_ret ?_
    show ∃ ds, ResL _ _ _ ds ∧ RV.of ds = _
    refine ⟨[.fl (.bool true)], (.cons (.tmp rfl (.d _)) .nil), ?_⟩
    rfl
  · skip
    have h3 := f_not h1
    refine a_skip ?_
    show A _ _ _ _ _ _ _
    refine a_rseq ?_
    obtain ⟨hl40, hs, hbe⟩ := bdR_t h3
    have hbo := bld_ok (by omega) hs (Nat.le_refl l.length)
    have hbg := (bld_in hs l.length (Nat.le_refl _)).2.1
    have hbl := (bld_in hs l.length (Nat.le_refl _)).1
    refine rg_put (d := 15) (v := .d (.sl 3 (List.map eEn l))) rfl (og rfl (op_move rfl rfl rfl)) ?_
    refine rg_put (d := 16) (v := .d (.ag (eLe ((Led.mk (bld l l.length)))))) rfl (og rfl (op_call rfl Try.func30 nm30 rfl (.cons rfl (.d _) .nil) (pstL l (by omega) hs) rfl)) ?_
    refine rg_nam (d := 7) (v := .pt 102 0) (m := 102) (nw := [(102, .bx 35 [.fl (.slice none 0 0)])]) rfl (og rfl (of_eff (s_alloc 102 rfl ti35 (by kernel_rfl) rfl) rfl)) rfl ?_
    refine rg_sto (nw := [(102, .bx 35 ((eLe ((Led.mk (bld l l.length))))))]) rfl (og rfl (of_eff (s_store rfl rfl ti35 rfl rfl rfl rfl rfl rfl) rfl)) ?_
    refine rg_done rfl ?_
    refine a_rseq ?_
    refine rg_put (d := 17) (v := .d (.ag (eLe (((Led.mk (bld l l.length))))))) rfl (og rfl (of_eff (s_load_pts rfl Try.underlying35 rfl ti35 rfl rfl rfl rfl) rfl)) ?_
    refine rg_put (d := 18) (v := .d (.fl (.bool true))) rfl (og rfl (op_call rfl Try.func31 nm31 rfl (.cons rfl (.d _) .nil) (zerC (((Led.mk (bld l l.length)))) hbo hbg) rfl)) ?_
    refine rg_put (d := 19) (v := .d (.fl (.bool true))) rfl (og rfl (op_move rfl rfl rfl)) ?_
    refine rg_put (d := 20) (v := .d (.ag (eLe (((Led.mk (bld l l.length))))))) rfl (oy rfl rfl rfl rfl (of_eff (s_load_pts rfl Try.underlying35 rfl ti35 rfl rfl rfl rfl) rfl)) ?_
    refine rg_put (d := 21) (v := .d (.fl (.int .i64 t))) rfl (oy rfl rfl rfl rfl (op_move rfl rfl rfl)) ?_
    refine rg_put (d := 22) (v := .d (.ag (eLe ((Led.mk ((bld l l.length).filter (uq t))))))) rfl (oy rfl rfl rfl rfl (op_call rfl Try.func28 nm28 rfl (.cons rfl (.d _) (.cons rfl (.d _) .nil)) (untC (Led.mk (bld l l.length)) t hbo) rfl)) ?_
    refine rg_put (d := 23) (v := .d (.fl (.bool true))) rfl (oy rfl rfl rfl rfl (op_call rfl Try.func31 nm31 rfl (.cons rfl (.d _) .nil) (zerC ((Led.mk ((bld l l.length).filter (uq t)))) (okL_flt hbo _) (fun y hy => hbg y (List.mem_filter.1 hy).1)) rfl)) ?_
    refine rg_put (d := 24) (v := .d (.fl (.bool true))) rfl (og rfl (op_pick rfl rfl rfl rfl)) ?_
    refine rg_put (d := 25) (v := .d (.fl (.bool true))) rfl (og rfl (op_move rfl rfl rfl)) ?_
    refine rg_put (d := 26) (v := .d (.fl (.bool true))) rfl (oy rfl rfl rfl rfl (op_call rfl Try.func13 nm13 rfl .nil alive13 rfl)) ?_
    refine rg_put (d := 27) (v := .d (.fl (.bool true))) rfl (og rfl (op_pick rfl rfl rfl rfl)) ?_
    refine rg_put (d := 4) (v := .d (.fl (.bool true))) rfl (og rfl (op_assign rfl rfl rfl)) ?_
    refine rg_done rfl ?_
    refine a_ret ?_
    show ∃ ds, ResL _ _ _ ds ∧ RV.of ds = _
    refine ⟨[.fl (.bool true)], (.cons (.tmp rfl (.d _)) .nil), ?_⟩
    rfl
theorem ix_app1 {l : List En} {e : En} {q : Nat} (h : q < l.length) : ix (([] ++ l) ++ [e]) q = ix l q := by
  rw [List.nil_append, ← ix_eq h, ← ix_eq (by rw [List.length_append]; omega : q < (l ++ [e]).length), List.getElem_append_left]
theorem ix_app2 {l : List En} {e : En} : ix (([] ++ l) ++ [e]) l.length = e := by
  rw [List.nil_append, ← ix_eq (by simp : l.length < (l ++ [e]).length), List.getElem_append_right (by omega)]; simp

set_option maxHeartbeats 4000000 in
set_option maxRecDepth 100000 in
theorem law8 (l : List En) (hl9 : l.length * 48 ≤ 140737488351232) (e : En) (n : ByteArray) : Ctr Try.prog 8 [.sl 3 (List.map eEn l), .ag (eEn e), .fl (.string n)] (.d (.fl (.bool true))) := by
  refine ctr (n := 115) (rs := #[.tmp 6]) (L := [(0, .d (.sl 3 (List.map eEn l))), (1, .d (.ag (eEn e))), (2, .d (.fl (.string n)))]) Try.func8 rfl rfl rfl rfl rfl (fun w0 U0 => ?_)
  refine a_rseq ?_
  refine rg_nam (d := 4) (v := .pt 101 0) (m := 101) (nw := [(101, .bx 24 (eEn e))]) rfl (og rfl (of_eff (op_box 101 rfl rfl rfl rfl) rfl)) rfl ?_
  refine rg_put (d := 6) (v := .d (.fl (.bool false))) rfl (og rfl (op_assign rfl rfl rfl)) ?_
  refine rg_done rfl ?_
  refine a_seq ?_
  refine a_dseq (by kernel_rfl) ?_
  refine dr_nam (d := 19) (v := .ow 102) (m := 102) (nw := [(102, .ow 24 3 (List.map eEn []))]) rfl (og rfl (of_eff (op_slice0w 102 rfl Try.underlying33 ti24 rfl) rfl)) ?_
  refine dr_put (d := 20) (v := .d (.sl 3 (List.map eEn l))) rfl (og rfl (op_move rfl rfl rfl)) ?_
  refine dr_nam (d := 21) (v := .ow 103) (m := 103) (nw := [(103, .ow 24 3 (List.map eEn ([] ++ l))), (102, .no)]) rfl (og rfl (s_appendB 103 rfl Try.underlying33 ti24 rfl rfl rfl rfl rfl (.d _) (by first | omega | (simp only [List.length_append, List.length_cons, List.length_nil]; omega)) rfl)) ?_
  refine dr_put (d := 22) (v := .d (.ag (eEn e))) rfl (og rfl (of_eff (s_load_pts rfl Try.underlying24 rfl ti24 rfl rfl rfl rfl) rfl)) ?_
  refine dr_put (d := 23) (v := .d (.sl 3 (List.map eEn [e]))) rfl (og rfl (of_eff (op_slices rfl Try.underlying33 ti24 rfl rfl rfl (by kernel_rfl) (xs := [.ag (eEn e)]) rfl rfl (.cons rfl rfl (.d _) rfl rfl rfl .nil) rfl) rfl)) ?_
  refine dr_nam (d := 24) (v := .ow 104) (m := 104) (nw := [(104, .ow 24 3 (List.map eEn ((([] ++ l) ++ [e])))), (103, .no)]) rfl (og rfl (s_appendB 104 rfl Try.underlying33 ti24 rfl rfl rfl rfl rfl (.d _) (by first | omega | (simp only [List.length_append, List.length_cons, List.length_nil]; omega)) rfl)) ?_
  refine dr_put (d := 25) (v := .tu [.ag (eLe ((Led.mk (bdR ((([] ++ l) ++ [e]))).1))), .fl (.bool ((bdR ((([] ++ l) ++ [e]))).2))]) rfl (og rfl (op_call rfl Try.func14 nm14 rfl (.cons rfl (.ow rfl) .nil) (bldC ((([] ++ l) ++ [e]))) rfl)) ?_
  refine dr_put (d := 18) (v := .tu [.ag (eLe ((Led.mk (bdR ((([] ++ l) ++ [e]))).1))), .fl (.bool ((bdR ((([] ++ l) ++ [e]))).2))]) rfl (og rfl (op_move rfl rfl rfl)) ?_
  refine dr_put (d := 26) (v := .d (.ag (eLe ((Led.mk (bdR ((([] ++ l) ++ [e]))).1))))) rfl (og rfl (op_extract rfl rfl rfl rfl)) ?_
  refine dr_put (d := 27) (v := .d (.fl (.bool ((bdR ((([] ++ l) ++ [e]))).2)))) rfl (og rfl (op_extract rfl rfl rfl rfl)) ?_
  refine dr_nam (d := 7) (v := .pt 105 0) (m := 105) (nw := [(105, .bx 35 [.fl (.slice none 0 0)])]) rfl (og rfl (of_eff (s_alloc 105 rfl ti35 (by kernel_rfl) rfl) rfl)) ?_
  refine dr_sto (nw := [(105, .bx 35 ((eLe ((Led.mk (bdR ((([] ++ l) ++ [e]))).1)))))]) rfl (og rfl (of_eff (s_store rfl rfl ti35 rfl rfl rfl rfl rfl rfl) rfl)) ?_
  refine dr_put (d := 8) (v := .d (.fl (.bool ((bdR ((([] ++ l) ++ [e]))).2)))) rfl (og rfl (op_assign rfl rfl rfl)) ?_
  refine dr_done rfl (by kernel_rfl) (by kernel_rfl) ?_
  refine a_rseq ?_
  refine rg_put (d := 28) (v := .d (.fl (.bool ((bdR ((([] ++ l) ++ [e]))).2)))) rfl (og rfl (op_move rfl rfl rfl)) ?_
  refine rg_put (d := 29) (v := .d (.fl (.bool ((!((bdR ((([] ++ l) ++ [e]))).2)))))) rfl (og rfl (op_un rfl rfl (u_not _) rfl)) ?_
  refine rg_put (d := 30) (v := .d (.fl (.bool ((!((bdR ((([] ++ l) ++ [e]))).2)))))) rfl (og rfl (op_move rfl rfl rfl)) ?_
  rcases fot ((!((bdR ((([] ++ l) ++ [e]))).2))) with h1 | h1
  · skip
    have h2 := f_not h1
    refine rg_put (d := 31) (v := .d (.fl (.string n))) rfl (oy rfl rfl rfl h1 (op_move rfl rfl rfl)) ?_
    refine rg_put (d := 32) (v := .d (.fl (.int .i64 (n.size : Int)))) rfl (oy rfl rfl rfl h1 (op_len_str rfl Try.underlying9 rfl rfl)) ?_
    refine rg_put (d := 33) (v := .d (.fl (.bool ((decide (100 < (n.size : Int))))))) rfl (oy rfl rfl rfl h1 (op_bin rfl rfl rfl (b_gtr _ _ _ _) rfl)) ?_
    refine rg_put (d := 34) (v := .d (.fl (.bool ((decide (100 < (n.size : Int))))))) rfl (og rfl (op_pick rfl rfl (by rw [h1]; rfl) rfl)) ?_
    refine rg_done rfl ?_
    refine a_cond rfl (fun h3 => ?_) (fun h3 => ?_)
    · skip
      have h4 := t_dec h3
      refine a_rseq ?_
      refine rg_put (d := 6) (v := .d (.fl (.bool true))) rfl (og rfl (op_assign rfl rfl rfl)) ?_
      refine rg_done rfl ?_
      refine a_ret ?_
      show ∃ ds, ResL _ _ _ ds ∧ RV.of ds = _
      refine ⟨[.fl (.bool true)], (.cons (.tmp rfl (.d _)) .nil), ?_⟩
      rfl
    · skip
      have h5 := f_dec h3
      refine a_skip ?_
      show A _ _ _ _ _ _ _
      refine a_rseq ?_
      obtain ⟨hl40, hsx, hbe⟩ := bdR_t h2
      have hle : (([] ++ l) ++ [e]).length = l.length + 1 := by simp
      have hs : ∀ q, q < l.length → sml (ix l q) = true := fun q hq => by have := hsx q (by omega); rwa [ix_app1 hq] at this
      have hse : sml e = true := by have := hsx l.length (by omega); rwa [ix_app2] at this
      have hsk := sml_t hse
      have hbo := bld_ok (by omega) hs (Nat.le_refl l.length)
      have hbg := (bld_in hs l.length (Nat.le_refl _)).2.1
      have hbl := (bld_in hs l.length (Nat.le_refl _)).1
      refine rg_put (d := 35) (v := .d (.sl 3 (List.map eEn l))) rfl (og rfl (op_move rfl rfl rfl)) ?_
      refine rg_put (d := 36) (v := .d (.ag (eLe ((Led.mk (bld l l.length)))))) rfl (og rfl (op_call rfl Try.func30 nm30 rfl (.cons rfl (.d _) .nil) (pstL l (by omega) hs) rfl)) ?_
      refine rg_nam (d := 9) (v := .pt 106 0) (m := 106) (nw := [(106, .bx 35 [.fl (.slice none 0 0)])]) rfl (og rfl (of_eff (s_alloc 106 rfl ti35 (by kernel_rfl) rfl) rfl)) rfl ?_
      refine rg_sto (nw := [(106, .bx 35 ((eLe ((Led.mk (bld l l.length))))))]) rfl (og rfl (of_eff (s_store rfl rfl ti35 rfl rfl rfl rfl rfl rfl) rfl)) ?_
      refine rg_done rfl ?_
      refine a_rseq ?_
      refine rg_put (d := 38) (v := .d (.ag (eLe (((Led.mk (bld l l.length))))))) rfl (og rfl (of_eff (s_load_pts rfl Try.underlying35 rfl ti35 rfl rfl rfl rfl) rfl)) ?_
      refine rg_put (d := 39) (v := .d (.ag (eEn e))) rfl (og rfl (of_eff (s_load_pts rfl Try.underlying24 rfl ti24 rfl rfl rfl rfl) rfl)) ?_
      refine rg_put (d := 40) (v := .tu [.ag (eLe ((Led.mk (pst (bld l l.length) e).1))), .fl (.int .i64 ((pst (bld l l.length) e).2))]) rfl (og rfl (op_call rfl Try.func15 nm15 rfl (.cons rfl (.d _) (.cons rfl (.d _) .nil)) (postC (Led.mk (bld l l.length)) e hbo (by show (bld l l.length).length ≤ 41; omega) hsk.1 hsk.2.1 hsk.2.2) rfl)) ?_
      refine rg_put (d := 37) (v := .tu [.ag (eLe ((Led.mk (pst (bld l l.length) e).1))), .fl (.int .i64 ((pst (bld l l.length) e).2))]) rfl (og rfl (op_move rfl rfl rfl)) ?_
      refine rg_put (d := 41) (v := .d (.ag (eLe ((Led.mk (pst (bld l l.length) e).1))))) rfl (og rfl (op_extract rfl rfl rfl rfl)) ?_
      refine rg_put (d := 42) (v := .d (.fl (.int .i64 ((pst (bld l l.length) e).2)))) rfl (og rfl (op_extract rfl rfl rfl rfl)) ?_
      refine rg_nam (d := 10) (v := .pt 107 0) (m := 107) (nw := [(107, .bx 35 [.fl (.slice none 0 0)])]) rfl (og rfl (of_eff (s_alloc 107 rfl ti35 (by kernel_rfl) rfl) rfl)) rfl ?_
      refine rg_sto (nw := [(107, .bx 35 ((eLe ((Led.mk (pst (bld l l.length) e).1)))))]) rfl (og rfl (of_eff (s_store rfl rfl ti35 rfl rfl rfl rfl rfl rfl) rfl)) ?_
      refine rg_put (d := 11) (v := .d (.fl (.int .i64 ((pst (bld l l.length) e).2)))) rfl (og rfl (op_assign rfl rfl rfl)) ?_
      refine rg_done rfl ?_
      refine a_seq ?_
      refine a_rseq ?_
      refine rg_put (d := 43) (v := .d (.fl (.int .i64 ((pst (bld l l.length) e).2)))) rfl (og rfl (op_move rfl rfl rfl)) ?_
      refine rg_put (d := 44) (v := .d (.fl (.bool (((pst (bld l l.length) e).2 != 0))))) rfl (og rfl (op_bin rfl rfl rfl (b_neq _ _ _ _) rfl)) ?_
      refine rg_done rfl ?_
      refine a_cond rfl (fun h6 => ?_) (fun h6 => ?_)
      · skip
        have h7 := t_bne h6
        refine a_rseq ?_
        have hpe : (pst (bld l l.length) e).1 = (bld l l.length) := by rcases pst_cases (bld l l.length) e with q | q <;> first | exact q.1 | exact absurd q.2.1 (t_bne h6)
        rw [show (pst (bld l l.length) e).1 = (bld l l.length) from hpe]
        refine rg_put (d := 45) (v := .d (.ag (eLe (((Led.mk (bld l l.length))))))) rfl (og rfl (of_eff (s_load_pts rfl Try.underlying35 rfl ti35 rfl rfl rfl rfl) rfl)) ?_
        refine rg_put (d := 46) (v := .d (.ag (eLe (((Led.mk (bld l l.length))))))) rfl (og rfl (of_eff (s_load_pts rfl Try.underlying35 rfl ti35 rfl rfl rfl rfl) rfl)) ?_
        refine rg_put (d := 47) (v := .d (.fl (.bool true))) rfl (og rfl (op_call rfl Try.func17 nm17 rfl (.cons rfl (.d _) (.cons rfl (.d _) .nil)) (samL (Led.mk (bld l l.length)) hbo) rfl)) ?_
        refine rg_put (d := 48) (v := .d (.fl (.bool true))) rfl (og rfl (op_move rfl rfl rfl)) ?_
        refine rg_put (d := 49) (v := .d (.fl (.bool true))) rfl (oy rfl rfl rfl rfl (op_call rfl Try.func13 nm13 rfl .nil alive13 rfl)) ?_
        refine rg_put (d := 50) (v := .d (.fl (.bool true))) rfl (og rfl (op_pick rfl rfl rfl rfl)) ?_
        refine rg_put (d := 6) (v := .d (.fl (.bool true))) rfl (og rfl (op_assign rfl rfl rfl)) ?_
        refine rg_done rfl ?_
        refine a_ret ?_
        show ∃ ds, ResL _ _ _ ds ∧ RV.of ds = _
        refine ⟨[.fl (.bool true)], (.cons (.tmp rfl (.d _)) .nil), ?_⟩
        rfl
      · skip
        have h8 := f_bne h6
        refine a_skip ?_
        show A _ _ _ _ _ _ _
        refine a_rseq ?_
        obtain ⟨hp1, _, hc, ha⟩ : (pst (bld l l.length) e).1 = (bld l l.length ++ [e]) ∧ (pst (bld l l.length) e).2 = 0 ∧ lck e = 0 ∧ ((bld l l.length)).any (kq e.key) = false := by rcases pst_cases (bld l l.length) e with q | q <;> first | exact q | exact absurd (f_bne h6) q.2
        rw [show (pst (bld l l.length) e).1 = (bld l l.length ++ [e]) from hp1]
        have hoe := ok_of hsk.1 hsk.2.1 hsk.2.2 hc
        have hbn : okL (bld l l.length ++ [e]) := ⟨by simp; omega, fun y hy => (List.mem_append.1 hy).elim (hbo.e y) (fun h => by rw [List.mem_singleton] at h; rw [h]; exact hoe)⟩
        have hpb := fun k hk => hoe.pb n k hk
        have hbb := hbo.bl n (bld l l.length).length (Nat.le_refl _)
        have hbb2 : bal (bld l l.length) n = bl (bld l l.length) n (bld l l.length).length := rfl
        refine rg_put (d := 52) (v := .d (.ag (eLe (((Led.mk (bld l l.length ++ [e]))))))) rfl (og rfl (of_eff (s_load_pts rfl Try.underlying35 rfl ti35 rfl rfl rfl rfl) rfl)) ?_
        refine rg_put (d := 53) (v := .d (.ag (eEn e))) rfl (og rfl (of_eff (s_load_pts rfl Try.underlying24 rfl ti24 rfl rfl rfl rfl) rfl)) ?_
        refine rg_put (d := 54) (v := .tu [.ag (eLe ((Led.mk (bld l l.length ++ [e])))), .fl (.int .i64 (9 : Int))]) rfl (og rfl (op_call rfl Try.func15 nm15 rfl (.cons rfl (.d _) (.cons rfl (.d _) .nil)) ((show Ctr Try.prog 15 [.ag (eLe ⟨(bld l l.length ++ [e])⟩), .ag (eEn e)] (.tu [.ag (eLe ⟨(bld l l.length ++ [e])⟩), .fl (.int .i64 9)]) from by have := postC ⟨(bld l l.length ++ [e])⟩ e hbn (by show (bld l l.length ++ [e]).length ≤ 41; simp; omega) hsk.1 hsk.2.1 hsk.2.2; rw [pst_k hc any_app] at this; exact this)) rfl)) ?_
        refine rg_put (d := 51) (v := .tu [.ag (eLe ((Led.mk (bld l l.length ++ [e])))), .fl (.int .i64 (9 : Int))]) rfl (og rfl (op_move rfl rfl rfl)) ?_
        refine rg_put (d := 55) (v := .d (.ag (eLe ((Led.mk (bld l l.length ++ [e])))))) rfl (og rfl (op_extract rfl rfl rfl rfl)) ?_
        refine rg_put (d := 56) (v := .d (.fl (.int .i64 (9 : Int)))) rfl (og rfl (op_extract rfl rfl rfl rfl)) ?_
        refine rg_nam (d := 12) (v := .pt 108 0) (m := 108) (nw := [(108, .bx 35 [.fl (.slice none 0 0)])]) rfl (og rfl (of_eff (s_alloc 108 rfl ti35 (by kernel_rfl) rfl) rfl)) rfl ?_
        refine rg_sto (nw := [(108, .bx 35 ((eLe ((Led.mk (bld l l.length ++ [e]))))))]) rfl (og rfl (of_eff (s_store rfl rfl ti35 rfl rfl rfl rfl rfl rfl) rfl)) ?_
        refine rg_put (d := 13) (v := .d (.fl (.int .i64 (9 : Int)))) rfl (og rfl (op_assign rfl rfl rfl)) ?_
        refine rg_done rfl ?_
        refine a_rseq ?_
        refine rg_put (d := 58) (v := .d (.ag (eLe (((Led.mk (bld l l.length ++ [e]))))))) rfl (og rfl (of_eff (s_load_pts rfl Try.underlying35 rfl ti35 rfl rfl rfl rfl) rfl)) ?_
        refine rg_put (d := 59) (v := .pt 101 0) rfl (og rfl (of_eff (s_field_pt rfl Try.underlying24 rfl ti9 rfl rfl rfl) rfl)) ?_
        refine rg_put (d := 60) (v := .d (.fl (.string e.key))) rfl (og rfl (op_load_pt rfl Try.underlying9 rfl rfl rfl rfl rfl)) ?_
        refine rg_put (d := 61) (v := .tu [.ag (eEn e), .fl (.bool true)]) rfl (og rfl (op_call rfl Try.func18 nm18 rfl (.cons rfl (.d _) (.cons rfl (.d _) .nil)) ((show Ctr Try.prog 18 [.ag (eLe ⟨(bld l l.length ++ [e])⟩), .fl (.string e.key)] (.tu [.ag (eEn e), .fl (.bool true)]) from by have := finC ⟨(bld l l.length ++ [e])⟩ e.key hbn; rw [fdE_app ha] at this; exact this)) rfl)) ?_
        refine rg_put (d := 57) (v := .tu [.ag (eEn e), .fl (.bool true)]) rfl (og rfl (op_move rfl rfl rfl)) ?_
        refine rg_put (d := 62) (v := .d (.ag (eEn e))) rfl (og rfl (op_extract rfl rfl rfl rfl)) ?_
        refine rg_put (d := 63) (v := .d (.fl (.bool true))) rfl (og rfl (op_extract rfl rfl rfl rfl)) ?_
        refine rg_nam (d := 14) (v := .pt 109 0) (m := 109) (nw := [(109, .bx 24 ([.fl (.string (⟨#[]⟩)), .fl (.int .i64 0), .fl (.slice none 0 0)]))]) rfl (og rfl (of_eff (s_alloc 109 rfl ti24 (by kernel_rfl) rfl) rfl)) rfl ?_
        refine rg_sto (nw := [(109, .bx 24 (eEn e))]) rfl (og rfl (of_eff (s_store rfl rfl ti24 rfl rfl rfl rfl rfl rfl) rfl)) ?_
        refine rg_put (d := 15) (v := .d (.fl (.bool true))) rfl (og rfl (op_assign rfl rfl rfl)) ?_
        refine rg_done rfl ?_
        refine a_rseq ?_
        refine rg_put (d := 64) (v := .d (.ag (eLe (((Led.mk (bld l l.length))))))) rfl (og rfl (of_eff (s_load_pts rfl Try.underlying35 rfl ti35 rfl rfl rfl rfl) rfl)) ?_
        refine rg_put (d := 65) (v := .d (.fl (.string n))) rfl (og rfl (op_move rfl rfl rfl)) ?_
        refine rg_put (d := 66) (v := .d (.fl (.int .i64 ((bal (bld l l.length) n))))) rfl (og rfl (op_call rfl Try.func23 nm23 rfl (.cons rfl (.d _) (.cons rfl (.d _) .nil)) (balC (Led.mk (bld l l.length)) n hbo) rfl)) ?_
        refine rg_put (d := 16) (v := .d (.fl (.int .i64 ((bal (bld l l.length) n))))) rfl (og rfl (op_assign rfl rfl rfl)) ?_
        refine rg_done rfl ?_
        refine a_seq ?_
        refine a_rseq ?_
        refine rg_put (d := 17) (v := .d (.fl (.int .i64 0))) rfl (og rfl (op_assign rfl rfl rfl)) ?_
        refine rg_done rfl ?_
        refine a_block ?_
        refine a_loop (ι := Nat) (fun k => SS [(0, .d (.sl 3 (List.map eEn l))), (1, .d (.ag (eEn e))), (2, .d (.fl (.string n))), (4, .pt 101 0), (6, .d (.fl (.bool false))), (8, .d (.fl (.bool ((bdR ((([] ++ l) ++ [e]))).2)))), (9, .pt 106 0), (10, .pt 107 0), (11, .d (.fl (.int .i64 ((pst (bld l l.length) e).2)))), (12, .pt 108 0), (13, .d (.fl (.int .i64 (9 : Int)))), (14, .pt 109 0), (15, .d (.fl (.bool true))), (34, .d (.fl (.bool ((decide (100 < (n.size : Int))))))), (44, .d (.fl (.bool (((pst (bld l l.length) e).2 != 0))))), (17, .d (.fl (.int .i64 (k : Int)))), (16, .d (.fl (.int .i64 ((bal (bld l l.length) n + pb e.posts n k)))))] [(101, .bx 24 (eEn e)), (106, .bx 35 ((eLe ((Led.mk (bld l l.length)))))), (107, .bx 35 ((eLe ((Led.mk (bld l l.length ++ [e])))))), (108, .bx 35 ((eLe ((Led.mk (bld l l.length ++ [e])))))), (109, .bx 24 (eEn e))]) (fun k => k ≤ e.posts.length) (fun k => e.posts.length - k) 0 (by omega) (imp_forget rfl ⟨rfl, rfl, rfl, rfl, rfl, rfl, rfl, rfl, rfl, rfl, rfl, rfl, rfl, rfl, rfl, (by first | rfl | exact ci (by omega) | exact ci (by simp) | exact cd (by simp) | simp), (ci (by simp [pb])), trivial⟩ ⟨rfl, rfl, rfl, rfl, rfl, trivial⟩) (fun k hok => ?_)
        have hk := hok
        have hpk := hpb k hk
        refine a_seq ?_
        refine a_rseq ?_
        refine rg_put (d := 67) (v := .d (.fl (.int .i64 (k : Int)))) rfl (og rfl (op_move rfl rfl rfl)) ?_
        refine rg_put (d := 68) (v := .pt 101 2) rfl (og rfl (of_eff (s_field_pt rfl Try.underlying24 rfl ti22 rfl rfl rfl) rfl)) ?_
        refine rg_put (d := 69) (v := .d (.sl 2 (List.map ePo e.posts))) rfl (og rfl (op_load_pt rfl Try.underlying22 rfl rfl rfl rfl rfl)) ?_
        refine rg_put (d := 70) (v := .d (.fl (.int .i64 (e.posts.length : Int)))) rfl (og rfl (s_len rfl Try.underlying22 rfl rfl)) ?_
        refine rg_put (d := 71) (v := .d (.fl (.bool ((decide ((k : Int) < (e.posts.length : Int))))))) rfl (og rfl (op_bin rfl rfl rfl (b_lss _ _ _ _) rfl)) ?_
        refine rg_done rfl ?_
        refine a_cond rfl (fun h9 => ?_) (fun h9 => ?_)
        · skip
          have h10 := t_dec h9
          refine a_skip ?_
          show A _ _ _ _ _ _ _
          refine a_seq ?_
          refine a_block ?_
          refine a_rseq ?_
          refine rg_put (d := 74) (v := .pt 101 2) rfl (og rfl (of_eff (s_field_pt rfl Try.underlying24 rfl ti22 rfl rfl rfl) rfl)) ?_
          refine rg_put (d := 75) (v := .d (.sl 2 (List.map ePo e.posts))) rfl (og rfl (op_load_pt rfl Try.underlying22 rfl rfl rfl rfl rfl)) ?_
          refine rg_put (d := 76) (v := .d (.fl (.int .i64 (k : Int)))) rfl (og rfl (op_move rfl rfl rfl)) ?_
          refine rg_put (d := 77) (v := .el ((ePo (ix e.posts k)))) rfl (og rfl (s_index rfl Try.underlying22 ti31 rfl rfl (by omega) (row_at (by omega)) rfl)) ?_
          refine rg_put (d := 78) (v := .el ((List.drop 0 ((ePo (ix e.posts k)))))) rfl (og rfl (of_eff (s_field_el rfl Try.underlying31 rfl ti9 rfl rfl rfl) rfl)) ?_
          refine rg_put (d := 79) (v := .d (.fl (.string ((ix e.posts k).acc)))) rfl (og rfl (op_load_el rfl Try.underlying9 rfl rfl rfl rfl)) ?_
          refine rg_put (d := 80) (v := .d (.fl (.string n))) rfl (og rfl (op_move rfl rfl rfl)) ?_
          refine rg_put (d := 81) (v := .d (.fl (.bool ((sEq ((ix e.posts k).acc) n))))) rfl (og rfl (op_bin rfl rfl rfl (b_seq _ _ _) rfl)) ?_
          refine rg_done rfl ?_
          refine a_cond rfl (fun h11 => ?_) (fun h11 => ?_)
          · skip
            refine a_region ?_
            have hcc := hoe.c _ (ix_mem (by omega : k < e.posts.length))
            refine rg_put (d := 82) (v := .d (.fl (.int .i64 ((bal (bld l l.length) n + pb e.posts n k))))) rfl (og rfl (op_move rfl rfl rfl)) ?_
            refine rg_put (d := 83) (v := .pt 101 2) rfl (og rfl (of_eff (s_field_pt rfl Try.underlying24 rfl ti22 rfl rfl rfl) rfl)) ?_
            refine rg_put (d := 84) (v := .d (.sl 2 (List.map ePo e.posts))) rfl (og rfl (op_load_pt rfl Try.underlying22 rfl rfl rfl rfl rfl)) ?_
            refine rg_put (d := 85) (v := .d (.fl (.int .i64 (k : Int)))) rfl (og rfl (op_move rfl rfl rfl)) ?_
            refine rg_put (d := 86) (v := .el ((ePo (ix e.posts k)))) rfl (og rfl (s_index rfl Try.underlying22 ti31 rfl rfl (by omega) (row_at (by omega)) rfl)) ?_
            refine rg_put (d := 87) (v := .el ((List.drop 1 ((ePo (ix e.posts k)))))) rfl (og rfl (of_eff (s_field_el rfl Try.underlying31 rfl ti3 rfl rfl rfl) rfl)) ?_
            refine rg_put (d := 88) (v := .d (.fl (.int .i64 ((ix e.posts k).cents)))) rfl (og rfl (op_load_el rfl Try.underlying3 rfl rfl rfl rfl)) ?_
            refine rg_put (d := 89) (v := .d (.fl (.int .i64 (((bal (bld l l.length) n + pb e.posts n k) + (ix e.posts k).cents))))) rfl (og rfl (op_bin rfl rfl rfl (fun x y w => b_add64 _ _ _ x y w (by omega)) rfl)) ?_
            refine rg_put (d := 16) (v := .d (.fl (.int .i64 (((bal (bld l l.length) n + pb e.posts n k) + (ix e.posts k).cents))))) rfl (og rfl (op_assign rfl rfl rfl)) ?_
            refine rg_done rfl ?_
            show A _ _ _ _ _ _ _
            refine a_region ?_
            refine rg_put (d := 72) (v := .d (.fl (.int .i64 (k : Int)))) rfl (og rfl (op_move rfl rfl rfl)) ?_
            refine rg_put (d := 73) (v := .d (.fl (.int .i64 (((k : Int) + 1))))) rfl (og rfl (op_bin rfl rfl rfl (fun x y w => b_add64 _ _ _ x y w (by omega)) rfl)) ?_
            refine rg_put (d := 17) (v := .d (.fl (.int .i64 (((k : Int) + 1))))) rfl (og rfl (op_assign rfl rfl rfl)) ?_
            refine rg_done rfl ?_
            have hst := pb_y h11
            show ∃ i, _ ∧ _ ∧ Imp _ _ _ _ _
            refine ⟨k + 1, (by omega), by omega, imp_forget rfl ⟨rfl, rfl, rfl, rfl, rfl, rfl, rfl, rfl, rfl, rfl, rfl, rfl, rfl, rfl, rfl, (by first | rfl | exact ci (by omega)), (ci (by omega)), trivial⟩ ⟨rfl, rfl, rfl, rfl, rfl, trivial⟩⟩
          · skip
            refine a_skip ?_
            show A _ _ _ _ _ _ _
            refine a_region ?_
            refine rg_put (d := 72) (v := .d (.fl (.int .i64 (k : Int)))) rfl (og rfl (op_move rfl rfl rfl)) ?_
            refine rg_put (d := 73) (v := .d (.fl (.int .i64 (((k : Int) + 1))))) rfl (og rfl (op_bin rfl rfl rfl (fun x y w => b_add64 _ _ _ x y w (by omega)) rfl)) ?_
            refine rg_put (d := 17) (v := .d (.fl (.int .i64 (((k : Int) + 1))))) rfl (og rfl (op_assign rfl rfl rfl)) ?_
            refine rg_done rfl ?_
            have hst := pb_n h11
            show ∃ i, _ ∧ _ ∧ Imp _ _ _ _ _
            refine ⟨k + 1, (by omega), by omega, imp_forget rfl ⟨rfl, rfl, rfl, rfl, rfl, rfl, rfl, rfl, rfl, rfl, rfl, rfl, rfl, rfl, rfl, (by first | rfl | exact ci (by omega)), (ci (by omega)), trivial⟩ ⟨rfl, rfl, rfl, rfl, rfl, trivial⟩⟩
        · skip
          have h12 := f_dec h9
          refine a_exit ?_
          show A _ _ _ _ _ _ _
          refine a_rseq ?_
          refine rg_put (d := 90) (v := .d (.fl (.int .i64 (9 : Int)))) rfl (og rfl (op_move rfl rfl rfl)) ?_
          refine rg_put (d := 91) (v := .d (.fl (.bool (((9 : Int) == 9))))) rfl (og rfl (op_bin rfl rfl rfl (b_eql _ _ _ _) rfl)) ?_
          refine rg_put (d := 92) (v := .d (.fl (.bool (((9 : Int) == 9))))) rfl (og rfl (op_move rfl rfl rfl)) ?_
          refine rg_put (d := 93) (v := .d (.ag (eLe (((Led.mk (bld l l.length ++ [e]))))))) rfl (oy rfl rfl rfl rfl (of_eff (s_load_pts rfl Try.underlying35 rfl ti35 rfl rfl rfl rfl) rfl)) ?_
          refine rg_put (d := 94) (v := .d (.ag (eLe (((Led.mk (bld l l.length ++ [e]))))))) rfl (oy rfl rfl rfl rfl (of_eff (s_load_pts rfl Try.underlying35 rfl ti35 rfl rfl rfl rfl) rfl)) ?_
          refine rg_put (d := 95) (v := .d (.fl (.bool true))) rfl (oy rfl rfl rfl rfl (op_call rfl Try.func17 nm17 rfl (.cons rfl (.d _) (.cons rfl (.d _) .nil)) (samL (((Led.mk (bld l l.length ++ [e])))) hbn) rfl)) ?_
          refine rg_put (d := 96) (v := .d (.fl (.bool true))) rfl (og rfl (op_pick rfl rfl rfl rfl)) ?_
          refine rg_put (d := 97) (v := .d (.fl (.bool true))) rfl (og rfl (op_move rfl rfl rfl)) ?_
          refine rg_put (d := 98) (v := .d (.fl (.bool true))) rfl (oy rfl rfl rfl rfl (op_move rfl rfl rfl)) ?_
          refine rg_put (d := 99) (v := .d (.fl (.bool true))) rfl (og rfl (op_pick rfl rfl rfl rfl)) ?_
          refine rg_put (d := 100) (v := .d (.fl (.bool true))) rfl (og rfl (op_move rfl rfl rfl)) ?_
          refine rg_put (d := 101) (v := .d (.ag (eEn e))) rfl (oy rfl rfl rfl rfl (of_eff (s_load_pts rfl Try.underlying24 rfl ti24 rfl rfl rfl rfl) rfl)) ?_
          refine rg_put (d := 102) (v := .d (.ag (eEn e))) rfl (oy rfl rfl rfl rfl (of_eff (s_load_pts rfl Try.underlying24 rfl ti24 rfl rfl rfl rfl) rfl)) ?_
          refine rg_put (d := 103) (v := .d (.fl (.bool true))) rfl (oy rfl rfl rfl rfl (op_call rfl Try.func22 nm22 rfl (.cons rfl (.d _) (.cons rfl (.d _) .nil)) (samE e (by omega)) rfl)) ?_
          refine rg_put (d := 104) (v := .d (.fl (.bool true))) rfl (og rfl (op_pick rfl rfl rfl rfl)) ?_
          refine rg_put (d := 105) (v := .d (.fl (.bool true))) rfl (og rfl (op_move rfl rfl rfl)) ?_
          refine rg_put (d := 106) (v := .d (.ag (eLe (((Led.mk (bld l l.length ++ [e]))))))) rfl (oy rfl rfl rfl rfl (of_eff (s_load_pts rfl Try.underlying35 rfl ti35 rfl rfl rfl rfl) rfl)) ?_
          refine rg_put (d := 107) (v := .d (.fl (.string n))) rfl (oy rfl rfl rfl rfl (op_move rfl rfl rfl)) ?_
          refine rg_put (d := 108) (v := .d (.fl (.int .i64 ((bal (bld l l.length) n + pb e.posts n e.posts.length))))) rfl (oy rfl rfl rfl rfl (op_call rfl Try.func23 nm23 rfl (.cons rfl (.d _) (.cons rfl (.d _) .nil)) ((show Ctr Try.prog 23 [.ag (eLe ⟨(bld l l.length ++ [e])⟩), .fl (.string n)] (.d (.fl (.int .i64 (bal (bld l l.length) n + pb e.posts n e.posts.length)))) from by have := balC ⟨(bld l l.length ++ [e])⟩ n hbn; rw [show bal (Led.mk (bld l l.length ++ [e])).ents n = _ from bal_app _ _ _] at this; exact this)) rfl)) ?_
          refine rg_put (d := 109) (v := .d (.fl (.int .i64 ((bal (bld l l.length) n + pb e.posts n k))))) rfl (oy rfl rfl rfl rfl (op_move rfl rfl rfl)) ?_
          refine rg_put (d := 110) (v := .d (.fl (.bool (((bal (bld l l.length) n + pb e.posts n e.posts.length) == (bal (bld l l.length) n + pb e.posts n k)))))) rfl (oy rfl rfl rfl rfl (op_bin rfl rfl rfl (b_eql _ _ _ _) rfl)) ?_
          refine rg_put (d := 111) (v := .d (.fl (.bool (((bal (bld l l.length) n + pb e.posts n e.posts.length) == (bal (bld l l.length) n + pb e.posts n k)))))) rfl (og rfl (op_pick rfl rfl rfl rfl)) ?_
          refine rg_put (d := 112) (v := .d (.fl (.bool (((bal (bld l l.length) n + pb e.posts n e.posts.length) == (bal (bld l l.length) n + pb e.posts n k)))))) rfl (og rfl (op_move rfl rfl rfl)) ?_
          refine rg_put (d := 113) (v := .d (.fl (.bool true))) rfl (oy rfl rfl rfl (show (((bal (bld l l.length) n + pb e.posts n e.posts.length) == (bal (bld l l.length) n + pb e.posts n k))) = true from by rw [show k = e.posts.length from by omega]; simp) (op_call rfl Try.func13 nm13 rfl .nil alive13 rfl)) ?_
          refine rg_put (d := 114) (v := .d (.fl (.bool true))) rfl (og rfl (op_pick rfl rfl (by rw [(show (((bal (bld l l.length) n + pb e.posts n e.posts.length) == (bal (bld l l.length) n + pb e.posts n k))) = true from by rw [show k = e.posts.length from by omega]; simp)]; rfl) rfl)) ?_
          refine rg_put (d := 6) (v := .d (.fl (.bool true))) rfl (og rfl (op_assign rfl rfl rfl)) ?_
          refine rg_done rfl ?_
          refine a_ret ?_
          show ∃ ds, ResL _ _ _ ds ∧ RV.of ds = _
          refine ⟨[.fl (.bool true)], (.cons (.tmp rfl (.d _)) .nil), ?_⟩
          rfl
  · skip
    have h13 := t_not h1
    refine rg_put (d := 31) (v := .d (.fl undef)) rfl (on rfl rfl rfl h1) ?_
    refine rg_put (d := 32) (v := .d (.fl undef)) rfl (on rfl rfl rfl h1) ?_
    refine rg_put (d := 33) (v := .d (.fl undef)) rfl (on rfl rfl rfl h1) ?_
    refine rg_put (d := 34) (v := .d (.fl (.bool true))) rfl (og rfl (op_pick rfl rfl (by rw [h1]; rfl) rfl)) ?_
    refine rg_done rfl ?_
    refine a_condK rfl rfl ?_
    refine a_rseq ?_
    refine rg_put (d := 6) (v := .d (.fl (.bool true))) rfl (og rfl (op_assign rfl rfl rfl)) ?_
    refine rg_done rfl ?_
    refine a_ret ?_
    show ∃ ds, ResL _ _ _ ds ∧ RV.of ds = _
    refine ⟨[.fl (.bool true)], (.cons (.tmp rfl (.d _)) .nil), ?_⟩
    rfl
set_option maxHeartbeats 4000000 in
set_option maxRecDepth 100000 in
theorem law9 (l : List En) : Ctr Try.prog 9 [.sl 3 (List.map eEn l)] (.d (.fl (.bool true))) := by
  refine ctr (n := 73) (rs := #[.tmp 2]) (L := [(0, .d (.sl 3 (List.map eEn l)))]) Try.func9 rfl rfl rfl rfl rfl (fun w0 U0 => ?_)
  refine a_rseq ?_
  refine rg_put (d := 2) (v := .d (.fl (.bool false))) rfl (og rfl (op_assign rfl rfl rfl)) ?_
  refine rg_done rfl ?_
  refine a_seq ?_
  refine a_rseq ?_
  refine rg_put (d := 12) (v := .d (.sl 3 (List.map eEn l))) rfl (og rfl (op_move rfl rfl rfl)) ?_
  refine rg_put (d := 13) (v := .tu [.ag (eLe ((Led.mk (bdR l).1))), .fl (.bool ((bdR l).2))]) rfl (og rfl (op_call rfl Try.func14 nm14 rfl (.cons rfl (.d _) .nil) (bldC l) rfl)) ?_
  refine rg_put (d := 11) (v := .tu [.ag (eLe ((Led.mk (bdR l).1))), .fl (.bool ((bdR l).2))]) rfl (og rfl (op_move rfl rfl rfl)) ?_
  refine rg_put (d := 14) (v := .d (.ag (eLe ((Led.mk (bdR l).1))))) rfl (og rfl (op_extract rfl rfl rfl rfl)) ?_
  refine rg_put (d := 15) (v := .d (.fl (.bool ((bdR l).2)))) rfl (og rfl (op_extract rfl rfl rfl rfl)) ?_
  refine rg_nam (d := 3) (v := .pt 101 0) (m := 101) (nw := [(101, .bx 35 [.fl (.slice none 0 0)])]) rfl (og rfl (of_eff (s_alloc 101 rfl ti35 (by kernel_rfl) rfl) rfl)) rfl ?_
  refine rg_sto (nw := [(101, .bx 35 ((eLe ((Led.mk (bdR l).1)))))]) rfl (og rfl (of_eff (s_store rfl rfl ti35 rfl rfl rfl rfl rfl rfl) rfl)) ?_
  refine rg_put (d := 4) (v := .d (.fl (.bool ((bdR l).2)))) rfl (og rfl (op_assign rfl rfl rfl)) ?_
  refine rg_done rfl ?_
  refine a_rseq ?_
  refine rg_put (d := 16) (v := .d (.fl (.bool ((bdR l).2)))) rfl (og rfl (op_move rfl rfl rfl)) ?_
  refine rg_put (d := 17) (v := .d (.fl (.bool ((!((bdR l).2)))))) rfl (og rfl (op_un rfl rfl (u_not _) rfl)) ?_
  refine rg_done rfl ?_
  refine a_cond rfl (fun h1 => ?_) (fun h1 => ?_)
  · skip
    have h2 := t_not h1
    refine a_rseq ?_
    refine rg_put (d := 2) (v := .d (.fl (.bool true))) rfl (og rfl (op_assign rfl rfl rfl)) ?_
    refine rg_done rfl ?_
    refine a_ret ?_
    show ∃ ds, ResL _ _ _ ds ∧ RV.of ds = _
    refine ⟨[.fl (.bool true)], (.cons (.tmp rfl (.d _)) .nil), ?_⟩
    rfl
  · skip
    have h3 := f_not h1
    refine a_skip ?_
    show A _ _ _ _ _ _ _
    refine a_rseq ?_
    obtain ⟨hl40, hs, hbe⟩ := bdR_t h3
    have hbo := bld_ok (by omega) hs (Nat.le_refl l.length)
    have hbg := (bld_in hs l.length (Nat.le_refl _)).2.1
    have hbl := (bld_in hs l.length (Nat.le_refl _)).1
    refine rg_put (d := 18) (v := .d (.sl 3 (List.map eEn l))) rfl (og rfl (op_move rfl rfl rfl)) ?_
    refine rg_put (d := 19) (v := .d (.ag (eLe ((Led.mk (bld l l.length)))))) rfl (og rfl (op_call rfl Try.func30 nm30 rfl (.cons rfl (.d _) .nil) (pstL l (by omega) hs) rfl)) ?_
    refine rg_nam (d := 5) (v := .pt 102 0) (m := 102) (nw := [(102, .bx 35 [.fl (.slice none 0 0)])]) rfl (og rfl (of_eff (s_alloc 102 rfl ti35 (by kernel_rfl) rfl) rfl)) rfl ?_
    refine rg_sto (nw := [(102, .bx 35 ((eLe ((Led.mk (bld l l.length))))))]) rfl (og rfl (of_eff (s_store rfl rfl ti35 rfl rfl rfl rfl rfl rfl) rfl)) ?_
    refine rg_done rfl ?_
    refine a_rseq ?_
    refine rg_put (d := 6) (v := .d (.fl (.slice none 0 0))) rfl (og rfl (op_assign rfl rfl rfl)) ?_
    refine rg_done rfl ?_
    refine a_seq ?_
    refine a_rseq ?_
    refine rg_imp (imp_nilT 6 103 24 3 rfl rfl) ?_
    refine rg_put (d := 20) (v := .pt 102 0) rfl (og rfl (of_eff (s_field_pt rfl Try.underlying35 rfl ti33 rfl rfl rfl) rfl)) ?_
    refine rg_put (d := 21) (v := .d (.sl 3 (List.map eEn (bld l l.length)))) rfl (og rfl (op_load_pt rfl Try.underlying33 rfl rfl rfl rfl rfl)) ?_
    refine rg_put (d := 22) (v := .d (.fl (.int .i64 (((bld l l.length).length : Int))))) rfl (og rfl (s_len rfl Try.underlying33 rfl rfl)) ?_
    refine rg_put (d := 23) (v := .d (.fl (.int .i64 ((((bld l l.length).length : Int) - 1))))) rfl (og rfl (op_bin rfl rfl rfl (fun x y w => b_sub64 _ _ _ x y w (by omega)) rfl)) ?_
    refine rg_put (d := 7) (v := .d (.fl (.int .i64 ((((bld l l.length).length : Int) - 1))))) rfl (og rfl (op_assign rfl rfl rfl)) ?_
    refine rg_done rfl ?_
    refine a_block ?_
    refine a_loop (ι := Nat) (fun i => SS [(0, .d (.sl 3 (List.map eEn l))), (2, .d (.fl (.bool false))), (4, .d (.fl (.bool ((bdR l).2)))), (5, .pt 102 0), (17, .d (.fl (.bool ((!((bdR l).2)))))), (7, .d (.fl (.int .i64 (((i : Int) - 1))))), (6, .ow 103)] [(102, .bx 35 [.sl 3 (List.map eEn (bld l l.length))]), (103, .tr 24 3 (tD eEn (((bld l l.length).drop i).reverse)))]) (fun i => i ≤ (bld l l.length).length) (fun i => i) ((bld l l.length).length) (by omega) (imp_forget rfl ⟨rfl, rfl, rfl, rfl, rfl, rfl, (by first | rfl | exact ci (by omega) | exact ci (by simp) | exact cd (by simp) | simp), trivial⟩ ⟨rfl, (by rw [List.drop_length]; rfl), trivial⟩) (fun i hok => ?_)
    have hi := hok
    refine a_seq ?_
    refine a_rseq ?_
    refine rg_put (d := 24) (v := .d (.fl (.int .i64 (((i : Int) - 1))))) rfl (og rfl (op_move rfl rfl rfl)) ?_
    refine rg_put (d := 25) (v := .d (.fl (.bool ((decide (0 ≤ ((i : Int) - 1))))))) rfl (og rfl (op_bin rfl rfl rfl (b_geq _ _ _ _) rfl)) ?_
    refine rg_done rfl ?_
    refine a_cond rfl (fun h4 => ?_) (fun h4 => ?_)
    · skip
      have h5 := t_dec h4
      refine a_skip ?_
      show A _ _ _ _ _ _ _
      refine a_seq ?_
      refine a_block ?_
      refine a_region ?_
      refine rg_put (d := 28) (v := .ow 103) rfl (og rfl (op_move rfl rfl rfl)) ?_
      refine rg_put (d := 29) (v := .pt 102 0) rfl (og rfl (of_eff (s_field_pt rfl Try.underlying35 rfl ti33 rfl rfl rfl) rfl)) ?_
      refine rg_put (d := 30) (v := .d (.sl 3 (List.map eEn (bld l l.length)))) rfl (og rfl (op_load_pt rfl Try.underlying33 rfl rfl rfl rfl rfl)) ?_
      refine rg_put (d := 31) (v := .d (.fl (.int .i64 (((i : Int) - 1))))) rfl (og rfl (op_move rfl rfl rfl)) ?_
      refine rg_put (d := 32) (v := .el ((eEn ((ix (bld l l.length) (((i : Int) - 1)).toNat))))) rfl (og rfl (s_index rfl Try.underlying33 ti24 rfl rfl (by omega) (row_atI (by omega) (by omega)) rfl)) ?_
      refine rg_put (d := 33) (v := .d (.ag (eEn (((ix (bld l l.length) (((i : Int) - 1)).toNat)))))) rfl (og rfl (of_eff (s_load_els rfl Try.underlying24 rfl ti24 rfl rfl rfl) rfl)) ?_
      refine rg_put (d := 34) (v := .d (.sl 3 (List.map eEn [((ix (bld l l.length) (((i : Int) - 1)).toNat))]))) rfl (og rfl (of_eff (op_slices rfl Try.underlying33 ti24 rfl rfl rfl (by kernel_rfl) (xs := [.ag (eEn (((ix (bld l l.length) (((i : Int) - 1)).toNat))))]) rfl rfl (.cons rfl rfl (.d _) rfl rfl rfl .nil) rfl) rfl)) ?_
      refine rg_nam (d := 35) (v := .ow 104) (m := 104) (nw := [(104, .tr 24 3 (tD eEn ((((bld l l.length).drop i).reverse ++ [((ix (bld l l.length) (((i : Int) - 1)).toNat))])))), (103, .no)]) rfl (og rfl (of_eff (s_append_td 104 rfl Try.underlying33 ti24 rfl rfl rfl rfl rfl (.d _) (by first | omega | (simp only [List.length_append, List.length_cons, List.length_nil, List.length_reverse, List.length_drop]; omega)) rfl) rfl)) rfl ?_
      refine rg_put (d := 6) (v := .ow 104) rfl (og rfl (op_assign rfl rfl rfl)) ?_
      refine rg_done rfl ?_
      show A _ _ _ _ _ _ _
      refine a_region ?_
      refine rg_put (d := 26) (v := .d (.fl (.int .i64 (((i : Int) - 1))))) rfl (og rfl (op_move rfl rfl rfl)) ?_
      refine rg_put (d := 27) (v := .d (.fl (.int .i64 ((((i : Int) - 1) - 1))))) rfl (og rfl (op_bin rfl rfl rfl (fun x y w => b_sub64 _ _ _ x y w (by omega)) rfl)) ?_
      refine rg_put (d := 7) (v := .d (.fl (.int .i64 ((((i : Int) - 1) - 1))))) rfl (og rfl (op_assign rfl rfl rfl)) ?_
      refine rg_done rfl ?_
      have hst : (((bld l l.length).drop i).reverse ++ [((ix (bld l l.length) (((i : Int) - 1)).toNat))]) = ((bld l l.length).drop (i - 1)).reverse := by have h := rev_take (l := (bld l l.length)) (n := i - 1) (by omega); rw [show i - 1 + 1 = i from by omega] at h; rw [← h, show ((i : Int) - 1).toNat = i - 1 from by omega]
      show ∃ i, _ ∧ _ ∧ Imp _ _ _ _ _
      refine ⟨i - 1, (by omega), (by omega), imp_ren (fun m => bif Nat.beq m 103 then 104 else m) rfl ⟨rfl, rfl, rfl, rfl, rfl, (ci (by omega)), rfl, trivial⟩ ⟨rfl, (congrArg (fun z => Ob.tr 24 3 (tD eEn z)) hst), trivial⟩⟩
    · skip
      have h6 := f_dec h4
      refine a_exit ?_
      show A _ _ _ _ _ _ _
      refine a_rseq ?_
      have hneg : i = 0 := by omega
      rw [show ((bld l l.length).drop i).reverse = ((bld l l.length).reverse) from (by rw [hneg, List.drop_zero])]
      have hrl : ((bld l l.length).reverse).length = (bld l l.length).length := List.length_reverse ..
      have hsr : ∀ q, q < ((bld l l.length).reverse).length → sml (ix ((bld l l.length).reverse) q) = true := fun q hq => (hbg _ (List.mem_reverse.1 (ix_mem hq))).s
      have hbr := bld_ok (by omega) hsr (Nat.le_refl ((bld l l.length).reverse).length)
      refine rg_put (d := 36) (v := .ow 103) rfl (og rfl (op_move rfl rfl rfl)) ?_
      refine rg_imp (imp_leakT 36 103 rfl rfl) ?_
      refine rg_put (d := 37) (v := .d (.ag (eLe ((Led.mk (bld (((bld l l.length).reverse)) (((bld l l.length).reverse)).length)))))) rfl (og rfl (op_call rfl Try.func30 nm30 rfl (.cons rfl (.d _) .nil) (pstL (((bld l l.length).reverse)) (by omega) hsr) rfl)) ?_
      refine rg_nam (d := 8) (v := .pt 105 0) (m := 105) (nw := [(105, .bx 35 [.fl (.slice none 0 0)])]) rfl (og rfl (of_eff (s_alloc 105 rfl ti35 (by kernel_rfl) rfl) rfl)) rfl ?_
      refine rg_sto (nw := [(105, .bx 35 ((eLe ((Led.mk (bld (((bld l l.length).reverse)) (((bld l l.length).reverse)).length))))))]) rfl (og rfl (of_eff (s_store rfl rfl ti35 rfl rfl rfl rfl rfl rfl) rfl)) ?_
      refine rg_done rfl ?_
      refine a_seq ?_
      refine a_rseq ?_
      refine rg_put (d := 38) (v := .pt 105 0) rfl (og rfl (of_eff (s_field_pt rfl Try.underlying35 rfl ti33 rfl rfl rfl) rfl)) ?_
      refine rg_put (d := 39) (v := .d (.sl 3 (List.map eEn (bld (((bld l l.length).reverse)) (((bld l l.length).reverse)).length)))) rfl (og rfl (op_load_pt rfl Try.underlying33 rfl rfl rfl rfl rfl)) ?_
      refine rg_put (d := 40) (v := .d (.fl (.int .i64 (((bld (((bld l l.length).reverse)) (((bld l l.length).reverse)).length).length : Int))))) rfl (og rfl (s_len rfl Try.underlying33 rfl rfl)) ?_
      refine rg_put (d := 41) (v := .pt 102 0) rfl (og rfl (of_eff (s_field_pt rfl Try.underlying35 rfl ti33 rfl rfl rfl) rfl)) ?_
      refine rg_put (d := 42) (v := .d (.sl 3 (List.map eEn (bld l l.length)))) rfl (og rfl (op_load_pt rfl Try.underlying33 rfl rfl rfl rfl rfl)) ?_
      refine rg_put (d := 43) (v := .d (.fl (.int .i64 (((bld l l.length).length : Int))))) rfl (og rfl (s_len rfl Try.underlying33 rfl rfl)) ?_
      refine rg_put (d := 44) (v := .d (.fl (.bool ((((bld (((bld l l.length).reverse)) (((bld l l.length).reverse)).length).length : Int) != ((bld l l.length).length : Int)))))) rfl (og rfl (op_bin rfl rfl rfl (b_neq _ _ _ _) rfl)) ?_
      refine rg_done rfl ?_
      refine a_cond rfl (fun h7 => ?_) (fun h7 => ?_)
      · skip
        have h8 := t_bne h7
        refine a_rseq ?_
        refine rg_put (d := 2) (v := .d (.fl (.bool true))) rfl (og rfl (op_assign rfl rfl rfl)) ?_
        refine rg_done rfl ?_
        refine a_ret ?_
        show ∃ ds, ResL _ _ _ ds ∧ RV.of ds = _
        refine ⟨[.fl (.bool true)], (.cons (.tmp rfl (.d _)) .nil), ?_⟩
        rfl
      · skip
        have h9 := f_bne h7
        refine a_skip ?_
        show A _ _ _ _ _ _ _
        refine a_rseq ?_
        have hre : (bld ((bld l l.length).reverse) ((bld l l.length).reverse).length) = (bld l l.length).reverse := by have := (bld_in hsr ((bld l l.length).reverse).length (Nat.le_refl _)).2.2 (by have := f_bne h7; omega); rw [this, List.take_length]
        have hul : (srtS (acL (bld l l.length) (bld l l.length).length)).length ≤ 1680 := by rw [srtS_len]; have := acL_len hbo.e (bld l l.length).length (Nat.le_refl _); omega
        refine rg_put (d := 45) (v := .d (.ag (eLe ((Led.mk (bld l l.length)))))) rfl (og rfl (of_eff (s_load_pts rfl Try.underlying35 rfl ti35 rfl rfl rfl rfl) rfl)) ?_
        refine rg_put (d := 46) (v := .d (.sl 1 (List.map rS ((srtS (acL (bld l l.length) (bld l l.length).length)))))) rfl (og rfl (op_call rfl Try.func26 nm26 rfl (.cons rfl (.d _) .nil) (accC (Led.mk (bld l l.length)) hbo) rfl)) ?_
        refine rg_put (d := 9) (v := .d (.sl 1 (List.map rS ((srtS (acL (bld l l.length) (bld l l.length).length)))))) rfl (og rfl (op_assign rfl rfl rfl)) ?_
        refine rg_done rfl ?_
        refine a_seq ?_
        refine a_rseq ?_
        refine rg_put (d := 10) (v := .d (.fl (.int .i64 0))) rfl (og rfl (op_assign rfl rfl rfl)) ?_
        refine rg_done rfl ?_
        refine a_block ?_
        refine a_loop (ι := Nat) (fun j => SS [(0, .d (.sl 3 (List.map eEn l))), (4, .d (.fl (.bool ((bdR l).2)))), (5, .pt 102 0), (7, .d (.fl (.int .i64 (((i : Int) - 1))))), (8, .pt 105 0), (9, .d (.sl 1 (List.map rS ((srtS (acL (bld l l.length) (bld l l.length).length)))))), (17, .d (.fl (.bool ((!((bdR l).2)))))), (25, .d (.fl (.bool ((decide (0 ≤ ((i : Int) - 1))))))), (44, .d (.fl (.bool ((((bld (((bld l l.length).reverse)) (((bld l l.length).reverse)).length).length : Int) != ((bld l l.length).length : Int)))))), (10, .d (.fl (.int .i64 (j : Int))))] [(102, .bx 35 [.sl 3 (List.map eEn (bld l l.length))]), (105, .bx 35 [.sl 3 (List.map eEn (bld (((bld l l.length).reverse)) (((bld l l.length).reverse)).length))])]) (fun j => j ≤ (srtS (acL (bld l l.length) (bld l l.length).length)).length) (fun j => (srtS (acL (bld l l.length) (bld l l.length).length)).length - j) 0 (by omega) (imp_forget rfl ⟨rfl, rfl, rfl, rfl, rfl, rfl, rfl, rfl, rfl, (by first | rfl | exact ci (by omega) | exact ci (by simp) | exact cd (by simp) | simp), trivial⟩ ⟨rfl, rfl, trivial⟩) (fun j hok => ?_)
        have hj := hok
        refine a_seq ?_
        refine a_rseq ?_
        refine rg_put (d := 47) (v := .d (.fl (.int .i64 (j : Int)))) rfl (og rfl (op_move rfl rfl rfl)) ?_
        refine rg_put (d := 48) (v := .d (.sl 1 (List.map rS ((srtS (acL (bld l l.length) (bld l l.length).length)))))) rfl (og rfl (op_move rfl rfl rfl)) ?_
        refine rg_put (d := 49) (v := .d (.fl (.int .i64 ((((srtS (acL (bld l l.length) (bld l l.length).length))).length : Int))))) rfl (og rfl (s_len rfl Try.underlying53 rfl rfl)) ?_
        refine rg_put (d := 50) (v := .d (.fl (.bool ((decide ((j : Int) < (((srtS (acL (bld l l.length) (bld l l.length).length))).length : Int))))))) rfl (og rfl (op_bin rfl rfl rfl (b_lss _ _ _ _) rfl)) ?_
        refine rg_done rfl ?_
        refine a_cond rfl (fun h10 => ?_) (fun h10 => ?_)
        · skip
          have h11 := t_dec h10
          refine a_skip ?_
          show A _ _ _ _ _ _ _
          refine a_seq ?_
          refine a_block ?_
          refine a_dseq (by kernel_rfl) ?_
          refine dr_put (d := 53) (v := .d (.ag (eLe ((Led.mk (bld l l.length)))))) rfl (og rfl (of_eff (s_load_pts rfl Try.underlying35 rfl ti35 rfl rfl rfl rfl) rfl)) ?_
          refine dr_put (d := 54) (v := .d (.sl 1 (List.map rS ((srtS (acL (bld l l.length) (bld l l.length).length)))))) rfl (og rfl (op_move rfl rfl rfl)) ?_
          refine dr_put (d := 55) (v := .d (.fl (.int .i64 (j : Int)))) rfl (og rfl (op_move rfl rfl rfl)) ?_
          refine dr_put (d := 56) (v := .el ((rS ((ix ((srtS (acL (bld l l.length) (bld l l.length).length))) j))))) rfl (og rfl (s_index rfl Try.underlying53 ti9 rfl rfl (by omega) (row_at (by omega)) rfl)) ?_
          refine dr_put (d := 57) (v := .d (.fl (.string ((ix ((srtS (acL (bld l l.length) (bld l l.length).length))) j))))) rfl (og rfl (op_load_el rfl Try.underlying9 rfl rfl rfl rfl)) ?_
          refine dr_put (d := 58) (v := .d (.fl (.int .i64 ((bal (bld l l.length) ((ix ((srtS (acL (bld l l.length) (bld l l.length).length))) j))))))) rfl (og rfl (op_call rfl Try.func23 nm23 rfl (.cons rfl (.d _) (.cons rfl (.d _) .nil)) (balC (Led.mk (bld l l.length)) ((ix ((srtS (acL (bld l l.length) (bld l l.length).length))) j)) hbo) rfl)) ?_
          refine dr_put (d := 59) (v := .d (.ag (eLe ((Led.mk (bld (((bld l l.length).reverse)) (((bld l l.length).reverse)).length)))))) rfl (og rfl (of_eff (s_load_pts rfl Try.underlying35 rfl ti35 rfl rfl rfl rfl) rfl)) ?_
          refine dr_put (d := 60) (v := .d (.sl 1 (List.map rS ((srtS (acL (bld l l.length) (bld l l.length).length)))))) rfl (og rfl (op_move rfl rfl rfl)) ?_
          refine dr_put (d := 61) (v := .d (.fl (.int .i64 (j : Int)))) rfl (og rfl (op_move rfl rfl rfl)) ?_
          refine dr_put (d := 62) (v := .el ((rS ((ix ((srtS (acL (bld l l.length) (bld l l.length).length))) j))))) rfl (og rfl (s_index rfl Try.underlying53 ti9 rfl rfl (by omega) (row_at (by omega)) rfl)) ?_
          refine dr_put (d := 63) (v := .d (.fl (.string ((ix ((srtS (acL (bld l l.length) (bld l l.length).length))) j))))) rfl (og rfl (op_load_el rfl Try.underlying9 rfl rfl rfl rfl)) ?_
          refine dr_put (d := 64) (v := .d (.fl (.int .i64 ((bal (bld l l.length) ((ix ((srtS (acL (bld l l.length) (bld l l.length).length))) j))))))) rfl (og rfl (op_call rfl Try.func23 nm23 rfl (.cons rfl (.d _) (.cons rfl (.d _) .nil)) ((show Ctr Try.prog 23 [.ag (eLe ⟨(bld ((bld l l.length).reverse) ((bld l l.length).reverse).length)⟩), .fl (.string ((ix ((srtS (acL (bld l l.length) (bld l l.length).length))) j)))] (.d (.fl (.int .i64 (bal (bld l l.length) ((ix ((srtS (acL (bld l l.length) (bld l l.length).length))) j)))))) from by have := balC ⟨(bld ((bld l l.length).reverse) ((bld l l.length).reverse).length)⟩ ((ix ((srtS (acL (bld l l.length) (bld l l.length).length))) j)) hbr; rw [show (Led.mk (bld ((bld l l.length).reverse) ((bld l l.length).reverse).length)).ents = (bld ((bld l l.length).reverse) ((bld l l.length).reverse).length) from rfl, hre, bal_perm (List.reverse_perm _)] at this; rw [hre]; exact this)) rfl)) ?_
          refine dr_put (d := 65) (v := .d (.fl (.bool (((bal (bld l l.length) ((ix ((srtS (acL (bld l l.length) (bld l l.length).length))) j))) != (bal (bld l l.length) ((ix ((srtS (acL (bld l l.length) (bld l l.length).length))) j)))))))) rfl (og rfl (op_bin rfl rfl rfl (b_neq _ _ _ _) rfl)) ?_
          refine dr_done rfl (by kernel_rfl) (by kernel_rfl) ?_
          refine a_condF rfl (bne_self_eq_false _) ?_
          refine a_skip ?_
          show A _ _ _ _ _ _ _
          refine a_region ?_
          refine rg_put (d := 51) (v := .d (.fl (.int .i64 (j : Int)))) rfl (og rfl (op_move rfl rfl rfl)) ?_
          refine rg_put (d := 52) (v := .d (.fl (.int .i64 (((j : Int) + 1))))) rfl (og rfl (op_bin rfl rfl rfl (fun x y w => b_add64 _ _ _ x y w (by omega)) rfl)) ?_
          refine rg_put (d := 10) (v := .d (.fl (.int .i64 (((j : Int) + 1))))) rfl (og rfl (op_assign rfl rfl rfl)) ?_
          refine rg_done rfl ?_
          show ∃ i, _ ∧ _ ∧ Imp _ _ _ _ _
          refine ⟨j + 1, (by omega), by omega, imp_forget rfl ⟨rfl, rfl, rfl, rfl, rfl, rfl, rfl, rfl, rfl, (by first | rfl | exact ci (by omega) | exact ci (by simp) | exact cd (by simp) | simp), trivial⟩ ⟨rfl, rfl, trivial⟩⟩
        · skip
          have h12 := f_dec h10
          refine a_exit ?_
          show A _ _ _ _ _ _ _
          refine a_rseq ?_
          refine rg_put (d := 66) (v := .d (.sl 1 (List.map rS ((srtS (acL (bld l l.length) (bld l l.length).length)))))) rfl (og rfl (op_move rfl rfl rfl)) ?_
          refine rg_put (d := 67) (v := .d (.ag (eLe ((Led.mk (bld (((bld l l.length).reverse)) (((bld l l.length).reverse)).length)))))) rfl (og rfl (of_eff (s_load_pts rfl Try.underlying35 rfl ti35 rfl rfl rfl rfl) rfl)) ?_
          refine rg_put (d := 68) (v := .d (.sl 1 (List.map rS ((srtS (acL (bld l l.length) (bld l l.length).length)))))) rfl (og rfl (op_call rfl Try.func26 nm26 rfl (.cons rfl (.d _) .nil) ((show Ctr Try.prog 26 [.ag (eLe ⟨(bld ((bld l l.length).reverse) ((bld l l.length).reverse).length)⟩)] (.d (.sl 1 (List.map rS (srtS (acL (bld l l.length) (bld l l.length).length))))) from by have := accC ⟨(bld ((bld l l.length).reverse) ((bld l l.length).reverse).length)⟩ hbr; rw [show (Led.mk (bld ((bld l l.length).reverse) ((bld l l.length).reverse).length)).ents = (bld ((bld l l.length).reverse) ((bld l l.length).reverse).length) from rfl, hre, ac_perm (List.reverse_perm _)] at this; rw [hre]; exact this)) rfl)) ?_
          refine rg_put (d := 69) (v := .d (.fl (.bool true))) rfl (og rfl (op_call rfl Try.func25 nm25 rfl (.cons rfl (.d _) (.cons rfl (.d _) .nil)) (sameS ((srtS (acL (bld l l.length) (bld l l.length).length))) (by omega)) rfl)) ?_
          refine rg_put (d := 70) (v := .d (.fl (.bool true))) rfl (og rfl (op_move rfl rfl rfl)) ?_
          refine rg_put (d := 71) (v := .d (.fl (.bool true))) rfl (oy rfl rfl rfl rfl (op_call rfl Try.func13 nm13 rfl .nil alive13 rfl)) ?_
          refine rg_put (d := 72) (v := .d (.fl (.bool true))) rfl (og rfl (op_pick rfl rfl rfl rfl)) ?_
          refine rg_put (d := 2) (v := .d (.fl (.bool true))) rfl (og rfl (op_assign rfl rfl rfl)) ?_
          refine rg_done rfl ?_
          refine a_ret ?_
          show ∃ ds, ResL _ _ _ ds ∧ RV.of ds = _
          refine ⟨[.fl (.bool true)], (.cons (.tmp rfl (.d _)) .nil), ?_⟩
          rfl
end Go.Proofs.Ytmmadlhkniikdaa.Wk
