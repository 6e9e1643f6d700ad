/- Acknowledgements, both sides. Condition: partners that are not too great. -/
import Derived.Test.YtaghifpmcjgopaaB1
set_option linter.unusedSimpArgs false
set_option linter.unusedVariables false
namespace Go.Proofs.Ytaghifpmcjgopaa.Wk
open Go Go.RowKit Go.Proofs.Ytaghifpmcjgopaa.Av
set_option maxHeartbeats 4000000 in
set_option maxRecDepth 100000 in
theorem ackC (p : Ptn) (seq : Int) (hp : okP p) : Ctr Try.prog 6 [.ag (ePt p), .fl (.int .i64 seq)] (.tu [.ag (ePt (akP p seq)), .fl (.int .i64 (akE p seq))]) := by
  refine ctr (n := 24) (rs := #[.cell 4 25, .tmp 5]) (L := [(0, .d (.ag (ePt p))), (1, .d (.fl (.int .i64 seq)))]) Try.func6 rfl rfl rfl rfl rfl (fun w0 U0 => ?_)
  refine a_rseq ?_
  refine rg_nam (d := 2) (v := .pt 101 0) (m := 101) (nw := [(101, .bx 25 (ePt p))]) rfl (og rfl (of_eff (op_box 101 rfl rfl rfl rfl) rfl)) rfl ?_
  refine rg_nam (d := 3) (v := .pt 102 0) (m := 102) (nw := [(102, .bx 3 [.fl (.int .i64 seq)])]) rfl (og rfl (of_eff (op_box 102 rfl rfl rfl rfl) rfl)) rfl ?_
  refine rg_nam (d := 4) (v := .pt 103 0) (m := 103) (nw := [(103, .bx 25 ([.fl (.string (⟨#[]⟩)), .fl (.int .i64 0), .fl (.int .i64 0), .fl (.slice none 0 0), .fl (.slice none 0 0), .fl (.slice none 0 0)]))]) rfl (og rfl (of_eff (s_alloc 103 rfl ti25 (by kernel_rfl) rfl) rfl)) rfl ?_
  refine rg_put (d := 5) (v := .d (.fl (.int .i64 0))) rfl (og rfl (op_assign rfl rfl rfl)) ?_
  refine rg_done rfl ?_
  refine a_seq ?_
  refine a_rseq ?_
  refine rg_imp (imp_freeze 3 102 rfl rfl) ?_
  refine rg_put (d := 7) (v := .d (.fl (.int .i64 seq))) rfl (og rfl (op_load_el rfl Try.underlying3 rfl rfl rfl rfl)) ?_
  refine rg_put (d := 8) (v := .d (.fl (.bool ((decide (seq < 0)))))) rfl (og rfl (op_bin rfl rfl rfl (b_lss _ _ _ _) rfl)) ?_
  refine rg_put (d := 9) (v := .d (.fl (.bool ((decide (seq < 0)))))) rfl (og rfl (op_move rfl rfl rfl)) ?_
  rcases fot ((decide (seq < 0))) with h1 | h1
  · skip
    have h2 := f_dec h1
    refine rg_put (d := 10) (v := .d (.fl (.int .i64 seq))) rfl (oy rfl rfl rfl h1 (op_load_el rfl Try.underlying3 rfl rfl rfl rfl)) ?_
    refine rg_put (d := 11) (v := .pt 101 1) rfl (oy rfl rfl rfl h1 (of_eff (s_field_pt rfl Try.underlying25 rfl ti3 rfl rfl rfl) rfl)) ?_
    refine rg_put (d := 12) (v := .d (.fl (.int .i64 p.out))) rfl (oy rfl rfl rfl h1 (op_load_pt rfl Try.underlying3 rfl rfl rfl rfl rfl)) ?_
    refine rg_put (d := 13) (v := .d (.fl (.bool ((decide (p.out ≤ seq)))))) rfl (oy rfl rfl rfl h1 (op_bin rfl rfl rfl (b_geq _ _ _ _) rfl)) ?_
    refine rg_put (d := 14) (v := .d (.fl (.bool ((decide (p.out ≤ seq)))))) rfl (og rfl (op_pick rfl rfl (by rw [h1]; rfl) rfl)) ?_
    refine rg_done rfl ?_
    refine a_cond rfl (fun h3 => ?_) (fun h3 => ?_)
    · skip
      have h4 := t_dec h3
      refine a_rseq ?_
      refine rg_put (d := 15) (v := .d (.ag (ePt p))) rfl (og rfl (of_eff (s_load_pts rfl Try.underlying25 rfl ti25 rfl rfl rfl rfl) rfl)) ?_
      refine rg_sto (nw := [(103, .bx 25 (ePt p))]) rfl (og rfl (of_eff (s_store rfl rfl ti25 rfl rfl rfl rfl rfl rfl) rfl)) ?_
      refine rg_put (d := 5) (v := .d (.fl (.int .i64 31))) rfl (og rfl (op_assign rfl rfl rfl)) ?_
      refine rg_done rfl ?_
      refine a_ret ?_
      show ∃ ds, ResL _ _ _ ds ∧ RV.of ds = _
      refine ⟨[.ag [.fl (.string p.name), .fl (.int .i64 p.out), .fl (.int .i64 p.inn), .sl 4 (List.map eFil p.wait), .sl 5 (List.map eRec p.ours), .sl 5 (List.map eRec p.theirs)], .fl (.int .i64 31)], (.cons (.cellT rfl rfl Try.underlying25 rfl ti25 rfl (Cv.ag (xs := [.fl (.string p.name), .fl (.int .i64 p.out), .fl (.int .i64 p.inn), .sl 4 (List.map eFil p.wait), .sl 5 (List.map eRec p.ours), .sl 5 (List.map eRec p.theirs)]) (ys := [.fl (.string p.name), .fl (.int .i64 p.out), .fl (.int .i64 p.inn), .sl 4 (List.map eFil p.wait), .sl 5 (List.map eRec p.ours), .sl 5 (List.map eRec p.theirs)]) ⟨Cv.refl _, Cv.refl _, Cv.refl _, Cv.refl _, Cv.refl _, Cv.refl _, trivial⟩)) (.cons (.tmp rfl (.d _)) .nil)), ?_⟩
      have hcd : (decide (seq < 0) || decide (p.out ≤ seq)) = true := by simp only [h1, h3, Bool.true_or, Bool.false_or, Bool.or_true, Bool.or_false, Bool.not_true, Bool.not_false, cond_true, cond_false, Bool.true_and, Bool.false_and, Bool.and_true, Bool.and_false] <;> rfl
      obtain ⟨hk1, hk2⟩ := ak_bad hcd
      rw [hk1, hk2]; rfl
    · skip
      have h5 := f_dec h3
      refine a_skip ?_
      show A _ _ _ _ _ _ _
      refine a_rseq ?_
      refine rg_put (d := 16) (v := .d (.ag (ePt p))) rfl (og rfl (of_eff (s_load_pts rfl Try.underlying25 rfl ti25 rfl rfl rfl rfl) rfl)) ?_
      refine rg_nam (d := 17) (v := .ow 104) (m := 104) (nw := [(104, .sv [.dv (.fl (.string p.name)), .dv (.fl (.int .i64 p.out)), .dv (.fl (.int .i64 p.inn)), .ow 37 4 (List.map eFil p.wait), .ow 39 5 (List.map eRec p.ours), .ow 39 5 (List.map eRec p.theirs)])]) rfl (og rfl (of_eff (op_callO 104 rfl Try.func15 nm15 rfl (.cons rfl (.d _) .nil) (freshP p hp) rfl) rfl)) rfl ?_
      refine rg_nam (d := 6) (v := .pt 105 0) (m := 105) (nw := [(105, .bx 25 ([.fl (.string (⟨#[]⟩)), .fl (.int .i64 0), .fl (.int .i64 0), .fl (.slice none 0 0), .fl (.slice none 0 0), .fl (.slice none 0 0)]))]) rfl (og rfl (of_eff (s_alloc 105 rfl ti25 (by kernel_rfl) rfl) rfl)) rfl ?_
      refine rg_imp (imp_bt 105 rfl) ?_
      refine rg_sto (nw := [(105, .bt 25 [.dv (.fl (.string p.name)), .dv (.fl (.int .i64 p.out)), .dv (.fl (.int .i64 p.inn)), .ow 37 4 (List.map eFil p.wait), .ow 39 5 (List.map eRec p.ours), .ow 39 5 (List.map eRec p.theirs)]), (104, .no)]) rfl (og rfl (of_eff (op_store_bt rfl rfl ti25 rfl rfl rfl (.sv rfl) rfl rfl rfl) rfl)) ?_
      refine rg_done rfl ?_
      refine a_rseq ?_
      refine rg_put (d := 18) (v := .pt 105 3) rfl (og rfl (of_eff (s_field_pt rfl Try.underlying25 rfl ti22 rfl rfl rfl) rfl)) ?_
      refine rg_nam (d := 19) (v := .ow 106) (m := 106) (nw := [(106, .tr 37 4 (tD eFil p.wait)), (105, .bt 25 [.dv (.fl (.string p.name)), .dv (.fl (.int .i64 p.out)), .dv (.fl (.int .i64 p.inn)), .un, .ow 39 5 (List.map eRec p.ours), .ow 39 5 (List.map eRec p.theirs)])]) rfl (og rfl (of_eff (op_takeBt 106 rfl Try.underlying22 rfl rfl rfl rfl rfl rfl) rfl)) rfl ?_
      refine rg_put (d := 20) (v := .d (.fn 17 [.el [.fl (.int .i64 seq)]])) rfl (og rfl (op_mkfn rfl (.cons rfl .nil) rfl)) ?_
      refine rg_nam (d := 21) (v := .ow 107) (m := 107) (nw := [(107, .tr 37 4 (tD eFil (dlF seq p.wait p.wait.length))), (106, .no)]) rfl (og rfl (of_eff (op_callT 107 rfl Try.func16 nm16 rfl rfl rfl rfl (.cons rfl (.d _) .nil) (delC p.wait seq (by have := hp.w; omega)) rfl) rfl)) rfl ?_
      refine rg_put (d := 22) (v := .pt 105 3) rfl (og rfl (of_eff (s_field_pt rfl Try.underlying25 rfl ti22 rfl rfl rfl) rfl)) ?_
      refine rg_sto (nw := [(105, .bt 25 [.dv (.fl (.string p.name)), .dv (.fl (.int .i64 p.out)), .dv (.fl (.int .i64 p.inn)), .ow 37 4 (List.map eFil (dlF seq p.wait p.wait.length)), .ow 39 5 (List.map eRec p.ours), .ow 39 5 (List.map eRec p.theirs)]), (107, .no)]) rfl (og rfl (of_eff (op_store_bt rfl rfl ti22 rfl rfl rfl (.tr rfl) rfl rfl rfl) rfl)) ?_
      refine rg_done rfl ?_
      refine a_rseq ?_
      refine rg_imp (imp_leakBt 105 (ds := [.fl (.string p.name), .fl (.int .i64 p.out), .fl (.int .i64 p.inn), .sl 4 (List.map eFil (dlF seq p.wait p.wait.length)), .sl 5 (List.map eRec p.ours), .sl 5 (List.map eRec p.theirs)]) rfl rfl rfl) ?_
      refine rg_put (d := 23) (v := .d (.ag (ePt ((Ptn.mk p.name p.out p.inn (dlF seq p.wait p.wait.length) p.ours p.theirs))))) rfl (og rfl (of_eff (s_load_pts rfl Try.underlying25 rfl ti25 rfl rfl rfl rfl) rfl)) ?_
      refine rg_sto (nw := [(103, .bx 25 ((ePt ((Ptn.mk p.name p.out p.inn (dlF seq p.wait p.wait.length) p.ours p.theirs)))))]) rfl (og rfl (of_eff (s_store rfl rfl ti25 rfl rfl rfl rfl rfl rfl) rfl)) ?_
      refine rg_put (d := 5) (v := .d (.fl (.int .i64 0))) rfl (og rfl (op_assign rfl rfl rfl)) ?_
      refine rg_done rfl ?_
      refine a_ret ?_
      show ∃ ds, ResL _ _ _ ds ∧ RV.of ds = _
      refine ⟨[.ag [.fl (.string ((Ptn.mk p.name p.out p.inn (dlF seq p.wait p.wait.length) p.ours p.theirs).name)), .fl (.int .i64 ((Ptn.mk p.name p.out p.inn (dlF seq p.wait p.wait.length) p.ours p.theirs).out)), .fl (.int .i64 ((Ptn.mk p.name p.out p.inn (dlF seq p.wait p.wait.length) p.ours p.theirs).inn)), .sl 4 (List.map eFil ((Ptn.mk p.name p.out p.inn (dlF seq p.wait p.wait.length) p.ours p.theirs).wait)), .sl 5 (List.map eRec ((Ptn.mk p.name p.out p.inn (dlF seq p.wait p.wait.length) p.ours p.theirs).ours)), .sl 5 (List.map eRec ((Ptn.mk p.name p.out p.inn (dlF seq p.wait p.wait.length) p.ours p.theirs).theirs))], .fl (.int .i64 0)], (.cons (.cellT rfl rfl Try.underlying25 rfl ti25 rfl (Cv.ag (xs := [.fl (.string ((Ptn.mk p.name p.out p.inn (dlF seq p.wait p.wait.length) p.ours p.theirs).name)), .fl (.int .i64 ((Ptn.mk p.name p.out p.inn (dlF seq p.wait p.wait.length) p.ours p.theirs).out)), .fl (.int .i64 ((Ptn.mk p.name p.out p.inn (dlF seq p.wait p.wait.length) p.ours p.theirs).inn)), .sl 4 (List.map eFil ((Ptn.mk p.name p.out p.inn (dlF seq p.wait p.wait.length) p.ours p.theirs).wait)), .sl 5 (List.map eRec ((Ptn.mk p.name p.out p.inn (dlF seq p.wait p.wait.length) p.ours p.theirs).ours)), .sl 5 (List.map eRec ((Ptn.mk p.name p.out p.inn (dlF seq p.wait p.wait.length) p.ours p.theirs).theirs))]) (ys := [.fl (.string ((Ptn.mk p.name p.out p.inn (dlF seq p.wait p.wait.length) p.ours p.theirs).name)), .fl (.int .i64 ((Ptn.mk p.name p.out p.inn (dlF seq p.wait p.wait.length) p.ours p.theirs).out)), .fl (.int .i64 ((Ptn.mk p.name p.out p.inn (dlF seq p.wait p.wait.length) p.ours p.theirs).inn)), .sl 4 (List.map eFil ((Ptn.mk p.name p.out p.inn (dlF seq p.wait p.wait.length) p.ours p.theirs).wait)), .sl 5 (List.map eRec ((Ptn.mk p.name p.out p.inn (dlF seq p.wait p.wait.length) p.ours p.theirs).ours)), .sl 5 (List.map eRec ((Ptn.mk p.name p.out p.inn (dlF seq p.wait p.wait.length) p.ours p.theirs).theirs))]) ⟨Cv.refl _, Cv.refl _, Cv.refl _, Cv.refl _, Cv.refl _, Cv.refl _, trivial⟩)) (.cons (.tmp rfl (.d _)) .nil)), ?_⟩
      have hcd : (decide (seq < 0) || decide (p.out ≤ seq)) = false := by simp only [h1, h3, Bool.true_or, Bool.false_or, Bool.or_true, Bool.or_false, Bool.not_true, Bool.not_false, cond_true, cond_false, Bool.true_and, Bool.false_and, Bool.and_true, Bool.and_false] <;> rfl
      obtain ⟨hk1, hk2⟩ := ak_ok hcd
      rw [hk1, hk2]; rfl
  · skip
    have h6 := t_dec h1
    refine rg_put (d := 10) (v := .d (.fl undef)) rfl (on rfl rfl rfl h1) ?_
    refine rg_put (d := 11) (v := .d (.fl undef)) rfl (on rfl rfl rfl h1) ?_
    refine rg_put (d := 12) (v := .d (.fl undef)) rfl (on rfl rfl rfl h1) ?_
    refine rg_put (d := 13) (v := .d (.fl undef)) rfl (on rfl rfl rfl h1) ?_
    refine rg_put (d := 14) (v := .d (.fl (.bool true))) rfl (og rfl (op_pick rfl rfl (by rw [h1]; rfl) rfl)) ?_
    refine rg_done rfl ?_
    refine a_condK rfl rfl ?_
    refine a_rseq ?_
    refine rg_put (d := 15) (v := .d (.ag (ePt p))) rfl (og rfl (of_eff (s_load_pts rfl Try.underlying25 rfl ti25 rfl rfl rfl rfl) rfl)) ?_
    refine rg_sto (nw := [(103, .bx 25 (ePt p))]) rfl (og rfl (of_eff (s_store rfl rfl ti25 rfl rfl rfl rfl rfl rfl) rfl)) ?_
    refine rg_put (d := 5) (v := .d (.fl (.int .i64 31))) rfl (og rfl (op_assign rfl rfl rfl)) ?_
    refine rg_done rfl ?_
    refine a_ret ?_
    show ∃ ds, ResL _ _ _ ds ∧ RV.of ds = _
    refine ⟨[.ag [.fl (.string p.name), .fl (.int .i64 p.out), .fl (.int .i64 p.inn), .sl 4 (List.map eFil p.wait), .sl 5 (List.map eRec p.ours), .sl 5 (List.map eRec p.theirs)], .fl (.int .i64 31)], (.cons (.cellT rfl rfl Try.underlying25 rfl ti25 rfl (Cv.ag (xs := [.fl (.string p.name), .fl (.int .i64 p.out), .fl (.int .i64 p.inn), .sl 4 (List.map eFil p.wait), .sl 5 (List.map eRec p.ours), .sl 5 (List.map eRec p.theirs)]) (ys := [.fl (.string p.name), .fl (.int .i64 p.out), .fl (.int .i64 p.inn), .sl 4 (List.map eFil p.wait), .sl 5 (List.map eRec p.ours), .sl 5 (List.map eRec p.theirs)]) ⟨Cv.refl _, Cv.refl _, Cv.refl _, Cv.refl _, Cv.refl _, Cv.refl _, trivial⟩)) (.cons (.tmp rfl (.d _)) .nil)), ?_⟩
    have hcd : (decide (seq < 0) || decide (p.out ≤ seq)) = true := by simp only [h1, Bool.true_or, Bool.false_or, Bool.or_true, Bool.or_false, Bool.not_true, Bool.not_false, cond_true, cond_false, Bool.true_and, Bool.false_and, Bool.and_true, Bool.and_false] <;> rfl
    obtain ⟨hk1, hk2⟩ := ak_bad hcd
    rw [hk1, hk2]; rfl
set_option maxHeartbeats 4000000 in
set_option maxRecDepth 100000 in
theorem recR (l : List Rec) (hl : l.length ≤ 2000) : Ctr Try.prog 29 [.sl 5 (List.map eRec l)] (.d (.sl 5 (List.map eRec l))) := by
  refine ctr (n := 7) (rs := #[.tmp 2]) (L := [(0, .d (.sl 5 (List.map eRec l)))]) Try.func29 rfl rfl rfl rfl rfl (fun w0 U0 => ?_)
  refine a_rseq ?_
  refine rg_put (d := 2) (v := .d (.fl (.slice none 0 0))) rfl (og rfl (op_assign rfl rfl rfl)) ?_
  refine rg_done rfl ?_
  refine a_rseq ?_
  refine rg_put (d := 3) (v := .d (.fl (.slice none 0 0))) rfl (og rfl (op_assign rfl rfl rfl)) ?_
  refine rg_done rfl ?_
  refine a_rseq ?_
  refine rg_put (d := 4) (v := .d (.fl (.slice none 0 0))) rfl (og rfl (op_move rfl rfl rfl)) ?_
  refine rg_put (d := 5) (v := .d (.sl 5 (List.map eRec l))) rfl (og rfl (op_move rfl rfl rfl)) ?_
  refine rg_nam (d := 6) (v := .ow 101) (m := 101) (nw := [(101, .ow 39 5 (List.map eRec l))]) rfl (og rfl (s_append_nil 101 rfl Try.underlying23 ti39 rfl rfl rfl rfl (.d _) (by first | omega | (simp only [List.length_append, List.length_cons, List.length_nil]; omega) | (simp only [List.length_take, List.length_drop]; omega)) rfl)) rfl ?_
  refine rg_put (d := 2) (v := .ow 101) rfl (og rfl (op_assign rfl rfl rfl)) ?_
  refine rg_done rfl ?_
  refine a_ret ?_
  show ∃ ds, ResL _ _ _ ds ∧ RV.of ds = _
  refine ⟨[.sl 5 (List.map eRec l)], (.cons (.tmp rfl (.ow rfl)) .nil), ?_⟩
  rfl
set_option maxHeartbeats 4000000 in
set_option maxRecDepth 100000 in
theorem filR (l : List Fil) (hl : l.length ≤ 1000) (hz : ∀ x ∈ l, x.recs.length ≤ 1100) : Ctr Try.prog 19 [.sl 4 (List.map eFil l)] (.d (.sl 4 (List.map eFil l))) := by
  refine ctr (n := 28) (rs := #[.tmp 2]) (L := [(0, .d (.sl 4 (List.map eFil l)))]) Try.func19 rfl rfl rfl rfl rfl (fun w0 U0 => ?_)
  refine a_rseq ?_
  refine rg_put (d := 2) (v := .d (.fl (.slice none 0 0))) rfl (og rfl (op_assign rfl rfl rfl)) ?_
  refine rg_done rfl ?_
  refine a_rseq ?_
  refine rg_put (d := 3) (v := .d (.fl (.slice none 0 0))) rfl (og rfl (op_assign rfl rfl rfl)) ?_
  refine rg_done rfl ?_
  refine a_seq ?_
  refine a_rseq ?_
  refine rg_imp (imp_nilT 3 101 37 4 rfl rfl) ?_
  refine rg_put (d := 4) (v := .d (.fl (.int .i64 0))) rfl (og rfl (op_assign rfl rfl rfl)) ?_
  refine rg_done rfl ?_
  refine a_block ?_
  refine a_loop (ι := Nat) (fun k => SS [(0, .d (.sl 4 (List.map eFil l))), (2, .d (.fl (.slice none 0 0))), (4, .d (.fl (.int .i64 (k : Int)))), (3, .ow 101)] [(101, .tr 37 4 (tD eFil (l.take k)))]) (fun k => k ≤ l.length) (fun k => l.length - k) 0 (by omega) (imp_forget rfl ⟨rfl, rfl, (by first | rfl | exact ci (by omega) | exact ci (by simp) | exact cd (by simp) | simp), (by first | rfl | exact ci (by omega) | exact ci (by simp) | exact cd (by simp) | simp), trivial⟩ ⟨rfl, trivial⟩) (fun k hok => ?_)
  have hk := hok
  have hnl : (l.take k).length = k := by rw [List.length_take]; omega
  refine a_seq ?_
  refine a_rseq ?_
  refine rg_put (d := 6) (v := .d (.fl (.int .i64 (k : Int)))) rfl (og rfl (op_move rfl rfl rfl)) ?_
  refine rg_put (d := 7) (v := .d (.sl 4 (List.map eFil l))) rfl (og rfl (op_move rfl rfl rfl)) ?_
  refine rg_put (d := 8) (v := .d (.fl (.int .i64 (l.length : Int)))) rfl (og rfl (s_len rfl Try.underlying22 rfl rfl)) ?_
  refine rg_put (d := 9) (v := .d (.fl (.bool ((decide ((k : Int) < (l.length : Int))))))) rfl (og rfl (op_bin rfl rfl rfl (b_lss _ _ _ _) rfl)) ?_
  refine rg_done rfl ?_
  refine a_cond rfl (fun h1 => ?_) (fun h1 => ?_)
  · skip
    have h2 := t_dec h1
    refine a_skip ?_
    show A _ _ _ _ _ _ _
    refine a_seq ?_
    refine a_block ?_
    refine a_rseq ?_
    refine rg_put (d := 12) (v := .d (.sl 4 (List.map eFil l))) rfl (og rfl (op_move rfl rfl rfl)) ?_
    refine rg_put (d := 13) (v := .d (.fl (.int .i64 (k : Int)))) rfl (og rfl (op_move rfl rfl rfl)) ?_
    refine rg_put (d := 14) (v := .el ((eFil (ix l k)))) rfl (og rfl (s_index rfl Try.underlying22 ti37 rfl rfl (by omega) (row_at (by omega)) rfl)) ?_
    refine rg_put (d := 15) (v := .d (.ag (eFil (ix l k)))) rfl (og rfl (of_eff (s_load_els rfl Try.underlying37 rfl ti37 rfl rfl rfl) rfl)) ?_
    refine rg_nam (d := 5) (v := .pt 102 0) (m := 102) (nw := [(102, .bx 37 ([.fl (.string (⟨#[]⟩)), .fl (.string (⟨#[]⟩)), .fl (.int .i64 0), .fl (.slice none 0 0)]))]) rfl (og rfl (of_eff (s_alloc 102 rfl ti37 (by kernel_rfl) rfl) rfl)) rfl ?_
    refine rg_sto (nw := [(102, .bx 37 ((eFil (ix l k))))]) rfl (og rfl (of_eff (s_store rfl rfl ti37 rfl rfl rfl rfl rfl rfl) rfl)) ?_
    refine rg_done rfl ?_
    refine a_rseq ?_
    refine rg_put (d := 16) (v := .d (.sl 4 (List.map eFil l))) rfl (og rfl (op_move rfl rfl rfl)) ?_
    refine rg_put (d := 17) (v := .d (.fl (.int .i64 (k : Int)))) rfl (og rfl (op_move rfl rfl rfl)) ?_
    refine rg_put (d := 18) (v := .el ((eFil (ix l k)))) rfl (og rfl (s_index rfl Try.underlying22 ti37 rfl rfl (by omega) (row_at (by omega)) rfl)) ?_
    refine rg_put (d := 19) (v := .el ((List.drop 3 ((eFil (ix l k)))))) rfl (og rfl (of_eff (s_field_el rfl Try.underlying37 rfl ti23 rfl rfl rfl) rfl)) ?_
    refine rg_put (d := 20) (v := .d (.sl 5 (List.map eRec ((ix l k).recs)))) rfl (og rfl (op_load_el rfl Try.underlying23 rfl rfl rfl rfl)) ?_
    refine rg_put (d := 21) (v := .d (.sl 5 (List.map eRec ((ix l k).recs)))) rfl (og rfl (op_call rfl Try.func29 nm29 rfl (.cons rfl (.d _) .nil) (recR ((ix l k).recs) (by have := hz _ (ix_mem (by omega : k < l.length)); omega)) rfl)) ?_
    refine rg_put (d := 22) (v := .pt 102 3) rfl (og rfl (of_eff (s_field_pt rfl Try.underlying37 rfl ti23 rfl rfl rfl) rfl)) ?_
    refine rg_sto (nw := [(102, .bx 37 [.fl (.string ((ix l k).fr)), .fl (.string ((ix l k).to)), .fl (.int .i64 ((ix l k).seq)), .sl 5 (List.map eRec ((ix l k).recs))])]) rfl (og rfl (of_eff (s_store rfl rfl ti23 rfl rfl rfl rfl rfl rfl) rfl)) ?_
    refine rg_done rfl ?_
    refine a_region ?_
    refine rg_put (d := 23) (v := .ow 101) rfl (og rfl (op_move rfl rfl rfl)) ?_
    refine rg_put (d := 24) (v := .d (.ag (eFil (ix l k)))) rfl (og rfl (of_eff (s_load_pts rfl Try.underlying37 rfl ti37 rfl rfl rfl rfl) rfl)) ?_
    refine rg_put (d := 25) (v := .d (.sl 4 (List.map eFil [(ix l k)]))) rfl (og rfl (of_eff (op_slices rfl Try.underlying22 ti37 rfl rfl rfl (by kernel_rfl) (xs := [.ag (eFil (ix l k))]) rfl rfl (.cons rfl rfl (.d _) rfl rfl rfl .nil) rfl) rfl)) ?_
    refine rg_nam (d := 26) (v := .ow 103) (m := 103) (nw := [(103, .tr 37 4 (tD eFil (((l.take k) ++ [(ix l k)])))), (101, .no)]) rfl (og rfl (of_eff (s_append_td 103 rfl Try.underlying22 ti37 rfl rfl rfl rfl rfl (.d _) (by first | omega | (simp only [List.length_append, List.length_cons, List.length_nil]; omega)) rfl) rfl)) rfl ?_
    refine rg_put (d := 3) (v := .ow 103) rfl (og rfl (op_assign rfl rfl rfl)) ?_
    refine rg_done rfl ?_
    show A _ _ _ _ _ _ _
    refine a_region ?_
    refine rg_put (d := 10) (v := .d (.fl (.int .i64 (k : Int)))) rfl (og rfl (op_move rfl rfl rfl)) ?_
    refine rg_put (d := 11) (v := .d (.fl (.int .i64 (((k : Int) + 1))))) rfl (og rfl (op_bin rfl rfl rfl (fun x y w => b_add64 _ _ _ x y w (by omega)) rfl)) ?_
    refine rg_put (d := 4) (v := .d (.fl (.int .i64 (((k : Int) + 1))))) rfl (og rfl (op_assign rfl rfl rfl)) ?_
    refine rg_done rfl ?_
    show ∃ i, _ ∧ _ ∧ Imp _ _ _ _ _
    refine ⟨k + 1, (by omega), by omega, imp_ren (fun m => bif Nat.beq m 101 then 103 else m) rfl ⟨rfl, rfl, (by first | rfl | exact ci (by omega) | exact ci (by simp) | exact cd (by simp) | simp), rfl, trivial⟩ ⟨(congrArg (fun z => Ob.tr 37 4 (tD eFil z)) (take_ix (by omega)).symm), trivial⟩⟩
  · skip
    have h3 := f_dec h1
    refine a_exit ?_
    show A _ _ _ _ _ _ _
    refine a_rseq ?_
    rw [show (l.take k) = l from (List.take_of_length_le (by omega))]
    refine rg_put (d := 27) (v := .ow 101) rfl (og rfl (op_move rfl rfl rfl)) ?_
    refine rg_put (d := 2) (v := .ow 101) rfl (og rfl (op_assign rfl rfl rfl)) ?_
    refine rg_done rfl ?_
    refine a_imp (imp_leakT 2 101 rfl rfl) ?_
    refine a_ret ?_
    show ∃ ds, ResL _ _ _ ds ∧ RV.of ds = _
    refine ⟨[.sl 4 (List.map eFil l)], (.cons (.tmp rfl (.d _)) .nil), ?_⟩
    rfl
set_option maxHeartbeats 4000000 in
set_option maxRecDepth 100000 in
theorem copR (p : Ptn) (hp : okP p) : Ctr Try.prog 18 [.ag (ePt p)] (.d (.ag (ePt p))) := by
  refine ctr (n := 18) (rs := #[.cell 2 25]) (L := [(0, .d (.ag (ePt p)))]) Try.func18 rfl rfl rfl rfl rfl (fun w0 U0 => ?_)
  refine a_rseq ?_
  refine rg_nam (d := 1) (v := .pt 101 0) (m := 101) (nw := [(101, .bx 25 (ePt p))]) rfl (og rfl (of_eff (op_box 101 rfl rfl rfl rfl) rfl)) rfl ?_
  refine rg_nam (d := 2) (v := .pt 102 0) (m := 102) (nw := [(102, .bx 25 ([.fl (.string (⟨#[]⟩)), .fl (.int .i64 0), .fl (.int .i64 0), .fl (.slice none 0 0), .fl (.slice none 0 0), .fl (.slice none 0 0)]))]) rfl (og rfl (of_eff (s_alloc 102 rfl ti25 (by kernel_rfl) rfl) rfl)) rfl ?_
  refine rg_done rfl ?_
  refine a_rseq ?_
  refine rg_put (d := 4) (v := .d (.ag (ePt p))) rfl (og rfl (of_eff (s_load_pts rfl Try.underlying25 rfl ti25 rfl rfl rfl rfl) rfl)) ?_
  refine rg_nam (d := 3) (v := .pt 103 0) (m := 103) (nw := [(103, .bx 25 ([.fl (.string (⟨#[]⟩)), .fl (.int .i64 0), .fl (.int .i64 0), .fl (.slice none 0 0), .fl (.slice none 0 0), .fl (.slice none 0 0)]))]) rfl (og rfl (of_eff (s_alloc 103 rfl ti25 (by kernel_rfl) rfl) rfl)) rfl ?_
  refine rg_sto (nw := [(103, .bx 25 (ePt p))]) rfl (og rfl (of_eff (s_store rfl rfl ti25 rfl rfl rfl rfl rfl rfl) rfl)) ?_
  refine rg_done rfl ?_
  refine a_dseq (by kernel_rfl) ?_
  refine dr_put (d := 5) (v := .pt 101 3) rfl (og rfl (of_eff (s_field_pt rfl Try.underlying25 rfl ti22 rfl rfl rfl) rfl)) ?_
  refine dr_put (d := 6) (v := .d (.sl 4 (List.map eFil p.wait))) rfl (og rfl (op_load_pt rfl Try.underlying22 rfl rfl rfl rfl rfl)) ?_
  refine dr_put (d := 7) (v := .d (.sl 4 (List.map eFil p.wait))) rfl (og rfl (op_call rfl Try.func19 nm19 rfl (.cons rfl (.d _) .nil) (filR p.wait (by have := hp.w; omega) hp.r) rfl)) ?_
  refine dr_put (d := 8) (v := .pt 101 4) rfl (og rfl (of_eff (s_field_pt rfl Try.underlying25 rfl ti23 rfl rfl rfl) rfl)) ?_
  refine dr_put (d := 9) (v := .d (.sl 5 (List.map eRec p.ours))) rfl (og rfl (op_load_pt rfl Try.underlying23 rfl rfl rfl rfl rfl)) ?_
  refine dr_put (d := 10) (v := .d (.sl 5 (List.map eRec p.ours))) rfl (og rfl (op_call rfl Try.func29 nm29 rfl (.cons rfl (.d _) .nil) (recR p.ours (by have := hp.o; have := hp.t; omega)) rfl)) ?_
  refine dr_put (d := 11) (v := .pt 101 5) rfl (og rfl (of_eff (s_field_pt rfl Try.underlying25 rfl ti23 rfl rfl rfl) rfl)) ?_
  refine dr_put (d := 12) (v := .d (.sl 5 (List.map eRec p.theirs))) rfl (og rfl (op_load_pt rfl Try.underlying23 rfl rfl rfl rfl rfl)) ?_
  refine dr_put (d := 13) (v := .d (.sl 5 (List.map eRec p.theirs))) rfl (og rfl (op_call rfl Try.func29 nm29 rfl (.cons rfl (.d _) .nil) (recR p.theirs (by have := hp.o; have := hp.t; omega)) rfl)) ?_
  refine dr_put (d := 14) (v := .pt 103 3) rfl (og rfl (of_eff (s_field_pt rfl Try.underlying25 rfl ti22 rfl rfl rfl) rfl)) ?_
  refine dr_sto (nw := [(103, .bx 25 [.fl (.string p.name), .fl (.int .i64 p.out), .fl (.int .i64 p.inn), .sl 4 (List.map eFil p.wait), .sl 5 (List.map eRec p.ours), .sl 5 (List.map eRec p.theirs)])]) rfl (og rfl (of_eff (s_store rfl rfl ti22 rfl rfl rfl rfl rfl rfl) rfl)) ?_
  refine dr_put (d := 15) (v := .pt 103 4) rfl (og rfl (of_eff (s_field_pt rfl Try.underlying25 rfl ti23 rfl rfl rfl) rfl)) ?_
  refine dr_sto (nw := [(103, .bx 25 [.fl (.string p.name), .fl (.int .i64 p.out), .fl (.int .i64 p.inn), .sl 4 (List.map eFil p.wait), .sl 5 (List.map eRec p.ours), .sl 5 (List.map eRec p.theirs)])]) rfl (og rfl (of_eff (s_store rfl rfl ti23 rfl rfl rfl rfl rfl rfl) rfl)) ?_
  refine dr_put (d := 16) (v := .pt 103 5) rfl (og rfl (of_eff (s_field_pt rfl Try.underlying25 rfl ti23 rfl rfl rfl) rfl)) ?_
  refine dr_sto (nw := [(103, .bx 25 [.fl (.string p.name), .fl (.int .i64 p.out), .fl (.int .i64 p.inn), .sl 4 (List.map eFil p.wait), .sl 5 (List.map eRec p.ours), .sl 5 (List.map eRec p.theirs)])]) rfl (og rfl (of_eff (s_store rfl rfl ti23 rfl rfl rfl rfl rfl rfl) rfl)) ?_
  refine dr_done rfl (sepB_of [0, 1, 3, 0, 8, 31, 0, 64, 255, 7, 1023, 2047, 4095, 8191, 16383] (by kernel_rfl)) (by kernel_rfl) ?_
  refine a_rseq ?_
  refine rg_put (d := 17) (v := .d (.ag (ePt p))) rfl (og rfl (of_eff (s_load_pts rfl Try.underlying25 rfl ti25 rfl rfl rfl rfl) rfl)) ?_
  refine rg_sto (nw := [(102, .bx 25 (ePt p))]) rfl (og rfl (of_eff (s_store rfl rfl ti25 rfl rfl rfl rfl rfl rfl) rfl)) ?_
  refine rg_done rfl ?_
  refine a_ret ?_
  show ∃ ds, ResL _ _ _ ds ∧ RV.of ds = _
  refine ⟨[.ag [.fl (.string p.name), .fl (.int .i64 p.out), .fl (.int .i64 p.inn), .sl 4 (List.map eFil p.wait), .sl 5 (List.map eRec p.ours), .sl 5 (List.map eRec p.theirs)]], (.cons (.cellT rfl rfl Try.underlying25 rfl ti25 rfl (Cv.ag (xs := [.fl (.string p.name), .fl (.int .i64 p.out), .fl (.int .i64 p.inn), .sl 4 (List.map eFil p.wait), .sl 5 (List.map eRec p.ours), .sl 5 (List.map eRec p.theirs)]) (ys := [.fl (.string p.name), .fl (.int .i64 p.out), .fl (.int .i64 p.inn), .sl 4 (List.map eFil p.wait), .sl 5 (List.map eRec p.ours), .sl 5 (List.map eRec p.theirs)]) ⟨Cv.refl _, Cv.refl _, Cv.refl _, Cv.refl _, Cv.refl _, Cv.refl _, trivial⟩)) .nil), ?_⟩
  rfl
set_option maxHeartbeats 4000000 in
set_option maxRecDepth 100000 in
theorem ackR (p : Ptn) (seq : Int) (hp : okP p) : Ctr Try.prog 7 [.ag (ePt p), .fl (.int .i64 seq)] (.tu [.ag (ePt (akP p seq)), .fl (.int .i64 (akE p seq))]) := by
  refine ctr (n := 47) (rs := #[.cell 4 25, .tmp 5]) (L := [(0, .d (.ag (ePt p))), (1, .d (.fl (.int .i64 seq)))]) Try.func7 rfl rfl rfl rfl rfl (fun w0 U0 => ?_)
  refine a_rseq ?_
  refine rg_nam (d := 2) (v := .pt 101 0) (m := 101) (nw := [(101, .bx 25 (ePt p))]) rfl (og rfl (of_eff (op_box 101 rfl rfl rfl rfl) rfl)) rfl ?_
  refine rg_nam (d := 4) (v := .pt 102 0) (m := 102) (nw := [(102, .bx 25 ([.fl (.string (⟨#[]⟩)), .fl (.int .i64 0), .fl (.int .i64 0), .fl (.slice none 0 0), .fl (.slice none 0 0), .fl (.slice none 0 0)]))]) rfl (og rfl (of_eff (s_alloc 102 rfl ti25 (by kernel_rfl) rfl) rfl)) rfl ?_
  refine rg_put (d := 5) (v := .d (.fl (.int .i64 0))) rfl (og rfl (op_assign rfl rfl rfl)) ?_
  refine rg_done rfl ?_
  refine a_seq ?_
  refine a_rseq ?_
  refine rg_put (d := 8) (v := .d (.fl (.int .i64 seq))) rfl (og rfl (op_move rfl rfl rfl)) ?_
  refine rg_put (d := 9) (v := .d (.fl (.bool ((decide (seq < 0)))))) rfl (og rfl (op_bin rfl rfl rfl (b_lss _ _ _ _) rfl)) ?_
  refine rg_put (d := 10) (v := .d (.fl (.bool ((decide (seq < 0)))))) rfl (og rfl (op_move rfl rfl rfl)) ?_
  rcases fot ((decide (seq < 0))) with h1 | h1
  · skip
    have h2 := f_dec h1
    refine rg_put (d := 11) (v := .d (.fl (.int .i64 seq))) rfl (oy rfl rfl rfl h1 (op_move rfl rfl rfl)) ?_
    refine rg_put (d := 12) (v := .pt 101 1) rfl (oy rfl rfl rfl h1 (of_eff (s_field_pt rfl Try.underlying25 rfl ti3 rfl rfl rfl) rfl)) ?_
    refine rg_put (d := 13) (v := .d (.fl (.int .i64 p.out))) rfl (oy rfl rfl rfl h1 (op_load_pt rfl Try.underlying3 rfl rfl rfl rfl rfl)) ?_
    refine rg_put (d := 14) (v := .d (.fl (.bool ((decide (p.out ≤ seq)))))) rfl (oy rfl rfl rfl h1 (op_bin rfl rfl rfl (b_geq _ _ _ _) rfl)) ?_
    refine rg_put (d := 15) (v := .d (.fl (.bool ((decide (p.out ≤ seq)))))) rfl (og rfl (op_pick rfl rfl (by rw [h1]; rfl) rfl)) ?_
    refine rg_done rfl ?_
    refine a_cond rfl (fun h3 => ?_) (fun h3 => ?_)
    · skip
      have h4 := t_dec h3
      refine a_rseq ?_
      refine rg_put (d := 16) (v := .d (.ag (ePt p))) rfl (og rfl (of_eff (s_load_pts rfl Try.underlying25 rfl ti25 rfl rfl rfl rfl) rfl)) ?_
      refine rg_sto (nw := [(102, .bx 25 (ePt p))]) rfl (og rfl (of_eff (s_store rfl rfl ti25 rfl rfl rfl rfl rfl rfl) rfl)) ?_
      refine rg_put (d := 5) (v := .d (.fl (.int .i64 31))) rfl (og rfl (op_assign rfl rfl rfl)) ?_
      refine rg_done rfl ?_
      refine a_ret ?_
      show ∃ ds, ResL _ _ _ ds ∧ RV.of ds = _
      refine ⟨[.ag [.fl (.string p.name), .fl (.int .i64 p.out), .fl (.int .i64 p.inn), .sl 4 (List.map eFil p.wait), .sl 5 (List.map eRec p.ours), .sl 5 (List.map eRec p.theirs)], .fl (.int .i64 31)], (.cons (.cellT rfl rfl Try.underlying25 rfl ti25 rfl (Cv.ag (xs := [.fl (.string p.name), .fl (.int .i64 p.out), .fl (.int .i64 p.inn), .sl 4 (List.map eFil p.wait), .sl 5 (List.map eRec p.ours), .sl 5 (List.map eRec p.theirs)]) (ys := [.fl (.string p.name), .fl (.int .i64 p.out), .fl (.int .i64 p.inn), .sl 4 (List.map eFil p.wait), .sl 5 (List.map eRec p.ours), .sl 5 (List.map eRec p.theirs)]) ⟨Cv.refl _, Cv.refl _, Cv.refl _, Cv.refl _, Cv.refl _, Cv.refl _, trivial⟩)) (.cons (.tmp rfl (.d _)) .nil)), ?_⟩
      have hcd : (decide (seq < 0) || decide (p.out ≤ seq)) = true := by simp only [h1, h3, Bool.true_or, Bool.false_or, Bool.or_true, Bool.or_false, Bool.not_true, Bool.not_false, cond_true, cond_false, Bool.true_and, Bool.false_and, Bool.and_true, Bool.and_false] <;> rfl
      obtain ⟨hk1, hk2⟩ := ak_bad hcd
      rw [hk1, hk2]; rfl
    · skip
      have h5 := f_dec h3
      refine a_skip ?_
      show A _ _ _ _ _ _ _
      refine a_rseq ?_
      refine rg_put (d := 17) (v := .d (.ag (ePt p))) rfl (og rfl (of_eff (s_load_pts rfl Try.underlying25 rfl ti25 rfl rfl rfl rfl) rfl)) ?_
      refine rg_put (d := 18) (v := .d (.ag (ePt p))) rfl (og rfl (op_call rfl Try.func18 nm18 rfl (.cons rfl (.d _) .nil) (copR p hp) rfl)) ?_
      refine rg_nam (d := 6) (v := .pt 103 0) (m := 103) (nw := [(103, .bx 25 ([.fl (.string (⟨#[]⟩)), .fl (.int .i64 0), .fl (.int .i64 0), .fl (.slice none 0 0), .fl (.slice none 0 0), .fl (.slice none 0 0)]))]) rfl (og rfl (of_eff (s_alloc 103 rfl ti25 (by kernel_rfl) rfl) rfl)) rfl ?_
      refine rg_sto (nw := [(103, .bx 25 (ePt p))]) rfl (og rfl (of_eff (s_store rfl rfl ti25 rfl rfl rfl rfl rfl rfl) rfl)) ?_
      refine rg_done rfl ?_
      refine a_rseq ?_
      refine rg_imp (imp_bt 103 rfl) ?_
      refine rg_put (d := 19) (v := .pt 103 3) rfl (og rfl (of_eff (s_field_pt rfl Try.underlying25 rfl ti22 rfl rfl rfl) rfl)) ?_
      refine rg_sto (nw := [(103, .bt 25 [.dv (.fl (.string p.name)), .dv (.fl (.int .i64 p.out)), .dv (.fl (.int .i64 p.inn)), .dv (.fl (.slice none 0 0)), .dv (.sl 5 (List.map eRec p.ours)), .dv (.sl 5 (List.map eRec p.theirs))])]) rfl (og rfl (of_eff (op_store_bt rfl rfl ti22 rfl rfl rfl (.d rfl) rfl rfl rfl) rfl)) ?_
      refine rg_done rfl ?_
      refine a_seq ?_
      refine a_rseq ?_
      refine rg_imp (imp_btnil 103 3 37 4 rfl rfl) ?_
      refine rg_put (d := 7) (v := .d (.fl (.int .i64 0))) rfl (og rfl (op_assign rfl rfl rfl)) ?_
      refine rg_done rfl ?_
      refine a_block ?_
      refine a_loop (ι := Nat) (fun k => SS [(0, .d (.ag (ePt p))), (1, .d (.fl (.int .i64 seq))), (2, .pt 101 0), (4, .pt 102 0), (5, .d (.fl (.int .i64 0))), (6, .pt 103 0), (15, .d (.fl (.bool ((decide (p.out ≤ seq)))))), (7, .d (.fl (.int .i64 (k : Int))))] [(101, .bx 25 (ePt p)), (102, .bx 25 ([.fl (.string (⟨#[]⟩)), .fl (.int .i64 0), .fl (.int .i64 0), .fl (.slice none 0 0), .fl (.slice none 0 0), .fl (.slice none 0 0)])), (103, .bt 25 [.dv (.fl (.string p.name)), .dv (.fl (.int .i64 p.out)), .dv (.fl (.int .i64 p.inn)), .ow 37 4 (List.map eFil (dlF seq p.wait k)), .dv (.sl 5 (List.map eRec p.ours)), .dv (.sl 5 (List.map eRec p.theirs))])]) (fun k => k ≤ p.wait.length) (fun k => p.wait.length - k) 0 (by omega) (imp_forget rfl ⟨rfl, rfl, rfl, rfl, rfl, rfl, rfl, (by first | rfl | exact ci (by omega) | exact ci (by simp) | exact cd (by simp) | simp), trivial⟩ ⟨rfl, rfl, rfl, trivial⟩) (fun k hok => ?_)
      have hk := hok
      have hpw := hp.w
      have hdl := dlF_len seq p.wait k
      refine a_seq ?_
      refine a_rseq ?_
      refine rg_put (d := 20) (v := .d (.fl (.int .i64 (k : Int)))) rfl (og rfl (op_move rfl rfl rfl)) ?_
      refine rg_put (d := 21) (v := .pt 101 3) rfl (og rfl (of_eff (s_field_pt rfl Try.underlying25 rfl ti22 rfl rfl rfl) rfl)) ?_
      refine rg_put (d := 22) (v := .d (.sl 4 (List.map eFil p.wait))) rfl (og rfl (op_load_pt rfl Try.underlying22 rfl rfl rfl rfl rfl)) ?_
      refine rg_put (d := 23) (v := .d (.fl (.int .i64 (p.wait.length : Int)))) rfl (og rfl (s_len rfl Try.underlying22 rfl rfl)) ?_
      refine rg_put (d := 24) (v := .d (.fl (.bool ((decide ((k : Int) < (p.wait.length : Int))))))) rfl (og rfl (op_bin rfl rfl rfl (b_lss _ _ _ _) rfl)) ?_
      refine rg_done rfl ?_
      refine a_cond rfl (fun h6 => ?_) (fun h6 => ?_)
      · skip
        have h7 := t_dec h6
        refine a_skip ?_
        show A _ _ _ _ _ _ _
        refine a_seq ?_
        refine a_block ?_
        refine a_rseq ?_
        refine rg_put (d := 27) (v := .pt 101 3) rfl (og rfl (of_eff (s_field_pt rfl Try.underlying25 rfl ti22 rfl rfl rfl) rfl)) ?_
        refine rg_put (d := 28) (v := .d (.sl 4 (List.map eFil p.wait))) rfl (og rfl (op_load_pt rfl Try.underlying22 rfl rfl rfl rfl rfl)) ?_
        refine rg_put (d := 29) (v := .d (.fl (.int .i64 (k : Int)))) rfl (og rfl (op_move rfl rfl rfl)) ?_
        refine rg_put (d := 30) (v := .el ((eFil (ix p.wait k)))) rfl (og rfl (s_index rfl Try.underlying22 ti37 rfl rfl (by omega) (row_at (by omega)) rfl)) ?_
        refine rg_put (d := 31) (v := .el ((List.drop 2 ((eFil (ix p.wait k)))))) rfl (og rfl (of_eff (s_field_el rfl Try.underlying37 rfl ti3 rfl rfl rfl) rfl)) ?_
        refine rg_put (d := 32) (v := .d (.fl (.int .i64 ((ix p.wait k).seq)))) rfl (og rfl (op_load_el rfl Try.underlying3 rfl rfl rfl rfl)) ?_
        refine rg_put (d := 33) (v := .d (.fl (.int .i64 seq))) rfl (og rfl (op_move rfl rfl rfl)) ?_
        refine rg_put (d := 34) (v := .d (.fl (.bool ((decide (seq < (ix p.wait k).seq)))))) rfl (og rfl (op_bin rfl rfl rfl (b_gtr _ _ _ _) rfl)) ?_
        refine rg_done rfl ?_
        refine a_cond rfl (fun h8 => ?_) (fun h8 => ?_)
        · skip
          have h9 := t_dec h8
          refine a_draw (by kernel_rfl) ?_
          refine dr_put (d := 35) (v := .pt 103 3) rfl (og rfl (of_eff (s_field_pt rfl Try.underlying25 rfl ti22 rfl rfl rfl) rfl)) ?_
          refine dr_nam (d := 36) (v := .ow 104) (m := 104) (nw := [(104, .tr 37 4 (tD eFil (dlF seq p.wait k))), (103, .bt 25 [.dv (.fl (.string p.name)), .dv (.fl (.int .i64 p.out)), .dv (.fl (.int .i64 p.inn)), .un, .dv (.sl 5 (List.map eRec p.ours)), .dv (.sl 5 (List.map eRec p.theirs))])]) rfl (og rfl (of_eff (op_takeBt 104 rfl Try.underlying22 rfl rfl rfl rfl rfl rfl) rfl)) ?_
          refine dr_put (d := 37) (v := .pt 101 3) rfl (og rfl (of_eff (s_field_pt rfl Try.underlying25 rfl ti22 rfl rfl rfl) rfl)) ?_
          refine dr_put (d := 38) (v := .d (.sl 4 (List.map eFil p.wait))) rfl (og rfl (op_load_pt rfl Try.underlying22 rfl rfl rfl rfl rfl)) ?_
          refine dr_put (d := 39) (v := .d (.fl (.int .i64 (k : Int)))) rfl (og rfl (op_move rfl rfl rfl)) ?_
          refine dr_put (d := 40) (v := .d (.fl (.int .i64 (k : Int)))) rfl (og rfl (op_move rfl rfl rfl)) ?_
          refine dr_put (d := 41) (v := .d (.fl (.int .i64 (((k : Int) + 1))))) rfl (og rfl (op_bin rfl rfl rfl (fun x y w => b_add64 _ _ _ x y w (by omega)) rfl)) ?_
          refine dr_put (d := 42) (v := .d (.sl 4 (List.map eFil (((p.wait.drop k).take ((((k : Int) + 1)).toNat - k)))))) rfl (og rfl (s_slice rfl Try.underlying22 ti37 rfl (.so (n := k) _ rfl (by omega)) (.so (n := (((k : Int) + 1)).toNat) _ rfl (by omega)) (by omega) (by omega) rfl)) ?_
          refine dr_put (d := 43) (v := .d (.sl 4 (List.map eFil (((p.wait.drop k).take ((((k : Int) + 1)).toNat - k)))))) rfl (og rfl (op_call rfl Try.func19 nm19 rfl (.cons rfl (.d _) .nil) (filR (((p.wait.drop k).take ((((k : Int) + 1)).toNat - k))) (by simp only [List.length_take, List.length_drop]; have := hp.w; omega) (fun x hx => hp.r x (List.mem_of_mem_drop (List.mem_of_mem_take hx)))) rfl)) ?_
          refine dr_nam (d := 44) (v := .ow 105) (m := 105) (nw := [(105, .tr 37 4 (tD eFil (((dlF seq p.wait k) ++ ((p.wait.drop k).take ((((k : Int) + 1)).toNat - k)))))), (104, .no)]) rfl (og rfl (of_eff (s_append_td 105 rfl Try.underlying22 ti37 rfl rfl rfl rfl rfl (.d _) (by first | omega | (simp only [List.length_append, List.length_cons, List.length_nil]; omega) | (simp only [List.length_take, List.length_drop]; omega)) rfl) rfl)) ?_
          refine dr_put (d := 45) (v := .pt 103 3) rfl (og rfl (of_eff (s_field_pt rfl Try.underlying25 rfl ti22 rfl rfl rfl) rfl)) ?_
          refine dr_sto (nw := [(103, .bt 25 [.dv (.fl (.string p.name)), .dv (.fl (.int .i64 p.out)), .dv (.fl (.int .i64 p.inn)), .ow 37 4 (List.map eFil (((dlF seq p.wait k) ++ ((p.wait.drop k).take ((((k : Int) + 1)).toNat - k))))), .dv (.sl 5 (List.map eRec p.ours)), .dv (.sl 5 (List.map eRec p.theirs))]), (105, .no)]) rfl (og rfl (of_eff (op_store_bt rfl rfl ti22 rfl rfl rfl (.tr rfl) rfl rfl rfl) rfl)) ?_
          refine dr_done rfl (by kernel_rfl) (by kernel_rfl) ?_
          show A _ _ _ _ _ _ _
          refine a_region ?_
          refine rg_put (d := 25) (v := .d (.fl (.int .i64 (k : Int)))) rfl (og rfl (op_move rfl rfl rfl)) ?_
          refine rg_put (d := 26) (v := .d (.fl (.int .i64 (((k : Int) + 1))))) rfl (og rfl (op_bin rfl rfl rfl (fun x y w => b_add64 _ _ _ x y w (by omega)) rfl)) ?_
          refine rg_put (d := 7) (v := .d (.fl (.int .i64 (((k : Int) + 1))))) rfl (og rfl (op_assign rfl rfl rfl)) ?_
          refine rg_done rfl ?_
          have hpd : pd seq (ix p.wait k) = false := (show decide ((ix p.wait k).seq ≤ seq) = false from decide_eq_false (by have h := of_decide_eq_true h8; omega))
          have hst : ((dlF seq p.wait k) ++ ((p.wait.drop k).take ((((k : Int) + 1)).toNat - k))) = dlF seq p.wait (k + 1) := by rw [dlF_n (by omega) hpd, show (((k : Int) + 1)).toNat = k + 1 by omega, seg1 (by omega)]
          show ∃ i, _ ∧ _ ∧ Imp _ _ _ _ _
          refine ⟨k + 1, (by omega), by omega, imp_forget rfl ⟨rfl, rfl, rfl, rfl, rfl, rfl, rfl, (by first | rfl | exact ci (by omega) | exact ci (by simp) | exact cd (by simp) | simp), trivial⟩ ⟨rfl, rfl, (congrArg (fun z => Ob.bt 25 [.dv (.fl (.string p.name)), .dv (.fl (.int .i64 p.out)), .dv (.fl (.int .i64 p.inn)), .ow 37 4 (List.map eFil z), .dv (.sl 5 (List.map eRec p.ours)), .dv (.sl 5 (List.map eRec p.theirs))]) hst), trivial⟩⟩
        · skip
          have h10 := f_dec h8
          refine a_skip ?_
          show A _ _ _ _ _ _ _
          refine a_region ?_
          refine rg_put (d := 25) (v := .d (.fl (.int .i64 (k : Int)))) rfl (og rfl (op_move rfl rfl rfl)) ?_
          refine rg_put (d := 26) (v := .d (.fl (.int .i64 (((k : Int) + 1))))) rfl (og rfl (op_bin rfl rfl rfl (fun x y w => b_add64 _ _ _ x y w (by omega)) rfl)) ?_
          refine rg_put (d := 7) (v := .d (.fl (.int .i64 (((k : Int) + 1))))) rfl (og rfl (op_assign rfl rfl rfl)) ?_
          refine rg_done rfl ?_
          have hpd : pd seq (ix p.wait k) = true := (show decide ((ix p.wait k).seq ≤ seq) = true from decide_eq_true (by have h := of_decide_eq_false h8; omega))
          have hst : (dlF seq p.wait k) = dlF seq p.wait (k + 1) := (dlF_y (by omega) hpd).symm
          show ∃ i, _ ∧ _ ∧ Imp _ _ _ _ _
          refine ⟨k + 1, (by omega), by omega, imp_forget rfl ⟨rfl, rfl, rfl, rfl, rfl, rfl, rfl, (by first | rfl | exact ci (by omega) | exact ci (by simp) | exact cd (by simp) | simp), trivial⟩ ⟨rfl, rfl, (congrArg (fun z => Ob.bt 25 [.dv (.fl (.string p.name)), .dv (.fl (.int .i64 p.out)), .dv (.fl (.int .i64 p.inn)), .ow 37 4 (List.map eFil z), .dv (.sl 5 (List.map eRec p.ours)), .dv (.sl 5 (List.map eRec p.theirs))]) hst), trivial⟩⟩
      · skip
        have h11 := f_dec h6
        refine a_exit ?_
        show A _ _ _ _ _ _ _
        refine a_rseq ?_
        rw [show (dlF seq p.wait k) = (dlF seq p.wait p.wait.length) from (by rw [show k = p.wait.length by omega])]
        refine rg_imp (imp_leakBt 103 (ds := [.fl (.string p.name), .fl (.int .i64 p.out), .fl (.int .i64 p.inn), .sl 4 (List.map eFil (dlF seq p.wait p.wait.length)), .sl 5 (List.map eRec p.ours), .sl 5 (List.map eRec p.theirs)]) rfl rfl rfl) ?_
        refine rg_put (d := 46) (v := .d (.ag (ePt ((Ptn.mk p.name p.out p.inn (dlF seq p.wait p.wait.length) p.ours p.theirs))))) rfl (og rfl (of_eff (s_load_pts rfl Try.underlying25 rfl ti25 rfl rfl rfl rfl) rfl)) ?_
        refine rg_sto (nw := [(102, .bx 25 ((ePt ((Ptn.mk p.name p.out p.inn (dlF seq p.wait p.wait.length) p.ours p.theirs)))))]) rfl (og rfl (of_eff (s_store rfl rfl ti25 rfl rfl rfl rfl rfl rfl) rfl)) ?_
        refine rg_put (d := 5) (v := .d (.fl (.int .i64 0))) rfl (og rfl (op_assign rfl rfl rfl)) ?_
        refine rg_done rfl ?_
        refine a_ret ?_
        show ∃ ds, ResL _ _ _ ds ∧ RV.of ds = _
        refine ⟨[.ag [.fl (.string ((Ptn.mk p.name p.out p.inn (dlF seq p.wait p.wait.length) p.ours p.theirs).name)), .fl (.int .i64 ((Ptn.mk p.name p.out p.inn (dlF seq p.wait p.wait.length) p.ours p.theirs).out)), .fl (.int .i64 ((Ptn.mk p.name p.out p.inn (dlF seq p.wait p.wait.length) p.ours p.theirs).inn)), .sl 4 (List.map eFil ((Ptn.mk p.name p.out p.inn (dlF seq p.wait p.wait.length) p.ours p.theirs).wait)), .sl 5 (List.map eRec ((Ptn.mk p.name p.out p.inn (dlF seq p.wait p.wait.length) p.ours p.theirs).ours)), .sl 5 (List.map eRec ((Ptn.mk p.name p.out p.inn (dlF seq p.wait p.wait.length) p.ours p.theirs).theirs))], .fl (.int .i64 0)], (.cons (.cellT rfl rfl Try.underlying25 rfl ti25 rfl (Cv.ag (xs := [.fl (.string ((Ptn.mk p.name p.out p.inn (dlF seq p.wait p.wait.length) p.ours p.theirs).name)), .fl (.int .i64 ((Ptn.mk p.name p.out p.inn (dlF seq p.wait p.wait.length) p.ours p.theirs).out)), .fl (.int .i64 ((Ptn.mk p.name p.out p.inn (dlF seq p.wait p.wait.length) p.ours p.theirs).inn)), .sl 4 (List.map eFil ((Ptn.mk p.name p.out p.inn (dlF seq p.wait p.wait.length) p.ours p.theirs).wait)), .sl 5 (List.map eRec ((Ptn.mk p.name p.out p.inn (dlF seq p.wait p.wait.length) p.ours p.theirs).ours)), .sl 5 (List.map eRec ((Ptn.mk p.name p.out p.inn (dlF seq p.wait p.wait.length) p.ours p.theirs).theirs))]) (ys := [.fl (.string ((Ptn.mk p.name p.out p.inn (dlF seq p.wait p.wait.length) p.ours p.theirs).name)), .fl (.int .i64 ((Ptn.mk p.name p.out p.inn (dlF seq p.wait p.wait.length) p.ours p.theirs).out)), .fl (.int .i64 ((Ptn.mk p.name p.out p.inn (dlF seq p.wait p.wait.length) p.ours p.theirs).inn)), .sl 4 (List.map eFil ((Ptn.mk p.name p.out p.inn (dlF seq p.wait p.wait.length) p.ours p.theirs).wait)), .sl 5 (List.map eRec ((Ptn.mk p.name p.out p.inn (dlF seq p.wait p.wait.length) p.ours p.theirs).ours)), .sl 5 (List.map eRec ((Ptn.mk p.name p.out p.inn (dlF seq p.wait p.wait.length) p.ours p.theirs).theirs))]) ⟨Cv.refl _, Cv.refl _, Cv.refl _, Cv.refl _, Cv.refl _, Cv.refl _, trivial⟩)) (.cons (.tmp rfl (.d _)) .nil)), ?_⟩
        have hcd : (decide (seq < 0) || decide (p.out ≤ seq)) = false := by simp only [h1, h3, h6, Bool.true_or, Bool.false_or, Bool.or_true, Bool.or_false, Bool.not_true, Bool.not_false, cond_true, cond_false, Bool.true_and, Bool.false_and, Bool.and_true, Bool.and_false] <;> rfl
        obtain ⟨hk1, hk2⟩ := ak_ok hcd
        rw [hk1, hk2]; rfl
  · skip
    have h12 := t_dec h1
    refine rg_put (d := 11) (v := .d (.fl undef)) rfl (on rfl rfl rfl h1) ?_
    refine rg_put (d := 12) (v := .d (.fl undef)) rfl (on rfl rfl rfl h1) ?_
    refine rg_put (d := 13) (v := .d (.fl undef)) rfl (on rfl rfl rfl h1) ?_
    refine rg_put (d := 14) (v := .d (.fl undef)) rfl (on rfl rfl rfl h1) ?_
    refine rg_put (d := 15) (v := .d (.fl (.bool true))) rfl (og rfl (op_pick rfl rfl (by rw [h1]; rfl) rfl)) ?_
    refine rg_done rfl ?_
    refine a_condK rfl rfl ?_
    refine a_rseq ?_
    refine rg_put (d := 16) (v := .d (.ag (ePt p))) rfl (og rfl (of_eff (s_load_pts rfl Try.underlying25 rfl ti25 rfl rfl rfl rfl) rfl)) ?_
    refine rg_sto (nw := [(102, .bx 25 (ePt p))]) rfl (og rfl (of_eff (s_store rfl rfl ti25 rfl rfl rfl rfl rfl rfl) rfl)) ?_
    refine rg_put (d := 5) (v := .d (.fl (.int .i64 31))) rfl (og rfl (op_assign rfl rfl rfl)) ?_
    refine rg_done rfl ?_
    refine a_ret ?_
    show ∃ ds, ResL _ _ _ ds ∧ RV.of ds = _
    refine ⟨[.ag [.fl (.string p.name), .fl (.int .i64 p.out), .fl (.int .i64 p.inn), .sl 4 (List.map eFil p.wait), .sl 5 (List.map eRec p.ours), .sl 5 (List.map eRec p.theirs)], .fl (.int .i64 31)], (.cons (.cellT rfl rfl Try.underlying25 rfl ti25 rfl (Cv.ag (xs := [.fl (.string p.name), .fl (.int .i64 p.out), .fl (.int .i64 p.inn), .sl 4 (List.map eFil p.wait), .sl 5 (List.map eRec p.ours), .sl 5 (List.map eRec p.theirs)]) (ys := [.fl (.string p.name), .fl (.int .i64 p.out), .fl (.int .i64 p.inn), .sl 4 (List.map eFil p.wait), .sl 5 (List.map eRec p.ours), .sl 5 (List.map eRec p.theirs)]) ⟨Cv.refl _, Cv.refl _, Cv.refl _, Cv.refl _, Cv.refl _, Cv.refl _, trivial⟩)) (.cons (.tmp rfl (.d _)) .nil)), ?_⟩
    have hcd : (decide (seq < 0) || decide (p.out ≤ seq)) = true := by simp only [h1, Bool.true_or, Bool.false_or, Bool.or_true, Bool.or_false, Bool.not_true, Bool.not_false, cond_true, cond_false, Bool.true_and, Bool.false_and, Bool.and_true, Bool.and_false] <;> rfl
    obtain ⟨hk1, hk2⟩ := ak_bad hcd
    rw [hk1, hk2]; rfl
end Go.Proofs.Ytaghifpmcjgopaa.Wk
