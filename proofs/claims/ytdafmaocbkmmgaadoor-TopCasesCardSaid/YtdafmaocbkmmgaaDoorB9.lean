/- A case advances. No condition. -/
import Derived.Test.YtdafmaocbkmmgaaDoorB4
set_option linter.unusedSimpArgs false
set_option linter.unusedVariables false
namespace Go.Proofs.YtdafmaocbkmmgaaDoor.Wk
open Go Go.RowKit Go.Proofs.YtdafmaocbkmmgaaDoor.Av
set_option maxHeartbeats 4000000 in
set_option maxRecDepth 100000 in
theorem adv17 (w : Lw) (cal : List Int) (x : Cs) (day : Int) (hl0 : cal.length < 9223372036854775807) : Ctr Tryd.prog 7 [.ag (eLw w), .sl 1 (List.map (rI .i64) cal), .ag (eCs x), .fl (.int .i64 day)] (.tu [.ag (eCs (adv w cal x day).1), .fl (.int .i64 (adv w cal x day).2)]) := by
  refine ctr (n := 49) (rs := #[.cell 8 32, .tmp 9]) (L := [(0, .d (.ag (eLw w))), (1, .d (.sl 1 (List.map (rI .i64) cal))), (2, .d (.ag (eCs x))), (3, .d (.fl (.int .i64 day)))]) Tryd.func7 rfl rfl rfl rfl rfl (fun w0 U0 => ?_)
  refine a_rseq ?_
  refine rg_nam (d := 4) (v := .pt 101 0) (m := 101) (nw := [(101, .bx 24 (eLw w))]) rfl (og rfl (of_eff (op_box 101 rfl rfl rfl rfl) rfl)) rfl ?_
  refine rg_nam (d := 6) (v := .pt 102 0) (m := 102) (nw := [(102, .bx 32 (eCs x))]) rfl (og rfl (of_eff (op_box 102 rfl rfl rfl rfl) rfl)) rfl ?_
  refine rg_nam (d := 8) (v := .pt 103 0) (m := 103) (nw := [(103, .bx 32 ([.fl (.string (⟨#[]⟩)), .fl (.string (⟨#[]⟩)), .fl (.string (⟨#[]⟩)), .fl (.int .i64 0), .fl (.int .i64 0), .fl (.int .i64 0), .fl (.int .i64 0), .fl (.int .i64 0), .fl (.int .i64 0), .fl (.int .i64 0), .fl (.int .i64 0), .fl (.int .i64 0)]))]) rfl (og rfl (of_eff (s_alloc 103 rfl ti32 (by kernel_rfl) rfl) rfl)) rfl ?_
  refine rg_put (d := 9) (v := .d (.fl (.int .i64 0))) rfl (og rfl (op_assign rfl rfl rfl)) ?_
  refine rg_done rfl ?_
  refine a_seq ?_
  refine a_rseq ?_
  refine rg_put (d := 12) (v := .d (.ag (eLw w))) rfl (og rfl (of_eff (s_load_pts rfl Tryd.underlying24 rfl ti24 rfl rfl rfl rfl) rfl)) ?_
  refine rg_put (d := 13) (v := .d (.ag (eCs x))) rfl (og rfl (of_eff (s_load_pts rfl Tryd.underlying32 rfl ti32 rfl rfl rfl rfl) rfl)) ?_
  refine rg_put (d := 14) (v := .d (.fl (.int .i64 day))) rfl (og rfl (op_move rfl rfl rfl)) ?_
  refine rg_put (d := 15) (v := .d (.fl (.int .i64 (chA w x day)))) rfl (og rfl (op_call rfl Tryd.func17 nm17 rfl (.cons rfl (.d _) (.cons rfl (.d _) (.cons rfl (.d _) .nil))) (chA34 w x day) rfl)) ?_
  refine rg_put (d := 10) (v := .d (.fl (.int .i64 (chA w x day)))) rfl (og rfl (op_assign rfl rfl rfl)) ?_
  refine rg_done rfl ?_
  refine a_rseq ?_
  refine rg_put (d := 16) (v := .d (.fl (.int .i64 (chA w x day)))) rfl (og rfl (op_move rfl rfl rfl)) ?_
  refine rg_put (d := 17) (v := .d (.fl (.bool (((chA w x day) != 0))))) rfl (og rfl (op_bin rfl rfl rfl (b_neq _ _ _ _) rfl)) ?_
  refine rg_done rfl ?_
  refine a_cond rfl (fun h1 => ?_) (fun h1 => ?_)
  · skip
    have h2 := t_bne h1
    refine a_rseq ?_
    refine rg_put (d := 18) (v := .d (.ag (eCs ((Cs.mk (⟨#[]⟩) (⟨#[]⟩) (⟨#[]⟩) 0 0 0 0 0 0 (Ap.mk 0 0 0)))))) rfl (og rfl (of_eff (op_build rfl Tryd.underlying32 ti32 rfl (by kernel_rfl) (by kernel_rfl) (pl := #[(0, 1), (1, 1), (2, 1), (3, 1), (4, 1), (5, 1), (6, 1), (7, 1), (8, 1), (9, 3)]) (by kernel_rfl) .nil rfl) rfl)) ?_
    refine rg_put (d := 19) (v := .d (.fl (.int .i64 (chA w x day)))) rfl (og rfl (op_move rfl rfl rfl)) ?_
    refine rg_sto (nw := [(103, .bx 32 ((eCs ((Cs.mk (⟨#[]⟩) (⟨#[]⟩) (⟨#[]⟩) 0 0 0 0 0 0 (Ap.mk 0 0 0))))))]) rfl (og rfl (of_eff (s_store rfl rfl ti32 rfl rfl rfl rfl rfl rfl) rfl)) ?_
    refine rg_put (d := 9) (v := .d (.fl (.int .i64 (chA w x day)))) rfl (og rfl (op_assign rfl rfl rfl)) ?_
    refine rg_done rfl ?_
    refine a_ret ?_
    show ∃ ds, ResL _ _ _ ds ∧ RV.of ds = _
    refine ⟨[.ag [.fl (.string (⟨#[]⟩)), .fl (.string (⟨#[]⟩)), .fl (.string (⟨#[]⟩)), .fl (.int .i64 (0)), .fl (.int .i64 (0)), .fl (.int .i64 (0)), .fl (.int .i64 (0)), .fl (.int .i64 (0)), .fl (.int .i64 (0)), .fl (.int .i64 (0)), .fl (.int .i64 (0)), .fl (.int .i64 (0))], .fl (.int .i64 (chA w x day))], (.cons (.cellT rfl rfl Tryd.underlying32 rfl ti32 rfl (Cv.ag (xs := [.fl (.string (⟨#[]⟩)), .fl (.string (⟨#[]⟩)), .fl (.string (⟨#[]⟩)), .fl (.int .i64 (0)), .fl (.int .i64 (0)), .fl (.int .i64 (0)), .fl (.int .i64 (0)), .fl (.int .i64 (0)), .fl (.int .i64 (0)), .fl (.int .i64 (0)), .fl (.int .i64 (0)), .fl (.int .i64 (0))]) (ys := [.fl (.string (⟨#[]⟩)), .fl (.string (⟨#[]⟩)), .fl (.string (⟨#[]⟩)), .fl (.int .i64 (0)), .fl (.int .i64 (0)), .fl (.int .i64 (0)), .fl (.int .i64 (0)), .fl (.int .i64 (0)), .fl (.int .i64 (0)), .fl (.int .i64 (0)), .fl (.int .i64 (0)), .fl (.int .i64 (0))]) ⟨Cv.refl _, Cv.refl _, Cv.refl _, Cv.refl _, Cv.refl _, Cv.refl _, Cv.refl _, Cv.refl _, Cv.refl _, Cv.refl _, Cv.refl _, Cv.refl _, trivial⟩)) (.cons (.tmp rfl (.d _)) .nil)), ?_⟩
    have hu : adv w cal x day = (z0, (chA w x day)) := by
      unfold adv; simp only [h1]; rfl
    rw [hu]; rfl
  · skip
    have h3 := f_bne h1
    refine a_skip ?_
    show A _ _ _ _ _ _ _
    refine a_seq ?_
    refine a_rseq ?_
    refine rg_put (d := 20) (v := .pt 102 9) rfl (og rfl (of_eff (s_field_pt rfl Tryd.underlying32 rfl ti30 rfl rfl rfl) rfl)) ?_
    refine rg_put (d := 21) (v := .pt 102 9) rfl (og rfl (of_eff (s_field_pt rfl Tryd.underlying30 rfl ti3 rfl rfl rfl) rfl)) ?_
    refine rg_put (d := 22) (v := .d (.fl (.int .i64 x.ap.state))) rfl (og rfl (op_load_pt rfl Tryd.underlying3 rfl rfl rfl rfl rfl)) ?_
    refine rg_put (d := 23) (v := .d (.fl (.bool (x.ap.state == 1)))) rfl (og rfl (op_bin rfl rfl rfl (b_eql _ _ _ _) rfl)) ?_
    refine rg_done rfl ?_
    refine a_cond rfl (fun h4 => ?_) (fun h4 => ?_)
    · skip
      have h5 := t_beq h4
      refine a_rseq ?_
      refine rg_put (d := 24) (v := .d (.ag (eCs x))) rfl (og rfl (of_eff (s_load_pts rfl Tryd.underlying32 rfl ti32 rfl rfl rfl rfl) rfl)) ?_
      refine rg_sto (nw := [(103, .bx 32 (eCs x))]) rfl (og rfl (of_eff (s_store rfl rfl ti32 rfl rfl rfl rfl rfl rfl) rfl)) ?_
      refine rg_put (d := 9) (v := .d (.fl (.int .i64 0))) rfl (og rfl (op_assign rfl rfl rfl)) ?_
      refine rg_done rfl ?_
      refine a_ret ?_
      show ∃ ds, ResL _ _ _ ds ∧ RV.of ds = _
      refine ⟨[.ag [.fl (.string x.id), .fl (.string x.plate), .fl (.string x.key), .fl (.int .i64 x.begun), .fl (.int .i64 x.since), .fl (.int .i64 x.stage), .fl (.int .i64 x.owed), .fl (.int .i64 x.paid), .fl (.int .i64 x.paused), .fl (.int .i64 x.ap.state), .fl (.int .i64 x.ap.ground), .fl (.int .i64 x.ap.day)], .fl (.int .i64 0)], (.cons (.cellT rfl rfl Tryd.underlying32 rfl ti32 rfl (Cv.ag (xs := [.fl (.string x.id), .fl (.string x.plate), .fl (.string x.key), .fl (.int .i64 x.begun), .fl (.int .i64 x.since), .fl (.int .i64 x.stage), .fl (.int .i64 x.owed), .fl (.int .i64 x.paid), .fl (.int .i64 x.paused), .fl (.int .i64 x.ap.state), .fl (.int .i64 x.ap.ground), .fl (.int .i64 x.ap.day)]) (ys := [.fl (.string x.id), .fl (.string x.plate), .fl (.string x.key), .fl (.int .i64 x.begun), .fl (.int .i64 x.since), .fl (.int .i64 x.stage), .fl (.int .i64 x.owed), .fl (.int .i64 x.paid), .fl (.int .i64 x.paused), .fl (.int .i64 x.ap.state), .fl (.int .i64 x.ap.ground), .fl (.int .i64 x.ap.day)]) ⟨Cv.refl _, Cv.refl _, Cv.refl _, Cv.refl _, Cv.refl _, Cv.refl _, Cv.refl _, Cv.refl _, Cv.refl _, Cv.refl _, Cv.refl _, Cv.refl _, trivial⟩)) (.cons (.tmp rfl (.d _)) .nil)), ?_⟩
      have hu : adv w cal x day = (x, 0) := by
        unfold adv; simp only [h1, h4]; rfl
      rw [hu]; rfl
    · skip
      have h6 := f_beq h4
      refine a_skip ?_
      show A _ _ _ _ _ _ _
      refine a_rseq ?_
      obtain ⟨hokx, hday, hsin⟩ := chA_ok (f_bne h1)
      obtain ⟨c1, c2, c3, c4, c5, c6⟩ := ckL_ok hokx.c
      refine rg_put (d := 25) (v := .d (.ag (eLw w))) rfl (og rfl (of_eff (s_load_pts rfl Tryd.underlying24 rfl ti24 rfl rfl rfl rfl) rfl)) ?_
      refine rg_put (d := 26) (v := .d (.sl 1 (List.map (rI .i64) cal))) rfl (og rfl (op_move rfl rfl rfl)) ?_
      refine rg_put (d := 27) (v := .d (.ag (eCs x))) rfl (og rfl (of_eff (s_load_pts rfl Tryd.underlying32 rfl ti32 rfl rfl rfl rfl) rfl)) ?_
      refine rg_put (d := 28) (v := .d (.fl (.int .i64 day))) rfl (og rfl (op_move rfl rfl rfl)) ?_
      refine rg_put (d := 29) (v := .d (.ag (ePu (Pu.mk w cal x day)))) rfl (og rfl (of_eff (op_build rfl Tryd.underlying50 ti50 rfl (by kernel_rfl) (by kernel_rfl) (pl := #[(0, 3), (3, 1), (4, 12), (16, 1)]) (by kernel_rfl) (.cons rfl rfl (.d _) rfl rfl rfl (.cons rfl rfl (.d _) rfl rfl rfl (.cons rfl rfl (.d _) rfl rfl rfl (.cons rfl rfl (.d _) rfl rfl rfl .nil)))) rfl) rfl)) ?_
      refine rg_nam (d := 11) (v := .pt 104 0) (m := 104) (nw := [(104, .bx 50 ([.fl (.slice none 0 0), .fl (.slice none 0 0), .fl (.int .i64 0), .fl (.slice none 0 0), .fl (.string (⟨#[]⟩)), .fl (.string (⟨#[]⟩)), .fl (.string (⟨#[]⟩)), .fl (.int .i64 0), .fl (.int .i64 0), .fl (.int .i64 0), .fl (.int .i64 0), .fl (.int .i64 0), .fl (.int .i64 0), .fl (.int .i64 0), .fl (.int .i64 0), .fl (.int .i64 0), .fl (.int .i64 0)]))]) rfl (og rfl (of_eff (s_alloc 104 rfl ti50 (by kernel_rfl) rfl) rfl)) rfl ?_
      refine rg_sto (nw := [(104, .bx 50 ((ePu (Pu.mk w cal x day))))]) rfl (og rfl (of_eff (s_store rfl rfl ti50 rfl rfl rfl rfl rfl rfl) rfl)) ?_
      refine rg_done rfl ?_
      refine a_seq ?_
      refine a_rseq ?_
      refine rg_put (d := 30) (v := .pt 102 5) rfl (og rfl (of_eff (s_field_pt rfl Tryd.underlying32 rfl ti3 rfl rfl rfl) rfl)) ?_
      refine rg_put (d := 31) (v := .d (.fl (.int .i64 x.stage))) rfl (og rfl (op_load_pt rfl Tryd.underlying3 rfl rfl rfl rfl rfl)) ?_
      refine rg_done rfl ?_
      refine a_block ?_
      refine a_seq ?_
      refine a_block ?_
      refine a_seq ?_
      refine a_block ?_
      refine a_seq ?_
      refine a_block ?_
      refine a_seq ?_
      refine a_block ?_
      refine a_seq ?_
      refine a_seq ?_
      refine a_rseq ?_
      refine rg_put (d := 33) (v := .d (.fl (.bool (x.stage == 1)))) rfl (og rfl (op_bin rfl rfl rfl (b_eql _ _ _ _) rfl)) ?_
      refine rg_put (d := 32) (v := .d (.fl (.bool (x.stage == 1)))) rfl (og rfl (op_assign rfl rfl rfl)) ?_
      refine rg_done rfl ?_
      refine a_cond rfl (fun h7 => ?_) (fun h7 => ?_)
      · skip
        have h8 := t_beq h7
        refine a_exit ?_
        show A _ _ _ _ _ _ _
        refine a_rseq ?_
        refine rg_upd (d := 40) (v := .d (.fl (.bool ((nx w cal x day).2)))) (nw := [(104, .bx 50 ((ePu (Pu.mk w cal (nx w cal x day).1 day))))]) rfl (og rfl (of_eff (op_callM .p (m := 104) (ob := .bx 50 ((ePu (Pu.mk w cal x day)))) (ob' := .bx 50 ((ePu (Pu.mk w cal (nx w cal x day).1 day)))) (r := .d (.fl (.bool ((nx w cal x day).2)))) rfl Tryd.func18 nm18 rfl rfl rfl rfl rfl rfl .nil (next35 w cal x day hokx ⟨c6, c5⟩ hl0) rfl) rfl)) ?_
        refine rg_put (d := 41) (v := .d (.fl (.bool ((!((nx w cal x day).2)))))) rfl (og rfl (op_un rfl rfl (u_not _) rfl)) ?_
        refine rg_done rfl ?_
        refine a_cond rfl (fun h9 => ?_) (fun h9 => ?_)
        · skip
          have h10 := t_not h9
          refine a_exit ?_
          show A _ _ _ _ _ _ _
          refine a_rseq ?_
          refine rg_put (d := 47) (v := .pt 104 4) rfl (og rfl (of_eff (s_field_pt rfl Tryd.underlying50 rfl ti32 rfl rfl rfl) rfl)) ?_
          refine rg_put (d := 48) (v := .d (.ag (eCs ((Cs.mk (((nx w cal x day).1).id) (((nx w cal x day).1).plate) (((nx w cal x day).1).key) (((nx w cal x day).1).begun) (((nx w cal x day).1).since) (((nx w cal x day).1).stage) (((nx w cal x day).1).owed) (((nx w cal x day).1).paid) (((nx w cal x day).1).paused) ((Ap.mk ((((nx w cal x day).1).ap).state) ((((nx w cal x day).1).ap).ground) ((((nx w cal x day).1).ap).day)))))))) rfl (og rfl (of_eff (s_load_pts rfl Tryd.underlying32 rfl ti32 rfl rfl rfl rfl) rfl)) ?_
          refine rg_sto (nw := [(103, .bx 32 ((eCs ((Cs.mk (((nx w cal x day).1).id) (((nx w cal x day).1).plate) (((nx w cal x day).1).key) (((nx w cal x day).1).begun) (((nx w cal x day).1).since) (((nx w cal x day).1).stage) (((nx w cal x day).1).owed) (((nx w cal x day).1).paid) (((nx w cal x day).1).paused) ((Ap.mk ((((nx w cal x day).1).ap).state) ((((nx w cal x day).1).ap).ground) ((((nx w cal x day).1).ap).day))))))))]) rfl (og rfl (of_eff (s_store rfl rfl ti32 rfl rfl rfl rfl rfl rfl) rfl)) ?_
          refine rg_put (d := 9) (v := .d (.fl (.int .i64 0))) rfl (og rfl (op_assign rfl rfl rfl)) ?_
          refine rg_done rfl ?_
          refine a_ret ?_
          show ∃ ds, ResL _ _ _ ds ∧ RV.of ds = _
          refine ⟨[.ag [.fl (.string (((nx w cal x day).1).id)), .fl (.string (((nx w cal x day).1).plate)), .fl (.string (((nx w cal x day).1).key)), .fl (.int .i64 (((nx w cal x day).1).begun)), .fl (.int .i64 (((nx w cal x day).1).since)), .fl (.int .i64 (((nx w cal x day).1).stage)), .fl (.int .i64 (((nx w cal x day).1).owed)), .fl (.int .i64 (((nx w cal x day).1).paid)), .fl (.int .i64 (((nx w cal x day).1).paused)), .fl (.int .i64 ((((nx w cal x day).1).ap).state)), .fl (.int .i64 ((((nx w cal x day).1).ap).ground)), .fl (.int .i64 ((((nx w cal x day).1).ap).day))], .fl (.int .i64 0)], (.cons (.cellT rfl rfl Tryd.underlying32 rfl ti32 rfl (Cv.ag (xs := [.fl (.string (((nx w cal x day).1).id)), .fl (.string (((nx w cal x day).1).plate)), .fl (.string (((nx w cal x day).1).key)), .fl (.int .i64 (((nx w cal x day).1).begun)), .fl (.int .i64 (((nx w cal x day).1).since)), .fl (.int .i64 (((nx w cal x day).1).stage)), .fl (.int .i64 (((nx w cal x day).1).owed)), .fl (.int .i64 (((nx w cal x day).1).paid)), .fl (.int .i64 (((nx w cal x day).1).paused)), .fl (.int .i64 ((((nx w cal x day).1).ap).state)), .fl (.int .i64 ((((nx w cal x day).1).ap).ground)), .fl (.int .i64 ((((nx w cal x day).1).ap).day))]) (ys := [.fl (.string (((nx w cal x day).1).id)), .fl (.string (((nx w cal x day).1).plate)), .fl (.string (((nx w cal x day).1).key)), .fl (.int .i64 (((nx w cal x day).1).begun)), .fl (.int .i64 (((nx w cal x day).1).since)), .fl (.int .i64 (((nx w cal x day).1).stage)), .fl (.int .i64 (((nx w cal x day).1).owed)), .fl (.int .i64 (((nx w cal x day).1).paid)), .fl (.int .i64 (((nx w cal x day).1).paused)), .fl (.int .i64 ((((nx w cal x day).1).ap).state)), .fl (.int .i64 ((((nx w cal x day).1).ap).ground)), .fl (.int .i64 ((((nx w cal x day).1).ap).day))]) ⟨Cv.refl _, Cv.refl _, Cv.refl _, Cv.refl _, Cv.refl _, Cv.refl _, Cv.refl _, Cv.refl _, Cv.refl _, Cv.refl _, Cv.refl _, Cv.refl _, trivial⟩)) (.cons (.tmp rfl (.d _)) .nil)), ?_⟩
          have hu : adv w cal x day = (((Cs.mk (((nx w cal x day).1).id) (((nx w cal x day).1).plate) (((nx w cal x day).1).key) (((nx w cal x day).1).begun) (((nx w cal x day).1).since) (((nx w cal x day).1).stage) (((nx w cal x day).1).owed) (((nx w cal x day).1).paid) (((nx w cal x day).1).paused) ((Ap.mk ((((nx w cal x day).1).ap).state) ((((nx w cal x day).1).ap).ground) ((((nx w cal x day).1).ap).day))))), 0) := by
            unfold adv sw; simp only [it, ite_self, h1, h4, h7, h9, h10]; rfl
          rw [hu]; rfl
        · skip
          have h11 := f_not h9
          refine a_skip ?_
          show A _ _ _ _ _ _ _
          refine a_rseq ?_
          refine rg_upd (d := 42) (v := .d (.fl (.bool ((nx w cal (nx w cal x day).1 day).2)))) (nw := [(104, .bx 50 ((ePu (Pu.mk w cal (nx w cal (nx w cal x day).1 day).1 day))))]) rfl (og rfl (of_eff (op_callM .p (m := 104) (ob := .bx 50 ((ePu (Pu.mk w cal (nx w cal x day).1 day)))) (ob' := .bx 50 ((ePu (Pu.mk w cal (nx w cal (nx w cal x day).1 day).1 day)))) (r := .d (.fl (.bool ((nx w cal (nx w cal x day).1 day).2)))) rfl Tryd.func18 nm18 rfl rfl rfl rfl rfl rfl .nil (next35 w cal ((nx w cal x day).1) day (nx_ok hokx) ⟨c6, c5⟩ hl0) rfl) rfl)) ?_
          refine rg_put (d := 43) (v := .d (.fl (.bool ((!((nx w cal (nx w cal x day).1 day).2)))))) rfl (og rfl (op_un rfl rfl (u_not _) rfl)) ?_
          refine rg_done rfl ?_
          refine a_cond rfl (fun h12 => ?_) (fun h12 => ?_)
          · skip
            have h13 := t_not h12
            refine a_exit ?_
            show A _ _ _ _ _ _ _
            refine a_rseq ?_
            refine rg_put (d := 47) (v := .pt 104 4) rfl (og rfl (of_eff (s_field_pt rfl Tryd.underlying50 rfl ti32 rfl rfl rfl) rfl)) ?_
            refine rg_put (d := 48) (v := .d (.ag (eCs ((Cs.mk (((nx w cal (nx w cal x day).1 day).1).id) (((nx w cal (nx w cal x day).1 day).1).plate) (((nx w cal (nx w cal x day).1 day).1).key) (((nx w cal (nx w cal x day).1 day).1).begun) (((nx w cal (nx w cal x day).1 day).1).since) (((nx w cal (nx w cal x day).1 day).1).stage) (((nx w cal (nx w cal x day).1 day).1).owed) (((nx w cal (nx w cal x day).1 day).1).paid) (((nx w cal (nx w cal x day).1 day).1).paused) ((Ap.mk ((((nx w cal (nx w cal x day).1 day).1).ap).state) ((((nx w cal (nx w cal x day).1 day).1).ap).ground) ((((nx w cal (nx w cal x day).1 day).1).ap).day)))))))) rfl (og rfl (of_eff (s_load_pts rfl Tryd.underlying32 rfl ti32 rfl rfl rfl rfl) rfl)) ?_
            refine rg_sto (nw := [(103, .bx 32 ((eCs ((Cs.mk (((nx w cal (nx w cal x day).1 day).1).id) (((nx w cal (nx w cal x day).1 day).1).plate) (((nx w cal (nx w cal x day).1 day).1).key) (((nx w cal (nx w cal x day).1 day).1).begun) (((nx w cal (nx w cal x day).1 day).1).since) (((nx w cal (nx w cal x day).1 day).1).stage) (((nx w cal (nx w cal x day).1 day).1).owed) (((nx w cal (nx w cal x day).1 day).1).paid) (((nx w cal (nx w cal x day).1 day).1).paused) ((Ap.mk ((((nx w cal (nx w cal x day).1 day).1).ap).state) ((((nx w cal (nx w cal x day).1 day).1).ap).ground) ((((nx w cal (nx w cal x day).1 day).1).ap).day))))))))]) rfl (og rfl (of_eff (s_store rfl rfl ti32 rfl rfl rfl rfl rfl rfl) rfl)) ?_
            refine rg_put (d := 9) (v := .d (.fl (.int .i64 0))) rfl (og rfl (op_assign rfl rfl rfl)) ?_
            refine rg_done rfl ?_
            refine a_ret ?_
            show ∃ ds, ResL _ _ _ ds ∧ RV.of ds = _
            refine ⟨[.ag [.fl (.string (((nx w cal (nx w cal x day).1 day).1).id)), .fl (.string (((nx w cal (nx w cal x day).1 day).1).plate)), .fl (.string (((nx w cal (nx w cal x day).1 day).1).key)), .fl (.int .i64 (((nx w cal (nx w cal x day).1 day).1).begun)), .fl (.int .i64 (((nx w cal (nx w cal x day).1 day).1).since)), .fl (.int .i64 (((nx w cal (nx w cal x day).1 day).1).stage)), .fl (.int .i64 (((nx w cal (nx w cal x day).1 day).1).owed)), .fl (.int .i64 (((nx w cal (nx w cal x day).1 day).1).paid)), .fl (.int .i64 (((nx w cal (nx w cal x day).1 day).1).paused)), .fl (.int .i64 ((((nx w cal (nx w cal x day).1 day).1).ap).state)), .fl (.int .i64 ((((nx w cal (nx w cal x day).1 day).1).ap).ground)), .fl (.int .i64 ((((nx w cal (nx w cal x day).1 day).1).ap).day))], .fl (.int .i64 0)], (.cons (.cellT rfl rfl Tryd.underlying32 rfl ti32 rfl (Cv.ag (xs := [.fl (.string (((nx w cal (nx w cal x day).1 day).1).id)), .fl (.string (((nx w cal (nx w cal x day).1 day).1).plate)), .fl (.string (((nx w cal (nx w cal x day).1 day).1).key)), .fl (.int .i64 (((nx w cal (nx w cal x day).1 day).1).begun)), .fl (.int .i64 (((nx w cal (nx w cal x day).1 day).1).since)), .fl (.int .i64 (((nx w cal (nx w cal x day).1 day).1).stage)), .fl (.int .i64 (((nx w cal (nx w cal x day).1 day).1).owed)), .fl (.int .i64 (((nx w cal (nx w cal x day).1 day).1).paid)), .fl (.int .i64 (((nx w cal (nx w cal x day).1 day).1).paused)), .fl (.int .i64 ((((nx w cal (nx w cal x day).1 day).1).ap).state)), .fl (.int .i64 ((((nx w cal (nx w cal x day).1 day).1).ap).ground)), .fl (.int .i64 ((((nx w cal (nx w cal x day).1 day).1).ap).day))]) (ys := [.fl (.string (((nx w cal (nx w cal x day).1 day).1).id)), .fl (.string (((nx w cal (nx w cal x day).1 day).1).plate)), .fl (.string (((nx w cal (nx w cal x day).1 day).1).key)), .fl (.int .i64 (((nx w cal (nx w cal x day).1 day).1).begun)), .fl (.int .i64 (((nx w cal (nx w cal x day).1 day).1).since)), .fl (.int .i64 (((nx w cal (nx w cal x day).1 day).1).stage)), .fl (.int .i64 (((nx w cal (nx w cal x day).1 day).1).owed)), .fl (.int .i64 (((nx w cal (nx w cal x day).1 day).1).paid)), .fl (.int .i64 (((nx w cal (nx w cal x day).1 day).1).paused)), .fl (.int .i64 ((((nx w cal (nx w cal x day).1 day).1).ap).state)), .fl (.int .i64 ((((nx w cal (nx w cal x day).1 day).1).ap).ground)), .fl (.int .i64 ((((nx w cal (nx w cal x day).1 day).1).ap).day))]) ⟨Cv.refl _, Cv.refl _, Cv.refl _, Cv.refl _, Cv.refl _, Cv.refl _, Cv.refl _, Cv.refl _, Cv.refl _, Cv.refl _, Cv.refl _, Cv.refl _, trivial⟩)) (.cons (.tmp rfl (.d _)) .nil)), ?_⟩
            have hu : adv w cal x day = (((Cs.mk (((nx w cal (nx w cal x day).1 day).1).id) (((nx w cal (nx w cal x day).1 day).1).plate) (((nx w cal (nx w cal x day).1 day).1).key) (((nx w cal (nx w cal x day).1 day).1).begun) (((nx w cal (nx w cal x day).1 day).1).since) (((nx w cal (nx w cal x day).1 day).1).stage) (((nx w cal (nx w cal x day).1 day).1).owed) (((nx w cal (nx w cal x day).1 day).1).paid) (((nx w cal (nx w cal x day).1 day).1).paused) ((Ap.mk ((((nx w cal (nx w cal x day).1 day).1).ap).state) ((((nx w cal (nx w cal x day).1 day).1).ap).ground) ((((nx w cal (nx w cal x day).1 day).1).ap).day))))), 0) := by
              unfold adv sw; simp only [it, ite_self, h1, h4, h7, h9, h11, h12, h13]; rfl
            rw [hu]; rfl
          · skip
            have h14 := f_not h12
            refine a_skip ?_
            show A _ _ _ _ _ _ _
            refine a_rseq ?_
            refine rg_upd (d := 44) (v := .d (.fl (.bool ((nx w cal (nx w cal (nx w cal x day).1 day).1 day).2)))) (nw := [(104, .bx 50 ((ePu (Pu.mk w cal (nx w cal (nx w cal (nx w cal x day).1 day).1 day).1 day))))]) rfl (og rfl (of_eff (op_callM .p (m := 104) (ob := .bx 50 ((ePu (Pu.mk w cal (nx w cal (nx w cal x day).1 day).1 day)))) (ob' := .bx 50 ((ePu (Pu.mk w cal (nx w cal (nx w cal (nx w cal x day).1 day).1 day).1 day)))) (r := .d (.fl (.bool ((nx w cal (nx w cal (nx w cal x day).1 day).1 day).2)))) rfl Tryd.func18 nm18 rfl rfl rfl rfl rfl rfl .nil (next35 w cal ((nx w cal (nx w cal x day).1 day).1) day (nx_ok (nx_ok hokx)) ⟨c6, c5⟩ hl0) rfl) rfl)) ?_
            refine rg_put (d := 45) (v := .d (.fl (.bool ((!((nx w cal (nx w cal (nx w cal x day).1 day).1 day).2)))))) rfl (og rfl (op_un rfl rfl (u_not _) rfl)) ?_
            refine rg_done rfl ?_
            refine a_cond rfl (fun h15 => ?_) (fun h15 => ?_)
            · skip
              have h16 := t_not h15
              refine a_exit ?_
              show A _ _ _ _ _ _ _
              refine a_rseq ?_
              refine rg_put (d := 47) (v := .pt 104 4) rfl (og rfl (of_eff (s_field_pt rfl Tryd.underlying50 rfl ti32 rfl rfl rfl) rfl)) ?_
              refine rg_put (d := 48) (v := .d (.ag (eCs ((Cs.mk (((nx w cal (nx w cal (nx w cal x day).1 day).1 day).1).id) (((nx w cal (nx w cal (nx w cal x day).1 day).1 day).1).plate) (((nx w cal (nx w cal (nx w cal x day).1 day).1 day).1).key) (((nx w cal (nx w cal (nx w cal x day).1 day).1 day).1).begun) (((nx w cal (nx w cal (nx w cal x day).1 day).1 day).1).since) (((nx w cal (nx w cal (nx w cal x day).1 day).1 day).1).stage) (((nx w cal (nx w cal (nx w cal x day).1 day).1 day).1).owed) (((nx w cal (nx w cal (nx w cal x day).1 day).1 day).1).paid) (((nx w cal (nx w cal (nx w cal x day).1 day).1 day).1).paused) ((Ap.mk ((((nx w cal (nx w cal (nx w cal x day).1 day).1 day).1).ap).state) ((((nx w cal (nx w cal (nx w cal x day).1 day).1 day).1).ap).ground) ((((nx w cal (nx w cal (nx w cal x day).1 day).1 day).1).ap).day)))))))) rfl (og rfl (of_eff (s_load_pts rfl Tryd.underlying32 rfl ti32 rfl rfl rfl rfl) rfl)) ?_
              refine rg_sto (nw := [(103, .bx 32 ((eCs ((Cs.mk (((nx w cal (nx w cal (nx w cal x day).1 day).1 day).1).id) (((nx w cal (nx w cal (nx w cal x day).1 day).1 day).1).plate) (((nx w cal (nx w cal (nx w cal x day).1 day).1 day).1).key) (((nx w cal (nx w cal (nx w cal x day).1 day).1 day).1).begun) (((nx w cal (nx w cal (nx w cal x day).1 day).1 day).1).since) (((nx w cal (nx w cal (nx w cal x day).1 day).1 day).1).stage) (((nx w cal (nx w cal (nx w cal x day).1 day).1 day).1).owed) (((nx w cal (nx w cal (nx w cal x day).1 day).1 day).1).paid) (((nx w cal (nx w cal (nx w cal x day).1 day).1 day).1).paused) ((Ap.mk ((((nx w cal (nx w cal (nx w cal x day).1 day).1 day).1).ap).state) ((((nx w cal (nx w cal (nx w cal x day).1 day).1 day).1).ap).ground) ((((nx w cal (nx w cal (nx w cal x day).1 day).1 day).1).ap).day))))))))]) rfl (og rfl (of_eff (s_store rfl rfl ti32 rfl rfl rfl rfl rfl rfl) rfl)) ?_
              refine rg_put (d := 9) (v := .d (.fl (.int .i64 0))) rfl (og rfl (op_assign rfl rfl rfl)) ?_
              refine rg_done rfl ?_
              refine a_ret ?_
              show ∃ ds, ResL _ _ _ ds ∧ RV.of ds = _
              refine ⟨[.ag [.fl (.string (((nx w cal (nx w cal (nx w cal x day).1 day).1 day).1).id)), .fl (.string (((nx w cal (nx w cal (nx w cal x day).1 day).1 day).1).plate)), .fl (.string (((nx w cal (nx w cal (nx w cal x day).1 day).1 day).1).key)), .fl (.int .i64 (((nx w cal (nx w cal (nx w cal x day).1 day).1 day).1).begun)), .fl (.int .i64 (((nx w cal (nx w cal (nx w cal x day).1 day).1 day).1).since)), .fl (.int .i64 (((nx w cal (nx w cal (nx w cal x day).1 day).1 day).1).stage)), .fl (.int .i64 (((nx w cal (nx w cal (nx w cal x day).1 day).1 day).1).owed)), .fl (.int .i64 (((nx w cal (nx w cal (nx w cal x day).1 day).1 day).1).paid)), .fl (.int .i64 (((nx w cal (nx w cal (nx w cal x day).1 day).1 day).1).paused)), .fl (.int .i64 ((((nx w cal (nx w cal (nx w cal x day).1 day).1 day).1).ap).state)), .fl (.int .i64 ((((nx w cal (nx w cal (nx w cal x day).1 day).1 day).1).ap).ground)), .fl (.int .i64 ((((nx w cal (nx w cal (nx w cal x day).1 day).1 day).1).ap).day))], .fl (.int .i64 0)], (.cons (.cellT rfl rfl Tryd.underlying32 rfl ti32 rfl (Cv.ag (xs := [.fl (.string (((nx w cal (nx w cal (nx w cal x day).1 day).1 day).1).id)), .fl (.string (((nx w cal (nx w cal (nx w cal x day).1 day).1 day).1).plate)), .fl (.string (((nx w cal (nx w cal (nx w cal x day).1 day).1 day).1).key)), .fl (.int .i64 (((nx w cal (nx w cal (nx w cal x day).1 day).1 day).1).begun)), .fl (.int .i64 (((nx w cal (nx w cal (nx w cal x day).1 day).1 day).1).since)), .fl (.int .i64 (((nx w cal (nx w cal (nx w cal x day).1 day).1 day).1).stage)), .fl (.int .i64 (((nx w cal (nx w cal (nx w cal x day).1 day).1 day).1).owed)), .fl (.int .i64 (((nx w cal (nx w cal (nx w cal x day).1 day).1 day).1).paid)), .fl (.int .i64 (((nx w cal (nx w cal (nx w cal x day).1 day).1 day).1).paused)), .fl (.int .i64 ((((nx w cal (nx w cal (nx w cal x day).1 day).1 day).1).ap).state)), .fl (.int .i64 ((((nx w cal (nx w cal (nx w cal x day).1 day).1 day).1).ap).ground)), .fl (.int .i64 ((((nx w cal (nx w cal (nx w cal x day).1 day).1 day).1).ap).day))]) (ys := [.fl (.string (((nx w cal (nx w cal (nx w cal x day).1 day).1 day).1).id)), .fl (.string (((nx w cal (nx w cal (nx w cal x day).1 day).1 day).1).plate)), .fl (.string (((nx w cal (nx w cal (nx w cal x day).1 day).1 day).1).key)), .fl (.int .i64 (((nx w cal (nx w cal (nx w cal x day).1 day).1 day).1).begun)), .fl (.int .i64 (((nx w cal (nx w cal (nx w cal x day).1 day).1 day).1).since)), .fl (.int .i64 (((nx w cal (nx w cal (nx w cal x day).1 day).1 day).1).stage)), .fl (.int .i64 (((nx w cal (nx w cal (nx w cal x day).1 day).1 day).1).owed)), .fl (.int .i64 (((nx w cal (nx w cal (nx w cal x day).1 day).1 day).1).paid)), .fl (.int .i64 (((nx w cal (nx w cal (nx w cal x day).1 day).1 day).1).paused)), .fl (.int .i64 ((((nx w cal (nx w cal (nx w cal x day).1 day).1 day).1).ap).state)), .fl (.int .i64 ((((nx w cal (nx w cal (nx w cal x day).1 day).1 day).1).ap).ground)), .fl (.int .i64 ((((nx w cal (nx w cal (nx w cal x day).1 day).1 day).1).ap).day))]) ⟨Cv.refl _, Cv.refl _, Cv.refl _, Cv.refl _, Cv.refl _, Cv.refl _, Cv.refl _, Cv.refl _, Cv.refl _, Cv.refl _, Cv.refl _, Cv.refl _, trivial⟩)) (.cons (.tmp rfl (.d _)) .nil)), ?_⟩
              have hu : adv w cal x day = (((Cs.mk (((nx w cal (nx w cal (nx w cal x day).1 day).1 day).1).id) (((nx w cal (nx w cal (nx w cal x day).1 day).1 day).1).plate) (((nx w cal (nx w cal (nx w cal x day).1 day).1 day).1).key) (((nx w cal (nx w cal (nx w cal x day).1 day).1 day).1).begun) (((nx w cal (nx w cal (nx w cal x day).1 day).1 day).1).since) (((nx w cal (nx w cal (nx w cal x day).1 day).1 day).1).stage) (((nx w cal (nx w cal (nx w cal x day).1 day).1 day).1).owed) (((nx w cal (nx w cal (nx w cal x day).1 day).1 day).1).paid) (((nx w cal (nx w cal (nx w cal x day).1 day).1 day).1).paused) ((Ap.mk ((((nx w cal (nx w cal (nx w cal x day).1 day).1 day).1).ap).state) ((((nx w cal (nx w cal (nx w cal x day).1 day).1 day).1).ap).ground) ((((nx w cal (nx w cal (nx w cal x day).1 day).1 day).1).ap).day))))), 0) := by
                unfold adv sw; simp only [it, ite_self, h1, h4, h7, h9, h11, h12, h14, h15, h16]; rfl
              rw [hu]; rfl
            · skip
              have h17 := f_not h15
              refine a_skip ?_
              show A _ _ _ _ _ _ _
              refine a_rseq ?_
              refine rg_upd (d := 46) (v := .d (.fl (.bool ((nx w cal (nx w cal (nx w cal (nx w cal x day).1 day).1 day).1 day).2)))) (nw := [(104, .bx 50 ((ePu (Pu.mk w cal (nx w cal (nx w cal (nx w cal (nx w cal x day).1 day).1 day).1 day).1 day))))]) rfl (og rfl (of_eff (op_callM .p (m := 104) (ob := .bx 50 ((ePu (Pu.mk w cal (nx w cal (nx w cal (nx w cal x day).1 day).1 day).1 day)))) (ob' := .bx 50 ((ePu (Pu.mk w cal (nx w cal (nx w cal (nx w cal (nx w cal x day).1 day).1 day).1 day).1 day)))) (r := .d (.fl (.bool ((nx w cal (nx w cal (nx w cal (nx w cal x day).1 day).1 day).1 day).2)))) rfl Tryd.func18 nm18 rfl rfl rfl rfl rfl rfl .nil (next35 w cal ((nx w cal (nx w cal (nx w cal x day).1 day).1 day).1) day (nx_ok (nx_ok (nx_ok hokx))) ⟨c6, c5⟩ hl0) rfl) rfl)) ?_
              refine rg_done rfl ?_
              refine a_exit ?_
              show A _ _ _ _ _ _ _
              refine a_rseq ?_
              refine rg_put (d := 47) (v := .pt 104 4) rfl (og rfl (of_eff (s_field_pt rfl Tryd.underlying50 rfl ti32 rfl rfl rfl) rfl)) ?_
              refine rg_put (d := 48) (v := .d (.ag (eCs ((Cs.mk (((nx w cal (nx w cal (nx w cal (nx w cal x day).1 day).1 day).1 day).1).id) (((nx w cal (nx w cal (nx w cal (nx w cal x day).1 day).1 day).1 day).1).plate) (((nx w cal (nx w cal (nx w cal (nx w cal x day).1 day).1 day).1 day).1).key) (((nx w cal (nx w cal (nx w cal (nx w cal x day).1 day).1 day).1 day).1).begun) (((nx w cal (nx w cal (nx w cal (nx w cal x day).1 day).1 day).1 day).1).since) (((nx w cal (nx w cal (nx w cal (nx w cal x day).1 day).1 day).1 day).1).stage) (((nx w cal (nx w cal (nx w cal (nx w cal x day).1 day).1 day).1 day).1).owed) (((nx w cal (nx w cal (nx w cal (nx w cal x day).1 day).1 day).1 day).1).paid) (((nx w cal (nx w cal (nx w cal (nx w cal x day).1 day).1 day).1 day).1).paused) ((Ap.mk ((((nx w cal (nx w cal (nx w cal (nx w cal x day).1 day).1 day).1 day).1).ap).state) ((((nx w cal (nx w cal (nx w cal (nx w cal x day).1 day).1 day).1 day).1).ap).ground) ((((nx w cal (nx w cal (nx w cal (nx w cal x day).1 day).1 day).1 day).1).ap).day)))))))) rfl (og rfl (of_eff (s_load_pts rfl Tryd.underlying32 rfl ti32 rfl rfl rfl rfl) rfl)) ?_
              refine rg_sto (nw := [(103, .bx 32 ((eCs ((Cs.mk (((nx w cal (nx w cal (nx w cal (nx w cal x day).1 day).1 day).1 day).1).id) (((nx w cal (nx w cal (nx w cal (nx w cal x day).1 day).1 day).1 day).1).plate) (((nx w cal (nx w cal (nx w cal (nx w cal x day).1 day).1 day).1 day).1).key) (((nx w cal (nx w cal (nx w cal (nx w cal x day).1 day).1 day).1 day).1).begun) (((nx w cal (nx w cal (nx w cal (nx w cal x day).1 day).1 day).1 day).1).since) (((nx w cal (nx w cal (nx w cal (nx w cal x day).1 day).1 day).1 day).1).stage) (((nx w cal (nx w cal (nx w cal (nx w cal x day).1 day).1 day).1 day).1).owed) (((nx w cal (nx w cal (nx w cal (nx w cal x day).1 day).1 day).1 day).1).paid) (((nx w cal (nx w cal (nx w cal (nx w cal x day).1 day).1 day).1 day).1).paused) ((Ap.mk ((((nx w cal (nx w cal (nx w cal (nx w cal x day).1 day).1 day).1 day).1).ap).state) ((((nx w cal (nx w cal (nx w cal (nx w cal x day).1 day).1 day).1 day).1).ap).ground) ((((nx w cal (nx w cal (nx w cal (nx w cal x day).1 day).1 day).1 day).1).ap).day))))))))]) rfl (og rfl (of_eff (s_store rfl rfl ti32 rfl rfl rfl rfl rfl rfl) rfl)) ?_
              refine rg_put (d := 9) (v := .d (.fl (.int .i64 0))) rfl (og rfl (op_assign rfl rfl rfl)) ?_
              refine rg_done rfl ?_
              refine a_ret ?_
              show ∃ ds, ResL _ _ _ ds ∧ RV.of ds = _
              refine ⟨[.ag [.fl (.string (((nx w cal (nx w cal (nx w cal (nx w cal x day).1 day).1 day).1 day).1).id)), .fl (.string (((nx w cal (nx w cal (nx w cal (nx w cal x day).1 day).1 day).1 day).1).plate)), .fl (.string (((nx w cal (nx w cal (nx w cal (nx w cal x day).1 day).1 day).1 day).1).key)), .fl (.int .i64 (((nx w cal (nx w cal (nx w cal (nx w cal x day).1 day).1 day).1 day).1).begun)), .fl (.int .i64 (((nx w cal (nx w cal (nx w cal (nx w cal x day).1 day).1 day).1 day).1).since)), .fl (.int .i64 (((nx w cal (nx w cal (nx w cal (nx w cal x day).1 day).1 day).1 day).1).stage)), .fl (.int .i64 (((nx w cal (nx w cal (nx w cal (nx w cal x day).1 day).1 day).1 day).1).owed)), .fl (.int .i64 (((nx w cal (nx w cal (nx w cal (nx w cal x day).1 day).1 day).1 day).1).paid)), .fl (.int .i64 (((nx w cal (nx w cal (nx w cal (nx w cal x day).1 day).1 day).1 day).1).paused)), .fl (.int .i64 ((((nx w cal (nx w cal (nx w cal (nx w cal x day).1 day).1 day).1 day).1).ap).state)), .fl (.int .i64 ((((nx w cal (nx w cal (nx w cal (nx w cal x day).1 day).1 day).1 day).1).ap).ground)), .fl (.int .i64 ((((nx w cal (nx w cal (nx w cal (nx w cal x day).1 day).1 day).1 day).1).ap).day))], .fl (.int .i64 0)], (.cons (.cellT rfl rfl Tryd.underlying32 rfl ti32 rfl (Cv.ag (xs := [.fl (.string (((nx w cal (nx w cal (nx w cal (nx w cal x day).1 day).1 day).1 day).1).id)), .fl (.string (((nx w cal (nx w cal (nx w cal (nx w cal x day).1 day).1 day).1 day).1).plate)), .fl (.string (((nx w cal (nx w cal (nx w cal (nx w cal x day).1 day).1 day).1 day).1).key)), .fl (.int .i64 (((nx w cal (nx w cal (nx w cal (nx w cal x day).1 day).1 day).1 day).1).begun)), .fl (.int .i64 (((nx w cal (nx w cal (nx w cal (nx w cal x day).1 day).1 day).1 day).1).since)), .fl (.int .i64 (((nx w cal (nx w cal (nx w cal (nx w cal x day).1 day).1 day).1 day).1).stage)), .fl (.int .i64 (((nx w cal (nx w cal (nx w cal (nx w cal x day).1 day).1 day).1 day).1).owed)), .fl (.int .i64 (((nx w cal (nx w cal (nx w cal (nx w cal x day).1 day).1 day).1 day).1).paid)), .fl (.int .i64 (((nx w cal (nx w cal (nx w cal (nx w cal x day).1 day).1 day).1 day).1).paused)), .fl (.int .i64 ((((nx w cal (nx w cal (nx w cal (nx w cal x day).1 day).1 day).1 day).1).ap).state)), .fl (.int .i64 ((((nx w cal (nx w cal (nx w cal (nx w cal x day).1 day).1 day).1 day).1).ap).ground)), .fl (.int .i64 ((((nx w cal (nx w cal (nx w cal (nx w cal x day).1 day).1 day).1 day).1).ap).day))]) (ys := [.fl (.string (((nx w cal (nx w cal (nx w cal (nx w cal x day).1 day).1 day).1 day).1).id)), .fl (.string (((nx w cal (nx w cal (nx w cal (nx w cal x day).1 day).1 day).1 day).1).plate)), .fl (.string (((nx w cal (nx w cal (nx w cal (nx w cal x day).1 day).1 day).1 day).1).key)), .fl (.int .i64 (((nx w cal (nx w cal (nx w cal (nx w cal x day).1 day).1 day).1 day).1).begun)), .fl (.int .i64 (((nx w cal (nx w cal (nx w cal (nx w cal x day).1 day).1 day).1 day).1).since)), .fl (.int .i64 (((nx w cal (nx w cal (nx w cal (nx w cal x day).1 day).1 day).1 day).1).stage)), .fl (.int .i64 (((nx w cal (nx w cal (nx w cal (nx w cal x day).1 day).1 day).1 day).1).owed)), .fl (.int .i64 (((nx w cal (nx w cal (nx w cal (nx w cal x day).1 day).1 day).1 day).1).paid)), .fl (.int .i64 (((nx w cal (nx w cal (nx w cal (nx w cal x day).1 day).1 day).1 day).1).paused)), .fl (.int .i64 ((((nx w cal (nx w cal (nx w cal (nx w cal x day).1 day).1 day).1 day).1).ap).state)), .fl (.int .i64 ((((nx w cal (nx w cal (nx w cal (nx w cal x day).1 day).1 day).1 day).1).ap).ground)), .fl (.int .i64 ((((nx w cal (nx w cal (nx w cal (nx w cal x day).1 day).1 day).1 day).1).ap).day))]) ⟨Cv.refl _, Cv.refl _, Cv.refl _, Cv.refl _, Cv.refl _, Cv.refl _, Cv.refl _, Cv.refl _, Cv.refl _, Cv.refl _, Cv.refl _, Cv.refl _, trivial⟩)) (.cons (.tmp rfl (.d _)) .nil)), ?_⟩
              have hu : adv w cal x day = (((Cs.mk (((nx w cal (nx w cal (nx w cal (nx w cal x day).1 day).1 day).1 day).1).id) (((nx w cal (nx w cal (nx w cal (nx w cal x day).1 day).1 day).1 day).1).plate) (((nx w cal (nx w cal (nx w cal (nx w cal x day).1 day).1 day).1 day).1).key) (((nx w cal (nx w cal (nx w cal (nx w cal x day).1 day).1 day).1 day).1).begun) (((nx w cal (nx w cal (nx w cal (nx w cal x day).1 day).1 day).1 day).1).since) (((nx w cal (nx w cal (nx w cal (nx w cal x day).1 day).1 day).1 day).1).stage) (((nx w cal (nx w cal (nx w cal (nx w cal x day).1 day).1 day).1 day).1).owed) (((nx w cal (nx w cal (nx w cal (nx w cal x day).1 day).1 day).1 day).1).paid) (((nx w cal (nx w cal (nx w cal (nx w cal x day).1 day).1 day).1 day).1).paused) ((Ap.mk ((((nx w cal (nx w cal (nx w cal (nx w cal x day).1 day).1 day).1 day).1).ap).state) ((((nx w cal (nx w cal (nx w cal (nx w cal x day).1 day).1 day).1 day).1).ap).ground) ((((nx w cal (nx w cal (nx w cal (nx w cal x day).1 day).1 day).1 day).1).ap).day))))), 0) := by
                unfold adv sw; simp only [it, ite_self, h1, h4, h7, h9, h11, h12, h14, h15, h17]; rfl
              rw [hu]; rfl
      · skip
        have h18 := f_beq h7
        refine a_skip ?_
        show A _ _ _ _ _ _ _
        refine a_seq ?_
        refine a_rseq ?_
        refine rg_put (d := 35) (v := .d (.fl (.bool (x.stage == 2)))) rfl (og rfl (op_bin rfl rfl rfl (b_eql _ _ _ _) rfl)) ?_
        refine rg_put (d := 34) (v := .d (.fl (.bool (x.stage == 2)))) rfl (og rfl (op_assign rfl rfl rfl)) ?_
        refine rg_done rfl ?_
        refine a_cond rfl (fun h19 => ?_) (fun h19 => ?_)
        · skip
          have h20 := t_beq h19
          refine a_exit ?_
          show A _ _ _ _ _ _ _
          refine a_rseq ?_
          refine rg_upd (d := 42) (v := .d (.fl (.bool ((nx w cal x day).2)))) (nw := [(104, .bx 50 ((ePu (Pu.mk w cal (nx w cal x day).1 day))))]) rfl (og rfl (of_eff (op_callM .p (m := 104) (ob := .bx 50 ((ePu (Pu.mk w cal x day)))) (ob' := .bx 50 ((ePu (Pu.mk w cal (nx w cal x day).1 day)))) (r := .d (.fl (.bool ((nx w cal x day).2)))) rfl Tryd.func18 nm18 rfl rfl rfl rfl rfl rfl .nil (next35 w cal x day hokx ⟨c6, c5⟩ hl0) rfl) rfl)) ?_
          refine rg_put (d := 43) (v := .d (.fl (.bool ((!((nx w cal x day).2)))))) rfl (og rfl (op_un rfl rfl (u_not _) rfl)) ?_
          refine rg_done rfl ?_
          refine a_cond rfl (fun h21 => ?_) (fun h21 => ?_)
          · skip
            have h22 := t_not h21
            refine a_exit ?_
            show A _ _ _ _ _ _ _
            refine a_rseq ?_
            refine rg_put (d := 47) (v := .pt 104 4) rfl (og rfl (of_eff (s_field_pt rfl Tryd.underlying50 rfl ti32 rfl rfl rfl) rfl)) ?_
            refine rg_put (d := 48) (v := .d (.ag (eCs ((Cs.mk (((nx w cal x day).1).id) (((nx w cal x day).1).plate) (((nx w cal x day).1).key) (((nx w cal x day).1).begun) (((nx w cal x day).1).since) (((nx w cal x day).1).stage) (((nx w cal x day).1).owed) (((nx w cal x day).1).paid) (((nx w cal x day).1).paused) ((Ap.mk ((((nx w cal x day).1).ap).state) ((((nx w cal x day).1).ap).ground) ((((nx w cal x day).1).ap).day)))))))) rfl (og rfl (of_eff (s_load_pts rfl Tryd.underlying32 rfl ti32 rfl rfl rfl rfl) rfl)) ?_
            refine rg_sto (nw := [(103, .bx 32 ((eCs ((Cs.mk (((nx w cal x day).1).id) (((nx w cal x day).1).plate) (((nx w cal x day).1).key) (((nx w cal x day).1).begun) (((nx w cal x day).1).since) (((nx w cal x day).1).stage) (((nx w cal x day).1).owed) (((nx w cal x day).1).paid) (((nx w cal x day).1).paused) ((Ap.mk ((((nx w cal x day).1).ap).state) ((((nx w cal x day).1).ap).ground) ((((nx w cal x day).1).ap).day))))))))]) rfl (og rfl (of_eff (s_store rfl rfl ti32 rfl rfl rfl rfl rfl rfl) rfl)) ?_
            refine rg_put (d := 9) (v := .d (.fl (.int .i64 0))) rfl (og rfl (op_assign rfl rfl rfl)) ?_
            refine rg_done rfl ?_
            refine a_ret ?_
            show ∃ ds, ResL _ _ _ ds ∧ RV.of ds = _
            refine ⟨[.ag [.fl (.string (((nx w cal x day).1).id)), .fl (.string (((nx w cal x day).1).plate)), .fl (.string (((nx w cal x day).1).key)), .fl (.int .i64 (((nx w cal x day).1).begun)), .fl (.int .i64 (((nx w cal x day).1).since)), .fl (.int .i64 (((nx w cal x day).1).stage)), .fl (.int .i64 (((nx w cal x day).1).owed)), .fl (.int .i64 (((nx w cal x day).1).paid)), .fl (.int .i64 (((nx w cal x day).1).paused)), .fl (.int .i64 ((((nx w cal x day).1).ap).state)), .fl (.int .i64 ((((nx w cal x day).1).ap).ground)), .fl (.int .i64 ((((nx w cal x day).1).ap).day))], .fl (.int .i64 0)], (.cons (.cellT rfl rfl Tryd.underlying32 rfl ti32 rfl (Cv.ag (xs := [.fl (.string (((nx w cal x day).1).id)), .fl (.string (((nx w cal x day).1).plate)), .fl (.string (((nx w cal x day).1).key)), .fl (.int .i64 (((nx w cal x day).1).begun)), .fl (.int .i64 (((nx w cal x day).1).since)), .fl (.int .i64 (((nx w cal x day).1).stage)), .fl (.int .i64 (((nx w cal x day).1).owed)), .fl (.int .i64 (((nx w cal x day).1).paid)), .fl (.int .i64 (((nx w cal x day).1).paused)), .fl (.int .i64 ((((nx w cal x day).1).ap).state)), .fl (.int .i64 ((((nx w cal x day).1).ap).ground)), .fl (.int .i64 ((((nx w cal x day).1).ap).day))]) (ys := [.fl (.string (((nx w cal x day).1).id)), .fl (.string (((nx w cal x day).1).plate)), .fl (.string (((nx w cal x day).1).key)), .fl (.int .i64 (((nx w cal x day).1).begun)), .fl (.int .i64 (((nx w cal x day).1).since)), .fl (.int .i64 (((nx w cal x day).1).stage)), .fl (.int .i64 (((nx w cal x day).1).owed)), .fl (.int .i64 (((nx w cal x day).1).paid)), .fl (.int .i64 (((nx w cal x day).1).paused)), .fl (.int .i64 ((((nx w cal x day).1).ap).state)), .fl (.int .i64 ((((nx w cal x day).1).ap).ground)), .fl (.int .i64 ((((nx w cal x day).1).ap).day))]) ⟨Cv.refl _, Cv.refl _, Cv.refl _, Cv.refl _, Cv.refl _, Cv.refl _, Cv.refl _, Cv.refl _, Cv.refl _, Cv.refl _, Cv.refl _, Cv.refl _, trivial⟩)) (.cons (.tmp rfl (.d _)) .nil)), ?_⟩
            have hu : adv w cal x day = (((Cs.mk (((nx w cal x day).1).id) (((nx w cal x day).1).plate) (((nx w cal x day).1).key) (((nx w cal x day).1).begun) (((nx w cal x day).1).since) (((nx w cal x day).1).stage) (((nx w cal x day).1).owed) (((nx w cal x day).1).paid) (((nx w cal x day).1).paused) ((Ap.mk ((((nx w cal x day).1).ap).state) ((((nx w cal x day).1).ap).ground) ((((nx w cal x day).1).ap).day))))), 0) := by
              unfold adv sw; simp only [it, ite_self, h1, h4, h7, h19, h21, h22]; rfl
            rw [hu]; rfl
          · skip
            have h23 := f_not h21
            refine a_skip ?_
            show A _ _ _ _ _ _ _
            refine a_rseq ?_
            refine rg_upd (d := 44) (v := .d (.fl (.bool ((nx w cal (nx w cal x day).1 day).2)))) (nw := [(104, .bx 50 ((ePu (Pu.mk w cal (nx w cal (nx w cal x day).1 day).1 day))))]) rfl (og rfl (of_eff (op_callM .p (m := 104) (ob := .bx 50 ((ePu (Pu.mk w cal (nx w cal x day).1 day)))) (ob' := .bx 50 ((ePu (Pu.mk w cal (nx w cal (nx w cal x day).1 day).1 day)))) (r := .d (.fl (.bool ((nx w cal (nx w cal x day).1 day).2)))) rfl Tryd.func18 nm18 rfl rfl rfl rfl rfl rfl .nil (next35 w cal ((nx w cal x day).1) day (nx_ok hokx) ⟨c6, c5⟩ hl0) rfl) rfl)) ?_
            refine rg_put (d := 45) (v := .d (.fl (.bool ((!((nx w cal (nx w cal x day).1 day).2)))))) rfl (og rfl (op_un rfl rfl (u_not _) rfl)) ?_
            refine rg_done rfl ?_
            refine a_cond rfl (fun h24 => ?_) (fun h24 => ?_)
            · skip
              have h25 := t_not h24
              refine a_exit ?_
              show A _ _ _ _ _ _ _
              refine a_rseq ?_
              refine rg_put (d := 47) (v := .pt 104 4) rfl (og rfl (of_eff (s_field_pt rfl Tryd.underlying50 rfl ti32 rfl rfl rfl) rfl)) ?_
              refine rg_put (d := 48) (v := .d (.ag (eCs ((Cs.mk (((nx w cal (nx w cal x day).1 day).1).id) (((nx w cal (nx w cal x day).1 day).1).plate) (((nx w cal (nx w cal x day).1 day).1).key) (((nx w cal (nx w cal x day).1 day).1).begun) (((nx w cal (nx w cal x day).1 day).1).since) (((nx w cal (nx w cal x day).1 day).1).stage) (((nx w cal (nx w cal x day).1 day).1).owed) (((nx w cal (nx w cal x day).1 day).1).paid) (((nx w cal (nx w cal x day).1 day).1).paused) ((Ap.mk ((((nx w cal (nx w cal x day).1 day).1).ap).state) ((((nx w cal (nx w cal x day).1 day).1).ap).ground) ((((nx w cal (nx w cal x day).1 day).1).ap).day)))))))) rfl (og rfl (of_eff (s_load_pts rfl Tryd.underlying32 rfl ti32 rfl rfl rfl rfl) rfl)) ?_
              refine rg_sto (nw := [(103, .bx 32 ((eCs ((Cs.mk (((nx w cal (nx w cal x day).1 day).1).id) (((nx w cal (nx w cal x day).1 day).1).plate) (((nx w cal (nx w cal x day).1 day).1).key) (((nx w cal (nx w cal x day).1 day).1).begun) (((nx w cal (nx w cal x day).1 day).1).since) (((nx w cal (nx w cal x day).1 day).1).stage) (((nx w cal (nx w cal x day).1 day).1).owed) (((nx w cal (nx w cal x day).1 day).1).paid) (((nx w cal (nx w cal x day).1 day).1).paused) ((Ap.mk ((((nx w cal (nx w cal x day).1 day).1).ap).state) ((((nx w cal (nx w cal x day).1 day).1).ap).ground) ((((nx w cal (nx w cal x day).1 day).1).ap).day))))))))]) rfl (og rfl (of_eff (s_store rfl rfl ti32 rfl rfl rfl rfl rfl rfl) rfl)) ?_
              refine rg_put (d := 9) (v := .d (.fl (.int .i64 0))) rfl (og rfl (op_assign rfl rfl rfl)) ?_
              refine rg_done rfl ?_
              refine a_ret ?_
              show ∃ ds, ResL _ _ _ ds ∧ RV.of ds = _
              refine ⟨[.ag [.fl (.string (((nx w cal (nx w cal x day).1 day).1).id)), .fl (.string (((nx w cal (nx w cal x day).1 day).1).plate)), .fl (.string (((nx w cal (nx w cal x day).1 day).1).key)), .fl (.int .i64 (((nx w cal (nx w cal x day).1 day).1).begun)), .fl (.int .i64 (((nx w cal (nx w cal x day).1 day).1).since)), .fl (.int .i64 (((nx w cal (nx w cal x day).1 day).1).stage)), .fl (.int .i64 (((nx w cal (nx w cal x day).1 day).1).owed)), .fl (.int .i64 (((nx w cal (nx w cal x day).1 day).1).paid)), .fl (.int .i64 (((nx w cal (nx w cal x day).1 day).1).paused)), .fl (.int .i64 ((((nx w cal (nx w cal x day).1 day).1).ap).state)), .fl (.int .i64 ((((nx w cal (nx w cal x day).1 day).1).ap).ground)), .fl (.int .i64 ((((nx w cal (nx w cal x day).1 day).1).ap).day))], .fl (.int .i64 0)], (.cons (.cellT rfl rfl Tryd.underlying32 rfl ti32 rfl (Cv.ag (xs := [.fl (.string (((nx w cal (nx w cal x day).1 day).1).id)), .fl (.string (((nx w cal (nx w cal x day).1 day).1).plate)), .fl (.string (((nx w cal (nx w cal x day).1 day).1).key)), .fl (.int .i64 (((nx w cal (nx w cal x day).1 day).1).begun)), .fl (.int .i64 (((nx w cal (nx w cal x day).1 day).1).since)), .fl (.int .i64 (((nx w cal (nx w cal x day).1 day).1).stage)), .fl (.int .i64 (((nx w cal (nx w cal x day).1 day).1).owed)), .fl (.int .i64 (((nx w cal (nx w cal x day).1 day).1).paid)), .fl (.int .i64 (((nx w cal (nx w cal x day).1 day).1).paused)), .fl (.int .i64 ((((nx w cal (nx w cal x day).1 day).1).ap).state)), .fl (.int .i64 ((((nx w cal (nx w cal x day).1 day).1).ap).ground)), .fl (.int .i64 ((((nx w cal (nx w cal x day).1 day).1).ap).day))]) (ys := [.fl (.string (((nx w cal (nx w cal x day).1 day).1).id)), .fl (.string (((nx w cal (nx w cal x day).1 day).1).plate)), .fl (.string (((nx w cal (nx w cal x day).1 day).1).key)), .fl (.int .i64 (((nx w cal (nx w cal x day).1 day).1).begun)), .fl (.int .i64 (((nx w cal (nx w cal x day).1 day).1).since)), .fl (.int .i64 (((nx w cal (nx w cal x day).1 day).1).stage)), .fl (.int .i64 (((nx w cal (nx w cal x day).1 day).1).owed)), .fl (.int .i64 (((nx w cal (nx w cal x day).1 day).1).paid)), .fl (.int .i64 (((nx w cal (nx w cal x day).1 day).1).paused)), .fl (.int .i64 ((((nx w cal (nx w cal x day).1 day).1).ap).state)), .fl (.int .i64 ((((nx w cal (nx w cal x day).1 day).1).ap).ground)), .fl (.int .i64 ((((nx w cal (nx w cal x day).1 day).1).ap).day))]) ⟨Cv.refl _, Cv.refl _, Cv.refl _, Cv.refl _, Cv.refl _, Cv.refl _, Cv.refl _, Cv.refl _, Cv.refl _, Cv.refl _, Cv.refl _, Cv.refl _, trivial⟩)) (.cons (.tmp rfl (.d _)) .nil)), ?_⟩
              have hu : adv w cal x day = (((Cs.mk (((nx w cal (nx w cal x day).1 day).1).id) (((nx w cal (nx w cal x day).1 day).1).plate) (((nx w cal (nx w cal x day).1 day).1).key) (((nx w cal (nx w cal x day).1 day).1).begun) (((nx w cal (nx w cal x day).1 day).1).since) (((nx w cal (nx w cal x day).1 day).1).stage) (((nx w cal (nx w cal x day).1 day).1).owed) (((nx w cal (nx w cal x day).1 day).1).paid) (((nx w cal (nx w cal x day).1 day).1).paused) ((Ap.mk ((((nx w cal (nx w cal x day).1 day).1).ap).state) ((((nx w cal (nx w cal x day).1 day).1).ap).ground) ((((nx w cal (nx w cal x day).1 day).1).ap).day))))), 0) := by
                unfold adv sw; simp only [it, ite_self, h1, h4, h7, h19, h21, h23, h24, h25]; rfl
              rw [hu]; rfl
            · skip
              have h26 := f_not h24
              refine a_skip ?_
              show A _ _ _ _ _ _ _
              refine a_rseq ?_
              refine rg_upd (d := 46) (v := .d (.fl (.bool ((nx w cal (nx w cal (nx w cal x day).1 day).1 day).2)))) (nw := [(104, .bx 50 ((ePu (Pu.mk w cal (nx w cal (nx w cal (nx w cal x day).1 day).1 day).1 day))))]) rfl (og rfl (of_eff (op_callM .p (m := 104) (ob := .bx 50 ((ePu (Pu.mk w cal (nx w cal (nx w cal x day).1 day).1 day)))) (ob' := .bx 50 ((ePu (Pu.mk w cal (nx w cal (nx w cal (nx w cal x day).1 day).1 day).1 day)))) (r := .d (.fl (.bool ((nx w cal (nx w cal (nx w cal x day).1 day).1 day).2)))) rfl Tryd.func18 nm18 rfl rfl rfl rfl rfl rfl .nil (next35 w cal ((nx w cal (nx w cal x day).1 day).1) day (nx_ok (nx_ok hokx)) ⟨c6, c5⟩ hl0) rfl) rfl)) ?_
              refine rg_done rfl ?_
              refine a_exit ?_
              show A _ _ _ _ _ _ _
              refine a_rseq ?_
              refine rg_put (d := 47) (v := .pt 104 4) rfl (og rfl (of_eff (s_field_pt rfl Tryd.underlying50 rfl ti32 rfl rfl rfl) rfl)) ?_
              refine rg_put (d := 48) (v := .d (.ag (eCs ((Cs.mk (((nx w cal (nx w cal (nx w cal x day).1 day).1 day).1).id) (((nx w cal (nx w cal (nx w cal x day).1 day).1 day).1).plate) (((nx w cal (nx w cal (nx w cal x day).1 day).1 day).1).key) (((nx w cal (nx w cal (nx w cal x day).1 day).1 day).1).begun) (((nx w cal (nx w cal (nx w cal x day).1 day).1 day).1).since) (((nx w cal (nx w cal (nx w cal x day).1 day).1 day).1).stage) (((nx w cal (nx w cal (nx w cal x day).1 day).1 day).1).owed) (((nx w cal (nx w cal (nx w cal x day).1 day).1 day).1).paid) (((nx w cal (nx w cal (nx w cal x day).1 day).1 day).1).paused) ((Ap.mk ((((nx w cal (nx w cal (nx w cal x day).1 day).1 day).1).ap).state) ((((nx w cal (nx w cal (nx w cal x day).1 day).1 day).1).ap).ground) ((((nx w cal (nx w cal (nx w cal x day).1 day).1 day).1).ap).day)))))))) rfl (og rfl (of_eff (s_load_pts rfl Tryd.underlying32 rfl ti32 rfl rfl rfl rfl) rfl)) ?_
              refine rg_sto (nw := [(103, .bx 32 ((eCs ((Cs.mk (((nx w cal (nx w cal (nx w cal x day).1 day).1 day).1).id) (((nx w cal (nx w cal (nx w cal x day).1 day).1 day).1).plate) (((nx w cal (nx w cal (nx w cal x day).1 day).1 day).1).key) (((nx w cal (nx w cal (nx w cal x day).1 day).1 day).1).begun) (((nx w cal (nx w cal (nx w cal x day).1 day).1 day).1).since) (((nx w cal (nx w cal (nx w cal x day).1 day).1 day).1).stage) (((nx w cal (nx w cal (nx w cal x day).1 day).1 day).1).owed) (((nx w cal (nx w cal (nx w cal x day).1 day).1 day).1).paid) (((nx w cal (nx w cal (nx w cal x day).1 day).1 day).1).paused) ((Ap.mk ((((nx w cal (nx w cal (nx w cal x day).1 day).1 day).1).ap).state) ((((nx w cal (nx w cal (nx w cal x day).1 day).1 day).1).ap).ground) ((((nx w cal (nx w cal (nx w cal x day).1 day).1 day).1).ap).day))))))))]) rfl (og rfl (of_eff (s_store rfl rfl ti32 rfl rfl rfl rfl rfl rfl) rfl)) ?_
              refine rg_put (d := 9) (v := .d (.fl (.int .i64 0))) rfl (og rfl (op_assign rfl rfl rfl)) ?_
              refine rg_done rfl ?_
              refine a_ret ?_
              show ∃ ds, ResL _ _ _ ds ∧ RV.of ds = _
              refine ⟨[.ag [.fl (.string (((nx w cal (nx w cal (nx w cal x day).1 day).1 day).1).id)), .fl (.string (((nx w cal (nx w cal (nx w cal x day).1 day).1 day).1).plate)), .fl (.string (((nx w cal (nx w cal (nx w cal x day).1 day).1 day).1).key)), .fl (.int .i64 (((nx w cal (nx w cal (nx w cal x day).1 day).1 day).1).begun)), .fl (.int .i64 (((nx w cal (nx w cal (nx w cal x day).1 day).1 day).1).since)), .fl (.int .i64 (((nx w cal (nx w cal (nx w cal x day).1 day).1 day).1).stage)), .fl (.int .i64 (((nx w cal (nx w cal (nx w cal x day).1 day).1 day).1).owed)), .fl (.int .i64 (((nx w cal (nx w cal (nx w cal x day).1 day).1 day).1).paid)), .fl (.int .i64 (((nx w cal (nx w cal (nx w cal x day).1 day).1 day).1).paused)), .fl (.int .i64 ((((nx w cal (nx w cal (nx w cal x day).1 day).1 day).1).ap).state)), .fl (.int .i64 ((((nx w cal (nx w cal (nx w cal x day).1 day).1 day).1).ap).ground)), .fl (.int .i64 ((((nx w cal (nx w cal (nx w cal x day).1 day).1 day).1).ap).day))], .fl (.int .i64 0)], (.cons (.cellT rfl rfl Tryd.underlying32 rfl ti32 rfl (Cv.ag (xs := [.fl (.string (((nx w cal (nx w cal (nx w cal x day).1 day).1 day).1).id)), .fl (.string (((nx w cal (nx w cal (nx w cal x day).1 day).1 day).1).plate)), .fl (.string (((nx w cal (nx w cal (nx w cal x day).1 day).1 day).1).key)), .fl (.int .i64 (((nx w cal (nx w cal (nx w cal x day).1 day).1 day).1).begun)), .fl (.int .i64 (((nx w cal (nx w cal (nx w cal x day).1 day).1 day).1).since)), .fl (.int .i64 (((nx w cal (nx w cal (nx w cal x day).1 day).1 day).1).stage)), .fl (.int .i64 (((nx w cal (nx w cal (nx w cal x day).1 day).1 day).1).owed)), .fl (.int .i64 (((nx w cal (nx w cal (nx w cal x day).1 day).1 day).1).paid)), .fl (.int .i64 (((nx w cal (nx w cal (nx w cal x day).1 day).1 day).1).paused)), .fl (.int .i64 ((((nx w cal (nx w cal (nx w cal x day).1 day).1 day).1).ap).state)), .fl (.int .i64 ((((nx w cal (nx w cal (nx w cal x day).1 day).1 day).1).ap).ground)), .fl (.int .i64 ((((nx w cal (nx w cal (nx w cal x day).1 day).1 day).1).ap).day))]) (ys := [.fl (.string (((nx w cal (nx w cal (nx w cal x day).1 day).1 day).1).id)), .fl (.string (((nx w cal (nx w cal (nx w cal x day).1 day).1 day).1).plate)), .fl (.string (((nx w cal (nx w cal (nx w cal x day).1 day).1 day).1).key)), .fl (.int .i64 (((nx w cal (nx w cal (nx w cal x day).1 day).1 day).1).begun)), .fl (.int .i64 (((nx w cal (nx w cal (nx w cal x day).1 day).1 day).1).since)), .fl (.int .i64 (((nx w cal (nx w cal (nx w cal x day).1 day).1 day).1).stage)), .fl (.int .i64 (((nx w cal (nx w cal (nx w cal x day).1 day).1 day).1).owed)), .fl (.int .i64 (((nx w cal (nx w cal (nx w cal x day).1 day).1 day).1).paid)), .fl (.int .i64 (((nx w cal (nx w cal (nx w cal x day).1 day).1 day).1).paused)), .fl (.int .i64 ((((nx w cal (nx w cal (nx w cal x day).1 day).1 day).1).ap).state)), .fl (.int .i64 ((((nx w cal (nx w cal (nx w cal x day).1 day).1 day).1).ap).ground)), .fl (.int .i64 ((((nx w cal (nx w cal (nx w cal x day).1 day).1 day).1).ap).day))]) ⟨Cv.refl _, Cv.refl _, Cv.refl _, Cv.refl _, Cv.refl _, Cv.refl _, Cv.refl _, Cv.refl _, Cv.refl _, Cv.refl _, Cv.refl _, Cv.refl _, trivial⟩)) (.cons (.tmp rfl (.d _)) .nil)), ?_⟩
              have hu : adv w cal x day = (((Cs.mk (((nx w cal (nx w cal (nx w cal x day).1 day).1 day).1).id) (((nx w cal (nx w cal (nx w cal x day).1 day).1 day).1).plate) (((nx w cal (nx w cal (nx w cal x day).1 day).1 day).1).key) (((nx w cal (nx w cal (nx w cal x day).1 day).1 day).1).begun) (((nx w cal (nx w cal (nx w cal x day).1 day).1 day).1).since) (((nx w cal (nx w cal (nx w cal x day).1 day).1 day).1).stage) (((nx w cal (nx w cal (nx w cal x day).1 day).1 day).1).owed) (((nx w cal (nx w cal (nx w cal x day).1 day).1 day).1).paid) (((nx w cal (nx w cal (nx w cal x day).1 day).1 day).1).paused) ((Ap.mk ((((nx w cal (nx w cal (nx w cal x day).1 day).1 day).1).ap).state) ((((nx w cal (nx w cal (nx w cal x day).1 day).1 day).1).ap).ground) ((((nx w cal (nx w cal (nx w cal x day).1 day).1 day).1).ap).day))))), 0) := by
                unfold adv sw; simp only [it, ite_self, h1, h4, h7, h19, h21, h23, h24, h26]; rfl
              rw [hu]; rfl
        · skip
          have h27 := f_beq h19
          refine a_skip ?_
          show A _ _ _ _ _ _ _
          refine a_seq ?_
          refine a_rseq ?_
          refine rg_put (d := 37) (v := .d (.fl (.bool (x.stage == 3)))) rfl (og rfl (op_bin rfl rfl rfl (b_eql _ _ _ _) rfl)) ?_
          refine rg_put (d := 36) (v := .d (.fl (.bool (x.stage == 3)))) rfl (og rfl (op_assign rfl rfl rfl)) ?_
          refine rg_done rfl ?_
          refine a_cond rfl (fun h28 => ?_) (fun h28 => ?_)
          · skip
            have h29 := t_beq h28
            refine a_exit ?_
            show A _ _ _ _ _ _ _
            refine a_rseq ?_
            refine rg_upd (d := 44) (v := .d (.fl (.bool ((nx w cal x day).2)))) (nw := [(104, .bx 50 ((ePu (Pu.mk w cal (nx w cal x day).1 day))))]) rfl (og rfl (of_eff (op_callM .p (m := 104) (ob := .bx 50 ((ePu (Pu.mk w cal x day)))) (ob' := .bx 50 ((ePu (Pu.mk w cal (nx w cal x day).1 day)))) (r := .d (.fl (.bool ((nx w cal x day).2)))) rfl Tryd.func18 nm18 rfl rfl rfl rfl rfl rfl .nil (next35 w cal x day hokx ⟨c6, c5⟩ hl0) rfl) rfl)) ?_
            refine rg_put (d := 45) (v := .d (.fl (.bool ((!((nx w cal x day).2)))))) rfl (og rfl (op_un rfl rfl (u_not _) rfl)) ?_
            refine rg_done rfl ?_
            refine a_cond rfl (fun h30 => ?_) (fun h30 => ?_)
            · skip
              have h31 := t_not h30
              refine a_exit ?_
              show A _ _ _ _ _ _ _
              refine a_rseq ?_
              refine rg_put (d := 47) (v := .pt 104 4) rfl (og rfl (of_eff (s_field_pt rfl Tryd.underlying50 rfl ti32 rfl rfl rfl) rfl)) ?_
              refine rg_put (d := 48) (v := .d (.ag (eCs ((Cs.mk (((nx w cal x day).1).id) (((nx w cal x day).1).plate) (((nx w cal x day).1).key) (((nx w cal x day).1).begun) (((nx w cal x day).1).since) (((nx w cal x day).1).stage) (((nx w cal x day).1).owed) (((nx w cal x day).1).paid) (((nx w cal x day).1).paused) ((Ap.mk ((((nx w cal x day).1).ap).state) ((((nx w cal x day).1).ap).ground) ((((nx w cal x day).1).ap).day)))))))) rfl (og rfl (of_eff (s_load_pts rfl Tryd.underlying32 rfl ti32 rfl rfl rfl rfl) rfl)) ?_
              refine rg_sto (nw := [(103, .bx 32 ((eCs ((Cs.mk (((nx w cal x day).1).id) (((nx w cal x day).1).plate) (((nx w cal x day).1).key) (((nx w cal x day).1).begun) (((nx w cal x day).1).since) (((nx w cal x day).1).stage) (((nx w cal x day).1).owed) (((nx w cal x day).1).paid) (((nx w cal x day).1).paused) ((Ap.mk ((((nx w cal x day).1).ap).state) ((((nx w cal x day).1).ap).ground) ((((nx w cal x day).1).ap).day))))))))]) rfl (og rfl (of_eff (s_store rfl rfl ti32 rfl rfl rfl rfl rfl rfl) rfl)) ?_
              refine rg_put (d := 9) (v := .d (.fl (.int .i64 0))) rfl (og rfl (op_assign rfl rfl rfl)) ?_
              refine rg_done rfl ?_
              refine a_ret ?_
              show ∃ ds, ResL _ _ _ ds ∧ RV.of ds = _
              refine ⟨[.ag [.fl (.string (((nx w cal x day).1).id)), .fl (.string (((nx w cal x day).1).plate)), .fl (.string (((nx w cal x day).1).key)), .fl (.int .i64 (((nx w cal x day).1).begun)), .fl (.int .i64 (((nx w cal x day).1).since)), .fl (.int .i64 (((nx w cal x day).1).stage)), .fl (.int .i64 (((nx w cal x day).1).owed)), .fl (.int .i64 (((nx w cal x day).1).paid)), .fl (.int .i64 (((nx w cal x day).1).paused)), .fl (.int .i64 ((((nx w cal x day).1).ap).state)), .fl (.int .i64 ((((nx w cal x day).1).ap).ground)), .fl (.int .i64 ((((nx w cal x day).1).ap).day))], .fl (.int .i64 0)], (.cons (.cellT rfl rfl Tryd.underlying32 rfl ti32 rfl (Cv.ag (xs := [.fl (.string (((nx w cal x day).1).id)), .fl (.string (((nx w cal x day).1).plate)), .fl (.string (((nx w cal x day).1).key)), .fl (.int .i64 (((nx w cal x day).1).begun)), .fl (.int .i64 (((nx w cal x day).1).since)), .fl (.int .i64 (((nx w cal x day).1).stage)), .fl (.int .i64 (((nx w cal x day).1).owed)), .fl (.int .i64 (((nx w cal x day).1).paid)), .fl (.int .i64 (((nx w cal x day).1).paused)), .fl (.int .i64 ((((nx w cal x day).1).ap).state)), .fl (.int .i64 ((((nx w cal x day).1).ap).ground)), .fl (.int .i64 ((((nx w cal x day).1).ap).day))]) (ys := [.fl (.string (((nx w cal x day).1).id)), .fl (.string (((nx w cal x day).1).plate)), .fl (.string (((nx w cal x day).1).key)), .fl (.int .i64 (((nx w cal x day).1).begun)), .fl (.int .i64 (((nx w cal x day).1).since)), .fl (.int .i64 (((nx w cal x day).1).stage)), .fl (.int .i64 (((nx w cal x day).1).owed)), .fl (.int .i64 (((nx w cal x day).1).paid)), .fl (.int .i64 (((nx w cal x day).1).paused)), .fl (.int .i64 ((((nx w cal x day).1).ap).state)), .fl (.int .i64 ((((nx w cal x day).1).ap).ground)), .fl (.int .i64 ((((nx w cal x day).1).ap).day))]) ⟨Cv.refl _, Cv.refl _, Cv.refl _, Cv.refl _, Cv.refl _, Cv.refl _, Cv.refl _, Cv.refl _, Cv.refl _, Cv.refl _, Cv.refl _, Cv.refl _, trivial⟩)) (.cons (.tmp rfl (.d _)) .nil)), ?_⟩
              have hu : adv w cal x day = (((Cs.mk (((nx w cal x day).1).id) (((nx w cal x day).1).plate) (((nx w cal x day).1).key) (((nx w cal x day).1).begun) (((nx w cal x day).1).since) (((nx w cal x day).1).stage) (((nx w cal x day).1).owed) (((nx w cal x day).1).paid) (((nx w cal x day).1).paused) ((Ap.mk ((((nx w cal x day).1).ap).state) ((((nx w cal x day).1).ap).ground) ((((nx w cal x day).1).ap).day))))), 0) := by
                unfold adv sw; simp only [it, ite_self, h1, h4, h7, h19, h28, h30, h31]; rfl
              rw [hu]; rfl
            · skip
              have h32 := f_not h30
              refine a_skip ?_
              show A _ _ _ _ _ _ _
              refine a_rseq ?_
              refine rg_upd (d := 46) (v := .d (.fl (.bool ((nx w cal (nx w cal x day).1 day).2)))) (nw := [(104, .bx 50 ((ePu (Pu.mk w cal (nx w cal (nx w cal x day).1 day).1 day))))]) rfl (og rfl (of_eff (op_callM .p (m := 104) (ob := .bx 50 ((ePu (Pu.mk w cal (nx w cal x day).1 day)))) (ob' := .bx 50 ((ePu (Pu.mk w cal (nx w cal (nx w cal x day).1 day).1 day)))) (r := .d (.fl (.bool ((nx w cal (nx w cal x day).1 day).2)))) rfl Tryd.func18 nm18 rfl rfl rfl rfl rfl rfl .nil (next35 w cal ((nx w cal x day).1) day (nx_ok hokx) ⟨c6, c5⟩ hl0) rfl) rfl)) ?_
              refine rg_done rfl ?_
              refine a_exit ?_
              show A _ _ _ _ _ _ _
              refine a_rseq ?_
              refine rg_put (d := 47) (v := .pt 104 4) rfl (og rfl (of_eff (s_field_pt rfl Tryd.underlying50 rfl ti32 rfl rfl rfl) rfl)) ?_
              refine rg_put (d := 48) (v := .d (.ag (eCs ((Cs.mk (((nx w cal (nx w cal x day).1 day).1).id) (((nx w cal (nx w cal x day).1 day).1).plate) (((nx w cal (nx w cal x day).1 day).1).key) (((nx w cal (nx w cal x day).1 day).1).begun) (((nx w cal (nx w cal x day).1 day).1).since) (((nx w cal (nx w cal x day).1 day).1).stage) (((nx w cal (nx w cal x day).1 day).1).owed) (((nx w cal (nx w cal x day).1 day).1).paid) (((nx w cal (nx w cal x day).1 day).1).paused) ((Ap.mk ((((nx w cal (nx w cal x day).1 day).1).ap).state) ((((nx w cal (nx w cal x day).1 day).1).ap).ground) ((((nx w cal (nx w cal x day).1 day).1).ap).day)))))))) rfl (og rfl (of_eff (s_load_pts rfl Tryd.underlying32 rfl ti32 rfl rfl rfl rfl) rfl)) ?_
              refine rg_sto (nw := [(103, .bx 32 ((eCs ((Cs.mk (((nx w cal (nx w cal x day).1 day).1).id) (((nx w cal (nx w cal x day).1 day).1).plate) (((nx w cal (nx w cal x day).1 day).1).key) (((nx w cal (nx w cal x day).1 day).1).begun) (((nx w cal (nx w cal x day).1 day).1).since) (((nx w cal (nx w cal x day).1 day).1).stage) (((nx w cal (nx w cal x day).1 day).1).owed) (((nx w cal (nx w cal x day).1 day).1).paid) (((nx w cal (nx w cal x day).1 day).1).paused) ((Ap.mk ((((nx w cal (nx w cal x day).1 day).1).ap).state) ((((nx w cal (nx w cal x day).1 day).1).ap).ground) ((((nx w cal (nx w cal x day).1 day).1).ap).day))))))))]) rfl (og rfl (of_eff (s_store rfl rfl ti32 rfl rfl rfl rfl rfl rfl) rfl)) ?_
              refine rg_put (d := 9) (v := .d (.fl (.int .i64 0))) rfl (og rfl (op_assign rfl rfl rfl)) ?_
              refine rg_done rfl ?_
              refine a_ret ?_
              show ∃ ds, ResL _ _ _ ds ∧ RV.of ds = _
              refine ⟨[.ag [.fl (.string (((nx w cal (nx w cal x day).1 day).1).id)), .fl (.string (((nx w cal (nx w cal x day).1 day).1).plate)), .fl (.string (((nx w cal (nx w cal x day).1 day).1).key)), .fl (.int .i64 (((nx w cal (nx w cal x day).1 day).1).begun)), .fl (.int .i64 (((nx w cal (nx w cal x day).1 day).1).since)), .fl (.int .i64 (((nx w cal (nx w cal x day).1 day).1).stage)), .fl (.int .i64 (((nx w cal (nx w cal x day).1 day).1).owed)), .fl (.int .i64 (((nx w cal (nx w cal x day).1 day).1).paid)), .fl (.int .i64 (((nx w cal (nx w cal x day).1 day).1).paused)), .fl (.int .i64 ((((nx w cal (nx w cal x day).1 day).1).ap).state)), .fl (.int .i64 ((((nx w cal (nx w cal x day).1 day).1).ap).ground)), .fl (.int .i64 ((((nx w cal (nx w cal x day).1 day).1).ap).day))], .fl (.int .i64 0)], (.cons (.cellT rfl rfl Tryd.underlying32 rfl ti32 rfl (Cv.ag (xs := [.fl (.string (((nx w cal (nx w cal x day).1 day).1).id)), .fl (.string (((nx w cal (nx w cal x day).1 day).1).plate)), .fl (.string (((nx w cal (nx w cal x day).1 day).1).key)), .fl (.int .i64 (((nx w cal (nx w cal x day).1 day).1).begun)), .fl (.int .i64 (((nx w cal (nx w cal x day).1 day).1).since)), .fl (.int .i64 (((nx w cal (nx w cal x day).1 day).1).stage)), .fl (.int .i64 (((nx w cal (nx w cal x day).1 day).1).owed)), .fl (.int .i64 (((nx w cal (nx w cal x day).1 day).1).paid)), .fl (.int .i64 (((nx w cal (nx w cal x day).1 day).1).paused)), .fl (.int .i64 ((((nx w cal (nx w cal x day).1 day).1).ap).state)), .fl (.int .i64 ((((nx w cal (nx w cal x day).1 day).1).ap).ground)), .fl (.int .i64 ((((nx w cal (nx w cal x day).1 day).1).ap).day))]) (ys := [.fl (.string (((nx w cal (nx w cal x day).1 day).1).id)), .fl (.string (((nx w cal (nx w cal x day).1 day).1).plate)), .fl (.string (((nx w cal (nx w cal x day).1 day).1).key)), .fl (.int .i64 (((nx w cal (nx w cal x day).1 day).1).begun)), .fl (.int .i64 (((nx w cal (nx w cal x day).1 day).1).since)), .fl (.int .i64 (((nx w cal (nx w cal x day).1 day).1).stage)), .fl (.int .i64 (((nx w cal (nx w cal x day).1 day).1).owed)), .fl (.int .i64 (((nx w cal (nx w cal x day).1 day).1).paid)), .fl (.int .i64 (((nx w cal (nx w cal x day).1 day).1).paused)), .fl (.int .i64 ((((nx w cal (nx w cal x day).1 day).1).ap).state)), .fl (.int .i64 ((((nx w cal (nx w cal x day).1 day).1).ap).ground)), .fl (.int .i64 ((((nx w cal (nx w cal x day).1 day).1).ap).day))]) ⟨Cv.refl _, Cv.refl _, Cv.refl _, Cv.refl _, Cv.refl _, Cv.refl _, Cv.refl _, Cv.refl _, Cv.refl _, Cv.refl _, Cv.refl _, Cv.refl _, trivial⟩)) (.cons (.tmp rfl (.d _)) .nil)), ?_⟩
              have hu : adv w cal x day = (((Cs.mk (((nx w cal (nx w cal x day).1 day).1).id) (((nx w cal (nx w cal x day).1 day).1).plate) (((nx w cal (nx w cal x day).1 day).1).key) (((nx w cal (nx w cal x day).1 day).1).begun) (((nx w cal (nx w cal x day).1 day).1).since) (((nx w cal (nx w cal x day).1 day).1).stage) (((nx w cal (nx w cal x day).1 day).1).owed) (((nx w cal (nx w cal x day).1 day).1).paid) (((nx w cal (nx w cal x day).1 day).1).paused) ((Ap.mk ((((nx w cal (nx w cal x day).1 day).1).ap).state) ((((nx w cal (nx w cal x day).1 day).1).ap).ground) ((((nx w cal (nx w cal x day).1 day).1).ap).day))))), 0) := by
                unfold adv sw; simp only [it, ite_self, h1, h4, h7, h19, h28, h30, h32]; rfl
              rw [hu]; rfl
          · skip
            have h33 := f_beq h28
            refine a_skip ?_
            show A _ _ _ _ _ _ _
            refine a_rseq ?_
            refine rg_put (d := 39) (v := .d (.fl (.bool (x.stage == 4)))) rfl (og rfl (op_bin rfl rfl rfl (b_eql _ _ _ _) rfl)) ?_
            refine rg_put (d := 38) (v := .d (.fl (.bool (x.stage == 4)))) rfl (og rfl (op_assign rfl rfl rfl)) ?_
            refine rg_done rfl ?_
            refine a_cond rfl (fun h34 => ?_) (fun h34 => ?_)
            · skip
              have h35 := t_beq h34
              refine a_exit ?_
              show A _ _ _ _ _ _ _
              refine a_rseq ?_
              refine rg_upd (d := 46) (v := .d (.fl (.bool ((nx w cal x day).2)))) (nw := [(104, .bx 50 ((ePu (Pu.mk w cal (nx w cal x day).1 day))))]) rfl (og rfl (of_eff (op_callM .p (m := 104) (ob := .bx 50 ((ePu (Pu.mk w cal x day)))) (ob' := .bx 50 ((ePu (Pu.mk w cal (nx w cal x day).1 day)))) (r := .d (.fl (.bool ((nx w cal x day).2)))) rfl Tryd.func18 nm18 rfl rfl rfl rfl rfl rfl .nil (next35 w cal x day hokx ⟨c6, c5⟩ hl0) rfl) rfl)) ?_
              refine rg_done rfl ?_
              refine a_exit ?_
              show A _ _ _ _ _ _ _
              refine a_rseq ?_
              refine rg_put (d := 47) (v := .pt 104 4) rfl (og rfl (of_eff (s_field_pt rfl Tryd.underlying50 rfl ti32 rfl rfl rfl) rfl)) ?_
              refine rg_put (d := 48) (v := .d (.ag (eCs ((Cs.mk (((nx w cal x day).1).id) (((nx w cal x day).1).plate) (((nx w cal x day).1).key) (((nx w cal x day).1).begun) (((nx w cal x day).1).since) (((nx w cal x day).1).stage) (((nx w cal x day).1).owed) (((nx w cal x day).1).paid) (((nx w cal x day).1).paused) ((Ap.mk ((((nx w cal x day).1).ap).state) ((((nx w cal x day).1).ap).ground) ((((nx w cal x day).1).ap).day)))))))) rfl (og rfl (of_eff (s_load_pts rfl Tryd.underlying32 rfl ti32 rfl rfl rfl rfl) rfl)) ?_
              refine rg_sto (nw := [(103, .bx 32 ((eCs ((Cs.mk (((nx w cal x day).1).id) (((nx w cal x day).1).plate) (((nx w cal x day).1).key) (((nx w cal x day).1).begun) (((nx w cal x day).1).since) (((nx w cal x day).1).stage) (((nx w cal x day).1).owed) (((nx w cal x day).1).paid) (((nx w cal x day).1).paused) ((Ap.mk ((((nx w cal x day).1).ap).state) ((((nx w cal x day).1).ap).ground) ((((nx w cal x day).1).ap).day))))))))]) rfl (og rfl (of_eff (s_store rfl rfl ti32 rfl rfl rfl rfl rfl rfl) rfl)) ?_
              refine rg_put (d := 9) (v := .d (.fl (.int .i64 0))) rfl (og rfl (op_assign rfl rfl rfl)) ?_
              refine rg_done rfl ?_
              refine a_ret ?_
              show ∃ ds, ResL _ _ _ ds ∧ RV.of ds = _
              refine ⟨[.ag [.fl (.string (((nx w cal x day).1).id)), .fl (.string (((nx w cal x day).1).plate)), .fl (.string (((nx w cal x day).1).key)), .fl (.int .i64 (((nx w cal x day).1).begun)), .fl (.int .i64 (((nx w cal x day).1).since)), .fl (.int .i64 (((nx w cal x day).1).stage)), .fl (.int .i64 (((nx w cal x day).1).owed)), .fl (.int .i64 (((nx w cal x day).1).paid)), .fl (.int .i64 (((nx w cal x day).1).paused)), .fl (.int .i64 ((((nx w cal x day).1).ap).state)), .fl (.int .i64 ((((nx w cal x day).1).ap).ground)), .fl (.int .i64 ((((nx w cal x day).1).ap).day))], .fl (.int .i64 0)], (.cons (.cellT rfl rfl Tryd.underlying32 rfl ti32 rfl (Cv.ag (xs := [.fl (.string (((nx w cal x day).1).id)), .fl (.string (((nx w cal x day).1).plate)), .fl (.string (((nx w cal x day).1).key)), .fl (.int .i64 (((nx w cal x day).1).begun)), .fl (.int .i64 (((nx w cal x day).1).since)), .fl (.int .i64 (((nx w cal x day).1).stage)), .fl (.int .i64 (((nx w cal x day).1).owed)), .fl (.int .i64 (((nx w cal x day).1).paid)), .fl (.int .i64 (((nx w cal x day).1).paused)), .fl (.int .i64 ((((nx w cal x day).1).ap).state)), .fl (.int .i64 ((((nx w cal x day).1).ap).ground)), .fl (.int .i64 ((((nx w cal x day).1).ap).day))]) (ys := [.fl (.string (((nx w cal x day).1).id)), .fl (.string (((nx w cal x day).1).plate)), .fl (.string (((nx w cal x day).1).key)), .fl (.int .i64 (((nx w cal x day).1).begun)), .fl (.int .i64 (((nx w cal x day).1).since)), .fl (.int .i64 (((nx w cal x day).1).stage)), .fl (.int .i64 (((nx w cal x day).1).owed)), .fl (.int .i64 (((nx w cal x day).1).paid)), .fl (.int .i64 (((nx w cal x day).1).paused)), .fl (.int .i64 ((((nx w cal x day).1).ap).state)), .fl (.int .i64 ((((nx w cal x day).1).ap).ground)), .fl (.int .i64 ((((nx w cal x day).1).ap).day))]) ⟨Cv.refl _, Cv.refl _, Cv.refl _, Cv.refl _, Cv.refl _, Cv.refl _, Cv.refl _, Cv.refl _, Cv.refl _, Cv.refl _, Cv.refl _, Cv.refl _, trivial⟩)) (.cons (.tmp rfl (.d _)) .nil)), ?_⟩
              have hu : adv w cal x day = (((Cs.mk (((nx w cal x day).1).id) (((nx w cal x day).1).plate) (((nx w cal x day).1).key) (((nx w cal x day).1).begun) (((nx w cal x day).1).since) (((nx w cal x day).1).stage) (((nx w cal x day).1).owed) (((nx w cal x day).1).paid) (((nx w cal x day).1).paused) ((Ap.mk ((((nx w cal x day).1).ap).state) ((((nx w cal x day).1).ap).ground) ((((nx w cal x day).1).ap).day))))), 0) := by
                unfold adv sw; simp only [it, ite_self, h1, h4, h7, h19, h28, h34]; rfl
              rw [hu]; rfl
            · skip
              have h36 := f_beq h34
              refine a_skip ?_
              show A _ _ _ _ _ _ _
              refine a_exit ?_
              show A _ _ _ _ _ _ _
              refine a_rseq ?_
              refine rg_put (d := 47) (v := .pt 104 4) rfl (og rfl (of_eff (s_field_pt rfl Tryd.underlying50 rfl ti32 rfl rfl rfl) rfl)) ?_
              refine rg_put (d := 48) (v := .d (.ag (eCs ((Cs.mk (((Pu.mk w cal x day).x).id) (((Pu.mk w cal x day).x).plate) (((Pu.mk w cal x day).x).key) (((Pu.mk w cal x day).x).begun) (((Pu.mk w cal x day).x).since) (((Pu.mk w cal x day).x).stage) (((Pu.mk w cal x day).x).owed) (((Pu.mk w cal x day).x).paid) (((Pu.mk w cal x day).x).paused) ((Ap.mk ((((Pu.mk w cal x day).x).ap).state) ((((Pu.mk w cal x day).x).ap).ground) ((((Pu.mk w cal x day).x).ap).day)))))))) rfl (og rfl (of_eff (s_load_pts rfl Tryd.underlying32 rfl ti32 rfl rfl rfl rfl) rfl)) ?_
              refine rg_sto (nw := [(103, .bx 32 ((eCs ((Cs.mk (((Pu.mk w cal x day).x).id) (((Pu.mk w cal x day).x).plate) (((Pu.mk w cal x day).x).key) (((Pu.mk w cal x day).x).begun) (((Pu.mk w cal x day).x).since) (((Pu.mk w cal x day).x).stage) (((Pu.mk w cal x day).x).owed) (((Pu.mk w cal x day).x).paid) (((Pu.mk w cal x day).x).paused) ((Ap.mk ((((Pu.mk w cal x day).x).ap).state) ((((Pu.mk w cal x day).x).ap).ground) ((((Pu.mk w cal x day).x).ap).day))))))))]) rfl (og rfl (of_eff (s_store rfl rfl ti32 rfl rfl rfl rfl rfl rfl) rfl)) ?_
              refine rg_put (d := 9) (v := .d (.fl (.int .i64 0))) rfl (og rfl (op_assign rfl rfl rfl)) ?_
              refine rg_done rfl ?_
              refine a_ret ?_
              show ∃ ds, ResL _ _ _ ds ∧ RV.of ds = _
              refine ⟨[.ag [.fl (.string (((Pu.mk w cal x day).x).id)), .fl (.string (((Pu.mk w cal x day).x).plate)), .fl (.string (((Pu.mk w cal x day).x).key)), .fl (.int .i64 (((Pu.mk w cal x day).x).begun)), .fl (.int .i64 (((Pu.mk w cal x day).x).since)), .fl (.int .i64 (((Pu.mk w cal x day).x).stage)), .fl (.int .i64 (((Pu.mk w cal x day).x).owed)), .fl (.int .i64 (((Pu.mk w cal x day).x).paid)), .fl (.int .i64 (((Pu.mk w cal x day).x).paused)), .fl (.int .i64 ((((Pu.mk w cal x day).x).ap).state)), .fl (.int .i64 ((((Pu.mk w cal x day).x).ap).ground)), .fl (.int .i64 ((((Pu.mk w cal x day).x).ap).day))], .fl (.int .i64 0)], (.cons (.cellT rfl rfl Tryd.underlying32 rfl ti32 rfl (Cv.ag (xs := [.fl (.string (((Pu.mk w cal x day).x).id)), .fl (.string (((Pu.mk w cal x day).x).plate)), .fl (.string (((Pu.mk w cal x day).x).key)), .fl (.int .i64 (((Pu.mk w cal x day).x).begun)), .fl (.int .i64 (((Pu.mk w cal x day).x).since)), .fl (.int .i64 (((Pu.mk w cal x day).x).stage)), .fl (.int .i64 (((Pu.mk w cal x day).x).owed)), .fl (.int .i64 (((Pu.mk w cal x day).x).paid)), .fl (.int .i64 (((Pu.mk w cal x day).x).paused)), .fl (.int .i64 ((((Pu.mk w cal x day).x).ap).state)), .fl (.int .i64 ((((Pu.mk w cal x day).x).ap).ground)), .fl (.int .i64 ((((Pu.mk w cal x day).x).ap).day))]) (ys := [.fl (.string (((Pu.mk w cal x day).x).id)), .fl (.string (((Pu.mk w cal x day).x).plate)), .fl (.string (((Pu.mk w cal x day).x).key)), .fl (.int .i64 (((Pu.mk w cal x day).x).begun)), .fl (.int .i64 (((Pu.mk w cal x day).x).since)), .fl (.int .i64 (((Pu.mk w cal x day).x).stage)), .fl (.int .i64 (((Pu.mk w cal x day).x).owed)), .fl (.int .i64 (((Pu.mk w cal x day).x).paid)), .fl (.int .i64 (((Pu.mk w cal x day).x).paused)), .fl (.int .i64 ((((Pu.mk w cal x day).x).ap).state)), .fl (.int .i64 ((((Pu.mk w cal x day).x).ap).ground)), .fl (.int .i64 ((((Pu.mk w cal x day).x).ap).day))]) ⟨Cv.refl _, Cv.refl _, Cv.refl _, Cv.refl _, Cv.refl _, Cv.refl _, Cv.refl _, Cv.refl _, Cv.refl _, Cv.refl _, Cv.refl _, Cv.refl _, trivial⟩)) (.cons (.tmp rfl (.d _)) .nil)), ?_⟩
              have hu : adv w cal x day = (((Cs.mk (((Pu.mk w cal x day).x).id) (((Pu.mk w cal x day).x).plate) (((Pu.mk w cal x day).x).key) (((Pu.mk w cal x day).x).begun) (((Pu.mk w cal x day).x).since) (((Pu.mk w cal x day).x).stage) (((Pu.mk w cal x day).x).owed) (((Pu.mk w cal x day).x).paid) (((Pu.mk w cal x day).x).paused) ((Ap.mk ((((Pu.mk w cal x day).x).ap).state) ((((Pu.mk w cal x day).x).ap).ground) ((((Pu.mk w cal x day).x).ap).day))))), 0) := by
                unfold adv sw; simp only [it, ite_self, h1, h4, h7, h19, h28, h34]; rfl
              rw [hu]; rfl
end Go.Proofs.YtdafmaocbkmmgaaDoor.Wk
