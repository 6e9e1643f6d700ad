/- Appeals are filed and decided. No condition. -/
import Derived.Test.YtdafmaocbkmmgaaDoorB11
set_option linter.unusedSimpArgs false
set_option linter.unusedVariables false
namespace Go.Proofs.YtdafmaocbkmmgaaDoor.Wk
open Go Go.RowKit Go.Proofs.YtdafmaocbkmmgaaDoor.Av
theorem adv17_at {w : Lw} {cal : List Int} {x X : Cs} {day : Int} (h : dn x day = X) (hl0 : cal.length < 9223372036854775807) : Ctr Tryd.prog 7 [.ag (eLw w), .sl 1 (List.map (rI .i64) cal), .ag (eCs X), .fl (.int .i64 day)] (.tu [.ag (eCs (adv w cal (dn x day) day).1), .fl (.int .i64 (adv w cal (dn x day) day).2)]) := by
  subst h; exact adv17 w cal (dn x day) day hl0
theorem fil10 (w : Lw) (cal : List Int) (x : Cs) (g day : Int) (hl0 : cal.length < 9223372036854775807) : Ctr Tryd.prog 9 [.ag (eLw w), .sl 1 (List.map (rI .i64) cal), .ag (eCs x), .fl (.int .i64 g), .fl (.int .i64 day)] (.tu [.ag (eCs (fil w cal x g day).1), .fl (.int .i64 (fil w cal x g day).2)]) := by
  refine ctr (n := 68) (rs := #[.cell 10 32, .tmp 11]) (L := [(0, .d (.ag (eLw w))), (1, .d (.sl 1 (List.map (rI .i64) cal))), (2, .d (.ag (eCs x))), (3, .d (.fl (.int .i64 g))), (4, .d (.fl (.int .i64 day)))]) Tryd.func9 rfl rfl rfl rfl rfl (fun w0 U0 => ?_)
  refine a_rseq ?_
  refine rg_nam (d := 5) (v := .pt 101 0) (m := 101) (nw := [(101, .bx 24 (eLw w))]) rfl (og rfl (of_eff (op_box 101 rfl rfl rfl rfl) rfl)) rfl ?_
  refine rg_nam (d := 7) (v := .pt 102 0) (m := 102) (nw := [(102, .bx 32 (eCs x))]) rfl (og rfl (of_eff (op_box 102 rfl rfl rfl rfl) rfl)) rfl ?_
  refine rg_nam (d := 10) (v := .pt 103 0) (m := 103) (nw := [(103, .bx 32 ([.fl (.string (⟨#[]⟩)), .fl (.string (⟨#[]⟩)), .fl (.string (⟨#[]⟩)), .fl (.int .i64 0), .fl (.int .i64 0), .fl (.int .i64 0), .fl (.int .i64 0), .fl (.int .i64 0), .fl (.int .i64 0), .fl (.int .i64 0), .fl (.int .i64 0), .fl (.int .i64 0)]))]) rfl (og rfl (of_eff (s_alloc 103 rfl ti32 (by kernel_rfl) rfl) rfl)) rfl ?_
  refine rg_put (d := 11) (v := .d (.fl (.int .i64 0))) rfl (og rfl (op_assign rfl rfl rfl)) ?_
  refine rg_done rfl ?_
  refine a_rseq ?_
  refine rg_put (d := 16) (v := .d (.ag (eLw w))) rfl (og rfl (of_eff (s_load_pts rfl Tryd.underlying24 rfl ti24 rfl rfl rfl rfl) rfl)) ?_
  refine rg_put (d := 17) (v := .d (.sl 1 (List.map (rI .i64) cal))) rfl (og rfl (op_move rfl rfl rfl)) ?_
  refine rg_put (d := 18) (v := .d (.ag (eCs x))) rfl (og rfl (of_eff (s_load_pts rfl Tryd.underlying32 rfl ti32 rfl rfl rfl rfl) rfl)) ?_
  refine rg_put (d := 19) (v := .d (.fl (.int .i64 day))) rfl (og rfl (op_move rfl rfl rfl)) ?_
  refine rg_put (d := 20) (v := .tu [.ag (eCs ((adv w cal x day).1)), .fl (.int .i64 ((adv w cal x day).2))]) rfl (og rfl (op_call rfl Tryd.func7 nm7 rfl (.cons rfl (.d _) (.cons rfl (.d _) (.cons rfl (.d _) (.cons rfl (.d _) .nil)))) (adv17 w cal x day hl0) rfl)) ?_
  refine rg_put (d := 15) (v := .tu [.ag (eCs ((adv w cal x day).1)), .fl (.int .i64 ((adv w cal x day).2))]) rfl (og rfl (op_move rfl rfl rfl)) ?_
  refine rg_put (d := 21) (v := .d (.ag (eCs ((adv w cal x day).1)))) rfl (og rfl (op_extract rfl rfl rfl rfl)) ?_
  refine rg_put (d := 22) (v := .d (.fl (.int .i64 ((adv w cal x day).2)))) rfl (og rfl (op_extract rfl rfl rfl rfl)) ?_
  refine rg_sto (nw := [(102, .bx 32 ((eCs ((adv w cal x day).1))))]) rfl (og rfl (of_eff (s_store rfl rfl ti32 rfl rfl rfl rfl rfl rfl) rfl)) ?_
  refine rg_put (d := 12) (v := .d (.fl (.int .i64 ((adv w cal x day).2)))) rfl (og rfl (op_assign rfl rfl rfl)) ?_
  refine rg_done rfl ?_
  refine a_seq ?_
  refine a_rseq ?_
  refine rg_put (d := 23) (v := .d (.fl (.int .i64 ((adv w cal x day).2)))) rfl (og rfl (op_move rfl rfl rfl)) ?_
  refine rg_put (d := 24) (v := .d (.fl (.bool (((adv w cal x day).2 != 0))))) rfl (og rfl (op_bin rfl rfl rfl (b_neq _ _ _ _) rfl)) ?_
  refine rg_done rfl ?_
  refine a_cond rfl (fun h1 => ?_) (fun h1 => ?_)
  · skip
    have h2 := t_bne h1
    refine a_rseq ?_
    refine rg_put (d := 25) (v := .d (.ag (eCs ((Cs.mk (⟨#[]⟩) (⟨#[]⟩) (⟨#[]⟩) 0 0 0 0 0 0 (Ap.mk 0 0 0)))))) rfl (og rfl (of_eff (op_build rfl Tryd.underlying32 ti32 rfl (by kernel_rfl) (by kernel_rfl) (pl := #[(0, 1), (1, 1), (2, 1), (3, 1), (4, 1), (5, 1), (6, 1), (7, 1), (8, 1), (9, 3)]) (by kernel_rfl) .nil rfl) rfl)) ?_
    refine rg_put (d := 26) (v := .d (.fl (.int .i64 ((adv w cal x day).2)))) rfl (og rfl (op_move rfl rfl rfl)) ?_
    refine rg_sto (nw := [(103, .bx 32 ((eCs ((Cs.mk (⟨#[]⟩) (⟨#[]⟩) (⟨#[]⟩) 0 0 0 0 0 0 (Ap.mk 0 0 0))))))]) rfl (og rfl (of_eff (s_store rfl rfl ti32 rfl rfl rfl rfl rfl rfl) rfl)) ?_
    refine rg_put (d := 11) (v := .d (.fl (.int .i64 ((adv w cal x day).2)))) rfl (og rfl (op_assign rfl rfl rfl)) ?_
    refine rg_done rfl ?_
    refine a_ret ?_
    show ∃ ds, ResL _ _ _ ds ∧ RV.of ds = _
    refine ⟨[.ag [.fl (.string (⟨#[]⟩)), .fl (.string (⟨#[]⟩)), .fl (.string (⟨#[]⟩)), .fl (.int .i64 (0)), .fl (.int .i64 (0)), .fl (.int .i64 (0)), .fl (.int .i64 (0)), .fl (.int .i64 (0)), .fl (.int .i64 (0)), .fl (.int .i64 (0)), .fl (.int .i64 (0)), .fl (.int .i64 (0))], .fl (.int .i64 ((adv w cal x day).2))], (.cons (.cellT rfl rfl Tryd.underlying32 rfl ti32 rfl (Cv.ag (xs := [.fl (.string (⟨#[]⟩)), .fl (.string (⟨#[]⟩)), .fl (.string (⟨#[]⟩)), .fl (.int .i64 (0)), .fl (.int .i64 (0)), .fl (.int .i64 (0)), .fl (.int .i64 (0)), .fl (.int .i64 (0)), .fl (.int .i64 (0)), .fl (.int .i64 (0)), .fl (.int .i64 (0)), .fl (.int .i64 (0))]) (ys := [.fl (.string (⟨#[]⟩)), .fl (.string (⟨#[]⟩)), .fl (.string (⟨#[]⟩)), .fl (.int .i64 (0)), .fl (.int .i64 (0)), .fl (.int .i64 (0)), .fl (.int .i64 (0)), .fl (.int .i64 (0)), .fl (.int .i64 (0)), .fl (.int .i64 (0)), .fl (.int .i64 (0)), .fl (.int .i64 (0))]) ⟨Cv.refl _, Cv.refl _, Cv.refl _, Cv.refl _, Cv.refl _, Cv.refl _, Cv.refl _, Cv.refl _, Cv.refl _, Cv.refl _, Cv.refl _, Cv.refl _, trivial⟩)) (.cons (.tmp rfl (.d _)) .nil)), ?_⟩
    have hu : fil w cal x g day = (z0, (adv w cal x day).2) := by
      unfold fil; simp only [h1]; rfl
    rw [hu]; rfl
  · skip
    have h3 := f_bne h1
    refine a_skip ?_
    show A _ _ _ _ _ _ _
    refine a_seq ?_
    refine a_block ?_
    refine a_rseq ?_
    refine rg_put (d := 28) (v := .d (.fl (.int .i64 g))) rfl (og rfl (op_move rfl rfl rfl)) ?_
    refine rg_put (d := 29) (v := .d (.fl (.bool (isG g)))) rfl (og rfl (op_call rfl Tryd.func19 nm19 rfl (.cons rfl (.d _) .nil) (isG24 g) rfl)) ?_
    refine rg_put (d := 30) (v := .d (.fl (.bool ((!(isG g)))))) rfl (og rfl (op_un rfl rfl (u_not _) rfl)) ?_
    refine rg_put (d := 27) (v := .d (.fl (.bool ((!(isG g)))))) rfl (og rfl (op_assign rfl rfl rfl)) ?_
    refine rg_done rfl ?_
    refine a_cond rfl (fun h4 => ?_) (fun h4 => ?_)
    · skip
      have h5 := t_not h4
      refine a_rseq ?_
      refine rg_put (d := 31) (v := .d (.ag (eCs ((Cs.mk (⟨#[]⟩) (⟨#[]⟩) (⟨#[]⟩) 0 0 0 0 0 0 (Ap.mk 0 0 0)))))) rfl (og rfl (of_eff (op_build rfl Tryd.underlying32 ti32 rfl (by kernel_rfl) (by kernel_rfl) (pl := #[(0, 1), (1, 1), (2, 1), (3, 1), (4, 1), (5, 1), (6, 1), (7, 1), (8, 1), (9, 3)]) (by kernel_rfl) .nil rfl) rfl)) ?_
      refine rg_sto (nw := [(103, .bx 32 ((eCs ((Cs.mk (⟨#[]⟩) (⟨#[]⟩) (⟨#[]⟩) 0 0 0 0 0 0 (Ap.mk 0 0 0))))))]) rfl (og rfl (of_eff (s_store rfl rfl ti32 rfl rfl rfl rfl rfl rfl) rfl)) ?_
      refine rg_put (d := 11) (v := .d (.fl (.int .i64 1))) rfl (og rfl (op_assign rfl rfl rfl)) ?_
      refine rg_done rfl ?_
      refine a_ret ?_
      show ∃ ds, ResL _ _ _ ds ∧ RV.of ds = _
      refine ⟨[.ag [.fl (.string (⟨#[]⟩)), .fl (.string (⟨#[]⟩)), .fl (.string (⟨#[]⟩)), .fl (.int .i64 (0)), .fl (.int .i64 (0)), .fl (.int .i64 (0)), .fl (.int .i64 (0)), .fl (.int .i64 (0)), .fl (.int .i64 (0)), .fl (.int .i64 (0)), .fl (.int .i64 (0)), .fl (.int .i64 (0))], .fl (.int .i64 1)], (.cons (.cellT rfl rfl Tryd.underlying32 rfl ti32 rfl (Cv.ag (xs := [.fl (.string (⟨#[]⟩)), .fl (.string (⟨#[]⟩)), .fl (.string (⟨#[]⟩)), .fl (.int .i64 (0)), .fl (.int .i64 (0)), .fl (.int .i64 (0)), .fl (.int .i64 (0)), .fl (.int .i64 (0)), .fl (.int .i64 (0)), .fl (.int .i64 (0)), .fl (.int .i64 (0)), .fl (.int .i64 (0))]) (ys := [.fl (.string (⟨#[]⟩)), .fl (.string (⟨#[]⟩)), .fl (.string (⟨#[]⟩)), .fl (.int .i64 (0)), .fl (.int .i64 (0)), .fl (.int .i64 (0)), .fl (.int .i64 (0)), .fl (.int .i64 (0)), .fl (.int .i64 (0)), .fl (.int .i64 (0)), .fl (.int .i64 (0)), .fl (.int .i64 (0))]) ⟨Cv.refl _, Cv.refl _, Cv.refl _, Cv.refl _, Cv.refl _, Cv.refl _, Cv.refl _, Cv.refl _, Cv.refl _, Cv.refl _, Cv.refl _, Cv.refl _, trivial⟩)) (.cons (.tmp rfl (.d _)) .nil)), ?_⟩
      have hu : fil w cal x g day = (z0, 1) := by
        unfold fil; simp only [h1, h4, h5]; rfl
      rw [hu]; rfl
    · skip
      have h6 := f_not h4
      refine a_rseq ?_
      refine rg_put (d := 33) (v := .d (.ag (eCs (((adv w cal x day).1))))) rfl (og rfl (of_eff (s_load_pts rfl Tryd.underlying32 rfl ti32 rfl rfl rfl rfl) rfl)) ?_
      refine rg_put (d := 34) (v := .d (.fl (.bool ((opn (((adv w cal x day).1))))))) rfl (og rfl (op_call rfl Tryd.func13 nm13 rfl (.cons rfl (.d _) .nil) (opn21 (((adv w cal x day).1))) rfl)) ?_
      refine rg_put (d := 35) (v := .d (.fl (.bool ((!((opn (((adv w cal x day).1))))))))) rfl (og rfl (op_un rfl rfl (u_not _) rfl)) ?_
      refine rg_put (d := 32) (v := .d (.fl (.bool ((!((opn (((adv w cal x day).1))))))))) rfl (og rfl (op_assign rfl rfl rfl)) ?_
      refine rg_done rfl ?_
      refine a_cond rfl (fun h7 => ?_) (fun h7 => ?_)
      · skip
        have h8 := t_not h7
        refine a_rseq ?_
        refine rg_put (d := 36) (v := .d (.ag (eCs ((Cs.mk (⟨#[]⟩) (⟨#[]⟩) (⟨#[]⟩) 0 0 0 0 0 0 (Ap.mk 0 0 0)))))) rfl (og rfl (of_eff (op_build rfl Tryd.underlying32 ti32 rfl (by kernel_rfl) (by kernel_rfl) (pl := #[(0, 1), (1, 1), (2, 1), (3, 1), (4, 1), (5, 1), (6, 1), (7, 1), (8, 1), (9, 3)]) (by kernel_rfl) .nil rfl) rfl)) ?_
        refine rg_sto (nw := [(103, .bx 32 ((eCs ((Cs.mk (⟨#[]⟩) (⟨#[]⟩) (⟨#[]⟩) 0 0 0 0 0 0 (Ap.mk 0 0 0))))))]) rfl (og rfl (of_eff (s_store rfl rfl ti32 rfl rfl rfl rfl rfl rfl) rfl)) ?_
        refine rg_put (d := 11) (v := .d (.fl (.int .i64 28))) rfl (og rfl (op_assign rfl rfl rfl)) ?_
        refine rg_done rfl ?_
        refine a_ret ?_
        show ∃ ds, ResL _ _ _ ds ∧ RV.of ds = _
        refine ⟨[.ag [.fl (.string (⟨#[]⟩)), .fl (.string (⟨#[]⟩)), .fl (.string (⟨#[]⟩)), .fl (.int .i64 (0)), .fl (.int .i64 (0)), .fl (.int .i64 (0)), .fl (.int .i64 (0)), .fl (.int .i64 (0)), .fl (.int .i64 (0)), .fl (.int .i64 (0)), .fl (.int .i64 (0)), .fl (.int .i64 (0))], .fl (.int .i64 28)], (.cons (.cellT rfl rfl Tryd.underlying32 rfl ti32 rfl (Cv.ag (xs := [.fl (.string (⟨#[]⟩)), .fl (.string (⟨#[]⟩)), .fl (.string (⟨#[]⟩)), .fl (.int .i64 (0)), .fl (.int .i64 (0)), .fl (.int .i64 (0)), .fl (.int .i64 (0)), .fl (.int .i64 (0)), .fl (.int .i64 (0)), .fl (.int .i64 (0)), .fl (.int .i64 (0)), .fl (.int .i64 (0))]) (ys := [.fl (.string (⟨#[]⟩)), .fl (.string (⟨#[]⟩)), .fl (.string (⟨#[]⟩)), .fl (.int .i64 (0)), .fl (.int .i64 (0)), .fl (.int .i64 (0)), .fl (.int .i64 (0)), .fl (.int .i64 (0)), .fl (.int .i64 (0)), .fl (.int .i64 (0)), .fl (.int .i64 (0)), .fl (.int .i64 (0))]) ⟨Cv.refl _, Cv.refl _, Cv.refl _, Cv.refl _, Cv.refl _, Cv.refl _, Cv.refl _, Cv.refl _, Cv.refl _, Cv.refl _, Cv.refl _, Cv.refl _, trivial⟩)) (.cons (.tmp rfl (.d _)) .nil)), ?_⟩
        have hu : fil w cal x g day = (z0, 28) := by
          unfold fil; simp only [h1, h4, h6, h7, h8]; rfl
        rw [hu]; rfl
      · skip
        have h9 := f_not h7
        refine a_rseq ?_
        refine rg_put (d := 38) (v := .pt 102 9) rfl (og rfl (of_eff (s_field_pt rfl Tryd.underlying32 rfl ti30 rfl rfl rfl) rfl)) ?_
        refine rg_put (d := 39) (v := .pt 102 9) rfl (og rfl (of_eff (s_field_pt rfl Tryd.underlying30 rfl ti3 rfl rfl rfl) rfl)) ?_
        refine rg_put (d := 40) (v := .d (.fl (.int .i64 ((((adv w cal x day).1).ap).state)))) rfl (og rfl (op_load_pt rfl Tryd.underlying3 rfl rfl rfl rfl rfl)) ?_
        refine rg_put (d := 41) (v := .d (.fl (.bool (((((adv w cal x day).1).ap).state != 0))))) rfl (og rfl (op_bin rfl rfl rfl (b_neq _ _ _ _) rfl)) ?_
        refine rg_put (d := 42) (v := .d (.fl (.bool (((((adv w cal x day).1).ap).state != 0))))) rfl (og rfl (op_move rfl rfl rfl)) ?_
        rcases fot (((((adv w cal x day).1).ap).state != 0)) with h10 | h10
        · skip
          have h11 := f_bne h10
          refine rg_put (d := 43) (v := .pt 102 5) rfl (oy rfl rfl rfl h10 (of_eff (s_field_pt rfl Tryd.underlying32 rfl ti3 rfl rfl rfl) rfl)) ?_
          refine rg_put (d := 44) (v := .d (.fl (.int .i64 (((adv w cal x day).1).stage)))) rfl (oy rfl rfl rfl h10 (op_load_pt rfl Tryd.underlying3 rfl rfl rfl rfl rfl)) ?_
          refine rg_put (d := 45) (v := .d (.fl (.bool ((((adv w cal x day).1).stage == 1))))) rfl (oy rfl rfl rfl h10 (op_bin rfl rfl rfl (b_eql _ _ _ _) rfl)) ?_
          refine rg_put (d := 46) (v := .d (.fl (.bool ((((adv w cal x day).1).stage == 1))))) rfl (og rfl (op_pick rfl rfl (by rw [h10]; rfl) rfl)) ?_
          refine rg_put (d := 37) (v := .d (.fl (.bool ((((adv w cal x day).1).stage == 1))))) rfl (og rfl (op_assign rfl rfl rfl)) ?_
          refine rg_done rfl ?_
          refine a_cond rfl (fun h12 => ?_) (fun h12 => ?_)
          · skip
            have h13 := t_beq h12
            refine a_rseq ?_
            refine rg_put (d := 47) (v := .d (.ag (eCs ((Cs.mk (⟨#[]⟩) (⟨#[]⟩) (⟨#[]⟩) 0 0 0 0 0 0 (Ap.mk 0 0 0)))))) rfl (og rfl (of_eff (op_build rfl Tryd.underlying32 ti32 rfl (by kernel_rfl) (by kernel_rfl) (pl := #[(0, 1), (1, 1), (2, 1), (3, 1), (4, 1), (5, 1), (6, 1), (7, 1), (8, 1), (9, 3)]) (by kernel_rfl) .nil rfl) rfl)) ?_
            refine rg_sto (nw := [(103, .bx 32 ((eCs ((Cs.mk (⟨#[]⟩) (⟨#[]⟩) (⟨#[]⟩) 0 0 0 0 0 0 (Ap.mk 0 0 0))))))]) rfl (og rfl (of_eff (s_store rfl rfl ti32 rfl rfl rfl rfl rfl rfl) rfl)) ?_
            refine rg_put (d := 11) (v := .d (.fl (.int .i64 11))) rfl (og rfl (op_assign rfl rfl rfl)) ?_
            refine rg_done rfl ?_
            refine a_ret ?_
            show ∃ ds, ResL _ _ _ ds ∧ RV.of ds = _
            refine ⟨[.ag [.fl (.string (⟨#[]⟩)), .fl (.string (⟨#[]⟩)), .fl (.string (⟨#[]⟩)), .fl (.int .i64 (0)), .fl (.int .i64 (0)), .fl (.int .i64 (0)), .fl (.int .i64 (0)), .fl (.int .i64 (0)), .fl (.int .i64 (0)), .fl (.int .i64 (0)), .fl (.int .i64 (0)), .fl (.int .i64 (0))], .fl (.int .i64 11)], (.cons (.cellT rfl rfl Tryd.underlying32 rfl ti32 rfl (Cv.ag (xs := [.fl (.string (⟨#[]⟩)), .fl (.string (⟨#[]⟩)), .fl (.string (⟨#[]⟩)), .fl (.int .i64 (0)), .fl (.int .i64 (0)), .fl (.int .i64 (0)), .fl (.int .i64 (0)), .fl (.int .i64 (0)), .fl (.int .i64 (0)), .fl (.int .i64 (0)), .fl (.int .i64 (0)), .fl (.int .i64 (0))]) (ys := [.fl (.string (⟨#[]⟩)), .fl (.string (⟨#[]⟩)), .fl (.string (⟨#[]⟩)), .fl (.int .i64 (0)), .fl (.int .i64 (0)), .fl (.int .i64 (0)), .fl (.int .i64 (0)), .fl (.int .i64 (0)), .fl (.int .i64 (0)), .fl (.int .i64 (0)), .fl (.int .i64 (0)), .fl (.int .i64 (0))]) ⟨Cv.refl _, Cv.refl _, Cv.refl _, Cv.refl _, Cv.refl _, Cv.refl _, Cv.refl _, Cv.refl _, Cv.refl _, Cv.refl _, Cv.refl _, Cv.refl _, trivial⟩)) (.cons (.tmp rfl (.d _)) .nil)), ?_⟩
            have hu : fil w cal x g day = (z0, 11) := by
              unfold fil; simp only [h1, h4, h6, h7, h9, h10, h12]; rfl
            rw [hu]; rfl
          · skip
            have h14 := f_beq h12
            refine a_skip ?_
            show A _ _ _ _ _ _ _
            refine a_seq ?_
            refine a_rseq ?_
            refine rg_put (d := 49) (v := .d (.ag (eLw w))) rfl (og rfl (of_eff (s_load_pts rfl Tryd.underlying24 rfl ti24 rfl rfl rfl rfl) rfl)) ?_
            refine rg_put (d := 50) (v := .d (.sl 1 (List.map (rI .i64) cal))) rfl (og rfl (op_move rfl rfl rfl)) ?_
            refine rg_put (d := 51) (v := .d (.ag (eCs (((adv w cal x day).1))))) rfl (og rfl (of_eff (s_load_pts rfl Tryd.underlying32 rfl ti32 rfl rfl rfl rfl) rfl)) ?_
            refine rg_put (d := 52) (v := .tu [.fl (.int .i64 ((last w cal (((adv w cal x day).1))).1)), .fl (.bool ((last w cal (((adv w cal x day).1))).2))]) rfl (og rfl (op_call rfl Tryd.func20 nm20 rfl (.cons rfl (.d _) (.cons rfl (.d _) (.cons rfl (.d _) .nil))) (last15 w cal (((adv w cal x day).1)) hl0) rfl)) ?_
            refine rg_put (d := 48) (v := .tu [.fl (.int .i64 ((last w cal (((adv w cal x day).1))).1)), .fl (.bool ((last w cal (((adv w cal x day).1))).2))]) rfl (og rfl (op_move rfl rfl rfl)) ?_
            refine rg_put (d := 53) (v := .d (.fl (.int .i64 ((last w cal (((adv w cal x day).1))).1)))) rfl (og rfl (op_extract rfl rfl rfl rfl)) ?_
            refine rg_put (d := 54) (v := .d (.fl (.bool ((last w cal (((adv w cal x day).1))).2)))) rfl (og rfl (op_extract rfl rfl rfl rfl)) ?_
            refine rg_put (d := 13) (v := .d (.fl (.int .i64 ((last w cal (((adv w cal x day).1))).1)))) rfl (og rfl (op_assign rfl rfl rfl)) ?_
            refine rg_put (d := 14) (v := .d (.fl (.bool ((last w cal (((adv w cal x day).1))).2)))) rfl (og rfl (op_assign rfl rfl rfl)) ?_
            refine rg_done rfl ?_
            refine a_rseq ?_
            refine rg_put (d := 55) (v := .d (.fl (.bool ((last w cal (((adv w cal x day).1))).2)))) rfl (og rfl (op_move rfl rfl rfl)) ?_
            refine rg_put (d := 56) (v := .d (.fl (.bool ((!((last w cal (((adv w cal x day).1))).2)))))) rfl (og rfl (op_un rfl rfl (u_not _) rfl)) ?_
            refine rg_put (d := 57) (v := .d (.fl (.bool ((!((last w cal (((adv w cal x day).1))).2)))))) rfl (og rfl (op_move rfl rfl rfl)) ?_
            rcases fot ((!((last w cal (((adv w cal x day).1))).2))) with h15 | h15
            · skip
              have h16 := f_not h15
              refine rg_put (d := 58) (v := .d (.fl (.int .i64 day))) rfl (oy rfl rfl rfl h15 (op_move rfl rfl rfl)) ?_
              refine rg_put (d := 59) (v := .d (.fl (.int .i64 ((last w cal (((adv w cal x day).1))).1)))) rfl (oy rfl rfl rfl h15 (op_move rfl rfl rfl)) ?_
              refine rg_put (d := 60) (v := .d (.fl (.bool ((decide ((last w cal (((adv w cal x day).1))).1 < day)))))) rfl (oy rfl rfl rfl h15 (op_bin rfl rfl rfl (b_gtr _ _ _ _) rfl)) ?_
              refine rg_put (d := 61) (v := .d (.fl (.bool ((decide ((last w cal (((adv w cal x day).1))).1 < day)))))) rfl (og rfl (op_pick rfl rfl (by rw [h15]; rfl) rfl)) ?_
              refine rg_done rfl ?_
              refine a_cond rfl (fun h17 => ?_) (fun h17 => ?_)
              · skip
                have h18 := t_dec h17
                refine a_rseq ?_
                refine rg_put (d := 62) (v := .d (.ag (eCs ((Cs.mk (⟨#[]⟩) (⟨#[]⟩) (⟨#[]⟩) 0 0 0 0 0 0 (Ap.mk 0 0 0)))))) rfl (og rfl (of_eff (op_build rfl Tryd.underlying32 ti32 rfl (by kernel_rfl) (by kernel_rfl) (pl := #[(0, 1), (1, 1), (2, 1), (3, 1), (4, 1), (5, 1), (6, 1), (7, 1), (8, 1), (9, 3)]) (by kernel_rfl) .nil rfl) rfl)) ?_
                refine rg_sto (nw := [(103, .bx 32 ((eCs ((Cs.mk (⟨#[]⟩) (⟨#[]⟩) (⟨#[]⟩) 0 0 0 0 0 0 (Ap.mk 0 0 0))))))]) rfl (og rfl (of_eff (s_store rfl rfl ti32 rfl rfl rfl rfl rfl rfl) rfl)) ?_
                refine rg_put (d := 11) (v := .d (.fl (.int .i64 29))) rfl (og rfl (op_assign rfl rfl rfl)) ?_
                refine rg_done rfl ?_
                refine a_ret ?_
                show ∃ ds, ResL _ _ _ ds ∧ RV.of ds = _
                refine ⟨[.ag [.fl (.string (⟨#[]⟩)), .fl (.string (⟨#[]⟩)), .fl (.string (⟨#[]⟩)), .fl (.int .i64 (0)), .fl (.int .i64 (0)), .fl (.int .i64 (0)), .fl (.int .i64 (0)), .fl (.int .i64 (0)), .fl (.int .i64 (0)), .fl (.int .i64 (0)), .fl (.int .i64 (0)), .fl (.int .i64 (0))], .fl (.int .i64 29)], (.cons (.cellT rfl rfl Tryd.underlying32 rfl ti32 rfl (Cv.ag (xs := [.fl (.string (⟨#[]⟩)), .fl (.string (⟨#[]⟩)), .fl (.string (⟨#[]⟩)), .fl (.int .i64 (0)), .fl (.int .i64 (0)), .fl (.int .i64 (0)), .fl (.int .i64 (0)), .fl (.int .i64 (0)), .fl (.int .i64 (0)), .fl (.int .i64 (0)), .fl (.int .i64 (0)), .fl (.int .i64 (0))]) (ys := [.fl (.string (⟨#[]⟩)), .fl (.string (⟨#[]⟩)), .fl (.string (⟨#[]⟩)), .fl (.int .i64 (0)), .fl (.int .i64 (0)), .fl (.int .i64 (0)), .fl (.int .i64 (0)), .fl (.int .i64 (0)), .fl (.int .i64 (0)), .fl (.int .i64 (0)), .fl (.int .i64 (0)), .fl (.int .i64 (0))]) ⟨Cv.refl _, Cv.refl _, Cv.refl _, Cv.refl _, Cv.refl _, Cv.refl _, Cv.refl _, Cv.refl _, Cv.refl _, Cv.refl _, Cv.refl _, Cv.refl _, trivial⟩)) (.cons (.tmp rfl (.d _)) .nil)), ?_⟩
                have hu : fil w cal x g day = (z0, 29) := by
                  unfold fil; simp only [h1, h4, h6, h7, h9, h10, h12, h15, h16, h17]; rfl
                rw [hu]; rfl
              · skip
                have h19 := f_dec h17
                refine a_skip ?_
                show A _ _ _ _ _ _ _
                refine a_rseq ?_
                refine rg_put (d := 63) (v := .d (.fl (.int .i64 g))) rfl (og rfl (op_move rfl rfl rfl)) ?_
                refine rg_put (d := 64) (v := .d (.fl (.int .i64 day))) rfl (og rfl (op_move rfl rfl rfl)) ?_
                refine rg_put (d := 65) (v := .d (.ag (eAp (Ap.mk 1 g day)))) rfl (og rfl (of_eff (op_build rfl Tryd.underlying30 ti30 rfl (by kernel_rfl) (by kernel_rfl) (pl := #[(0, 1), (1, 1), (2, 1)]) (by kernel_rfl) (.cons rfl rfl (.d _) rfl rfl rfl (.cons rfl rfl (.d _) rfl rfl rfl (.cons rfl rfl (.d _) rfl rfl rfl .nil))) rfl) rfl)) ?_
                refine rg_put (d := 66) (v := .pt 102 9) rfl (og rfl (of_eff (s_field_pt rfl Tryd.underlying32 rfl ti30 rfl rfl rfl) rfl)) ?_
                refine rg_sto (nw := [(102, .bx 32 [.fl (.string (((adv w cal x day).1).id)), .fl (.string (((adv w cal x day).1).plate)), .fl (.string (((adv w cal x day).1).key)), .fl (.int .i64 (((adv w cal x day).1).begun)), .fl (.int .i64 (((adv w cal x day).1).since)), .fl (.int .i64 (((adv w cal x day).1).stage)), .fl (.int .i64 (((adv w cal x day).1).owed)), .fl (.int .i64 (((adv w cal x day).1).paid)), .fl (.int .i64 (((adv w cal x day).1).paused)), .fl (.int .i64 ((Ap.mk 1 g day).state)), .fl (.int .i64 ((Ap.mk 1 g day).ground)), .fl (.int .i64 ((Ap.mk 1 g day).day))])]) rfl (og rfl (of_eff (s_store rfl rfl ti30 rfl rfl rfl rfl rfl rfl) rfl)) ?_
                refine rg_done rfl ?_
                refine a_rseq ?_
                refine rg_put (d := 67) (v := .d (.ag (eCs ((Cs.mk (((adv w cal x day).1).id) (((adv w cal x day).1).plate) (((adv w cal x day).1).key) (((adv w cal x day).1).begun) (((adv w cal x day).1).since) (((adv w cal x day).1).stage) (((adv w cal x day).1).owed) (((adv w cal x day).1).paid) (((adv w cal x day).1).paused) (Ap.mk 1 g day)))))) rfl (og rfl (of_eff (s_load_pts rfl Tryd.underlying32 rfl ti32 rfl rfl rfl rfl) rfl)) ?_
                refine rg_sto (nw := [(103, .bx 32 ((eCs ((Cs.mk (((adv w cal x day).1).id) (((adv w cal x day).1).plate) (((adv w cal x day).1).key) (((adv w cal x day).1).begun) (((adv w cal x day).1).since) (((adv w cal x day).1).stage) (((adv w cal x day).1).owed) (((adv w cal x day).1).paid) (((adv w cal x day).1).paused) (Ap.mk 1 g day))))))]) rfl (og rfl (of_eff (s_store rfl rfl ti32 rfl rfl rfl rfl rfl rfl) rfl)) ?_
                refine rg_put (d := 11) (v := .d (.fl (.int .i64 0))) rfl (og rfl (op_assign rfl rfl rfl)) ?_
                refine rg_done rfl ?_
                refine a_ret ?_
                show ∃ ds, ResL _ _ _ ds ∧ RV.of ds = _
                refine ⟨[.ag [.fl (.string (((adv w cal x day).1).id)), .fl (.string (((adv w cal x day).1).plate)), .fl (.string (((adv w cal x day).1).key)), .fl (.int .i64 (((adv w cal x day).1).begun)), .fl (.int .i64 (((adv w cal x day).1).since)), .fl (.int .i64 (((adv w cal x day).1).stage)), .fl (.int .i64 (((adv w cal x day).1).owed)), .fl (.int .i64 (((adv w cal x day).1).paid)), .fl (.int .i64 (((adv w cal x day).1).paused)), .fl (.int .i64 (1)), .fl (.int .i64 (g)), .fl (.int .i64 (day))], .fl (.int .i64 0)], (.cons (.cellT rfl rfl Tryd.underlying32 rfl ti32 rfl (Cv.ag (xs := [.fl (.string (((adv w cal x day).1).id)), .fl (.string (((adv w cal x day).1).plate)), .fl (.string (((adv w cal x day).1).key)), .fl (.int .i64 (((adv w cal x day).1).begun)), .fl (.int .i64 (((adv w cal x day).1).since)), .fl (.int .i64 (((adv w cal x day).1).stage)), .fl (.int .i64 (((adv w cal x day).1).owed)), .fl (.int .i64 (((adv w cal x day).1).paid)), .fl (.int .i64 (((adv w cal x day).1).paused)), .fl (.int .i64 (1)), .fl (.int .i64 (g)), .fl (.int .i64 (day))]) (ys := [.fl (.string (((adv w cal x day).1).id)), .fl (.string (((adv w cal x day).1).plate)), .fl (.string (((adv w cal x day).1).key)), .fl (.int .i64 (((adv w cal x day).1).begun)), .fl (.int .i64 (((adv w cal x day).1).since)), .fl (.int .i64 (((adv w cal x day).1).stage)), .fl (.int .i64 (((adv w cal x day).1).owed)), .fl (.int .i64 (((adv w cal x day).1).paid)), .fl (.int .i64 (((adv w cal x day).1).paused)), .fl (.int .i64 (1)), .fl (.int .i64 (g)), .fl (.int .i64 (day))]) ⟨Cv.refl _, Cv.refl _, Cv.refl _, Cv.refl _, Cv.refl _, Cv.refl _, Cv.refl _, Cv.refl _, Cv.refl _, Cv.refl _, Cv.refl _, Cv.refl _, trivial⟩)) (.cons (.tmp rfl (.d _)) .nil)), ?_⟩
                have hu : fil w cal x g day = ({ (adv w cal x day).1 with ap := Ap.mk 1 g day }, 0) := by
                  unfold fil; simp only [h1, h4, h6, h7, h9, h10, h12, h15, h16, h17]; rfl
                rw [hu]; rfl
            · skip
              have h20 := t_not h15
              refine rg_put (d := 58) (v := .d (.fl undef)) rfl (on rfl rfl rfl h15) ?_
              refine rg_put (d := 59) (v := .d (.fl undef)) rfl (on rfl rfl rfl h15) ?_
              refine rg_put (d := 60) (v := .d (.fl undef)) rfl (on rfl rfl rfl h15) ?_
              refine rg_put (d := 61) (v := .d (.fl (.bool true))) rfl (og rfl (op_pick rfl rfl (by rw [h15]; rfl) rfl)) ?_
              refine rg_done rfl ?_
              refine a_condK rfl rfl ?_
              refine a_rseq ?_
              refine rg_put (d := 62) (v := .d (.ag (eCs ((Cs.mk (⟨#[]⟩) (⟨#[]⟩) (⟨#[]⟩) 0 0 0 0 0 0 (Ap.mk 0 0 0)))))) rfl (og rfl (of_eff (op_build rfl Tryd.underlying32 ti32 rfl (by kernel_rfl) (by kernel_rfl) (pl := #[(0, 1), (1, 1), (2, 1), (3, 1), (4, 1), (5, 1), (6, 1), (7, 1), (8, 1), (9, 3)]) (by kernel_rfl) .nil rfl) rfl)) ?_
              refine rg_sto (nw := [(103, .bx 32 ((eCs ((Cs.mk (⟨#[]⟩) (⟨#[]⟩) (⟨#[]⟩) 0 0 0 0 0 0 (Ap.mk 0 0 0))))))]) rfl (og rfl (of_eff (s_store rfl rfl ti32 rfl rfl rfl rfl rfl rfl) rfl)) ?_
              refine rg_put (d := 11) (v := .d (.fl (.int .i64 29))) rfl (og rfl (op_assign rfl rfl rfl)) ?_
              refine rg_done rfl ?_
              refine a_ret ?_
              show ∃ ds, ResL _ _ _ ds ∧ RV.of ds = _
              refine ⟨[.ag [.fl (.string (⟨#[]⟩)), .fl (.string (⟨#[]⟩)), .fl (.string (⟨#[]⟩)), .fl (.int .i64 (0)), .fl (.int .i64 (0)), .fl (.int .i64 (0)), .fl (.int .i64 (0)), .fl (.int .i64 (0)), .fl (.int .i64 (0)), .fl (.int .i64 (0)), .fl (.int .i64 (0)), .fl (.int .i64 (0))], .fl (.int .i64 29)], (.cons (.cellT rfl rfl Tryd.underlying32 rfl ti32 rfl (Cv.ag (xs := [.fl (.string (⟨#[]⟩)), .fl (.string (⟨#[]⟩)), .fl (.string (⟨#[]⟩)), .fl (.int .i64 (0)), .fl (.int .i64 (0)), .fl (.int .i64 (0)), .fl (.int .i64 (0)), .fl (.int .i64 (0)), .fl (.int .i64 (0)), .fl (.int .i64 (0)), .fl (.int .i64 (0)), .fl (.int .i64 (0))]) (ys := [.fl (.string (⟨#[]⟩)), .fl (.string (⟨#[]⟩)), .fl (.string (⟨#[]⟩)), .fl (.int .i64 (0)), .fl (.int .i64 (0)), .fl (.int .i64 (0)), .fl (.int .i64 (0)), .fl (.int .i64 (0)), .fl (.int .i64 (0)), .fl (.int .i64 (0)), .fl (.int .i64 (0)), .fl (.int .i64 (0))]) ⟨Cv.refl _, Cv.refl _, Cv.refl _, Cv.refl _, Cv.refl _, Cv.refl _, Cv.refl _, Cv.refl _, Cv.refl _, Cv.refl _, Cv.refl _, Cv.refl _, trivial⟩)) (.cons (.tmp rfl (.d _)) .nil)), ?_⟩
              have hu : fil w cal x g day = (z0, 29) := by
                unfold fil; simp only [h1, h4, h6, h7, h9, h10, h12, h15, h20]; rfl
              rw [hu]; rfl
        · skip
          have h21 := t_bne h10
          refine rg_put (d := 43) (v := .d (.fl undef)) rfl (on rfl rfl rfl h10) ?_
          refine rg_put (d := 44) (v := .d (.fl undef)) rfl (on rfl rfl rfl h10) ?_
          refine rg_put (d := 45) (v := .d (.fl undef)) rfl (on rfl rfl rfl h10) ?_
          refine rg_put (d := 46) (v := .d (.fl (.bool true))) rfl (og rfl (op_pick rfl rfl (by rw [h10]; rfl) rfl)) ?_
          refine rg_put (d := 37) (v := .d (.fl (.bool true))) rfl (og rfl (op_assign rfl rfl rfl)) ?_
          refine rg_done rfl ?_
          refine a_condK rfl rfl ?_
          refine a_rseq ?_
          refine rg_put (d := 47) (v := .d (.ag (eCs ((Cs.mk (⟨#[]⟩) (⟨#[]⟩) (⟨#[]⟩) 0 0 0 0 0 0 (Ap.mk 0 0 0)))))) rfl (og rfl (of_eff (op_build rfl Tryd.underlying32 ti32 rfl (by kernel_rfl) (by kernel_rfl) (pl := #[(0, 1), (1, 1), (2, 1), (3, 1), (4, 1), (5, 1), (6, 1), (7, 1), (8, 1), (9, 3)]) (by kernel_rfl) .nil rfl) rfl)) ?_
          refine rg_sto (nw := [(103, .bx 32 ((eCs ((Cs.mk (⟨#[]⟩) (⟨#[]⟩) (⟨#[]⟩) 0 0 0 0 0 0 (Ap.mk 0 0 0))))))]) rfl (og rfl (of_eff (s_store rfl rfl ti32 rfl rfl rfl rfl rfl rfl) rfl)) ?_
          refine rg_put (d := 11) (v := .d (.fl (.int .i64 11))) rfl (og rfl (op_assign rfl rfl rfl)) ?_
          refine rg_done rfl ?_
          refine a_ret ?_
          show ∃ ds, ResL _ _ _ ds ∧ RV.of ds = _
          refine ⟨[.ag [.fl (.string (⟨#[]⟩)), .fl (.string (⟨#[]⟩)), .fl (.string (⟨#[]⟩)), .fl (.int .i64 (0)), .fl (.int .i64 (0)), .fl (.int .i64 (0)), .fl (.int .i64 (0)), .fl (.int .i64 (0)), .fl (.int .i64 (0)), .fl (.int .i64 (0)), .fl (.int .i64 (0)), .fl (.int .i64 (0))], .fl (.int .i64 11)], (.cons (.cellT rfl rfl Tryd.underlying32 rfl ti32 rfl (Cv.ag (xs := [.fl (.string (⟨#[]⟩)), .fl (.string (⟨#[]⟩)), .fl (.string (⟨#[]⟩)), .fl (.int .i64 (0)), .fl (.int .i64 (0)), .fl (.int .i64 (0)), .fl (.int .i64 (0)), .fl (.int .i64 (0)), .fl (.int .i64 (0)), .fl (.int .i64 (0)), .fl (.int .i64 (0)), .fl (.int .i64 (0))]) (ys := [.fl (.string (⟨#[]⟩)), .fl (.string (⟨#[]⟩)), .fl (.string (⟨#[]⟩)), .fl (.int .i64 (0)), .fl (.int .i64 (0)), .fl (.int .i64 (0)), .fl (.int .i64 (0)), .fl (.int .i64 (0)), .fl (.int .i64 (0)), .fl (.int .i64 (0)), .fl (.int .i64 (0)), .fl (.int .i64 (0))]) ⟨Cv.refl _, Cv.refl _, Cv.refl _, Cv.refl _, Cv.refl _, Cv.refl _, Cv.refl _, Cv.refl _, Cv.refl _, Cv.refl _, Cv.refl _, Cv.refl _, trivial⟩)) (.cons (.tmp rfl (.d _)) .nil)), ?_⟩
          have hu : fil w cal x g day = (z0, 11) := by
            unfold fil; simp only [h1, h4, h6, h7, h9, h10]; rfl
          rw [hu]; rfl

set_option maxHeartbeats 4000000 in
set_option maxRecDepth 100000 in
theorem dec13 (w : Lw) (cal : List Int) (x : Cs) (up : Bool) (day : Int) (hl0 : cal.length < 9223372036854775807) : Ctr Tryd.prog 10 [.ag (eLw w), .sl 1 (List.map (rI .i64) cal), .ag (eCs x), .fl (.bool up), .fl (.int .i64 day)] (.tu [.ag (eCs (dec w cal x up day).1), .fl (.int .i64 (dec w cal x up day).2)]) := by
  refine ctr (n := 55) (rs := #[.cell 10 32, .tmp 11]) (L := [(0, .d (.ag (eLw w))), (1, .d (.sl 1 (List.map (rI .i64) cal))), (2, .d (.ag (eCs x))), (3, .d (.fl (.bool up))), (4, .d (.fl (.int .i64 day)))]) Tryd.func10 rfl rfl rfl rfl rfl (fun w0 U0 => ?_)
  refine a_rseq ?_
  refine rg_nam (d := 5) (v := .pt 101 0) (m := 101) (nw := [(101, .bx 24 (eLw w))]) rfl (og rfl (of_eff (op_box 101 rfl rfl rfl rfl) rfl)) rfl ?_
  refine rg_nam (d := 7) (v := .pt 102 0) (m := 102) (nw := [(102, .bx 32 (eCs x))]) rfl (og rfl (of_eff (op_box 102 rfl rfl rfl rfl) rfl)) rfl ?_
  refine rg_nam (d := 10) (v := .pt 103 0) (m := 103) (nw := [(103, .bx 32 ([.fl (.string (⟨#[]⟩)), .fl (.string (⟨#[]⟩)), .fl (.string (⟨#[]⟩)), .fl (.int .i64 0), .fl (.int .i64 0), .fl (.int .i64 0), .fl (.int .i64 0), .fl (.int .i64 0), .fl (.int .i64 0), .fl (.int .i64 0), .fl (.int .i64 0), .fl (.int .i64 0)]))]) rfl (og rfl (of_eff (s_alloc 103 rfl ti32 (by kernel_rfl) rfl) rfl)) rfl ?_
  refine rg_put (d := 11) (v := .d (.fl (.int .i64 0))) rfl (og rfl (op_assign rfl rfl rfl)) ?_
  refine rg_done rfl ?_
  refine a_seq ?_
  refine a_rseq ?_
  refine rg_put (d := 14) (v := .d (.ag (eLw w))) rfl (og rfl (of_eff (s_load_pts rfl Tryd.underlying24 rfl ti24 rfl rfl rfl rfl) rfl)) ?_
  refine rg_put (d := 15) (v := .d (.ag (eCs x))) rfl (og rfl (of_eff (s_load_pts rfl Tryd.underlying32 rfl ti32 rfl rfl rfl rfl) rfl)) ?_
  refine rg_put (d := 16) (v := .d (.fl (.int .i64 day))) rfl (og rfl (op_move rfl rfl rfl)) ?_
  refine rg_put (d := 17) (v := .d (.fl (.int .i64 (chD w x day)))) rfl (og rfl (op_call rfl Tryd.func21 nm21 rfl (.cons rfl (.d _) (.cons rfl (.d _) (.cons rfl (.d _) .nil))) (chD29 w x day) rfl)) ?_
  refine rg_put (d := 12) (v := .d (.fl (.int .i64 (chD w x day)))) rfl (og rfl (op_assign rfl rfl rfl)) ?_
  refine rg_done rfl ?_
  refine a_rseq ?_
  refine rg_put (d := 18) (v := .d (.fl (.int .i64 (chD w x day)))) rfl (og rfl (op_move rfl rfl rfl)) ?_
  refine rg_put (d := 19) (v := .d (.fl (.bool (((chD w x day) != 0))))) rfl (og rfl (op_bin rfl rfl rfl (b_neq _ _ _ _) rfl)) ?_
  refine rg_done rfl ?_
  refine a_cond rfl (fun h1 => ?_) (fun h1 => ?_)
  · skip
    have h2 := t_bne h1
    refine a_rseq ?_
    refine rg_put (d := 20) (v := .d (.ag (eCs ((Cs.mk (⟨#[]⟩) (⟨#[]⟩) (⟨#[]⟩) 0 0 0 0 0 0 (Ap.mk 0 0 0)))))) rfl (og rfl (of_eff (op_build rfl Tryd.underlying32 ti32 rfl (by kernel_rfl) (by kernel_rfl) (pl := #[(0, 1), (1, 1), (2, 1), (3, 1), (4, 1), (5, 1), (6, 1), (7, 1), (8, 1), (9, 3)]) (by kernel_rfl) .nil rfl) rfl)) ?_
    refine rg_put (d := 21) (v := .d (.fl (.int .i64 (chD w x day)))) rfl (og rfl (op_move rfl rfl rfl)) ?_
    refine rg_sto (nw := [(103, .bx 32 ((eCs ((Cs.mk (⟨#[]⟩) (⟨#[]⟩) (⟨#[]⟩) 0 0 0 0 0 0 (Ap.mk 0 0 0))))))]) rfl (og rfl (of_eff (s_store rfl rfl ti32 rfl rfl rfl rfl rfl rfl) rfl)) ?_
    refine rg_put (d := 11) (v := .d (.fl (.int .i64 (chD w x day)))) rfl (og rfl (op_assign rfl rfl rfl)) ?_
    refine rg_done rfl ?_
    refine a_ret ?_
    show ∃ ds, ResL _ _ _ ds ∧ RV.of ds = _
    refine ⟨[.ag [.fl (.string (⟨#[]⟩)), .fl (.string (⟨#[]⟩)), .fl (.string (⟨#[]⟩)), .fl (.int .i64 (0)), .fl (.int .i64 (0)), .fl (.int .i64 (0)), .fl (.int .i64 (0)), .fl (.int .i64 (0)), .fl (.int .i64 (0)), .fl (.int .i64 (0)), .fl (.int .i64 (0)), .fl (.int .i64 (0))], .fl (.int .i64 (chD w x day))], (.cons (.cellT rfl rfl Tryd.underlying32 rfl ti32 rfl (Cv.ag (xs := [.fl (.string (⟨#[]⟩)), .fl (.string (⟨#[]⟩)), .fl (.string (⟨#[]⟩)), .fl (.int .i64 (0)), .fl (.int .i64 (0)), .fl (.int .i64 (0)), .fl (.int .i64 (0)), .fl (.int .i64 (0)), .fl (.int .i64 (0)), .fl (.int .i64 (0)), .fl (.int .i64 (0)), .fl (.int .i64 (0))]) (ys := [.fl (.string (⟨#[]⟩)), .fl (.string (⟨#[]⟩)), .fl (.string (⟨#[]⟩)), .fl (.int .i64 (0)), .fl (.int .i64 (0)), .fl (.int .i64 (0)), .fl (.int .i64 (0)), .fl (.int .i64 (0)), .fl (.int .i64 (0)), .fl (.int .i64 (0)), .fl (.int .i64 (0)), .fl (.int .i64 (0))]) ⟨Cv.refl _, Cv.refl _, Cv.refl _, Cv.refl _, Cv.refl _, Cv.refl _, Cv.refl _, Cv.refl _, Cv.refl _, Cv.refl _, Cv.refl _, Cv.refl _, trivial⟩)) (.cons (.tmp rfl (.d _)) .nil)), ?_⟩
    have hu : dec w cal x up day = (z0, (chD w x day)) := by
      unfold dec; simp only [h1]; rfl
    rw [hu]; rfl
  · skip
    have h3 := f_bne h1
    refine a_skip ?_
    show A _ _ _ _ _ _ _
    refine a_rseq ?_
    obtain ⟨e1, e2, e3, e4, e5, e6, e7, e8⟩ := chD_ok (f_bne h1)
    refine rg_put (d := 22) (v := .d (.fl (.int .i64 day))) rfl (og rfl (op_move rfl rfl rfl)) ?_
    refine rg_put (d := 23) (v := .pt 102 9) rfl (og rfl (of_eff (s_field_pt rfl Tryd.underlying32 rfl ti30 rfl rfl rfl) rfl)) ?_
    refine rg_put (d := 24) (v := .pt 102 11) rfl (og rfl (of_eff (s_field_pt rfl Tryd.underlying30 rfl ti3 rfl rfl rfl) rfl)) ?_
    refine rg_put (d := 25) (v := .d (.fl (.int .i64 x.ap.day))) rfl (og rfl (op_load_pt rfl Tryd.underlying3 rfl rfl rfl rfl rfl)) ?_
    refine rg_put (d := 26) (v := .d (.fl (.int .i64 (day - x.ap.day)))) rfl (og rfl (op_bin rfl rfl rfl (fun x y w => b_sub64 _ _ _ x y w (by omega)) rfl)) ?_
    refine rg_put (d := 13) (v := .d (.fl (.int .i64 (day - x.ap.day)))) rfl (og rfl (op_assign rfl rfl rfl)) ?_
    refine rg_done rfl ?_
    refine a_rseq ?_
    refine rg_put (d := 27) (v := .d (.fl (.int .i64 day))) rfl (og rfl (op_move rfl rfl rfl)) ?_
    refine rg_put (d := 28) (v := .pt 102 9) rfl (og rfl (of_eff (s_field_pt rfl Tryd.underlying32 rfl ti30 rfl rfl rfl) rfl)) ?_
    refine rg_put (d := 29) (v := .pt 102 11) rfl (og rfl (of_eff (s_field_pt rfl Tryd.underlying30 rfl ti3 rfl rfl rfl) rfl)) ?_
    refine rg_sto (nw := [(102, .bx 32 [.fl (.string x.id), .fl (.string x.plate), .fl (.string x.key), .fl (.int .i64 x.begun), .fl (.int .i64 x.since), .fl (.int .i64 x.stage), .fl (.int .i64 x.owed), .fl (.int .i64 x.paid), .fl (.int .i64 x.paused), .fl (.int .i64 x.ap.state), .fl (.int .i64 x.ap.ground), .fl (.int .i64 day)])]) rfl (og rfl (of_eff (s_store rfl rfl ti3 rfl rfl rfl rfl rfl rfl) rfl)) ?_
    refine rg_done rfl ?_
    refine a_seq ?_
    refine a_rseq ?_
    refine rg_put (d := 30) (v := .d (.fl (.bool up))) rfl (og rfl (op_move rfl rfl rfl)) ?_
    refine rg_done rfl ?_
    refine a_cond rfl (fun h4 => ?_) (fun h4 => ?_)
    · skip
      refine a_rseq ?_
      refine rg_put (d := 31) (v := .pt 102 5) rfl (og rfl (of_eff (s_field_pt rfl Tryd.underlying32 rfl ti3 rfl rfl rfl) rfl)) ?_
      refine rg_sto (nw := [(102, .bx 32 [.fl (.string x.id), .fl (.string x.plate), .fl (.string x.key), .fl (.int .i64 x.begun), .fl (.int .i64 x.since), .fl (.int .i64 7), .fl (.int .i64 x.owed), .fl (.int .i64 x.paid), .fl (.int .i64 x.paused), .fl (.int .i64 x.ap.state), .fl (.int .i64 x.ap.ground), .fl (.int .i64 day)])]) rfl (og rfl (of_eff (s_store rfl rfl ti3 rfl rfl rfl rfl rfl rfl) rfl)) ?_
      refine rg_done rfl ?_
      refine a_rseq ?_
      refine rg_put (d := 32) (v := .pt 102 9) rfl (og rfl (of_eff (s_field_pt rfl Tryd.underlying32 rfl ti30 rfl rfl rfl) rfl)) ?_
      refine rg_put (d := 33) (v := .pt 102 9) rfl (og rfl (of_eff (s_field_pt rfl Tryd.underlying30 rfl ti3 rfl rfl rfl) rfl)) ?_
      refine rg_sto (nw := [(102, .bx 32 [.fl (.string x.id), .fl (.string x.plate), .fl (.string x.key), .fl (.int .i64 x.begun), .fl (.int .i64 x.since), .fl (.int .i64 7), .fl (.int .i64 x.owed), .fl (.int .i64 x.paid), .fl (.int .i64 x.paused), .fl (.int .i64 2), .fl (.int .i64 x.ap.ground), .fl (.int .i64 day)])]) rfl (og rfl (of_eff (s_store rfl rfl ti3 rfl rfl rfl rfl rfl rfl) rfl)) ?_
      refine rg_done rfl ?_
      refine a_rseq ?_
      refine rg_put (d := 34) (v := .d (.ag (eCs ((Cs.mk x.id x.plate x.key x.begun x.since 7 x.owed x.paid x.paused (Ap.mk 2 x.ap.ground day)))))) rfl (og rfl (of_eff (s_load_pts rfl Tryd.underlying32 rfl ti32 rfl rfl rfl rfl) rfl)) ?_
      refine rg_sto (nw := [(103, .bx 32 ((eCs ((Cs.mk x.id x.plate x.key x.begun x.since 7 x.owed x.paid x.paused (Ap.mk 2 x.ap.ground day))))))]) rfl (og rfl (of_eff (s_store rfl rfl ti32 rfl rfl rfl rfl rfl rfl) rfl)) ?_
      refine rg_put (d := 11) (v := .d (.fl (.int .i64 0))) rfl (og rfl (op_assign rfl rfl rfl)) ?_
      refine rg_done rfl ?_
      refine a_ret ?_
      show ∃ ds, ResL _ _ _ ds ∧ RV.of ds = _
      refine ⟨[.ag [.fl (.string (x.id)), .fl (.string (x.plate)), .fl (.string (x.key)), .fl (.int .i64 (x.begun)), .fl (.int .i64 (x.since)), .fl (.int .i64 (7)), .fl (.int .i64 (x.owed)), .fl (.int .i64 (x.paid)), .fl (.int .i64 (x.paused)), .fl (.int .i64 (2)), .fl (.int .i64 (x.ap.ground)), .fl (.int .i64 (day))], .fl (.int .i64 0)], (.cons (.cellT rfl rfl Tryd.underlying32 rfl ti32 rfl (Cv.ag (xs := [.fl (.string (x.id)), .fl (.string (x.plate)), .fl (.string (x.key)), .fl (.int .i64 (x.begun)), .fl (.int .i64 (x.since)), .fl (.int .i64 (7)), .fl (.int .i64 (x.owed)), .fl (.int .i64 (x.paid)), .fl (.int .i64 (x.paused)), .fl (.int .i64 (2)), .fl (.int .i64 (x.ap.ground)), .fl (.int .i64 (day))]) (ys := [.fl (.string (x.id)), .fl (.string (x.plate)), .fl (.string (x.key)), .fl (.int .i64 (x.begun)), .fl (.int .i64 (x.since)), .fl (.int .i64 (7)), .fl (.int .i64 (x.owed)), .fl (.int .i64 (x.paid)), .fl (.int .i64 (x.paused)), .fl (.int .i64 (2)), .fl (.int .i64 (x.ap.ground)), .fl (.int .i64 (day))]) ⟨Cv.refl _, Cv.refl _, Cv.refl _, Cv.refl _, Cv.refl _, Cv.refl _, Cv.refl _, Cv.refl _, Cv.refl _, Cv.refl _, Cv.refl _, Cv.refl _, trivial⟩)) (.cons (.tmp rfl (.d _)) .nil)), ?_⟩
      have hu : dec w cal x up day = (Cs.mk x.id x.plate x.key x.begun x.since 7 x.owed x.paid x.paused (Ap.mk 2 x.ap.ground day), 0) := by
        unfold dec; simp only [h1, h4]; rfl
      rw [hu]; rfl
    · skip
      refine a_skip ?_
      show A _ _ _ _ _ _ _
      refine a_rseq ?_
      refine rg_put (d := 35) (v := .pt 102 9) rfl (og rfl (of_eff (s_field_pt rfl Tryd.underlying32 rfl ti30 rfl rfl rfl) rfl)) ?_
      refine rg_put (d := 36) (v := .pt 102 9) rfl (og rfl (of_eff (s_field_pt rfl Tryd.underlying30 rfl ti3 rfl rfl rfl) rfl)) ?_
      refine rg_sto (nw := [(102, .bx 32 [.fl (.string x.id), .fl (.string x.plate), .fl (.string x.key), .fl (.int .i64 x.begun), .fl (.int .i64 x.since), .fl (.int .i64 x.stage), .fl (.int .i64 x.owed), .fl (.int .i64 x.paid), .fl (.int .i64 x.paused), .fl (.int .i64 3), .fl (.int .i64 x.ap.ground), .fl (.int .i64 day)])]) rfl (og rfl (of_eff (s_store rfl rfl ti3 rfl rfl rfl rfl rfl rfl) rfl)) ?_
      refine rg_done rfl ?_
      refine a_rseq ?_
      refine rg_put (d := 37) (v := .pt 102 4) rfl (og rfl (of_eff (s_field_pt rfl Tryd.underlying32 rfl ti3 rfl rfl rfl) rfl)) ?_
      refine rg_put (d := 38) (v := .d (.fl (.int .i64 x.since))) rfl (og rfl (op_load_pt rfl Tryd.underlying3 rfl rfl rfl rfl rfl)) ?_
      refine rg_put (d := 39) (v := .d (.fl (.int .i64 (day - x.ap.day)))) rfl (og rfl (op_move rfl rfl rfl)) ?_
      refine rg_put (d := 40) (v := .d (.fl (.int .i64 ((x.since + (day - x.ap.day)))))) rfl (og rfl (op_bin rfl rfl rfl (fun x y w => b_add64 _ _ _ x y w (by omega)) rfl)) ?_
      refine rg_put (d := 41) (v := .pt 102 4) rfl (og rfl (of_eff (s_field_pt rfl Tryd.underlying32 rfl ti3 rfl rfl rfl) rfl)) ?_
      refine rg_sto (nw := [(102, .bx 32 [.fl (.string x.id), .fl (.string x.plate), .fl (.string x.key), .fl (.int .i64 x.begun), .fl (.int .i64 ((x.since + (day - x.ap.day)))), .fl (.int .i64 x.stage), .fl (.int .i64 x.owed), .fl (.int .i64 x.paid), .fl (.int .i64 x.paused), .fl (.int .i64 3), .fl (.int .i64 x.ap.ground), .fl (.int .i64 day)])]) rfl (og rfl (of_eff (s_store rfl rfl ti3 rfl rfl rfl rfl rfl rfl) rfl)) ?_
      refine rg_done rfl ?_
      refine a_rseq ?_
      refine rg_put (d := 42) (v := .pt 102 8) rfl (og rfl (of_eff (s_field_pt rfl Tryd.underlying32 rfl ti3 rfl rfl rfl) rfl)) ?_
      refine rg_put (d := 43) (v := .d (.fl (.int .i64 x.paused))) rfl (og rfl (op_load_pt rfl Tryd.underlying3 rfl rfl rfl rfl rfl)) ?_
      refine rg_put (d := 44) (v := .d (.fl (.int .i64 (day - x.ap.day)))) rfl (og rfl (op_move rfl rfl rfl)) ?_
      refine rg_put (d := 45) (v := .d (.fl (.int .i64 ((x.paused + (day - x.ap.day)))))) rfl (og rfl (op_bin rfl rfl rfl (fun x y w => b_add64 _ _ _ x y w (by omega)) rfl)) ?_
      refine rg_put (d := 46) (v := .d (.fl (.int .i64 ((min ((x.paused + (day - x.ap.day))) 795364))))) rfl (og rfl (op_min rfl rfl rfl rfl)) ?_
      refine rg_put (d := 47) (v := .pt 102 8) rfl (og rfl (of_eff (s_field_pt rfl Tryd.underlying32 rfl ti3 rfl rfl rfl) rfl)) ?_
      refine rg_sto (nw := [(102, .bx 32 [.fl (.string x.id), .fl (.string x.plate), .fl (.string x.key), .fl (.int .i64 x.begun), .fl (.int .i64 ((x.since + (day - x.ap.day)))), .fl (.int .i64 x.stage), .fl (.int .i64 x.owed), .fl (.int .i64 x.paid), .fl (.int .i64 ((min ((x.paused + (day - x.ap.day))) 795364))), .fl (.int .i64 3), .fl (.int .i64 x.ap.ground), .fl (.int .i64 day)])]) rfl (og rfl (of_eff (s_store rfl rfl ti3 rfl rfl rfl rfl rfl rfl) rfl)) ?_
      refine rg_done rfl ?_
      refine a_rseq ?_
      refine rg_put (d := 48) (v := .d (.ag (eLw w))) rfl (og rfl (of_eff (s_load_pts rfl Tryd.underlying24 rfl ti24 rfl rfl rfl rfl) rfl)) ?_
      refine rg_put (d := 49) (v := .d (.sl 1 (List.map (rI .i64) cal))) rfl (og rfl (op_move rfl rfl rfl)) ?_
      refine rg_put (d := 50) (v := .d (.ag (eCs ((Cs.mk x.id x.plate x.key x.begun ((x.since + (day - x.ap.day))) x.stage x.owed x.paid ((min ((x.paused + (day - x.ap.day))) 795364)) (Ap.mk 3 x.ap.ground day)))))) rfl (og rfl (of_eff (s_load_pts rfl Tryd.underlying32 rfl ti32 rfl rfl rfl rfl) rfl)) ?_
      refine rg_put (d := 51) (v := .d (.fl (.int .i64 day))) rfl (og rfl (op_move rfl rfl rfl)) ?_
      refine rg_put (d := 52) (v := .tu [.ag (eCs ((adv w cal (dn x day) day).1)), .fl (.int .i64 ((adv w cal (dn x day) day).2))]) rfl (og rfl (op_call rfl Tryd.func7 nm7 rfl (.cons rfl (.d _) (.cons rfl (.d _) (.cons rfl (.d _) (.cons rfl (.d _) .nil)))) (adv17_at (w := w) (cal := cal) (x := x) (X := (Cs.mk x.id x.plate x.key x.begun ((x.since + (day - x.ap.day))) x.stage x.owed x.paid ((min ((x.paused + (day - x.ap.day))) 795364)) (Ap.mk 3 x.ap.ground day))) (day := day) (by unfold dn; first | rfl | (congr 1 <;> omega)) hl0) rfl)) ?_
      refine rg_put (d := 53) (v := .d (.ag (eCs ((adv w cal (dn x day) day).1)))) rfl (og rfl (op_extract rfl rfl rfl rfl)) ?_
      refine rg_put (d := 54) (v := .d (.fl (.int .i64 ((adv w cal (dn x day) day).2)))) rfl (og rfl (op_extract rfl rfl rfl rfl)) ?_
      refine rg_sto (nw := [(103, .bx 32 ((eCs ((adv w cal (dn x day) day).1))))]) rfl (og rfl (of_eff (s_store rfl rfl ti32 rfl rfl rfl rfl rfl rfl) rfl)) ?_
      refine rg_put (d := 11) (v := .d (.fl (.int .i64 ((adv w cal (dn x day) day).2)))) rfl (og rfl (op_assign rfl rfl rfl)) ?_
      refine rg_done rfl ?_
      refine a_ret ?_
      show ∃ ds, ResL _ _ _ ds ∧ RV.of ds = _
      refine ⟨[.ag [.fl (.string (((adv w cal (dn x day) day).1).id)), .fl (.string (((adv w cal (dn x day) day).1).plate)), .fl (.string (((adv w cal (dn x day) day).1).key)), .fl (.int .i64 (((adv w cal (dn x day) day).1).begun)), .fl (.int .i64 (((adv w cal (dn x day) day).1).since)), .fl (.int .i64 (((adv w cal (dn x day) day).1).stage)), .fl (.int .i64 (((adv w cal (dn x day) day).1).owed)), .fl (.int .i64 (((adv w cal (dn x day) day).1).paid)), .fl (.int .i64 (((adv w cal (dn x day) day).1).paused)), .fl (.int .i64 ((((adv w cal (dn x day) day).1).ap).state)), .fl (.int .i64 ((((adv w cal (dn x day) day).1).ap).ground)), .fl (.int .i64 ((((adv w cal (dn x day) day).1).ap).day))], .fl (.int .i64 ((adv w cal (dn x day) day).2))], (.cons (.cellT rfl rfl Tryd.underlying32 rfl ti32 rfl (Cv.ag (xs := [.fl (.string (((adv w cal (dn x day) day).1).id)), .fl (.string (((adv w cal (dn x day) day).1).plate)), .fl (.string (((adv w cal (dn x day) day).1).key)), .fl (.int .i64 (((adv w cal (dn x day) day).1).begun)), .fl (.int .i64 (((adv w cal (dn x day) day).1).since)), .fl (.int .i64 (((adv w cal (dn x day) day).1).stage)), .fl (.int .i64 (((adv w cal (dn x day) day).1).owed)), .fl (.int .i64 (((adv w cal (dn x day) day).1).paid)), .fl (.int .i64 (((adv w cal (dn x day) day).1).paused)), .fl (.int .i64 ((((adv w cal (dn x day) day).1).ap).state)), .fl (.int .i64 ((((adv w cal (dn x day) day).1).ap).ground)), .fl (.int .i64 ((((adv w cal (dn x day) day).1).ap).day))]) (ys := [.fl (.string (((adv w cal (dn x day) day).1).id)), .fl (.string (((adv w cal (dn x day) day).1).plate)), .fl (.string (((adv w cal (dn x day) day).1).key)), .fl (.int .i64 (((adv w cal (dn x day) day).1).begun)), .fl (.int .i64 (((adv w cal (dn x day) day).1).since)), .fl (.int .i64 (((adv w cal (dn x day) day).1).stage)), .fl (.int .i64 (((adv w cal (dn x day) day).1).owed)), .fl (.int .i64 (((adv w cal (dn x day) day).1).paid)), .fl (.int .i64 (((adv w cal (dn x day) day).1).paused)), .fl (.int .i64 ((((adv w cal (dn x day) day).1).ap).state)), .fl (.int .i64 ((((adv w cal (dn x day) day).1).ap).ground)), .fl (.int .i64 ((((adv w cal (dn x day) day).1).ap).day))]) ⟨Cv.refl _, Cv.refl _, Cv.refl _, Cv.refl _, Cv.refl _, Cv.refl _, Cv.refl _, Cv.refl _, Cv.refl _, Cv.refl _, Cv.refl _, Cv.refl _, trivial⟩)) (.cons (.tmp rfl (.d _)) .nil)), ?_⟩
      have hu : dec w cal x up day = adv w cal (dn x day) day := by
        unfold dec; simp only [h1, h4]; rfl
      rw [hu]; rfl

end Go.Proofs.YtdafmaocbkmmgaaDoor.Wk
