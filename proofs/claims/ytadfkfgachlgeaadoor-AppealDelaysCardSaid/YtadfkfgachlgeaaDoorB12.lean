/- Appeals are filed and decided. No condition. -/
import Derived.Test.YtadfkfgachlgeaaDoorB11
set_option linter.unusedSimpArgs false
set_option linter.unusedVariables false
namespace Go.Proofs.YtadfkfgachlgeaaDoor.Wk
open Go Go.RowKit Go.Proofs.YtadfkfgachlgeaaDoor.Av
theorem adv17_at {w : Lw} {cal : List Int} {x X : Cs} {day : Int} (h : dn x day = X) (hl0 : cal.length < 9223372036854775807) : Ctr Tryd.prog 21 [.ag (eLw w), .sl 1 (List.map (rI .i64) cal), .ag (eCs X), .fl (.int .i64 day)] (.tu [.ag (eCs (adv w cal (dn x day) day).1), .fl (.int .i64 (adv w cal (dn x day) day).2)]) := by
  subst h; exact adv17 w cal (dn x day) day hl0
theorem adv18_at {w : Lw} {cal : List Int} {x X : Cs} {day : Int} (h : dn x day = X) (hl0 : cal.length < 9223372036854775807) : Ctr Tryd.prog 25 [.ag (eLw w), .sl 1 (List.map (rI .i64) cal), .ag (eCs X), .fl (.int .i64 day)] (.tu [.ag (eCs (adv w cal (dn x day) day).1), .fl (.int .i64 (adv w cal (dn x day) day).2)]) := by
  subst h; exact adv18 w cal (dn x day) day hl0
set_option maxHeartbeats 4000000 in
set_option maxRecDepth 100000 in
theorem fil10 (w : Lw) (cal : List Int) (x : Cs) (g day : Int) (hl0 : cal.length < 9223372036854775807) : Ctr Tryd.prog 10 [.ag (eLw w), .sl 1 (List.map (rI .i64) cal), .ag (eCs x), .fl (.int .i64 g), .fl (.int .i64 day)] (.tu [.ag (eCs (fil w cal x g day).1), .fl (.int .i64 (fil w cal x g day).2)]) := by
  refine ctr (n := 68) (rs := #[.cell 10 28, .tmp 11]) (L := [(0, .d (.ag (eLw w))), (1, .d (.sl 1 (List.map (rI .i64) cal))), (2, .d (.ag (eCs x))), (3, .d (.fl (.int .i64 g))), (4, .d (.fl (.int .i64 day)))]) Tryd.func10 rfl rfl rfl rfl rfl (fun w0 U0 => ?_)
  refine a_rseq ?_
  refine rg_nam (d := 5) (v := .pt 101 0) (m := 101) (nw := [(101, .bx 24 (eLw w))]) rfl (og rfl (of_eff (op_box 101 rfl rfl rfl rfl) rfl)) rfl ?_
  refine rg_nam (d := 7) (v := .pt 102 0) (m := 102) (nw := [(102, .bx 28 (eCs x))]) rfl (og rfl (of_eff (op_box 102 rfl rfl rfl rfl) rfl)) rfl ?_
  refine rg_nam (d := 10) (v := .pt 103 0) (m := 103) (nw := [(103, .bx 28 ([.fl (.string (⟨#[]⟩)), .fl (.string (⟨#[]⟩)), .fl (.string (⟨#[]⟩)), .fl (.int .i64 0), .fl (.int .i64 0), .fl (.int .i64 0), .fl (.int .i64 0), .fl (.int .i64 0), .fl (.int .i64 0), .fl (.int .i64 0), .fl (.int .i64 0), .fl (.int .i64 0)]))]) rfl (og rfl (of_eff (s_alloc 103 rfl ti28 (by kernel_rfl) rfl) rfl)) rfl ?_
  refine rg_put (d := 11) (v := .d (.fl (.int .i64 0))) rfl (og rfl (op_assign rfl rfl rfl)) ?_
  refine rg_done rfl ?_
  refine a_rseq ?_
  refine rg_put (d := 16) (v := .d (.ag (eLw w))) rfl (og rfl (of_eff (s_load_pts rfl Tryd.underlying24 rfl ti24 rfl rfl rfl rfl) rfl)) ?_
  refine rg_put (d := 17) (v := .d (.sl 1 (List.map (rI .i64) cal))) rfl (og rfl (op_move rfl rfl rfl)) ?_
  refine rg_put (d := 18) (v := .d (.ag (eCs x))) rfl (og rfl (of_eff (s_load_pts rfl Tryd.underlying28 rfl ti28 rfl rfl rfl rfl) rfl)) ?_
  refine rg_put (d := 19) (v := .d (.fl (.int .i64 day))) rfl (og rfl (op_move rfl rfl rfl)) ?_
  refine rg_put (d := 20) (v := .tu [.ag (eCs ((adv w cal x day).1)), .fl (.int .i64 ((adv w cal x day).2))]) rfl (og rfl (op_call rfl Tryd.func21 nm21 rfl (.cons rfl (.d _) (.cons rfl (.d _) (.cons rfl (.d _) (.cons rfl (.d _) .nil)))) (adv17 w cal x day hl0) rfl)) ?_
  refine rg_put (d := 15) (v := .tu [.ag (eCs ((adv w cal x day).1)), .fl (.int .i64 ((adv w cal x day).2))]) rfl (og rfl (op_move rfl rfl rfl)) ?_
  refine rg_put (d := 21) (v := .d (.ag (eCs ((adv w cal x day).1)))) rfl (og rfl (op_extract rfl rfl rfl rfl)) ?_
  refine rg_put (d := 22) (v := .d (.fl (.int .i64 ((adv w cal x day).2)))) rfl (og rfl (op_extract rfl rfl rfl rfl)) ?_
  refine rg_sto (nw := [(102, .bx 28 ((eCs ((adv w cal x day).1))))]) rfl (og rfl (of_eff (s_store rfl rfl ti28 rfl rfl rfl rfl rfl rfl) rfl)) ?_
  refine rg_put (d := 12) (v := .d (.fl (.int .i64 ((adv w cal x day).2)))) rfl (og rfl (op_assign rfl rfl rfl)) ?_
  refine rg_done rfl ?_
  refine a_seq ?_
  refine a_rseq ?_
  refine rg_put (d := 23) (v := .d (.fl (.int .i64 ((adv w cal x day).2)))) rfl (og rfl (op_move rfl rfl rfl)) ?_
  refine rg_put (d := 24) (v := .d (.fl (.bool (((adv w cal x day).2 != 0))))) rfl (og rfl (op_bin rfl rfl rfl (b_neq _ _ _ _) rfl)) ?_
  refine rg_done rfl ?_
  refine a_cond rfl (fun h1 => ?_) (fun h1 => ?_)
  · skip
    have h2 := t_bne h1
    refine a_rseq ?_
    refine rg_put (d := 25) (v := .d (.ag (eCs ((Cs.mk (⟨#[]⟩) (⟨#[]⟩) (⟨#[]⟩) 0 0 0 0 0 0 (Ap.mk 0 0 0)))))) rfl (og rfl (of_eff (op_build rfl Tryd.underlying28 ti28 rfl (by kernel_rfl) (by kernel_rfl) (pl := #[(0, 1), (1, 1), (2, 1), (3, 1), (4, 1), (5, 1), (6, 1), (7, 1), (8, 1), (9, 3)]) (by kernel_rfl) .nil rfl) rfl)) ?_
    refine rg_put (d := 26) (v := .d (.fl (.int .i64 ((adv w cal x day).2)))) rfl (og rfl (op_move rfl rfl rfl)) ?_
    refine rg_sto (nw := [(103, .bx 28 ((eCs ((Cs.mk (⟨#[]⟩) (⟨#[]⟩) (⟨#[]⟩) 0 0 0 0 0 0 (Ap.mk 0 0 0))))))]) rfl (og rfl (of_eff (s_store rfl rfl ti28 rfl rfl rfl rfl rfl rfl) rfl)) ?_
    refine rg_put (d := 11) (v := .d (.fl (.int .i64 ((adv w cal x day).2)))) rfl (og rfl (op_assign rfl rfl rfl)) ?_
    refine rg_done rfl ?_
    refine a_ret ?_
    show ∃ ds, ResL _ _ _ ds ∧ RV.of ds = _
    refine ⟨[.ag [.fl (.string (⟨#[]⟩)), .fl (.string (⟨#[]⟩)), .fl (.string (⟨#[]⟩)), .fl (.int .i64 (0)), .fl (.int .i64 (0)), .fl (.int .i64 (0)), .fl (.int .i64 (0)), .fl (.int .i64 (0)), .fl (.int .i64 (0)), .fl (.int .i64 (0)), .fl (.int .i64 (0)), .fl (.int .i64 (0))], .fl (.int .i64 ((adv w cal x day).2))], (.cons (.cellT rfl rfl Tryd.underlying28 rfl ti28 rfl (Cv.ag (xs := [.fl (.string (⟨#[]⟩)), .fl (.string (⟨#[]⟩)), .fl (.string (⟨#[]⟩)), .fl (.int .i64 (0)), .fl (.int .i64 (0)), .fl (.int .i64 (0)), .fl (.int .i64 (0)), .fl (.int .i64 (0)), .fl (.int .i64 (0)), .fl (.int .i64 (0)), .fl (.int .i64 (0)), .fl (.int .i64 (0))]) (ys := [.fl (.string (⟨#[]⟩)), .fl (.string (⟨#[]⟩)), .fl (.string (⟨#[]⟩)), .fl (.int .i64 (0)), .fl (.int .i64 (0)), .fl (.int .i64 (0)), .fl (.int .i64 (0)), .fl (.int .i64 (0)), .fl (.int .i64 (0)), .fl (.int .i64 (0)), .fl (.int .i64 (0)), .fl (.int .i64 (0))]) ⟨Cv.refl _, Cv.refl _, Cv.refl _, Cv.refl _, Cv.refl _, Cv.refl _, Cv.refl _, Cv.refl _, Cv.refl _, Cv.refl _, Cv.refl _, Cv.refl _, trivial⟩)) (.cons (.tmp rfl (.d _)) .nil)), ?_⟩
    have hu : fil w cal x g day = (z0, (adv w cal x day).2) := by
      unfold fil; simp only [h1]; rfl
    rw [hu]; rfl
  · skip
    have h3 := f_bne h1
    refine a_skip ?_
    show A _ _ _ _ _ _ _
    refine a_seq ?_
    refine a_block ?_
    refine a_rseq ?_
    refine rg_put (d := 28) (v := .d (.fl (.int .i64 g))) rfl (og rfl (op_move rfl rfl rfl)) ?_
    refine rg_put (d := 29) (v := .d (.fl (.bool (isG g)))) rfl (og rfl (op_call rfl Tryd.func24 nm24 rfl (.cons rfl (.d _) .nil) (isG24 g) rfl)) ?_
    refine rg_put (d := 30) (v := .d (.fl (.bool ((!(isG g)))))) rfl (og rfl (op_un rfl rfl (u_not _) rfl)) ?_
    refine rg_put (d := 27) (v := .d (.fl (.bool ((!(isG g)))))) rfl (og rfl (op_assign rfl rfl rfl)) ?_
    refine rg_done rfl ?_
    refine a_cond rfl (fun h4 => ?_) (fun h4 => ?_)
    · skip
      have h5 := t_not h4
      refine a_rseq ?_
      refine rg_put (d := 31) (v := .d (.ag (eCs ((Cs.mk (⟨#[]⟩) (⟨#[]⟩) (⟨#[]⟩) 0 0 0 0 0 0 (Ap.mk 0 0 0)))))) rfl (og rfl (of_eff (op_build rfl Tryd.underlying28 ti28 rfl (by kernel_rfl) (by kernel_rfl) (pl := #[(0, 1), (1, 1), (2, 1), (3, 1), (4, 1), (5, 1), (6, 1), (7, 1), (8, 1), (9, 3)]) (by kernel_rfl) .nil rfl) rfl)) ?_
      refine rg_sto (nw := [(103, .bx 28 ((eCs ((Cs.mk (⟨#[]⟩) (⟨#[]⟩) (⟨#[]⟩) 0 0 0 0 0 0 (Ap.mk 0 0 0))))))]) rfl (og rfl (of_eff (s_store rfl rfl ti28 rfl rfl rfl rfl rfl rfl) rfl)) ?_
      refine rg_put (d := 11) (v := .d (.fl (.int .i64 1))) rfl (og rfl (op_assign rfl rfl rfl)) ?_
      refine rg_done rfl ?_
      refine a_ret ?_
      show ∃ ds, ResL _ _ _ ds ∧ RV.of ds = _
      refine ⟨[.ag [.fl (.string (⟨#[]⟩)), .fl (.string (⟨#[]⟩)), .fl (.string (⟨#[]⟩)), .fl (.int .i64 (0)), .fl (.int .i64 (0)), .fl (.int .i64 (0)), .fl (.int .i64 (0)), .fl (.int .i64 (0)), .fl (.int .i64 (0)), .fl (.int .i64 (0)), .fl (.int .i64 (0)), .fl (.int .i64 (0))], .fl (.int .i64 1)], (.cons (.cellT rfl rfl Tryd.underlying28 rfl ti28 rfl (Cv.ag (xs := [.fl (.string (⟨#[]⟩)), .fl (.string (⟨#[]⟩)), .fl (.string (⟨#[]⟩)), .fl (.int .i64 (0)), .fl (.int .i64 (0)), .fl (.int .i64 (0)), .fl (.int .i64 (0)), .fl (.int .i64 (0)), .fl (.int .i64 (0)), .fl (.int .i64 (0)), .fl (.int .i64 (0)), .fl (.int .i64 (0))]) (ys := [.fl (.string (⟨#[]⟩)), .fl (.string (⟨#[]⟩)), .fl (.string (⟨#[]⟩)), .fl (.int .i64 (0)), .fl (.int .i64 (0)), .fl (.int .i64 (0)), .fl (.int .i64 (0)), .fl (.int .i64 (0)), .fl (.int .i64 (0)), .fl (.int .i64 (0)), .fl (.int .i64 (0)), .fl (.int .i64 (0))]) ⟨Cv.refl _, Cv.refl _, Cv.refl _, Cv.refl _, Cv.refl _, Cv.refl _, Cv.refl _, Cv.refl _, Cv.refl _, Cv.refl _, Cv.refl _, Cv.refl _, trivial⟩)) (.cons (.tmp rfl (.d _)) .nil)), ?_⟩
      have hu : fil w cal x g day = (z0, 1) := by
        unfold fil; simp only [h1, h4, h5]; rfl
      rw [hu]; rfl
    · skip
      have h6 := f_not h4
      refine a_rseq ?_
      refine rg_put (d := 33) (v := .d (.ag (eCs (((adv w cal x day).1))))) rfl (og rfl (of_eff (s_load_pts rfl Tryd.underlying28 rfl ti28 rfl rfl rfl rfl) rfl)) ?_
      refine rg_put (d := 34) (v := .d (.fl (.bool ((opn (((adv w cal x day).1))))))) rfl (og rfl (op_call rfl Tryd.func23 nm23 rfl (.cons rfl (.d _) .nil) (opn21 (((adv w cal x day).1))) rfl)) ?_
      refine rg_put (d := 35) (v := .d (.fl (.bool ((!((opn (((adv w cal x day).1))))))))) rfl (og rfl (op_un rfl rfl (u_not _) rfl)) ?_
      refine rg_put (d := 32) (v := .d (.fl (.bool ((!((opn (((adv w cal x day).1))))))))) rfl (og rfl (op_assign rfl rfl rfl)) ?_
      refine rg_done rfl ?_
      refine a_cond rfl (fun h7 => ?_) (fun h7 => ?_)
      · skip
        have h8 := t_not h7
        refine a_rseq ?_
        refine rg_put (d := 36) (v := .d (.ag (eCs ((Cs.mk (⟨#[]⟩) (⟨#[]⟩) (⟨#[]⟩) 0 0 0 0 0 0 (Ap.mk 0 0 0)))))) rfl (og rfl (of_eff (op_build rfl Tryd.underlying28 ti28 rfl (by kernel_rfl) (by kernel_rfl) (pl := #[(0, 1), (1, 1), (2, 1), (3, 1), (4, 1), (5, 1), (6, 1), (7, 1), (8, 1), (9, 3)]) (by kernel_rfl) .nil rfl) rfl)) ?_
        refine rg_sto (nw := [(103, .bx 28 ((eCs ((Cs.mk (⟨#[]⟩) (⟨#[]⟩) (⟨#[]⟩) 0 0 0 0 0 0 (Ap.mk 0 0 0))))))]) rfl (og rfl (of_eff (s_store rfl rfl ti28 rfl rfl rfl rfl rfl rfl) rfl)) ?_
        refine rg_put (d := 11) (v := .d (.fl (.int .i64 28))) rfl (og rfl (op_assign rfl rfl rfl)) ?_
        refine rg_done rfl ?_
        refine a_ret ?_
        show ∃ ds, ResL _ _ _ ds ∧ RV.of ds = _
        refine ⟨[.ag [.fl (.string (⟨#[]⟩)), .fl (.string (⟨#[]⟩)), .fl (.string (⟨#[]⟩)), .fl (.int .i64 (0)), .fl (.int .i64 (0)), .fl (.int .i64 (0)), .fl (.int .i64 (0)), .fl (.int .i64 (0)), .fl (.int .i64 (0)), .fl (.int .i64 (0)), .fl (.int .i64 (0)), .fl (.int .i64 (0))], .fl (.int .i64 28)], (.cons (.cellT rfl rfl Tryd.underlying28 rfl ti28 rfl (Cv.ag (xs := [.fl (.string (⟨#[]⟩)), .fl (.string (⟨#[]⟩)), .fl (.string (⟨#[]⟩)), .fl (.int .i64 (0)), .fl (.int .i64 (0)), .fl (.int .i64 (0)), .fl (.int .i64 (0)), .fl (.int .i64 (0)), .fl (.int .i64 (0)), .fl (.int .i64 (0)), .fl (.int .i64 (0)), .fl (.int .i64 (0))]) (ys := [.fl (.string (⟨#[]⟩)), .fl (.string (⟨#[]⟩)), .fl (.string (⟨#[]⟩)), .fl (.int .i64 (0)), .fl (.int .i64 (0)), .fl (.int .i64 (0)), .fl (.int .i64 (0)), .fl (.int .i64 (0)), .fl (.int .i64 (0)), .fl (.int .i64 (0)), .fl (.int .i64 (0)), .fl (.int .i64 (0))]) ⟨Cv.refl _, Cv.refl _, Cv.refl _, Cv.refl _, Cv.refl _, Cv.refl _, Cv.refl _, Cv.refl _, Cv.refl _, Cv.refl _, Cv.refl _, Cv.refl _, trivial⟩)) (.cons (.tmp rfl (.d _)) .nil)), ?_⟩
        have hu : fil w cal x g day = (z0, 28) := by
          unfold fil; simp only [h1, h4, h6, h7, h8]; rfl
        rw [hu]; rfl
      · skip
        have h9 := f_not h7
        refine a_rseq ?_
        refine rg_put (d := 38) (v := .pt 102 9) rfl (og rfl (of_eff (s_field_pt rfl Tryd.underlying28 rfl ti26 rfl rfl rfl) rfl)) ?_
        refine rg_put (d := 39) (v := .pt 102 9) rfl (og rfl (of_eff (s_field_pt rfl Tryd.underlying26 rfl ti3 rfl rfl rfl) rfl)) ?_
        refine rg_put (d := 40) (v := .d (.fl (.int .i64 ((((adv w cal x day).1).ap).state)))) rfl (og rfl (op_load_pt rfl Tryd.underlying3 rfl rfl rfl rfl rfl)) ?_
        refine rg_put (d := 41) (v := .d (.fl (.bool (((((adv w cal x day).1).ap).state != 0))))) rfl (og rfl (op_bin rfl rfl rfl (b_neq _ _ _ _) rfl)) ?_
        refine rg_put (d := 42) (v := .d (.fl (.bool (((((adv w cal x day).1).ap).state != 0))))) rfl (og rfl (op_move rfl rfl rfl)) ?_
        rcases fot (((((adv w cal x day).1).ap).state != 0)) with h10 | h10
        · skip
          have h11 := f_bne h10
          refine rg_put (d := 43) (v := .pt 102 5) rfl (oy rfl rfl rfl h10 (of_eff (s_field_pt rfl Tryd.underlying28 rfl ti3 rfl rfl rfl) rfl)) ?_
          refine rg_put (d := 44) (v := .d (.fl (.int .i64 (((adv w cal x day).1).stage)))) rfl (oy rfl rfl rfl h10 (op_load_pt rfl Tryd.underlying3 rfl rfl rfl rfl rfl)) ?_
          refine rg_put (d := 45) (v := .d (.fl (.bool ((((adv w cal x day).1).stage == 1))))) rfl (oy rfl rfl rfl h10 (op_bin rfl rfl rfl (b_eql _ _ _ _) rfl)) ?_
          refine rg_put (d := 46) (v := .d (.fl (.bool ((((adv w cal x day).1).stage == 1))))) rfl (og rfl (op_pick rfl rfl (by rw [h10]; rfl) rfl)) ?_
          refine rg_put (d := 37) (v := .d (.fl (.bool ((((adv w cal x day).1).stage == 1))))) rfl (og rfl (op_assign rfl rfl rfl)) ?_
          refine rg_done rfl ?_
          refine a_cond rfl (fun h12 => ?_) (fun h12 => ?_)
          · skip
            have h13 := t_beq h12
            refine a_rseq ?_
            refine rg_put (d := 47) (v := .d (.ag (eCs ((Cs.mk (⟨#[]⟩) (⟨#[]⟩) (⟨#[]⟩) 0 0 0 0 0 0 (Ap.mk 0 0 0)))))) rfl (og rfl (of_eff (op_build rfl Tryd.underlying28 ti28 rfl (by kernel_rfl) (by kernel_rfl) (pl := #[(0, 1), (1, 1), (2, 1), (3, 1), (4, 1), (5, 1), (6, 1), (7, 1), (8, 1), (9, 3)]) (by kernel_rfl) .nil rfl) rfl)) ?_
            refine rg_sto (nw := [(103, .bx 28 ((eCs ((Cs.mk (⟨#[]⟩) (⟨#[]⟩) (⟨#[]⟩) 0 0 0 0 0 0 (Ap.mk 0 0 0))))))]) rfl (og rfl (of_eff (s_store rfl rfl ti28 rfl rfl rfl rfl rfl rfl) rfl)) ?_
            refine rg_put (d := 11) (v := .d (.fl (.int .i64 11))) rfl (og rfl (op_assign rfl rfl rfl)) ?_
            refine rg_done rfl ?_
            refine a_ret ?_
            show ∃ ds, ResL _ _ _ ds ∧ RV.of ds = _
            refine ⟨[.ag [.fl (.string (⟨#[]⟩)), .fl (.string (⟨#[]⟩)), .fl (.string (⟨#[]⟩)), .fl (.int .i64 (0)), .fl (.int .i64 (0)), .fl (.int .i64 (0)), .fl (.int .i64 (0)), .fl (.int .i64 (0)), .fl (.int .i64 (0)), .fl (.int .i64 (0)), .fl (.int .i64 (0)), .fl (.int .i64 (0))], .fl (.int .i64 11)], (.cons (.cellT rfl rfl Tryd.underlying28 rfl ti28 rfl (Cv.ag (xs := [.fl (.string (⟨#[]⟩)), .fl (.string (⟨#[]⟩)), .fl (.string (⟨#[]⟩)), .fl (.int .i64 (0)), .fl (.int .i64 (0)), .fl (.int .i64 (0)), .fl (.int .i64 (0)), .fl (.int .i64 (0)), .fl (.int .i64 (0)), .fl (.int .i64 (0)), .fl (.int .i64 (0)), .fl (.int .i64 (0))]) (ys := [.fl (.string (⟨#[]⟩)), .fl (.string (⟨#[]⟩)), .fl (.string (⟨#[]⟩)), .fl (.int .i64 (0)), .fl (.int .i64 (0)), .fl (.int .i64 (0)), .fl (.int .i64 (0)), .fl (.int .i64 (0)), .fl (.int .i64 (0)), .fl (.int .i64 (0)), .fl (.int .i64 (0)), .fl (.int .i64 (0))]) ⟨Cv.refl _, Cv.refl _, Cv.refl _, Cv.refl _, Cv.refl _, Cv.refl _, Cv.refl _, Cv.refl _, Cv.refl _, Cv.refl _, Cv.refl _, Cv.refl _, trivial⟩)) (.cons (.tmp rfl (.d _)) .nil)), ?_⟩
            have hu : fil w cal x g day = (z0, 11) := by
              unfold fil; simp only [h1, h4, h6, h7, h9, h10, h12]; rfl
            rw [hu]; rfl
          · skip
            have h14 := f_beq h12
            refine a_skip ?_
            show A _ _ _ _ _ _ _
            refine a_seq ?_
            refine a_rseq ?_
            refine rg_put (d := 49) (v := .d (.ag (eLw w))) rfl (og rfl (of_eff (s_load_pts rfl Tryd.underlying24 rfl ti24 rfl rfl rfl rfl) rfl)) ?_
            refine rg_put (d := 50) (v := .d (.sl 1 (List.map (rI .i64) cal))) rfl (og rfl (op_move rfl rfl rfl)) ?_
            refine rg_put (d := 51) (v := .d (.ag (eCs (((adv w cal x day).1))))) rfl (og rfl (of_eff (s_load_pts rfl Tryd.underlying28 rfl ti28 rfl rfl rfl rfl) rfl)) ?_
            refine rg_put (d := 52) (v := .tu [.fl (.int .i64 ((last w cal (((adv w cal x day).1))).1)), .fl (.bool ((last w cal (((adv w cal x day).1))).2))]) rfl (og rfl (op_call rfl Tryd.func15 nm15 rfl (.cons rfl (.d _) (.cons rfl (.d _) (.cons rfl (.d _) .nil))) (last15 w cal (((adv w cal x day).1)) hl0) rfl)) ?_
            refine rg_put (d := 48) (v := .tu [.fl (.int .i64 ((last w cal (((adv w cal x day).1))).1)), .fl (.bool ((last w cal (((adv w cal x day).1))).2))]) rfl (og rfl (op_move rfl rfl rfl)) ?_
            refine rg_put (d := 53) (v := .d (.fl (.int .i64 ((last w cal (((adv w cal x day).1))).1)))) rfl (og rfl (op_extract rfl rfl rfl rfl)) ?_
            refine rg_put (d := 54) (v := .d (.fl (.bool ((last w cal (((adv w cal x day).1))).2)))) rfl (og rfl (op_extract rfl rfl rfl rfl)) ?_
            refine rg_put (d := 13) (v := .d (.fl (.int .i64 ((last w cal (((adv w cal x day).1))).1)))) rfl (og rfl (op_assign rfl rfl rfl)) ?_
            refine rg_put (d := 14) (v := .d (.fl (.bool ((last w cal (((adv w cal x day).1))).2)))) rfl (og rfl (op_assign rfl rfl rfl)) ?_
            refine rg_done rfl ?_
            refine a_rseq ?_
            refine rg_put (d := 55) (v := .d (.fl (.bool ((last w cal (((adv w cal x day).1))).2)))) rfl (og rfl (op_move rfl rfl rfl)) ?_
            refine rg_put (d := 56) (v := .d (.fl (.bool ((!((last w cal (((adv w cal x day).1))).2)))))) rfl (og rfl (op_un rfl rfl (u_not _) rfl)) ?_
            refine rg_put (d := 57) (v := .d (.fl (.bool ((!((last w cal (((adv w cal x day).1))).2)))))) rfl (og rfl (op_move rfl rfl rfl)) ?_
            rcases fot ((!((last w cal (((adv w cal x day).1))).2))) with h15 | h15
            · skip
              have h16 := f_not h15
              refine rg_put (d := 58) (v := .d (.fl (.int .i64 day))) rfl (oy rfl rfl rfl h15 (op_move rfl rfl rfl)) ?_
              refine rg_put (d := 59) (v := .d (.fl (.int .i64 ((last w cal (((adv w cal x day).1))).1)))) rfl (oy rfl rfl rfl h15 (op_move rfl rfl rfl)) ?_
              refine rg_put (d := 60) (v := .d (.fl (.bool ((decide ((last w cal (((adv w cal x day).1))).1 < day)))))) rfl (oy rfl rfl rfl h15 (op_bin rfl rfl rfl (b_gtr _ _ _ _) rfl)) ?_
              refine rg_put (d := 61) (v := .d (.fl (.bool ((decide ((last w cal (((adv w cal x day).1))).1 < day)))))) rfl (og rfl (op_pick rfl rfl (by rw [h15]; rfl) rfl)) ?_
              refine rg_done rfl ?_
              refine a_cond rfl (fun h17 => ?_) (fun h17 => ?_)
              · skip
                have h18 := t_dec h17
                refine a_rseq ?_
                refine rg_put (d := 62) (v := .d (.ag (eCs ((Cs.mk (⟨#[]⟩) (⟨#[]⟩) (⟨#[]⟩) 0 0 0 0 0 0 (Ap.mk 0 0 0)))))) rfl (og rfl (of_eff (op_build rfl Tryd.underlying28 ti28 rfl (by kernel_rfl) (by kernel_rfl) (pl := #[(0, 1), (1, 1), (2, 1), (3, 1), (4, 1), (5, 1), (6, 1), (7, 1), (8, 1), (9, 3)]) (by kernel_rfl) .nil rfl) rfl)) ?_
                refine rg_sto (nw := [(103, .bx 28 ((eCs ((Cs.mk (⟨#[]⟩) (⟨#[]⟩) (⟨#[]⟩) 0 0 0 0 0 0 (Ap.mk 0 0 0))))))]) rfl (og rfl (of_eff (s_store rfl rfl ti28 rfl rfl rfl rfl rfl rfl) rfl)) ?_
                refine rg_put (d := 11) (v := .d (.fl (.int .i64 29))) rfl (og rfl (op_assign rfl rfl rfl)) ?_
                refine rg_done rfl ?_
                refine a_ret ?_
                show ∃ ds, ResL _ _ _ ds ∧ RV.of ds = _
                refine ⟨[.ag [.fl (.string (⟨#[]⟩)), .fl (.string (⟨#[]⟩)), .fl (.string (⟨#[]⟩)), .fl (.int .i64 (0)), .fl (.int .i64 (0)), .fl (.int .i64 (0)), .fl (.int .i64 (0)), .fl (.int .i64 (0)), .fl (.int .i64 (0)), .fl (.int .i64 (0)), .fl (.int .i64 (0)), .fl (.int .i64 (0))], .fl (.int .i64 29)], (.cons (.cellT rfl rfl Tryd.underlying28 rfl ti28 rfl (Cv.ag (xs := [.fl (.string (⟨#[]⟩)), .fl (.string (⟨#[]⟩)), .fl (.string (⟨#[]⟩)), .fl (.int .i64 (0)), .fl (.int .i64 (0)), .fl (.int .i64 (0)), .fl (.int .i64 (0)), .fl (.int .i64 (0)), .fl (.int .i64 (0)), .fl (.int .i64 (0)), .fl (.int .i64 (0)), .fl (.int .i64 (0))]) (ys := [.fl (.string (⟨#[]⟩)), .fl (.string (⟨#[]⟩)), .fl (.string (⟨#[]⟩)), .fl (.int .i64 (0)), .fl (.int .i64 (0)), .fl (.int .i64 (0)), .fl (.int .i64 (0)), .fl (.int .i64 (0)), .fl (.int .i64 (0)), .fl (.int .i64 (0)), .fl (.int .i64 (0)), .fl (.int .i64 (0))]) ⟨Cv.refl _, Cv.refl _, Cv.refl _, Cv.refl _, Cv.refl _, Cv.refl _, Cv.refl _, Cv.refl _, Cv.refl _, Cv.refl _, Cv.refl _, Cv.refl _, trivial⟩)) (.cons (.tmp rfl (.d _)) .nil)), ?_⟩
                have hu : fil w cal x g day = (z0, 29) := by
                  unfold fil; simp only [h1, h4, h6, h7, h9, h10, h12, h15, h16, h17]; rfl
                rw [hu]; rfl
              · skip
                have h19 := f_dec h17
                refine a_skip ?_
                show A _ _ _ _ _ _ _
                refine a_rseq ?_
                refine rg_put (d := 63) (v := .d (.fl (.int .i64 g))) rfl (og rfl (op_move rfl rfl rfl)) ?_
                refine rg_put (d := 64) (v := .d (.fl (.int .i64 day))) rfl (og rfl (op_move rfl rfl rfl)) ?_
                refine rg_put (d := 65) (v := .d (.ag (eAp (Ap.mk 1 g day)))) rfl (og rfl (of_eff (op_build rfl Tryd.underlying26 ti26 rfl (by kernel_rfl) (by kernel_rfl) (pl := #[(0, 1), (1, 1), (2, 1)]) (by kernel_rfl) (.cons rfl rfl (.d _) rfl rfl rfl (.cons rfl rfl (.d _) rfl rfl rfl (.cons rfl rfl (.d _) rfl rfl rfl .nil))) rfl) rfl)) ?_
                refine rg_put (d := 66) (v := .pt 102 9) rfl (og rfl (of_eff (s_field_pt rfl Tryd.underlying28 rfl ti26 rfl rfl rfl) rfl)) ?_
                refine rg_sto (nw := [(102, .bx 28 [.fl (.string (((adv w cal x day).1).id)), .fl (.string (((adv w cal x day).1).plate)), .fl (.string (((adv w cal x day).1).key)), .fl (.int .i64 (((adv w cal x day).1).begun)), .fl (.int .i64 (((adv w cal x day).1).since)), .fl (.int .i64 (((adv w cal x day).1).stage)), .fl (.int .i64 (((adv w cal x day).1).owed)), .fl (.int .i64 (((adv w cal x day).1).paid)), .fl (.int .i64 (((adv w cal x day).1).paused)), .fl (.int .i64 ((Ap.mk 1 g day).state)), .fl (.int .i64 ((Ap.mk 1 g day).ground)), .fl (.int .i64 ((Ap.mk 1 g day).day))])]) rfl (og rfl (of_eff (s_store rfl rfl ti26 rfl rfl rfl rfl rfl rfl) rfl)) ?_
                refine rg_done rfl ?_
                refine a_rseq ?_
                refine rg_put (d := 67) (v := .d (.ag (eCs ((Cs.mk (((adv w cal x day).1).id) (((adv w cal x day).1).plate) (((adv w cal x day).1).key) (((adv w cal x day).1).begun) (((adv w cal x day).1).since) (((adv w cal x day).1).stage) (((adv w cal x day).1).owed) (((adv w cal x day).1).paid) (((adv w cal x day).1).paused) (Ap.mk 1 g day)))))) rfl (og rfl (of_eff (s_load_pts rfl Tryd.underlying28 rfl ti28 rfl rfl rfl rfl) rfl)) ?_
                refine rg_sto (nw := [(103, .bx 28 ((eCs ((Cs.mk (((adv w cal x day).1).id) (((adv w cal x day).1).plate) (((adv w cal x day).1).key) (((adv w cal x day).1).begun) (((adv w cal x day).1).since) (((adv w cal x day).1).stage) (((adv w cal x day).1).owed) (((adv w cal x day).1).paid) (((adv w cal x day).1).paused) (Ap.mk 1 g day))))))]) rfl (og rfl (of_eff (s_store rfl rfl ti28 rfl rfl rfl rfl rfl rfl) rfl)) ?_
                refine rg_put (d := 11) (v := .d (.fl (.int .i64 0))) rfl (og rfl (op_assign rfl rfl rfl)) ?_
                refine rg_done rfl ?_
                refine a_ret ?_
                show ∃ ds, ResL _ _ _ ds ∧ RV.of ds = _
                refine ⟨[.ag [.fl (.string (((adv w cal x day).1).id)), .fl (.string (((adv w cal x day).1).plate)), .fl (.string (((adv w cal x day).1).key)), .fl (.int .i64 (((adv w cal x day).1).begun)), .fl (.int .i64 (((adv w cal x day).1).since)), .fl (.int .i64 (((adv w cal x day).1).stage)), .fl (.int .i64 (((adv w cal x day).1).owed)), .fl (.int .i64 (((adv w cal x day).1).paid)), .fl (.int .i64 (((adv w cal x day).1).paused)), .fl (.int .i64 (1)), .fl (.int .i64 (g)), .fl (.int .i64 (day))], .fl (.int .i64 0)], (.cons (.cellT rfl rfl Tryd.underlying28 rfl ti28 rfl (Cv.ag (xs := [.fl (.string (((adv w cal x day).1).id)), .fl (.string (((adv w cal x day).1).plate)), .fl (.string (((adv w cal x day).1).key)), .fl (.int .i64 (((adv w cal x day).1).begun)), .fl (.int .i64 (((adv w cal x day).1).since)), .fl (.int .i64 (((adv w cal x day).1).stage)), .fl (.int .i64 (((adv w cal x day).1).owed)), .fl (.int .i64 (((adv w cal x day).1).paid)), .fl (.int .i64 (((adv w cal x day).1).paused)), .fl (.int .i64 (1)), .fl (.int .i64 (g)), .fl (.int .i64 (day))]) (ys := [.fl (.string (((adv w cal x day).1).id)), .fl (.string (((adv w cal x day).1).plate)), .fl (.string (((adv w cal x day).1).key)), .fl (.int .i64 (((adv w cal x day).1).begun)), .fl (.int .i64 (((adv w cal x day).1).since)), .fl (.int .i64 (((adv w cal x day).1).stage)), .fl (.int .i64 (((adv w cal x day).1).owed)), .fl (.int .i64 (((adv w cal x day).1).paid)), .fl (.int .i64 (((adv w cal x day).1).paused)), .fl (.int .i64 (1)), .fl (.int .i64 (g)), .fl (.int .i64 (day))]) ⟨Cv.refl _, Cv.refl _, Cv.refl _, Cv.refl _, Cv.refl _, Cv.refl _, Cv.refl _, Cv.refl _, Cv.refl _, Cv.refl _, Cv.refl _, Cv.refl _, trivial⟩)) (.cons (.tmp rfl (.d _)) .nil)), ?_⟩
                have hu : fil w cal x g day = ({ (adv w cal x day).1 with ap := Ap.mk 1 g day }, 0) := by
                  unfold fil; simp only [h1, h4, h6, h7, h9, h10, h12, h15, h16, h17]; rfl
                rw [hu]; rfl
            · skip
              have h20 := t_not h15
              refine rg_put (d := 58) (v := .d (.fl undef)) rfl (on rfl rfl rfl h15) ?_
              refine rg_put (d := 59) (v := .d (.fl undef)) rfl (on rfl rfl rfl h15) ?_
              refine rg_put (d := 60) (v := .d (.fl undef)) rfl (on rfl rfl rfl h15) ?_
              refine rg_put (d := 61) (v := .d (.fl (.bool true))) rfl (og rfl (op_pick rfl rfl (by rw [h15]; rfl) rfl)) ?_
              refine rg_done rfl ?_
              refine a_condK rfl rfl ?_
              refine a_rseq ?_
              refine rg_put (d := 62) (v := .d (.ag (eCs ((Cs.mk (⟨#[]⟩) (⟨#[]⟩) (⟨#[]⟩) 0 0 0 0 0 0 (Ap.mk 0 0 0)))))) rfl (og rfl (of_eff (op_build rfl Tryd.underlying28 ti28 rfl (by kernel_rfl) (by kernel_rfl) (pl := #[(0, 1), (1, 1), (2, 1), (3, 1), (4, 1), (5, 1), (6, 1), (7, 1), (8, 1), (9, 3)]) (by kernel_rfl) .nil rfl) rfl)) ?_
              refine rg_sto (nw := [(103, .bx 28 ((eCs ((Cs.mk (⟨#[]⟩) (⟨#[]⟩) (⟨#[]⟩) 0 0 0 0 0 0 (Ap.mk 0 0 0))))))]) rfl (og rfl (of_eff (s_store rfl rfl ti28 rfl rfl rfl rfl rfl rfl) rfl)) ?_
              refine rg_put (d := 11) (v := .d (.fl (.int .i64 29))) rfl (og rfl (op_assign rfl rfl rfl)) ?_
              refine rg_done rfl ?_
              refine a_ret ?_
              show ∃ ds, ResL _ _ _ ds ∧ RV.of ds = _
              refine ⟨[.ag [.fl (.string (⟨#[]⟩)), .fl (.string (⟨#[]⟩)), .fl (.string (⟨#[]⟩)), .fl (.int .i64 (0)), .fl (.int .i64 (0)), .fl (.int .i64 (0)), .fl (.int .i64 (0)), .fl (.int .i64 (0)), .fl (.int .i64 (0)), .fl (.int .i64 (0)), .fl (.int .i64 (0)), .fl (.int .i64 (0))], .fl (.int .i64 29)], (.cons (.cellT rfl rfl Tryd.underlying28 rfl ti28 rfl (Cv.ag (xs := [.fl (.string (⟨#[]⟩)), .fl (.string (⟨#[]⟩)), .fl (.string (⟨#[]⟩)), .fl (.int .i64 (0)), .fl (.int .i64 (0)), .fl (.int .i64 (0)), .fl (.int .i64 (0)), .fl (.int .i64 (0)), .fl (.int .i64 (0)), .fl (.int .i64 (0)), .fl (.int .i64 (0)), .fl (.int .i64 (0))]) (ys := [.fl (.string (⟨#[]⟩)), .fl (.string (⟨#[]⟩)), .fl (.string (⟨#[]⟩)), .fl (.int .i64 (0)), .fl (.int .i64 (0)), .fl (.int .i64 (0)), .fl (.int .i64 (0)), .fl (.int .i64 (0)), .fl (.int .i64 (0)), .fl (.int .i64 (0)), .fl (.int .i64 (0)), .fl (.int .i64 (0))]) ⟨Cv.refl _, Cv.refl _, Cv.refl _, Cv.refl _, Cv.refl _, Cv.refl _, Cv.refl _, Cv.refl _, Cv.refl _, Cv.refl _, Cv.refl _, Cv.refl _, trivial⟩)) (.cons (.tmp rfl (.d _)) .nil)), ?_⟩
              have hu : fil w cal x g day = (z0, 29) := by
                unfold fil; simp only [h1, h4, h6, h7, h9, h10, h12, h15, h20]; rfl
              rw [hu]; rfl
        · skip
          have h21 := t_bne h10
          refine rg_put (d := 43) (v := .d (.fl undef)) rfl (on rfl rfl rfl h10) ?_
          refine rg_put (d := 44) (v := .d (.fl undef)) rfl (on rfl rfl rfl h10) ?_
          refine rg_put (d := 45) (v := .d (.fl undef)) rfl (on rfl rfl rfl h10) ?_
          refine rg_put (d := 46) (v := .d (.fl (.bool true))) rfl (og rfl (op_pick rfl rfl (by rw [h10]; rfl) rfl)) ?_
          refine rg_put (d := 37) (v := .d (.fl (.bool true))) rfl (og rfl (op_assign rfl rfl rfl)) ?_
          refine rg_done rfl ?_
          refine a_condK rfl rfl ?_
          refine a_rseq ?_
          refine rg_put (d := 47) (v := .d (.ag (eCs ((Cs.mk (⟨#[]⟩) (⟨#[]⟩) (⟨#[]⟩) 0 0 0 0 0 0 (Ap.mk 0 0 0)))))) rfl (og rfl (of_eff (op_build rfl Tryd.underlying28 ti28 rfl (by kernel_rfl) (by kernel_rfl) (pl := #[(0, 1), (1, 1), (2, 1), (3, 1), (4, 1), (5, 1), (6, 1), (7, 1), (8, 1), (9, 3)]) (by kernel_rfl) .nil rfl) rfl)) ?_
          refine rg_sto (nw := [(103, .bx 28 ((eCs ((Cs.mk (⟨#[]⟩) (⟨#[]⟩) (⟨#[]⟩) 0 0 0 0 0 0 (Ap.mk 0 0 0))))))]) rfl (og rfl (of_eff (s_store rfl rfl ti28 rfl rfl rfl rfl rfl rfl) rfl)) ?_
          refine rg_put (d := 11) (v := .d (.fl (.int .i64 11))) rfl (og rfl (op_assign rfl rfl rfl)) ?_
          refine rg_done rfl ?_
          refine a_ret ?_
          show ∃ ds, ResL _ _ _ ds ∧ RV.of ds = _
          refine ⟨[.ag [.fl (.string (⟨#[]⟩)), .fl (.string (⟨#[]⟩)), .fl (.string (⟨#[]⟩)), .fl (.int .i64 (0)), .fl (.int .i64 (0)), .fl (.int .i64 (0)), .fl (.int .i64 (0)), .fl (.int .i64 (0)), .fl (.int .i64 (0)), .fl (.int .i64 (0)), .fl (.int .i64 (0)), .fl (.int .i64 (0))], .fl (.int .i64 11)], (.cons (.cellT rfl rfl Tryd.underlying28 rfl ti28 rfl (Cv.ag (xs := [.fl (.string (⟨#[]⟩)), .fl (.string (⟨#[]⟩)), .fl (.string (⟨#[]⟩)), .fl (.int .i64 (0)), .fl (.int .i64 (0)), .fl (.int .i64 (0)), .fl (.int .i64 (0)), .fl (.int .i64 (0)), .fl (.int .i64 (0)), .fl (.int .i64 (0)), .fl (.int .i64 (0)), .fl (.int .i64 (0))]) (ys := [.fl (.string (⟨#[]⟩)), .fl (.string (⟨#[]⟩)), .fl (.string (⟨#[]⟩)), .fl (.int .i64 (0)), .fl (.int .i64 (0)), .fl (.int .i64 (0)), .fl (.int .i64 (0)), .fl (.int .i64 (0)), .fl (.int .i64 (0)), .fl (.int .i64 (0)), .fl (.int .i64 (0)), .fl (.int .i64 (0))]) ⟨Cv.refl _, Cv.refl _, Cv.refl _, Cv.refl _, Cv.refl _, Cv.refl _, Cv.refl _, Cv.refl _, Cv.refl _, Cv.refl _, Cv.refl _, Cv.refl _, trivial⟩)) (.cons (.tmp rfl (.d _)) .nil)), ?_⟩
          have hu : fil w cal x g day = (z0, 11) := by
            unfold fil; simp only [h1, h4, h6, h7, h9, h10]; rfl
          rw [hu]; rfl
set_option maxHeartbeats 4000000 in
set_option maxRecDepth 100000 in
theorem fil11 (w : Lw) (cal : List Int) (x : Cs) (g day : Int) (hl0 : cal.length < 9223372036854775807) : Ctr Tryd.prog 11 [.ag (eLw w), .sl 1 (List.map (rI .i64) cal), .ag (eCs x), .fl (.int .i64 g), .fl (.int .i64 day)] (.tu [.ag (eCs (fil w cal x g day).1), .fl (.int .i64 (fil w cal x g day).2)]) := by
  refine ctr (n := 68) (rs := #[.cell 10 28, .tmp 11]) (L := [(0, .d (.ag (eLw w))), (1, .d (.sl 1 (List.map (rI .i64) cal))), (2, .d (.ag (eCs x))), (3, .d (.fl (.int .i64 g))), (4, .d (.fl (.int .i64 day)))]) Tryd.func11 rfl rfl rfl rfl rfl (fun w0 U0 => ?_)
  refine a_rseq ?_
  refine rg_nam (d := 5) (v := .pt 101 0) (m := 101) (nw := [(101, .bx 24 (eLw w))]) rfl (og rfl (of_eff (op_box 101 rfl rfl rfl rfl) rfl)) rfl ?_
  refine rg_nam (d := 7) (v := .pt 102 0) (m := 102) (nw := [(102, .bx 28 (eCs x))]) rfl (og rfl (of_eff (op_box 102 rfl rfl rfl rfl) rfl)) rfl ?_
  refine rg_nam (d := 10) (v := .pt 103 0) (m := 103) (nw := [(103, .bx 28 ([.fl (.string (⟨#[]⟩)), .fl (.string (⟨#[]⟩)), .fl (.string (⟨#[]⟩)), .fl (.int .i64 0), .fl (.int .i64 0), .fl (.int .i64 0), .fl (.int .i64 0), .fl (.int .i64 0), .fl (.int .i64 0), .fl (.int .i64 0), .fl (.int .i64 0), .fl (.int .i64 0)]))]) rfl (og rfl (of_eff (s_alloc 103 rfl ti28 (by kernel_rfl) rfl) rfl)) rfl ?_
  refine rg_put (d := 11) (v := .d (.fl (.int .i64 0))) rfl (og rfl (op_assign rfl rfl rfl)) ?_
  refine rg_done rfl ?_
  refine a_rseq ?_
  refine rg_put (d := 17) (v := .d (.ag (eCs ((Cs.mk (⟨#[]⟩) (⟨#[]⟩) (⟨#[]⟩) 0 0 0 0 0 0 (Ap.mk 0 0 0)))))) rfl (og rfl (of_eff (op_build rfl Tryd.underlying28 ti28 rfl (by kernel_rfl) (by kernel_rfl) (pl := #[(0, 1), (1, 1), (2, 1), (3, 1), (4, 1), (5, 1), (6, 1), (7, 1), (8, 1), (9, 3)]) (by kernel_rfl) .nil rfl) rfl)) ?_
  refine rg_nam (d := 12) (v := .pt 104 0) (m := 104) (nw := [(104, .bx 28 ([.fl (.string (⟨#[]⟩)), .fl (.string (⟨#[]⟩)), .fl (.string (⟨#[]⟩)), .fl (.int .i64 0), .fl (.int .i64 0), .fl (.int .i64 0), .fl (.int .i64 0), .fl (.int .i64 0), .fl (.int .i64 0), .fl (.int .i64 0), .fl (.int .i64 0), .fl (.int .i64 0)]))]) rfl (og rfl (of_eff (s_alloc 104 rfl ti28 (by kernel_rfl) rfl) rfl)) rfl ?_
  refine rg_sto (nw := [(104, .bx 28 ((eCs ((Cs.mk (⟨#[]⟩) (⟨#[]⟩) (⟨#[]⟩) 0 0 0 0 0 0 (Ap.mk 0 0 0))))))]) rfl (og rfl (of_eff (s_store rfl rfl ti28 rfl rfl rfl rfl rfl rfl) rfl)) ?_
  refine rg_done rfl ?_
  refine a_rseq ?_
  refine rg_put (d := 19) (v := .d (.ag (eLw w))) rfl (og rfl (of_eff (s_load_pts rfl Tryd.underlying24 rfl ti24 rfl rfl rfl rfl) rfl)) ?_
  refine rg_put (d := 20) (v := .d (.sl 1 (List.map (rI .i64) cal))) rfl (og rfl (op_move rfl rfl rfl)) ?_
  refine rg_put (d := 21) (v := .d (.ag (eCs x))) rfl (og rfl (of_eff (s_load_pts rfl Tryd.underlying28 rfl ti28 rfl rfl rfl rfl) rfl)) ?_
  refine rg_put (d := 22) (v := .d (.fl (.int .i64 day))) rfl (og rfl (op_move rfl rfl rfl)) ?_
  refine rg_put (d := 23) (v := .tu [.ag (eCs ((adv w cal x day).1)), .fl (.int .i64 ((adv w cal x day).2))]) rfl (og rfl (op_call rfl Tryd.func25 nm25 rfl (.cons rfl (.d _) (.cons rfl (.d _) (.cons rfl (.d _) (.cons rfl (.d _) .nil)))) (adv18 w cal x day hl0) rfl)) ?_
  refine rg_put (d := 18) (v := .tu [.ag (eCs ((adv w cal x day).1)), .fl (.int .i64 ((adv w cal x day).2))]) rfl (og rfl (op_move rfl rfl rfl)) ?_
  refine rg_put (d := 24) (v := .d (.ag (eCs ((adv w cal x day).1)))) rfl (og rfl (op_extract rfl rfl rfl rfl)) ?_
  refine rg_put (d := 25) (v := .d (.fl (.int .i64 ((adv w cal x day).2)))) rfl (og rfl (op_extract rfl rfl rfl rfl)) ?_
  refine rg_nam (d := 13) (v := .pt 105 0) (m := 105) (nw := [(105, .bx 28 ([.fl (.string (⟨#[]⟩)), .fl (.string (⟨#[]⟩)), .fl (.string (⟨#[]⟩)), .fl (.int .i64 0), .fl (.int .i64 0), .fl (.int .i64 0), .fl (.int .i64 0), .fl (.int .i64 0), .fl (.int .i64 0), .fl (.int .i64 0), .fl (.int .i64 0), .fl (.int .i64 0)]))]) rfl (og rfl (of_eff (s_alloc 105 rfl ti28 (by kernel_rfl) rfl) rfl)) rfl ?_
  refine rg_sto (nw := [(105, .bx 28 ((eCs ((adv w cal x day).1))))]) rfl (og rfl (of_eff (s_store rfl rfl ti28 rfl rfl rfl rfl rfl rfl) rfl)) ?_
  refine rg_put (d := 14) (v := .d (.fl (.int .i64 ((adv w cal x day).2)))) rfl (og rfl (op_assign rfl rfl rfl)) ?_
  refine rg_done rfl ?_
  refine a_seq ?_
  refine a_rseq ?_
  refine rg_put (d := 26) (v := .d (.fl (.int .i64 ((adv w cal x day).2)))) rfl (og rfl (op_move rfl rfl rfl)) ?_
  refine rg_put (d := 27) (v := .d (.fl (.bool (((adv w cal x day).2 != 0))))) rfl (og rfl (op_bin rfl rfl rfl (b_neq _ _ _ _) rfl)) ?_
  refine rg_done rfl ?_
  refine a_cond rfl (fun h1 => ?_) (fun h1 => ?_)
  · skip
    have h2 := t_bne h1
    refine a_rseq ?_
    refine rg_put (d := 28) (v := .d (.ag (eCs (((Cs.mk (⟨#[]⟩) (⟨#[]⟩) (⟨#[]⟩) 0 0 0 0 0 0 (Ap.mk 0 0 0))))))) rfl (og rfl (of_eff (s_load_pts rfl Tryd.underlying28 rfl ti28 rfl rfl rfl rfl) rfl)) ?_
    refine rg_put (d := 29) (v := .d (.fl (.int .i64 ((adv w cal x day).2)))) rfl (og rfl (op_move rfl rfl rfl)) ?_
    refine rg_sto (nw := [(103, .bx 28 ((eCs (((Cs.mk (⟨#[]⟩) (⟨#[]⟩) (⟨#[]⟩) 0 0 0 0 0 0 (Ap.mk 0 0 0)))))))]) rfl (og rfl (of_eff (s_store rfl rfl ti28 rfl rfl rfl rfl rfl rfl) rfl)) ?_
    refine rg_put (d := 11) (v := .d (.fl (.int .i64 ((adv w cal x day).2)))) rfl (og rfl (op_assign rfl rfl rfl)) ?_
    refine rg_done rfl ?_
    refine a_ret ?_
    show ∃ ds, ResL _ _ _ ds ∧ RV.of ds = _
    refine ⟨[.ag [.fl (.string (⟨#[]⟩)), .fl (.string (⟨#[]⟩)), .fl (.string (⟨#[]⟩)), .fl (.int .i64 (0)), .fl (.int .i64 (0)), .fl (.int .i64 (0)), .fl (.int .i64 (0)), .fl (.int .i64 (0)), .fl (.int .i64 (0)), .fl (.int .i64 (0)), .fl (.int .i64 (0)), .fl (.int .i64 (0))], .fl (.int .i64 ((adv w cal x day).2))], (.cons (.cellT rfl rfl Tryd.underlying28 rfl ti28 rfl (Cv.ag (xs := [.fl (.string (⟨#[]⟩)), .fl (.string (⟨#[]⟩)), .fl (.string (⟨#[]⟩)), .fl (.int .i64 (0)), .fl (.int .i64 (0)), .fl (.int .i64 (0)), .fl (.int .i64 (0)), .fl (.int .i64 (0)), .fl (.int .i64 (0)), .fl (.int .i64 (0)), .fl (.int .i64 (0)), .fl (.int .i64 (0))]) (ys := [.fl (.string (⟨#[]⟩)), .fl (.string (⟨#[]⟩)), .fl (.string (⟨#[]⟩)), .fl (.int .i64 (0)), .fl (.int .i64 (0)), .fl (.int .i64 (0)), .fl (.int .i64 (0)), .fl (.int .i64 (0)), .fl (.int .i64 (0)), .fl (.int .i64 (0)), .fl (.int .i64 (0)), .fl (.int .i64 (0))]) ⟨Cv.refl _, Cv.refl _, Cv.refl _, Cv.refl _, Cv.refl _, Cv.refl _, Cv.refl _, Cv.refl _, Cv.refl _, Cv.refl _, Cv.refl _, Cv.refl _, trivial⟩)) (.cons (.tmp rfl (.d _)) .nil)), ?_⟩
    have hu : fil w cal x g day = (z0, (adv w cal x day).2) := by
      unfold fil; simp only [h1]; rfl
    rw [hu]; rfl
  · skip
    have h3 := f_bne h1
    refine a_skip ?_
    show A _ _ _ _ _ _ _
    refine a_seq ?_
    refine a_rseq ?_
    refine rg_put (d := 30) (v := .d (.fl (.int .i64 g))) rfl (og rfl (op_move rfl rfl rfl)) ?_
    refine rg_put (d := 31) (v := .d (.fl (.string (grd g)))) rfl (og rfl (op_call rfl Tryd.func20 nm20 rfl (.cons rfl (.d _) .nil) (grd20 g) rfl)) ?_
    refine rg_put (d := 32) (v := .d (.fl (.bool ((sEq (grd g) (⟨#[]⟩)))))) rfl (og rfl (op_bin rfl rfl rfl (b_seq _ _ _) rfl)) ?_
    refine rg_done rfl ?_
    refine a_cond rfl (fun h4 => ?_) (fun h4 => ?_)
    · skip
      have hgx : (!(isG g)) = true := grd_no.symm.trans h4
      refine a_rseq ?_
      refine rg_put (d := 33) (v := .d (.ag (eCs (((Cs.mk (⟨#[]⟩) (⟨#[]⟩) (⟨#[]⟩) 0 0 0 0 0 0 (Ap.mk 0 0 0))))))) rfl (og rfl (of_eff (s_load_pts rfl Tryd.underlying28 rfl ti28 rfl rfl rfl rfl) rfl)) ?_
      refine rg_sto (nw := [(103, .bx 28 ((eCs (((Cs.mk (⟨#[]⟩) (⟨#[]⟩) (⟨#[]⟩) 0 0 0 0 0 0 (Ap.mk 0 0 0)))))))]) rfl (og rfl (of_eff (s_store rfl rfl ti28 rfl rfl rfl rfl rfl rfl) rfl)) ?_
      refine rg_put (d := 11) (v := .d (.fl (.int .i64 1))) rfl (og rfl (op_assign rfl rfl rfl)) ?_
      refine rg_done rfl ?_
      refine a_ret ?_
      show ∃ ds, ResL _ _ _ ds ∧ RV.of ds = _
      refine ⟨[.ag [.fl (.string (⟨#[]⟩)), .fl (.string (⟨#[]⟩)), .fl (.string (⟨#[]⟩)), .fl (.int .i64 (0)), .fl (.int .i64 (0)), .fl (.int .i64 (0)), .fl (.int .i64 (0)), .fl (.int .i64 (0)), .fl (.int .i64 (0)), .fl (.int .i64 (0)), .fl (.int .i64 (0)), .fl (.int .i64 (0))], .fl (.int .i64 1)], (.cons (.cellT rfl rfl Tryd.underlying28 rfl ti28 rfl (Cv.ag (xs := [.fl (.string (⟨#[]⟩)), .fl (.string (⟨#[]⟩)), .fl (.string (⟨#[]⟩)), .fl (.int .i64 (0)), .fl (.int .i64 (0)), .fl (.int .i64 (0)), .fl (.int .i64 (0)), .fl (.int .i64 (0)), .fl (.int .i64 (0)), .fl (.int .i64 (0)), .fl (.int .i64 (0)), .fl (.int .i64 (0))]) (ys := [.fl (.string (⟨#[]⟩)), .fl (.string (⟨#[]⟩)), .fl (.string (⟨#[]⟩)), .fl (.int .i64 (0)), .fl (.int .i64 (0)), .fl (.int .i64 (0)), .fl (.int .i64 (0)), .fl (.int .i64 (0)), .fl (.int .i64 (0)), .fl (.int .i64 (0)), .fl (.int .i64 (0)), .fl (.int .i64 (0))]) ⟨Cv.refl _, Cv.refl _, Cv.refl _, Cv.refl _, Cv.refl _, Cv.refl _, Cv.refl _, Cv.refl _, Cv.refl _, Cv.refl _, Cv.refl _, Cv.refl _, trivial⟩)) (.cons (.tmp rfl (.d _)) .nil)), ?_⟩
      have hu : fil w cal x g day = (z0, 1) := by
        unfold fil; simp only [h1, h4, hgx]; rfl
      rw [hu]; rfl
    · skip
      have hgx : (!(isG g)) = false := grd_no.symm.trans h4
      refine a_skip ?_
      show A _ _ _ _ _ _ _
      refine a_seq ?_
      refine a_rseq ?_
      refine rg_put (d := 34) (v := .d (.ag (eCs (((adv w cal x day).1))))) rfl (og rfl (of_eff (s_load_pts rfl Tryd.underlying28 rfl ti28 rfl rfl rfl rfl) rfl)) ?_
      refine rg_put (d := 35) (v := .d (.fl (.bool ((opn (((adv w cal x day).1))))))) rfl (og rfl (op_call rfl Tryd.func26 nm26 rfl (.cons rfl (.d _) .nil) (opn22 (((adv w cal x day).1))) rfl)) ?_
      refine rg_put (d := 36) (v := .d (.fl (.bool ((!((opn (((adv w cal x day).1))))))))) rfl (og rfl (op_un rfl rfl (u_not _) rfl)) ?_
      refine rg_done rfl ?_
      refine a_cond rfl (fun h5 => ?_) (fun h5 => ?_)
      · skip
        have h6 := t_not h5
        refine a_rseq ?_
        refine rg_put (d := 37) (v := .d (.ag (eCs (((Cs.mk (⟨#[]⟩) (⟨#[]⟩) (⟨#[]⟩) 0 0 0 0 0 0 (Ap.mk 0 0 0))))))) rfl (og rfl (of_eff (s_load_pts rfl Tryd.underlying28 rfl ti28 rfl rfl rfl rfl) rfl)) ?_
        refine rg_sto (nw := [(103, .bx 28 ((eCs (((Cs.mk (⟨#[]⟩) (⟨#[]⟩) (⟨#[]⟩) 0 0 0 0 0 0 (Ap.mk 0 0 0)))))))]) rfl (og rfl (of_eff (s_store rfl rfl ti28 rfl rfl rfl rfl rfl rfl) rfl)) ?_
        refine rg_put (d := 11) (v := .d (.fl (.int .i64 28))) rfl (og rfl (op_assign rfl rfl rfl)) ?_
        refine rg_done rfl ?_
        refine a_ret ?_
        show ∃ ds, ResL _ _ _ ds ∧ RV.of ds = _
        refine ⟨[.ag [.fl (.string (⟨#[]⟩)), .fl (.string (⟨#[]⟩)), .fl (.string (⟨#[]⟩)), .fl (.int .i64 (0)), .fl (.int .i64 (0)), .fl (.int .i64 (0)), .fl (.int .i64 (0)), .fl (.int .i64 (0)), .fl (.int .i64 (0)), .fl (.int .i64 (0)), .fl (.int .i64 (0)), .fl (.int .i64 (0))], .fl (.int .i64 28)], (.cons (.cellT rfl rfl Tryd.underlying28 rfl ti28 rfl (Cv.ag (xs := [.fl (.string (⟨#[]⟩)), .fl (.string (⟨#[]⟩)), .fl (.string (⟨#[]⟩)), .fl (.int .i64 (0)), .fl (.int .i64 (0)), .fl (.int .i64 (0)), .fl (.int .i64 (0)), .fl (.int .i64 (0)), .fl (.int .i64 (0)), .fl (.int .i64 (0)), .fl (.int .i64 (0)), .fl (.int .i64 (0))]) (ys := [.fl (.string (⟨#[]⟩)), .fl (.string (⟨#[]⟩)), .fl (.string (⟨#[]⟩)), .fl (.int .i64 (0)), .fl (.int .i64 (0)), .fl (.int .i64 (0)), .fl (.int .i64 (0)), .fl (.int .i64 (0)), .fl (.int .i64 (0)), .fl (.int .i64 (0)), .fl (.int .i64 (0)), .fl (.int .i64 (0))]) ⟨Cv.refl _, Cv.refl _, Cv.refl _, Cv.refl _, Cv.refl _, Cv.refl _, Cv.refl _, Cv.refl _, Cv.refl _, Cv.refl _, Cv.refl _, Cv.refl _, trivial⟩)) (.cons (.tmp rfl (.d _)) .nil)), ?_⟩
        have hu : fil w cal x g day = (z0, 28) := by
          unfold fil; simp only [h1, h4, h5, h6, hgx]; rfl
        rw [hu]; rfl
      · skip
        have h7 := f_not h5
        refine a_skip ?_
        show A _ _ _ _ _ _ _
        refine a_seq ?_
        refine a_rseq ?_
        refine rg_put (d := 38) (v := .pt 105 9) rfl (og rfl (of_eff (s_field_pt rfl Tryd.underlying28 rfl ti26 rfl rfl rfl) rfl)) ?_
        refine rg_put (d := 39) (v := .pt 105 9) rfl (og rfl (of_eff (s_field_pt rfl Tryd.underlying26 rfl ti3 rfl rfl rfl) rfl)) ?_
        refine rg_put (d := 40) (v := .d (.fl (.int .i64 ((((adv w cal x day).1).ap).state)))) rfl (og rfl (op_load_pt rfl Tryd.underlying3 rfl rfl rfl rfl rfl)) ?_
        refine rg_put (d := 41) (v := .d (.fl (.bool (((((adv w cal x day).1).ap).state != 0))))) rfl (og rfl (op_bin rfl rfl rfl (b_neq _ _ _ _) rfl)) ?_
        refine rg_put (d := 42) (v := .d (.fl (.bool (((((adv w cal x day).1).ap).state != 0))))) rfl (og rfl (op_move rfl rfl rfl)) ?_
        rcases fot (((((adv w cal x day).1).ap).state != 0)) with h8 | h8
        · skip
          have h9 := f_bne h8
          refine rg_put (d := 43) (v := .pt 105 5) rfl (oy rfl rfl rfl h8 (of_eff (s_field_pt rfl Tryd.underlying28 rfl ti3 rfl rfl rfl) rfl)) ?_
          refine rg_put (d := 44) (v := .d (.fl (.int .i64 (((adv w cal x day).1).stage)))) rfl (oy rfl rfl rfl h8 (op_load_pt rfl Tryd.underlying3 rfl rfl rfl rfl rfl)) ?_
          refine rg_put (d := 45) (v := .d (.fl (.bool ((((adv w cal x day).1).stage == 1))))) rfl (oy rfl rfl rfl h8 (op_bin rfl rfl rfl (b_eql _ _ _ _) rfl)) ?_
          refine rg_put (d := 46) (v := .d (.fl (.bool ((((adv w cal x day).1).stage == 1))))) rfl (og rfl (op_pick rfl rfl (by rw [h8]; rfl) rfl)) ?_
          refine rg_done rfl ?_
          refine a_cond rfl (fun h10 => ?_) (fun h10 => ?_)
          · skip
            have h11 := t_beq h10
            refine a_rseq ?_
            refine rg_put (d := 47) (v := .d (.ag (eCs (((Cs.mk (⟨#[]⟩) (⟨#[]⟩) (⟨#[]⟩) 0 0 0 0 0 0 (Ap.mk 0 0 0))))))) rfl (og rfl (of_eff (s_load_pts rfl Tryd.underlying28 rfl ti28 rfl rfl rfl rfl) rfl)) ?_
            refine rg_sto (nw := [(103, .bx 28 ((eCs (((Cs.mk (⟨#[]⟩) (⟨#[]⟩) (⟨#[]⟩) 0 0 0 0 0 0 (Ap.mk 0 0 0)))))))]) rfl (og rfl (of_eff (s_store rfl rfl ti28 rfl rfl rfl rfl rfl rfl) rfl)) ?_
            refine rg_put (d := 11) (v := .d (.fl (.int .i64 11))) rfl (og rfl (op_assign rfl rfl rfl)) ?_
            refine rg_done rfl ?_
            refine a_ret ?_
            show ∃ ds, ResL _ _ _ ds ∧ RV.of ds = _
            refine ⟨[.ag [.fl (.string (⟨#[]⟩)), .fl (.string (⟨#[]⟩)), .fl (.string (⟨#[]⟩)), .fl (.int .i64 (0)), .fl (.int .i64 (0)), .fl (.int .i64 (0)), .fl (.int .i64 (0)), .fl (.int .i64 (0)), .fl (.int .i64 (0)), .fl (.int .i64 (0)), .fl (.int .i64 (0)), .fl (.int .i64 (0))], .fl (.int .i64 11)], (.cons (.cellT rfl rfl Tryd.underlying28 rfl ti28 rfl (Cv.ag (xs := [.fl (.string (⟨#[]⟩)), .fl (.string (⟨#[]⟩)), .fl (.string (⟨#[]⟩)), .fl (.int .i64 (0)), .fl (.int .i64 (0)), .fl (.int .i64 (0)), .fl (.int .i64 (0)), .fl (.int .i64 (0)), .fl (.int .i64 (0)), .fl (.int .i64 (0)), .fl (.int .i64 (0)), .fl (.int .i64 (0))]) (ys := [.fl (.string (⟨#[]⟩)), .fl (.string (⟨#[]⟩)), .fl (.string (⟨#[]⟩)), .fl (.int .i64 (0)), .fl (.int .i64 (0)), .fl (.int .i64 (0)), .fl (.int .i64 (0)), .fl (.int .i64 (0)), .fl (.int .i64 (0)), .fl (.int .i64 (0)), .fl (.int .i64 (0)), .fl (.int .i64 (0))]) ⟨Cv.refl _, Cv.refl _, Cv.refl _, Cv.refl _, Cv.refl _, Cv.refl _, Cv.refl _, Cv.refl _, Cv.refl _, Cv.refl _, Cv.refl _, Cv.refl _, trivial⟩)) (.cons (.tmp rfl (.d _)) .nil)), ?_⟩
            have hu : fil w cal x g day = (z0, 11) := by
              unfold fil; simp only [h1, h4, h5, h7, h8, h10, hgx]; rfl
            rw [hu]; rfl
          · skip
            have h12 := f_beq h10
            refine a_skip ?_
            show A _ _ _ _ _ _ _
            refine a_rseq ?_
            refine rg_put (d := 49) (v := .d (.ag (eLw w))) rfl (og rfl (of_eff (s_load_pts rfl Tryd.underlying24 rfl ti24 rfl rfl rfl rfl) rfl)) ?_
            refine rg_put (d := 50) (v := .d (.sl 1 (List.map (rI .i64) cal))) rfl (og rfl (op_move rfl rfl rfl)) ?_
            refine rg_put (d := 51) (v := .d (.ag (eCs (((adv w cal x day).1))))) rfl (og rfl (of_eff (s_load_pts rfl Tryd.underlying28 rfl ti28 rfl rfl rfl rfl) rfl)) ?_
            refine rg_put (d := 52) (v := .tu [.fl (.int .i64 ((last w cal (((adv w cal x day).1))).1)), .fl (.bool ((last w cal (((adv w cal x day).1))).2))]) rfl (og rfl (op_call rfl Tryd.func16 nm16 rfl (.cons rfl (.d _) (.cons rfl (.d _) (.cons rfl (.d _) .nil))) (last16 w cal (((adv w cal x day).1)) hl0) rfl)) ?_
            refine rg_put (d := 48) (v := .tu [.fl (.int .i64 ((last w cal (((adv w cal x day).1))).1)), .fl (.bool ((last w cal (((adv w cal x day).1))).2))]) rfl (og rfl (op_move rfl rfl rfl)) ?_
            refine rg_put (d := 53) (v := .d (.fl (.int .i64 ((last w cal (((adv w cal x day).1))).1)))) rfl (og rfl (op_extract rfl rfl rfl rfl)) ?_
            refine rg_put (d := 54) (v := .d (.fl (.bool ((last w cal (((adv w cal x day).1))).2)))) rfl (og rfl (op_extract rfl rfl rfl rfl)) ?_
            refine rg_put (d := 15) (v := .d (.fl (.int .i64 ((last w cal (((adv w cal x day).1))).1)))) rfl (og rfl (op_assign rfl rfl rfl)) ?_
            refine rg_put (d := 16) (v := .d (.fl (.bool ((last w cal (((adv w cal x day).1))).2)))) rfl (og rfl (op_assign rfl rfl rfl)) ?_
            refine rg_done rfl ?_
            refine a_seq ?_
            refine a_rseq ?_
            refine rg_put (d := 55) (v := .d (.fl (.bool ((last w cal (((adv w cal x day).1))).2)))) rfl (og rfl (op_move rfl rfl rfl)) ?_
            refine rg_put (d := 56) (v := .d (.fl (.bool ((!((last w cal (((adv w cal x day).1))).2)))))) rfl (og rfl (op_un rfl rfl (u_not _) rfl)) ?_
            refine rg_put (d := 57) (v := .d (.fl (.bool ((!((last w cal (((adv w cal x day).1))).2)))))) rfl (og rfl (op_move rfl rfl rfl)) ?_
            rcases fot ((!((last w cal (((adv w cal x day).1))).2))) with h13 | h13
            · skip
              have h14 := f_not h13
              refine rg_put (d := 58) (v := .d (.fl (.int .i64 day))) rfl (oy rfl rfl rfl h13 (op_move rfl rfl rfl)) ?_
              refine rg_put (d := 59) (v := .d (.fl (.int .i64 ((last w cal (((adv w cal x day).1))).1)))) rfl (oy rfl rfl rfl h13 (op_move rfl rfl rfl)) ?_
              refine rg_put (d := 60) (v := .d (.fl (.bool ((decide ((last w cal (((adv w cal x day).1))).1 < day)))))) rfl (oy rfl rfl rfl h13 (op_bin rfl rfl rfl (b_gtr _ _ _ _) rfl)) ?_
              refine rg_put (d := 61) (v := .d (.fl (.bool ((decide ((last w cal (((adv w cal x day).1))).1 < day)))))) rfl (og rfl (op_pick rfl rfl (by rw [h13]; rfl) rfl)) ?_
              refine rg_done rfl ?_
              refine a_cond rfl (fun h15 => ?_) (fun h15 => ?_)
              · skip
                have h16 := t_dec h15
                refine a_rseq ?_
                refine rg_put (d := 62) (v := .d (.ag (eCs (((Cs.mk (⟨#[]⟩) (⟨#[]⟩) (⟨#[]⟩) 0 0 0 0 0 0 (Ap.mk 0 0 0))))))) rfl (og rfl (of_eff (s_load_pts rfl Tryd.underlying28 rfl ti28 rfl rfl rfl rfl) rfl)) ?_
                refine rg_sto (nw := [(103, .bx 28 ((eCs (((Cs.mk (⟨#[]⟩) (⟨#[]⟩) (⟨#[]⟩) 0 0 0 0 0 0 (Ap.mk 0 0 0)))))))]) rfl (og rfl (of_eff (s_store rfl rfl ti28 rfl rfl rfl rfl rfl rfl) rfl)) ?_
                refine rg_put (d := 11) (v := .d (.fl (.int .i64 29))) rfl (og rfl (op_assign rfl rfl rfl)) ?_
                refine rg_done rfl ?_
                refine a_ret ?_
                show ∃ ds, ResL _ _ _ ds ∧ RV.of ds = _
                refine ⟨[.ag [.fl (.string (⟨#[]⟩)), .fl (.string (⟨#[]⟩)), .fl (.string (⟨#[]⟩)), .fl (.int .i64 (0)), .fl (.int .i64 (0)), .fl (.int .i64 (0)), .fl (.int .i64 (0)), .fl (.int .i64 (0)), .fl (.int .i64 (0)), .fl (.int .i64 (0)), .fl (.int .i64 (0)), .fl (.int .i64 (0))], .fl (.int .i64 29)], (.cons (.cellT rfl rfl Tryd.underlying28 rfl ti28 rfl (Cv.ag (xs := [.fl (.string (⟨#[]⟩)), .fl (.string (⟨#[]⟩)), .fl (.string (⟨#[]⟩)), .fl (.int .i64 (0)), .fl (.int .i64 (0)), .fl (.int .i64 (0)), .fl (.int .i64 (0)), .fl (.int .i64 (0)), .fl (.int .i64 (0)), .fl (.int .i64 (0)), .fl (.int .i64 (0)), .fl (.int .i64 (0))]) (ys := [.fl (.string (⟨#[]⟩)), .fl (.string (⟨#[]⟩)), .fl (.string (⟨#[]⟩)), .fl (.int .i64 (0)), .fl (.int .i64 (0)), .fl (.int .i64 (0)), .fl (.int .i64 (0)), .fl (.int .i64 (0)), .fl (.int .i64 (0)), .fl (.int .i64 (0)), .fl (.int .i64 (0)), .fl (.int .i64 (0))]) ⟨Cv.refl _, Cv.refl _, Cv.refl _, Cv.refl _, Cv.refl _, Cv.refl _, Cv.refl _, Cv.refl _, Cv.refl _, Cv.refl _, Cv.refl _, Cv.refl _, trivial⟩)) (.cons (.tmp rfl (.d _)) .nil)), ?_⟩
                have hu : fil w cal x g day = (z0, 29) := by
                  unfold fil; simp only [h1, h4, h5, h7, h8, h10, h13, h14, h15, hgx]; rfl
                rw [hu]; rfl
              · skip
                have h17 := f_dec h15
                refine a_skip ?_
                show A _ _ _ _ _ _ _
                refine a_rseq ?_
                refine rg_put (d := 63) (v := .d (.fl (.int .i64 g))) rfl (og rfl (op_move rfl rfl rfl)) ?_
                refine rg_put (d := 64) (v := .d (.fl (.int .i64 day))) rfl (og rfl (op_move rfl rfl rfl)) ?_
                refine rg_put (d := 65) (v := .d (.ag (eAp (Ap.mk 1 g day)))) rfl (og rfl (of_eff (op_build rfl Tryd.underlying26 ti26 rfl (by kernel_rfl) (by kernel_rfl) (pl := #[(0, 1), (1, 1), (2, 1)]) (by kernel_rfl) (.cons rfl rfl (.d _) rfl rfl rfl (.cons rfl rfl (.d _) rfl rfl rfl (.cons rfl rfl (.d _) rfl rfl rfl .nil))) rfl) rfl)) ?_
                refine rg_put (d := 66) (v := .pt 105 9) rfl (og rfl (of_eff (s_field_pt rfl Tryd.underlying28 rfl ti26 rfl rfl rfl) rfl)) ?_
                refine rg_sto (nw := [(105, .bx 28 [.fl (.string (((adv w cal x day).1).id)), .fl (.string (((adv w cal x day).1).plate)), .fl (.string (((adv w cal x day).1).key)), .fl (.int .i64 (((adv w cal x day).1).begun)), .fl (.int .i64 (((adv w cal x day).1).since)), .fl (.int .i64 (((adv w cal x day).1).stage)), .fl (.int .i64 (((adv w cal x day).1).owed)), .fl (.int .i64 (((adv w cal x day).1).paid)), .fl (.int .i64 (((adv w cal x day).1).paused)), .fl (.int .i64 ((Ap.mk 1 g day).state)), .fl (.int .i64 ((Ap.mk 1 g day).ground)), .fl (.int .i64 ((Ap.mk 1 g day).day))])]) rfl (og rfl (of_eff (s_store rfl rfl ti26 rfl rfl rfl rfl rfl rfl) rfl)) ?_
                refine rg_done rfl ?_
                refine a_rseq ?_
                refine rg_put (d := 67) (v := .d (.ag (eCs ((Cs.mk (((adv w cal x day).1).id) (((adv w cal x day).1).plate) (((adv w cal x day).1).key) (((adv w cal x day).1).begun) (((adv w cal x day).1).since) (((adv w cal x day).1).stage) (((adv w cal x day).1).owed) (((adv w cal x day).1).paid) (((adv w cal x day).1).paused) (Ap.mk 1 g day)))))) rfl (og rfl (of_eff (s_load_pts rfl Tryd.underlying28 rfl ti28 rfl rfl rfl rfl) rfl)) ?_
                refine rg_sto (nw := [(103, .bx 28 ((eCs ((Cs.mk (((adv w cal x day).1).id) (((adv w cal x day).1).plate) (((adv w cal x day).1).key) (((adv w cal x day).1).begun) (((adv w cal x day).1).since) (((adv w cal x day).1).stage) (((adv w cal x day).1).owed) (((adv w cal x day).1).paid) (((adv w cal x day).1).paused) (Ap.mk 1 g day))))))]) rfl (og rfl (of_eff (s_store rfl rfl ti28 rfl rfl rfl rfl rfl rfl) rfl)) ?_
                refine rg_put (d := 11) (v := .d (.fl (.int .i64 0))) rfl (og rfl (op_assign rfl rfl rfl)) ?_
                refine rg_done rfl ?_
                refine a_ret ?_
                show ∃ ds, ResL _ _ _ ds ∧ RV.of ds = _
                refine ⟨[.ag [.fl (.string (((adv w cal x day).1).id)), .fl (.string (((adv w cal x day).1).plate)), .fl (.string (((adv w cal x day).1).key)), .fl (.int .i64 (((adv w cal x day).1).begun)), .fl (.int .i64 (((adv w cal x day).1).since)), .fl (.int .i64 (((adv w cal x day).1).stage)), .fl (.int .i64 (((adv w cal x day).1).owed)), .fl (.int .i64 (((adv w cal x day).1).paid)), .fl (.int .i64 (((adv w cal x day).1).paused)), .fl (.int .i64 (1)), .fl (.int .i64 (g)), .fl (.int .i64 (day))], .fl (.int .i64 0)], (.cons (.cellT rfl rfl Tryd.underlying28 rfl ti28 rfl (Cv.ag (xs := [.fl (.string (((adv w cal x day).1).id)), .fl (.string (((adv w cal x day).1).plate)), .fl (.string (((adv w cal x day).1).key)), .fl (.int .i64 (((adv w cal x day).1).begun)), .fl (.int .i64 (((adv w cal x day).1).since)), .fl (.int .i64 (((adv w cal x day).1).stage)), .fl (.int .i64 (((adv w cal x day).1).owed)), .fl (.int .i64 (((adv w cal x day).1).paid)), .fl (.int .i64 (((adv w cal x day).1).paused)), .fl (.int .i64 (1)), .fl (.int .i64 (g)), .fl (.int .i64 (day))]) (ys := [.fl (.string (((adv w cal x day).1).id)), .fl (.string (((adv w cal x day).1).plate)), .fl (.string (((adv w cal x day).1).key)), .fl (.int .i64 (((adv w cal x day).1).begun)), .fl (.int .i64 (((adv w cal x day).1).since)), .fl (.int .i64 (((adv w cal x day).1).stage)), .fl (.int .i64 (((adv w cal x day).1).owed)), .fl (.int .i64 (((adv w cal x day).1).paid)), .fl (.int .i64 (((adv w cal x day).1).paused)), .fl (.int .i64 (1)), .fl (.int .i64 (g)), .fl (.int .i64 (day))]) ⟨Cv.refl _, Cv.refl _, Cv.refl _, Cv.refl _, Cv.refl _, Cv.refl _, Cv.refl _, Cv.refl _, Cv.refl _, Cv.refl _, Cv.refl _, Cv.refl _, trivial⟩)) (.cons (.tmp rfl (.d _)) .nil)), ?_⟩
                have hu : fil w cal x g day = ({ (adv w cal x day).1 with ap := Ap.mk 1 g day }, 0) := by
                  unfold fil; simp only [h1, h4, h5, h7, h8, h10, h13, h14, h15, hgx]; rfl
                rw [hu]; rfl
            · skip
              have h18 := t_not h13
              refine rg_put (d := 58) (v := .d (.fl undef)) rfl (on rfl rfl rfl h13) ?_
              refine rg_put (d := 59) (v := .d (.fl undef)) rfl (on rfl rfl rfl h13) ?_
              refine rg_put (d := 60) (v := .d (.fl undef)) rfl (on rfl rfl rfl h13) ?_
              refine rg_put (d := 61) (v := .d (.fl (.bool true))) rfl (og rfl (op_pick rfl rfl (by rw [h13]; rfl) rfl)) ?_
              refine rg_done rfl ?_
              refine a_condK rfl rfl ?_
              refine a_rseq ?_
              refine rg_put (d := 62) (v := .d (.ag (eCs (((Cs.mk (⟨#[]⟩) (⟨#[]⟩) (⟨#[]⟩) 0 0 0 0 0 0 (Ap.mk 0 0 0))))))) rfl (og rfl (of_eff (s_load_pts rfl Tryd.underlying28 rfl ti28 rfl rfl rfl rfl) rfl)) ?_
              refine rg_sto (nw := [(103, .bx 28 ((eCs (((Cs.mk (⟨#[]⟩) (⟨#[]⟩) (⟨#[]⟩) 0 0 0 0 0 0 (Ap.mk 0 0 0)))))))]) rfl (og rfl (of_eff (s_store rfl rfl ti28 rfl rfl rfl rfl rfl rfl) rfl)) ?_
              refine rg_put (d := 11) (v := .d (.fl (.int .i64 29))) rfl (og rfl (op_assign rfl rfl rfl)) ?_
              refine rg_done rfl ?_
              refine a_ret ?_
              show ∃ ds, ResL _ _ _ ds ∧ RV.of ds = _
              refine ⟨[.ag [.fl (.string (⟨#[]⟩)), .fl (.string (⟨#[]⟩)), .fl (.string (⟨#[]⟩)), .fl (.int .i64 (0)), .fl (.int .i64 (0)), .fl (.int .i64 (0)), .fl (.int .i64 (0)), .fl (.int .i64 (0)), .fl (.int .i64 (0)), .fl (.int .i64 (0)), .fl (.int .i64 (0)), .fl (.int .i64 (0))], .fl (.int .i64 29)], (.cons (.cellT rfl rfl Tryd.underlying28 rfl ti28 rfl (Cv.ag (xs := [.fl (.string (⟨#[]⟩)), .fl (.string (⟨#[]⟩)), .fl (.string (⟨#[]⟩)), .fl (.int .i64 (0)), .fl (.int .i64 (0)), .fl (.int .i64 (0)), .fl (.int .i64 (0)), .fl (.int .i64 (0)), .fl (.int .i64 (0)), .fl (.int .i64 (0)), .fl (.int .i64 (0)), .fl (.int .i64 (0))]) (ys := [.fl (.string (⟨#[]⟩)), .fl (.string (⟨#[]⟩)), .fl (.string (⟨#[]⟩)), .fl (.int .i64 (0)), .fl (.int .i64 (0)), .fl (.int .i64 (0)), .fl (.int .i64 (0)), .fl (.int .i64 (0)), .fl (.int .i64 (0)), .fl (.int .i64 (0)), .fl (.int .i64 (0)), .fl (.int .i64 (0))]) ⟨Cv.refl _, Cv.refl _, Cv.refl _, Cv.refl _, Cv.refl _, Cv.refl _, Cv.refl _, Cv.refl _, Cv.refl _, Cv.refl _, Cv.refl _, Cv.refl _, trivial⟩)) (.cons (.tmp rfl (.d _)) .nil)), ?_⟩
              have hu : fil w cal x g day = (z0, 29) := by
                unfold fil; simp only [h1, h4, h5, h7, h8, h10, h13, h18, hgx]; rfl
              rw [hu]; rfl
        · skip
          have h19 := t_bne h8
          refine rg_put (d := 43) (v := .d (.fl undef)) rfl (on rfl rfl rfl h8) ?_
          refine rg_put (d := 44) (v := .d (.fl undef)) rfl (on rfl rfl rfl h8) ?_
          refine rg_put (d := 45) (v := .d (.fl undef)) rfl (on rfl rfl rfl h8) ?_
          refine rg_put (d := 46) (v := .d (.fl (.bool true))) rfl (og rfl (op_pick rfl rfl (by rw [h8]; rfl) rfl)) ?_
          refine rg_done rfl ?_
          refine a_condK rfl rfl ?_
          refine a_rseq ?_
          refine rg_put (d := 47) (v := .d (.ag (eCs (((Cs.mk (⟨#[]⟩) (⟨#[]⟩) (⟨#[]⟩) 0 0 0 0 0 0 (Ap.mk 0 0 0))))))) rfl (og rfl (of_eff (s_load_pts rfl Tryd.underlying28 rfl ti28 rfl rfl rfl rfl) rfl)) ?_
          refine rg_sto (nw := [(103, .bx 28 ((eCs (((Cs.mk (⟨#[]⟩) (⟨#[]⟩) (⟨#[]⟩) 0 0 0 0 0 0 (Ap.mk 0 0 0)))))))]) rfl (og rfl (of_eff (s_store rfl rfl ti28 rfl rfl rfl rfl rfl rfl) rfl)) ?_
          refine rg_put (d := 11) (v := .d (.fl (.int .i64 11))) rfl (og rfl (op_assign rfl rfl rfl)) ?_
          refine rg_done rfl ?_
          refine a_ret ?_
          show ∃ ds, ResL _ _ _ ds ∧ RV.of ds = _
          refine ⟨[.ag [.fl (.string (⟨#[]⟩)), .fl (.string (⟨#[]⟩)), .fl (.string (⟨#[]⟩)), .fl (.int .i64 (0)), .fl (.int .i64 (0)), .fl (.int .i64 (0)), .fl (.int .i64 (0)), .fl (.int .i64 (0)), .fl (.int .i64 (0)), .fl (.int .i64 (0)), .fl (.int .i64 (0)), .fl (.int .i64 (0))], .fl (.int .i64 11)], (.cons (.cellT rfl rfl Tryd.underlying28 rfl ti28 rfl (Cv.ag (xs := [.fl (.string (⟨#[]⟩)), .fl (.string (⟨#[]⟩)), .fl (.string (⟨#[]⟩)), .fl (.int .i64 (0)), .fl (.int .i64 (0)), .fl (.int .i64 (0)), .fl (.int .i64 (0)), .fl (.int .i64 (0)), .fl (.int .i64 (0)), .fl (.int .i64 (0)), .fl (.int .i64 (0)), .fl (.int .i64 (0))]) (ys := [.fl (.string (⟨#[]⟩)), .fl (.string (⟨#[]⟩)), .fl (.string (⟨#[]⟩)), .fl (.int .i64 (0)), .fl (.int .i64 (0)), .fl (.int .i64 (0)), .fl (.int .i64 (0)), .fl (.int .i64 (0)), .fl (.int .i64 (0)), .fl (.int .i64 (0)), .fl (.int .i64 (0)), .fl (.int .i64 (0))]) ⟨Cv.refl _, Cv.refl _, Cv.refl _, Cv.refl _, Cv.refl _, Cv.refl _, Cv.refl _, Cv.refl _, Cv.refl _, Cv.refl _, Cv.refl _, Cv.refl _, trivial⟩)) (.cons (.tmp rfl (.d _)) .nil)), ?_⟩
          have hu : fil w cal x g day = (z0, 11) := by
            unfold fil; simp only [h1, h4, h5, h7, h8, hgx]; rfl
          rw [hu]; rfl
set_option maxHeartbeats 4000000 in
set_option maxRecDepth 100000 in
theorem dec13 (w : Lw) (cal : List Int) (x : Cs) (up : Bool) (day : Int) (hl0 : cal.length < 9223372036854775807) : Ctr Tryd.prog 13 [.ag (eLw w), .sl 1 (List.map (rI .i64) cal), .ag (eCs x), .fl (.bool up), .fl (.int .i64 day)] (.tu [.ag (eCs (dec w cal x up day).1), .fl (.int .i64 (dec w cal x up day).2)]) := by
  refine ctr (n := 55) (rs := #[.cell 10 28, .tmp 11]) (L := [(0, .d (.ag (eLw w))), (1, .d (.sl 1 (List.map (rI .i64) cal))), (2, .d (.ag (eCs x))), (3, .d (.fl (.bool up))), (4, .d (.fl (.int .i64 day)))]) Tryd.func13 rfl rfl rfl rfl rfl (fun w0 U0 => ?_)
  refine a_rseq ?_
  refine rg_nam (d := 5) (v := .pt 101 0) (m := 101) (nw := [(101, .bx 24 (eLw w))]) rfl (og rfl (of_eff (op_box 101 rfl rfl rfl rfl) rfl)) rfl ?_
  refine rg_nam (d := 7) (v := .pt 102 0) (m := 102) (nw := [(102, .bx 28 (eCs x))]) rfl (og rfl (of_eff (op_box 102 rfl rfl rfl rfl) rfl)) rfl ?_
  refine rg_nam (d := 10) (v := .pt 103 0) (m := 103) (nw := [(103, .bx 28 ([.fl (.string (⟨#[]⟩)), .fl (.string (⟨#[]⟩)), .fl (.string (⟨#[]⟩)), .fl (.int .i64 0), .fl (.int .i64 0), .fl (.int .i64 0), .fl (.int .i64 0), .fl (.int .i64 0), .fl (.int .i64 0), .fl (.int .i64 0), .fl (.int .i64 0), .fl (.int .i64 0)]))]) rfl (og rfl (of_eff (s_alloc 103 rfl ti28 (by kernel_rfl) rfl) rfl)) rfl ?_
  refine rg_put (d := 11) (v := .d (.fl (.int .i64 0))) rfl (og rfl (op_assign rfl rfl rfl)) ?_
  refine rg_done rfl ?_
  refine a_seq ?_
  refine a_rseq ?_
  refine rg_put (d := 14) (v := .d (.ag (eLw w))) rfl (og rfl (of_eff (s_load_pts rfl Tryd.underlying24 rfl ti24 rfl rfl rfl rfl) rfl)) ?_
  refine rg_put (d := 15) (v := .d (.ag (eCs x))) rfl (og rfl (of_eff (s_load_pts rfl Tryd.underlying28 rfl ti28 rfl rfl rfl rfl) rfl)) ?_
  refine rg_put (d := 16) (v := .d (.fl (.int .i64 day))) rfl (og rfl (op_move rfl rfl rfl)) ?_
  refine rg_put (d := 17) (v := .d (.fl (.int .i64 (chD w x day)))) rfl (og rfl (op_call rfl Tryd.func29 nm29 rfl (.cons rfl (.d _) (.cons rfl (.d _) (.cons rfl (.d _) .nil))) (chD29 w x day) rfl)) ?_
  refine rg_put (d := 12) (v := .d (.fl (.int .i64 (chD w x day)))) rfl (og rfl (op_assign rfl rfl rfl)) ?_
  refine rg_done rfl ?_
  refine a_rseq ?_
  refine rg_put (d := 18) (v := .d (.fl (.int .i64 (chD w x day)))) rfl (og rfl (op_move rfl rfl rfl)) ?_
  refine rg_put (d := 19) (v := .d (.fl (.bool (((chD w x day) != 0))))) rfl (og rfl (op_bin rfl rfl rfl (b_neq _ _ _ _) rfl)) ?_
  refine rg_done rfl ?_
  refine a_cond rfl (fun h1 => ?_) (fun h1 => ?_)
  · skip
    have h2 := t_bne h1
    refine a_rseq ?_
    refine rg_put (d := 20) (v := .d (.ag (eCs ((Cs.mk (⟨#[]⟩) (⟨#[]⟩) (⟨#[]⟩) 0 0 0 0 0 0 (Ap.mk 0 0 0)))))) rfl (og rfl (of_eff (op_build rfl Tryd.underlying28 ti28 rfl (by kernel_rfl) (by kernel_rfl) (pl := #[(0, 1), (1, 1), (2, 1), (3, 1), (4, 1), (5, 1), (6, 1), (7, 1), (8, 1), (9, 3)]) (by kernel_rfl) .nil rfl) rfl)) ?_
    refine rg_put (d := 21) (v := .d (.fl (.int .i64 (chD w x day)))) rfl (og rfl (op_move rfl rfl rfl)) ?_
    refine rg_sto (nw := [(103, .bx 28 ((eCs ((Cs.mk (⟨#[]⟩) (⟨#[]⟩) (⟨#[]⟩) 0 0 0 0 0 0 (Ap.mk 0 0 0))))))]) rfl (og rfl (of_eff (s_store rfl rfl ti28 rfl rfl rfl rfl rfl rfl) rfl)) ?_
    refine rg_put (d := 11) (v := .d (.fl (.int .i64 (chD w x day)))) rfl (og rfl (op_assign rfl rfl rfl)) ?_
    refine rg_done rfl ?_
    refine a_ret ?_
    show ∃ ds, ResL _ _ _ ds ∧ RV.of ds = _
    refine ⟨[.ag [.fl (.string (⟨#[]⟩)), .fl (.string (⟨#[]⟩)), .fl (.string (⟨#[]⟩)), .fl (.int .i64 (0)), .fl (.int .i64 (0)), .fl (.int .i64 (0)), .fl (.int .i64 (0)), .fl (.int .i64 (0)), .fl (.int .i64 (0)), .fl (.int .i64 (0)), .fl (.int .i64 (0)), .fl (.int .i64 (0))], .fl (.int .i64 (chD w x day))], (.cons (.cellT rfl rfl Tryd.underlying28 rfl ti28 rfl (Cv.ag (xs := [.fl (.string (⟨#[]⟩)), .fl (.string (⟨#[]⟩)), .fl (.string (⟨#[]⟩)), .fl (.int .i64 (0)), .fl (.int .i64 (0)), .fl (.int .i64 (0)), .fl (.int .i64 (0)), .fl (.int .i64 (0)), .fl (.int .i64 (0)), .fl (.int .i64 (0)), .fl (.int .i64 (0)), .fl (.int .i64 (0))]) (ys := [.fl (.string (⟨#[]⟩)), .fl (.string (⟨#[]⟩)), .fl (.string (⟨#[]⟩)), .fl (.int .i64 (0)), .fl (.int .i64 (0)), .fl (.int .i64 (0)), .fl (.int .i64 (0)), .fl (.int .i64 (0)), .fl (.int .i64 (0)), .fl (.int .i64 (0)), .fl (.int .i64 (0)), .fl (.int .i64 (0))]) ⟨Cv.refl _, Cv.refl _, Cv.refl _, Cv.refl _, Cv.refl _, Cv.refl _, Cv.refl _, Cv.refl _, Cv.refl _, Cv.refl _, Cv.refl _, Cv.refl _, trivial⟩)) (.cons (.tmp rfl (.d _)) .nil)), ?_⟩
    have hu : dec w cal x up day = (z0, (chD w x day)) := by
      unfold dec; simp only [h1]; rfl
    rw [hu]; rfl
  · skip
    have h3 := f_bne h1
    refine a_skip ?_
    show A _ _ _ _ _ _ _
    refine a_rseq ?_
    obtain ⟨e1, e2, e3, e4, e5, e6, e7, e8⟩ := chD_ok (f_bne h1)
    refine rg_put (d := 22) (v := .d (.fl (.int .i64 day))) rfl (og rfl (op_move rfl rfl rfl)) ?_
    refine rg_put (d := 23) (v := .pt 102 9) rfl (og rfl (of_eff (s_field_pt rfl Tryd.underlying28 rfl ti26 rfl rfl rfl) rfl)) ?_
    refine rg_put (d := 24) (v := .pt 102 11) rfl (og rfl (of_eff (s_field_pt rfl Tryd.underlying26 rfl ti3 rfl rfl rfl) rfl)) ?_
    refine rg_put (d := 25) (v := .d (.fl (.int .i64 x.ap.day))) rfl (og rfl (op_load_pt rfl Tryd.underlying3 rfl rfl rfl rfl rfl)) ?_
    refine rg_put (d := 26) (v := .d (.fl (.int .i64 (day - x.ap.day)))) rfl (og rfl (op_bin rfl rfl rfl (fun x y w => b_sub64 _ _ _ x y w (by omega)) rfl)) ?_
    refine rg_put (d := 13) (v := .d (.fl (.int .i64 (day - x.ap.day)))) rfl (og rfl (op_assign rfl rfl rfl)) ?_
    refine rg_done rfl ?_
    refine a_rseq ?_
    refine rg_put (d := 27) (v := .d (.fl (.int .i64 day))) rfl (og rfl (op_move rfl rfl rfl)) ?_
    refine rg_put (d := 28) (v := .pt 102 9) rfl (og rfl (of_eff (s_field_pt rfl Tryd.underlying28 rfl ti26 rfl rfl rfl) rfl)) ?_
    refine rg_put (d := 29) (v := .pt 102 11) rfl (og rfl (of_eff (s_field_pt rfl Tryd.underlying26 rfl ti3 rfl rfl rfl) rfl)) ?_
    refine rg_sto (nw := [(102, .bx 28 [.fl (.string x.id), .fl (.string x.plate), .fl (.string x.key), .fl (.int .i64 x.begun), .fl (.int .i64 x.since), .fl (.int .i64 x.stage), .fl (.int .i64 x.owed), .fl (.int .i64 x.paid), .fl (.int .i64 x.paused), .fl (.int .i64 x.ap.state), .fl (.int .i64 x.ap.ground), .fl (.int .i64 day)])]) rfl (og rfl (of_eff (s_store rfl rfl ti3 rfl rfl rfl rfl rfl rfl) rfl)) ?_
    refine rg_done rfl ?_
    refine a_seq ?_
    refine a_rseq ?_
    refine rg_put (d := 30) (v := .d (.fl (.bool up))) rfl (og rfl (op_move rfl rfl rfl)) ?_
    refine rg_done rfl ?_
    refine a_cond rfl (fun h4 => ?_) (fun h4 => ?_)
    · skip
      refine a_rseq ?_
      refine rg_put (d := 31) (v := .pt 102 5) rfl (og rfl (of_eff (s_field_pt rfl Tryd.underlying28 rfl ti3 rfl rfl rfl) rfl)) ?_
      refine rg_sto (nw := [(102, .bx 28 [.fl (.string x.id), .fl (.string x.plate), .fl (.string x.key), .fl (.int .i64 x.begun), .fl (.int .i64 x.since), .fl (.int .i64 7), .fl (.int .i64 x.owed), .fl (.int .i64 x.paid), .fl (.int .i64 x.paused), .fl (.int .i64 x.ap.state), .fl (.int .i64 x.ap.ground), .fl (.int .i64 day)])]) rfl (og rfl (of_eff (s_store rfl rfl ti3 rfl rfl rfl rfl rfl rfl) rfl)) ?_
      refine rg_done rfl ?_
      refine a_rseq ?_
      refine rg_put (d := 32) (v := .pt 102 9) rfl (og rfl (of_eff (s_field_pt rfl Tryd.underlying28 rfl ti26 rfl rfl rfl) rfl)) ?_
      refine rg_put (d := 33) (v := .pt 102 9) rfl (og rfl (of_eff (s_field_pt rfl Tryd.underlying26 rfl ti3 rfl rfl rfl) rfl)) ?_
      refine rg_sto (nw := [(102, .bx 28 [.fl (.string x.id), .fl (.string x.plate), .fl (.string x.key), .fl (.int .i64 x.begun), .fl (.int .i64 x.since), .fl (.int .i64 7), .fl (.int .i64 x.owed), .fl (.int .i64 x.paid), .fl (.int .i64 x.paused), .fl (.int .i64 2), .fl (.int .i64 x.ap.ground), .fl (.int .i64 day)])]) rfl (og rfl (of_eff (s_store rfl rfl ti3 rfl rfl rfl rfl rfl rfl) rfl)) ?_
      refine rg_done rfl ?_
      refine a_rseq ?_
      refine rg_put (d := 34) (v := .d (.ag (eCs ((Cs.mk x.id x.plate x.key x.begun x.since 7 x.owed x.paid x.paused (Ap.mk 2 x.ap.ground day)))))) rfl (og rfl (of_eff (s_load_pts rfl Tryd.underlying28 rfl ti28 rfl rfl rfl rfl) rfl)) ?_
      refine rg_sto (nw := [(103, .bx 28 ((eCs ((Cs.mk x.id x.plate x.key x.begun x.since 7 x.owed x.paid x.paused (Ap.mk 2 x.ap.ground day))))))]) rfl (og rfl (of_eff (s_store rfl rfl ti28 rfl rfl rfl rfl rfl rfl) rfl)) ?_
      refine rg_put (d := 11) (v := .d (.fl (.int .i64 0))) rfl (og rfl (op_assign rfl rfl rfl)) ?_
      refine rg_done rfl ?_
      refine a_ret ?_
      show ∃ ds, ResL _ _ _ ds ∧ RV.of ds = _
      refine ⟨[.ag [.fl (.string (x.id)), .fl (.string (x.plate)), .fl (.string (x.key)), .fl (.int .i64 (x.begun)), .fl (.int .i64 (x.since)), .fl (.int .i64 (7)), .fl (.int .i64 (x.owed)), .fl (.int .i64 (x.paid)), .fl (.int .i64 (x.paused)), .fl (.int .i64 (2)), .fl (.int .i64 (x.ap.ground)), .fl (.int .i64 (day))], .fl (.int .i64 0)], (.cons (.cellT rfl rfl Tryd.underlying28 rfl ti28 rfl (Cv.ag (xs := [.fl (.string (x.id)), .fl (.string (x.plate)), .fl (.string (x.key)), .fl (.int .i64 (x.begun)), .fl (.int .i64 (x.since)), .fl (.int .i64 (7)), .fl (.int .i64 (x.owed)), .fl (.int .i64 (x.paid)), .fl (.int .i64 (x.paused)), .fl (.int .i64 (2)), .fl (.int .i64 (x.ap.ground)), .fl (.int .i64 (day))]) (ys := [.fl (.string (x.id)), .fl (.string (x.plate)), .fl (.string (x.key)), .fl (.int .i64 (x.begun)), .fl (.int .i64 (x.since)), .fl (.int .i64 (7)), .fl (.int .i64 (x.owed)), .fl (.int .i64 (x.paid)), .fl (.int .i64 (x.paused)), .fl (.int .i64 (2)), .fl (.int .i64 (x.ap.ground)), .fl (.int .i64 (day))]) ⟨Cv.refl _, Cv.refl _, Cv.refl _, Cv.refl _, Cv.refl _, Cv.refl _, Cv.refl _, Cv.refl _, Cv.refl _, Cv.refl _, Cv.refl _, Cv.refl _, trivial⟩)) (.cons (.tmp rfl (.d _)) .nil)), ?_⟩
      have hu : dec w cal x up day = (Cs.mk x.id x.plate x.key x.begun x.since 7 x.owed x.paid x.paused (Ap.mk 2 x.ap.ground day), 0) := by
        unfold dec; simp only [h1, h4]; rfl
      rw [hu]; rfl
    · skip
      refine a_skip ?_
      show A _ _ _ _ _ _ _
      refine a_rseq ?_
      refine rg_put (d := 35) (v := .pt 102 9) rfl (og rfl (of_eff (s_field_pt rfl Tryd.underlying28 rfl ti26 rfl rfl rfl) rfl)) ?_
      refine rg_put (d := 36) (v := .pt 102 9) rfl (og rfl (of_eff (s_field_pt rfl Tryd.underlying26 rfl ti3 rfl rfl rfl) rfl)) ?_
      refine rg_sto (nw := [(102, .bx 28 [.fl (.string x.id), .fl (.string x.plate), .fl (.string x.key), .fl (.int .i64 x.begun), .fl (.int .i64 x.since), .fl (.int .i64 x.stage), .fl (.int .i64 x.owed), .fl (.int .i64 x.paid), .fl (.int .i64 x.paused), .fl (.int .i64 3), .fl (.int .i64 x.ap.ground), .fl (.int .i64 day)])]) rfl (og rfl (of_eff (s_store rfl rfl ti3 rfl rfl rfl rfl rfl rfl) rfl)) ?_
      refine rg_done rfl ?_
      refine a_rseq ?_
      refine rg_put (d := 37) (v := .pt 102 4) rfl (og rfl (of_eff (s_field_pt rfl Tryd.underlying28 rfl ti3 rfl rfl rfl) rfl)) ?_
      refine rg_put (d := 38) (v := .d (.fl (.int .i64 x.since))) rfl (og rfl (op_load_pt rfl Tryd.underlying3 rfl rfl rfl rfl rfl)) ?_
      refine rg_put (d := 39) (v := .d (.fl (.int .i64 (day - x.ap.day)))) rfl (og rfl (op_move rfl rfl rfl)) ?_
      refine rg_put (d := 40) (v := .d (.fl (.int .i64 ((x.since + (day - x.ap.day)))))) rfl (og rfl (op_bin rfl rfl rfl (fun x y w => b_add64 _ _ _ x y w (by omega)) rfl)) ?_
      refine rg_put (d := 41) (v := .pt 102 4) rfl (og rfl (of_eff (s_field_pt rfl Tryd.underlying28 rfl ti3 rfl rfl rfl) rfl)) ?_
      refine rg_sto (nw := [(102, .bx 28 [.fl (.string x.id), .fl (.string x.plate), .fl (.string x.key), .fl (.int .i64 x.begun), .fl (.int .i64 ((x.since + (day - x.ap.day)))), .fl (.int .i64 x.stage), .fl (.int .i64 x.owed), .fl (.int .i64 x.paid), .fl (.int .i64 x.paused), .fl (.int .i64 3), .fl (.int .i64 x.ap.ground), .fl (.int .i64 day)])]) rfl (og rfl (of_eff (s_store rfl rfl ti3 rfl rfl rfl rfl rfl rfl) rfl)) ?_
      refine rg_done rfl ?_
      refine a_rseq ?_
      refine rg_put (d := 42) (v := .pt 102 8) rfl (og rfl (of_eff (s_field_pt rfl Tryd.underlying28 rfl ti3 rfl rfl rfl) rfl)) ?_
      refine rg_put (d := 43) (v := .d (.fl (.int .i64 x.paused))) rfl (og rfl (op_load_pt rfl Tryd.underlying3 rfl rfl rfl rfl rfl)) ?_
      refine rg_put (d := 44) (v := .d (.fl (.int .i64 (day - x.ap.day)))) rfl (og rfl (op_move rfl rfl rfl)) ?_
      refine rg_put (d := 45) (v := .d (.fl (.int .i64 ((x.paused + (day - x.ap.day)))))) rfl (og rfl (op_bin rfl rfl rfl (fun x y w => b_add64 _ _ _ x y w (by omega)) rfl)) ?_
      refine rg_put (d := 46) (v := .d (.fl (.int .i64 ((min ((x.paused + (day - x.ap.day))) 795364))))) rfl (og rfl (op_min rfl rfl rfl rfl)) ?_
      refine rg_put (d := 47) (v := .pt 102 8) rfl (og rfl (of_eff (s_field_pt rfl Tryd.underlying28 rfl ti3 rfl rfl rfl) rfl)) ?_
      refine rg_sto (nw := [(102, .bx 28 [.fl (.string x.id), .fl (.string x.plate), .fl (.string x.key), .fl (.int .i64 x.begun), .fl (.int .i64 ((x.since + (day - x.ap.day)))), .fl (.int .i64 x.stage), .fl (.int .i64 x.owed), .fl (.int .i64 x.paid), .fl (.int .i64 ((min ((x.paused + (day - x.ap.day))) 795364))), .fl (.int .i64 3), .fl (.int .i64 x.ap.ground), .fl (.int .i64 day)])]) rfl (og rfl (of_eff (s_store rfl rfl ti3 rfl rfl rfl rfl rfl rfl) rfl)) ?_
      refine rg_done rfl ?_
      refine a_rseq ?_
      refine rg_put (d := 48) (v := .d (.ag (eLw w))) rfl (og rfl (of_eff (s_load_pts rfl Tryd.underlying24 rfl ti24 rfl rfl rfl rfl) rfl)) ?_
      refine rg_put (d := 49) (v := .d (.sl 1 (List.map (rI .i64) cal))) rfl (og rfl (op_move rfl rfl rfl)) ?_
      refine rg_put (d := 50) (v := .d (.ag (eCs ((Cs.mk x.id x.plate x.key x.begun ((x.since + (day - x.ap.day))) x.stage x.owed x.paid ((min ((x.paused + (day - x.ap.day))) 795364)) (Ap.mk 3 x.ap.ground day)))))) rfl (og rfl (of_eff (s_load_pts rfl Tryd.underlying28 rfl ti28 rfl rfl rfl rfl) rfl)) ?_
      refine rg_put (d := 51) (v := .d (.fl (.int .i64 day))) rfl (og rfl (op_move rfl rfl rfl)) ?_
      refine rg_put (d := 52) (v := .tu [.ag (eCs ((adv w cal (dn x day) day).1)), .fl (.int .i64 ((adv w cal (dn x day) day).2))]) rfl (og rfl (op_call rfl Tryd.func21 nm21 rfl (.cons rfl (.d _) (.cons rfl (.d _) (.cons rfl (.d _) (.cons rfl (.d _) .nil)))) (adv17_at (w := w) (cal := cal) (x := x) (X := (Cs.mk x.id x.plate x.key x.begun ((x.since + (day - x.ap.day))) x.stage x.owed x.paid ((min ((x.paused + (day - x.ap.day))) 795364)) (Ap.mk 3 x.ap.ground day))) (day := day) (by unfold dn; first | rfl | (congr 1 <;> omega)) hl0) rfl)) ?_
      refine rg_put (d := 53) (v := .d (.ag (eCs ((adv w cal (dn x day) day).1)))) rfl (og rfl (op_extract rfl rfl rfl rfl)) ?_
      refine rg_put (d := 54) (v := .d (.fl (.int .i64 ((adv w cal (dn x day) day).2)))) rfl (og rfl (op_extract rfl rfl rfl rfl)) ?_
      refine rg_sto (nw := [(103, .bx 28 ((eCs ((adv w cal (dn x day) day).1))))]) rfl (og rfl (of_eff (s_store rfl rfl ti28 rfl rfl rfl rfl rfl rfl) rfl)) ?_
      refine rg_put (d := 11) (v := .d (.fl (.int .i64 ((adv w cal (dn x day) day).2)))) rfl (og rfl (op_assign rfl rfl rfl)) ?_
      refine rg_done rfl ?_
      refine a_ret ?_
      show ∃ ds, ResL _ _ _ ds ∧ RV.of ds = _
      refine ⟨[.ag [.fl (.string (((adv w cal (dn x day) day).1).id)), .fl (.string (((adv w cal (dn x day) day).1).plate)), .fl (.string (((adv w cal (dn x day) day).1).key)), .fl (.int .i64 (((adv w cal (dn x day) day).1).begun)), .fl (.int .i64 (((adv w cal (dn x day) day).1).since)), .fl (.int .i64 (((adv w cal (dn x day) day).1).stage)), .fl (.int .i64 (((adv w cal (dn x day) day).1).owed)), .fl (.int .i64 (((adv w cal (dn x day) day).1).paid)), .fl (.int .i64 (((adv w cal (dn x day) day).1).paused)), .fl (.int .i64 ((((adv w cal (dn x day) day).1).ap).state)), .fl (.int .i64 ((((adv w cal (dn x day) day).1).ap).ground)), .fl (.int .i64 ((((adv w cal (dn x day) day).1).ap).day))], .fl (.int .i64 ((adv w cal (dn x day) day).2))], (.cons (.cellT rfl rfl Tryd.underlying28 rfl ti28 rfl (Cv.ag (xs := [.fl (.string (((adv w cal (dn x day) day).1).id)), .fl (.string (((adv w cal (dn x day) day).1).plate)), .fl (.string (((adv w cal (dn x day) day).1).key)), .fl (.int .i64 (((adv w cal (dn x day) day).1).begun)), .fl (.int .i64 (((adv w cal (dn x day) day).1).since)), .fl (.int .i64 (((adv w cal (dn x day) day).1).stage)), .fl (.int .i64 (((adv w cal (dn x day) day).1).owed)), .fl (.int .i64 (((adv w cal (dn x day) day).1).paid)), .fl (.int .i64 (((adv w cal (dn x day) day).1).paused)), .fl (.int .i64 ((((adv w cal (dn x day) day).1).ap).state)), .fl (.int .i64 ((((adv w cal (dn x day) day).1).ap).ground)), .fl (.int .i64 ((((adv w cal (dn x day) day).1).ap).day))]) (ys := [.fl (.string (((adv w cal (dn x day) day).1).id)), .fl (.string (((adv w cal (dn x day) day).1).plate)), .fl (.string (((adv w cal (dn x day) day).1).key)), .fl (.int .i64 (((adv w cal (dn x day) day).1).begun)), .fl (.int .i64 (((adv w cal (dn x day) day).1).since)), .fl (.int .i64 (((adv w cal (dn x day) day).1).stage)), .fl (.int .i64 (((adv w cal (dn x day) day).1).owed)), .fl (.int .i64 (((adv w cal (dn x day) day).1).paid)), .fl (.int .i64 (((adv w cal (dn x day) day).1).paused)), .fl (.int .i64 ((((adv w cal (dn x day) day).1).ap).state)), .fl (.int .i64 ((((adv w cal (dn x day) day).1).ap).ground)), .fl (.int .i64 ((((adv w cal (dn x day) day).1).ap).day))]) ⟨Cv.refl _, Cv.refl _, Cv.refl _, Cv.refl _, Cv.refl _, Cv.refl _, Cv.refl _, Cv.refl _, Cv.refl _, Cv.refl _, Cv.refl _, Cv.refl _, trivial⟩)) (.cons (.tmp rfl (.d _)) .nil)), ?_⟩
      have hu : dec w cal x up day = adv w cal (dn x day) day := by
        unfold dec; simp only [h1, h4]; rfl
      rw [hu]; rfl
set_option maxHeartbeats 4000000 in
set_option maxRecDepth 100000 in
theorem dec14 (w : Lw) (cal : List Int) (x : Cs) (up : Bool) (day : Int) (hl0 : cal.length < 9223372036854775807) : Ctr Tryd.prog 14 [.ag (eLw w), .sl 1 (List.map (rI .i64) cal), .ag (eCs x), .fl (.bool up), .fl (.int .i64 day)] (.tu [.ag (eCs (dec w cal x up day).1), .fl (.int .i64 (dec w cal x up day).2)]) := by
  refine ctr (n := 121) (rs := #[.cell 10 28, .tmp 11]) (L := [(0, .d (.ag (eLw w))), (1, .d (.sl 1 (List.map (rI .i64) cal))), (2, .d (.ag (eCs x))), (3, .d (.fl (.bool up))), (4, .d (.fl (.int .i64 day)))]) Tryd.func14 rfl rfl rfl rfl rfl (fun w0 U0 => ?_)
  refine a_rseq ?_
  refine rg_nam (d := 5) (v := .pt 101 0) (m := 101) (nw := [(101, .bx 24 (eLw w))]) rfl (og rfl (of_eff (op_box 101 rfl rfl rfl rfl) rfl)) rfl ?_
  refine rg_nam (d := 7) (v := .pt 102 0) (m := 102) (nw := [(102, .bx 28 (eCs x))]) rfl (og rfl (of_eff (op_box 102 rfl rfl rfl rfl) rfl)) rfl ?_
  refine rg_nam (d := 10) (v := .pt 103 0) (m := 103) (nw := [(103, .bx 28 ([.fl (.string (⟨#[]⟩)), .fl (.string (⟨#[]⟩)), .fl (.string (⟨#[]⟩)), .fl (.int .i64 0), .fl (.int .i64 0), .fl (.int .i64 0), .fl (.int .i64 0), .fl (.int .i64 0), .fl (.int .i64 0), .fl (.int .i64 0), .fl (.int .i64 0), .fl (.int .i64 0)]))]) rfl (og rfl (of_eff (s_alloc 103 rfl ti28 (by kernel_rfl) rfl) rfl)) rfl ?_
  refine rg_put (d := 11) (v := .d (.fl (.int .i64 0))) rfl (og rfl (op_assign rfl rfl rfl)) ?_
  refine rg_done rfl ?_
  refine a_rseq ?_
  refine rg_put (d := 17) (v := .d (.ag (eCs ((Cs.mk (⟨#[]⟩) (⟨#[]⟩) (⟨#[]⟩) 0 0 0 0 0 0 (Ap.mk 0 0 0)))))) rfl (og rfl (of_eff (op_build rfl Tryd.underlying28 ti28 rfl (by kernel_rfl) (by kernel_rfl) (pl := #[(0, 1), (1, 1), (2, 1), (3, 1), (4, 1), (5, 1), (6, 1), (7, 1), (8, 1), (9, 3)]) (by kernel_rfl) .nil rfl) rfl)) ?_
  refine rg_nam (d := 12) (v := .pt 104 0) (m := 104) (nw := [(104, .bx 28 ([.fl (.string (⟨#[]⟩)), .fl (.string (⟨#[]⟩)), .fl (.string (⟨#[]⟩)), .fl (.int .i64 0), .fl (.int .i64 0), .fl (.int .i64 0), .fl (.int .i64 0), .fl (.int .i64 0), .fl (.int .i64 0), .fl (.int .i64 0), .fl (.int .i64 0), .fl (.int .i64 0)]))]) rfl (og rfl (of_eff (s_alloc 104 rfl ti28 (by kernel_rfl) rfl) rfl)) rfl ?_
  refine rg_sto (nw := [(104, .bx 28 ((eCs ((Cs.mk (⟨#[]⟩) (⟨#[]⟩) (⟨#[]⟩) 0 0 0 0 0 0 (Ap.mk 0 0 0))))))]) rfl (og rfl (of_eff (s_store rfl rfl ti28 rfl rfl rfl rfl rfl rfl) rfl)) ?_
  refine rg_done rfl ?_
  refine a_seq ?_
  refine a_rseq ?_
  refine rg_put (d := 18) (v := .d (.ag (eLw w))) rfl (og rfl (of_eff (s_load_pts rfl Tryd.underlying24 rfl ti24 rfl rfl rfl rfl) rfl)) ?_
  refine rg_put (d := 19) (v := .d (.fl (.int .i64 (ckL w)))) rfl (og rfl (op_call rfl Tryd.func30 nm30 rfl (.cons rfl (.d _) .nil) (ck13 w) rfl)) ?_
  refine rg_put (d := 13) (v := .d (.fl (.int .i64 (ckL w)))) rfl (og rfl (op_assign rfl rfl rfl)) ?_
  refine rg_done rfl ?_
  refine a_rseq ?_
  refine rg_put (d := 20) (v := .d (.fl (.int .i64 (ckL w)))) rfl (og rfl (op_move rfl rfl rfl)) ?_
  refine rg_put (d := 21) (v := .d (.fl (.bool (((ckL w) != 0))))) rfl (og rfl (op_bin rfl rfl rfl (b_neq _ _ _ _) rfl)) ?_
  refine rg_done rfl ?_
  refine a_cond rfl (fun h1 => ?_) (fun h1 => ?_)
  · skip
    have h2 := t_bne h1
    refine a_rseq ?_
    refine rg_put (d := 22) (v := .d (.ag (eCs (((Cs.mk (⟨#[]⟩) (⟨#[]⟩) (⟨#[]⟩) 0 0 0 0 0 0 (Ap.mk 0 0 0))))))) rfl (og rfl (of_eff (s_load_pts rfl Tryd.underlying28 rfl ti28 rfl rfl rfl rfl) rfl)) ?_
    refine rg_put (d := 23) (v := .d (.fl (.int .i64 (ckL w)))) rfl (og rfl (op_move rfl rfl rfl)) ?_
    refine rg_sto (nw := [(103, .bx 28 ((eCs (((Cs.mk (⟨#[]⟩) (⟨#[]⟩) (⟨#[]⟩) 0 0 0 0 0 0 (Ap.mk 0 0 0)))))))]) rfl (og rfl (of_eff (s_store rfl rfl ti28 rfl rfl rfl rfl rfl rfl) rfl)) ?_
    refine rg_put (d := 11) (v := .d (.fl (.int .i64 (ckL w)))) rfl (og rfl (op_assign rfl rfl rfl)) ?_
    refine rg_done rfl ?_
    refine a_ret ?_
    show ∃ ds, ResL _ _ _ ds ∧ RV.of ds = _
    refine ⟨[.ag [.fl (.string (⟨#[]⟩)), .fl (.string (⟨#[]⟩)), .fl (.string (⟨#[]⟩)), .fl (.int .i64 (0)), .fl (.int .i64 (0)), .fl (.int .i64 (0)), .fl (.int .i64 (0)), .fl (.int .i64 (0)), .fl (.int .i64 (0)), .fl (.int .i64 (0)), .fl (.int .i64 (0)), .fl (.int .i64 (0))], .fl (.int .i64 (ckL w))], (.cons (.cellT rfl rfl Tryd.underlying28 rfl ti28 rfl (Cv.ag (xs := [.fl (.string (⟨#[]⟩)), .fl (.string (⟨#[]⟩)), .fl (.string (⟨#[]⟩)), .fl (.int .i64 (0)), .fl (.int .i64 (0)), .fl (.int .i64 (0)), .fl (.int .i64 (0)), .fl (.int .i64 (0)), .fl (.int .i64 (0)), .fl (.int .i64 (0)), .fl (.int .i64 (0)), .fl (.int .i64 (0))]) (ys := [.fl (.string (⟨#[]⟩)), .fl (.string (⟨#[]⟩)), .fl (.string (⟨#[]⟩)), .fl (.int .i64 (0)), .fl (.int .i64 (0)), .fl (.int .i64 (0)), .fl (.int .i64 (0)), .fl (.int .i64 (0)), .fl (.int .i64 (0)), .fl (.int .i64 (0)), .fl (.int .i64 (0)), .fl (.int .i64 (0))]) ⟨Cv.refl _, Cv.refl _, Cv.refl _, Cv.refl _, Cv.refl _, Cv.refl _, Cv.refl _, Cv.refl _, Cv.refl _, Cv.refl _, Cv.refl _, Cv.refl _, trivial⟩)) (.cons (.tmp rfl (.d _)) .nil)), ?_⟩
    have hch : chD w x day = (ckL w) := by
      unfold chD; rw [if_pos h1]
    have hu : dec w cal x up day = (z0, (ckL w)) := by
      unfold dec; rw [hch, if_pos (by simpa using h1)]
    rw [hu]; rfl
  · skip
    have h3 := f_bne h1
    refine a_skip ?_
    show A _ _ _ _ _ _ _
    refine a_seq ?_
    refine a_rseq ?_
    refine rg_put (d := 24) (v := .d (.ag (eCs x))) rfl (og rfl (of_eff (s_load_pts rfl Tryd.underlying28 rfl ti28 rfl rfl rfl rfl) rfl)) ?_
    refine rg_put (d := 25) (v := .d (.fl (.bool (opn x)))) rfl (og rfl (op_call rfl Tryd.func26 nm26 rfl (.cons rfl (.d _) .nil) (opn22 x) rfl)) ?_
    refine rg_put (d := 26) (v := .d (.fl (.bool ((!(opn x)))))) rfl (og rfl (op_un rfl rfl (u_not _) rfl)) ?_
    refine rg_done rfl ?_
    refine a_cond rfl (fun h4 => ?_) (fun h4 => ?_)
    · skip
      have h5 := t_not h4
      refine a_rseq ?_
      refine rg_put (d := 27) (v := .d (.ag (eCs (((Cs.mk (⟨#[]⟩) (⟨#[]⟩) (⟨#[]⟩) 0 0 0 0 0 0 (Ap.mk 0 0 0))))))) rfl (og rfl (of_eff (s_load_pts rfl Tryd.underlying28 rfl ti28 rfl rfl rfl rfl) rfl)) ?_
      refine rg_sto (nw := [(103, .bx 28 ((eCs (((Cs.mk (⟨#[]⟩) (⟨#[]⟩) (⟨#[]⟩) 0 0 0 0 0 0 (Ap.mk 0 0 0)))))))]) rfl (og rfl (of_eff (s_store rfl rfl ti28 rfl rfl rfl rfl rfl rfl) rfl)) ?_
      refine rg_put (d := 11) (v := .d (.fl (.int .i64 28))) rfl (og rfl (op_assign rfl rfl rfl)) ?_
      refine rg_done rfl ?_
      refine a_ret ?_
      show ∃ ds, ResL _ _ _ ds ∧ RV.of ds = _
      refine ⟨[.ag [.fl (.string (⟨#[]⟩)), .fl (.string (⟨#[]⟩)), .fl (.string (⟨#[]⟩)), .fl (.int .i64 (0)), .fl (.int .i64 (0)), .fl (.int .i64 (0)), .fl (.int .i64 (0)), .fl (.int .i64 (0)), .fl (.int .i64 (0)), .fl (.int .i64 (0)), .fl (.int .i64 (0)), .fl (.int .i64 (0))], .fl (.int .i64 28)], (.cons (.cellT rfl rfl Tryd.underlying28 rfl ti28 rfl (Cv.ag (xs := [.fl (.string (⟨#[]⟩)), .fl (.string (⟨#[]⟩)), .fl (.string (⟨#[]⟩)), .fl (.int .i64 (0)), .fl (.int .i64 (0)), .fl (.int .i64 (0)), .fl (.int .i64 (0)), .fl (.int .i64 (0)), .fl (.int .i64 (0)), .fl (.int .i64 (0)), .fl (.int .i64 (0)), .fl (.int .i64 (0))]) (ys := [.fl (.string (⟨#[]⟩)), .fl (.string (⟨#[]⟩)), .fl (.string (⟨#[]⟩)), .fl (.int .i64 (0)), .fl (.int .i64 (0)), .fl (.int .i64 (0)), .fl (.int .i64 (0)), .fl (.int .i64 (0)), .fl (.int .i64 (0)), .fl (.int .i64 (0)), .fl (.int .i64 (0)), .fl (.int .i64 (0))]) ⟨Cv.refl _, Cv.refl _, Cv.refl _, Cv.refl _, Cv.refl _, Cv.refl _, Cv.refl _, Cv.refl _, Cv.refl _, Cv.refl _, Cv.refl _, Cv.refl _, trivial⟩)) (.cons (.tmp rfl (.d _)) .nil)), ?_⟩
      have hch : chD w x day = 28 := by
        unfold chD; simp only [h1, h4, h5]; rfl
      have hu : dec w cal x up day = (z0, 28) := by
        unfold dec; rw [hch, if_pos (by decide)]
      rw [hu]; rfl
    · skip
      have h6 := f_not h4
      refine a_skip ?_
      show A _ _ _ _ _ _ _
      refine a_seq ?_
      refine a_rseq ?_
      refine rg_put (d := 28) (v := .d (.ag (eCs x))) rfl (og rfl (of_eff (s_load_pts rfl Tryd.underlying28 rfl ti28 rfl rfl rfl rfl) rfl)) ?_
      refine rg_put (d := 29) (v := .d (.fl (.bool (pend x)))) rfl (og rfl (op_call rfl Tryd.func18 nm18 rfl (.cons rfl (.d _) .nil) (pend18 x) rfl)) ?_
      refine rg_put (d := 30) (v := .d (.fl (.bool ((!(pend x)))))) rfl (og rfl (op_un rfl rfl (u_not _) rfl)) ?_
      refine rg_done rfl ?_
      refine a_cond rfl (fun h7 => ?_) (fun h7 => ?_)
      · skip
        have h8 := t_not h7
        refine a_rseq ?_
        refine rg_put (d := 31) (v := .d (.ag (eCs (((Cs.mk (⟨#[]⟩) (⟨#[]⟩) (⟨#[]⟩) 0 0 0 0 0 0 (Ap.mk 0 0 0))))))) rfl (og rfl (of_eff (s_load_pts rfl Tryd.underlying28 rfl ti28 rfl rfl rfl rfl) rfl)) ?_
        refine rg_sto (nw := [(103, .bx 28 ((eCs (((Cs.mk (⟨#[]⟩) (⟨#[]⟩) (⟨#[]⟩) 0 0 0 0 0 0 (Ap.mk 0 0 0)))))))]) rfl (og rfl (of_eff (s_store rfl rfl ti28 rfl rfl rfl rfl rfl rfl) rfl)) ?_
        refine rg_put (d := 11) (v := .d (.fl (.int .i64 11))) rfl (og rfl (op_assign rfl rfl rfl)) ?_
        refine rg_done rfl ?_
        refine a_ret ?_
        show ∃ ds, ResL _ _ _ ds ∧ RV.of ds = _
        refine ⟨[.ag [.fl (.string (⟨#[]⟩)), .fl (.string (⟨#[]⟩)), .fl (.string (⟨#[]⟩)), .fl (.int .i64 (0)), .fl (.int .i64 (0)), .fl (.int .i64 (0)), .fl (.int .i64 (0)), .fl (.int .i64 (0)), .fl (.int .i64 (0)), .fl (.int .i64 (0)), .fl (.int .i64 (0)), .fl (.int .i64 (0))], .fl (.int .i64 11)], (.cons (.cellT rfl rfl Tryd.underlying28 rfl ti28 rfl (Cv.ag (xs := [.fl (.string (⟨#[]⟩)), .fl (.string (⟨#[]⟩)), .fl (.string (⟨#[]⟩)), .fl (.int .i64 (0)), .fl (.int .i64 (0)), .fl (.int .i64 (0)), .fl (.int .i64 (0)), .fl (.int .i64 (0)), .fl (.int .i64 (0)), .fl (.int .i64 (0)), .fl (.int .i64 (0)), .fl (.int .i64 (0))]) (ys := [.fl (.string (⟨#[]⟩)), .fl (.string (⟨#[]⟩)), .fl (.string (⟨#[]⟩)), .fl (.int .i64 (0)), .fl (.int .i64 (0)), .fl (.int .i64 (0)), .fl (.int .i64 (0)), .fl (.int .i64 (0)), .fl (.int .i64 (0)), .fl (.int .i64 (0)), .fl (.int .i64 (0)), .fl (.int .i64 (0))]) ⟨Cv.refl _, Cv.refl _, Cv.refl _, Cv.refl _, Cv.refl _, Cv.refl _, Cv.refl _, Cv.refl _, Cv.refl _, Cv.refl _, Cv.refl _, Cv.refl _, trivial⟩)) (.cons (.tmp rfl (.d _)) .nil)), ?_⟩
        have hch : chD w x day = 11 := by
          unfold chD; simp only [h1, h4, h6, h7, h8]; rfl
        have hu : dec w cal x up day = (z0, 11) := by
          unfold dec; rw [hch, if_pos (by decide)]
        rw [hu]; rfl
      · skip
        have h9 := f_not h7
        refine a_skip ?_
        show A _ _ _ _ _ _ _
        refine a_rseq ?_
        refine rg_put (d := 32) (v := .pt 102 9) rfl (og rfl (of_eff (s_field_pt rfl Tryd.underlying28 rfl ti26 rfl rfl rfl) rfl)) ?_
        refine rg_put (d := 33) (v := .d (.ag (eAp x.ap))) rfl (og rfl (of_eff (s_load_pts rfl Tryd.underlying26 rfl ti26 rfl rfl rfl rfl) rfl)) ?_
        refine rg_nam (d := 14) (v := .pt 105 0) (m := 105) (nw := [(105, .bx 26 [.fl (.int .i64 0), .fl (.int .i64 0), .fl (.int .i64 0)])]) rfl (og rfl (of_eff (s_alloc 105 rfl ti26 (by kernel_rfl) rfl) rfl)) rfl ?_
        refine rg_sto (nw := [(105, .bx 26 (eAp x.ap))]) rfl (og rfl (of_eff (s_store rfl rfl ti26 rfl rfl rfl rfl rfl rfl) rfl)) ?_
        refine rg_done rfl ?_
        refine a_seq ?_
        refine a_rseq ?_
        refine rg_put (d := 34) (v := .d (.fl (.int .i64 day))) rfl (og rfl (op_move rfl rfl rfl)) ?_
        refine rg_put (d := 35) (v := .d (.fl (.bool (isD day)))) rfl (og rfl (op_call rfl Tryd.func31 nm31 rfl (.cons rfl (.d _) .nil) (isD33 day) rfl)) ?_
        refine rg_put (d := 36) (v := .d (.fl (.bool ((!(isD day)))))) rfl (og rfl (op_un rfl rfl (u_not _) rfl)) ?_
        refine rg_put (d := 37) (v := .d (.fl (.bool ((!(isD day)))))) rfl (og rfl (op_move rfl rfl rfl)) ?_
        rcases fot ((!(isD day))) with h10 | h10
        · skip
          have h11 := f_not h10
          refine rg_put (d := 38) (v := .pt 105 2) rfl (oy rfl rfl rfl h10 (of_eff (s_field_pt rfl Tryd.underlying26 rfl ti3 rfl rfl rfl) rfl)) ?_
          refine rg_put (d := 39) (v := .d (.fl (.int .i64 x.ap.day))) rfl (oy rfl rfl rfl h10 (op_load_pt rfl Tryd.underlying3 rfl rfl rfl rfl rfl)) ?_
          refine rg_put (d := 40) (v := .d (.fl (.bool (isD x.ap.day)))) rfl (oy rfl rfl rfl h10 (op_call rfl Tryd.func31 nm31 rfl (.cons rfl (.d _) .nil) (isD33 x.ap.day) rfl)) ?_
          refine rg_put (d := 41) (v := .d (.fl (.bool ((!(isD x.ap.day)))))) rfl (oy rfl rfl rfl h10 (op_un rfl rfl (u_not _) rfl)) ?_
          refine rg_put (d := 42) (v := .d (.fl (.bool ((!(isD x.ap.day)))))) rfl (og rfl (op_pick rfl rfl (by rw [h10]; rfl) rfl)) ?_
          refine rg_put (d := 43) (v := .d (.fl (.bool ((!(isD x.ap.day)))))) rfl (og rfl (op_move rfl rfl rfl)) ?_
          rcases fot ((!(isD x.ap.day))) with h12 | h12
          · skip
            have h13 := f_not h12
            refine rg_put (d := 44) (v := .pt 102 3) rfl (oy rfl rfl rfl h12 (of_eff (s_field_pt rfl Tryd.underlying28 rfl ti3 rfl rfl rfl) rfl)) ?_
            refine rg_put (d := 45) (v := .d (.fl (.int .i64 x.begun))) rfl (oy rfl rfl rfl h12 (op_load_pt rfl Tryd.underlying3 rfl rfl rfl rfl rfl)) ?_
            refine rg_put (d := 46) (v := .d (.fl (.bool (isD x.begun)))) rfl (oy rfl rfl rfl h12 (op_call rfl Tryd.func31 nm31 rfl (.cons rfl (.d _) .nil) (isD33 x.begun) rfl)) ?_
            refine rg_put (d := 47) (v := .d (.fl (.bool ((!(isD x.begun)))))) rfl (oy rfl rfl rfl h12 (op_un rfl rfl (u_not _) rfl)) ?_
            refine rg_put (d := 48) (v := .d (.fl (.bool ((!(isD x.begun)))))) rfl (og rfl (op_pick rfl rfl (by rw [h12]; rfl) rfl)) ?_
            refine rg_put (d := 49) (v := .d (.fl (.bool ((!(isD x.begun)))))) rfl (og rfl (op_move rfl rfl rfl)) ?_
            rcases fot ((!(isD x.begun))) with h14 | h14
            · skip
              have h15 := f_not h14
              refine rg_put (d := 50) (v := .pt 102 4) rfl (oy rfl rfl rfl h14 (of_eff (s_field_pt rfl Tryd.underlying28 rfl ti3 rfl rfl rfl) rfl)) ?_
              refine rg_put (d := 51) (v := .d (.fl (.int .i64 x.since))) rfl (oy rfl rfl rfl h14 (op_load_pt rfl Tryd.underlying3 rfl rfl rfl rfl rfl)) ?_
              refine rg_put (d := 52) (v := .d (.fl (.bool (isD x.since)))) rfl (oy rfl rfl rfl h14 (op_call rfl Tryd.func31 nm31 rfl (.cons rfl (.d _) .nil) (isD33 x.since) rfl)) ?_
              refine rg_put (d := 53) (v := .d (.fl (.bool ((!(isD x.since)))))) rfl (oy rfl rfl rfl h14 (op_un rfl rfl (u_not _) rfl)) ?_
              refine rg_put (d := 54) (v := .d (.fl (.bool ((!(isD x.since)))))) rfl (og rfl (op_pick rfl rfl (by rw [h14]; rfl) rfl)) ?_
              refine rg_put (d := 55) (v := .d (.fl (.bool ((!(isD x.since)))))) rfl (og rfl (op_move rfl rfl rfl)) ?_
              rcases fot ((!(isD x.since))) with h16 | h16
              · skip
                have h17 := f_not h16
                refine rg_put (d := 56) (v := .pt 102 8) rfl (oy rfl rfl rfl h16 (of_eff (s_field_pt rfl Tryd.underlying28 rfl ti3 rfl rfl rfl) rfl)) ?_
                refine rg_put (d := 57) (v := .d (.fl (.int .i64 x.paused))) rfl (oy rfl rfl rfl h16 (op_load_pt rfl Tryd.underlying3 rfl rfl rfl rfl rfl)) ?_
                refine rg_put (d := 58) (v := .d (.fl (.bool ((decide (x.paused < 0)))))) rfl (oy rfl rfl rfl h16 (op_bin rfl rfl rfl (b_lss _ _ _ _) rfl)) ?_
                refine rg_put (d := 59) (v := .d (.fl (.bool ((decide (x.paused < 0)))))) rfl (og rfl (op_pick rfl rfl (by rw [h16]; rfl) rfl)) ?_
                refine rg_put (d := 60) (v := .d (.fl (.bool ((decide (x.paused < 0)))))) rfl (og rfl (op_move rfl rfl rfl)) ?_
                rcases fot ((decide (x.paused < 0))) with h18 | h18
                · skip
                  have h19 := f_dec h18
                  refine rg_put (d := 61) (v := .pt 102 8) rfl (oy rfl rfl rfl h18 (of_eff (s_field_pt rfl Tryd.underlying28 rfl ti3 rfl rfl rfl) rfl)) ?_
                  refine rg_put (d := 62) (v := .d (.fl (.int .i64 x.paused))) rfl (oy rfl rfl rfl h18 (op_load_pt rfl Tryd.underlying3 rfl rfl rfl rfl rfl)) ?_
                  refine rg_put (d := 63) (v := .d (.fl (.bool ((decide (795364 < x.paused)))))) rfl (oy rfl rfl rfl h18 (op_bin rfl rfl rfl (b_gtr _ _ _ _) rfl)) ?_
                  refine rg_put (d := 64) (v := .d (.fl (.bool ((decide (795364 < x.paused)))))) rfl (og rfl (op_pick rfl rfl (by rw [h18]; rfl) rfl)) ?_
                  refine rg_done rfl ?_
                  refine a_cond rfl (fun h20 => ?_) (fun h20 => ?_)
                  · skip
                    have h21 := t_dec h20
                    refine a_rseq ?_
                    refine rg_put (d := 65) (v := .d (.ag (eCs (((Cs.mk (⟨#[]⟩) (⟨#[]⟩) (⟨#[]⟩) 0 0 0 0 0 0 (Ap.mk 0 0 0))))))) rfl (og rfl (of_eff (s_load_pts rfl Tryd.underlying28 rfl ti28 rfl rfl rfl rfl) rfl)) ?_
                    refine rg_sto (nw := [(103, .bx 28 ((eCs (((Cs.mk (⟨#[]⟩) (⟨#[]⟩) (⟨#[]⟩) 0 0 0 0 0 0 (Ap.mk 0 0 0)))))))]) rfl (og rfl (of_eff (s_store rfl rfl ti28 rfl rfl rfl rfl rfl rfl) rfl)) ?_
                    refine rg_put (d := 11) (v := .d (.fl (.int .i64 12))) rfl (og rfl (op_assign rfl rfl rfl)) ?_
                    refine rg_done rfl ?_
                    refine a_ret ?_
                    show ∃ ds, ResL _ _ _ ds ∧ RV.of ds = _
                    refine ⟨[.ag [.fl (.string (⟨#[]⟩)), .fl (.string (⟨#[]⟩)), .fl (.string (⟨#[]⟩)), .fl (.int .i64 (0)), .fl (.int .i64 (0)), .fl (.int .i64 (0)), .fl (.int .i64 (0)), .fl (.int .i64 (0)), .fl (.int .i64 (0)), .fl (.int .i64 (0)), .fl (.int .i64 (0)), .fl (.int .i64 (0))], .fl (.int .i64 12)], (.cons (.cellT rfl rfl Tryd.underlying28 rfl ti28 rfl (Cv.ag (xs := [.fl (.string (⟨#[]⟩)), .fl (.string (⟨#[]⟩)), .fl (.string (⟨#[]⟩)), .fl (.int .i64 (0)), .fl (.int .i64 (0)), .fl (.int .i64 (0)), .fl (.int .i64 (0)), .fl (.int .i64 (0)), .fl (.int .i64 (0)), .fl (.int .i64 (0)), .fl (.int .i64 (0)), .fl (.int .i64 (0))]) (ys := [.fl (.string (⟨#[]⟩)), .fl (.string (⟨#[]⟩)), .fl (.string (⟨#[]⟩)), .fl (.int .i64 (0)), .fl (.int .i64 (0)), .fl (.int .i64 (0)), .fl (.int .i64 (0)), .fl (.int .i64 (0)), .fl (.int .i64 (0)), .fl (.int .i64 (0)), .fl (.int .i64 (0)), .fl (.int .i64 (0))]) ⟨Cv.refl _, Cv.refl _, Cv.refl _, Cv.refl _, Cv.refl _, Cv.refl _, Cv.refl _, Cv.refl _, Cv.refl _, Cv.refl _, Cv.refl _, Cv.refl _, trivial⟩)) (.cons (.tmp rfl (.d _)) .nil)), ?_⟩
                    have hch : chD w x day = 12 := by
                      unfold chD; simp only [h1, h4, h6, h7, h9, h10, h11, h12, h13, h14, h15, h16, h17, h18, h20]; rfl
                    have hu : dec w cal x up day = (z0, 12) := by
                      unfold dec; rw [hch, if_pos (by decide)]
                    rw [hu]; rfl
                  · skip
                    have h22 := f_dec h20
                    refine a_skip ?_
                    show A _ _ _ _ _ _ _
                    refine a_seq ?_
                    refine a_rseq ?_
                    refine rg_put (d := 66) (v := .pt 105 2) rfl (og rfl (of_eff (s_field_pt rfl Tryd.underlying26 rfl ti3 rfl rfl rfl) rfl)) ?_
                    refine rg_put (d := 67) (v := .d (.fl (.int .i64 x.ap.day))) rfl (og rfl (op_load_pt rfl Tryd.underlying3 rfl rfl rfl rfl rfl)) ?_
                    refine rg_put (d := 68) (v := .pt 102 4) rfl (og rfl (of_eff (s_field_pt rfl Tryd.underlying28 rfl ti3 rfl rfl rfl) rfl)) ?_
                    refine rg_put (d := 69) (v := .d (.fl (.int .i64 x.since))) rfl (og rfl (op_load_pt rfl Tryd.underlying3 rfl rfl rfl rfl rfl)) ?_
                    refine rg_put (d := 70) (v := .d (.fl (.bool ((decide (x.ap.day < x.since)))))) rfl (og rfl (op_bin rfl rfl rfl (b_lss _ _ _ _) rfl)) ?_
                    refine rg_put (d := 71) (v := .d (.fl (.bool ((decide (x.ap.day < x.since)))))) rfl (og rfl (op_move rfl rfl rfl)) ?_
                    rcases fot ((decide (x.ap.day < x.since))) with h23 | h23
                    · skip
                      have h24 := f_dec h23
                      refine rg_put (d := 72) (v := .d (.fl (.int .i64 day))) rfl (oy rfl rfl rfl h23 (op_move rfl rfl rfl)) ?_
                      refine rg_put (d := 73) (v := .pt 105 2) rfl (oy rfl rfl rfl h23 (of_eff (s_field_pt rfl Tryd.underlying26 rfl ti3 rfl rfl rfl) rfl)) ?_
                      refine rg_put (d := 74) (v := .d (.fl (.int .i64 x.ap.day))) rfl (oy rfl rfl rfl h23 (op_load_pt rfl Tryd.underlying3 rfl rfl rfl rfl rfl)) ?_
                      refine rg_put (d := 75) (v := .d (.fl (.bool ((decide (day < x.ap.day)))))) rfl (oy rfl rfl rfl h23 (op_bin rfl rfl rfl (b_lss _ _ _ _) rfl)) ?_
                      refine rg_put (d := 76) (v := .d (.fl (.bool ((decide (day < x.ap.day)))))) rfl (og rfl (op_pick rfl rfl (by rw [h23]; rfl) rfl)) ?_
                      refine rg_done rfl ?_
                      refine a_cond rfl (fun h25 => ?_) (fun h25 => ?_)
                      · skip
                        have h26 := t_dec h25
                        refine a_rseq ?_
                        refine rg_put (d := 77) (v := .d (.ag (eCs (((Cs.mk (⟨#[]⟩) (⟨#[]⟩) (⟨#[]⟩) 0 0 0 0 0 0 (Ap.mk 0 0 0))))))) rfl (og rfl (of_eff (s_load_pts rfl Tryd.underlying28 rfl ti28 rfl rfl rfl rfl) rfl)) ?_
                        refine rg_sto (nw := [(103, .bx 28 ((eCs (((Cs.mk (⟨#[]⟩) (⟨#[]⟩) (⟨#[]⟩) 0 0 0 0 0 0 (Ap.mk 0 0 0)))))))]) rfl (og rfl (of_eff (s_store rfl rfl ti28 rfl rfl rfl rfl rfl rfl) rfl)) ?_
                        refine rg_put (d := 11) (v := .d (.fl (.int .i64 15))) rfl (og rfl (op_assign rfl rfl rfl)) ?_
                        refine rg_done rfl ?_
                        refine a_ret ?_
                        show ∃ ds, ResL _ _ _ ds ∧ RV.of ds = _
                        refine ⟨[.ag [.fl (.string (⟨#[]⟩)), .fl (.string (⟨#[]⟩)), .fl (.string (⟨#[]⟩)), .fl (.int .i64 (0)), .fl (.int .i64 (0)), .fl (.int .i64 (0)), .fl (.int .i64 (0)), .fl (.int .i64 (0)), .fl (.int .i64 (0)), .fl (.int .i64 (0)), .fl (.int .i64 (0)), .fl (.int .i64 (0))], .fl (.int .i64 15)], (.cons (.cellT rfl rfl Tryd.underlying28 rfl ti28 rfl (Cv.ag (xs := [.fl (.string (⟨#[]⟩)), .fl (.string (⟨#[]⟩)), .fl (.string (⟨#[]⟩)), .fl (.int .i64 (0)), .fl (.int .i64 (0)), .fl (.int .i64 (0)), .fl (.int .i64 (0)), .fl (.int .i64 (0)), .fl (.int .i64 (0)), .fl (.int .i64 (0)), .fl (.int .i64 (0)), .fl (.int .i64 (0))]) (ys := [.fl (.string (⟨#[]⟩)), .fl (.string (⟨#[]⟩)), .fl (.string (⟨#[]⟩)), .fl (.int .i64 (0)), .fl (.int .i64 (0)), .fl (.int .i64 (0)), .fl (.int .i64 (0)), .fl (.int .i64 (0)), .fl (.int .i64 (0)), .fl (.int .i64 (0)), .fl (.int .i64 (0)), .fl (.int .i64 (0))]) ⟨Cv.refl _, Cv.refl _, Cv.refl _, Cv.refl _, Cv.refl _, Cv.refl _, Cv.refl _, Cv.refl _, Cv.refl _, Cv.refl _, Cv.refl _, Cv.refl _, trivial⟩)) (.cons (.tmp rfl (.d _)) .nil)), ?_⟩
                        have hch : chD w x day = 15 := by
                          unfold chD; simp only [h1, h4, h6, h7, h9, h10, h11, h12, h13, h14, h15, h16, h17, h18, h20, h23, h25]; rfl
                        have hu : dec w cal x up day = (z0, 15) := by
                          unfold dec; rw [hch, if_pos (by decide)]
                        rw [hu]; rfl
                      · skip
                        have h27 := f_dec h25
                        refine a_skip ?_
                        show A _ _ _ _ _ _ _
                        refine a_seq ?_
                        refine a_rseq ?_
                        have hch0 : chD w x day = 0 := by
                          unfold chD; simp only [h1, h4, h6, h7, h9, h10, h11, h12, h13, h14, h15, h16, h17, h18, h20, h23, h25]; rfl
                        obtain ⟨e1, e2, e3, e4, e5, e6, e7, e8⟩ := chD_ok hch0
                        refine rg_put (d := 78) (v := .d (.fl (.bool up))) rfl (og rfl (op_move rfl rfl rfl)) ?_
                        refine rg_done rfl ?_
                        refine a_cond rfl (fun h28 => ?_) (fun h28 => ?_)
                        · skip
                          refine a_rseq ?_
                          refine rg_put (d := 79) (v := .pt 102 5) rfl (og rfl (of_eff (s_field_pt rfl Tryd.underlying28 rfl ti3 rfl rfl rfl) rfl)) ?_
                          refine rg_sto (nw := [(102, .bx 28 [.fl (.string x.id), .fl (.string x.plate), .fl (.string x.key), .fl (.int .i64 x.begun), .fl (.int .i64 x.since), .fl (.int .i64 7), .fl (.int .i64 x.owed), .fl (.int .i64 x.paid), .fl (.int .i64 x.paused), .fl (.int .i64 x.ap.state), .fl (.int .i64 x.ap.ground), .fl (.int .i64 x.ap.day)])]) rfl (og rfl (of_eff (s_store rfl rfl ti3 rfl rfl rfl rfl rfl rfl) rfl)) ?_
                          refine rg_done rfl ?_
                          refine a_rseq ?_
                          refine rg_put (d := 80) (v := .pt 105 1) rfl (og rfl (of_eff (s_field_pt rfl Tryd.underlying26 rfl ti3 rfl rfl rfl) rfl)) ?_
                          refine rg_put (d := 81) (v := .d (.fl (.int .i64 x.ap.ground))) rfl (og rfl (op_load_pt rfl Tryd.underlying3 rfl rfl rfl rfl rfl)) ?_
                          refine rg_put (d := 82) (v := .d (.fl (.int .i64 day))) rfl (og rfl (op_move rfl rfl rfl)) ?_
                          refine rg_put (d := 83) (v := .d (.ag (eAp (Ap.mk 2 x.ap.ground day)))) rfl (og rfl (of_eff (op_build rfl Tryd.underlying26 ti26 rfl (by kernel_rfl) (by kernel_rfl) (pl := #[(0, 1), (1, 1), (2, 1)]) (by kernel_rfl) (.cons rfl rfl (.d _) rfl rfl rfl (.cons rfl rfl (.d _) rfl rfl rfl (.cons rfl rfl (.d _) rfl rfl rfl .nil))) rfl) rfl)) ?_
                          refine rg_put (d := 84) (v := .pt 102 9) rfl (og rfl (of_eff (s_field_pt rfl Tryd.underlying28 rfl ti26 rfl rfl rfl) rfl)) ?_
                          refine rg_sto (nw := [(102, .bx 28 [.fl (.string x.id), .fl (.string x.plate), .fl (.string x.key), .fl (.int .i64 x.begun), .fl (.int .i64 x.since), .fl (.int .i64 7), .fl (.int .i64 x.owed), .fl (.int .i64 x.paid), .fl (.int .i64 x.paused), .fl (.int .i64 ((Ap.mk 2 x.ap.ground day).state)), .fl (.int .i64 ((Ap.mk 2 x.ap.ground day).ground)), .fl (.int .i64 ((Ap.mk 2 x.ap.ground day).day))])]) rfl (og rfl (of_eff (s_store rfl rfl ti26 rfl rfl rfl rfl rfl rfl) rfl)) ?_
                          refine rg_done rfl ?_
                          refine a_rseq ?_
                          refine rg_put (d := 85) (v := .d (.ag (eCs ((Cs.mk x.id x.plate x.key x.begun x.since 7 x.owed x.paid x.paused (Ap.mk 2 x.ap.ground day)))))) rfl (og rfl (of_eff (s_load_pts rfl Tryd.underlying28 rfl ti28 rfl rfl rfl rfl) rfl)) ?_
                          refine rg_sto (nw := [(103, .bx 28 ((eCs ((Cs.mk x.id x.plate x.key x.begun x.since 7 x.owed x.paid x.paused (Ap.mk 2 x.ap.ground day))))))]) rfl (og rfl (of_eff (s_store rfl rfl ti28 rfl rfl rfl rfl rfl rfl) rfl)) ?_
                          refine rg_put (d := 11) (v := .d (.fl (.int .i64 0))) rfl (og rfl (op_assign rfl rfl rfl)) ?_
                          refine rg_done rfl ?_
                          refine a_ret ?_
                          show ∃ ds, ResL _ _ _ ds ∧ RV.of ds = _
                          refine ⟨[.ag [.fl (.string (x.id)), .fl (.string (x.plate)), .fl (.string (x.key)), .fl (.int .i64 (x.begun)), .fl (.int .i64 (x.since)), .fl (.int .i64 (7)), .fl (.int .i64 (x.owed)), .fl (.int .i64 (x.paid)), .fl (.int .i64 (x.paused)), .fl (.int .i64 (2)), .fl (.int .i64 (x.ap.ground)), .fl (.int .i64 (day))], .fl (.int .i64 0)], (.cons (.cellT rfl rfl Tryd.underlying28 rfl ti28 rfl (Cv.ag (xs := [.fl (.string (x.id)), .fl (.string (x.plate)), .fl (.string (x.key)), .fl (.int .i64 (x.begun)), .fl (.int .i64 (x.since)), .fl (.int .i64 (7)), .fl (.int .i64 (x.owed)), .fl (.int .i64 (x.paid)), .fl (.int .i64 (x.paused)), .fl (.int .i64 (2)), .fl (.int .i64 (x.ap.ground)), .fl (.int .i64 (day))]) (ys := [.fl (.string (x.id)), .fl (.string (x.plate)), .fl (.string (x.key)), .fl (.int .i64 (x.begun)), .fl (.int .i64 (x.since)), .fl (.int .i64 (7)), .fl (.int .i64 (x.owed)), .fl (.int .i64 (x.paid)), .fl (.int .i64 (x.paused)), .fl (.int .i64 (2)), .fl (.int .i64 (x.ap.ground)), .fl (.int .i64 (day))]) ⟨Cv.refl _, Cv.refl _, Cv.refl _, Cv.refl _, Cv.refl _, Cv.refl _, Cv.refl _, Cv.refl _, Cv.refl _, Cv.refl _, Cv.refl _, Cv.refl _, trivial⟩)) (.cons (.tmp rfl (.d _)) .nil)), ?_⟩
                          have hch : chD w x day = 0 := by
                            unfold chD; simp only [h1, h4, h6, h7, h9, h10, h11, h12, h13, h14, h15, h16, h17, h18, h20, h23, h25, h28]; rfl
                          have hu : dec w cal x up day = (Cs.mk x.id x.plate x.key x.begun x.since 7 x.owed x.paid x.paused (Ap.mk 2 x.ap.ground day), 0) := by
                            unfold dec; simp only [h1, h4, h6, h7, h9, h10, h11, h12, h13, h14, h15, h16, h17, h18, h20, h23, h25, h28, hch]; rfl
                          rw [hu]; rfl
                        · skip
                          refine a_skip ?_
                          show A _ _ _ _ _ _ _
                          refine a_rseq ?_
                          refine rg_put (d := 86) (v := .pt 105 1) rfl (og rfl (of_eff (s_field_pt rfl Tryd.underlying26 rfl ti3 rfl rfl rfl) rfl)) ?_
                          refine rg_put (d := 87) (v := .d (.fl (.int .i64 x.ap.ground))) rfl (og rfl (op_load_pt rfl Tryd.underlying3 rfl rfl rfl rfl rfl)) ?_
                          refine rg_put (d := 88) (v := .d (.fl (.int .i64 day))) rfl (og rfl (op_move rfl rfl rfl)) ?_
                          refine rg_put (d := 89) (v := .d (.ag (eAp (Ap.mk 3 x.ap.ground day)))) rfl (og rfl (of_eff (op_build rfl Tryd.underlying26 ti26 rfl (by kernel_rfl) (by kernel_rfl) (pl := #[(0, 1), (1, 1), (2, 1)]) (by kernel_rfl) (.cons rfl rfl (.d _) rfl rfl rfl (.cons rfl rfl (.d _) rfl rfl rfl (.cons rfl rfl (.d _) rfl rfl rfl .nil))) rfl) rfl)) ?_
                          refine rg_put (d := 90) (v := .pt 102 9) rfl (og rfl (of_eff (s_field_pt rfl Tryd.underlying28 rfl ti26 rfl rfl rfl) rfl)) ?_
                          refine rg_sto (nw := [(102, .bx 28 [.fl (.string x.id), .fl (.string x.plate), .fl (.string x.key), .fl (.int .i64 x.begun), .fl (.int .i64 x.since), .fl (.int .i64 x.stage), .fl (.int .i64 x.owed), .fl (.int .i64 x.paid), .fl (.int .i64 x.paused), .fl (.int .i64 ((Ap.mk 3 x.ap.ground day).state)), .fl (.int .i64 ((Ap.mk 3 x.ap.ground day).ground)), .fl (.int .i64 ((Ap.mk 3 x.ap.ground day).day))])]) rfl (og rfl (of_eff (s_store rfl rfl ti26 rfl rfl rfl rfl rfl rfl) rfl)) ?_
                          refine rg_done rfl ?_
                          refine a_rseq ?_
                          refine rg_put (d := 91) (v := .pt 102 4) rfl (og rfl (of_eff (s_field_pt rfl Tryd.underlying28 rfl ti3 rfl rfl rfl) rfl)) ?_
                          refine rg_put (d := 92) (v := .d (.fl (.int .i64 x.since))) rfl (og rfl (op_load_pt rfl Tryd.underlying3 rfl rfl rfl rfl rfl)) ?_
                          refine rg_put (d := 93) (v := .d (.fl (.int .i64 day))) rfl (og rfl (op_move rfl rfl rfl)) ?_
                          refine rg_put (d := 94) (v := .d (.fl (.int .i64 (x.since + day)))) rfl (og rfl (op_bin rfl rfl rfl (fun x y w => b_add64 _ _ _ x y w (by omega)) rfl)) ?_
                          refine rg_put (d := 95) (v := .pt 105 2) rfl (og rfl (of_eff (s_field_pt rfl Tryd.underlying26 rfl ti3 rfl rfl rfl) rfl)) ?_
                          refine rg_put (d := 96) (v := .d (.fl (.int .i64 x.ap.day))) rfl (og rfl (op_load_pt rfl Tryd.underlying3 rfl rfl rfl rfl rfl)) ?_
                          refine rg_put (d := 97) (v := .d (.fl (.int .i64 (((x.since + day) - x.ap.day))))) rfl (og rfl (op_bin rfl rfl rfl (fun x y w => b_sub64 _ _ _ x y w (by omega)) rfl)) ?_
                          refine rg_put (d := 98) (v := .pt 102 4) rfl (og rfl (of_eff (s_field_pt rfl Tryd.underlying28 rfl ti3 rfl rfl rfl) rfl)) ?_
                          refine rg_sto (nw := [(102, .bx 28 [.fl (.string x.id), .fl (.string x.plate), .fl (.string x.key), .fl (.int .i64 x.begun), .fl (.int .i64 (((x.since + day) - x.ap.day))), .fl (.int .i64 x.stage), .fl (.int .i64 x.owed), .fl (.int .i64 x.paid), .fl (.int .i64 x.paused), .fl (.int .i64 ((Ap.mk 3 x.ap.ground day).state)), .fl (.int .i64 ((Ap.mk 3 x.ap.ground day).ground)), .fl (.int .i64 ((Ap.mk 3 x.ap.ground day).day))])]) rfl (og rfl (of_eff (s_store rfl rfl ti3 rfl rfl rfl rfl rfl rfl) rfl)) ?_
                          refine rg_done rfl ?_
                          refine a_rseq ?_
                          refine rg_put (d := 99) (v := .pt 102 8) rfl (og rfl (of_eff (s_field_pt rfl Tryd.underlying28 rfl ti3 rfl rfl rfl) rfl)) ?_
                          refine rg_put (d := 100) (v := .d (.fl (.int .i64 x.paused))) rfl (og rfl (op_load_pt rfl Tryd.underlying3 rfl rfl rfl rfl rfl)) ?_
                          refine rg_put (d := 101) (v := .d (.fl (.int .i64 day))) rfl (og rfl (op_move rfl rfl rfl)) ?_
                          refine rg_put (d := 102) (v := .d (.fl (.int .i64 (x.paused + day)))) rfl (og rfl (op_bin rfl rfl rfl (fun x y w => b_add64 _ _ _ x y w (by omega)) rfl)) ?_
                          refine rg_put (d := 103) (v := .pt 105 2) rfl (og rfl (of_eff (s_field_pt rfl Tryd.underlying26 rfl ti3 rfl rfl rfl) rfl)) ?_
                          refine rg_put (d := 104) (v := .d (.fl (.int .i64 x.ap.day))) rfl (og rfl (op_load_pt rfl Tryd.underlying3 rfl rfl rfl rfl rfl)) ?_
                          refine rg_put (d := 105) (v := .d (.fl (.int .i64 (((x.paused + day) - x.ap.day))))) rfl (og rfl (op_bin rfl rfl rfl (fun x y w => b_sub64 _ _ _ x y w (by omega)) rfl)) ?_
                          refine rg_put (d := 106) (v := .d (.fl (.int .i64 ((min (((x.paused + day) - x.ap.day)) 795364))))) rfl (og rfl (op_min rfl rfl rfl rfl)) ?_
                          refine rg_put (d := 107) (v := .pt 102 8) rfl (og rfl (of_eff (s_field_pt rfl Tryd.underlying28 rfl ti3 rfl rfl rfl) rfl)) ?_
                          refine rg_sto (nw := [(102, .bx 28 [.fl (.string x.id), .fl (.string x.plate), .fl (.string x.key), .fl (.int .i64 x.begun), .fl (.int .i64 (((x.since + day) - x.ap.day))), .fl (.int .i64 x.stage), .fl (.int .i64 x.owed), .fl (.int .i64 x.paid), .fl (.int .i64 ((min (((x.paused + day) - x.ap.day)) 795364))), .fl (.int .i64 ((Ap.mk 3 x.ap.ground day).state)), .fl (.int .i64 ((Ap.mk 3 x.ap.ground day).ground)), .fl (.int .i64 ((Ap.mk 3 x.ap.ground day).day))])]) rfl (og rfl (of_eff (s_store rfl rfl ti3 rfl rfl rfl rfl rfl rfl) rfl)) ?_
                          refine rg_done rfl ?_
                          refine a_rseq ?_
                          refine rg_put (d := 109) (v := .d (.ag (eLw w))) rfl (og rfl (of_eff (s_load_pts rfl Tryd.underlying24 rfl ti24 rfl rfl rfl rfl) rfl)) ?_
                          refine rg_put (d := 110) (v := .d (.sl 1 (List.map (rI .i64) cal))) rfl (og rfl (op_move rfl rfl rfl)) ?_
                          refine rg_put (d := 111) (v := .d (.ag (eCs ((Cs.mk x.id x.plate x.key x.begun (((x.since + day) - x.ap.day)) x.stage x.owed x.paid ((min (((x.paused + day) - x.ap.day)) 795364)) (Ap.mk 3 x.ap.ground day)))))) rfl (og rfl (of_eff (s_load_pts rfl Tryd.underlying28 rfl ti28 rfl rfl rfl rfl) rfl)) ?_
                          refine rg_put (d := 112) (v := .d (.fl (.int .i64 day))) rfl (og rfl (op_move rfl rfl rfl)) ?_
                          refine rg_put (d := 113) (v := .tu [.ag (eCs ((adv w cal (dn x day) day).1)), .fl (.int .i64 ((adv w cal (dn x day) day).2))]) rfl (og rfl (op_call rfl Tryd.func25 nm25 rfl (.cons rfl (.d _) (.cons rfl (.d _) (.cons rfl (.d _) (.cons rfl (.d _) .nil)))) (adv18_at (w := w) (cal := cal) (x := x) (X := (Cs.mk x.id x.plate x.key x.begun (((x.since + day) - x.ap.day)) x.stage x.owed x.paid ((min (((x.paused + day) - x.ap.day)) 795364)) (Ap.mk 3 x.ap.ground day))) (day := day) (by unfold dn; first | rfl | (congr 1 <;> omega)) hl0) rfl)) ?_
                          refine rg_put (d := 108) (v := .tu [.ag (eCs ((adv w cal (dn x day) day).1)), .fl (.int .i64 ((adv w cal (dn x day) day).2))]) rfl (og rfl (op_move rfl rfl rfl)) ?_
                          refine rg_put (d := 114) (v := .d (.ag (eCs ((adv w cal (dn x day) day).1)))) rfl (og rfl (op_extract rfl rfl rfl rfl)) ?_
                          refine rg_put (d := 115) (v := .d (.fl (.int .i64 ((adv w cal (dn x day) day).2)))) rfl (og rfl (op_extract rfl rfl rfl rfl)) ?_
                          refine rg_nam (d := 15) (v := .pt 106 0) (m := 106) (nw := [(106, .bx 28 ([.fl (.string (⟨#[]⟩)), .fl (.string (⟨#[]⟩)), .fl (.string (⟨#[]⟩)), .fl (.int .i64 0), .fl (.int .i64 0), .fl (.int .i64 0), .fl (.int .i64 0), .fl (.int .i64 0), .fl (.int .i64 0), .fl (.int .i64 0), .fl (.int .i64 0), .fl (.int .i64 0)]))]) rfl (og rfl (of_eff (s_alloc 106 rfl ti28 (by kernel_rfl) rfl) rfl)) rfl ?_
                          refine rg_sto (nw := [(106, .bx 28 ((eCs ((adv w cal (dn x day) day).1))))]) rfl (og rfl (of_eff (s_store rfl rfl ti28 rfl rfl rfl rfl rfl rfl) rfl)) ?_
                          refine rg_put (d := 16) (v := .d (.fl (.int .i64 ((adv w cal (dn x day) day).2)))) rfl (og rfl (op_assign rfl rfl rfl)) ?_
                          refine rg_done rfl ?_
                          refine a_seq ?_
                          refine a_rseq ?_
                          refine rg_put (d := 116) (v := .d (.fl (.int .i64 ((adv w cal (dn x day) day).2)))) rfl (og rfl (op_move rfl rfl rfl)) ?_
                          refine rg_put (d := 117) (v := .d (.fl (.bool (((adv w cal (dn x day) day).2 != 0))))) rfl (og rfl (op_bin rfl rfl rfl (b_neq _ _ _ _) rfl)) ?_
                          refine rg_done rfl ?_
                          refine a_cond rfl (fun h29 => ?_) (fun h29 => ?_)
                          · skip
                            have h30 := t_bne h29
                            refine a_rseq ?_
                            refine rg_put (d := 118) (v := .d (.ag (eCs (((Cs.mk (⟨#[]⟩) (⟨#[]⟩) (⟨#[]⟩) 0 0 0 0 0 0 (Ap.mk 0 0 0))))))) rfl (og rfl (of_eff (s_load_pts rfl Tryd.underlying28 rfl ti28 rfl rfl rfl rfl) rfl)) ?_
                            refine rg_put (d := 119) (v := .d (.fl (.int .i64 ((adv w cal (dn x day) day).2)))) rfl (og rfl (op_move rfl rfl rfl)) ?_
                            refine rg_sto (nw := [(103, .bx 28 ((eCs (((Cs.mk (⟨#[]⟩) (⟨#[]⟩) (⟨#[]⟩) 0 0 0 0 0 0 (Ap.mk 0 0 0)))))))]) rfl (og rfl (of_eff (s_store rfl rfl ti28 rfl rfl rfl rfl rfl rfl) rfl)) ?_
                            refine rg_put (d := 11) (v := .d (.fl (.int .i64 ((adv w cal (dn x day) day).2)))) rfl (og rfl (op_assign rfl rfl rfl)) ?_
                            refine rg_done rfl ?_
                            refine a_ret ?_
                            show ∃ ds, ResL _ _ _ ds ∧ RV.of ds = _
                            refine ⟨[.ag [.fl (.string (⟨#[]⟩)), .fl (.string (⟨#[]⟩)), .fl (.string (⟨#[]⟩)), .fl (.int .i64 (0)), .fl (.int .i64 (0)), .fl (.int .i64 (0)), .fl (.int .i64 (0)), .fl (.int .i64 (0)), .fl (.int .i64 (0)), .fl (.int .i64 (0)), .fl (.int .i64 (0)), .fl (.int .i64 (0))], .fl (.int .i64 ((adv w cal (dn x day) day).2))], (.cons (.cellT rfl rfl Tryd.underlying28 rfl ti28 rfl (Cv.ag (xs := [.fl (.string (⟨#[]⟩)), .fl (.string (⟨#[]⟩)), .fl (.string (⟨#[]⟩)), .fl (.int .i64 (0)), .fl (.int .i64 (0)), .fl (.int .i64 (0)), .fl (.int .i64 (0)), .fl (.int .i64 (0)), .fl (.int .i64 (0)), .fl (.int .i64 (0)), .fl (.int .i64 (0)), .fl (.int .i64 (0))]) (ys := [.fl (.string (⟨#[]⟩)), .fl (.string (⟨#[]⟩)), .fl (.string (⟨#[]⟩)), .fl (.int .i64 (0)), .fl (.int .i64 (0)), .fl (.int .i64 (0)), .fl (.int .i64 (0)), .fl (.int .i64 (0)), .fl (.int .i64 (0)), .fl (.int .i64 (0)), .fl (.int .i64 (0)), .fl (.int .i64 (0))]) ⟨Cv.refl _, Cv.refl _, Cv.refl _, Cv.refl _, Cv.refl _, Cv.refl _, Cv.refl _, Cv.refl _, Cv.refl _, Cv.refl _, Cv.refl _, Cv.refl _, trivial⟩)) (.cons (.tmp rfl (.d _)) .nil)), ?_⟩
                            have hch : chD w x day = 0 := by
                              unfold chD; simp only [h1, h4, h6, h7, h9, h10, h11, h12, h13, h14, h15, h16, h17, h18, h20, h23, h25, h28, h29]; rfl
                            have hu : dec w cal x up day = adv w cal (dn x day) day := by
                              unfold dec; simp only [h1, h4, h6, h7, h9, h10, h11, h12, h13, h14, h15, h16, h17, h18, h20, h23, h25, h28, h29, hch]; rfl
                            rw [hu, adv_z w cal (dn x day) day (t_bne h29)]; rfl
                          · skip
                            have h31 := f_bne h29
                            refine a_skip ?_
                            show A _ _ _ _ _ _ _
                            refine a_rseq ?_
                            refine rg_put (d := 120) (v := .d (.ag (eCs (((adv w cal (dn x day) day).1))))) rfl (og rfl (of_eff (s_load_pts rfl Tryd.underlying28 rfl ti28 rfl rfl rfl rfl) rfl)) ?_
                            refine rg_sto (nw := [(103, .bx 28 ((eCs (((adv w cal (dn x day) day).1)))))]) rfl (og rfl (of_eff (s_store rfl rfl ti28 rfl rfl rfl rfl rfl rfl) rfl)) ?_
                            refine rg_put (d := 11) (v := .d (.fl (.int .i64 0))) rfl (og rfl (op_assign rfl rfl rfl)) ?_
                            refine rg_done rfl ?_
                            refine a_ret ?_
                            show ∃ ds, ResL _ _ _ ds ∧ RV.of ds = _
                            refine ⟨[.ag [.fl (.string (((adv w cal (dn x day) day).1).id)), .fl (.string (((adv w cal (dn x day) day).1).plate)), .fl (.string (((adv w cal (dn x day) day).1).key)), .fl (.int .i64 (((adv w cal (dn x day) day).1).begun)), .fl (.int .i64 (((adv w cal (dn x day) day).1).since)), .fl (.int .i64 (((adv w cal (dn x day) day).1).stage)), .fl (.int .i64 (((adv w cal (dn x day) day).1).owed)), .fl (.int .i64 (((adv w cal (dn x day) day).1).paid)), .fl (.int .i64 (((adv w cal (dn x day) day).1).paused)), .fl (.int .i64 ((((adv w cal (dn x day) day).1).ap).state)), .fl (.int .i64 ((((adv w cal (dn x day) day).1).ap).ground)), .fl (.int .i64 ((((adv w cal (dn x day) day).1).ap).day))], .fl (.int .i64 0)], (.cons (.cellT rfl rfl Tryd.underlying28 rfl ti28 rfl (Cv.ag (xs := [.fl (.string (((adv w cal (dn x day) day).1).id)), .fl (.string (((adv w cal (dn x day) day).1).plate)), .fl (.string (((adv w cal (dn x day) day).1).key)), .fl (.int .i64 (((adv w cal (dn x day) day).1).begun)), .fl (.int .i64 (((adv w cal (dn x day) day).1).since)), .fl (.int .i64 (((adv w cal (dn x day) day).1).stage)), .fl (.int .i64 (((adv w cal (dn x day) day).1).owed)), .fl (.int .i64 (((adv w cal (dn x day) day).1).paid)), .fl (.int .i64 (((adv w cal (dn x day) day).1).paused)), .fl (.int .i64 ((((adv w cal (dn x day) day).1).ap).state)), .fl (.int .i64 ((((adv w cal (dn x day) day).1).ap).ground)), .fl (.int .i64 ((((adv w cal (dn x day) day).1).ap).day))]) (ys := [.fl (.string (((adv w cal (dn x day) day).1).id)), .fl (.string (((adv w cal (dn x day) day).1).plate)), .fl (.string (((adv w cal (dn x day) day).1).key)), .fl (.int .i64 (((adv w cal (dn x day) day).1).begun)), .fl (.int .i64 (((adv w cal (dn x day) day).1).since)), .fl (.int .i64 (((adv w cal (dn x day) day).1).stage)), .fl (.int .i64 (((adv w cal (dn x day) day).1).owed)), .fl (.int .i64 (((adv w cal (dn x day) day).1).paid)), .fl (.int .i64 (((adv w cal (dn x day) day).1).paused)), .fl (.int .i64 ((((adv w cal (dn x day) day).1).ap).state)), .fl (.int .i64 ((((adv w cal (dn x day) day).1).ap).ground)), .fl (.int .i64 ((((adv w cal (dn x day) day).1).ap).day))]) ⟨Cv.refl _, Cv.refl _, Cv.refl _, Cv.refl _, Cv.refl _, Cv.refl _, Cv.refl _, Cv.refl _, Cv.refl _, Cv.refl _, Cv.refl _, Cv.refl _, trivial⟩)) (.cons (.tmp rfl (.d _)) .nil)), ?_⟩
                            have hch : chD w x day = 0 := by
                              unfold chD; simp only [h1, h4, h6, h7, h9, h10, h11, h12, h13, h14, h15, h16, h17, h18, h20, h23, h25, h28, h29]; rfl
                            have hu : dec w cal x up day = adv w cal (dn x day) day := by
                              unfold dec; simp only [h1, h4, h6, h7, h9, h10, h11, h12, h13, h14, h15, h16, h17, h18, h20, h23, h25, h28, h29, hch]; rfl
                            rw [hu]; exact congrArg (fun n => RV.tu [DV.ag (eCs (adv w cal (dn x day) day).1), DV.fl (.int .i64 n)]) (f_bne h29).symm
                    · skip
                      have h32 := t_dec h23
                      refine rg_put (d := 72) (v := .d (.fl undef)) rfl (on rfl rfl rfl h23) ?_
                      refine rg_put (d := 73) (v := .d (.fl undef)) rfl (on rfl rfl rfl h23) ?_
                      refine rg_put (d := 74) (v := .d (.fl undef)) rfl (on rfl rfl rfl h23) ?_
                      refine rg_put (d := 75) (v := .d (.fl undef)) rfl (on rfl rfl rfl h23) ?_
                      refine rg_put (d := 76) (v := .d (.fl (.bool true))) rfl (og rfl (op_pick rfl rfl (by rw [h23]; rfl) rfl)) ?_
                      refine rg_done rfl ?_
                      refine a_condK rfl rfl ?_
                      refine a_rseq ?_
                      refine rg_put (d := 77) (v := .d (.ag (eCs (((Cs.mk (⟨#[]⟩) (⟨#[]⟩) (⟨#[]⟩) 0 0 0 0 0 0 (Ap.mk 0 0 0))))))) rfl (og rfl (of_eff (s_load_pts rfl Tryd.underlying28 rfl ti28 rfl rfl rfl rfl) rfl)) ?_
                      refine rg_sto (nw := [(103, .bx 28 ((eCs (((Cs.mk (⟨#[]⟩) (⟨#[]⟩) (⟨#[]⟩) 0 0 0 0 0 0 (Ap.mk 0 0 0)))))))]) rfl (og rfl (of_eff (s_store rfl rfl ti28 rfl rfl rfl rfl rfl rfl) rfl)) ?_
                      refine rg_put (d := 11) (v := .d (.fl (.int .i64 15))) rfl (og rfl (op_assign rfl rfl rfl)) ?_
                      refine rg_done rfl ?_
                      refine a_ret ?_
                      show ∃ ds, ResL _ _ _ ds ∧ RV.of ds = _
                      refine ⟨[.ag [.fl (.string (⟨#[]⟩)), .fl (.string (⟨#[]⟩)), .fl (.string (⟨#[]⟩)), .fl (.int .i64 (0)), .fl (.int .i64 (0)), .fl (.int .i64 (0)), .fl (.int .i64 (0)), .fl (.int .i64 (0)), .fl (.int .i64 (0)), .fl (.int .i64 (0)), .fl (.int .i64 (0)), .fl (.int .i64 (0))], .fl (.int .i64 15)], (.cons (.cellT rfl rfl Tryd.underlying28 rfl ti28 rfl (Cv.ag (xs := [.fl (.string (⟨#[]⟩)), .fl (.string (⟨#[]⟩)), .fl (.string (⟨#[]⟩)), .fl (.int .i64 (0)), .fl (.int .i64 (0)), .fl (.int .i64 (0)), .fl (.int .i64 (0)), .fl (.int .i64 (0)), .fl (.int .i64 (0)), .fl (.int .i64 (0)), .fl (.int .i64 (0)), .fl (.int .i64 (0))]) (ys := [.fl (.string (⟨#[]⟩)), .fl (.string (⟨#[]⟩)), .fl (.string (⟨#[]⟩)), .fl (.int .i64 (0)), .fl (.int .i64 (0)), .fl (.int .i64 (0)), .fl (.int .i64 (0)), .fl (.int .i64 (0)), .fl (.int .i64 (0)), .fl (.int .i64 (0)), .fl (.int .i64 (0)), .fl (.int .i64 (0))]) ⟨Cv.refl _, Cv.refl _, Cv.refl _, Cv.refl _, Cv.refl _, Cv.refl _, Cv.refl _, Cv.refl _, Cv.refl _, Cv.refl _, Cv.refl _, Cv.refl _, trivial⟩)) (.cons (.tmp rfl (.d _)) .nil)), ?_⟩
                      have hch : chD w x day = 15 := by
                        unfold chD; simp only [h1, h4, h6, h7, h9, h10, h11, h12, h13, h14, h15, h16, h17, h18, h20, h23]; rfl
                      have hu : dec w cal x up day = (z0, 15) := by
                        unfold dec; rw [hch, if_pos (by decide)]
                      rw [hu]; rfl
                · skip
                  have h33 := t_dec h18
                  refine rg_put (d := 61) (v := .d (.fl undef)) rfl (on rfl rfl rfl h18) ?_
                  refine rg_put (d := 62) (v := .d (.fl undef)) rfl (on rfl rfl rfl h18) ?_
                  refine rg_put (d := 63) (v := .d (.fl undef)) rfl (on rfl rfl rfl h18) ?_
                  refine rg_put (d := 64) (v := .d (.fl (.bool true))) rfl (og rfl (op_pick rfl rfl (by rw [h18]; rfl) rfl)) ?_
                  refine rg_done rfl ?_
                  refine a_condK rfl rfl ?_
                  refine a_rseq ?_
                  refine rg_put (d := 65) (v := .d (.ag (eCs (((Cs.mk (⟨#[]⟩) (⟨#[]⟩) (⟨#[]⟩) 0 0 0 0 0 0 (Ap.mk 0 0 0))))))) rfl (og rfl (of_eff (s_load_pts rfl Tryd.underlying28 rfl ti28 rfl rfl rfl rfl) rfl)) ?_
                  refine rg_sto (nw := [(103, .bx 28 ((eCs (((Cs.mk (⟨#[]⟩) (⟨#[]⟩) (⟨#[]⟩) 0 0 0 0 0 0 (Ap.mk 0 0 0)))))))]) rfl (og rfl (of_eff (s_store rfl rfl ti28 rfl rfl rfl rfl rfl rfl) rfl)) ?_
                  refine rg_put (d := 11) (v := .d (.fl (.int .i64 12))) rfl (og rfl (op_assign rfl rfl rfl)) ?_
                  refine rg_done rfl ?_
                  refine a_ret ?_
                  show ∃ ds, ResL _ _ _ ds ∧ RV.of ds = _
                  refine ⟨[.ag [.fl (.string (⟨#[]⟩)), .fl (.string (⟨#[]⟩)), .fl (.string (⟨#[]⟩)), .fl (.int .i64 (0)), .fl (.int .i64 (0)), .fl (.int .i64 (0)), .fl (.int .i64 (0)), .fl (.int .i64 (0)), .fl (.int .i64 (0)), .fl (.int .i64 (0)), .fl (.int .i64 (0)), .fl (.int .i64 (0))], .fl (.int .i64 12)], (.cons (.cellT rfl rfl Tryd.underlying28 rfl ti28 rfl (Cv.ag (xs := [.fl (.string (⟨#[]⟩)), .fl (.string (⟨#[]⟩)), .fl (.string (⟨#[]⟩)), .fl (.int .i64 (0)), .fl (.int .i64 (0)), .fl (.int .i64 (0)), .fl (.int .i64 (0)), .fl (.int .i64 (0)), .fl (.int .i64 (0)), .fl (.int .i64 (0)), .fl (.int .i64 (0)), .fl (.int .i64 (0))]) (ys := [.fl (.string (⟨#[]⟩)), .fl (.string (⟨#[]⟩)), .fl (.string (⟨#[]⟩)), .fl (.int .i64 (0)), .fl (.int .i64 (0)), .fl (.int .i64 (0)), .fl (.int .i64 (0)), .fl (.int .i64 (0)), .fl (.int .i64 (0)), .fl (.int .i64 (0)), .fl (.int .i64 (0)), .fl (.int .i64 (0))]) ⟨Cv.refl _, Cv.refl _, Cv.refl _, Cv.refl _, Cv.refl _, Cv.refl _, Cv.refl _, Cv.refl _, Cv.refl _, Cv.refl _, Cv.refl _, Cv.refl _, trivial⟩)) (.cons (.tmp rfl (.d _)) .nil)), ?_⟩
                  have hch : chD w x day = 12 := by
                    unfold chD; simp only [h1, h4, h6, h7, h9, h10, h11, h12, h13, h14, h15, h16, h17, h18]; rfl
                  have hu : dec w cal x up day = (z0, 12) := by
                    unfold dec; rw [hch, if_pos (by decide)]
                  rw [hu]; rfl
              · skip
                have h34 := t_not h16
                refine rg_put (d := 56) (v := .d (.fl undef)) rfl (on rfl rfl rfl h16) ?_
                refine rg_put (d := 57) (v := .d (.fl undef)) rfl (on rfl rfl rfl h16) ?_
                refine rg_put (d := 58) (v := .d (.fl undef)) rfl (on rfl rfl rfl h16) ?_
                refine rg_put (d := 59) (v := .d (.fl (.bool true))) rfl (og rfl (op_pick rfl rfl (by rw [h16]; rfl) rfl)) ?_
                refine rg_put (d := 60) (v := .d (.fl (.bool true))) rfl (og rfl (op_move rfl rfl rfl)) ?_
                refine rg_put (d := 61) (v := .d (.fl undef)) rfl (on rfl rfl rfl rfl) ?_
                refine rg_put (d := 62) (v := .d (.fl undef)) rfl (on rfl rfl rfl rfl) ?_
                refine rg_put (d := 63) (v := .d (.fl undef)) rfl (on rfl rfl rfl rfl) ?_
                refine rg_put (d := 64) (v := .d (.fl (.bool true))) rfl (og rfl (op_pick rfl rfl rfl rfl)) ?_
                refine rg_done rfl ?_
                refine a_condK rfl rfl ?_
                refine a_rseq ?_
                refine rg_put (d := 65) (v := .d (.ag (eCs (((Cs.mk (⟨#[]⟩) (⟨#[]⟩) (⟨#[]⟩) 0 0 0 0 0 0 (Ap.mk 0 0 0))))))) rfl (og rfl (of_eff (s_load_pts rfl Tryd.underlying28 rfl ti28 rfl rfl rfl rfl) rfl)) ?_
                refine rg_sto (nw := [(103, .bx 28 ((eCs (((Cs.mk (⟨#[]⟩) (⟨#[]⟩) (⟨#[]⟩) 0 0 0 0 0 0 (Ap.mk 0 0 0)))))))]) rfl (og rfl (of_eff (s_store rfl rfl ti28 rfl rfl rfl rfl rfl rfl) rfl)) ?_
                refine rg_put (d := 11) (v := .d (.fl (.int .i64 12))) rfl (og rfl (op_assign rfl rfl rfl)) ?_
                refine rg_done rfl ?_
                refine a_ret ?_
                show ∃ ds, ResL _ _ _ ds ∧ RV.of ds = _
                refine ⟨[.ag [.fl (.string (⟨#[]⟩)), .fl (.string (⟨#[]⟩)), .fl (.string (⟨#[]⟩)), .fl (.int .i64 (0)), .fl (.int .i64 (0)), .fl (.int .i64 (0)), .fl (.int .i64 (0)), .fl (.int .i64 (0)), .fl (.int .i64 (0)), .fl (.int .i64 (0)), .fl (.int .i64 (0)), .fl (.int .i64 (0))], .fl (.int .i64 12)], (.cons (.cellT rfl rfl Tryd.underlying28 rfl ti28 rfl (Cv.ag (xs := [.fl (.string (⟨#[]⟩)), .fl (.string (⟨#[]⟩)), .fl (.string (⟨#[]⟩)), .fl (.int .i64 (0)), .fl (.int .i64 (0)), .fl (.int .i64 (0)), .fl (.int .i64 (0)), .fl (.int .i64 (0)), .fl (.int .i64 (0)), .fl (.int .i64 (0)), .fl (.int .i64 (0)), .fl (.int .i64 (0))]) (ys := [.fl (.string (⟨#[]⟩)), .fl (.string (⟨#[]⟩)), .fl (.string (⟨#[]⟩)), .fl (.int .i64 (0)), .fl (.int .i64 (0)), .fl (.int .i64 (0)), .fl (.int .i64 (0)), .fl (.int .i64 (0)), .fl (.int .i64 (0)), .fl (.int .i64 (0)), .fl (.int .i64 (0)), .fl (.int .i64 (0))]) ⟨Cv.refl _, Cv.refl _, Cv.refl _, Cv.refl _, Cv.refl _, Cv.refl _, Cv.refl _, Cv.refl _, Cv.refl _, Cv.refl _, Cv.refl _, Cv.refl _, trivial⟩)) (.cons (.tmp rfl (.d _)) .nil)), ?_⟩
                have hch : chD w x day = 12 := by
                  unfold chD; simp only [h1, h4, h6, h7, h9, h10, h11, h12, h13, h14, h15, h16, h34]; rfl
                have hu : dec w cal x up day = (z0, 12) := by
                  unfold dec; rw [hch, if_pos (by decide)]
                rw [hu]; rfl
            · skip
              have h35 := t_not h14
              refine rg_put (d := 50) (v := .d (.fl undef)) rfl (on rfl rfl rfl h14) ?_
              refine rg_put (d := 51) (v := .d (.fl undef)) rfl (on rfl rfl rfl h14) ?_
              refine rg_put (d := 52) (v := .d (.fl undef)) rfl (on rfl rfl rfl h14) ?_
              refine rg_put (d := 53) (v := .d (.fl undef)) rfl (on rfl rfl rfl h14) ?_
              refine rg_put (d := 54) (v := .d (.fl (.bool true))) rfl (og rfl (op_pick rfl rfl (by rw [h14]; rfl) rfl)) ?_
              refine rg_put (d := 55) (v := .d (.fl (.bool true))) rfl (og rfl (op_move rfl rfl rfl)) ?_
              refine rg_put (d := 56) (v := .d (.fl undef)) rfl (on rfl rfl rfl rfl) ?_
              refine rg_put (d := 57) (v := .d (.fl undef)) rfl (on rfl rfl rfl rfl) ?_
              refine rg_put (d := 58) (v := .d (.fl undef)) rfl (on rfl rfl rfl rfl) ?_
              refine rg_put (d := 59) (v := .d (.fl (.bool true))) rfl (og rfl (op_pick rfl rfl rfl rfl)) ?_
              refine rg_put (d := 60) (v := .d (.fl (.bool true))) rfl (og rfl (op_move rfl rfl rfl)) ?_
              refine rg_put (d := 61) (v := .d (.fl undef)) rfl (on rfl rfl rfl rfl) ?_
              refine rg_put (d := 62) (v := .d (.fl undef)) rfl (on rfl rfl rfl rfl) ?_
              refine rg_put (d := 63) (v := .d (.fl undef)) rfl (on rfl rfl rfl rfl) ?_
              refine rg_put (d := 64) (v := .d (.fl (.bool true))) rfl (og rfl (op_pick rfl rfl rfl rfl)) ?_
              refine rg_done rfl ?_
              refine a_condK rfl rfl ?_
              refine a_rseq ?_
              refine rg_put (d := 65) (v := .d (.ag (eCs (((Cs.mk (⟨#[]⟩) (⟨#[]⟩) (⟨#[]⟩) 0 0 0 0 0 0 (Ap.mk 0 0 0))))))) rfl (og rfl (of_eff (s_load_pts rfl Tryd.underlying28 rfl ti28 rfl rfl rfl rfl) rfl)) ?_
              refine rg_sto (nw := [(103, .bx 28 ((eCs (((Cs.mk (⟨#[]⟩) (⟨#[]⟩) (⟨#[]⟩) 0 0 0 0 0 0 (Ap.mk 0 0 0)))))))]) rfl (og rfl (of_eff (s_store rfl rfl ti28 rfl rfl rfl rfl rfl rfl) rfl)) ?_
              refine rg_put (d := 11) (v := .d (.fl (.int .i64 12))) rfl (og rfl (op_assign rfl rfl rfl)) ?_
              refine rg_done rfl ?_
              refine a_ret ?_
              show ∃ ds, ResL _ _ _ ds ∧ RV.of ds = _
              refine ⟨[.ag [.fl (.string (⟨#[]⟩)), .fl (.string (⟨#[]⟩)), .fl (.string (⟨#[]⟩)), .fl (.int .i64 (0)), .fl (.int .i64 (0)), .fl (.int .i64 (0)), .fl (.int .i64 (0)), .fl (.int .i64 (0)), .fl (.int .i64 (0)), .fl (.int .i64 (0)), .fl (.int .i64 (0)), .fl (.int .i64 (0))], .fl (.int .i64 12)], (.cons (.cellT rfl rfl Tryd.underlying28 rfl ti28 rfl (Cv.ag (xs := [.fl (.string (⟨#[]⟩)), .fl (.string (⟨#[]⟩)), .fl (.string (⟨#[]⟩)), .fl (.int .i64 (0)), .fl (.int .i64 (0)), .fl (.int .i64 (0)), .fl (.int .i64 (0)), .fl (.int .i64 (0)), .fl (.int .i64 (0)), .fl (.int .i64 (0)), .fl (.int .i64 (0)), .fl (.int .i64 (0))]) (ys := [.fl (.string (⟨#[]⟩)), .fl (.string (⟨#[]⟩)), .fl (.string (⟨#[]⟩)), .fl (.int .i64 (0)), .fl (.int .i64 (0)), .fl (.int .i64 (0)), .fl (.int .i64 (0)), .fl (.int .i64 (0)), .fl (.int .i64 (0)), .fl (.int .i64 (0)), .fl (.int .i64 (0)), .fl (.int .i64 (0))]) ⟨Cv.refl _, Cv.refl _, Cv.refl _, Cv.refl _, Cv.refl _, Cv.refl _, Cv.refl _, Cv.refl _, Cv.refl _, Cv.refl _, Cv.refl _, Cv.refl _, trivial⟩)) (.cons (.tmp rfl (.d _)) .nil)), ?_⟩
              have hch : chD w x day = 12 := by
                unfold chD; simp only [h1, h4, h6, h7, h9, h10, h11, h12, h13, h14, h35]; rfl
              have hu : dec w cal x up day = (z0, 12) := by
                unfold dec; rw [hch, if_pos (by decide)]
              rw [hu]; rfl
          · skip
            have h36 := t_not h12
            refine rg_put (d := 44) (v := .d (.fl undef)) rfl (on rfl rfl rfl h12) ?_
            refine rg_put (d := 45) (v := .d (.fl undef)) rfl (on rfl rfl rfl h12) ?_
            refine rg_put (d := 46) (v := .d (.fl undef)) rfl (on rfl rfl rfl h12) ?_
            refine rg_put (d := 47) (v := .d (.fl undef)) rfl (on rfl rfl rfl h12) ?_
            refine rg_put (d := 48) (v := .d (.fl (.bool true))) rfl (og rfl (op_pick rfl rfl (by rw [h12]; rfl) rfl)) ?_
            refine rg_put (d := 49) (v := .d (.fl (.bool true))) rfl (og rfl (op_move rfl rfl rfl)) ?_
            refine rg_put (d := 50) (v := .d (.fl undef)) rfl (on rfl rfl rfl rfl) ?_
            refine rg_put (d := 51) (v := .d (.fl undef)) rfl (on rfl rfl rfl rfl) ?_
            refine rg_put (d := 52) (v := .d (.fl undef)) rfl (on rfl rfl rfl rfl) ?_
            refine rg_put (d := 53) (v := .d (.fl undef)) rfl (on rfl rfl rfl rfl) ?_
            refine rg_put (d := 54) (v := .d (.fl (.bool true))) rfl (og rfl (op_pick rfl rfl rfl rfl)) ?_
            refine rg_put (d := 55) (v := .d (.fl (.bool true))) rfl (og rfl (op_move rfl rfl rfl)) ?_
            refine rg_put (d := 56) (v := .d (.fl undef)) rfl (on rfl rfl rfl rfl) ?_
            refine rg_put (d := 57) (v := .d (.fl undef)) rfl (on rfl rfl rfl rfl) ?_
            refine rg_put (d := 58) (v := .d (.fl undef)) rfl (on rfl rfl rfl rfl) ?_
            refine rg_put (d := 59) (v := .d (.fl (.bool true))) rfl (og rfl (op_pick rfl rfl rfl rfl)) ?_
            refine rg_put (d := 60) (v := .d (.fl (.bool true))) rfl (og rfl (op_move rfl rfl rfl)) ?_
            refine rg_put (d := 61) (v := .d (.fl undef)) rfl (on rfl rfl rfl rfl) ?_
            refine rg_put (d := 62) (v := .d (.fl undef)) rfl (on rfl rfl rfl rfl) ?_
            refine rg_put (d := 63) (v := .d (.fl undef)) rfl (on rfl rfl rfl rfl) ?_
            refine rg_put (d := 64) (v := .d (.fl (.bool true))) rfl (og rfl (op_pick rfl rfl rfl rfl)) ?_
            refine rg_done rfl ?_
            refine a_condK rfl rfl ?_
            refine a_rseq ?_
            refine rg_put (d := 65) (v := .d (.ag (eCs (((Cs.mk (⟨#[]⟩) (⟨#[]⟩) (⟨#[]⟩) 0 0 0 0 0 0 (Ap.mk 0 0 0))))))) rfl (og rfl (of_eff (s_load_pts rfl Tryd.underlying28 rfl ti28 rfl rfl rfl rfl) rfl)) ?_
            refine rg_sto (nw := [(103, .bx 28 ((eCs (((Cs.mk (⟨#[]⟩) (⟨#[]⟩) (⟨#[]⟩) 0 0 0 0 0 0 (Ap.mk 0 0 0)))))))]) rfl (og rfl (of_eff (s_store rfl rfl ti28 rfl rfl rfl rfl rfl rfl) rfl)) ?_
            refine rg_put (d := 11) (v := .d (.fl (.int .i64 12))) rfl (og rfl (op_assign rfl rfl rfl)) ?_
            refine rg_done rfl ?_
            refine a_ret ?_
            show ∃ ds, ResL _ _ _ ds ∧ RV.of ds = _
            refine ⟨[.ag [.fl (.string (⟨#[]⟩)), .fl (.string (⟨#[]⟩)), .fl (.string (⟨#[]⟩)), .fl (.int .i64 (0)), .fl (.int .i64 (0)), .fl (.int .i64 (0)), .fl (.int .i64 (0)), .fl (.int .i64 (0)), .fl (.int .i64 (0)), .fl (.int .i64 (0)), .fl (.int .i64 (0)), .fl (.int .i64 (0))], .fl (.int .i64 12)], (.cons (.cellT rfl rfl Tryd.underlying28 rfl ti28 rfl (Cv.ag (xs := [.fl (.string (⟨#[]⟩)), .fl (.string (⟨#[]⟩)), .fl (.string (⟨#[]⟩)), .fl (.int .i64 (0)), .fl (.int .i64 (0)), .fl (.int .i64 (0)), .fl (.int .i64 (0)), .fl (.int .i64 (0)), .fl (.int .i64 (0)), .fl (.int .i64 (0)), .fl (.int .i64 (0)), .fl (.int .i64 (0))]) (ys := [.fl (.string (⟨#[]⟩)), .fl (.string (⟨#[]⟩)), .fl (.string (⟨#[]⟩)), .fl (.int .i64 (0)), .fl (.int .i64 (0)), .fl (.int .i64 (0)), .fl (.int .i64 (0)), .fl (.int .i64 (0)), .fl (.int .i64 (0)), .fl (.int .i64 (0)), .fl (.int .i64 (0)), .fl (.int .i64 (0))]) ⟨Cv.refl _, Cv.refl _, Cv.refl _, Cv.refl _, Cv.refl _, Cv.refl _, Cv.refl _, Cv.refl _, Cv.refl _, Cv.refl _, Cv.refl _, Cv.refl _, trivial⟩)) (.cons (.tmp rfl (.d _)) .nil)), ?_⟩
            have hch : chD w x day = 12 := by
              unfold chD; simp only [h1, h4, h6, h7, h9, h10, h11, h12, h36]; rfl
            have hu : dec w cal x up day = (z0, 12) := by
              unfold dec; rw [hch, if_pos (by decide)]
            rw [hu]; rfl
        · skip
          have h37 := t_not h10
          refine rg_put (d := 38) (v := .d (.fl undef)) rfl (on rfl rfl rfl h10) ?_
          refine rg_put (d := 39) (v := .d (.fl undef)) rfl (on rfl rfl rfl h10) ?_
          refine rg_put (d := 40) (v := .d (.fl undef)) rfl (on rfl rfl rfl h10) ?_
          refine rg_put (d := 41) (v := .d (.fl undef)) rfl (on rfl rfl rfl h10) ?_
          refine rg_put (d := 42) (v := .d (.fl (.bool true))) rfl (og rfl (op_pick rfl rfl (by rw [h10]; rfl) rfl)) ?_
          refine rg_put (d := 43) (v := .d (.fl (.bool true))) rfl (og rfl (op_move rfl rfl rfl)) ?_
          refine rg_put (d := 44) (v := .d (.fl undef)) rfl (on rfl rfl rfl rfl) ?_
          refine rg_put (d := 45) (v := .d (.fl undef)) rfl (on rfl rfl rfl rfl) ?_
          refine rg_put (d := 46) (v := .d (.fl undef)) rfl (on rfl rfl rfl rfl) ?_
          refine rg_put (d := 47) (v := .d (.fl undef)) rfl (on rfl rfl rfl rfl) ?_
          refine rg_put (d := 48) (v := .d (.fl (.bool true))) rfl (og rfl (op_pick rfl rfl rfl rfl)) ?_
          refine rg_put (d := 49) (v := .d (.fl (.bool true))) rfl (og rfl (op_move rfl rfl rfl)) ?_
          refine rg_put (d := 50) (v := .d (.fl undef)) rfl (on rfl rfl rfl rfl) ?_
          refine rg_put (d := 51) (v := .d (.fl undef)) rfl (on rfl rfl rfl rfl) ?_
          refine rg_put (d := 52) (v := .d (.fl undef)) rfl (on rfl rfl rfl rfl) ?_
          refine rg_put (d := 53) (v := .d (.fl undef)) rfl (on rfl rfl rfl rfl) ?_
          refine rg_put (d := 54) (v := .d (.fl (.bool true))) rfl (og rfl (op_pick rfl rfl rfl rfl)) ?_
          refine rg_put (d := 55) (v := .d (.fl (.bool true))) rfl (og rfl (op_move rfl rfl rfl)) ?_
          refine rg_put (d := 56) (v := .d (.fl undef)) rfl (on rfl rfl rfl rfl) ?_
          refine rg_put (d := 57) (v := .d (.fl undef)) rfl (on rfl rfl rfl rfl) ?_
          refine rg_put (d := 58) (v := .d (.fl undef)) rfl (on rfl rfl rfl rfl) ?_
          refine rg_put (d := 59) (v := .d (.fl (.bool true))) rfl (og rfl (op_pick rfl rfl rfl rfl)) ?_
          refine rg_put (d := 60) (v := .d (.fl (.bool true))) rfl (og rfl (op_move rfl rfl rfl)) ?_
          refine rg_put (d := 61) (v := .d (.fl undef)) rfl (on rfl rfl rfl rfl) ?_
          refine rg_put (d := 62) (v := .d (.fl undef)) rfl (on rfl rfl rfl rfl) ?_
          refine rg_put (d := 63) (v := .d (.fl undef)) rfl (on rfl rfl rfl rfl) ?_
          refine rg_put (d := 64) (v := .d (.fl (.bool true))) rfl (og rfl (op_pick rfl rfl rfl rfl)) ?_
          refine rg_done rfl ?_
          refine a_condK rfl rfl ?_
          refine a_rseq ?_
          refine rg_put (d := 65) (v := .d (.ag (eCs (((Cs.mk (⟨#[]⟩) (⟨#[]⟩) (⟨#[]⟩) 0 0 0 0 0 0 (Ap.mk 0 0 0))))))) rfl (og rfl (of_eff (s_load_pts rfl Tryd.underlying28 rfl ti28 rfl rfl rfl rfl) rfl)) ?_
          refine rg_sto (nw := [(103, .bx 28 ((eCs (((Cs.mk (⟨#[]⟩) (⟨#[]⟩) (⟨#[]⟩) 0 0 0 0 0 0 (Ap.mk 0 0 0)))))))]) rfl (og rfl (of_eff (s_store rfl rfl ti28 rfl rfl rfl rfl rfl rfl) rfl)) ?_
          refine rg_put (d := 11) (v := .d (.fl (.int .i64 12))) rfl (og rfl (op_assign rfl rfl rfl)) ?_
          refine rg_done rfl ?_
          refine a_ret ?_
          show ∃ ds, ResL _ _ _ ds ∧ RV.of ds = _
          refine ⟨[.ag [.fl (.string (⟨#[]⟩)), .fl (.string (⟨#[]⟩)), .fl (.string (⟨#[]⟩)), .fl (.int .i64 (0)), .fl (.int .i64 (0)), .fl (.int .i64 (0)), .fl (.int .i64 (0)), .fl (.int .i64 (0)), .fl (.int .i64 (0)), .fl (.int .i64 (0)), .fl (.int .i64 (0)), .fl (.int .i64 (0))], .fl (.int .i64 12)], (.cons (.cellT rfl rfl Tryd.underlying28 rfl ti28 rfl (Cv.ag (xs := [.fl (.string (⟨#[]⟩)), .fl (.string (⟨#[]⟩)), .fl (.string (⟨#[]⟩)), .fl (.int .i64 (0)), .fl (.int .i64 (0)), .fl (.int .i64 (0)), .fl (.int .i64 (0)), .fl (.int .i64 (0)), .fl (.int .i64 (0)), .fl (.int .i64 (0)), .fl (.int .i64 (0)), .fl (.int .i64 (0))]) (ys := [.fl (.string (⟨#[]⟩)), .fl (.string (⟨#[]⟩)), .fl (.string (⟨#[]⟩)), .fl (.int .i64 (0)), .fl (.int .i64 (0)), .fl (.int .i64 (0)), .fl (.int .i64 (0)), .fl (.int .i64 (0)), .fl (.int .i64 (0)), .fl (.int .i64 (0)), .fl (.int .i64 (0)), .fl (.int .i64 (0))]) ⟨Cv.refl _, Cv.refl _, Cv.refl _, Cv.refl _, Cv.refl _, Cv.refl _, Cv.refl _, Cv.refl _, Cv.refl _, Cv.refl _, Cv.refl _, Cv.refl _, trivial⟩)) (.cons (.tmp rfl (.d _)) .nil)), ?_⟩
          have hch : chD w x day = 12 := by
            unfold chD; simp only [h1, h4, h6, h7, h9, h10, h37]; rfl
          have hu : dec w cal x up day = (z0, 12) := by
            unfold dec; rw [hch, if_pos (by decide)]
          rw [hu]; rfl
end Go.Proofs.YtadfkfgachlgeaaDoor.Wk
