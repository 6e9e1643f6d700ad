/- The program is awake. No condition. -/
import Derived.Test.YtadfkfgachlgeaaDoorB7
import Derived.Test.YtadfkfgachlgeaaDoorEq
import Derived.Test.YtadfkfgachlgeaaDoorB12
set_option linter.unusedSimpArgs false
set_option linter.unusedVariables false
namespace Go.Proofs.YtadfkfgachlgeaaDoor.Wk
open Go Go.RowKit Go.Proofs.YtadfkfgachlgeaaDoor.Av
abbrev X0 : Cs := Cs.mk ⟨#[118, 49]⟩ ⟨#[65, 66, 49]⟩ ⟨#[107]⟩ 0 0 1 500 0 0 (Ap.mk 0 0 0)
abbrev X7 : Cs := Cs.mk ⟨#[118, 49]⟩ ⟨#[65, 66, 49]⟩ ⟨#[107]⟩ 0 7 2 600 0 0 (Ap.mk 0 0 0)
abbrev XZ : Cs := Cs.mk ⟨#[118, 49]⟩ ⟨#[65, 66, 49]⟩ ⟨#[107]⟩ 0 7 2 600 0 0 (Ap.mk 1 2 20)
abbrev XR : Cs := Cs.mk ⟨#[118, 49]⟩ ⟨#[65, 66, 49]⟩ ⟨#[107]⟩ 0 21 3 800 0 0 (Ap.mk 1 2 21)
abbrev XD : Cs := Cs.mk ⟨#[118, 49]⟩ ⟨#[65, 66, 49]⟩ ⟨#[107]⟩ 0 17 2 600 0 10 (Ap.mk 3 2 30)
abbrev XU : Cs := Cs.mk ⟨#[118, 49]⟩ ⟨#[65, 66, 49]⟩ ⟨#[107]⟩ 0 7 7 600 0 0 (Ap.mk 2 2 30)
abbrev W0 : Lw := Lw.mk [5, 10, 10, 20] [100, 200, 300, 1000] 1000
theorem k1 : newS ⟨#[118, 49]⟩ ⟨#[65, 66, 49]⟩ ⟨#[107]⟩ 500 0 = (X0, 0) := by kernel_rfl
theorem k2 : fil W0 [] X0 2 3 = (z0, 11) := by kernel_rfl
theorem k3 : adv W0 [] X0 7 = (X7, 0) := by kernel_rfl
theorem k4 : last W0 [] X7 = (20, true) := by kernel_rfl
theorem k5 : fil W0 [] X0 2 20 = (XZ, 0) := by kernel_rfl
theorem k6 : fil W0 [] X0 2 21 = (XR, 0) := by kernel_rfl
theorem k7 : dec W0 [] XZ false 30 = (XD, 0) := by kernel_rfl
theorem k8 : dec W0 [] XZ true 30 = (XU, 0) := by kernel_rfl
theorem k9 : due W0 [] XD = (31, true) := by kernel_rfl
theorem k10 : pend XZ = true := by kernel_rfl
theorem k11 : pend XD = false := by kernel_rfl
theorem k12 : grd 3 = ⟨#[115, 116, 111, 108, 101, 110]⟩ := by kernel_rfl
theorem k13 : grd 0 = ⟨#[]⟩ := by kernel_rfl

set_option maxHeartbeats 4000000 in
set_option maxRecDepth 100000 in
theorem law27  : Ctr Tryd.prog 27 [] (.d (.ag (eLw W0))) := by
  refine ctr (n := 4) (rs := #[.cell 0 24]) (L := []) Tryd.func27 rfl rfl rfl rfl rfl (fun w0 U0 => ?_)
  refine a_rseq ?_
  refine rg_nam (d := 0) (v := .pt 101 0) (m := 101) (nw := [(101, .bx 24 [.fl (.slice none 0 0), .fl (.slice none 0 0), .fl (.int .i64 0)])]) rfl (og rfl (of_eff (s_alloc 101 rfl ti24 (by kernel_rfl) rfl) rfl)) rfl ?_
  refine rg_done rfl ?_
  refine a_rseq ?_
  refine rg_put (d := 1) (v := .d (.sl 1 (List.map (rI .i64) [5, 10, 10, 20]))) rfl (og rfl (of_eff (op_slices rfl Tryd.underlying22 ti3 rfl rfl rfl (by kernel_rfl) (xs := [.fl (.int .i64 5), .fl (.int .i64 10), .fl (.int .i64 10), .fl (.int .i64 20)]) rfl rfl (.cons rfl rfl (.d _) rfl rfl rfl (.cons rfl rfl (.d _) rfl rfl rfl (.cons rfl rfl (.d _) rfl rfl rfl (.cons rfl rfl (.d _) rfl rfl rfl .nil)))) rfl) rfl)) ?_
  refine rg_put (d := 2) (v := .d (.sl 1 (List.map (rI .i64) [100, 200, 300, 1000]))) rfl (og rfl (of_eff (op_slices rfl Tryd.underlying22 ti3 rfl rfl rfl (by kernel_rfl) (xs := [.fl (.int .i64 100), .fl (.int .i64 200), .fl (.int .i64 300), .fl (.int .i64 1000)]) rfl rfl (.cons rfl rfl (.d _) rfl rfl rfl (.cons rfl rfl (.d _) rfl rfl rfl (.cons rfl rfl (.d _) rfl rfl rfl (.cons rfl rfl (.d _) rfl rfl rfl .nil)))) rfl) rfl)) ?_
  refine rg_put (d := 3) (v := .d (.ag (eLw (Lw.mk [5, 10, 10, 20] [100, 200, 300, 1000] 1000)))) rfl (og rfl (of_eff (op_build rfl Tryd.underlying24 ti24 rfl (by kernel_rfl) (by kernel_rfl) (pl := #[(0, 1), (1, 1), (2, 1)]) (by kernel_rfl) (.cons rfl rfl (.d _) rfl rfl rfl (.cons rfl rfl (.d _) rfl rfl rfl (.cons rfl rfl (.d _) rfl rfl rfl .nil))) rfl) rfl)) ?_
  refine rg_sto (nw := [(101, .bx 24 ((eLw (Lw.mk [5, 10, 10, 20] [100, 200, 300, 1000] 1000))))]) rfl (og rfl (of_eff (s_store rfl rfl ti24 rfl rfl rfl rfl rfl rfl) rfl)) ?_
  refine rg_done rfl ?_
  refine a_ret ?_
  show ∃ ds, ResL _ _ _ ds ∧ RV.of ds = _
  refine ⟨[.ag [.sl 1 (List.map (rI .i64) ((Lw.mk [5, 10, 10, 20] [100, 200, 300, 1000] 1000).days)), .sl 1 (List.map (rI .i64) ((Lw.mk [5, 10, 10, 20] [100, 200, 300, 1000] 1000).fees)), .fl (.int .i64 ((Lw.mk [5, 10, 10, 20] [100, 200, 300, 1000] 1000).limit))]], (.cons (.cellT rfl rfl Tryd.underlying24 rfl ti24 rfl (Cv.ag (xs := [.sl 1 (List.map (rI .i64) ((Lw.mk [5, 10, 10, 20] [100, 200, 300, 1000] 1000).days)), .sl 1 (List.map (rI .i64) ((Lw.mk [5, 10, 10, 20] [100, 200, 300, 1000] 1000).fees)), .fl (.int .i64 ((Lw.mk [5, 10, 10, 20] [100, 200, 300, 1000] 1000).limit))]) (ys := [.sl 1 (List.map (rI .i64) ((Lw.mk [5, 10, 10, 20] [100, 200, 300, 1000] 1000).days)), .sl 1 (List.map (rI .i64) ((Lw.mk [5, 10, 10, 20] [100, 200, 300, 1000] 1000).fees)), .fl (.int .i64 ((Lw.mk [5, 10, 10, 20] [100, 200, 300, 1000] 1000).limit))]) ⟨Cv.refl _, Cv.refl _, Cv.refl _, trivial⟩)) .nil), ?_⟩
  rfl
theorem u1 : Ctr Tryd.prog 28 [.fl (.string ⟨#[118, 49]⟩), .fl (.string ⟨#[65, 66, 49]⟩), .fl (.string ⟨#[107]⟩), .fl (.int .i64 500), .fl (.int .i64 0)] (.tu [.ag (eCs X0), .fl (.int .i64 0)]) := by
  have := new14 ⟨#[118, 49]⟩ ⟨#[65, 66, 49]⟩ ⟨#[107]⟩ 500 0 ab1_veh
  rw [k1] at this; exact this
theorem u2 : Ctr Tryd.prog 10 [.ag (eLw W0), .sl 1 (List.map (rI .i64) ([] : List Int)), .ag (eCs X0), .fl (.int .i64 2), .fl (.int .i64 3)] (.tu [.ag (eCs z0), .fl (.int .i64 11)]) := by
  have := fil10 W0 [] X0 2 3 (by decide)
  rw [k2] at this; exact this
theorem u5 : Ctr Tryd.prog 10 [.ag (eLw W0), .sl 1 (List.map (rI .i64) ([] : List Int)), .ag (eCs X0), .fl (.int .i64 2), .fl (.int .i64 20)] (.tu [.ag (eCs XZ), .fl (.int .i64 0)]) := by
  have := fil10 W0 [] X0 2 20 (by decide)
  rw [k5] at this; exact this
theorem u6 : Ctr Tryd.prog 10 [.ag (eLw W0), .sl 1 (List.map (rI .i64) ([] : List Int)), .ag (eCs X0), .fl (.int .i64 2), .fl (.int .i64 21)] (.tu [.ag (eCs XR), .fl (.int .i64 0)]) := by
  have := fil10 W0 [] X0 2 21 (by decide)
  rw [k6] at this; exact this
theorem u3 : Ctr Tryd.prog 21 [.ag (eLw W0), .sl 1 (List.map (rI .i64) ([] : List Int)), .ag (eCs X0), .fl (.int .i64 7)] (.tu [.ag (eCs X7), .fl (.int .i64 0)]) := by
  have := adv17 W0 [] X0 7 (by decide)
  rw [k3] at this; exact this
theorem u4 : Ctr Tryd.prog 15 [.ag (eLw W0), .sl 1 (List.map (rI .i64) ([] : List Int)), .ag (eCs X7)] (.tu [.fl (.int .i64 20), .fl (.bool true)]) := by
  have := last15 W0 [] X7 (by decide)
  rw [k4] at this; exact this
theorem u7 : Ctr Tryd.prog 13 [.ag (eLw W0), .sl 1 (List.map (rI .i64) ([] : List Int)), .ag (eCs XZ), .fl (.bool false), .fl (.int .i64 30)] (.tu [.ag (eCs XD), .fl (.int .i64 0)]) := by
  have := dec13 W0 [] XZ false 30 (by decide)
  rw [k7] at this; exact this
theorem u8 : Ctr Tryd.prog 13 [.ag (eLw W0), .sl 1 (List.map (rI .i64) ([] : List Int)), .ag (eCs XZ), .fl (.bool true), .fl (.int .i64 30)] (.tu [.ag (eCs XU), .fl (.int .i64 0)]) := by
  have := dec13 W0 [] XZ true 30 (by decide)
  rw [k8] at this; exact this
theorem u9 : Ctr Tryd.prog 22 [.ag (eLw W0), .sl 1 (List.map (rI .i64) ([] : List Int)), .ag (eCs XD)] (.tu [.fl (.int .i64 31), .fl (.bool true)]) := by
  have := due19 W0 [] XD (by decide)
  rw [k9] at this; exact this
theorem u10 : Ctr Tryd.prog 17 [.ag (eCs XZ)] (.d (.fl (.bool true))) := by
  have := pend17 XZ
  rw [k10] at this; exact this
theorem u11 : Ctr Tryd.prog 17 [.ag (eCs XD)] (.d (.fl (.bool false))) := by
  have := pend17 XD
  rw [k11] at this; exact this
theorem u12 : CtrG Tryd.prog 0 GS 19 [.fl (.int .i64 3)] (.d (.fl (.string ⟨#[115, 116, 111, 108, 101, 110]⟩))) := by
  have := grd19 3
  rw [k12] at this; exact this
theorem u13 : CtrG Tryd.prog 0 GS 19 [.fl (.int .i64 0)] (.d (.fl (.string ⟨#[]⟩))) := by
  have := grd19 0
  rw [k13] at this; exact this
set_option maxHeartbeats 4000000 in
set_option maxRecDepth 100000 in
theorem alive12  : CtrG Tryd.prog 0 GS 12 [] (.d (.fl (.bool true))) := by
  refine ctrG (n := 165) (rs := #[.tmp 0]) (L := []) Tryd.func12 rfl rfl rfl rfl rfl (fun w0 U0 hG => ?_)
  refine a_rseq ?_
  refine rg_put (d := 0) (v := .d (.fl (.bool false))) rfl (og rfl (op_assign rfl rfl rfl)) ?_
  refine rg_done rfl ?_
  refine a_rseq ?_
  refine rg_put (d := 20) (v := .d (.ag (eLw W0))) rfl (og rfl (op_call rfl Tryd.func27 nm27 rfl .nil law27 rfl)) ?_
  refine rg_nam (d := 1) (v := .pt 101 0) (m := 101) (nw := [(101, .bx 24 [.fl (.slice none 0 0), .fl (.slice none 0 0), .fl (.int .i64 0)])]) rfl (og rfl (of_eff (s_alloc 101 rfl ti24 (by kernel_rfl) rfl) rfl)) rfl ?_
  refine rg_sto (nw := [(101, .bx 24 (eLw W0))]) rfl (og rfl (of_eff (s_store rfl rfl ti24 rfl rfl rfl rfl rfl rfl) rfl)) ?_
  refine rg_done rfl ?_
  refine a_rseq ?_
  refine rg_put (d := 22) (v := .tu [.ag (eCs X0), .fl (.int .i64 0)]) rfl (og rfl (op_call rfl Tryd.func28 nm28 rfl (.cons rfl (.d _) (.cons rfl (.d _) (.cons rfl (.d _) (.cons rfl (.d _) (.cons rfl (.d _) .nil))))) u1 rfl)) ?_
  refine rg_put (d := 21) (v := .tu [.ag (eCs X0), .fl (.int .i64 0)]) rfl (og rfl (op_move rfl rfl rfl)) ?_
  refine rg_put (d := 23) (v := .d (.ag (eCs X0))) rfl (og rfl (op_extract rfl rfl rfl rfl)) ?_
  refine rg_put (d := 24) (v := .d (.fl (.int .i64 0))) rfl (og rfl (op_extract rfl rfl rfl rfl)) ?_
  refine rg_nam (d := 2) (v := .pt 102 0) (m := 102) (nw := [(102, .bx 28 ([.fl (.string (⟨#[]⟩)), .fl (.string (⟨#[]⟩)), .fl (.string (⟨#[]⟩)), .fl (.int .i64 0), .fl (.int .i64 0), .fl (.int .i64 0), .fl (.int .i64 0), .fl (.int .i64 0), .fl (.int .i64 0), .fl (.int .i64 0), .fl (.int .i64 0), .fl (.int .i64 0)]))]) rfl (og rfl (of_eff (s_alloc 102 rfl ti28 (by kernel_rfl) rfl) rfl)) rfl ?_
  refine rg_sto (nw := [(102, .bx 28 (eCs X0))]) rfl (og rfl (of_eff (s_store rfl rfl ti28 rfl rfl rfl rfl rfl rfl) rfl)) ?_
  refine rg_put (d := 3) (v := .d (.fl (.int .i64 0))) rfl (og rfl (op_assign rfl rfl rfl)) ?_
  refine rg_done rfl ?_
  refine a_rseq ?_
  refine rg_put (d := 26) (v := .d (.ag (eLw W0))) rfl (og rfl (of_eff (s_load_pts rfl Tryd.underlying24 rfl ti24 rfl rfl rfl rfl) rfl)) ?_
  refine rg_put (d := 27) (v := .d (.ag (eCs X0))) rfl (og rfl (of_eff (s_load_pts rfl Tryd.underlying28 rfl ti28 rfl rfl rfl rfl) rfl)) ?_
  refine rg_put (d := 28) (v := .tu [.ag (eCs z0), .fl (.int .i64 11)]) rfl (og rfl (op_call rfl Tryd.func10 nm10 rfl (.cons rfl (.d _) (.cons rfl (.cv (Cv.nil _)) (.cons rfl (.d _) (.cons rfl (.d _) (.cons rfl (.d _) .nil))))) u2 rfl)) ?_
  refine rg_put (d := 25) (v := .tu [.ag (eCs z0), .fl (.int .i64 11)]) rfl (og rfl (op_move rfl rfl rfl)) ?_
  refine rg_put (d := 29) (v := .d (.ag (eCs z0))) rfl (og rfl (op_extract rfl rfl rfl rfl)) ?_
  refine rg_put (d := 30) (v := .d (.fl (.int .i64 11))) rfl (og rfl (op_extract rfl rfl rfl rfl)) ?_
  refine rg_nam (d := 4) (v := .pt 103 0) (m := 103) (nw := [(103, .bx 28 ([.fl (.string (⟨#[]⟩)), .fl (.string (⟨#[]⟩)), .fl (.string (⟨#[]⟩)), .fl (.int .i64 0), .fl (.int .i64 0), .fl (.int .i64 0), .fl (.int .i64 0), .fl (.int .i64 0), .fl (.int .i64 0), .fl (.int .i64 0), .fl (.int .i64 0), .fl (.int .i64 0)]))]) rfl (og rfl (of_eff (s_alloc 103 rfl ti28 (by kernel_rfl) rfl) rfl)) rfl ?_
  refine rg_sto (nw := [(103, .bx 28 (eCs z0))]) rfl (og rfl (of_eff (s_store rfl rfl ti28 rfl rfl rfl rfl rfl rfl) rfl)) ?_
  refine rg_put (d := 5) (v := .d (.fl (.int .i64 11))) rfl (og rfl (op_assign rfl rfl rfl)) ?_
  refine rg_done rfl ?_
  refine a_rseq ?_
  refine rg_put (d := 32) (v := .d (.ag (eLw W0))) rfl (og rfl (of_eff (s_load_pts rfl Tryd.underlying24 rfl ti24 rfl rfl rfl rfl) rfl)) ?_
  refine rg_put (d := 33) (v := .d (.ag (eCs X0))) rfl (og rfl (of_eff (s_load_pts rfl Tryd.underlying28 rfl ti28 rfl rfl rfl rfl) rfl)) ?_
  refine rg_put (d := 34) (v := .tu [.ag (eCs X7), .fl (.int .i64 0)]) rfl (og rfl (op_call rfl Tryd.func21 nm21 rfl (.cons rfl (.d _) (.cons rfl (.cv (Cv.nil _)) (.cons rfl (.d _) (.cons rfl (.d _) .nil)))) u3 rfl)) ?_
  refine rg_put (d := 31) (v := .tu [.ag (eCs X7), .fl (.int .i64 0)]) rfl (og rfl (op_move rfl rfl rfl)) ?_
  refine rg_put (d := 35) (v := .d (.ag (eCs X7))) rfl (og rfl (op_extract rfl rfl rfl rfl)) ?_
  refine rg_put (d := 36) (v := .d (.fl (.int .i64 0))) rfl (og rfl (op_extract rfl rfl rfl rfl)) ?_
  refine rg_nam (d := 6) (v := .pt 104 0) (m := 104) (nw := [(104, .bx 28 ([.fl (.string (⟨#[]⟩)), .fl (.string (⟨#[]⟩)), .fl (.string (⟨#[]⟩)), .fl (.int .i64 0), .fl (.int .i64 0), .fl (.int .i64 0), .fl (.int .i64 0), .fl (.int .i64 0), .fl (.int .i64 0), .fl (.int .i64 0), .fl (.int .i64 0), .fl (.int .i64 0)]))]) rfl (og rfl (of_eff (s_alloc 104 rfl ti28 (by kernel_rfl) rfl) rfl)) rfl ?_
  refine rg_sto (nw := [(104, .bx 28 (eCs X7))]) rfl (og rfl (of_eff (s_store rfl rfl ti28 rfl rfl rfl rfl rfl rfl) rfl)) ?_
  refine rg_put (d := 7) (v := .d (.fl (.int .i64 0))) rfl (og rfl (op_assign rfl rfl rfl)) ?_
  refine rg_done rfl ?_
  refine a_rseq ?_
  refine rg_put (d := 38) (v := .d (.ag (eLw W0))) rfl (og rfl (of_eff (s_load_pts rfl Tryd.underlying24 rfl ti24 rfl rfl rfl rfl) rfl)) ?_
  refine rg_put (d := 39) (v := .d (.ag (eCs X7))) rfl (og rfl (of_eff (s_load_pts rfl Tryd.underlying28 rfl ti28 rfl rfl rfl rfl) rfl)) ?_
  refine rg_put (d := 40) (v := .tu [.fl (.int .i64 20), .fl (.bool true)]) rfl (og rfl (op_call rfl Tryd.func15 nm15 rfl (.cons rfl (.d _) (.cons rfl (.cv (Cv.nil _)) (.cons rfl (.d _) .nil))) u4 rfl)) ?_
  refine rg_put (d := 37) (v := .tu [.fl (.int .i64 20), .fl (.bool true)]) rfl (og rfl (op_move rfl rfl rfl)) ?_
  refine rg_put (d := 41) (v := .d (.fl (.int .i64 20))) rfl (og rfl (op_extract rfl rfl rfl rfl)) ?_
  refine rg_put (d := 42) (v := .d (.fl (.bool true))) rfl (og rfl (op_extract rfl rfl rfl rfl)) ?_
  refine rg_put (d := 8) (v := .d (.fl (.int .i64 20))) rfl (og rfl (op_assign rfl rfl rfl)) ?_
  refine rg_put (d := 9) (v := .d (.fl (.bool true))) rfl (og rfl (op_assign rfl rfl rfl)) ?_
  refine rg_done rfl ?_
  refine a_rseq ?_
  refine rg_put (d := 44) (v := .d (.ag (eLw W0))) rfl (og rfl (of_eff (s_load_pts rfl Tryd.underlying24 rfl ti24 rfl rfl rfl rfl) rfl)) ?_
  refine rg_put (d := 45) (v := .d (.ag (eCs X0))) rfl (og rfl (of_eff (s_load_pts rfl Tryd.underlying28 rfl ti28 rfl rfl rfl rfl) rfl)) ?_
  refine rg_put (d := 46) (v := .tu [.ag (eCs XZ), .fl (.int .i64 0)]) rfl (og rfl (op_call rfl Tryd.func10 nm10 rfl (.cons rfl (.d _) (.cons rfl (.cv (Cv.nil _)) (.cons rfl (.d _) (.cons rfl (.d _) (.cons rfl (.d _) .nil))))) u5 rfl)) ?_
  refine rg_put (d := 43) (v := .tu [.ag (eCs XZ), .fl (.int .i64 0)]) rfl (og rfl (op_move rfl rfl rfl)) ?_
  refine rg_put (d := 47) (v := .d (.ag (eCs XZ))) rfl (og rfl (op_extract rfl rfl rfl rfl)) ?_
  refine rg_put (d := 48) (v := .d (.fl (.int .i64 0))) rfl (og rfl (op_extract rfl rfl rfl rfl)) ?_
  refine rg_nam (d := 10) (v := .pt 105 0) (m := 105) (nw := [(105, .bx 28 ([.fl (.string (⟨#[]⟩)), .fl (.string (⟨#[]⟩)), .fl (.string (⟨#[]⟩)), .fl (.int .i64 0), .fl (.int .i64 0), .fl (.int .i64 0), .fl (.int .i64 0), .fl (.int .i64 0), .fl (.int .i64 0), .fl (.int .i64 0), .fl (.int .i64 0), .fl (.int .i64 0)]))]) rfl (og rfl (of_eff (s_alloc 105 rfl ti28 (by kernel_rfl) rfl) rfl)) rfl ?_
  refine rg_sto (nw := [(105, .bx 28 (eCs XZ))]) rfl (og rfl (of_eff (s_store rfl rfl ti28 rfl rfl rfl rfl rfl rfl) rfl)) ?_
  refine rg_put (d := 11) (v := .d (.fl (.int .i64 0))) rfl (og rfl (op_assign rfl rfl rfl)) ?_
  refine rg_done rfl ?_
  refine a_rseq ?_
  refine rg_put (d := 50) (v := .d (.ag (eLw W0))) rfl (og rfl (of_eff (s_load_pts rfl Tryd.underlying24 rfl ti24 rfl rfl rfl rfl) rfl)) ?_
  refine rg_put (d := 51) (v := .d (.ag (eCs X0))) rfl (og rfl (of_eff (s_load_pts rfl Tryd.underlying28 rfl ti28 rfl rfl rfl rfl) rfl)) ?_
  refine rg_put (d := 52) (v := .tu [.ag (eCs XR), .fl (.int .i64 0)]) rfl (og rfl (op_call rfl Tryd.func10 nm10 rfl (.cons rfl (.d _) (.cons rfl (.cv (Cv.nil _)) (.cons rfl (.d _) (.cons rfl (.d _) (.cons rfl (.d _) .nil))))) u6 rfl)) ?_
  refine rg_put (d := 49) (v := .tu [.ag (eCs XR), .fl (.int .i64 0)]) rfl (og rfl (op_move rfl rfl rfl)) ?_
  refine rg_put (d := 53) (v := .d (.ag (eCs XR))) rfl (og rfl (op_extract rfl rfl rfl rfl)) ?_
  refine rg_put (d := 54) (v := .d (.fl (.int .i64 0))) rfl (og rfl (op_extract rfl rfl rfl rfl)) ?_
  refine rg_nam (d := 12) (v := .pt 106 0) (m := 106) (nw := [(106, .bx 28 ([.fl (.string (⟨#[]⟩)), .fl (.string (⟨#[]⟩)), .fl (.string (⟨#[]⟩)), .fl (.int .i64 0), .fl (.int .i64 0), .fl (.int .i64 0), .fl (.int .i64 0), .fl (.int .i64 0), .fl (.int .i64 0), .fl (.int .i64 0), .fl (.int .i64 0), .fl (.int .i64 0)]))]) rfl (og rfl (of_eff (s_alloc 106 rfl ti28 (by kernel_rfl) rfl) rfl)) rfl ?_
  refine rg_sto (nw := [(106, .bx 28 (eCs XR))]) rfl (og rfl (of_eff (s_store rfl rfl ti28 rfl rfl rfl rfl rfl rfl) rfl)) ?_
  refine rg_put (d := 13) (v := .d (.fl (.int .i64 0))) rfl (og rfl (op_assign rfl rfl rfl)) ?_
  refine rg_done rfl ?_
  refine a_rseq ?_
  refine rg_put (d := 56) (v := .d (.ag (eLw W0))) rfl (og rfl (of_eff (s_load_pts rfl Tryd.underlying24 rfl ti24 rfl rfl rfl rfl) rfl)) ?_
  refine rg_put (d := 57) (v := .d (.ag (eCs XZ))) rfl (og rfl (of_eff (s_load_pts rfl Tryd.underlying28 rfl ti28 rfl rfl rfl rfl) rfl)) ?_
  refine rg_put (d := 58) (v := .tu [.ag (eCs XD), .fl (.int .i64 0)]) rfl (og rfl (op_call rfl Tryd.func13 nm13 rfl (.cons rfl (.d _) (.cons rfl (.cv (Cv.nil _)) (.cons rfl (.d _) (.cons rfl (.d _) (.cons rfl (.d _) .nil))))) u7 rfl)) ?_
  refine rg_put (d := 55) (v := .tu [.ag (eCs XD), .fl (.int .i64 0)]) rfl (og rfl (op_move rfl rfl rfl)) ?_
  refine rg_put (d := 59) (v := .d (.ag (eCs XD))) rfl (og rfl (op_extract rfl rfl rfl rfl)) ?_
  refine rg_put (d := 60) (v := .d (.fl (.int .i64 0))) rfl (og rfl (op_extract rfl rfl rfl rfl)) ?_
  refine rg_nam (d := 14) (v := .pt 107 0) (m := 107) (nw := [(107, .bx 28 ([.fl (.string (⟨#[]⟩)), .fl (.string (⟨#[]⟩)), .fl (.string (⟨#[]⟩)), .fl (.int .i64 0), .fl (.int .i64 0), .fl (.int .i64 0), .fl (.int .i64 0), .fl (.int .i64 0), .fl (.int .i64 0), .fl (.int .i64 0), .fl (.int .i64 0), .fl (.int .i64 0)]))]) rfl (og rfl (of_eff (s_alloc 107 rfl ti28 (by kernel_rfl) rfl) rfl)) rfl ?_
  refine rg_sto (nw := [(107, .bx 28 (eCs XD))]) rfl (og rfl (of_eff (s_store rfl rfl ti28 rfl rfl rfl rfl rfl rfl) rfl)) ?_
  refine rg_put (d := 15) (v := .d (.fl (.int .i64 0))) rfl (og rfl (op_assign rfl rfl rfl)) ?_
  refine rg_done rfl ?_
  refine a_rseq ?_
  refine rg_put (d := 62) (v := .d (.ag (eLw W0))) rfl (og rfl (of_eff (s_load_pts rfl Tryd.underlying24 rfl ti24 rfl rfl rfl rfl) rfl)) ?_
  refine rg_put (d := 63) (v := .d (.ag (eCs XZ))) rfl (og rfl (of_eff (s_load_pts rfl Tryd.underlying28 rfl ti28 rfl rfl rfl rfl) rfl)) ?_
  refine rg_put (d := 64) (v := .tu [.ag (eCs XU), .fl (.int .i64 0)]) rfl (og rfl (op_call rfl Tryd.func13 nm13 rfl (.cons rfl (.d _) (.cons rfl (.cv (Cv.nil _)) (.cons rfl (.d _) (.cons rfl (.d _) (.cons rfl (.d _) .nil))))) u8 rfl)) ?_
  refine rg_put (d := 61) (v := .tu [.ag (eCs XU), .fl (.int .i64 0)]) rfl (og rfl (op_move rfl rfl rfl)) ?_
  refine rg_put (d := 65) (v := .d (.ag (eCs XU))) rfl (og rfl (op_extract rfl rfl rfl rfl)) ?_
  refine rg_put (d := 66) (v := .d (.fl (.int .i64 0))) rfl (og rfl (op_extract rfl rfl rfl rfl)) ?_
  refine rg_nam (d := 16) (v := .pt 108 0) (m := 108) (nw := [(108, .bx 28 ([.fl (.string (⟨#[]⟩)), .fl (.string (⟨#[]⟩)), .fl (.string (⟨#[]⟩)), .fl (.int .i64 0), .fl (.int .i64 0), .fl (.int .i64 0), .fl (.int .i64 0), .fl (.int .i64 0), .fl (.int .i64 0), .fl (.int .i64 0), .fl (.int .i64 0), .fl (.int .i64 0)]))]) rfl (og rfl (of_eff (s_alloc 108 rfl ti28 (by kernel_rfl) rfl) rfl)) rfl ?_
  refine rg_sto (nw := [(108, .bx 28 (eCs XU))]) rfl (og rfl (of_eff (s_store rfl rfl ti28 rfl rfl rfl rfl rfl rfl) rfl)) ?_
  refine rg_put (d := 17) (v := .d (.fl (.int .i64 0))) rfl (og rfl (op_assign rfl rfl rfl)) ?_
  refine rg_done rfl ?_
  refine a_rseq ?_
  refine rg_put (d := 68) (v := .d (.ag (eLw W0))) rfl (og rfl (of_eff (s_load_pts rfl Tryd.underlying24 rfl ti24 rfl rfl rfl rfl) rfl)) ?_
  refine rg_put (d := 69) (v := .d (.ag (eCs XD))) rfl (og rfl (of_eff (s_load_pts rfl Tryd.underlying28 rfl ti28 rfl rfl rfl rfl) rfl)) ?_
  refine rg_put (d := 70) (v := .tu [.fl (.int .i64 31), .fl (.bool true)]) rfl (og rfl (op_call rfl Tryd.func22 nm22 rfl (.cons rfl (.d _) (.cons rfl (.cv (Cv.nil _)) (.cons rfl (.d _) .nil))) u9 rfl)) ?_
  refine rg_put (d := 67) (v := .tu [.fl (.int .i64 31), .fl (.bool true)]) rfl (og rfl (op_move rfl rfl rfl)) ?_
  refine rg_put (d := 71) (v := .d (.fl (.int .i64 31))) rfl (og rfl (op_extract rfl rfl rfl rfl)) ?_
  refine rg_put (d := 72) (v := .d (.fl (.bool true))) rfl (og rfl (op_extract rfl rfl rfl rfl)) ?_
  refine rg_put (d := 18) (v := .d (.fl (.int .i64 31))) rfl (og rfl (op_assign rfl rfl rfl)) ?_
  refine rg_put (d := 19) (v := .d (.fl (.bool true))) rfl (og rfl (op_assign rfl rfl rfl)) ?_
  refine rg_done rfl ?_
  refine a_seq ?_
  refine a_rseq ?_
  refine rg_put (d := 73) (v := .d (.fl (.int .i64 0))) rfl (og rfl (op_move rfl rfl rfl)) ?_
  refine rg_put (d := 74) (v := .d (.fl (.bool (0 != 0)))) rfl (og rfl (op_bin rfl rfl rfl (b_neq _ _ _ _) rfl)) ?_
  refine rg_put (d := 75) (v := .d (.fl (.bool (0 != 0)))) rfl (og rfl (op_move rfl rfl rfl)) ?_
  refine rg_put (d := 76) (v := .d (.fl (.int .i64 11))) rfl (oy rfl rfl rfl rfl (op_move rfl rfl rfl)) ?_
  refine rg_put (d := 77) (v := .d (.fl (.bool (11 != 11)))) rfl (oy rfl rfl rfl rfl (op_bin rfl rfl rfl (b_neq _ _ _ _) rfl)) ?_
  refine rg_put (d := 78) (v := .d (.fl (.bool (11 != 11)))) rfl (og rfl (op_pick rfl rfl rfl rfl)) ?_
  refine rg_put (d := 79) (v := .d (.fl (.bool (11 != 11)))) rfl (og rfl (op_move rfl rfl rfl)) ?_
  refine rg_put (d := 80) (v := .d (.fl (.int .i64 0))) rfl (oy rfl rfl rfl rfl (op_move rfl rfl rfl)) ?_
  refine rg_put (d := 81) (v := .d (.fl (.bool (0 != 0)))) rfl (oy rfl rfl rfl rfl (op_bin rfl rfl rfl (b_neq _ _ _ _) rfl)) ?_
  refine rg_put (d := 82) (v := .d (.fl (.bool (0 != 0)))) rfl (og rfl (op_pick rfl rfl rfl rfl)) ?_
  refine rg_put (d := 83) (v := .d (.fl (.bool (0 != 0)))) rfl (og rfl (op_move rfl rfl rfl)) ?_
  refine rg_put (d := 84) (v := .d (.fl (.int .i64 20))) rfl (oy rfl rfl rfl rfl (op_move rfl rfl rfl)) ?_
  refine rg_put (d := 85) (v := .d (.fl (.bool (20 != 20)))) rfl (oy rfl rfl rfl rfl (op_bin rfl rfl rfl (b_neq _ _ _ _) rfl)) ?_
  refine rg_put (d := 86) (v := .d (.fl (.bool (20 != 20)))) rfl (og rfl (op_pick rfl rfl rfl rfl)) ?_
  refine rg_put (d := 87) (v := .d (.fl (.bool (20 != 20)))) rfl (og rfl (op_move rfl rfl rfl)) ?_
  refine rg_put (d := 88) (v := .d (.fl (.bool true))) rfl (oy rfl rfl rfl rfl (op_move rfl rfl rfl)) ?_
  refine rg_put (d := 89) (v := .d (.fl (.bool (!true)))) rfl (oy rfl rfl rfl rfl (op_un rfl rfl (u_not _) rfl)) ?_
  refine rg_put (d := 90) (v := .d (.fl (.bool (!true)))) rfl (og rfl (op_pick rfl rfl rfl rfl)) ?_
  refine rg_put (d := 91) (v := .d (.fl (.bool (!true)))) rfl (og rfl (op_move rfl rfl rfl)) ?_
  refine rg_put (d := 92) (v := .d (.fl (.int .i64 0))) rfl (oy rfl rfl rfl (not_f rfl) (op_move rfl rfl rfl)) ?_
  refine rg_put (d := 93) (v := .d (.fl (.bool (0 != 0)))) rfl (oy rfl rfl rfl (not_f rfl) (op_bin rfl rfl rfl (b_neq _ _ _ _) rfl)) ?_
  refine rg_put (d := 94) (v := .d (.fl (.bool (0 != 0)))) rfl (og rfl (op_pick rfl rfl (by rw [(not_f rfl)]; rfl) rfl)) ?_
  refine rg_put (d := 95) (v := .d (.fl (.bool (0 != 0)))) rfl (og rfl (op_move rfl rfl rfl)) ?_
  refine rg_put (d := 96) (v := .d (.fl (.int .i64 0))) rfl (oy rfl rfl rfl rfl (op_move rfl rfl rfl)) ?_
  refine rg_put (d := 97) (v := .d (.fl (.bool (0 != 0)))) rfl (oy rfl rfl rfl rfl (op_bin rfl rfl rfl (b_neq _ _ _ _) rfl)) ?_
  refine rg_put (d := 98) (v := .d (.fl (.bool (0 != 0)))) rfl (og rfl (op_pick rfl rfl rfl rfl)) ?_
  refine rg_put (d := 99) (v := .d (.fl (.bool (0 != 0)))) rfl (og rfl (op_move rfl rfl rfl)) ?_
  refine rg_put (d := 100) (v := .d (.fl (.int .i64 0))) rfl (oy rfl rfl rfl rfl (op_move rfl rfl rfl)) ?_
  refine rg_put (d := 101) (v := .d (.fl (.bool (0 != 0)))) rfl (oy rfl rfl rfl rfl (op_bin rfl rfl rfl (b_neq _ _ _ _) rfl)) ?_
  refine rg_put (d := 102) (v := .d (.fl (.bool (0 != 0)))) rfl (og rfl (op_pick rfl rfl rfl rfl)) ?_
  refine rg_put (d := 103) (v := .d (.fl (.bool (0 != 0)))) rfl (og rfl (op_move rfl rfl rfl)) ?_
  refine rg_put (d := 104) (v := .d (.fl (.int .i64 0))) rfl (oy rfl rfl rfl rfl (op_move rfl rfl rfl)) ?_
  refine rg_put (d := 105) (v := .d (.fl (.bool (0 != 0)))) rfl (oy rfl rfl rfl rfl (op_bin rfl rfl rfl (b_neq _ _ _ _) rfl)) ?_
  refine rg_put (d := 106) (v := .d (.fl (.bool (0 != 0)))) rfl (og rfl (op_pick rfl rfl rfl rfl)) ?_
  refine rg_put (d := 107) (v := .d (.fl (.bool (0 != 0)))) rfl (og rfl (op_move rfl rfl rfl)) ?_
  refine rg_put (d := 108) (v := .d (.fl (.int .i64 31))) rfl (oy rfl rfl rfl rfl (op_move rfl rfl rfl)) ?_
  refine rg_put (d := 109) (v := .d (.fl (.bool (31 != 31)))) rfl (oy rfl rfl rfl rfl (op_bin rfl rfl rfl (b_neq _ _ _ _) rfl)) ?_
  refine rg_put (d := 110) (v := .d (.fl (.bool (31 != 31)))) rfl (og rfl (op_pick rfl rfl rfl rfl)) ?_
  refine rg_put (d := 111) (v := .d (.fl (.bool (31 != 31)))) rfl (og rfl (op_move rfl rfl rfl)) ?_
  refine rg_put (d := 112) (v := .d (.fl (.bool true))) rfl (oy rfl rfl rfl rfl (op_move rfl rfl rfl)) ?_
  refine rg_put (d := 113) (v := .d (.fl (.bool (!true)))) rfl (oy rfl rfl rfl rfl (op_un rfl rfl (u_not _) rfl)) ?_
  refine rg_put (d := 114) (v := .d (.fl (.bool (!true)))) rfl (og rfl (op_pick rfl rfl rfl rfl)) ?_
  refine rg_done rfl ?_
  refine a_condF rfl (not_f rfl) ?_
  refine a_skip ?_
  show A _ _ _ _ _ _ _
  refine a_seq ?_
  refine a_rseq ?_
  refine rg_put (d := 115) (v := .pt 105 5) rfl (og rfl (of_eff (s_field_pt rfl Tryd.underlying28 rfl ti3 rfl rfl rfl) rfl)) ?_
  refine rg_put (d := 116) (v := .d (.fl (.int .i64 XZ.stage))) rfl (og rfl (op_load_pt rfl Tryd.underlying3 rfl rfl rfl rfl rfl)) ?_
  refine rg_put (d := 117) (v := .d (.fl (.bool (XZ.stage != 2)))) rfl (og rfl (op_bin rfl rfl rfl (b_neq _ _ _ _) rfl)) ?_
  refine rg_put (d := 118) (v := .d (.fl (.bool (XZ.stage != 2)))) rfl (og rfl (op_move rfl rfl rfl)) ?_
  refine rg_put (d := 119) (v := .pt 105 9) rfl (oy rfl rfl rfl rfl (of_eff (s_field_pt rfl Tryd.underlying28 rfl ti26 rfl rfl rfl) rfl)) ?_
  refine rg_put (d := 120) (v := .d (.ag (eAp XZ.ap))) rfl (oy rfl rfl rfl rfl (of_eff (s_load_pts rfl Tryd.underlying26 rfl ti26 rfl rfl rfl rfl) rfl)) ?_
  refine rg_put (d := 121) (v := .d (.ag (eAp (Ap.mk 1 2 20)))) rfl (oy rfl rfl rfl rfl (of_eff (op_build rfl Tryd.underlying26 ti26 rfl (by kernel_rfl) (by kernel_rfl) (pl := #[(0, 1), (1, 1), (2, 1)]) (by kernel_rfl) (.cons rfl rfl (.d _) rfl rfl rfl (.cons rfl rfl (.d _) rfl rfl rfl (.cons rfl rfl (.d _) rfl rfl rfl .nil))) rfl) rfl)) ?_
  refine rg_put (d := 122) (v := .d (.fl (.bool false))) rfl (oy rfl rfl rfl rfl (op_eqS [.int .i64 XZ.ap.state, .int .i64 XZ.ap.ground, .int .i64 XZ.ap.day] [.int .i64 ((Ap.mk 1 2 20).state), .int .i64 ((Ap.mk 1 2 20).ground), .int .i64 ((Ap.mk 1 2 20).day)] rfl rfl rfl (b := false) (fun ww => neq26 XZ.ap _ _ ww) rfl)) ?_
  refine rg_put (d := 123) (v := .d (.fl (.bool false))) rfl (og rfl (op_pick rfl rfl rfl rfl)) ?_
  refine rg_put (d := 124) (v := .d (.fl (.bool false))) rfl (og rfl (op_move rfl rfl rfl)) ?_
  refine rg_put (d := 125) (v := .pt 106 5) rfl (oy rfl rfl rfl rfl (of_eff (s_field_pt rfl Tryd.underlying28 rfl ti3 rfl rfl rfl) rfl)) ?_
  refine rg_put (d := 126) (v := .d (.fl (.int .i64 XR.stage))) rfl (oy rfl rfl rfl rfl (op_load_pt rfl Tryd.underlying3 rfl rfl rfl rfl rfl)) ?_
  refine rg_put (d := 127) (v := .d (.fl (.bool (XR.stage != 3)))) rfl (oy rfl rfl rfl rfl (op_bin rfl rfl rfl (b_neq _ _ _ _) rfl)) ?_
  refine rg_put (d := 128) (v := .d (.fl (.bool (XR.stage != 3)))) rfl (og rfl (op_pick rfl rfl rfl rfl)) ?_
  refine rg_put (d := 129) (v := .d (.fl (.bool (XR.stage != 3)))) rfl (og rfl (op_move rfl rfl rfl)) ?_
  refine rg_put (d := 130) (v := .pt 107 4) rfl (oy rfl rfl rfl rfl (of_eff (s_field_pt rfl Tryd.underlying28 rfl ti3 rfl rfl rfl) rfl)) ?_
  refine rg_put (d := 131) (v := .d (.fl (.int .i64 XD.since))) rfl (oy rfl rfl rfl rfl (op_load_pt rfl Tryd.underlying3 rfl rfl rfl rfl rfl)) ?_
  refine rg_put (d := 132) (v := .d (.fl (.bool (XD.since != 17)))) rfl (oy rfl rfl rfl rfl (op_bin rfl rfl rfl (b_neq _ _ _ _) rfl)) ?_
  refine rg_put (d := 133) (v := .d (.fl (.bool (XD.since != 17)))) rfl (og rfl (op_pick rfl rfl rfl rfl)) ?_
  refine rg_put (d := 134) (v := .d (.fl (.bool (XD.since != 17)))) rfl (og rfl (op_move rfl rfl rfl)) ?_
  refine rg_put (d := 135) (v := .pt 107 8) rfl (oy rfl rfl rfl rfl (of_eff (s_field_pt rfl Tryd.underlying28 rfl ti3 rfl rfl rfl) rfl)) ?_
  refine rg_put (d := 136) (v := .d (.fl (.int .i64 XD.paused))) rfl (oy rfl rfl rfl rfl (op_load_pt rfl Tryd.underlying3 rfl rfl rfl rfl rfl)) ?_
  refine rg_put (d := 137) (v := .d (.fl (.bool (XD.paused != 10)))) rfl (oy rfl rfl rfl rfl (op_bin rfl rfl rfl (b_neq _ _ _ _) rfl)) ?_
  refine rg_put (d := 138) (v := .d (.fl (.bool (XD.paused != 10)))) rfl (og rfl (op_pick rfl rfl rfl rfl)) ?_
  refine rg_put (d := 139) (v := .d (.fl (.bool (XD.paused != 10)))) rfl (og rfl (op_move rfl rfl rfl)) ?_
  refine rg_put (d := 140) (v := .pt 107 9) rfl (oy rfl rfl rfl rfl (of_eff (s_field_pt rfl Tryd.underlying28 rfl ti26 rfl rfl rfl) rfl)) ?_
  refine rg_put (d := 141) (v := .pt 107 9) rfl (oy rfl rfl rfl rfl (of_eff (s_field_pt rfl Tryd.underlying26 rfl ti3 rfl rfl rfl) rfl)) ?_
  refine rg_put (d := 142) (v := .d (.fl (.int .i64 XD.ap.state))) rfl (oy rfl rfl rfl rfl (op_load_pt rfl Tryd.underlying3 rfl rfl rfl rfl rfl)) ?_
  refine rg_put (d := 143) (v := .d (.fl (.bool (XD.ap.state != 3)))) rfl (oy rfl rfl rfl rfl (op_bin rfl rfl rfl (b_neq _ _ _ _) rfl)) ?_
  refine rg_put (d := 144) (v := .d (.fl (.bool (XD.ap.state != 3)))) rfl (og rfl (op_pick rfl rfl rfl rfl)) ?_
  refine rg_put (d := 145) (v := .d (.fl (.bool (XD.ap.state != 3)))) rfl (og rfl (op_move rfl rfl rfl)) ?_
  refine rg_put (d := 146) (v := .pt 108 5) rfl (oy rfl rfl rfl rfl (of_eff (s_field_pt rfl Tryd.underlying28 rfl ti3 rfl rfl rfl) rfl)) ?_
  refine rg_put (d := 147) (v := .d (.fl (.int .i64 XU.stage))) rfl (oy rfl rfl rfl rfl (op_load_pt rfl Tryd.underlying3 rfl rfl rfl rfl rfl)) ?_
  refine rg_put (d := 148) (v := .d (.fl (.bool (XU.stage != 7)))) rfl (oy rfl rfl rfl rfl (op_bin rfl rfl rfl (b_neq _ _ _ _) rfl)) ?_
  refine rg_put (d := 149) (v := .d (.fl (.bool (XU.stage != 7)))) rfl (og rfl (op_pick rfl rfl rfl rfl)) ?_
  refine rg_done rfl ?_
  refine a_condF rfl rfl ?_
  refine a_skip ?_
  show A _ _ _ _ _ _ _
  refine a_rseq ?_
  refine rg_put (d := 150) (v := .d (.ag (eCs XZ))) rfl (og rfl (of_eff (s_load_pts rfl Tryd.underlying28 rfl ti28 rfl rfl rfl rfl) rfl)) ?_
  refine rg_put (d := 151) (v := .d (.fl (.bool true))) rfl (og rfl (op_call rfl Tryd.func17 nm17 rfl (.cons rfl (.d _) .nil) u10 rfl)) ?_
  refine rg_put (d := 152) (v := .d (.fl (.bool true))) rfl (og rfl (op_move rfl rfl rfl)) ?_
  refine rg_put (d := 153) (v := .d (.ag (eCs XD))) rfl (oy rfl rfl rfl rfl (of_eff (s_load_pts rfl Tryd.underlying28 rfl ti28 rfl rfl rfl rfl) rfl)) ?_
  refine rg_put (d := 154) (v := .d (.fl (.bool false))) rfl (oy rfl rfl rfl rfl (op_call rfl Tryd.func17 nm17 rfl (.cons rfl (.d _) .nil) u11 rfl)) ?_
  refine rg_put (d := 155) (v := .d (.fl (.bool (!false)))) rfl (oy rfl rfl rfl rfl (op_un rfl rfl (u_not _) rfl)) ?_
  refine rg_put (d := 156) (v := .d (.fl (.bool (!false)))) rfl (og rfl (op_pick rfl rfl rfl rfl)) ?_
  refine rg_put (d := 157) (v := .d (.fl (.bool (!false)))) rfl (og rfl (op_move rfl rfl rfl)) ?_
  refine rg_put (d := 158) (v := .d (.fl (.string (⟨#[115, 116, 111, 108, 101, 110]⟩)))) rfl (oy rfl rfl rfl (not_t' rfl) (op_callG hG rfl Tryd.func19 nm19 rfl (.cons rfl (.d _) .nil) u12 rfl)) ?_
  refine rg_put (d := 159) (v := .d (.fl (.bool ((sEq (⟨#[115, 116, 111, 108, 101, 110]⟩) (⟨#[115, 116, 111, 108, 101, 110]⟩)))))) rfl (oy rfl rfl rfl (not_t' rfl) (op_bin rfl rfl rfl (b_seq _ _ _) rfl)) ?_
  refine rg_put (d := 160) (v := .d (.fl (.bool ((sEq (⟨#[115, 116, 111, 108, 101, 110]⟩) (⟨#[115, 116, 111, 108, 101, 110]⟩)))))) rfl (og rfl (op_pick rfl rfl (by rw [(not_t' rfl)]; rfl) rfl)) ?_
  refine rg_put (d := 161) (v := .d (.fl (.bool ((sEq (⟨#[115, 116, 111, 108, 101, 110]⟩) (⟨#[115, 116, 111, 108, 101, 110]⟩)))))) rfl (og rfl (op_move rfl rfl rfl)) ?_
  refine rg_put (d := 162) (v := .d (.fl (.string (⟨#[]⟩)))) rfl (oy rfl rfl rfl rfl (op_callG hG rfl Tryd.func19 nm19 rfl (.cons rfl (.d _) .nil) u13 rfl)) ?_
  refine rg_put (d := 163) (v := .d (.fl (.bool ((sEq (⟨#[]⟩) (⟨#[]⟩)))))) rfl (oy rfl rfl rfl rfl (op_bin rfl rfl rfl (b_seq _ _ _) rfl)) ?_
  refine rg_put (d := 164) (v := .d (.fl (.bool ((sEq (⟨#[]⟩) (⟨#[]⟩)))))) rfl (og rfl (op_pick rfl rfl rfl rfl)) ?_
  refine rg_put (d := 0) (v := .d (.fl (.bool ((sEq (⟨#[]⟩) (⟨#[]⟩)))))) rfl (og rfl (op_assign rfl rfl rfl)) ?_
  refine rg_done rfl ?_
  refine a_ret ?_
  show ∃ ds, ResL _ _ _ ds ∧ RV.of ds = _
  refine ⟨[.fl (.bool ((sEq (⟨#[]⟩) (⟨#[]⟩))))], (.cons (.tmp rfl (.d _)) .nil), ?_⟩
  rfl
end Go.Proofs.YtadfkfgachlgeaaDoor.Wk
