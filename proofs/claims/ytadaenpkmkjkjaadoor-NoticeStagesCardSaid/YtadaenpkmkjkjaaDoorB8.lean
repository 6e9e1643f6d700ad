/- The program is awake. No condition. -/
import Derived.Test.YtadaenpkmkjkjaaDoorB7
set_option linter.unusedSimpArgs false
set_option linter.unusedVariables false
namespace Go.Proofs.YtadaenpkmkjkjaaDoor.Wk
open Go Go.RowKit Go.Proofs.YtadaenpkmkjkjaaDoor.Av
abbrev W0 : Lw := Lw.mk [5, 10, 10, 20] [100, 200, 300, 1000] 1000
abbrev X0 : Cs := Cs.mk ⟨#[118, 49]⟩ ⟨#[65, 66, 49]⟩ ⟨#[116, 58, 97]⟩ 0 0 1 500 0 0 (Ap.mk 0 0 0)
abbrev X7 : Cs := Cs.mk ⟨#[118, 49]⟩ ⟨#[65, 66, 49]⟩ ⟨#[116, 58, 97]⟩ 0 7 2 600 0 0 (Ap.mk 0 0 0)
abbrev XC : Cs := Cs.mk ⟨#[118, 49]⟩ ⟨#[65, 66, 49]⟩ ⟨#[116, 58, 97]⟩ 0 63 5 2100 0 0 (Ap.mk 0 0 0)
abbrev XP : Cs := Cs.mk ⟨#[118, 49]⟩ ⟨#[65, 66, 49]⟩ ⟨#[116, 58, 97]⟩ 0 7 2 600 200 0 (Ap.mk 0 0 0)
abbrev XQ : Cs := Cs.mk ⟨#[118, 49]⟩ ⟨#[65, 66, 49]⟩ ⟨#[116, 58, 97]⟩ 0 7 6 600 600 0 (Ap.mk 0 0 0)
theorem k1 : newS ⟨#[118, 49]⟩ ⟨#[65, 66, 49]⟩ ⟨#[116, 58, 97]⟩ 500 0 = (X0, 0) := by kernel_rfl
theorem k2 : newS ⟨#[118, 32, 49]⟩ ⟨#[65, 66, 49]⟩ ⟨#[116, 58, 97]⟩ 500 0 = (z0, 5) := by kernel_rfl
theorem k3 : due W0 [] X0 = (7, true) := by kernel_rfl
theorem k4 : adv W0 [] X0 7 = (X7, 0) := by kernel_rfl
theorem k5 : adv W0 [] X0 100 = (XC, 0) := by kernel_rfl
theorem k6 : ckL W0 = 0 := by kernel_rfl
theorem k7 : opn X0 = true := by kernel_rfl
theorem k8 : pay X7 200 = ((XP, 0), 0) := by kernel_rfl
theorem k9 : pay XP 500 = ((XQ, 100), 0) := by kernel_rfl
theorem k10 : wv XQ = (XQ, 28) := by kernel_rfl
theorem k11 : opn XQ = false := by kernel_rfl

theorem u1 : Ctr Tryd.prog 14 [.fl (.string ⟨#[118, 49]⟩), .fl (.string ⟨#[65, 66, 49]⟩), .fl (.string ⟨#[116, 58, 97]⟩), .fl (.int .i64 500), .fl (.int .i64 0)] (.tu [.ag (eCs X0), .fl (.int .i64 0)]) := by
  have := new14 ⟨#[118, 49]⟩ ⟨#[65, 66, 49]⟩ ⟨#[116, 58, 97]⟩ 500 0 ab1_veh
  rw [k1] at this; exact this
theorem u2 : Ctr Tryd.prog 14 [.fl (.string ⟨#[118, 32, 49]⟩), .fl (.string ⟨#[65, 66, 49]⟩), .fl (.string ⟨#[116, 58, 97]⟩), .fl (.int .i64 500), .fl (.int .i64 0)] (.tu [.ag (eCs z0), .fl (.int .i64 5)]) := by
  have := new14 ⟨#[118, 32, 49]⟩ ⟨#[65, 66, 49]⟩ ⟨#[116, 58, 97]⟩ 500 0 ab1_veh
  rw [k2] at this; exact this
theorem u3 : Ctr Tryd.prog 19 [.ag (eLw W0), .sl 1 (List.map (rI .i64) ([] : List Int)), .ag (eCs X0)] (.tu [.fl (.int .i64 7), .fl (.bool true)]) := by
  have := due19 W0 [] X0 (by decide)
  rw [k3] at this; exact this
theorem u4 : Ctr Tryd.prog 17 [.ag (eLw W0), .sl 1 (List.map (rI .i64) ([] : List Int)), .ag (eCs X0), .fl (.int .i64 7)] (.tu [.ag (eCs X7), .fl (.int .i64 0)]) := by
  have := adv17 W0 [] X0 7 (by decide)
  rw [k4] at this; exact this
theorem u5 : Ctr Tryd.prog 17 [.ag (eLw W0), .sl 1 (List.map (rI .i64) ([] : List Int)), .ag (eCs X0), .fl (.int .i64 100)] (.tu [.ag (eCs XC), .fl (.int .i64 0)]) := by
  have := adv17 W0 [] X0 100 (by decide)
  rw [k5] at this; exact this
theorem u6 : Ctr Tryd.prog 12 [.ag (eLw W0)] (.d (.fl (.int .i64 0))) := by
  have := ck12 W0
  rw [k6] at this; exact this
theorem u7 : Ctr Tryd.prog 21 [.ag (eCs X0)] (.d (.fl (.bool true))) := by
  have := opn21 X0
  rw [k7] at this; exact this
theorem u8 : Ctr Tryd.prog 23 [.ag (eCs X7), .fl (.int .i64 200)] (.tu [.ag (eCs XP), .fl (.int .i64 0), .fl (.int .i64 0)]) := by
  have := pay23 X7 200 (by decide) (by decide)
  rw [k8] at this; exact this
theorem u9 : Ctr Tryd.prog 23 [.ag (eCs XP), .fl (.int .i64 500)] (.tu [.ag (eCs XQ), .fl (.int .i64 100), .fl (.int .i64 0)]) := by
  have := pay23 XP 500 (by decide) (by decide)
  rw [k9] at this; exact this
theorem u10 : Ctr Tryd.prog 25 [.ag (eCs XQ)] (.tu [.ag (eCs XQ), .fl (.int .i64 28)]) := by
  have := wv25 XQ
  rw [k10] at this; exact this
theorem u11 : Ctr Tryd.prog 21 [.ag (eCs XQ)] (.d (.fl (.bool false))) := by
  have := opn21 XQ
  rw [k11] at this; exact this
set_option maxHeartbeats 4000000 in
set_option maxRecDepth 100000 in
theorem awake11  : Ctr Tryd.prog 11 [] (.d (.fl (.bool true))) := by
  refine ctr (n := 184) (rs := #[.tmp 0]) (L := []) Tryd.func11 rfl rfl rfl rfl rfl (fun w0 U0 => ?_)
  refine a_rseq ?_
  refine rg_put (d := 0) (v := .d (.fl (.bool false))) rfl (og rfl (op_assign rfl rfl rfl)) ?_
  refine rg_done rfl ?_
  refine a_rseq ?_
  refine rg_put (d := 20) (v := .d (.sl 1 (List.map (rI .i64) [5, 10, 10, 20]))) rfl (og rfl (of_eff (op_slices rfl Tryd.underlying22 ti3 rfl rfl rfl (by kernel_rfl) (xs := [.fl (.int .i64 5), .fl (.int .i64 10), .fl (.int .i64 10), .fl (.int .i64 20)]) rfl rfl (.cons rfl rfl (.d _) rfl rfl rfl (.cons rfl rfl (.d _) rfl rfl rfl (.cons rfl rfl (.d _) rfl rfl rfl (.cons rfl rfl (.d _) rfl rfl rfl .nil)))) rfl) rfl)) ?_
  refine rg_put (d := 21) (v := .d (.sl 1 (List.map (rI .i64) [100, 200, 300, 1000]))) rfl (og rfl (of_eff (op_slices rfl Tryd.underlying22 ti3 rfl rfl rfl (by kernel_rfl) (xs := [.fl (.int .i64 100), .fl (.int .i64 200), .fl (.int .i64 300), .fl (.int .i64 1000)]) rfl rfl (.cons rfl rfl (.d _) rfl rfl rfl (.cons rfl rfl (.d _) rfl rfl rfl (.cons rfl rfl (.d _) rfl rfl rfl (.cons rfl rfl (.d _) rfl rfl rfl .nil)))) rfl) rfl)) ?_
  refine rg_put (d := 22) (v := .d (.ag (eLw W0))) rfl (og rfl (of_eff (op_build rfl Tryd.underlying24 ti24 rfl (by kernel_rfl) (by kernel_rfl) (pl := #[(0, 1), (1, 1), (2, 1)]) (by kernel_rfl) (.cons rfl rfl (.d _) rfl rfl rfl (.cons rfl rfl (.d _) rfl rfl rfl (.cons rfl rfl (.d _) rfl rfl rfl .nil))) rfl) rfl)) ?_
  refine rg_nam (d := 1) (v := .pt 101 0) (m := 101) (nw := [(101, .bx 24 [.fl (.slice none 0 0), .fl (.slice none 0 0), .fl (.int .i64 0)])]) rfl (og rfl (of_eff (s_alloc 101 rfl ti24 (by kernel_rfl) rfl) rfl)) rfl ?_
  refine rg_sto (nw := [(101, .bx 24 (eLw W0))]) rfl (og rfl (of_eff (s_store rfl rfl ti24 rfl rfl rfl rfl rfl rfl) rfl)) ?_
  refine rg_done rfl ?_
  refine a_rseq ?_
  refine rg_put (d := 24) (v := .tu [.ag (eCs X0), .fl (.int .i64 0)]) rfl (og rfl (op_call rfl Tryd.func14 nm14 rfl (.cons rfl (.d _) (.cons rfl (.d _) (.cons rfl (.d _) (.cons rfl (.d _) (.cons rfl (.d _) .nil))))) u1 rfl)) ?_
  refine rg_put (d := 23) (v := .tu [.ag (eCs X0), .fl (.int .i64 0)]) rfl (og rfl (op_move rfl rfl rfl)) ?_
  refine rg_put (d := 25) (v := .d (.ag (eCs X0))) rfl (og rfl (op_extract rfl rfl rfl rfl)) ?_
  refine rg_put (d := 26) (v := .d (.fl (.int .i64 0))) rfl (og rfl (op_extract rfl rfl rfl rfl)) ?_
  refine rg_nam (d := 2) (v := .pt 102 0) (m := 102) (nw := [(102, .bx 29 ([.fl (.string (⟨#[]⟩)), .fl (.string (⟨#[]⟩)), .fl (.string (⟨#[]⟩)), .fl (.int .i64 0), .fl (.int .i64 0), .fl (.int .i64 0), .fl (.int .i64 0), .fl (.int .i64 0), .fl (.int .i64 0), .fl (.int .i64 0), .fl (.int .i64 0), .fl (.int .i64 0)]))]) rfl (og rfl (of_eff (s_alloc 102 rfl ti29 (by kernel_rfl) rfl) rfl)) rfl ?_
  refine rg_sto (nw := [(102, .bx 29 (eCs X0))]) rfl (og rfl (of_eff (s_store rfl rfl ti29 rfl rfl rfl rfl rfl rfl) rfl)) ?_
  refine rg_put (d := 3) (v := .d (.fl (.int .i64 0))) rfl (og rfl (op_assign rfl rfl rfl)) ?_
  refine rg_done rfl ?_
  refine a_rseq ?_
  refine rg_put (d := 28) (v := .d (.ag (eLw W0))) rfl (og rfl (of_eff (s_load_pts rfl Tryd.underlying24 rfl ti24 rfl rfl rfl rfl) rfl)) ?_
  refine rg_put (d := 29) (v := .d (.ag (eCs X0))) rfl (og rfl (of_eff (s_load_pts rfl Tryd.underlying29 rfl ti29 rfl rfl rfl rfl) rfl)) ?_
  refine rg_put (d := 30) (v := .tu [.fl (.int .i64 7), .fl (.bool true)]) rfl (og rfl (op_call rfl Tryd.func19 nm19 rfl (.cons rfl (.d _) (.cons rfl (.cv (Cv.nil _)) (.cons rfl (.d _) .nil))) u3 rfl)) ?_
  refine rg_put (d := 27) (v := .tu [.fl (.int .i64 7), .fl (.bool true)]) rfl (og rfl (op_move rfl rfl rfl)) ?_
  refine rg_put (d := 31) (v := .d (.fl (.int .i64 7))) rfl (og rfl (op_extract rfl rfl rfl rfl)) ?_
  refine rg_put (d := 32) (v := .d (.fl (.bool true))) rfl (og rfl (op_extract rfl rfl rfl rfl)) ?_
  refine rg_put (d := 4) (v := .d (.fl (.int .i64 7))) rfl (og rfl (op_assign rfl rfl rfl)) ?_
  refine rg_put (d := 5) (v := .d (.fl (.bool true))) rfl (og rfl (op_assign rfl rfl rfl)) ?_
  refine rg_done rfl ?_
  refine a_rseq ?_
  refine rg_put (d := 34) (v := .d (.ag (eLw W0))) rfl (og rfl (of_eff (s_load_pts rfl Tryd.underlying24 rfl ti24 rfl rfl rfl rfl) rfl)) ?_
  refine rg_put (d := 35) (v := .d (.ag (eCs X0))) rfl (og rfl (of_eff (s_load_pts rfl Tryd.underlying29 rfl ti29 rfl rfl rfl rfl) rfl)) ?_
  refine rg_put (d := 36) (v := .tu [.ag (eCs X7), .fl (.int .i64 0)]) rfl (og rfl (op_call rfl Tryd.func17 nm17 rfl (.cons rfl (.d _) (.cons rfl (.cv (Cv.nil _)) (.cons rfl (.d _) (.cons rfl (.d _) .nil)))) u4 rfl)) ?_
  refine rg_put (d := 33) (v := .tu [.ag (eCs X7), .fl (.int .i64 0)]) rfl (og rfl (op_move rfl rfl rfl)) ?_
  refine rg_put (d := 37) (v := .d (.ag (eCs X7))) rfl (og rfl (op_extract rfl rfl rfl rfl)) ?_
  refine rg_put (d := 38) (v := .d (.fl (.int .i64 0))) rfl (og rfl (op_extract rfl rfl rfl rfl)) ?_
  refine rg_nam (d := 6) (v := .pt 103 0) (m := 103) (nw := [(103, .bx 29 ([.fl (.string (⟨#[]⟩)), .fl (.string (⟨#[]⟩)), .fl (.string (⟨#[]⟩)), .fl (.int .i64 0), .fl (.int .i64 0), .fl (.int .i64 0), .fl (.int .i64 0), .fl (.int .i64 0), .fl (.int .i64 0), .fl (.int .i64 0), .fl (.int .i64 0), .fl (.int .i64 0)]))]) rfl (og rfl (of_eff (s_alloc 103 rfl ti29 (by kernel_rfl) rfl) rfl)) rfl ?_
  refine rg_sto (nw := [(103, .bx 29 (eCs X7))]) rfl (og rfl (of_eff (s_store rfl rfl ti29 rfl rfl rfl rfl rfl rfl) rfl)) ?_
  refine rg_put (d := 7) (v := .d (.fl (.int .i64 0))) rfl (og rfl (op_assign rfl rfl rfl)) ?_
  refine rg_done rfl ?_
  refine a_rseq ?_
  refine rg_put (d := 40) (v := .d (.ag (eLw W0))) rfl (og rfl (of_eff (s_load_pts rfl Tryd.underlying24 rfl ti24 rfl rfl rfl rfl) rfl)) ?_
  refine rg_put (d := 41) (v := .d (.ag (eCs X0))) rfl (og rfl (of_eff (s_load_pts rfl Tryd.underlying29 rfl ti29 rfl rfl rfl rfl) rfl)) ?_
  refine rg_put (d := 42) (v := .tu [.ag (eCs XC), .fl (.int .i64 0)]) rfl (og rfl (op_call rfl Tryd.func17 nm17 rfl (.cons rfl (.d _) (.cons rfl (.cv (Cv.nil _)) (.cons rfl (.d _) (.cons rfl (.d _) .nil)))) u5 rfl)) ?_
  refine rg_put (d := 39) (v := .tu [.ag (eCs XC), .fl (.int .i64 0)]) rfl (og rfl (op_move rfl rfl rfl)) ?_
  refine rg_put (d := 43) (v := .d (.ag (eCs XC))) rfl (og rfl (op_extract rfl rfl rfl rfl)) ?_
  refine rg_put (d := 44) (v := .d (.fl (.int .i64 0))) rfl (og rfl (op_extract rfl rfl rfl rfl)) ?_
  refine rg_nam (d := 8) (v := .pt 104 0) (m := 104) (nw := [(104, .bx 29 ([.fl (.string (⟨#[]⟩)), .fl (.string (⟨#[]⟩)), .fl (.string (⟨#[]⟩)), .fl (.int .i64 0), .fl (.int .i64 0), .fl (.int .i64 0), .fl (.int .i64 0), .fl (.int .i64 0), .fl (.int .i64 0), .fl (.int .i64 0), .fl (.int .i64 0), .fl (.int .i64 0)]))]) rfl (og rfl (of_eff (s_alloc 104 rfl ti29 (by kernel_rfl) rfl) rfl)) rfl ?_
  refine rg_sto (nw := [(104, .bx 29 (eCs XC))]) rfl (og rfl (of_eff (s_store rfl rfl ti29 rfl rfl rfl rfl rfl rfl) rfl)) ?_
  refine rg_put (d := 9) (v := .d (.fl (.int .i64 0))) rfl (og rfl (op_assign rfl rfl rfl)) ?_
  refine rg_done rfl ?_
  refine a_rseq ?_
  refine rg_put (d := 46) (v := .tu [.ag (eCs z0), .fl (.int .i64 5)]) rfl (og rfl (op_call rfl Tryd.func14 nm14 rfl (.cons rfl (.d _) (.cons rfl (.d _) (.cons rfl (.d _) (.cons rfl (.d _) (.cons rfl (.d _) .nil))))) u2 rfl)) ?_
  refine rg_put (d := 45) (v := .tu [.ag (eCs z0), .fl (.int .i64 5)]) rfl (og rfl (op_move rfl rfl rfl)) ?_
  refine rg_put (d := 47) (v := .d (.ag (eCs z0))) rfl (og rfl (op_extract rfl rfl rfl rfl)) ?_
  refine rg_put (d := 48) (v := .d (.fl (.int .i64 5))) rfl (og rfl (op_extract rfl rfl rfl rfl)) ?_
  refine rg_nam (d := 10) (v := .pt 105 0) (m := 105) (nw := [(105, .bx 29 ([.fl (.string (⟨#[]⟩)), .fl (.string (⟨#[]⟩)), .fl (.string (⟨#[]⟩)), .fl (.int .i64 0), .fl (.int .i64 0), .fl (.int .i64 0), .fl (.int .i64 0), .fl (.int .i64 0), .fl (.int .i64 0), .fl (.int .i64 0), .fl (.int .i64 0), .fl (.int .i64 0)]))]) rfl (og rfl (of_eff (s_alloc 105 rfl ti29 (by kernel_rfl) rfl) rfl)) rfl ?_
  refine rg_sto (nw := [(105, .bx 29 (eCs z0))]) rfl (og rfl (of_eff (s_store rfl rfl ti29 rfl rfl rfl rfl rfl rfl) rfl)) ?_
  refine rg_put (d := 11) (v := .d (.fl (.int .i64 5))) rfl (og rfl (op_assign rfl rfl rfl)) ?_
  refine rg_done rfl ?_
  refine a_seq ?_
  refine a_rseq ?_
  refine rg_put (d := 49) (v := .d (.fl (.int .i64 0))) rfl (og rfl (op_move rfl rfl rfl)) ?_
  refine rg_put (d := 50) (v := .d (.fl (.bool (0 != 0)))) rfl (og rfl (op_bin rfl rfl rfl (b_neq _ _ _ _) rfl)) ?_
  refine rg_put (d := 51) (v := .d (.fl (.bool (0 != 0)))) rfl (og rfl (op_move rfl rfl rfl)) ?_
  refine rg_put (d := 52) (v := .d (.fl (.int .i64 0))) rfl (oy rfl rfl rfl rfl (op_move rfl rfl rfl)) ?_
  refine rg_put (d := 53) (v := .d (.fl (.bool (0 != 0)))) rfl (oy rfl rfl rfl rfl (op_bin rfl rfl rfl (b_neq _ _ _ _) rfl)) ?_
  refine rg_put (d := 54) (v := .d (.fl (.bool (0 != 0)))) rfl (og rfl (op_pick rfl rfl rfl rfl)) ?_
  refine rg_put (d := 55) (v := .d (.fl (.bool (0 != 0)))) rfl (og rfl (op_move rfl rfl rfl)) ?_
  refine rg_put (d := 56) (v := .d (.fl (.int .i64 0))) rfl (oy rfl rfl rfl rfl (op_move rfl rfl rfl)) ?_
  refine rg_put (d := 57) (v := .d (.fl (.bool (0 != 0)))) rfl (oy rfl rfl rfl rfl (op_bin rfl rfl rfl (b_neq _ _ _ _) rfl)) ?_
  refine rg_put (d := 58) (v := .d (.fl (.bool (0 != 0)))) rfl (og rfl (op_pick rfl rfl rfl rfl)) ?_
  refine rg_put (d := 59) (v := .d (.fl (.bool (0 != 0)))) rfl (og rfl (op_move rfl rfl rfl)) ?_
  refine rg_put (d := 60) (v := .d (.fl (.int .i64 5))) rfl (oy rfl rfl rfl rfl (op_move rfl rfl rfl)) ?_
  refine rg_put (d := 61) (v := .d (.fl (.bool (5 != 5)))) rfl (oy rfl rfl rfl rfl (op_bin rfl rfl rfl (b_neq _ _ _ _) rfl)) ?_
  refine rg_put (d := 62) (v := .d (.fl (.bool (5 != 5)))) rfl (og rfl (op_pick rfl rfl rfl rfl)) ?_
  refine rg_put (d := 63) (v := .d (.fl (.bool (5 != 5)))) rfl (og rfl (op_move rfl rfl rfl)) ?_
  refine rg_put (d := 64) (v := .d (.fl (.bool true))) rfl (oy rfl rfl rfl rfl (op_move rfl rfl rfl)) ?_
  refine rg_put (d := 65) (v := .d (.fl (.bool (!true)))) rfl (oy rfl rfl rfl rfl (op_un rfl rfl (u_not _) rfl)) ?_
  refine rg_put (d := 66) (v := .d (.fl (.bool (!true)))) rfl (og rfl (op_pick rfl rfl rfl rfl)) ?_
  refine rg_put (d := 67) (v := .d (.fl (.bool (!true)))) rfl (og rfl (op_move rfl rfl rfl)) ?_
  refine rg_put (d := 68) (v := .d (.fl (.int .i64 7))) rfl (oy rfl rfl rfl (not_f rfl) (op_move rfl rfl rfl)) ?_
  refine rg_put (d := 69) (v := .d (.fl (.bool (7 != 7)))) rfl (oy rfl rfl rfl (not_f rfl) (op_bin rfl rfl rfl (b_neq _ _ _ _) rfl)) ?_
  refine rg_put (d := 70) (v := .d (.fl (.bool (7 != 7)))) rfl (og rfl (op_pick rfl rfl (by rw [(not_f rfl)]; rfl) rfl)) ?_
  refine rg_put (d := 71) (v := .d (.fl (.bool (7 != 7)))) rfl (og rfl (op_move rfl rfl rfl)) ?_
  refine rg_put (d := 72) (v := .d (.ag (eLw W0))) rfl (oy rfl rfl rfl rfl (of_eff (s_load_pts rfl Tryd.underlying24 rfl ti24 rfl rfl rfl rfl) rfl)) ?_
  refine rg_put (d := 73) (v := .d (.fl (.int .i64 0))) rfl (oy rfl rfl rfl rfl (op_call rfl Tryd.func12 nm12 rfl (.cons rfl (.d _) .nil) u6 rfl)) ?_
  refine rg_put (d := 74) (v := .d (.fl (.bool (0 != 0)))) rfl (oy rfl rfl rfl rfl (op_bin rfl rfl rfl (b_neq _ _ _ _) rfl)) ?_
  refine rg_put (d := 75) (v := .d (.fl (.bool (0 != 0)))) rfl (og rfl (op_pick rfl rfl rfl rfl)) ?_
  refine rg_put (d := 76) (v := .d (.fl (.bool (0 != 0)))) rfl (og rfl (op_move rfl rfl rfl)) ?_
  refine rg_put (d := 77) (v := .d (.ag (eCs X0))) rfl (oy rfl rfl rfl rfl (of_eff (s_load_pts rfl Tryd.underlying29 rfl ti29 rfl rfl rfl rfl) rfl)) ?_
  refine rg_put (d := 78) (v := .d (.fl (.bool true))) rfl (oy rfl rfl rfl rfl (op_call rfl Tryd.func21 nm21 rfl (.cons rfl (.d _) .nil) u7 rfl)) ?_
  refine rg_put (d := 79) (v := .d (.fl (.bool (!true)))) rfl (oy rfl rfl rfl rfl (op_un rfl rfl (u_not _) rfl)) ?_
  refine rg_put (d := 80) (v := .d (.fl (.bool (!true)))) rfl (og rfl (op_pick rfl rfl rfl rfl)) ?_
  refine rg_put (d := 81) (v := .d (.fl (.bool (!true)))) rfl (og rfl (op_move rfl rfl rfl)) ?_
  refine rg_put (d := 82) (v := .pt 102 6) rfl (oy rfl rfl rfl (not_f rfl) (of_eff (s_field_pt rfl Tryd.underlying29 rfl ti3 rfl rfl rfl) rfl)) ?_
  refine rg_put (d := 83) (v := .d (.fl (.int .i64 X0.owed))) rfl (oy rfl rfl rfl (not_f rfl) (op_load_pt rfl Tryd.underlying3 rfl rfl rfl rfl rfl)) ?_
  refine rg_put (d := 84) (v := .d (.fl (.bool (X0.owed != 500)))) rfl (oy rfl rfl rfl (not_f rfl) (op_bin rfl rfl rfl (b_neq _ _ _ _) rfl)) ?_
  refine rg_put (d := 85) (v := .d (.fl (.bool (X0.owed != 500)))) rfl (og rfl (op_pick rfl rfl (by rw [(not_f rfl)]; rfl) rfl)) ?_
  refine rg_put (d := 86) (v := .d (.fl (.bool (X0.owed != 500)))) rfl (og rfl (op_move rfl rfl rfl)) ?_
  refine rg_put (d := 87) (v := .pt 102 5) rfl (oy rfl rfl rfl rfl (of_eff (s_field_pt rfl Tryd.underlying29 rfl ti3 rfl rfl rfl) rfl)) ?_
  refine rg_put (d := 88) (v := .d (.fl (.int .i64 X0.stage))) rfl (oy rfl rfl rfl rfl (op_load_pt rfl Tryd.underlying3 rfl rfl rfl rfl rfl)) ?_
  refine rg_put (d := 89) (v := .d (.fl (.bool (X0.stage != 1)))) rfl (oy rfl rfl rfl rfl (op_bin rfl rfl rfl (b_neq _ _ _ _) rfl)) ?_
  refine rg_put (d := 90) (v := .d (.fl (.bool (X0.stage != 1)))) rfl (og rfl (op_pick rfl rfl rfl rfl)) ?_
  refine rg_put (d := 91) (v := .d (.fl (.bool (X0.stage != 1)))) rfl (og rfl (op_move rfl rfl rfl)) ?_
  refine rg_put (d := 92) (v := .pt 102 0) rfl (oy rfl rfl rfl rfl (of_eff (s_field_pt rfl Tryd.underlying29 rfl ti9 rfl rfl rfl) rfl)) ?_
  refine rg_put (d := 93) (v := .d (.fl (.string X0.id))) rfl (oy rfl rfl rfl rfl (op_load_pt rfl Tryd.underlying9 rfl rfl rfl rfl rfl)) ?_
  refine rg_put (d := 94) (v := .d (.fl (.bool ((!(sEq X0.id (⟨#[118, 49]⟩))))))) rfl (oy rfl rfl rfl rfl (op_bin rfl rfl rfl (b_sne _ _ _) rfl)) ?_
  refine rg_put (d := 95) (v := .d (.fl (.bool ((!(sEq X0.id (⟨#[118, 49]⟩))))))) rfl (og rfl (op_pick rfl rfl rfl rfl)) ?_
  refine rg_done rfl ?_
  refine a_condF rfl (not_f rfl) ?_
  refine a_skip ?_
  show A _ _ _ _ _ _ _
  refine a_rseq ?_
  refine rg_put (d := 97) (v := .d (.ag (eCs X7))) rfl (og rfl (of_eff (s_load_pts rfl Tryd.underlying29 rfl ti29 rfl rfl rfl rfl) rfl)) ?_
  refine rg_put (d := 98) (v := .tu [.ag (eCs XP), .fl (.int .i64 0), .fl (.int .i64 0)]) rfl (og rfl (op_call rfl Tryd.func23 nm23 rfl (.cons rfl (.d _) (.cons rfl (.d _) .nil)) u8 rfl)) ?_
  refine rg_put (d := 96) (v := .tu [.ag (eCs XP), .fl (.int .i64 0), .fl (.int .i64 0)]) rfl (og rfl (op_move rfl rfl rfl)) ?_
  refine rg_put (d := 99) (v := .d (.ag (eCs XP))) rfl (og rfl (op_extract rfl rfl rfl rfl)) ?_
  refine rg_put (d := 100) (v := .d (.fl (.int .i64 0))) rfl (og rfl (op_extract rfl rfl rfl rfl)) ?_
  refine rg_put (d := 101) (v := .d (.fl (.int .i64 0))) rfl (og rfl (op_extract rfl rfl rfl rfl)) ?_
  refine rg_nam (d := 12) (v := .pt 106 0) (m := 106) (nw := [(106, .bx 29 ([.fl (.string (⟨#[]⟩)), .fl (.string (⟨#[]⟩)), .fl (.string (⟨#[]⟩)), .fl (.int .i64 0), .fl (.int .i64 0), .fl (.int .i64 0), .fl (.int .i64 0), .fl (.int .i64 0), .fl (.int .i64 0), .fl (.int .i64 0), .fl (.int .i64 0), .fl (.int .i64 0)]))]) rfl (og rfl (of_eff (s_alloc 106 rfl ti29 (by kernel_rfl) rfl) rfl)) rfl ?_
  refine rg_sto (nw := [(106, .bx 29 (eCs XP))]) rfl (og rfl (of_eff (s_store rfl rfl ti29 rfl rfl rfl rfl rfl rfl) rfl)) ?_
  refine rg_put (d := 13) (v := .d (.fl (.int .i64 0))) rfl (og rfl (op_assign rfl rfl rfl)) ?_
  refine rg_put (d := 14) (v := .d (.fl (.int .i64 0))) rfl (og rfl (op_assign rfl rfl rfl)) ?_
  refine rg_done rfl ?_
  refine a_rseq ?_
  refine rg_put (d := 103) (v := .d (.ag (eCs XP))) rfl (og rfl (of_eff (s_load_pts rfl Tryd.underlying29 rfl ti29 rfl rfl rfl rfl) rfl)) ?_
  refine rg_put (d := 104) (v := .tu [.ag (eCs XQ), .fl (.int .i64 100), .fl (.int .i64 0)]) rfl (og rfl (op_call rfl Tryd.func23 nm23 rfl (.cons rfl (.d _) (.cons rfl (.d _) .nil)) u9 rfl)) ?_
  refine rg_put (d := 102) (v := .tu [.ag (eCs XQ), .fl (.int .i64 100), .fl (.int .i64 0)]) rfl (og rfl (op_move rfl rfl rfl)) ?_
  refine rg_put (d := 105) (v := .d (.ag (eCs XQ))) rfl (og rfl (op_extract rfl rfl rfl rfl)) ?_
  refine rg_put (d := 106) (v := .d (.fl (.int .i64 100))) rfl (og rfl (op_extract rfl rfl rfl rfl)) ?_
  refine rg_put (d := 107) (v := .d (.fl (.int .i64 0))) rfl (og rfl (op_extract rfl rfl rfl rfl)) ?_
  refine rg_nam (d := 15) (v := .pt 107 0) (m := 107) (nw := [(107, .bx 29 ([.fl (.string (⟨#[]⟩)), .fl (.string (⟨#[]⟩)), .fl (.string (⟨#[]⟩)), .fl (.int .i64 0), .fl (.int .i64 0), .fl (.int .i64 0), .fl (.int .i64 0), .fl (.int .i64 0), .fl (.int .i64 0), .fl (.int .i64 0), .fl (.int .i64 0), .fl (.int .i64 0)]))]) rfl (og rfl (of_eff (s_alloc 107 rfl ti29 (by kernel_rfl) rfl) rfl)) rfl ?_
  refine rg_sto (nw := [(107, .bx 29 (eCs XQ))]) rfl (og rfl (of_eff (s_store rfl rfl ti29 rfl rfl rfl rfl rfl rfl) rfl)) ?_
  refine rg_put (d := 16) (v := .d (.fl (.int .i64 100))) rfl (og rfl (op_assign rfl rfl rfl)) ?_
  refine rg_put (d := 17) (v := .d (.fl (.int .i64 0))) rfl (og rfl (op_assign rfl rfl rfl)) ?_
  refine rg_done rfl ?_
  refine a_rseq ?_
  refine rg_put (d := 109) (v := .d (.ag (eCs XQ))) rfl (og rfl (of_eff (s_load_pts rfl Tryd.underlying29 rfl ti29 rfl rfl rfl rfl) rfl)) ?_
  refine rg_put (d := 110) (v := .tu [.ag (eCs XQ), .fl (.int .i64 28)]) rfl (og rfl (op_call rfl Tryd.func25 nm25 rfl (.cons rfl (.d _) .nil) u10 rfl)) ?_
  refine rg_put (d := 108) (v := .tu [.ag (eCs XQ), .fl (.int .i64 28)]) rfl (og rfl (op_move rfl rfl rfl)) ?_
  refine rg_put (d := 111) (v := .d (.ag (eCs XQ))) rfl (og rfl (op_extract rfl rfl rfl rfl)) ?_
  refine rg_put (d := 112) (v := .d (.fl (.int .i64 28))) rfl (og rfl (op_extract rfl rfl rfl rfl)) ?_
  refine rg_nam (d := 18) (v := .pt 108 0) (m := 108) (nw := [(108, .bx 29 ([.fl (.string (⟨#[]⟩)), .fl (.string (⟨#[]⟩)), .fl (.string (⟨#[]⟩)), .fl (.int .i64 0), .fl (.int .i64 0), .fl (.int .i64 0), .fl (.int .i64 0), .fl (.int .i64 0), .fl (.int .i64 0), .fl (.int .i64 0), .fl (.int .i64 0), .fl (.int .i64 0)]))]) rfl (og rfl (of_eff (s_alloc 108 rfl ti29 (by kernel_rfl) rfl) rfl)) rfl ?_
  refine rg_sto (nw := [(108, .bx 29 (eCs XQ))]) rfl (og rfl (of_eff (s_store rfl rfl ti29 rfl rfl rfl rfl rfl rfl) rfl)) ?_
  refine rg_put (d := 19) (v := .d (.fl (.int .i64 28))) rfl (og rfl (op_assign rfl rfl rfl)) ?_
  refine rg_done rfl ?_
  refine a_seq ?_
  refine a_rseq ?_
  refine rg_put (d := 113) (v := .pt 103 5) rfl (og rfl (of_eff (s_field_pt rfl Tryd.underlying29 rfl ti3 rfl rfl rfl) rfl)) ?_
  refine rg_put (d := 114) (v := .d (.fl (.int .i64 X7.stage))) rfl (og rfl (op_load_pt rfl Tryd.underlying3 rfl rfl rfl rfl rfl)) ?_
  refine rg_put (d := 115) (v := .d (.fl (.bool (X7.stage != 2)))) rfl (og rfl (op_bin rfl rfl rfl (b_neq _ _ _ _) rfl)) ?_
  refine rg_put (d := 116) (v := .d (.fl (.bool (X7.stage != 2)))) rfl (og rfl (op_move rfl rfl rfl)) ?_
  refine rg_put (d := 117) (v := .pt 103 4) rfl (oy rfl rfl rfl rfl (of_eff (s_field_pt rfl Tryd.underlying29 rfl ti3 rfl rfl rfl) rfl)) ?_
  refine rg_put (d := 118) (v := .d (.fl (.int .i64 X7.since))) rfl (oy rfl rfl rfl rfl (op_load_pt rfl Tryd.underlying3 rfl rfl rfl rfl rfl)) ?_
  refine rg_put (d := 119) (v := .d (.fl (.bool (X7.since != 7)))) rfl (oy rfl rfl rfl rfl (op_bin rfl rfl rfl (b_neq _ _ _ _) rfl)) ?_
  refine rg_put (d := 120) (v := .d (.fl (.bool (X7.since != 7)))) rfl (og rfl (op_pick rfl rfl rfl rfl)) ?_
  refine rg_put (d := 121) (v := .d (.fl (.bool (X7.since != 7)))) rfl (og rfl (op_move rfl rfl rfl)) ?_
  refine rg_put (d := 122) (v := .pt 103 6) rfl (oy rfl rfl rfl rfl (of_eff (s_field_pt rfl Tryd.underlying29 rfl ti3 rfl rfl rfl) rfl)) ?_
  refine rg_put (d := 123) (v := .d (.fl (.int .i64 X7.owed))) rfl (oy rfl rfl rfl rfl (op_load_pt rfl Tryd.underlying3 rfl rfl rfl rfl rfl)) ?_
  refine rg_put (d := 124) (v := .d (.fl (.bool (X7.owed != 600)))) rfl (oy rfl rfl rfl rfl (op_bin rfl rfl rfl (b_neq _ _ _ _) rfl)) ?_
  refine rg_put (d := 125) (v := .d (.fl (.bool (X7.owed != 600)))) rfl (og rfl (op_pick rfl rfl rfl rfl)) ?_
  refine rg_put (d := 126) (v := .d (.fl (.bool (X7.owed != 600)))) rfl (og rfl (op_move rfl rfl rfl)) ?_
  refine rg_put (d := 127) (v := .pt 104 5) rfl (oy rfl rfl rfl rfl (of_eff (s_field_pt rfl Tryd.underlying29 rfl ti3 rfl rfl rfl) rfl)) ?_
  refine rg_put (d := 128) (v := .d (.fl (.int .i64 XC.stage))) rfl (oy rfl rfl rfl rfl (op_load_pt rfl Tryd.underlying3 rfl rfl rfl rfl rfl)) ?_
  refine rg_put (d := 129) (v := .d (.fl (.bool (XC.stage != 5)))) rfl (oy rfl rfl rfl rfl (op_bin rfl rfl rfl (b_neq _ _ _ _) rfl)) ?_
  refine rg_put (d := 130) (v := .d (.fl (.bool (XC.stage != 5)))) rfl (og rfl (op_pick rfl rfl rfl rfl)) ?_
  refine rg_put (d := 131) (v := .d (.fl (.bool (XC.stage != 5)))) rfl (og rfl (op_move rfl rfl rfl)) ?_
  refine rg_put (d := 132) (v := .pt 104 4) rfl (oy rfl rfl rfl rfl (of_eff (s_field_pt rfl Tryd.underlying29 rfl ti3 rfl rfl rfl) rfl)) ?_
  refine rg_put (d := 133) (v := .d (.fl (.int .i64 XC.since))) rfl (oy rfl rfl rfl rfl (op_load_pt rfl Tryd.underlying3 rfl rfl rfl rfl rfl)) ?_
  refine rg_put (d := 134) (v := .d (.fl (.bool (XC.since != 63)))) rfl (oy rfl rfl rfl rfl (op_bin rfl rfl rfl (b_neq _ _ _ _) rfl)) ?_
  refine rg_put (d := 135) (v := .d (.fl (.bool (XC.since != 63)))) rfl (og rfl (op_pick rfl rfl rfl rfl)) ?_
  refine rg_put (d := 136) (v := .d (.fl (.bool (XC.since != 63)))) rfl (og rfl (op_move rfl rfl rfl)) ?_
  refine rg_put (d := 137) (v := .pt 104 6) rfl (oy rfl rfl rfl rfl (of_eff (s_field_pt rfl Tryd.underlying29 rfl ti3 rfl rfl rfl) rfl)) ?_
  refine rg_put (d := 138) (v := .d (.fl (.int .i64 XC.owed))) rfl (oy rfl rfl rfl rfl (op_load_pt rfl Tryd.underlying3 rfl rfl rfl rfl rfl)) ?_
  refine rg_put (d := 139) (v := .d (.fl (.bool (XC.owed != 2100)))) rfl (oy rfl rfl rfl rfl (op_bin rfl rfl rfl (b_neq _ _ _ _) rfl)) ?_
  refine rg_put (d := 140) (v := .d (.fl (.bool (XC.owed != 2100)))) rfl (og rfl (op_pick rfl rfl rfl rfl)) ?_
  refine rg_put (d := 141) (v := .d (.fl (.bool (XC.owed != 2100)))) rfl (og rfl (op_move rfl rfl rfl)) ?_
  refine rg_put (d := 142) (v := .d (.fl (.int .i64 0))) rfl (oy rfl rfl rfl rfl (op_move rfl rfl rfl)) ?_
  refine rg_put (d := 143) (v := .d (.fl (.bool (0 != 0)))) rfl (oy rfl rfl rfl rfl (op_bin rfl rfl rfl (b_neq _ _ _ _) rfl)) ?_
  refine rg_put (d := 144) (v := .d (.fl (.bool (0 != 0)))) rfl (og rfl (op_pick rfl rfl rfl rfl)) ?_
  refine rg_put (d := 145) (v := .d (.fl (.bool (0 != 0)))) rfl (og rfl (op_move rfl rfl rfl)) ?_
  refine rg_put (d := 146) (v := .d (.fl (.int .i64 0))) rfl (oy rfl rfl rfl rfl (op_move rfl rfl rfl)) ?_
  refine rg_put (d := 147) (v := .d (.fl (.bool (0 != 0)))) rfl (oy rfl rfl rfl rfl (op_bin rfl rfl rfl (b_neq _ _ _ _) rfl)) ?_
  refine rg_put (d := 148) (v := .d (.fl (.bool (0 != 0)))) rfl (og rfl (op_pick rfl rfl rfl rfl)) ?_
  refine rg_put (d := 149) (v := .d (.fl (.bool (0 != 0)))) rfl (og rfl (op_move rfl rfl rfl)) ?_
  refine rg_put (d := 150) (v := .pt 106 7) rfl (oy rfl rfl rfl rfl (of_eff (s_field_pt rfl Tryd.underlying29 rfl ti3 rfl rfl rfl) rfl)) ?_
  refine rg_put (d := 151) (v := .d (.fl (.int .i64 XP.paid))) rfl (oy rfl rfl rfl rfl (op_load_pt rfl Tryd.underlying3 rfl rfl rfl rfl rfl)) ?_
  refine rg_put (d := 152) (v := .d (.fl (.bool (XP.paid != 200)))) rfl (oy rfl rfl rfl rfl (op_bin rfl rfl rfl (b_neq _ _ _ _) rfl)) ?_
  refine rg_put (d := 153) (v := .d (.fl (.bool (XP.paid != 200)))) rfl (og rfl (op_pick rfl rfl rfl rfl)) ?_
  refine rg_put (d := 154) (v := .d (.fl (.bool (XP.paid != 200)))) rfl (og rfl (op_move rfl rfl rfl)) ?_
  refine rg_put (d := 155) (v := .pt 106 5) rfl (oy rfl rfl rfl rfl (of_eff (s_field_pt rfl Tryd.underlying29 rfl ti3 rfl rfl rfl) rfl)) ?_
  refine rg_put (d := 156) (v := .d (.fl (.int .i64 XP.stage))) rfl (oy rfl rfl rfl rfl (op_load_pt rfl Tryd.underlying3 rfl rfl rfl rfl rfl)) ?_
  refine rg_put (d := 157) (v := .d (.fl (.bool (XP.stage != 2)))) rfl (oy rfl rfl rfl rfl (op_bin rfl rfl rfl (b_neq _ _ _ _) rfl)) ?_
  refine rg_put (d := 158) (v := .d (.fl (.bool (XP.stage != 2)))) rfl (og rfl (op_pick rfl rfl rfl rfl)) ?_
  refine rg_done rfl ?_
  refine a_condF rfl rfl ?_
  refine a_skip ?_
  show A _ _ _ _ _ _ _
  refine a_rseq ?_
  refine rg_put (d := 159) (v := .d (.fl (.int .i64 0))) rfl (og rfl (op_move rfl rfl rfl)) ?_
  refine rg_put (d := 160) (v := .d (.fl (.bool (0 == 0)))) rfl (og rfl (op_bin rfl rfl rfl (b_eql _ _ _ _) rfl)) ?_
  refine rg_put (d := 161) (v := .d (.fl (.bool (0 == 0)))) rfl (og rfl (op_move rfl rfl rfl)) ?_
  refine rg_put (d := 162) (v := .d (.fl (.int .i64 100))) rfl (oy rfl rfl rfl rfl (op_move rfl rfl rfl)) ?_
  refine rg_put (d := 163) (v := .d (.fl (.bool (100 == 100)))) rfl (oy rfl rfl rfl rfl (op_bin rfl rfl rfl (b_eql _ _ _ _) rfl)) ?_
  refine rg_put (d := 164) (v := .d (.fl (.bool (100 == 100)))) rfl (og rfl (op_pick rfl rfl rfl rfl)) ?_
  refine rg_put (d := 165) (v := .d (.fl (.bool (100 == 100)))) rfl (og rfl (op_move rfl rfl rfl)) ?_
  refine rg_put (d := 166) (v := .pt 107 5) rfl (oy rfl rfl rfl rfl (of_eff (s_field_pt rfl Tryd.underlying29 rfl ti3 rfl rfl rfl) rfl)) ?_
  refine rg_put (d := 167) (v := .d (.fl (.int .i64 XQ.stage))) rfl (oy rfl rfl rfl rfl (op_load_pt rfl Tryd.underlying3 rfl rfl rfl rfl rfl)) ?_
  refine rg_put (d := 168) (v := .d (.fl (.bool (XQ.stage == 6)))) rfl (oy rfl rfl rfl rfl (op_bin rfl rfl rfl (b_eql _ _ _ _) rfl)) ?_
  refine rg_put (d := 169) (v := .d (.fl (.bool (XQ.stage == 6)))) rfl (og rfl (op_pick rfl rfl rfl rfl)) ?_
  refine rg_put (d := 170) (v := .d (.fl (.bool (XQ.stage == 6)))) rfl (og rfl (op_move rfl rfl rfl)) ?_
  refine rg_put (d := 171) (v := .pt 107 7) rfl (oy rfl rfl rfl rfl (of_eff (s_field_pt rfl Tryd.underlying29 rfl ti3 rfl rfl rfl) rfl)) ?_
  refine rg_put (d := 172) (v := .d (.fl (.int .i64 XQ.paid))) rfl (oy rfl rfl rfl rfl (op_load_pt rfl Tryd.underlying3 rfl rfl rfl rfl rfl)) ?_
  refine rg_put (d := 173) (v := .d (.fl (.bool (XQ.paid == 600)))) rfl (oy rfl rfl rfl rfl (op_bin rfl rfl rfl (b_eql _ _ _ _) rfl)) ?_
  refine rg_put (d := 174) (v := .d (.fl (.bool (XQ.paid == 600)))) rfl (og rfl (op_pick rfl rfl rfl rfl)) ?_
  refine rg_put (d := 175) (v := .d (.fl (.bool (XQ.paid == 600)))) rfl (og rfl (op_move rfl rfl rfl)) ?_
  refine rg_put (d := 176) (v := .d (.fl (.int .i64 28))) rfl (oy rfl rfl rfl rfl (op_move rfl rfl rfl)) ?_
  refine rg_put (d := 177) (v := .d (.fl (.bool (28 == 28)))) rfl (oy rfl rfl rfl rfl (op_bin rfl rfl rfl (b_eql _ _ _ _) rfl)) ?_
  refine rg_put (d := 178) (v := .d (.fl (.bool (28 == 28)))) rfl (og rfl (op_pick rfl rfl rfl rfl)) ?_
  refine rg_put (d := 179) (v := .d (.fl (.bool (28 == 28)))) rfl (og rfl (op_move rfl rfl rfl)) ?_
  refine rg_put (d := 180) (v := .d (.ag (eCs XQ))) rfl (oy rfl rfl rfl rfl (of_eff (s_load_pts rfl Tryd.underlying29 rfl ti29 rfl rfl rfl rfl) rfl)) ?_
  refine rg_put (d := 181) (v := .d (.fl (.bool false))) rfl (oy rfl rfl rfl rfl (op_call rfl Tryd.func21 nm21 rfl (.cons rfl (.d _) .nil) u11 rfl)) ?_
  refine rg_put (d := 182) (v := .d (.fl (.bool (!false)))) rfl (oy rfl rfl rfl rfl (op_un rfl rfl (u_not _) rfl)) ?_
  refine rg_put (d := 183) (v := .d (.fl (.bool (!false)))) rfl (og rfl (op_pick rfl rfl rfl rfl)) ?_
  refine rg_put (d := 0) (v := .d (.fl (.bool (!false)))) rfl (og rfl (op_assign rfl rfl rfl)) ?_
  refine rg_done rfl ?_
  refine a_ret ?_
  show ∃ ds, ResL _ _ _ ds ∧ RV.of ds = _
  refine ⟨[.fl (.bool (!false))], (.cons (.tmp rfl (.d _)) .nil), ?_⟩
  rfl
end Go.Proofs.YtadaenpkmkjkjaaDoor.Wk
