/- The program is awake. No condition. -/
import Derived.Test.YtfkipmdaffhkbaaB8
set_option linter.unusedSimpArgs false
set_option linter.unusedVariables false
namespace Go.Proofs.Ytfkipmdaffhkbaa.Wk
open Go Go.RowKit Go.Proofs.Ytfkipmdaffhkbaa.Av
abbrev IM0 : Im := Im.mk ⟨#[97]⟩ 5 2 [⟨#[120]⟩] 258
abbrev P0 : Pk := Pk.mk ⟨#[118, 49]⟩ [] []
abbrev P1 : Pk := Pk.mk ⟨#[118, 49]⟩ [IM0] [3825325742477316376]
abbrev P2 : Pk := Pk.mk ⟨#[118, 49]⟩ [IM0] [3825325742477316377]
abbrev WN : List Int := [2, 97, 10, 4, 2, 2, 120, 0, 0, 0, 0, 0, 0, 1, 2]
theorem q1 : bld ⟨#[118, 49]⟩ [] = (P0, 0) := by kernel_rfl
theorem q2 : bld ⟨#[118, 32, 49]⟩ [] = (zPk, 5) := by kernel_rfl
theorem q3 : add P0 IM0 = (P1, 0) := by kernel_rfl
theorem q4 : add P1 IM0 = (P1, 9) := by kernel_rfl
theorem q5 : add P2 IM0 = (P2, 8) := by kernel_rfl
theorem q6 : dgI IM0 = 17061783017978193961 := by kernel_rfl
theorem q7 : dsc IM0 = WN := by kernel_rfl
theorem q8 : hsh [118, 49] = 634738200219259176 := by kernel_rfl
theorem q9 : jn 634738200219259176 17061783017978193961 = 3825325742477316376 := by kernel_rfl
theorem q10 : lEq P1.chain (fits P1.case P1.images) = true := by kernel_rfl
theorem q11 : lEq P2.chain (fits P2.case P2.images) = false := by kernel_rfl
theorem q12 : fstD P0.images P1.images = 0 := by kernel_rfl
theorem q13 : fstD P1.images P2.images = -1 := by kernel_rfl
theorem q14 : hsh WN = 17061783017978193961 := by kernel_rfl
theorem okI : Okd IM0 := ⟨by decide, by decide, by decide, ⟨by decide, by decide⟩, ⟨by decide, by decide⟩, by decide, by decide⟩
theorem okI1 : ∀ im ∈ [IM0], Okd im := fun im h => by rw [List.mem_singleton.1 h]; exact okI
theorem okP0 : Okp P0 := ⟨by decide, by decide, by decide, (fun im h => by cases h), (fun im h => by cases h)⟩
theorem okP1 : Okp P1 := ⟨by decide, by decide, by decide, okI1, by decide⟩
theorem okP2 : Okp P2 := ⟨by decide, by decide, by decide, okI1, by decide⟩

theorem u1 : Ctr Try.prog 15 [.fl (.string ⟨#[118, 49]⟩), .sl 5 (List.map eIm ([] : List Im))] (.tu [.ag (ePk P0), .fl (.int .i64 0)]) := by
  have := build15 ⟨#[118, 49]⟩ [] (by decide) (by decide) (fun im h => by cases h)
  rw [q1] at this; exact this
theorem u2 : Ctr Try.prog 15 [.fl (.string ⟨#[118, 32, 49]⟩), .sl 5 (List.map eIm ([] : List Im))] (.tu [.ag (ePk zPk), .fl (.int .i64 5)]) := by
  have := build15 ⟨#[118, 32, 49]⟩ [] (by decide) (by decide) (fun im h => by cases h)
  rw [q2] at this; exact this
theorem u3 : Ctr Try.prog 18 [.ag (ePk P0), .ag (eIm IM0)] (.tu [.ag (ePk P1), .fl (.int .i64 0)]) := by
  have := add18 P0 IM0 okP0 okI
  rw [q3] at this; exact this
theorem u4 : Ctr Try.prog 18 [.ag (ePk P1), .ag (eIm IM0)] (.tu [.ag (ePk P1), .fl (.int .i64 9)]) := by
  have := add18 P1 IM0 okP1 okI
  rw [q4] at this; exact this
theorem u5 : Ctr Try.prog 18 [.ag (ePk P2), .ag (eIm IM0)] (.tu [.ag (ePk P2), .fl (.int .i64 8)]) := by
  have := add18 P2 IM0 okP2 okI
  rw [q5] at this; exact this
theorem u6 : Ctr Try.prog 12 [.ag (eIm IM0)] (.d (.fl (.int .u64 17061783017978193961))) := by
  have := digest12 IM0 okI
  rw [q6] at this; exact this
theorem u7 : Ctr Try.prog 29 [.ag (eIm IM0)] (.d (.sl 1 (List.map (rI .u8) WN))) := by
  have := desc29 IM0 okI
  rw [q7] at this; exact this
theorem u8 : Ctr Try.prog 25 [.sl 1 (List.map (rI .u8) [118, 49])] (.d (.fl (.int .u64 634738200219259176))) := by
  have := ref_hash [118, 49] (by decide)
  rw [q8] at this; exact this
theorem u9 : Ctr Try.prog 26 [.fl (.int .u64 634738200219259176), .fl (.int .u64 17061783017978193961)] (.d (.fl (.int .u64 3825325742477316376))) := by
  have := join26 634738200219259176 17061783017978193961 (by decide) (by decide)
  rw [q9] at this; exact this
theorem u10 : Ctr Try.prog 20 [.ag (ePk P1)] (.d (.fl (.bool true))) := by
  have := verify20 P1 okP1
  rw [q10] at this; exact this
theorem u11 : Ctr Try.prog 20 [.ag (ePk P2)] (.d (.fl (.bool false))) := by
  have := verify20 P2 okP2
  rw [q11] at this; exact this
theorem u12 : Ctr Try.prog 23 [.ag (ePk P0), .ag (ePk P1)] (.d (.fl (.int .i64 0))) := by
  have := first23 P0 P1 (by decide) (by decide) okP0.z
  rw [q12] at this; exact this
theorem u13 : Ctr Try.prog 23 [.ag (ePk P1), .ag (ePk P2)] (.d (.fl (.int .i64 (-1)))) := by
  have := first23 P1 P2 (by decide) (by decide) okP1.z
  rw [q13] at this; exact this
theorem u14 : Ctr Try.prog 25 [.sl 1 (List.map (rI .u8) WN)] (.d (.fl (.int .u64 17061783017978193961))) := by
  have := ref_hash WN (by decide)
  rw [q14] at this; exact this
theorem u15 : Ctr Try.prog 28 [.sl 1 (List.map (rI .u8) WN), .sl 1 (List.map (rI .u8) WN)] (.d (.fl (.bool true))) := by
  have := eqB28 WN WN (by decide)
  rw [lEq_refl] at this; exact this
set_option maxHeartbeats 4000000 in
set_option maxRecDepth 100000 in
theorem awake11  : Ctr Try.prog 11 [] (.d (.fl (.bool true))) := by
  refine ctr (n := 139) (rs := #[.tmp 0]) (L := []) Try.func11 rfl rfl rfl rfl rfl (fun w0 U0 => ?_)
  refine a_rseq ?_
  refine rg_put (d := 0) (v := .d (.fl (.bool false))) rfl (og rfl (op_assign rfl rfl rfl)) ?_
  refine rg_done rfl ?_
  refine a_rseq ?_
  refine rg_put (d := 15) (v := .d (.sl 1 (List.map rS ([⟨#[120]⟩])))) rfl (og rfl (of_eff (op_slices rfl Try.underlying22 ti9 rfl rfl rfl (by kernel_rfl) (xs := [.fl (.string (⟨#[120]⟩))]) rfl rfl (.cons rfl rfl (.d _) rfl rfl rfl .nil) rfl) rfl)) ?_
  refine rg_put (d := 16) (v := .d (.ag (eIm IM0))) rfl (og rfl (of_eff (op_build rfl Try.underlying25 ti25 rfl (by kernel_rfl) (by kernel_rfl) (pl := #[(0, 1), (1, 1), (2, 1), (3, 1), (4, 1)]) (by kernel_rfl) (.cons rfl rfl (.d _) rfl rfl rfl (.cons rfl rfl (.d _) rfl rfl rfl (.cons rfl rfl (.d _) rfl rfl rfl (.cons rfl rfl (.d _) rfl rfl rfl (.cons rfl rfl (.d _) rfl rfl rfl .nil))))) rfl) rfl)) ?_
  refine rg_nam (d := 1) (v := .pt 101 0) (m := 101) (nw := [(101, .bx 25 ([.fl (.string (⟨#[]⟩)), .fl (.int .i64 0), .fl (.int .i64 0), .fl (.slice none 0 0), .fl (.int .u64 0)]))]) rfl (og rfl (of_eff (s_alloc 101 rfl ti25 (by kernel_rfl) rfl) rfl)) rfl ?_
  refine rg_sto (nw := [(101, .bx 25 (eIm IM0))]) rfl (og rfl (of_eff (s_store rfl rfl ti25 rfl rfl rfl rfl rfl rfl) rfl)) ?_
  refine rg_done rfl ?_
  refine a_rseq ?_
  refine rg_put (d := 18) (v := .tu [.ag (ePk P0), .fl (.int .i64 0)]) rfl (og rfl (op_call rfl Try.func15 nm15 rfl (.cons rfl (.d _) (.cons rfl (.cv (Cv.nil _)) .nil)) u1 rfl)) ?_
  refine rg_put (d := 17) (v := .tu [.ag (ePk P0), .fl (.int .i64 0)]) rfl (og rfl (op_move rfl rfl rfl)) ?_
  refine rg_put (d := 19) (v := .d (.ag (ePk P0))) rfl (og rfl (op_extract rfl rfl rfl rfl)) ?_
  refine rg_put (d := 20) (v := .d (.fl (.int .i64 0))) rfl (og rfl (op_extract rfl rfl rfl rfl)) ?_
  refine rg_nam (d := 2) (v := .pt 102 0) (m := 102) (nw := [(102, .bx 33 ([.fl (.string (⟨#[]⟩)), .fl (.slice none 0 0), .fl (.slice none 0 0)]))]) rfl (og rfl (of_eff (s_alloc 102 rfl ti33 (by kernel_rfl) rfl) rfl)) rfl ?_
  refine rg_sto (nw := [(102, .bx 33 (ePk P0))]) rfl (og rfl (of_eff (s_store rfl rfl ti33 rfl rfl rfl rfl rfl rfl) rfl)) ?_
  refine rg_put (d := 3) (v := .d (.fl (.int .i64 0))) rfl (og rfl (op_assign rfl rfl rfl)) ?_
  refine rg_done rfl ?_
  refine a_rseq ?_
  refine rg_put (d := 22) (v := .d (.ag (ePk P0))) rfl (og rfl (of_eff (s_load_pts rfl Try.underlying33 rfl ti33 rfl rfl rfl rfl) rfl)) ?_
  refine rg_put (d := 23) (v := .d (.ag (eIm IM0))) rfl (og rfl (of_eff (s_load_pts rfl Try.underlying25 rfl ti25 rfl rfl rfl rfl) rfl)) ?_
  refine rg_put (d := 24) (v := .tu [.ag (ePk P1), .fl (.int .i64 0)]) rfl (og rfl (op_call rfl Try.func18 nm18 rfl (.cons rfl (.d _) (.cons rfl (.d _) .nil)) u3 rfl)) ?_
  refine rg_put (d := 21) (v := .tu [.ag (ePk P1), .fl (.int .i64 0)]) rfl (og rfl (op_move rfl rfl rfl)) ?_
  refine rg_put (d := 25) (v := .d (.ag (ePk P1))) rfl (og rfl (op_extract rfl rfl rfl rfl)) ?_
  refine rg_put (d := 26) (v := .d (.fl (.int .i64 0))) rfl (og rfl (op_extract rfl rfl rfl rfl)) ?_
  refine rg_nam (d := 4) (v := .pt 103 0) (m := 103) (nw := [(103, .bx 33 ([.fl (.string (⟨#[]⟩)), .fl (.slice none 0 0), .fl (.slice none 0 0)]))]) rfl (og rfl (of_eff (s_alloc 103 rfl ti33 (by kernel_rfl) rfl) rfl)) rfl ?_
  refine rg_sto (nw := [(103, .bx 33 (ePk P1))]) rfl (og rfl (of_eff (s_store rfl rfl ti33 rfl rfl rfl rfl rfl rfl) rfl)) ?_
  refine rg_put (d := 5) (v := .d (.fl (.int .i64 0))) rfl (og rfl (op_assign rfl rfl rfl)) ?_
  refine rg_done rfl ?_
  refine a_rseq ?_
  refine rg_put (d := 28) (v := .d (.ag (ePk P1))) rfl (og rfl (of_eff (s_load_pts rfl Try.underlying33 rfl ti33 rfl rfl rfl rfl) rfl)) ?_
  refine rg_put (d := 29) (v := .d (.ag (eIm IM0))) rfl (og rfl (of_eff (s_load_pts rfl Try.underlying25 rfl ti25 rfl rfl rfl rfl) rfl)) ?_
  refine rg_put (d := 30) (v := .tu [.ag (ePk P1), .fl (.int .i64 9)]) rfl (og rfl (op_call rfl Try.func18 nm18 rfl (.cons rfl (.d _) (.cons rfl (.d _) .nil)) u4 rfl)) ?_
  refine rg_put (d := 27) (v := .tu [.ag (ePk P1), .fl (.int .i64 9)]) rfl (og rfl (op_move rfl rfl rfl)) ?_
  refine rg_put (d := 31) (v := .d (.ag (ePk P1))) rfl (og rfl (op_extract rfl rfl rfl rfl)) ?_
  refine rg_put (d := 32) (v := .d (.fl (.int .i64 9))) rfl (og rfl (op_extract rfl rfl rfl rfl)) ?_
  refine rg_nam (d := 6) (v := .pt 104 0) (m := 104) (nw := [(104, .bx 33 ([.fl (.string (⟨#[]⟩)), .fl (.slice none 0 0), .fl (.slice none 0 0)]))]) rfl (og rfl (of_eff (s_alloc 104 rfl ti33 (by kernel_rfl) rfl) rfl)) rfl ?_
  refine rg_sto (nw := [(104, .bx 33 (ePk P1))]) rfl (og rfl (of_eff (s_store rfl rfl ti33 rfl rfl rfl rfl rfl rfl) rfl)) ?_
  refine rg_put (d := 7) (v := .d (.fl (.int .i64 9))) rfl (og rfl (op_assign rfl rfl rfl)) ?_
  refine rg_done rfl ?_
  refine a_rseq ?_
  refine rg_put (d := 34) (v := .tu [.ag (ePk zPk), .fl (.int .i64 5)]) rfl (og rfl (op_call rfl Try.func15 nm15 rfl (.cons rfl (.d _) (.cons rfl (.cv (Cv.nil _)) .nil)) u2 rfl)) ?_
  refine rg_put (d := 33) (v := .tu [.ag (ePk zPk), .fl (.int .i64 5)]) rfl (og rfl (op_move rfl rfl rfl)) ?_
  refine rg_put (d := 35) (v := .d (.ag (ePk zPk))) rfl (og rfl (op_extract rfl rfl rfl rfl)) ?_
  refine rg_put (d := 36) (v := .d (.fl (.int .i64 5))) rfl (og rfl (op_extract rfl rfl rfl rfl)) ?_
  refine rg_nam (d := 8) (v := .pt 105 0) (m := 105) (nw := [(105, .bx 33 ([.fl (.string (⟨#[]⟩)), .fl (.slice none 0 0), .fl (.slice none 0 0)]))]) rfl (og rfl (of_eff (s_alloc 105 rfl ti33 (by kernel_rfl) rfl) rfl)) rfl ?_
  refine rg_sto (nw := [(105, .bx 33 (ePk zPk))]) rfl (og rfl (of_eff (s_store rfl rfl ti33 rfl rfl rfl rfl rfl rfl) rfl)) ?_
  refine rg_put (d := 9) (v := .d (.fl (.int .i64 5))) rfl (og rfl (op_assign rfl rfl rfl)) ?_
  refine rg_done rfl ?_
  refine a_seq ?_
  refine a_rseq ?_
  refine rg_put (d := 37) (v := .d (.fl (.int .i64 0))) rfl (og rfl (op_move rfl rfl rfl)) ?_
  refine rg_put (d := 38) (v := .d (.fl (.bool (0 != 0)))) rfl (og rfl (op_bin rfl rfl rfl (b_neq _ _ _ _) rfl)) ?_
  refine rg_put (d := 39) (v := .d (.fl (.bool (0 != 0)))) rfl (og rfl (op_move rfl rfl rfl)) ?_
  refine rg_put (d := 40) (v := .d (.fl (.int .i64 0))) rfl (oy rfl rfl rfl rfl (op_move rfl rfl rfl)) ?_
  refine rg_put (d := 41) (v := .d (.fl (.bool (0 != 0)))) rfl (oy rfl rfl rfl rfl (op_bin rfl rfl rfl (b_neq _ _ _ _) rfl)) ?_
  refine rg_put (d := 42) (v := .d (.fl (.bool (0 != 0)))) rfl (og rfl (op_pick rfl rfl rfl rfl)) ?_
  refine rg_put (d := 43) (v := .d (.fl (.bool (0 != 0)))) rfl (og rfl (op_move rfl rfl rfl)) ?_
  refine rg_put (d := 44) (v := .d (.fl (.int .i64 9))) rfl (oy rfl rfl rfl rfl (op_move rfl rfl rfl)) ?_
  refine rg_put (d := 45) (v := .d (.fl (.bool (9 != 9)))) rfl (oy rfl rfl rfl rfl (op_bin rfl rfl rfl (b_neq _ _ _ _) rfl)) ?_
  refine rg_put (d := 46) (v := .d (.fl (.bool (9 != 9)))) rfl (og rfl (op_pick rfl rfl rfl rfl)) ?_
  refine rg_put (d := 47) (v := .d (.fl (.bool (9 != 9)))) rfl (og rfl (op_move rfl rfl rfl)) ?_
  refine rg_put (d := 48) (v := .d (.fl (.int .i64 5))) rfl (oy rfl rfl rfl rfl (op_move rfl rfl rfl)) ?_
  refine rg_put (d := 49) (v := .d (.fl (.bool (5 != 5)))) rfl (oy rfl rfl rfl rfl (op_bin rfl rfl rfl (b_neq _ _ _ _) rfl)) ?_
  refine rg_put (d := 50) (v := .d (.fl (.bool (5 != 5)))) rfl (og rfl (op_pick rfl rfl rfl rfl)) ?_
  refine rg_put (d := 51) (v := .d (.fl (.bool (5 != 5)))) rfl (og rfl (op_move rfl rfl rfl)) ?_
  refine rg_put (d := 52) (v := .pt 102 0) rfl (oy rfl rfl rfl rfl (of_eff (s_field_pt rfl Try.underlying33 rfl ti9 rfl rfl rfl) rfl)) ?_
  refine rg_put (d := 53) (v := .d (.fl (.string P0.case))) rfl (oy rfl rfl rfl rfl (op_load_pt rfl Try.underlying9 rfl rfl rfl rfl rfl)) ?_
  refine rg_put (d := 54) (v := .d (.fl (.bool ((!(sEq P0.case (⟨#[118, 49]⟩))))))) rfl (oy rfl rfl rfl rfl (op_bin rfl rfl rfl (b_sne _ _ _) rfl)) ?_
  refine rg_put (d := 55) (v := .d (.fl (.bool ((!(sEq P0.case (⟨#[118, 49]⟩))))))) rfl (og rfl (op_pick rfl rfl rfl rfl)) ?_
  refine rg_put (d := 56) (v := .d (.fl (.bool ((!(sEq P0.case (⟨#[118, 49]⟩))))))) rfl (og rfl (op_move rfl rfl rfl)) ?_
  refine rg_put (d := 57) (v := .pt 102 2) rfl (oy rfl rfl rfl rfl (of_eff (s_field_pt rfl Try.underlying33 rfl ti31 rfl rfl rfl) rfl)) ?_
  refine rg_put (d := 58) (v := .d (.sl 1 (List.map (rI .u64) P0.chain))) rfl (oy rfl rfl rfl rfl (op_load_pt rfl Try.underlying31 rfl rfl rfl rfl rfl)) ?_
  refine rg_put (d := 59) (v := .d (.fl (.int .i64 (P0.chain.length : Int)))) rfl (oy rfl rfl rfl rfl (s_len rfl Try.underlying31 rfl rfl)) ?_
  refine rg_put (d := 60) (v := .d (.fl (.bool (((P0.chain.length : Int) != 0))))) rfl (oy rfl rfl rfl rfl (op_bin rfl rfl rfl (b_neq _ _ _ _) rfl)) ?_
  refine rg_put (d := 61) (v := .d (.fl (.bool (((P0.chain.length : Int) != 0))))) rfl (og rfl (op_pick rfl rfl rfl rfl)) ?_
  refine rg_put (d := 62) (v := .d (.fl (.bool (((P0.chain.length : Int) != 0))))) rfl (og rfl (op_move rfl rfl rfl)) ?_
  refine rg_put (d := 63) (v := .pt 103 2) rfl (oy rfl rfl rfl rfl (of_eff (s_field_pt rfl Try.underlying33 rfl ti31 rfl rfl rfl) rfl)) ?_
  refine rg_put (d := 64) (v := .d (.sl 1 (List.map (rI .u64) P1.chain))) rfl (oy rfl rfl rfl rfl (op_load_pt rfl Try.underlying31 rfl rfl rfl rfl rfl)) ?_
  refine rg_put (d := 65) (v := .d (.fl (.int .i64 (P1.chain.length : Int)))) rfl (oy rfl rfl rfl rfl (s_len rfl Try.underlying31 rfl rfl)) ?_
  refine rg_put (d := 66) (v := .d (.fl (.bool (((P1.chain.length : Int) != 1))))) rfl (oy rfl rfl rfl rfl (op_bin rfl rfl rfl (b_neq _ _ _ _) rfl)) ?_
  refine rg_put (d := 67) (v := .d (.fl (.bool (((P1.chain.length : Int) != 1))))) rfl (og rfl (op_pick rfl rfl rfl rfl)) ?_
  refine rg_put (d := 68) (v := .d (.fl (.bool (((P1.chain.length : Int) != 1))))) rfl (og rfl (op_move rfl rfl rfl)) ?_
  refine rg_put (d := 69) (v := .pt 103 1) rfl (oy rfl rfl rfl rfl (of_eff (s_field_pt rfl Try.underlying33 rfl ti29 rfl rfl rfl) rfl)) ?_
  refine rg_put (d := 70) (v := .d (.sl 5 (List.map eIm P1.images))) rfl (oy rfl rfl rfl rfl (op_load_pt rfl Try.underlying29 rfl rfl rfl rfl rfl)) ?_
  refine rg_put (d := 71) (v := .d (.fl (.int .i64 (P1.images.length : Int)))) rfl (oy rfl rfl rfl rfl (s_len rfl Try.underlying29 rfl rfl)) ?_
  refine rg_put (d := 72) (v := .d (.fl (.bool (((P1.images.length : Int) != 1))))) rfl (oy rfl rfl rfl rfl (op_bin rfl rfl rfl (b_neq _ _ _ _) rfl)) ?_
  refine rg_put (d := 73) (v := .d (.fl (.bool (((P1.images.length : Int) != 1))))) rfl (og rfl (op_pick rfl rfl rfl rfl)) ?_
  refine rg_done rfl ?_
  refine a_condF rfl rfl ?_
  refine a_skip ?_
  show A _ _ _ _ _ _ _
  refine a_rseq ?_
  refine rg_put (d := 74) (v := .d (.sl 1 (List.map (rI .u8) [2, 97, 10, 4, 2, 2, 120, 0, 0, 0, 0, 0, 0, 1, 2]))) rfl (og rfl (of_eff (op_slices rfl Try.underlying48 ti5 rfl rfl rfl (by kernel_rfl) (xs := [.fl (.int .u8 2), .fl (.int .u8 97), .fl (.int .u8 10), .fl (.int .u8 4), .fl (.int .u8 2), .fl (.int .u8 2), .fl (.int .u8 120), .fl (.int .u8 0), .fl (.int .u8 0), .fl (.int .u8 0), .fl (.int .u8 0), .fl (.int .u8 0), .fl (.int .u8 0), .fl (.int .u8 1), .fl (.int .u8 2)]) rfl rfl (.cons rfl rfl (.d _) rfl rfl rfl (.cons rfl rfl (.d _) rfl rfl rfl (.cons rfl rfl (.d _) rfl rfl rfl (.cons rfl rfl (.d _) rfl rfl rfl (.cons rfl rfl (.d _) rfl rfl rfl (.cons rfl rfl (.d _) rfl rfl rfl (.cons rfl rfl (.d _) rfl rfl rfl (.cons rfl rfl (.d _) rfl rfl rfl (.cons rfl rfl (.d _) rfl rfl rfl (.cons rfl rfl (.d _) rfl rfl rfl (.cons rfl rfl (.d _) rfl rfl rfl (.cons rfl rfl (.d _) rfl rfl rfl (.cons rfl rfl (.d _) rfl rfl rfl (.cons rfl rfl (.d _) rfl rfl rfl (.cons rfl rfl (.d _) rfl rfl rfl .nil))))))))))))))) rfl) rfl)) ?_
  refine rg_put (d := 10) (v := .d (.sl 1 (List.map (rI .u8) [2, 97, 10, 4, 2, 2, 120, 0, 0, 0, 0, 0, 0, 1, 2]))) rfl (og rfl (op_assign rfl rfl rfl)) ?_
  refine rg_done rfl ?_
  refine a_rseq ?_
  refine rg_put (d := 75) (v := .d (.ag (eIm IM0))) rfl (og rfl (of_eff (s_load_pts rfl Try.underlying25 rfl ti25 rfl rfl rfl rfl) rfl)) ?_
  refine rg_put (d := 76) (v := .d (.fl (.int .u64 17061783017978193961))) rfl (og rfl (op_call rfl Try.func12 nm12 rfl (.cons rfl (.d _) .nil) u6 rfl)) ?_
  refine rg_put (d := 11) (v := .d (.fl (.int .u64 17061783017978193961))) rfl (og rfl (op_assign rfl rfl rfl)) ?_
  refine rg_done rfl ?_
  refine a_seq ?_
  refine a_dseq (by kernel_rfl) ?_
  refine dr_put (d := 77) (v := .d (.ag (eIm IM0))) rfl (og rfl (of_eff (s_load_pts rfl Try.underlying25 rfl ti25 rfl rfl rfl rfl) rfl)) ?_
  refine dr_put (d := 78) (v := .d (.sl 1 (List.map (rI .u8) WN))) rfl (og rfl (op_call rfl Try.func29 nm29 rfl (.cons rfl (.d _) .nil) u7 rfl)) ?_
  refine dr_put (d := 79) (v := .d (.sl 1 (List.map (rI .u8) [2, 97, 10, 4, 2, 2, 120, 0, 0, 0, 0, 0, 0, 1, 2]))) rfl (og rfl (op_move rfl rfl rfl)) ?_
  refine dr_put (d := 80) (v := .d (.fl (.bool true))) rfl (og rfl (op_call rfl Try.func28 nm28 rfl (.cons rfl (.d _) (.cons rfl (.d _) .nil)) u15 rfl)) ?_
  refine dr_put (d := 81) (v := .d (.fl (.bool (!true)))) rfl (og rfl (op_un rfl rfl (u_not _) rfl)) ?_
  refine dr_put (d := 82) (v := .d (.fl (.bool (!true)))) rfl (og rfl (op_move rfl rfl rfl)) ?_
  refine dr_put (d := 83) (v := .d (.fl (.int .u64 17061783017978193961))) rfl (oy rfl rfl rfl rfl (op_move rfl rfl rfl)) ?_
  refine dr_put (d := 84) (v := .d (.sl 1 (List.map (rI .u8) [2, 97, 10, 4, 2, 2, 120, 0, 0, 0, 0, 0, 0, 1, 2]))) rfl (oy rfl rfl rfl rfl (op_move rfl rfl rfl)) ?_
  refine dr_put (d := 85) (v := .d (.fl (.int .u64 17061783017978193961))) rfl (oy rfl rfl rfl rfl (op_call rfl Try.func25 nm25 rfl (.cons rfl (.d _) .nil) u14 rfl)) ?_
  refine dr_put (d := 86) (v := .d (.fl (.bool (17061783017978193961 != 17061783017978193961)))) rfl (oy rfl rfl rfl rfl (op_bin rfl rfl rfl (b_neq _ _ _ _) rfl)) ?_
  refine dr_put (d := 87) (v := .d (.fl (.bool (17061783017978193961 != 17061783017978193961)))) rfl (og rfl (op_pick rfl rfl rfl rfl)) ?_
  refine dr_put (d := 88) (v := .d (.fl (.bool (17061783017978193961 != 17061783017978193961)))) rfl (og rfl (op_move rfl rfl rfl)) ?_
  refine dr_put (d := 89) (v := .pt 103 2) rfl (oy rfl rfl rfl rfl (of_eff (s_field_pt rfl Try.underlying33 rfl ti31 rfl rfl rfl) rfl)) ?_
  refine dr_put (d := 90) (v := .d (.sl 1 (List.map (rI .u64) P1.chain))) rfl (oy rfl rfl rfl rfl (op_load_pt rfl Try.underlying31 rfl rfl rfl rfl rfl)) ?_
  refine dr_put (d := 91) (v := .el ((rI .u64 (ix P1.chain 0)))) rfl (oy rfl rfl rfl rfl (s_index rfl Try.underlying31 ti23 rfl rfl (by decide) (row_at (by decide)) rfl)) ?_
  refine dr_put (d := 92) (v := .d (.fl (.int .u64 (ix P1.chain 0)))) rfl (oy rfl rfl rfl rfl (op_load_el rfl Try.underlying23 rfl rfl rfl rfl)) ?_
  refine dr_nam (d := 93) (v := .ow 106) (m := 106) (nw := [(106, .tr 5 1 (tD (rI .u8) [118, 49]))]) rfl (oy rfl rfl rfl rfl (of_eff (of_eff (op_sliceB 106 rfl Try.underlying48 ti5 rfl rfl rfl (by kernel_rfl) (xs := [.fl (.int .u8 118), .fl (.int .u8 49)]) rfl rfl (.cons rfl rfl (.d _) rfl rfl rfl (.cons rfl rfl (.d _) rfl rfl rfl .nil)) rfl) rfl) rfl)) ?_
  refine dr_upd (d := 94) (v := .d (.sl 1 (List.map (rI .u8) [118, 49]))) (nw := [(106, .no)]) rfl (oy rfl rfl rfl rfl (op_convOwn rfl Try.underlying48 Try.underlying5 rfl rfl (by decide) rfl)) ?_
  refine dr_put (d := 95) (v := .d (.fl (.int .u64 634738200219259176))) rfl (oy rfl rfl rfl rfl (op_call rfl Try.func25 nm25 rfl (.cons rfl (.d _) .nil) u8 rfl)) ?_
  refine dr_put (d := 96) (v := .d (.fl (.int .u64 17061783017978193961))) rfl (oy rfl rfl rfl rfl (op_move rfl rfl rfl)) ?_
  refine dr_put (d := 97) (v := .d (.fl (.int .u64 3825325742477316376))) rfl (oy rfl rfl rfl rfl (op_call rfl Try.func26 nm26 rfl (.cons rfl (.d _) (.cons rfl (.d _) .nil)) u9 rfl)) ?_
  refine dr_put (d := 98) (v := .d (.fl (.bool (((ix P1.chain 0) != 3825325742477316376))))) rfl (oy rfl rfl rfl rfl (op_bin rfl rfl rfl (b_neq _ _ _ _) rfl)) ?_
  refine dr_put (d := 99) (v := .d (.fl (.bool (((ix P1.chain 0) != 3825325742477316376))))) rfl (og rfl (op_pick rfl rfl rfl rfl)) ?_
  refine dr_put (d := 100) (v := .d (.fl (.bool (((ix P1.chain 0) != 3825325742477316376))))) rfl (og rfl (op_move rfl rfl rfl)) ?_
  refine dr_put (d := 101) (v := .d (.ag (ePk P1))) rfl (oy rfl rfl rfl rfl (of_eff (s_load_pts rfl Try.underlying33 rfl ti33 rfl rfl rfl rfl) rfl)) ?_
  refine dr_put (d := 102) (v := .d (.fl (.bool true))) rfl (oy rfl rfl rfl rfl (op_call rfl Try.func20 nm20 rfl (.cons rfl (.d _) .nil) u10 rfl)) ?_
  refine dr_put (d := 103) (v := .d (.fl (.bool (!true)))) rfl (oy rfl rfl rfl rfl (op_un rfl rfl (u_not _) rfl)) ?_
  refine dr_put (d := 104) (v := .d (.fl (.bool (!true)))) rfl (og rfl (op_pick rfl rfl rfl rfl)) ?_
  refine dr_done rfl (sepB_of [0, 1, 0, 7, 15, 31, 63, 63, 191, 511, 1023, 2047, 4095, 8191, 16383, 32767, 4095, 69631, 200703, 4095, 987135, 2097151, 4194303, 8388607, 16777215, 33554431, 67108863, 134217727] (by kernel_rfl)) (by kernel_rfl) ?_
  refine a_condF rfl rfl ?_
  refine a_skip ?_
  show A _ _ _ _ _ _ _
  refine a_dseq (by kernel_rfl) ?_
  refine dr_put (d := 105) (v := .pt 103 1) rfl (og rfl (of_eff (s_field_pt rfl Try.underlying33 rfl ti29 rfl rfl rfl) rfl)) ?_
  refine dr_put (d := 106) (v := .d (.sl 5 (List.map eIm P1.images))) rfl (og rfl (op_load_pt rfl Try.underlying29 rfl rfl rfl rfl rfl)) ?_
  refine dr_put (d := 107) (v := .pt 103 2) rfl (og rfl (of_eff (s_field_pt rfl Try.underlying33 rfl ti31 rfl rfl rfl) rfl)) ?_
  refine dr_put (d := 108) (v := .d (.sl 1 (List.map (rI .u64) P1.chain))) rfl (og rfl (op_load_pt rfl Try.underlying31 rfl rfl rfl rfl rfl)) ?_
  refine dr_put (d := 109) (v := .el ((rI .u64 (ix P1.chain 0)))) rfl (og rfl (s_index rfl Try.underlying31 ti23 rfl rfl (by decide) (row_at (by decide)) rfl)) ?_
  refine dr_put (d := 110) (v := .d (.fl (.int .u64 (ix P1.chain 0)))) rfl (og rfl (op_load_el rfl Try.underlying23 rfl rfl rfl rfl)) ?_
  refine dr_put (d := 111) (v := .d (.fl (.int .u64 ((IntKind.u64.wrap ((ix P1.chain 0) + 1)))))) rfl (og rfl (op_bin rfl rfl rfl (b_add _ _ _ _) rfl)) ?_
  rw [show (IntKind.u64.wrap ((ix P1.chain 0) + 1)) = 3825325742477316377 from by decide]
  refine dr_put (d := 112) (v := .d (.sl 1 (List.map (rI .u64) [3825325742477316377]))) rfl (og rfl (of_eff (op_slices rfl Try.underlying31 ti23 rfl rfl rfl (by kernel_rfl) (xs := [.fl (.int .u64 3825325742477316377)]) rfl rfl (.cons rfl rfl (.d _) rfl rfl rfl .nil) rfl) rfl)) ?_
  refine dr_put (d := 113) (v := .d (.ag (ePk P2))) rfl (og rfl (of_eff (op_build rfl Try.underlying33 ti33 rfl (by kernel_rfl) (by kernel_rfl) (pl := #[(0, 1), (1, 1), (2, 1)]) (by kernel_rfl) (.cons rfl rfl (.d _) rfl rfl rfl (.cons rfl rfl (.d _) rfl rfl rfl (.cons rfl rfl (.d _) rfl rfl rfl .nil))) rfl) rfl)) ?_
  refine dr_nam (d := 12) (v := .pt 107 0) (m := 107) (nw := [(107, .bx 33 ([.fl (.string (⟨#[]⟩)), .fl (.slice none 0 0), .fl (.slice none 0 0)]))]) rfl (og rfl (of_eff (s_alloc 107 rfl ti33 (by kernel_rfl) rfl) rfl)) ?_
  refine dr_sto (nw := [(107, .bx 33 (ePk P2))]) rfl (og rfl (of_eff (s_store rfl rfl ti33 rfl rfl rfl rfl rfl rfl) rfl)) ?_
  refine dr_done rfl (by kernel_rfl) (by kernel_rfl) ?_
  refine a_rseq ?_
  refine rg_put (d := 115) (v := .d (.ag (ePk P2))) rfl (og rfl (of_eff (s_load_pts rfl Try.underlying33 rfl ti33 rfl rfl rfl rfl) rfl)) ?_
  refine rg_put (d := 116) (v := .d (.ag (eIm IM0))) rfl (og rfl (of_eff (s_load_pts rfl Try.underlying25 rfl ti25 rfl rfl rfl rfl) rfl)) ?_
  refine rg_put (d := 117) (v := .tu [.ag (ePk P2), .fl (.int .i64 8)]) rfl (og rfl (op_call rfl Try.func18 nm18 rfl (.cons rfl (.d _) (.cons rfl (.d _) .nil)) u5 rfl)) ?_
  refine rg_put (d := 114) (v := .tu [.ag (ePk P2), .fl (.int .i64 8)]) rfl (og rfl (op_move rfl rfl rfl)) ?_
  refine rg_put (d := 118) (v := .d (.ag (ePk P2))) rfl (og rfl (op_extract rfl rfl rfl rfl)) ?_
  refine rg_put (d := 119) (v := .d (.fl (.int .i64 8))) rfl (og rfl (op_extract rfl rfl rfl rfl)) ?_
  refine rg_nam (d := 13) (v := .pt 108 0) (m := 108) (nw := [(108, .bx 33 ([.fl (.string (⟨#[]⟩)), .fl (.slice none 0 0), .fl (.slice none 0 0)]))]) rfl (og rfl (of_eff (s_alloc 108 rfl ti33 (by kernel_rfl) rfl) rfl)) rfl ?_
  refine rg_sto (nw := [(108, .bx 33 (ePk P2))]) rfl (og rfl (of_eff (s_store rfl rfl ti33 rfl rfl rfl rfl rfl rfl) rfl)) ?_
  refine rg_put (d := 14) (v := .d (.fl (.int .i64 8))) rfl (og rfl (op_assign rfl rfl rfl)) ?_
  refine rg_done rfl ?_
  refine a_rseq ?_
  refine rg_put (d := 120) (v := .d (.ag (ePk P2))) rfl (og rfl (of_eff (s_load_pts rfl Try.underlying33 rfl ti33 rfl rfl rfl rfl) rfl)) ?_
  refine rg_put (d := 121) (v := .d (.fl (.bool false))) rfl (og rfl (op_call rfl Try.func20 nm20 rfl (.cons rfl (.d _) .nil) u11 rfl)) ?_
  refine rg_put (d := 122) (v := .d (.fl (.bool (!false)))) rfl (og rfl (op_un rfl rfl (u_not _) rfl)) ?_
  refine rg_put (d := 123) (v := .d (.fl (.bool (!false)))) rfl (og rfl (op_move rfl rfl rfl)) ?_
  refine rg_put (d := 124) (v := .d (.fl (.int .i64 8))) rfl (oy rfl rfl rfl rfl (op_move rfl rfl rfl)) ?_
  refine rg_put (d := 125) (v := .d (.fl (.bool (8 == 8)))) rfl (oy rfl rfl rfl rfl (op_bin rfl rfl rfl (b_eql _ _ _ _) rfl)) ?_
  refine rg_put (d := 126) (v := .d (.fl (.bool (8 == 8)))) rfl (og rfl (op_pick rfl rfl rfl rfl)) ?_
  refine rg_put (d := 127) (v := .d (.fl (.bool (8 == 8)))) rfl (og rfl (op_move rfl rfl rfl)) ?_
  refine rg_put (d := 128) (v := .d (.ag (ePk P0))) rfl (oy rfl rfl rfl rfl (of_eff (s_load_pts rfl Try.underlying33 rfl ti33 rfl rfl rfl rfl) rfl)) ?_
  refine rg_put (d := 129) (v := .d (.ag (ePk P1))) rfl (oy rfl rfl rfl rfl (of_eff (s_load_pts rfl Try.underlying33 rfl ti33 rfl rfl rfl rfl) rfl)) ?_
  refine rg_put (d := 130) (v := .d (.fl (.int .i64 0))) rfl (oy rfl rfl rfl rfl (op_call rfl Try.func23 nm23 rfl (.cons rfl (.d _) (.cons rfl (.d _) .nil)) u12 rfl)) ?_
  refine rg_put (d := 131) (v := .d (.fl (.bool (0 == 0)))) rfl (oy rfl rfl rfl rfl (op_bin rfl rfl rfl (b_eql _ _ _ _) rfl)) ?_
  refine rg_put (d := 132) (v := .d (.fl (.bool (0 == 0)))) rfl (og rfl (op_pick rfl rfl rfl rfl)) ?_
  refine rg_put (d := 133) (v := .d (.fl (.bool (0 == 0)))) rfl (og rfl (op_move rfl rfl rfl)) ?_
  refine rg_put (d := 134) (v := .d (.ag (ePk P1))) rfl (oy rfl rfl rfl rfl (of_eff (s_load_pts rfl Try.underlying33 rfl ti33 rfl rfl rfl rfl) rfl)) ?_
  refine rg_put (d := 135) (v := .d (.ag (ePk P2))) rfl (oy rfl rfl rfl rfl (of_eff (s_load_pts rfl Try.underlying33 rfl ti33 rfl rfl rfl rfl) rfl)) ?_
  refine rg_put (d := 136) (v := .d (.fl (.int .i64 (-1)))) rfl (oy rfl rfl rfl rfl (op_call rfl Try.func23 nm23 rfl (.cons rfl (.d _) (.cons rfl (.d _) .nil)) u13 rfl)) ?_
  refine rg_put (d := 137) (v := .d (.fl (.bool (((-1) == (-1)))))) rfl (oy rfl rfl rfl rfl (op_bin rfl rfl rfl (b_eql _ _ _ _) rfl)) ?_
  refine rg_put (d := 138) (v := .d (.fl (.bool (((-1) == (-1)))))) rfl (og rfl (op_pick rfl rfl rfl rfl)) ?_
  refine rg_put (d := 0) (v := .d (.fl (.bool (((-1) == (-1)))))) rfl (og rfl (op_assign rfl rfl rfl)) ?_
  refine rg_done rfl ?_
  refine a_ret ?_
  show ∃ ds, ResL _ _ _ ds ∧ RV.of ds = _
  refine ⟨[.fl (.bool (((-1) == (-1))))], (.cons (.tmp rfl (.d _)) .nil), ?_⟩
  rfl
end Go.Proofs.Ytfkipmdaffhkbaa.Wk
