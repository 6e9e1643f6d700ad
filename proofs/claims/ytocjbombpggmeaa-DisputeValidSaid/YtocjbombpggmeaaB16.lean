/- The program is awake. No condition. -/
import Derived.Test.YtocjbombpggmeaaB15
set_option linter.unusedSimpArgs false
set_option linter.unusedVariables false
namespace Go.Proofs.Ytocjbombpggmeaa.Wk
open Go Go.RowKit Go.Proofs.Ytocjbombpggmeaa.Av
abbrev d0 : Dp := Dp.mk ⟨#[120]⟩ 1000 500 1 []
abbrev d1 : Dp := Dp.mk ⟨#[120]⟩ 1000 500 1 [⟨#[112, 49]⟩]
abbrev d2 : Dp := Dp.mk ⟨#[120]⟩ 1000 500 2 [⟨#[112, 49]⟩]
theorem q1 {d : Dp} {p : Dp → Prop} (h : p d) : ∀ q, q < ([d] : List Dp).length → p (ix [d] q) := fun q hq => by
  have : q = 0 := (by simpa using hq)
  subst this; exact h
theorem e1 : opn [] ⟨#[120]⟩ 500 1000 = ([d0], 0) := by kernel_rfl
theorem e2 : prove [d0] ⟨#[120]⟩ ⟨#[112, 49]⟩ 2593000 = ([d1], 0) := by kernel_rfl
theorem e3 : prove [d1] ⟨#[120]⟩ ⟨#[112, 50]⟩ 2593001 = ([d1], 29) := by kernel_rfl
theorem e4 : decid [d1] ⟨#[120]⟩ true 5185000 = (([d2], 500), 0) := by kernel_rfl
theorem e5 : decid [d2] ⟨#[120]⟩ true 5185000 = (([d2], 0), 11) := by kernel_rfl
theorem e6 : decid [d1] ⟨#[120]⟩ true 5185001 = (([d1], 0), 29) := by kernel_rfl
theorem e7 : exl [d1] 5185000 ([d1] : List Dp).length = [d1] ∧ exs [d1] 5185000 ([d1] : List Dp).length = 0 := ⟨by kernel_rfl, by kernel_rfl⟩
theorem e8 : exl [d1] 5185001 ([d1] : List Dp).length = [d2] ∧ exs [d1] 5185001 ([d1] : List Dp).length = 500 := ⟨by kernel_rfl, by kernel_rfl⟩
theorem e9 : ck [d2] = 0 := by kernel_rfl

theorem u1 : Ctr Try.prog 15 [.sl 5 (List.map eDp []), .fl (.string ⟨#[120]⟩), .fl (.int .i64 500), .fl (.int .i64 1000)] (.tu [.sl 5 (List.map eDp [d0]), .fl (.int .i64 0)]) := by
  have := open15 [] ⟨#[120]⟩ 500 1000 (by decide) (fun q h => by simp at h) (fun q h => by simp at h)
  rw [e1] at this; exact this
theorem u2 : Ctr Try.prog 16 [.sl 5 (List.map eDp [d0]), .fl (.string ⟨#[120]⟩), .fl (.string ⟨#[112, 49]⟩), .fl (.int .i64 2593000)] (.tu [.sl 5 (List.map eDp [d1]), .fl (.int .i64 0)]) := by
  have := prove16 [d0] ⟨#[120]⟩ ⟨#[112, 49]⟩ 2593000 (by decide) (q1 (p := fun d => d.proofs.length ≤ 2000) (by decide)) (q1 (p := fun d => -9223372036854775808 ≤ d.time) (by decide))
  rw [e2] at this; exact this
theorem u3 : Ctr Try.prog 16 [.sl 5 (List.map eDp [d1]), .fl (.string ⟨#[120]⟩), .fl (.string ⟨#[112, 50]⟩), .fl (.int .i64 2593001)] (.tu [.sl 5 (List.map eDp [d1]), .fl (.int .i64 29)]) := by
  have := prove16 [d1] ⟨#[120]⟩ ⟨#[112, 50]⟩ 2593001 (by decide) (q1 (p := fun d => d.proofs.length ≤ 2000) (by decide)) (q1 (p := fun d => -9223372036854775808 ≤ d.time) (by decide))
  rw [e3] at this; exact this
theorem u4 : Ctr Try.prog 17 [.sl 5 (List.map eDp [d1]), .fl (.string ⟨#[120]⟩), .fl (.bool true), .fl (.int .i64 5185000)] (.tu [.sl 5 (List.map eDp [d2]), .fl (.int .i64 500), .fl (.int .i64 0)]) := by
  have := decide17 [d1] ⟨#[120]⟩ true 5185000 (by decide) (q1 (p := fun d => d.proofs.length ≤ 2000) (by decide)) (q1 (p := fun d => -9223372036854775808 ≤ d.time) (by decide))
  rw [e4] at this; exact this
theorem u5 : Ctr Try.prog 17 [.sl 5 (List.map eDp [d2]), .fl (.string ⟨#[120]⟩), .fl (.bool true), .fl (.int .i64 5185000)] (.tu [.sl 5 (List.map eDp [d2]), .fl (.int .i64 0), .fl (.int .i64 11)]) := by
  have := decide17 [d2] ⟨#[120]⟩ true 5185000 (by decide) (q1 (p := fun d => d.proofs.length ≤ 2000) (by decide)) (q1 (p := fun d => -9223372036854775808 ≤ d.time) (by decide))
  rw [e5] at this; exact this
theorem u6 : Ctr Try.prog 17 [.sl 5 (List.map eDp [d1]), .fl (.string ⟨#[120]⟩), .fl (.bool true), .fl (.int .i64 5185001)] (.tu [.sl 5 (List.map eDp [d1]), .fl (.int .i64 0), .fl (.int .i64 29)]) := by
  have := decide17 [d1] ⟨#[120]⟩ true 5185001 (by decide) (q1 (p := fun d => d.proofs.length ≤ 2000) (by decide)) (q1 (p := fun d => -9223372036854775808 ≤ d.time) (by decide))
  rw [e6] at this; exact this
theorem u7 : Ctr Try.prog 18 [.sl 5 (List.map eDp [d1]), .fl (.int .i64 5185000)] (.tu [.sl 5 (List.map eDp [d1]), .fl (.int .i64 0)]) := by
  have := expire18 [d1] 5185000 (by decide) (q1 (p := fun d => d.proofs.length ≤ 2000) (by decide)) (q1 (p := fun d => 0 ≤ d.cents ∧ d.cents ≤ 1125899906842625) (by decide)) (q1 (p := fun d => -68719476736 ≤ d.time ∧ d.time ≤ 137438953472) (by decide))
  rw [e7.1, e7.2] at this; exact this
theorem u8 : Ctr Try.prog 18 [.sl 5 (List.map eDp [d1]), .fl (.int .i64 5185001)] (.tu [.sl 5 (List.map eDp [d2]), .fl (.int .i64 500)]) := by
  have := expire18 [d1] 5185001 (by decide) (q1 (p := fun d => d.proofs.length ≤ 2000) (by decide)) (q1 (p := fun d => 0 ≤ d.cents ∧ d.cents ≤ 1125899906842625) (by decide)) (q1 (p := fun d => -68719476736 ≤ d.time ∧ d.time ≤ 137438953472) (by decide))
  rw [e8.1, e8.2] at this; exact this
theorem u9 : Ctr Try.prog 10 [.sl 5 (List.map eDp [d2])] (.d (.fl (.int .i64 0))) := by
  have := d_check [d2]
  rw [e9] at this; exact this
set_option maxHeartbeats 4000000 in
set_option maxRecDepth 100000 in
theorem awake_true  : Ctr Try.prog 9 [] (.d (.fl (.bool true))) := by
  refine ctr (n := 121) (rs := #[.tmp 0]) (L := []) Try.func9 rfl rfl rfl rfl rfl (fun w0 U0 => ?_)
  refine a_rseq ?_
  refine rg_put (d := 0) (v := .d (.fl (.bool false))) rfl (og rfl (op_assign rfl rfl rfl)) ?_
  refine rg_done rfl ?_
  refine a_rseq ?_
  refine rg_put (d := 21) (v := .tu [.sl 5 (List.map eDp [d0]), .fl (.int .i64 0)]) rfl (og rfl (op_call rfl Try.func15 nm15 rfl (.cons rfl (.cv (Cv.nil _)) (.cons rfl (.d _) (.cons rfl (.d _) (.cons rfl (.d _) .nil)))) u1 rfl)) ?_
  refine rg_put (d := 20) (v := .tu [.sl 5 (List.map eDp [d0]), .fl (.int .i64 0)]) rfl (og rfl (op_move rfl rfl rfl)) ?_
  refine rg_put (d := 22) (v := .d (.sl 5 (List.map eDp [d0]))) rfl (og rfl (op_extract rfl rfl rfl rfl)) ?_
  refine rg_put (d := 23) (v := .d (.fl (.int .i64 0))) rfl (og rfl (op_extract rfl rfl rfl rfl)) ?_
  refine rg_put (d := 1) (v := .d (.sl 5 (List.map eDp [d0]))) rfl (og rfl (op_assign rfl rfl rfl)) ?_
  refine rg_put (d := 2) (v := .d (.fl (.int .i64 0))) rfl (og rfl (op_assign rfl rfl rfl)) ?_
  refine rg_done rfl ?_
  refine a_rseq ?_
  refine rg_put (d := 25) (v := .d (.sl 5 (List.map eDp [d0]))) rfl (og rfl (op_move rfl rfl rfl)) ?_
  refine rg_put (d := 26) (v := .tu [.sl 5 (List.map eDp [d1]), .fl (.int .i64 0)]) rfl (og rfl (op_call rfl Try.func16 nm16 rfl (.cons rfl (.d _) (.cons rfl (.d _) (.cons rfl (.d _) (.cons rfl (.d _) .nil)))) u2 rfl)) ?_
  refine rg_put (d := 24) (v := .tu [.sl 5 (List.map eDp [d1]), .fl (.int .i64 0)]) rfl (og rfl (op_move rfl rfl rfl)) ?_
  refine rg_put (d := 27) (v := .d (.sl 5 (List.map eDp [d1]))) rfl (og rfl (op_extract rfl rfl rfl rfl)) ?_
  refine rg_put (d := 28) (v := .d (.fl (.int .i64 0))) rfl (og rfl (op_extract rfl rfl rfl rfl)) ?_
  refine rg_put (d := 3) (v := .d (.sl 5 (List.map eDp [d1]))) rfl (og rfl (op_assign rfl rfl rfl)) ?_
  refine rg_put (d := 4) (v := .d (.fl (.int .i64 0))) rfl (og rfl (op_assign rfl rfl rfl)) ?_
  refine rg_done rfl ?_
  refine a_rseq ?_
  refine rg_put (d := 30) (v := .d (.sl 5 (List.map eDp [d1]))) rfl (og rfl (op_move rfl rfl rfl)) ?_
  refine rg_put (d := 31) (v := .tu [.sl 5 (List.map eDp [d1]), .fl (.int .i64 29)]) rfl (og rfl (op_call rfl Try.func16 nm16 rfl (.cons rfl (.d _) (.cons rfl (.d _) (.cons rfl (.d _) (.cons rfl (.d _) .nil)))) u3 rfl)) ?_
  refine rg_put (d := 29) (v := .tu [.sl 5 (List.map eDp [d1]), .fl (.int .i64 29)]) rfl (og rfl (op_move rfl rfl rfl)) ?_
  refine rg_put (d := 32) (v := .d (.sl 5 (List.map eDp [d1]))) rfl (og rfl (op_extract rfl rfl rfl rfl)) ?_
  refine rg_put (d := 33) (v := .d (.fl (.int .i64 29))) rfl (og rfl (op_extract rfl rfl rfl rfl)) ?_
  refine rg_put (d := 5) (v := .d (.sl 5 (List.map eDp [d1]))) rfl (og rfl (op_assign rfl rfl rfl)) ?_
  refine rg_put (d := 6) (v := .d (.fl (.int .i64 29))) rfl (og rfl (op_assign rfl rfl rfl)) ?_
  refine rg_done rfl ?_
  refine a_rseq ?_
  refine rg_put (d := 35) (v := .d (.sl 5 (List.map eDp [d1]))) rfl (og rfl (op_move rfl rfl rfl)) ?_
  refine rg_put (d := 36) (v := .tu [.sl 5 (List.map eDp [d2]), .fl (.int .i64 500), .fl (.int .i64 0)]) rfl (og rfl (op_call rfl Try.func17 nm17 rfl (.cons rfl (.d _) (.cons rfl (.d _) (.cons rfl (.d _) (.cons rfl (.d _) .nil)))) u4 rfl)) ?_
  refine rg_put (d := 34) (v := .tu [.sl 5 (List.map eDp [d2]), .fl (.int .i64 500), .fl (.int .i64 0)]) rfl (og rfl (op_move rfl rfl rfl)) ?_
  refine rg_put (d := 37) (v := .d (.sl 5 (List.map eDp [d2]))) rfl (og rfl (op_extract rfl rfl rfl rfl)) ?_
  refine rg_put (d := 38) (v := .d (.fl (.int .i64 500))) rfl (og rfl (op_extract rfl rfl rfl rfl)) ?_
  refine rg_put (d := 39) (v := .d (.fl (.int .i64 0))) rfl (og rfl (op_extract rfl rfl rfl rfl)) ?_
  refine rg_put (d := 7) (v := .d (.sl 5 (List.map eDp [d2]))) rfl (og rfl (op_assign rfl rfl rfl)) ?_
  refine rg_put (d := 8) (v := .d (.fl (.int .i64 500))) rfl (og rfl (op_assign rfl rfl rfl)) ?_
  refine rg_put (d := 9) (v := .d (.fl (.int .i64 0))) rfl (og rfl (op_assign rfl rfl rfl)) ?_
  refine rg_done rfl ?_
  refine a_rseq ?_
  refine rg_put (d := 41) (v := .d (.sl 5 (List.map eDp [d2]))) rfl (og rfl (op_move rfl rfl rfl)) ?_
  refine rg_put (d := 42) (v := .tu [.sl 5 (List.map eDp [d2]), .fl (.int .i64 0), .fl (.int .i64 11)]) rfl (og rfl (op_call rfl Try.func17 nm17 rfl (.cons rfl (.d _) (.cons rfl (.d _) (.cons rfl (.d _) (.cons rfl (.d _) .nil)))) u5 rfl)) ?_
  refine rg_put (d := 40) (v := .tu [.sl 5 (List.map eDp [d2]), .fl (.int .i64 0), .fl (.int .i64 11)]) rfl (og rfl (op_move rfl rfl rfl)) ?_
  refine rg_put (d := 43) (v := .d (.sl 5 (List.map eDp [d2]))) rfl (og rfl (op_extract rfl rfl rfl rfl)) ?_
  refine rg_put (d := 44) (v := .d (.fl (.int .i64 0))) rfl (og rfl (op_extract rfl rfl rfl rfl)) ?_
  refine rg_put (d := 45) (v := .d (.fl (.int .i64 11))) rfl (og rfl (op_extract rfl rfl rfl rfl)) ?_
  refine rg_put (d := 10) (v := .d (.sl 5 (List.map eDp [d2]))) rfl (og rfl (op_assign rfl rfl rfl)) ?_
  refine rg_put (d := 11) (v := .d (.fl (.int .i64 0))) rfl (og rfl (op_assign rfl rfl rfl)) ?_
  refine rg_put (d := 12) (v := .d (.fl (.int .i64 11))) rfl (og rfl (op_assign rfl rfl rfl)) ?_
  refine rg_done rfl ?_
  refine a_rseq ?_
  refine rg_put (d := 47) (v := .d (.sl 5 (List.map eDp [d1]))) rfl (og rfl (op_move rfl rfl rfl)) ?_
  refine rg_put (d := 48) (v := .tu [.sl 5 (List.map eDp [d1]), .fl (.int .i64 0), .fl (.int .i64 29)]) rfl (og rfl (op_call rfl Try.func17 nm17 rfl (.cons rfl (.d _) (.cons rfl (.d _) (.cons rfl (.d _) (.cons rfl (.d _) .nil)))) u6 rfl)) ?_
  refine rg_put (d := 46) (v := .tu [.sl 5 (List.map eDp [d1]), .fl (.int .i64 0), .fl (.int .i64 29)]) rfl (og rfl (op_move rfl rfl rfl)) ?_
  refine rg_put (d := 49) (v := .d (.sl 5 (List.map eDp [d1]))) rfl (og rfl (op_extract rfl rfl rfl rfl)) ?_
  refine rg_put (d := 50) (v := .d (.fl (.int .i64 0))) rfl (og rfl (op_extract rfl rfl rfl rfl)) ?_
  refine rg_put (d := 51) (v := .d (.fl (.int .i64 29))) rfl (og rfl (op_extract rfl rfl rfl rfl)) ?_
  refine rg_put (d := 13) (v := .d (.sl 5 (List.map eDp [d1]))) rfl (og rfl (op_assign rfl rfl rfl)) ?_
  refine rg_put (d := 14) (v := .d (.fl (.int .i64 0))) rfl (og rfl (op_assign rfl rfl rfl)) ?_
  refine rg_put (d := 15) (v := .d (.fl (.int .i64 29))) rfl (og rfl (op_assign rfl rfl rfl)) ?_
  refine rg_done rfl ?_
  refine a_rseq ?_
  refine rg_put (d := 53) (v := .d (.sl 5 (List.map eDp [d1]))) rfl (og rfl (op_move rfl rfl rfl)) ?_
  refine rg_put (d := 54) (v := .tu [.sl 5 (List.map eDp [d1]), .fl (.int .i64 0)]) rfl (og rfl (op_call rfl Try.func18 nm18 rfl (.cons rfl (.d _) (.cons rfl (.d _) .nil)) u7 rfl)) ?_
  refine rg_put (d := 52) (v := .tu [.sl 5 (List.map eDp [d1]), .fl (.int .i64 0)]) rfl (og rfl (op_move rfl rfl rfl)) ?_
  refine rg_put (d := 55) (v := .d (.sl 5 (List.map eDp [d1]))) rfl (og rfl (op_extract rfl rfl rfl rfl)) ?_
  refine rg_put (d := 56) (v := .d (.fl (.int .i64 0))) rfl (og rfl (op_extract rfl rfl rfl rfl)) ?_
  refine rg_put (d := 16) (v := .d (.sl 5 (List.map eDp [d1]))) rfl (og rfl (op_assign rfl rfl rfl)) ?_
  refine rg_put (d := 17) (v := .d (.fl (.int .i64 0))) rfl (og rfl (op_assign rfl rfl rfl)) ?_
  refine rg_done rfl ?_
  refine a_rseq ?_
  refine rg_put (d := 58) (v := .d (.sl 5 (List.map eDp [d1]))) rfl (og rfl (op_move rfl rfl rfl)) ?_
  refine rg_put (d := 59) (v := .tu [.sl 5 (List.map eDp [d2]), .fl (.int .i64 500)]) rfl (og rfl (op_call rfl Try.func18 nm18 rfl (.cons rfl (.d _) (.cons rfl (.d _) .nil)) u8 rfl)) ?_
  refine rg_put (d := 57) (v := .tu [.sl 5 (List.map eDp [d2]), .fl (.int .i64 500)]) rfl (og rfl (op_move rfl rfl rfl)) ?_
  refine rg_put (d := 60) (v := .d (.sl 5 (List.map eDp [d2]))) rfl (og rfl (op_extract rfl rfl rfl rfl)) ?_
  refine rg_put (d := 61) (v := .d (.fl (.int .i64 500))) rfl (og rfl (op_extract rfl rfl rfl rfl)) ?_
  refine rg_put (d := 18) (v := .d (.sl 5 (List.map eDp [d2]))) rfl (og rfl (op_assign rfl rfl rfl)) ?_
  refine rg_put (d := 19) (v := .d (.fl (.int .i64 500))) rfl (og rfl (op_assign rfl rfl rfl)) ?_
  refine rg_done rfl ?_
  refine a_rseq ?_
  refine rg_put (d := 62) (v := .d (.fl (.int .i64 0))) rfl (og rfl (op_move rfl rfl rfl)) ?_
  refine rg_put (d := 63) (v := .d (.fl (.bool (0 == 0)))) rfl (og rfl (op_bin rfl rfl rfl (b_eql _ _ _ _) rfl)) ?_
  refine rg_put (d := 64) (v := .d (.fl (.bool (0 == 0)))) rfl (og rfl (op_move rfl rfl rfl)) ?_
  refine rg_put (d := 65) (v := .d (.fl (.int .i64 0))) rfl (oy rfl rfl rfl rfl (op_move rfl rfl rfl)) ?_
  refine rg_put (d := 66) (v := .d (.fl (.bool (0 == 0)))) rfl (oy rfl rfl rfl rfl (op_bin rfl rfl rfl (b_eql _ _ _ _) rfl)) ?_
  refine rg_put (d := 67) (v := .d (.fl (.bool (0 == 0)))) rfl (og rfl (op_pick rfl rfl rfl rfl)) ?_
  refine rg_put (d := 68) (v := .d (.fl (.bool (0 == 0)))) rfl (og rfl (op_move rfl rfl rfl)) ?_
  refine rg_put (d := 69) (v := .d (.fl (.int .i64 29))) rfl (oy rfl rfl rfl rfl (op_move rfl rfl rfl)) ?_
  refine rg_put (d := 70) (v := .d (.fl (.bool (29 == 29)))) rfl (oy rfl rfl rfl rfl (op_bin rfl rfl rfl (b_eql _ _ _ _) rfl)) ?_
  refine rg_put (d := 71) (v := .d (.fl (.bool (29 == 29)))) rfl (og rfl (op_pick rfl rfl rfl rfl)) ?_
  refine rg_put (d := 72) (v := .d (.fl (.bool (29 == 29)))) rfl (og rfl (op_move rfl rfl rfl)) ?_
  refine rg_put (d := 73) (v := .d (.fl (.int .i64 0))) rfl (oy rfl rfl rfl rfl (op_move rfl rfl rfl)) ?_
  refine rg_put (d := 74) (v := .d (.fl (.bool (0 == 0)))) rfl (oy rfl rfl rfl rfl (op_bin rfl rfl rfl (b_eql _ _ _ _) rfl)) ?_
  refine rg_put (d := 75) (v := .d (.fl (.bool (0 == 0)))) rfl (og rfl (op_pick rfl rfl rfl rfl)) ?_
  refine rg_put (d := 76) (v := .d (.fl (.bool (0 == 0)))) rfl (og rfl (op_move rfl rfl rfl)) ?_
  refine rg_put (d := 77) (v := .d (.fl (.int .i64 500))) rfl (oy rfl rfl rfl rfl (op_move rfl rfl rfl)) ?_
  refine rg_put (d := 78) (v := .d (.fl (.bool (500 == 500)))) rfl (oy rfl rfl rfl rfl (op_bin rfl rfl rfl (b_eql _ _ _ _) rfl)) ?_
  refine rg_put (d := 79) (v := .d (.fl (.bool (500 == 500)))) rfl (og rfl (op_pick rfl rfl rfl rfl)) ?_
  refine rg_put (d := 80) (v := .d (.fl (.bool (500 == 500)))) rfl (og rfl (op_move rfl rfl rfl)) ?_
  refine rg_put (d := 81) (v := .d (.fl (.int .i64 11))) rfl (oy rfl rfl rfl rfl (op_move rfl rfl rfl)) ?_
  refine rg_put (d := 82) (v := .d (.fl (.bool (11 == 11)))) rfl (oy rfl rfl rfl rfl (op_bin rfl rfl rfl (b_eql _ _ _ _) rfl)) ?_
  refine rg_put (d := 83) (v := .d (.fl (.bool (11 == 11)))) rfl (og rfl (op_pick rfl rfl rfl rfl)) ?_
  refine rg_put (d := 84) (v := .d (.fl (.bool (11 == 11)))) rfl (og rfl (op_move rfl rfl rfl)) ?_
  refine rg_put (d := 85) (v := .d (.fl (.int .i64 29))) rfl (oy rfl rfl rfl rfl (op_move rfl rfl rfl)) ?_
  refine rg_put (d := 86) (v := .d (.fl (.bool (29 == 29)))) rfl (oy rfl rfl rfl rfl (op_bin rfl rfl rfl (b_eql _ _ _ _) rfl)) ?_
  refine rg_put (d := 87) (v := .d (.fl (.bool (29 == 29)))) rfl (og rfl (op_pick rfl rfl rfl rfl)) ?_
  refine rg_put (d := 88) (v := .d (.fl (.bool (29 == 29)))) rfl (og rfl (op_move rfl rfl rfl)) ?_
  refine rg_put (d := 89) (v := .d (.fl (.int .i64 0))) rfl (oy rfl rfl rfl rfl (op_move rfl rfl rfl)) ?_
  refine rg_put (d := 90) (v := .d (.fl (.bool (0 == 0)))) rfl (oy rfl rfl rfl rfl (op_bin rfl rfl rfl (b_eql _ _ _ _) rfl)) ?_
  refine rg_put (d := 91) (v := .d (.fl (.bool (0 == 0)))) rfl (og rfl (op_pick rfl rfl rfl rfl)) ?_
  refine rg_put (d := 92) (v := .d (.fl (.bool (0 == 0)))) rfl (og rfl (op_move rfl rfl rfl)) ?_
  refine rg_put (d := 93) (v := .d (.fl (.int .i64 500))) rfl (oy rfl rfl rfl rfl (op_move rfl rfl rfl)) ?_
  refine rg_put (d := 94) (v := .d (.fl (.bool (500 == 500)))) rfl (oy rfl rfl rfl rfl (op_bin rfl rfl rfl (b_eql _ _ _ _) rfl)) ?_
  refine rg_put (d := 95) (v := .d (.fl (.bool (500 == 500)))) rfl (og rfl (op_pick rfl rfl rfl rfl)) ?_
  refine rg_put (d := 96) (v := .d (.fl (.bool (500 == 500)))) rfl (og rfl (op_move rfl rfl rfl)) ?_
  refine rg_put (d := 97) (v := .d (.sl 5 (List.map eDp [d2]))) rfl (oy rfl rfl rfl rfl (op_move rfl rfl rfl)) ?_
  refine rg_put (d := 98) (v := .d (.fl (.int .i64 ([d2].length : Int)))) rfl (oy rfl rfl rfl rfl (s_len rfl Try.underlying22 rfl rfl)) ?_
  refine rg_put (d := 99) (v := .d (.fl (.bool ((([d2].length : Int) == 1))))) rfl (oy rfl rfl rfl rfl (op_bin rfl rfl rfl (b_eql _ _ _ _) rfl)) ?_
  refine rg_put (d := 100) (v := .d (.fl (.bool ((([d2].length : Int) == 1))))) rfl (og rfl (op_pick rfl rfl rfl rfl)) ?_
  refine rg_put (d := 101) (v := .d (.fl (.bool ((([d2].length : Int) == 1))))) rfl (og rfl (op_move rfl rfl rfl)) ?_
  refine rg_put (d := 102) (v := .d (.sl 5 (List.map eDp [d2]))) rfl (oy rfl rfl rfl rfl (op_move rfl rfl rfl)) ?_
  refine rg_put (d := 103) (v := .el ((eDp (ix [d2] 0)))) rfl (oy rfl rfl rfl rfl (s_index rfl Try.underlying22 ti40 rfl rfl (by decide) (row_at (by decide)) rfl)) ?_
  refine rg_put (d := 104) (v := .el ((List.drop 3 ((eDp (ix [d2] 0)))))) rfl (oy rfl rfl rfl rfl (of_eff (s_field_el rfl Try.underlying40 rfl ti3 rfl rfl rfl) rfl)) ?_
  refine rg_put (d := 105) (v := .d (.fl (.int .i64 ((ix [d2] 0).state)))) rfl (oy rfl rfl rfl rfl (op_load_el rfl Try.underlying3 rfl rfl rfl rfl)) ?_
  refine rg_put (d := 106) (v := .d (.fl (.bool (((ix [d2] 0).state == 2))))) rfl (oy rfl rfl rfl rfl (op_bin rfl rfl rfl (b_eql _ _ _ _) rfl)) ?_
  refine rg_put (d := 107) (v := .d (.fl (.bool (((ix [d2] 0).state == 2))))) rfl (og rfl (op_pick rfl rfl rfl rfl)) ?_
  refine rg_put (d := 108) (v := .d (.fl (.bool (((ix [d2] 0).state == 2))))) rfl (og rfl (op_move rfl rfl rfl)) ?_
  refine rg_put (d := 109) (v := .d (.sl 5 (List.map eDp [d2]))) rfl (oy rfl rfl rfl rfl (op_move rfl rfl rfl)) ?_
  refine rg_put (d := 110) (v := .el ((eDp (ix [d2] 0)))) rfl (oy rfl rfl rfl rfl (s_index rfl Try.underlying22 ti40 rfl rfl (by decide) (row_at (by decide)) rfl)) ?_
  refine rg_put (d := 111) (v := .el ((List.drop 4 ((eDp (ix [d2] 0)))))) rfl (oy rfl rfl rfl rfl (of_eff (s_field_el rfl Try.underlying40 rfl ti38 rfl rfl rfl) rfl)) ?_
  refine rg_put (d := 112) (v := .d (.sl 1 (List.map rS ((ix [d2] 0).proofs)))) rfl (oy rfl rfl rfl rfl (op_load_el rfl Try.underlying38 rfl rfl rfl rfl)) ?_
  refine rg_put (d := 113) (v := .d (.fl (.int .i64 ((((ix [d2] 0).proofs).length : Int))))) rfl (oy rfl rfl rfl rfl (s_len rfl Try.underlying38 rfl rfl)) ?_
  refine rg_put (d := 114) (v := .d (.fl (.bool (((((ix [d2] 0).proofs).length : Int) == 1))))) rfl (oy rfl rfl rfl rfl (op_bin rfl rfl rfl (b_eql _ _ _ _) rfl)) ?_
  refine rg_put (d := 115) (v := .d (.fl (.bool (((((ix [d2] 0).proofs).length : Int) == 1))))) rfl (og rfl (op_pick rfl rfl rfl rfl)) ?_
  refine rg_put (d := 116) (v := .d (.fl (.bool (((((ix [d2] 0).proofs).length : Int) == 1))))) rfl (og rfl (op_move rfl rfl rfl)) ?_
  refine rg_put (d := 117) (v := .d (.sl 5 (List.map eDp [d2]))) rfl (oy rfl rfl rfl rfl (op_move rfl rfl rfl)) ?_
  refine rg_put (d := 118) (v := .d (.fl (.int .i64 0))) rfl (oy rfl rfl rfl rfl (op_call rfl Try.func10 nm10 rfl (.cons rfl (.d _) .nil) u9 rfl)) ?_
  refine rg_put (d := 119) (v := .d (.fl (.bool (0 == 0)))) rfl (oy rfl rfl rfl rfl (op_bin rfl rfl rfl (b_eql _ _ _ _) rfl)) ?_
  refine rg_put (d := 120) (v := .d (.fl (.bool (0 == 0)))) rfl (og rfl (op_pick rfl rfl rfl rfl)) ?_
  refine rg_put (d := 0) (v := .d (.fl (.bool (0 == 0)))) rfl (og rfl (op_assign rfl rfl rfl)) ?_
  refine rg_done rfl ?_
  refine a_ret ?_
  show ∃ ds, ResL _ _ _ ds ∧ RV.of ds = _
  refine ⟨[.fl (.bool (0 == 0))], (.cons (.tmp rfl (.d _)) .nil), ?_⟩
  rfl
end Go.Proofs.Ytocjbombpggmeaa.Wk
