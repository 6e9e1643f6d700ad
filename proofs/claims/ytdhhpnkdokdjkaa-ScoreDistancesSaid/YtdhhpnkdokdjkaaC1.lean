/- The laws of pairs and of confidence. No condition. -/
import Derived.Test.YtdhhpnkdokdjkaaAl
import Derived.Test.YtdhhpnkdokdjkaaB1
set_option linter.unusedSimpArgs false
set_option linter.unusedVariables false
namespace Go.Proofs.Ytdhhpnkdokdjkaa.Wk
open Go Go.RowKit Go.Proofs.Ytdhhpnkdokdjkaa.Av
theorem pr_in (a b : Sn) (hd : dst a.time b.time ≤ 20 ∨ 20 < dst a.time b.time) : -1 ≤ pr a b ∧ pr a b ≤ 450 := by
  have h0 : 0 ≤ dst a.time b.time := by rw [dst_eq]; omega
  have h1 := lck_in a.d.score
  have h2 := lck_in b.d.score
  unfold pr cst
  cases (a.kind != 1) <;> cases (b.kind != 2) <;> cases (sEq a.point b.point) <;> cases hq : decide (20 < dst a.time b.time) <;> cases (a.lane != b.lane) <;> simp at hq ⊢ <;> omega
theorem ax_in (p : Pg) (lane : Int) (s : Sn) : -1 ≤ ax p lane s ∧ ax p lane s ≤ 90 := by
  have h0 : 0 ≤ dst p.time s.time := by rw [dst_eq]; omega
  unfold ax cst
  cases (s.kind != 3) <;> cases (sEq p.point s.point) <;> cases hq : decide (10 < dst p.time s.time) <;> cases (s.lane != lane) <;> simp at hq ⊢ <;> omega
theorem pr_less (a b c : Sn) (e1 : c.kind = b.kind) (e2 : c.point = b.point) (e3 : c.lane = b.lane) (e4 : c.d.score = b.d.score) (hd : dst a.time b.time ≤ dst a.time c.time) (h : 0 ≤ pr a c) : 0 ≤ pr a b ∧ pr a b ≤ pr a c := by
  have h0 : 0 ≤ dst a.time b.time := by rw [dst_eq]; omega
  have h1 := lck_in a.d.score
  have h2 := lck_in b.d.score
  unfold pr cst at *
  rw [e1, e2, e3, e4] at *
  revert h
  cases (a.kind != 1) <;> cases (b.kind != 2) <;> cases (sEq a.point b.point) <;> cases hq : decide (20 < dst a.time c.time) <;> cases hq2 : decide (20 < dst a.time b.time) <;> cases (a.lane != b.lane) <;> simp at hq hq2 ⊢ <;> omega
theorem ax_less (p : Pg) (lane : Int) (b c : Sn) (e1 : c.kind = b.kind) (e2 : c.point = b.point) (e3 : c.lane = b.lane) (hd : dst p.time b.time ≤ dst p.time c.time) (h : 0 ≤ ax p lane c) : 0 ≤ ax p lane b ∧ ax p lane b ≤ ax p lane c := by
  have h0 : 0 ≤ dst p.time b.time := by rw [dst_eq]; omega
  unfold ax cst at *
  rw [e1, e2, e3] at *
  revert h
  cases (b.kind != 3) <;> cases (sEq p.point b.point) <;> cases hq : decide (10 < dst p.time c.time) <;> cases hq2 : decide (10 < dst p.time b.time) <;> cases (b.lane != lane) <;> simp at hq hq2 ⊢ <;> omega
theorem pr_lessT (a b : Sn) (t : Int) (hd : dst a.time b.time ≤ dst a.time t) : 0 ≤ pr a (Sn.mk b.d t b.point b.lane b.kind) → 0 ≤ pr a b ∧ pr a b ≤ pr a (Sn.mk b.d t b.point b.lane b.kind) := fun h => pr_less a b _ rfl rfl rfl rfl hd h
theorem ax_lessT (p : Pg) (lane : Int) (b : Sn) (t : Int) (hd : dst p.time b.time ≤ dst p.time t) : 0 ≤ ax p lane (Sn.mk b.d t b.point b.lane b.kind) → 0 ≤ ax p lane b ∧ ax p lane b ≤ ax p lane (Sn.mk b.d t b.point b.lane b.kind) := fun h => ax_less p lane b _ rfl rfl rfl hd h

set_option maxHeartbeats 4000000 in
set_option maxRecDepth 100000 in
theorem law3 (a b : Sn) (p : Pg) (lane : Int) : Ctr Try.prog 3 [.ag (eSn a), .ag (eSn b), .ag (ePg p), .fl (.int .i64 lane)] (.d (.fl (.bool true))) := by
  refine ctr (n := 47) (rs := #[.tmp 8]) (L := [(0, .d (.ag (eSn a))), (1, .d (.ag (eSn b))), (2, .d (.ag (ePg p))), (3, .d (.fl (.int .i64 lane)))]) Try.func3 rfl rfl rfl rfl rfl (fun w0 U0 => ?_)
  refine a_rseq ?_
  refine rg_nam (d := 4) (v := .pt 101 0) (m := 101) (nw := [(101, .bx 25 (eSn a))]) rfl (og rfl (of_eff (op_box 101 rfl rfl rfl rfl) rfl)) rfl ?_
  refine rg_nam (d := 5) (v := .pt 102 0) (m := 102) (nw := [(102, .bx 25 (eSn b))]) rfl (og rfl (of_eff (op_box 102 rfl rfl rfl rfl) rfl)) rfl ?_
  refine rg_nam (d := 6) (v := .pt 103 0) (m := 103) (nw := [(103, .bx 28 (ePg p))]) rfl (og rfl (of_eff (op_box 103 rfl rfl rfl rfl) rfl)) rfl ?_
  refine rg_put (d := 8) (v := .d (.fl (.bool false))) rfl (og rfl (op_assign rfl rfl rfl)) ?_
  refine rg_done rfl ?_
  refine a_seq ?_
  refine a_rseq ?_
  refine rg_put (d := 9) (v := .pt 101 7) rfl (og rfl (of_eff (s_field_pt rfl Try.underlying25 rfl ti3 rfl rfl rfl) rfl)) ?_
  refine rg_put (d := 10) (v := .d (.fl (.int .i64 a.time))) rfl (og rfl (op_load_pt rfl Try.underlying3 rfl rfl rfl rfl rfl)) ?_
  refine rg_put (d := 11) (v := .d (.fl (.bool (isT a.time)))) rfl (og rfl (op_call rfl Try.func6 nm6 rfl (.cons rfl (.d _) .nil) (isT6 a.time) rfl)) ?_
  refine rg_put (d := 12) (v := .d (.fl (.bool ((!(isT a.time)))))) rfl (og rfl (op_un rfl rfl (u_not _) rfl)) ?_
  refine rg_put (d := 13) (v := .d (.fl (.bool ((!(isT a.time)))))) rfl (og rfl (op_move rfl rfl rfl)) ?_
  rcases fot ((!(isT a.time))) with h1 | h1
  · skip
    have h2 := f_not h1
    refine rg_put (d := 14) (v := .pt 102 7) rfl (oy rfl rfl rfl h1 (of_eff (s_field_pt rfl Try.underlying25 rfl ti3 rfl rfl rfl) rfl)) ?_
    refine rg_put (d := 15) (v := .d (.fl (.int .i64 b.time))) rfl (oy rfl rfl rfl h1 (op_load_pt rfl Try.underlying3 rfl rfl rfl rfl rfl)) ?_
    refine rg_put (d := 16) (v := .d (.fl (.bool (isT b.time)))) rfl (oy rfl rfl rfl h1 (op_call rfl Try.func6 nm6 rfl (.cons rfl (.d _) .nil) (isT6 b.time) rfl)) ?_
    refine rg_put (d := 17) (v := .d (.fl (.bool ((!(isT b.time)))))) rfl (oy rfl rfl rfl h1 (op_un rfl rfl (u_not _) rfl)) ?_
    refine rg_put (d := 18) (v := .d (.fl (.bool ((!(isT b.time)))))) rfl (og rfl (op_pick rfl rfl (by rw [h1]; rfl) rfl)) ?_
    refine rg_put (d := 19) (v := .d (.fl (.bool ((!(isT b.time)))))) rfl (og rfl (op_move rfl rfl rfl)) ?_
    rcases fot ((!(isT b.time))) with h3 | h3
    · skip
      have h4 := f_not h3
      refine rg_put (d := 20) (v := .pt 103 2) rfl (oy rfl rfl rfl h3 (of_eff (s_field_pt rfl Try.underlying28 rfl ti3 rfl rfl rfl) rfl)) ?_
      refine rg_put (d := 21) (v := .d (.fl (.int .i64 p.time))) rfl (oy rfl rfl rfl h3 (op_load_pt rfl Try.underlying3 rfl rfl rfl rfl rfl)) ?_
      refine rg_put (d := 22) (v := .d (.fl (.bool (isT p.time)))) rfl (oy rfl rfl rfl h3 (op_call rfl Try.func6 nm6 rfl (.cons rfl (.d _) .nil) (isT6 p.time) rfl)) ?_
      refine rg_put (d := 23) (v := .d (.fl (.bool ((!(isT p.time)))))) rfl (oy rfl rfl rfl h3 (op_un rfl rfl (u_not _) rfl)) ?_
      refine rg_put (d := 24) (v := .d (.fl (.bool ((!(isT p.time)))))) rfl (og rfl (op_pick rfl rfl (by rw [h3]; rfl) rfl)) ?_
      refine rg_done rfl ?_
      refine a_cond rfl (fun h5 => ?_) (fun h5 => ?_)
      · skip
        have h6 := t_not h5
        refine a_rseq ?_
        refine rg_put (d := 25) (v := .d (.fl (.bool true))) rfl (og rfl (op_call rfl Try.func7 nm7 rfl .nil alive7 rfl)) ?_
        refine rg_put (d := 8) (v := .d (.fl (.bool true))) rfl (og rfl (op_assign rfl rfl rfl)) ?_
        refine rg_done rfl ?_
        refine a_ret ?_
        show ∃ ds, ResL _ _ _ ds ∧ RV.of ds = _
        refine ⟨[.fl (.bool true)], (.cons (.tmp rfl (.d _)) .nil), ?_⟩
        rfl
      · skip
        have h7 := f_not h5
        refine a_skip ?_
        show A _ _ _ _ _ _ _
        refine a_dseq (by kernel_rfl) ?_
        have hta := isT_t h2
        have htb := isT_t h4
        have htp := isT_t h7
        refine dr_put (d := 26) (v := .d (.ag (eSn a))) rfl (og rfl (of_eff (s_load_pts rfl Try.underlying25 rfl ti25 rfl rfl rfl rfl) rfl)) ?_
        refine dr_put (d := 27) (v := .d (.ag (eSn b))) rfl (og rfl (of_eff (s_load_pts rfl Try.underlying25 rfl ti25 rfl rfl rfl rfl) rfl)) ?_
        refine dr_put (d := 28) (v := .d (.fl (.int .i64 (pr a b)))) rfl (og rfl (op_call rfl Try.func8 nm8 rfl (.cons rfl (.d _) (.cons rfl (.d _) .nil)) (pr8 a b (by omega) (by omega)) rfl)) ?_
        refine dr_put (d := 29) (v := .d (.ag (eSn a))) rfl (og rfl (of_eff (s_load_pts rfl Try.underlying25 rfl ti25 rfl rfl rfl rfl) rfl)) ?_
        refine dr_put (d := 30) (v := .d (.ag (eSn b))) rfl (og rfl (of_eff (s_load_pts rfl Try.underlying25 rfl ti25 rfl rfl rfl rfl) rfl)) ?_
        refine dr_put (d := 31) (v := .d (.fl (.int .i64 (pr a b)))) rfl (og rfl (op_call rfl Try.func9 nm9 rfl (.cons rfl (.d _) (.cons rfl (.d _) .nil)) (pr9 a b (by omega) (by omega)) rfl)) ?_
        refine dr_put (d := 32) (v := .d (.fl (.bool (((pr a b) == (pr a b)))))) rfl (og rfl (op_bin rfl rfl rfl (b_eql _ _ _ _) rfl)) ?_
        refine dr_put (d := 33) (v := .d (.fl (.bool (((pr a b) == (pr a b)))))) rfl (og rfl (op_move rfl rfl rfl)) ?_
        refine dr_put (d := 34) (v := .d (.ag (ePg p))) rfl (oy rfl rfl rfl (eq_self_b _) (of_eff (s_load_pts rfl Try.underlying28 rfl ti28 rfl rfl rfl rfl) rfl)) ?_
        refine dr_put (d := 35) (v := .d (.fl (.int .i64 lane))) rfl (oy rfl rfl rfl (eq_self_b _) (op_move rfl rfl rfl)) ?_
        refine dr_put (d := 36) (v := .d (.ag (eSn b))) rfl (oy rfl rfl rfl (eq_self_b _) (of_eff (s_load_pts rfl Try.underlying25 rfl ti25 rfl rfl rfl rfl) rfl)) ?_
        refine dr_put (d := 37) (v := .d (.fl (.int .i64 (ax p lane b)))) rfl (oy rfl rfl rfl (eq_self_b _) (op_call rfl Try.func10 nm10 rfl (.cons rfl (.d _) (.cons rfl (.d _) (.cons rfl (.d _) .nil))) (ax10 p lane b (by omega) (by omega)) rfl)) ?_
        refine dr_put (d := 38) (v := .d (.ag (ePg p))) rfl (oy rfl rfl rfl (eq_self_b _) (of_eff (s_load_pts rfl Try.underlying28 rfl ti28 rfl rfl rfl rfl) rfl)) ?_
        refine dr_put (d := 39) (v := .d (.fl (.int .i64 lane))) rfl (oy rfl rfl rfl (eq_self_b _) (op_move rfl rfl rfl)) ?_
        refine dr_put (d := 40) (v := .d (.ag (eSn b))) rfl (oy rfl rfl rfl (eq_self_b _) (of_eff (s_load_pts rfl Try.underlying25 rfl ti25 rfl rfl rfl rfl) rfl)) ?_
        refine dr_put (d := 41) (v := .d (.fl (.int .i64 (ax p lane b)))) rfl (oy rfl rfl rfl (eq_self_b _) (op_call rfl Try.func11 nm11 rfl (.cons rfl (.d _) (.cons rfl (.d _) (.cons rfl (.d _) .nil))) (ax11 p lane b (by omega) (by omega)) rfl)) ?_
        refine dr_put (d := 42) (v := .d (.fl (.bool (((ax p lane b) == (ax p lane b)))))) rfl (oy rfl rfl rfl (eq_self_b _) (op_bin rfl rfl rfl (b_eql _ _ _ _) rfl)) ?_
        refine dr_put (d := 43) (v := .d (.fl (.bool (((ax p lane b) == (ax p lane b)))))) rfl (og rfl (op_pick rfl rfl (by rw [(eq_self_b _)]; rfl) rfl)) ?_
        refine dr_put (d := 44) (v := .d (.fl (.bool (((ax p lane b) == (ax p lane b)))))) rfl (og rfl (op_move rfl rfl rfl)) ?_
        refine dr_put (d := 45) (v := .d (.fl (.bool true))) rfl (oy rfl rfl rfl (eq_self_b _) (op_call rfl Try.func7 nm7 rfl .nil alive7 rfl)) ?_
        refine dr_put (d := 46) (v := .d (.fl (.bool true))) rfl (og rfl (op_pick rfl rfl (by rw [(eq_self_b _)]; rfl) rfl)) ?_
        refine dr_put (d := 8) (v := .d (.fl (.bool true))) rfl (og rfl (op_assign rfl rfl rfl)) ?_
        refine dr_done rfl (sepB_of [0, 0, 3, 0, 0, 31, 63, 127, 255, 255, 255, 2047, 255, 255, 255, 32767, 65535, 131071, 262143, 524287, 1048575, 2097151] (by kernel_rfl)) (by kernel_rfl) ?_
        refine a_ret ?_
        show ∃ ds, ResL _ _ _ ds ∧ RV.of ds = _
        refine ⟨[.fl (.bool true)], (.cons (.tmp rfl (.d _)) .nil), ?_⟩
        rfl
    · skip
      have h8 := t_not h3
      refine rg_put (d := 20) (v := .d (.fl undef)) rfl (on rfl rfl rfl h3) ?_
      refine rg_put (d := 21) (v := .d (.fl undef)) rfl (on rfl rfl rfl h3) ?_
      refine rg_put (d := 22) (v := .d (.fl undef)) rfl (on rfl rfl rfl h3) ?_
      refine rg_put (d := 23) (v := .d (.fl undef)) rfl (on rfl rfl rfl h3) ?_
      refine rg_put (d := 24) (v := .d (.fl (.bool true))) rfl (og rfl (op_pick rfl rfl (by rw [h3]; rfl) rfl)) ?_
      refine rg_done rfl ?_
      refine a_condK rfl rfl ?_
      refine a_rseq ?_
      refine rg_put (d := 25) (v := .d (.fl (.bool true))) rfl (og rfl (op_call rfl Try.func7 nm7 rfl .nil alive7 rfl)) ?_
      refine rg_put (d := 8) (v := .d (.fl (.bool true))) rfl (og rfl (op_assign rfl rfl rfl)) ?_
      refine rg_done rfl ?_
      refine a_ret ?_
      show ∃ ds, ResL _ _ _ ds ∧ RV.of ds = _
      refine ⟨[.fl (.bool true)], (.cons (.tmp rfl (.d _)) .nil), ?_⟩
      rfl
  · skip
    have h9 := t_not h1
    refine rg_put (d := 14) (v := .d (.fl undef)) rfl (on rfl rfl rfl h1) ?_
    refine rg_put (d := 15) (v := .d (.fl undef)) rfl (on rfl rfl rfl h1) ?_
    refine rg_put (d := 16) (v := .d (.fl undef)) rfl (on rfl rfl rfl h1) ?_
    refine rg_put (d := 17) (v := .d (.fl undef)) rfl (on rfl rfl rfl h1) ?_
    refine rg_put (d := 18) (v := .d (.fl (.bool true))) rfl (og rfl (op_pick rfl rfl (by rw [h1]; rfl) rfl)) ?_
    refine rg_put (d := 19) (v := .d (.fl (.bool true))) rfl (og rfl (op_move rfl rfl rfl)) ?_
    refine rg_put (d := 20) (v := .d (.fl undef)) rfl (on rfl rfl rfl rfl) ?_
    refine rg_put (d := 21) (v := .d (.fl undef)) rfl (on rfl rfl rfl rfl) ?_
    refine rg_put (d := 22) (v := .d (.fl undef)) rfl (on rfl rfl rfl rfl) ?_
    refine rg_put (d := 23) (v := .d (.fl undef)) rfl (on rfl rfl rfl rfl) ?_
    refine rg_put (d := 24) (v := .d (.fl (.bool true))) rfl (og rfl (op_pick rfl rfl rfl rfl)) ?_
    refine rg_done rfl ?_
    refine a_condK rfl rfl ?_
    refine a_rseq ?_
    refine rg_put (d := 25) (v := .d (.fl (.bool true))) rfl (og rfl (op_call rfl Try.func7 nm7 rfl .nil alive7 rfl)) ?_
    refine rg_put (d := 8) (v := .d (.fl (.bool true))) rfl (og rfl (op_assign rfl rfl rfl)) ?_
    refine rg_done rfl ?_
    refine a_ret ?_
    show ∃ ds, ResL _ _ _ ds ∧ RV.of ds = _
    refine ⟨[.fl (.bool true)], (.cons (.tmp rfl (.d _)) .nil), ?_⟩
    rfl
set_option maxHeartbeats 4000000 in
set_option maxRecDepth 100000 in
theorem law4 (best margin less more : Int) : Ctr Try.prog 4 [.fl (.int .i64 best), .fl (.int .i64 margin), .fl (.int .i64 less), .fl (.int .i64 more)] (.d (.fl (.bool true))) := by
  have e1 : conf best margin = min (max (600 + 2 * (if margin = -1 then 1000 else margin) - best) 0) 1000 := rfl
  have e2 : conf less margin = min (max (600 + 2 * (if margin = -1 then 1000 else margin) - less) 0) 1000 := rfl
  have e3 : conf best more = min (max (600 + 2 * (if more = -1 then 1000 else more) - best) 0) 1000 := rfl
  refine ctr (n := 78) (rs := #[.tmp 8]) (L := [(0, .d (.fl (.int .i64 best))), (1, .d (.fl (.int .i64 margin))), (2, .d (.fl (.int .i64 less))), (3, .d (.fl (.int .i64 more)))]) Try.func4 rfl rfl rfl rfl rfl (fun w0 U0 => ?_)
  refine a_rseq ?_
  refine rg_put (d := 8) (v := .d (.fl (.bool false))) rfl (og rfl (op_assign rfl rfl rfl)) ?_
  refine rg_done rfl ?_
  refine a_seq ?_
  refine a_rseq ?_
  refine rg_put (d := 10) (v := .d (.fl (.int .i64 best))) rfl (og rfl (op_move rfl rfl rfl)) ?_
  refine rg_put (d := 11) (v := .d (.fl (.bool ((decide (best < 0)))))) rfl (og rfl (op_bin rfl rfl rfl (b_lss _ _ _ _) rfl)) ?_
  refine rg_put (d := 12) (v := .d (.fl (.bool ((decide (best < 0)))))) rfl (og rfl (op_move rfl rfl rfl)) ?_
  rcases fot ((decide (best < 0))) with h1 | h1
  · skip
    have h2 := f_dec h1
    refine rg_put (d := 13) (v := .d (.fl (.int .i64 best))) rfl (oy rfl rfl rfl h1 (op_move rfl rfl rfl)) ?_
    refine rg_put (d := 14) (v := .d (.fl (.bool ((decide (34359738368 < best)))))) rfl (oy rfl rfl rfl h1 (op_bin rfl rfl rfl (b_gtr _ _ _ _) rfl)) ?_
    refine rg_put (d := 15) (v := .d (.fl (.bool ((decide (34359738368 < best)))))) rfl (og rfl (op_pick rfl rfl (by rw [h1]; rfl) rfl)) ?_
    refine rg_put (d := 16) (v := .d (.fl (.bool ((decide (34359738368 < best)))))) rfl (og rfl (op_move rfl rfl rfl)) ?_
    rcases fot ((decide (34359738368 < best))) with h3 | h3
    · skip
      have h4 := f_dec h3
      refine rg_put (d := 17) (v := .d (.fl (.int .i64 margin))) rfl (oy rfl rfl rfl h3 (op_move rfl rfl rfl)) ?_
      refine rg_put (d := 18) (v := .d (.fl (.bool ((decide (margin < (-1))))))) rfl (oy rfl rfl rfl h3 (op_bin rfl rfl rfl (b_lss _ _ _ _) rfl)) ?_
      refine rg_put (d := 19) (v := .d (.fl (.bool ((decide (margin < (-1))))))) rfl (og rfl (op_pick rfl rfl (by rw [h3]; rfl) rfl)) ?_
      refine rg_put (d := 20) (v := .d (.fl (.bool ((decide (margin < (-1))))))) rfl (og rfl (op_move rfl rfl rfl)) ?_
      rcases fot ((decide (margin < (-1)))) with h5 | h5
      · skip
        have h6 := f_dec h5
        refine rg_put (d := 21) (v := .d (.fl (.int .i64 margin))) rfl (oy rfl rfl rfl h5 (op_move rfl rfl rfl)) ?_
        refine rg_put (d := 22) (v := .d (.fl (.bool ((decide (34359738368 < margin)))))) rfl (oy rfl rfl rfl h5 (op_bin rfl rfl rfl (b_gtr _ _ _ _) rfl)) ?_
        refine rg_put (d := 23) (v := .d (.fl (.bool ((decide (34359738368 < margin)))))) rfl (og rfl (op_pick rfl rfl (by rw [h5]; rfl) rfl)) ?_
        refine rg_put (d := 24) (v := .d (.fl (.bool ((decide (34359738368 < margin)))))) rfl (og rfl (op_move rfl rfl rfl)) ?_
        rcases fot ((decide (34359738368 < margin))) with h7 | h7
        · skip
          have h8 := f_dec h7
          refine rg_put (d := 25) (v := .d (.fl (.int .i64 less))) rfl (oy rfl rfl rfl h7 (op_move rfl rfl rfl)) ?_
          refine rg_put (d := 26) (v := .d (.fl (.bool ((decide (less < 0)))))) rfl (oy rfl rfl rfl h7 (op_bin rfl rfl rfl (b_lss _ _ _ _) rfl)) ?_
          refine rg_put (d := 27) (v := .d (.fl (.bool ((decide (less < 0)))))) rfl (og rfl (op_pick rfl rfl (by rw [h7]; rfl) rfl)) ?_
          refine rg_put (d := 28) (v := .d (.fl (.bool ((decide (less < 0)))))) rfl (og rfl (op_move rfl rfl rfl)) ?_
          rcases fot ((decide (less < 0))) with h9 | h9
          · skip
            have h10 := f_dec h9
            refine rg_put (d := 29) (v := .d (.fl (.int .i64 less))) rfl (oy rfl rfl rfl h9 (op_move rfl rfl rfl)) ?_
            refine rg_put (d := 30) (v := .d (.fl (.int .i64 best))) rfl (oy rfl rfl rfl h9 (op_move rfl rfl rfl)) ?_
            refine rg_put (d := 31) (v := .d (.fl (.bool ((decide (best < less)))))) rfl (oy rfl rfl rfl h9 (op_bin rfl rfl rfl (b_gtr _ _ _ _) rfl)) ?_
            refine rg_put (d := 32) (v := .d (.fl (.bool ((decide (best < less)))))) rfl (og rfl (op_pick rfl rfl (by rw [h9]; rfl) rfl)) ?_
            refine rg_put (d := 33) (v := .d (.fl (.bool ((decide (best < less)))))) rfl (og rfl (op_move rfl rfl rfl)) ?_
            rcases fot ((decide (best < less))) with h11 | h11
            · skip
              have h12 := f_dec h11
              refine rg_put (d := 34) (v := .d (.fl (.int .i64 more))) rfl (oy rfl rfl rfl h11 (op_move rfl rfl rfl)) ?_
              refine rg_put (d := 35) (v := .d (.fl (.int .i64 margin))) rfl (oy rfl rfl rfl h11 (op_move rfl rfl rfl)) ?_
              refine rg_put (d := 36) (v := .d (.fl (.bool ((decide (more < margin)))))) rfl (oy rfl rfl rfl h11 (op_bin rfl rfl rfl (b_lss _ _ _ _) rfl)) ?_
              refine rg_put (d := 37) (v := .d (.fl (.bool ((decide (more < margin)))))) rfl (og rfl (op_pick rfl rfl (by rw [h11]; rfl) rfl)) ?_
              refine rg_put (d := 38) (v := .d (.fl (.bool ((decide (more < margin)))))) rfl (og rfl (op_move rfl rfl rfl)) ?_
              rcases fot ((decide (more < margin))) with h13 | h13
              · skip
                have h14 := f_dec h13
                refine rg_put (d := 39) (v := .d (.fl (.int .i64 more))) rfl (oy rfl rfl rfl h13 (op_move rfl rfl rfl)) ?_
                refine rg_put (d := 40) (v := .d (.fl (.bool ((decide (34359738368 < more)))))) rfl (oy rfl rfl rfl h13 (op_bin rfl rfl rfl (b_gtr _ _ _ _) rfl)) ?_
                refine rg_put (d := 41) (v := .d (.fl (.bool ((decide (34359738368 < more)))))) rfl (og rfl (op_pick rfl rfl (by rw [h13]; rfl) rfl)) ?_
                refine rg_done rfl ?_
                refine a_cond rfl (fun h15 => ?_) (fun h15 => ?_)
                · skip
                  have h16 := t_dec h15
                  refine a_rseq ?_
                  refine rg_put (d := 42) (v := .d (.fl (.bool true))) rfl (og rfl (op_call rfl Try.func7 nm7 rfl .nil alive7 rfl)) ?_
                  refine rg_put (d := 8) (v := .d (.fl (.bool true))) rfl (og rfl (op_assign rfl rfl rfl)) ?_
                  refine rg_done rfl ?_
                  refine a_ret ?_
                  show ∃ ds, ResL _ _ _ ds ∧ RV.of ds = _
                  refine ⟨[.fl (.bool true)], (.cons (.tmp rfl (.d _)) .nil), ?_⟩
                  rfl
                · skip
                  have h17 := f_dec h15
                  refine a_skip ?_
                  show A _ _ _ _ _ _ _
                  refine a_rseq ?_
                  refine rg_put (d := 43) (v := .d (.fl (.int .i64 best))) rfl (og rfl (op_move rfl rfl rfl)) ?_
                  refine rg_put (d := 44) (v := .d (.fl (.int .i64 margin))) rfl (og rfl (op_move rfl rfl rfl)) ?_
                  refine rg_put (d := 45) (v := .d (.fl (.int .i64 (conf best margin)))) rfl (og rfl (op_call rfl Try.func12 nm12 rfl (.cons rfl (.d _) (.cons rfl (.d _) .nil)) (conf12 best margin (by omega) (by omega)) rfl)) ?_
                  refine rg_put (d := 9) (v := .d (.fl (.int .i64 (conf best margin)))) rfl (og rfl (op_assign rfl rfl rfl)) ?_
                  refine rg_done rfl ?_
                  refine a_seq ?_
                  refine a_rseq ?_
                  refine rg_put (d := 46) (v := .d (.fl (.int .i64 (conf best margin)))) rfl (og rfl (op_move rfl rfl rfl)) ?_
                  refine rg_put (d := 47) (v := .d (.fl (.int .i64 best))) rfl (og rfl (op_move rfl rfl rfl)) ?_
                  refine rg_put (d := 48) (v := .d (.fl (.int .i64 margin))) rfl (og rfl (op_move rfl rfl rfl)) ?_
                  refine rg_put (d := 49) (v := .d (.fl (.int .i64 (conf best margin)))) rfl (og rfl (op_call rfl Try.func13 nm13 rfl (.cons rfl (.d _) (.cons rfl (.d _) .nil)) (conf13 best margin (by omega) (by omega)) rfl)) ?_
                  refine rg_put (d := 50) (v := .d (.fl (.bool (((conf best margin) != (conf best margin)))))) rfl (og rfl (op_bin rfl rfl rfl (b_neq _ _ _ _) rfl)) ?_
                  refine rg_put (d := 51) (v := .d (.fl (.bool (((conf best margin) != (conf best margin)))))) rfl (og rfl (op_move rfl rfl rfl)) ?_
                  refine rg_put (d := 52) (v := .d (.fl (.int .i64 (conf best margin)))) rfl (oy rfl rfl rfl (ne_self_b _) (op_move rfl rfl rfl)) ?_
                  refine rg_put (d := 53) (v := .d (.fl (.bool ((decide ((conf best margin) < 0)))))) rfl (oy rfl rfl rfl (ne_self_b _) (op_bin rfl rfl rfl (b_lss _ _ _ _) rfl)) ?_
                  refine rg_put (d := 54) (v := .d (.fl (.bool ((decide ((conf best margin) < 0)))))) rfl (og rfl (op_pick rfl rfl (by rw [(ne_self_b _)]; rfl) rfl)) ?_
                  refine rg_put (d := 55) (v := .d (.fl (.bool ((decide ((conf best margin) < 0)))))) rfl (og rfl (op_move rfl rfl rfl)) ?_
                  rcases fot ((decide ((conf best margin) < 0))) with h18 | h18
                  · skip
                    have h19 := f_dec h18
                    refine rg_put (d := 56) (v := .d (.fl (.int .i64 (conf best margin)))) rfl (oy rfl rfl rfl h18 (op_move rfl rfl rfl)) ?_
                    refine rg_put (d := 57) (v := .d (.fl (.bool ((decide (1000 < (conf best margin))))))) rfl (oy rfl rfl rfl h18 (op_bin rfl rfl rfl (b_gtr _ _ _ _) rfl)) ?_
                    refine rg_put (d := 58) (v := .d (.fl (.bool ((decide (1000 < (conf best margin))))))) rfl (og rfl (op_pick rfl rfl (by rw [h18]; rfl) rfl)) ?_
                    refine rg_put (d := 59) (v := .d (.fl (.bool ((decide (1000 < (conf best margin))))))) rfl (og rfl (op_move rfl rfl rfl)) ?_
                    rcases fot ((decide (1000 < (conf best margin)))) with h20 | h20
                    · skip
                      have h21 := f_dec h20
                      refine rg_put (d := 60) (v := .d (.fl (.int .i64 less))) rfl (oy rfl rfl rfl h20 (op_move rfl rfl rfl)) ?_
                      refine rg_put (d := 61) (v := .d (.fl (.int .i64 margin))) rfl (oy rfl rfl rfl h20 (op_move rfl rfl rfl)) ?_
                      refine rg_put (d := 62) (v := .d (.fl (.int .i64 (conf less margin)))) rfl (oy rfl rfl rfl h20 (op_call rfl Try.func12 nm12 rfl (.cons rfl (.d _) (.cons rfl (.d _) .nil)) (conf12 less margin (by omega) (by omega)) rfl)) ?_
                      refine rg_put (d := 63) (v := .d (.fl (.int .i64 (conf best margin)))) rfl (oy rfl rfl rfl h20 (op_move rfl rfl rfl)) ?_
                      refine rg_put (d := 64) (v := .d (.fl (.bool ((decide ((conf less margin) < (conf best margin))))))) rfl (oy rfl rfl rfl h20 (op_bin rfl rfl rfl (b_lss _ _ _ _) rfl)) ?_
                      refine rg_put (d := 65) (v := .d (.fl (.bool ((decide ((conf less margin) < (conf best margin))))))) rfl (og rfl (op_pick rfl rfl (by rw [h20]; rfl) rfl)) ?_
                      refine rg_done rfl ?_
                      refine a_cond rfl (fun h22 => ?_) (fun h22 => ?_)
                      · skip
                        have h23 := t_dec h22
                        refine a_rseq ?_
                        refine rg_put (d := 8) (v := .d (.fl (.bool false))) rfl (og rfl (op_assign rfl rfl rfl)) ?_
                        refine rg_done rfl ?_
                        refine a_ret ?_
                        show ∃ ds, ResL _ _ _ ds ∧ RV.of ds = _
                        refine ⟨[.fl (.bool false)], (.cons (.tmp rfl (.d _)) .nil), ?_⟩
                        exfalso; omega
                      · skip
                        have h24 := f_dec h22
                        refine a_skip ?_
                        show A _ _ _ _ _ _ _
                        refine a_rseq ?_
                        refine rg_put (d := 66) (v := .d (.fl (.int .i64 margin))) rfl (og rfl (op_move rfl rfl rfl)) ?_
                        refine rg_put (d := 67) (v := .d (.fl (.bool ((decide (margin < 0)))))) rfl (og rfl (op_bin rfl rfl rfl (b_lss _ _ _ _) rfl)) ?_
                        refine rg_put (d := 68) (v := .d (.fl (.bool ((decide (margin < 0)))))) rfl (og rfl (op_move rfl rfl rfl)) ?_
                        rcases fot ((decide (margin < 0))) with h25 | h25
                        · skip
                          have h26 := f_dec h25
                          refine rg_put (d := 69) (v := .d (.fl (.int .i64 best))) rfl (oy rfl rfl rfl h25 (op_move rfl rfl rfl)) ?_
                          refine rg_put (d := 70) (v := .d (.fl (.int .i64 more))) rfl (oy rfl rfl rfl h25 (op_move rfl rfl rfl)) ?_
                          refine rg_put (d := 71) (v := .d (.fl (.int .i64 (conf best more)))) rfl (oy rfl rfl rfl h25 (op_call rfl Try.func12 nm12 rfl (.cons rfl (.d _) (.cons rfl (.d _) .nil)) (conf12 best more (by omega) (by omega)) rfl)) ?_
                          refine rg_put (d := 72) (v := .d (.fl (.int .i64 (conf best margin)))) rfl (oy rfl rfl rfl h25 (op_move rfl rfl rfl)) ?_
                          refine rg_put (d := 73) (v := .d (.fl (.bool ((decide ((conf best margin) ≤ (conf best more))))))) rfl (oy rfl rfl rfl h25 (op_bin rfl rfl rfl (b_geq _ _ _ _) rfl)) ?_
                          refine rg_put (d := 74) (v := .d (.fl (.bool ((decide ((conf best margin) ≤ (conf best more))))))) rfl (og rfl (op_pick rfl rfl (by rw [h25]; rfl) rfl)) ?_
                          refine rg_put (d := 75) (v := .d (.fl (.bool ((decide ((conf best margin) ≤ (conf best more))))))) rfl (og rfl (op_move rfl rfl rfl)) ?_
                          rcases fot ((decide ((conf best margin) ≤ (conf best more)))) with h27 | h27
                          · skip
                            have h28 := f_dec h27
                            refine rg_put (d := 76) (v := .d (.fl undef)) rfl (on rfl rfl rfl h27) ?_
                            refine rg_put (d := 77) (v := .d (.fl (.bool false))) rfl (og rfl (op_pick rfl rfl (by rw [h27]; rfl) rfl)) ?_
                            refine rg_put (d := 8) (v := .d (.fl (.bool false))) rfl (og rfl (op_assign rfl rfl rfl)) ?_
                            refine rg_done rfl ?_
                            refine a_ret ?_
                            show ∃ ds, ResL _ _ _ ds ∧ RV.of ds = _
                            refine ⟨[.fl (.bool false)], (.cons (.tmp rfl (.d _)) .nil), ?_⟩
                            exfalso; omega
                          · skip
                            have h29 := t_dec h27
                            refine rg_put (d := 76) (v := .d (.fl (.bool true))) rfl (oy rfl rfl rfl h27 (op_call rfl Try.func7 nm7 rfl .nil alive7 rfl)) ?_
                            refine rg_put (d := 77) (v := .d (.fl (.bool true))) rfl (og rfl (op_pick rfl rfl (by rw [h27]; rfl) rfl)) ?_
                            refine rg_put (d := 8) (v := .d (.fl (.bool true))) rfl (og rfl (op_assign rfl rfl rfl)) ?_
                            refine rg_done rfl ?_
                            refine a_ret ?_
                            show ∃ ds, ResL _ _ _ ds ∧ RV.of ds = _
                            refine ⟨[.fl (.bool true)], (.cons (.tmp rfl (.d _)) .nil), ?_⟩
                            rfl
                        · skip
                          have h30 := t_dec h25
                          refine rg_put (d := 69) (v := .d (.fl undef)) rfl (on rfl rfl rfl h25) ?_
                          refine rg_put (d := 70) (v := .d (.fl undef)) rfl (on rfl rfl rfl h25) ?_
                          refine rg_put (d := 71) (v := .d (.fl undef)) rfl (on rfl rfl rfl h25) ?_
                          refine rg_put (d := 72) (v := .d (.fl undef)) rfl (on rfl rfl rfl h25) ?_
                          refine rg_put (d := 73) (v := .d (.fl undef)) rfl (on rfl rfl rfl h25) ?_
                          refine rg_put (d := 74) (v := .d (.fl (.bool true))) rfl (og rfl (op_pick rfl rfl (by rw [h25]; rfl) rfl)) ?_
                          refine rg_put (d := 75) (v := .d (.fl (.bool true))) rfl (og rfl (op_move rfl rfl rfl)) ?_
                          refine rg_put (d := 76) (v := .d (.fl (.bool true))) rfl (oy rfl rfl rfl rfl (op_call rfl Try.func7 nm7 rfl .nil alive7 rfl)) ?_
                          refine rg_put (d := 77) (v := .d (.fl (.bool true))) rfl (og rfl (op_pick rfl rfl rfl rfl)) ?_
                          refine rg_put (d := 8) (v := .d (.fl (.bool true))) rfl (og rfl (op_assign rfl rfl rfl)) ?_
                          refine rg_done rfl ?_
                          refine a_ret ?_
                          show ∃ ds, ResL _ _ _ ds ∧ RV.of ds = _
                          refine ⟨[.fl (.bool true)], (.cons (.tmp rfl (.d _)) .nil), ?_⟩
                          rfl
                    · skip
                      have h31 := t_dec h20
                      refine rg_put (d := 60) (v := .d (.fl undef)) rfl (on rfl rfl rfl h20) ?_
                      refine rg_put (d := 61) (v := .d (.fl undef)) rfl (on rfl rfl rfl h20) ?_
                      refine rg_put (d := 62) (v := .d (.fl undef)) rfl (on rfl rfl rfl h20) ?_
                      refine rg_put (d := 63) (v := .d (.fl undef)) rfl (on rfl rfl rfl h20) ?_
                      refine rg_put (d := 64) (v := .d (.fl undef)) rfl (on rfl rfl rfl h20) ?_
                      refine rg_put (d := 65) (v := .d (.fl (.bool true))) rfl (og rfl (op_pick rfl rfl (by rw [h20]; rfl) rfl)) ?_
                      refine rg_done rfl ?_
                      refine a_condK rfl rfl ?_
                      refine a_rseq ?_
                      refine rg_put (d := 8) (v := .d (.fl (.bool false))) rfl (og rfl (op_assign rfl rfl rfl)) ?_
                      refine rg_done rfl ?_
                      refine a_ret ?_
                      show ∃ ds, ResL _ _ _ ds ∧ RV.of ds = _
                      refine ⟨[.fl (.bool false)], (.cons (.tmp rfl (.d _)) .nil), ?_⟩
                      exfalso; omega
                  · skip
                    have h32 := t_dec h18
                    refine rg_put (d := 56) (v := .d (.fl undef)) rfl (on rfl rfl rfl h18) ?_
                    refine rg_put (d := 57) (v := .d (.fl undef)) rfl (on rfl rfl rfl h18) ?_
                    refine rg_put (d := 58) (v := .d (.fl (.bool true))) rfl (og rfl (op_pick rfl rfl (by rw [h18]; rfl) rfl)) ?_
                    refine rg_put (d := 59) (v := .d (.fl (.bool true))) rfl (og rfl (op_move rfl rfl rfl)) ?_
                    refine rg_put (d := 60) (v := .d (.fl undef)) rfl (on rfl rfl rfl rfl) ?_
                    refine rg_put (d := 61) (v := .d (.fl undef)) rfl (on rfl rfl rfl rfl) ?_
                    refine rg_put (d := 62) (v := .d (.fl undef)) rfl (on rfl rfl rfl rfl) ?_
                    refine rg_put (d := 63) (v := .d (.fl undef)) rfl (on rfl rfl rfl rfl) ?_
                    refine rg_put (d := 64) (v := .d (.fl undef)) rfl (on rfl rfl rfl rfl) ?_
                    refine rg_put (d := 65) (v := .d (.fl (.bool true))) rfl (og rfl (op_pick rfl rfl rfl rfl)) ?_
                    refine rg_done rfl ?_
                    refine a_condK rfl rfl ?_
                    refine a_rseq ?_
                    refine rg_put (d := 8) (v := .d (.fl (.bool false))) rfl (og rfl (op_assign rfl rfl rfl)) ?_
                    refine rg_done rfl ?_
                    refine a_ret ?_
                    show ∃ ds, ResL _ _ _ ds ∧ RV.of ds = _
                    refine ⟨[.fl (.bool false)], (.cons (.tmp rfl (.d _)) .nil), ?_⟩
                    exfalso; omega
              · skip
                have h33 := t_dec h13
                refine rg_put (d := 39) (v := .d (.fl undef)) rfl (on rfl rfl rfl h13) ?_
                refine rg_put (d := 40) (v := .d (.fl undef)) rfl (on rfl rfl rfl h13) ?_
                refine rg_put (d := 41) (v := .d (.fl (.bool true))) rfl (og rfl (op_pick rfl rfl (by rw [h13]; rfl) rfl)) ?_
                refine rg_done rfl ?_
                refine a_condK rfl rfl ?_
                refine a_rseq ?_
                refine rg_put (d := 42) (v := .d (.fl (.bool true))) rfl (og rfl (op_call rfl Try.func7 nm7 rfl .nil alive7 rfl)) ?_
                refine rg_put (d := 8) (v := .d (.fl (.bool true))) rfl (og rfl (op_assign rfl rfl rfl)) ?_
                refine rg_done rfl ?_
                refine a_ret ?_
                show ∃ ds, ResL _ _ _ ds ∧ RV.of ds = _
                refine ⟨[.fl (.bool true)], (.cons (.tmp rfl (.d _)) .nil), ?_⟩
                rfl
            · skip
              have h34 := t_dec h11
              refine rg_put (d := 34) (v := .d (.fl undef)) rfl (on rfl rfl rfl h11) ?_
              refine rg_put (d := 35) (v := .d (.fl undef)) rfl (on rfl rfl rfl h11) ?_
              refine rg_put (d := 36) (v := .d (.fl undef)) rfl (on rfl rfl rfl h11) ?_
              refine rg_put (d := 37) (v := .d (.fl (.bool true))) rfl (og rfl (op_pick rfl rfl (by rw [h11]; rfl) rfl)) ?_
              refine rg_put (d := 38) (v := .d (.fl (.bool true))) rfl (og rfl (op_move rfl rfl rfl)) ?_
              refine rg_put (d := 39) (v := .d (.fl undef)) rfl (on rfl rfl rfl rfl) ?_
              refine rg_put (d := 40) (v := .d (.fl undef)) rfl (on rfl rfl rfl rfl) ?_
              refine rg_put (d := 41) (v := .d (.fl (.bool true))) rfl (og rfl (op_pick rfl rfl rfl rfl)) ?_
              refine rg_done rfl ?_
              refine a_condK rfl rfl ?_
              refine a_rseq ?_
              refine rg_put (d := 42) (v := .d (.fl (.bool true))) rfl (og rfl (op_call rfl Try.func7 nm7 rfl .nil alive7 rfl)) ?_
              refine rg_put (d := 8) (v := .d (.fl (.bool true))) rfl (og rfl (op_assign rfl rfl rfl)) ?_
              refine rg_done rfl ?_
              refine a_ret ?_
              show ∃ ds, ResL _ _ _ ds ∧ RV.of ds = _
              refine ⟨[.fl (.bool true)], (.cons (.tmp rfl (.d _)) .nil), ?_⟩
              rfl
          · skip
            have h35 := t_dec h9
            refine rg_put (d := 29) (v := .d (.fl undef)) rfl (on rfl rfl rfl h9) ?_
            refine rg_put (d := 30) (v := .d (.fl undef)) rfl (on rfl rfl rfl h9) ?_
            refine rg_put (d := 31) (v := .d (.fl undef)) rfl (on rfl rfl rfl h9) ?_
            refine rg_put (d := 32) (v := .d (.fl (.bool true))) rfl (og rfl (op_pick rfl rfl (by rw [h9]; rfl) rfl)) ?_
            refine rg_put (d := 33) (v := .d (.fl (.bool true))) rfl (og rfl (op_move rfl rfl rfl)) ?_
            refine rg_put (d := 34) (v := .d (.fl undef)) rfl (on rfl rfl rfl rfl) ?_
            refine rg_put (d := 35) (v := .d (.fl undef)) rfl (on rfl rfl rfl rfl) ?_
            refine rg_put (d := 36) (v := .d (.fl undef)) rfl (on rfl rfl rfl rfl) ?_
            refine rg_put (d := 37) (v := .d (.fl (.bool true))) rfl (og rfl (op_pick rfl rfl rfl rfl)) ?_
            refine rg_put (d := 38) (v := .d (.fl (.bool true))) rfl (og rfl (op_move rfl rfl rfl)) ?_
            refine rg_put (d := 39) (v := .d (.fl undef)) rfl (on rfl rfl rfl rfl) ?_
            refine rg_put (d := 40) (v := .d (.fl undef)) rfl (on rfl rfl rfl rfl) ?_
            refine rg_put (d := 41) (v := .d (.fl (.bool true))) rfl (og rfl (op_pick rfl rfl rfl rfl)) ?_
            refine rg_done rfl ?_
            refine a_condK rfl rfl ?_
            refine a_rseq ?_
            refine rg_put (d := 42) (v := .d (.fl (.bool true))) rfl (og rfl (op_call rfl Try.func7 nm7 rfl .nil alive7 rfl)) ?_
            refine rg_put (d := 8) (v := .d (.fl (.bool true))) rfl (og rfl (op_assign rfl rfl rfl)) ?_
            refine rg_done rfl ?_
            refine a_ret ?_
            show ∃ ds, ResL _ _ _ ds ∧ RV.of ds = _
            refine ⟨[.fl (.bool true)], (.cons (.tmp rfl (.d _)) .nil), ?_⟩
            rfl
        · skip
          have h36 := t_dec h7
          refine rg_put (d := 25) (v := .d (.fl undef)) rfl (on rfl rfl rfl h7) ?_
          refine rg_put (d := 26) (v := .d (.fl undef)) rfl (on rfl rfl rfl h7) ?_
          refine rg_put (d := 27) (v := .d (.fl (.bool true))) rfl (og rfl (op_pick rfl rfl (by rw [h7]; rfl) rfl)) ?_
          refine rg_put (d := 28) (v := .d (.fl (.bool true))) rfl (og rfl (op_move rfl rfl rfl)) ?_
          refine rg_put (d := 29) (v := .d (.fl undef)) rfl (on rfl rfl rfl rfl) ?_
          refine rg_put (d := 30) (v := .d (.fl undef)) rfl (on rfl rfl rfl rfl) ?_
          refine rg_put (d := 31) (v := .d (.fl undef)) rfl (on rfl rfl rfl rfl) ?_
          refine rg_put (d := 32) (v := .d (.fl (.bool true))) rfl (og rfl (op_pick rfl rfl rfl rfl)) ?_
          refine rg_put (d := 33) (v := .d (.fl (.bool true))) rfl (og rfl (op_move rfl rfl rfl)) ?_
          refine rg_put (d := 34) (v := .d (.fl undef)) rfl (on rfl rfl rfl rfl) ?_
          refine rg_put (d := 35) (v := .d (.fl undef)) rfl (on rfl rfl rfl rfl) ?_
          refine rg_put (d := 36) (v := .d (.fl undef)) rfl (on rfl rfl rfl rfl) ?_
          refine rg_put (d := 37) (v := .d (.fl (.bool true))) rfl (og rfl (op_pick rfl rfl rfl rfl)) ?_
          refine rg_put (d := 38) (v := .d (.fl (.bool true))) rfl (og rfl (op_move rfl rfl rfl)) ?_
          refine rg_put (d := 39) (v := .d (.fl undef)) rfl (on rfl rfl rfl rfl) ?_
          refine rg_put (d := 40) (v := .d (.fl undef)) rfl (on rfl rfl rfl rfl) ?_
          refine rg_put (d := 41) (v := .d (.fl (.bool true))) rfl (og rfl (op_pick rfl rfl rfl rfl)) ?_
          refine rg_done rfl ?_
          refine a_condK rfl rfl ?_
          refine a_rseq ?_
          refine rg_put (d := 42) (v := .d (.fl (.bool true))) rfl (og rfl (op_call rfl Try.func7 nm7 rfl .nil alive7 rfl)) ?_
          refine rg_put (d := 8) (v := .d (.fl (.bool true))) rfl (og rfl (op_assign rfl rfl rfl)) ?_
          refine rg_done rfl ?_
          refine a_ret ?_
          show ∃ ds, ResL _ _ _ ds ∧ RV.of ds = _
          refine ⟨[.fl (.bool true)], (.cons (.tmp rfl (.d _)) .nil), ?_⟩
          rfl
      · skip
        have h37 := t_dec h5
        refine rg_put (d := 21) (v := .d (.fl undef)) rfl (on rfl rfl rfl h5) ?_
        refine rg_put (d := 22) (v := .d (.fl undef)) rfl (on rfl rfl rfl h5) ?_
        refine rg_put (d := 23) (v := .d (.fl (.bool true))) rfl (og rfl (op_pick rfl rfl (by rw [h5]; rfl) rfl)) ?_
        refine rg_put (d := 24) (v := .d (.fl (.bool true))) rfl (og rfl (op_move rfl rfl rfl)) ?_
        refine rg_put (d := 25) (v := .d (.fl undef)) rfl (on rfl rfl rfl rfl) ?_
        refine rg_put (d := 26) (v := .d (.fl undef)) rfl (on rfl rfl rfl rfl) ?_
        refine rg_put (d := 27) (v := .d (.fl (.bool true))) rfl (og rfl (op_pick rfl rfl rfl rfl)) ?_
        refine rg_put (d := 28) (v := .d (.fl (.bool true))) rfl (og rfl (op_move rfl rfl rfl)) ?_
        refine rg_put (d := 29) (v := .d (.fl undef)) rfl (on rfl rfl rfl rfl) ?_
        refine rg_put (d := 30) (v := .d (.fl undef)) rfl (on rfl rfl rfl rfl) ?_
        refine rg_put (d := 31) (v := .d (.fl undef)) rfl (on rfl rfl rfl rfl) ?_
        refine rg_put (d := 32) (v := .d (.fl (.bool true))) rfl (og rfl (op_pick rfl rfl rfl rfl)) ?_
        refine rg_put (d := 33) (v := .d (.fl (.bool true))) rfl (og rfl (op_move rfl rfl rfl)) ?_
        refine rg_put (d := 34) (v := .d (.fl undef)) rfl (on rfl rfl rfl rfl) ?_
        refine rg_put (d := 35) (v := .d (.fl undef)) rfl (on rfl rfl rfl rfl) ?_
        refine rg_put (d := 36) (v := .d (.fl undef)) rfl (on rfl rfl rfl rfl) ?_
        refine rg_put (d := 37) (v := .d (.fl (.bool true))) rfl (og rfl (op_pick rfl rfl rfl rfl)) ?_
        refine rg_put (d := 38) (v := .d (.fl (.bool true))) rfl (og rfl (op_move rfl rfl rfl)) ?_
        refine rg_put (d := 39) (v := .d (.fl undef)) rfl (on rfl rfl rfl rfl) ?_
        refine rg_put (d := 40) (v := .d (.fl undef)) rfl (on rfl rfl rfl rfl) ?_
        refine rg_put (d := 41) (v := .d (.fl (.bool true))) rfl (og rfl (op_pick rfl rfl rfl rfl)) ?_
        refine rg_done rfl ?_
        refine a_condK rfl rfl ?_
        refine a_rseq ?_
        refine rg_put (d := 42) (v := .d (.fl (.bool true))) rfl (og rfl (op_call rfl Try.func7 nm7 rfl .nil alive7 rfl)) ?_
        refine rg_put (d := 8) (v := .d (.fl (.bool true))) rfl (og rfl (op_assign rfl rfl rfl)) ?_
        refine rg_done rfl ?_
        refine a_ret ?_
        show ∃ ds, ResL _ _ _ ds ∧ RV.of ds = _
        refine ⟨[.fl (.bool true)], (.cons (.tmp rfl (.d _)) .nil), ?_⟩
        rfl
    · skip
      have h38 := t_dec h3
      refine rg_put (d := 17) (v := .d (.fl undef)) rfl (on rfl rfl rfl h3) ?_
      refine rg_put (d := 18) (v := .d (.fl undef)) rfl (on rfl rfl rfl h3) ?_
      refine rg_put (d := 19) (v := .d (.fl (.bool true))) rfl (og rfl (op_pick rfl rfl (by rw [h3]; rfl) rfl)) ?_
      refine rg_put (d := 20) (v := .d (.fl (.bool true))) rfl (og rfl (op_move rfl rfl rfl)) ?_
      refine rg_put (d := 21) (v := .d (.fl undef)) rfl (on rfl rfl rfl rfl) ?_
      refine rg_put (d := 22) (v := .d (.fl undef)) rfl (on rfl rfl rfl rfl) ?_
      refine rg_put (d := 23) (v := .d (.fl (.bool true))) rfl (og rfl (op_pick rfl rfl rfl rfl)) ?_
      refine rg_put (d := 24) (v := .d (.fl (.bool true))) rfl (og rfl (op_move rfl rfl rfl)) ?_
      refine rg_put (d := 25) (v := .d (.fl undef)) rfl (on rfl rfl rfl rfl) ?_
      refine rg_put (d := 26) (v := .d (.fl undef)) rfl (on rfl rfl rfl rfl) ?_
      refine rg_put (d := 27) (v := .d (.fl (.bool true))) rfl (og rfl (op_pick rfl rfl rfl rfl)) ?_
      refine rg_put (d := 28) (v := .d (.fl (.bool true))) rfl (og rfl (op_move rfl rfl rfl)) ?_
      refine rg_put (d := 29) (v := .d (.fl undef)) rfl (on rfl rfl rfl rfl) ?_
      refine rg_put (d := 30) (v := .d (.fl undef)) rfl (on rfl rfl rfl rfl) ?_
      refine rg_put (d := 31) (v := .d (.fl undef)) rfl (on rfl rfl rfl rfl) ?_
      refine rg_put (d := 32) (v := .d (.fl (.bool true))) rfl (og rfl (op_pick rfl rfl rfl rfl)) ?_
      refine rg_put (d := 33) (v := .d (.fl (.bool true))) rfl (og rfl (op_move rfl rfl rfl)) ?_
      refine rg_put (d := 34) (v := .d (.fl undef)) rfl (on rfl rfl rfl rfl) ?_
      refine rg_put (d := 35) (v := .d (.fl undef)) rfl (on rfl rfl rfl rfl) ?_
      refine rg_put (d := 36) (v := .d (.fl undef)) rfl (on rfl rfl rfl rfl) ?_
      refine rg_put (d := 37) (v := .d (.fl (.bool true))) rfl (og rfl (op_pick rfl rfl rfl rfl)) ?_
      refine rg_put (d := 38) (v := .d (.fl (.bool true))) rfl (og rfl (op_move rfl rfl rfl)) ?_
      refine rg_put (d := 39) (v := .d (.fl undef)) rfl (on rfl rfl rfl rfl) ?_
      refine rg_put (d := 40) (v := .d (.fl undef)) rfl (on rfl rfl rfl rfl) ?_
      refine rg_put (d := 41) (v := .d (.fl (.bool true))) rfl (og rfl (op_pick rfl rfl rfl rfl)) ?_
      refine rg_done rfl ?_
      refine a_condK rfl rfl ?_
      refine a_rseq ?_
      refine rg_put (d := 42) (v := .d (.fl (.bool true))) rfl (og rfl (op_call rfl Try.func7 nm7 rfl .nil alive7 rfl)) ?_
      refine rg_put (d := 8) (v := .d (.fl (.bool true))) rfl (og rfl (op_assign rfl rfl rfl)) ?_
      refine rg_done rfl ?_
      refine a_ret ?_
      show ∃ ds, ResL _ _ _ ds ∧ RV.of ds = _
      refine ⟨[.fl (.bool true)], (.cons (.tmp rfl (.d _)) .nil), ?_⟩
      rfl
  · skip
    have h39 := t_dec h1
    refine rg_put (d := 13) (v := .d (.fl undef)) rfl (on rfl rfl rfl h1) ?_
    refine rg_put (d := 14) (v := .d (.fl undef)) rfl (on rfl rfl rfl h1) ?_
    refine rg_put (d := 15) (v := .d (.fl (.bool true))) rfl (og rfl (op_pick rfl rfl (by rw [h1]; rfl) rfl)) ?_
    refine rg_put (d := 16) (v := .d (.fl (.bool true))) rfl (og rfl (op_move rfl rfl rfl)) ?_
    refine rg_put (d := 17) (v := .d (.fl undef)) rfl (on rfl rfl rfl rfl) ?_
    refine rg_put (d := 18) (v := .d (.fl undef)) rfl (on rfl rfl rfl rfl) ?_
    refine rg_put (d := 19) (v := .d (.fl (.bool true))) rfl (og rfl (op_pick rfl rfl rfl rfl)) ?_
    refine rg_put (d := 20) (v := .d (.fl (.bool true))) rfl (og rfl (op_move rfl rfl rfl)) ?_
    refine rg_put (d := 21) (v := .d (.fl undef)) rfl (on rfl rfl rfl rfl) ?_
    refine rg_put (d := 22) (v := .d (.fl undef)) rfl (on rfl rfl rfl rfl) ?_
    refine rg_put (d := 23) (v := .d (.fl (.bool true))) rfl (og rfl (op_pick rfl rfl rfl rfl)) ?_
    refine rg_put (d := 24) (v := .d (.fl (.bool true))) rfl (og rfl (op_move rfl rfl rfl)) ?_
    refine rg_put (d := 25) (v := .d (.fl undef)) rfl (on rfl rfl rfl rfl) ?_
    refine rg_put (d := 26) (v := .d (.fl undef)) rfl (on rfl rfl rfl rfl) ?_
    refine rg_put (d := 27) (v := .d (.fl (.bool true))) rfl (og rfl (op_pick rfl rfl rfl rfl)) ?_
    refine rg_put (d := 28) (v := .d (.fl (.bool true))) rfl (og rfl (op_move rfl rfl rfl)) ?_
    refine rg_put (d := 29) (v := .d (.fl undef)) rfl (on rfl rfl rfl rfl) ?_
    refine rg_put (d := 30) (v := .d (.fl undef)) rfl (on rfl rfl rfl rfl) ?_
    refine rg_put (d := 31) (v := .d (.fl undef)) rfl (on rfl rfl rfl rfl) ?_
    refine rg_put (d := 32) (v := .d (.fl (.bool true))) rfl (og rfl (op_pick rfl rfl rfl rfl)) ?_
    refine rg_put (d := 33) (v := .d (.fl (.bool true))) rfl (og rfl (op_move rfl rfl rfl)) ?_
    refine rg_put (d := 34) (v := .d (.fl undef)) rfl (on rfl rfl rfl rfl) ?_
    refine rg_put (d := 35) (v := .d (.fl undef)) rfl (on rfl rfl rfl rfl) ?_
    refine rg_put (d := 36) (v := .d (.fl undef)) rfl (on rfl rfl rfl rfl) ?_
    refine rg_put (d := 37) (v := .d (.fl (.bool true))) rfl (og rfl (op_pick rfl rfl rfl rfl)) ?_
    refine rg_put (d := 38) (v := .d (.fl (.bool true))) rfl (og rfl (op_move rfl rfl rfl)) ?_
    refine rg_put (d := 39) (v := .d (.fl undef)) rfl (on rfl rfl rfl rfl) ?_
    refine rg_put (d := 40) (v := .d (.fl undef)) rfl (on rfl rfl rfl rfl) ?_
    refine rg_put (d := 41) (v := .d (.fl (.bool true))) rfl (og rfl (op_pick rfl rfl rfl rfl)) ?_
    refine rg_done rfl ?_
    refine a_condK rfl rfl ?_
    refine a_rseq ?_
    refine rg_put (d := 42) (v := .d (.fl (.bool true))) rfl (og rfl (op_call rfl Try.func7 nm7 rfl .nil alive7 rfl)) ?_
    refine rg_put (d := 8) (v := .d (.fl (.bool true))) rfl (og rfl (op_assign rfl rfl rfl)) ?_
    refine rg_done rfl ?_
    refine a_ret ?_
    show ∃ ds, ResL _ _ _ ds ∧ RV.of ds = _
    refine ⟨[.fl (.bool true)], (.cons (.tmp rfl (.d _)) .nil), ?_⟩
    rfl
end Go.Proofs.Ytdhhpnkdokdjkaa.Wk
