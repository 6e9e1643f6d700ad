/- Images that go, by the plain way. Condition: lists of at most a thousand. -/
import Derived.Test.YteplcjhnmmpicaaA18
set_option linter.unusedSimpArgs false
set_option linter.unusedVariables false
namespace Go.Proofs.Yteplcjhnmmpicaa.Wk
open Go Go.RowKit Go.Proofs.Yteplcjhnmmpicaa.Av
set_option maxHeartbeats 4000000 in
set_option maxRecDepth 100000 in
theorem ref_copied (im : Im) (hl : im.hold.length * 17 ≤ 140737488355328) : CtrO Try.prog 30 [.ag (eIm im)] (.sv (oIm im)) := by
  refine ctrO (n := 13) (rs := #[.cell 2 26]) (L := [(0, .d (.ag (eIm im)))]) Try.func30 rfl rfl rfl rfl rfl (fun w0 U0 => ?_)
  refine a_rseq ?_
  refine rg_nam (d := 1) (v := .pt 101 0) (m := 101) (nw := [(101, .bx 26 (eIm im))]) rfl (og rfl (of_eff (op_box 101 rfl rfl rfl rfl) rfl)) rfl ?_
  refine rg_nam (d := 2) (v := .pt 102 0) (m := 102) (nw := [(102, .bx 26 ([.fl (.string (⟨#[]⟩)), .fl (.int .i64 0), .fl (.int .i64 0), .fl (.slice none 0 0), .fl (.int .u64 0)]))]) rfl (og rfl (of_eff (s_alloc 102 rfl ti26 (by kernel_rfl) rfl) rfl)) rfl ?_
  refine rg_done rfl ?_
  refine a_rseq ?_
  refine rg_put (d := 4) (v := .d (.ag (eIm im))) rfl (og rfl (of_eff (s_load_pts rfl Try.underlying26 rfl ti26 rfl rfl rfl rfl) rfl)) ?_
  refine rg_nam (d := 3) (v := .pt 103 0) (m := 103) (nw := [(103, .bx 26 ([.fl (.string (⟨#[]⟩)), .fl (.int .i64 0), .fl (.int .i64 0), .fl (.slice none 0 0), .fl (.int .u64 0)]))]) rfl (og rfl (of_eff (s_alloc 103 rfl ti26 (by kernel_rfl) rfl) rfl)) rfl ?_
  refine rg_sto (nw := [(103, .bx 26 (eIm im))]) rfl (og rfl (of_eff (s_store rfl rfl ti26 rfl rfl rfl rfl rfl rfl) rfl)) ?_
  refine rg_done rfl ?_
  refine a_rseq ?_
  refine rg_imp (imp_bt 103 rfl) ?_
  refine rg_imp (imp_bt 102 rfl) ?_
  refine rg_put (d := 5) (v := .pt 103 3) rfl (og rfl (of_eff (s_field_pt rfl Try.underlying26 rfl ti23 rfl rfl rfl) rfl)) ?_
  refine rg_sto (nw := [(103, .bt 26 [.dv (.fl (.string im.id)), .dv (.fl (.int .i64 im.time)), .dv (.fl (.int .i64 im.purpose)), .dv (.fl (.slice none 0 0)), .dv (.fl (.int .u64 im.dig))])]) rfl (og rfl (of_eff (op_store_bt rfl rfl ti23 rfl rfl rfl (.d rfl) rfl rfl rfl) rfl)) ?_
  refine rg_done rfl ?_
  refine a_rseq ?_
  refine rg_put (d := 6) (v := .pt 103 3) rfl (og rfl (of_eff (s_field_pt rfl Try.underlying26 rfl ti23 rfl rfl rfl) rfl)) ?_
  refine rg_put (d := 7) (v := .d (.fl (.slice none 0 0))) rfl (og rfl (op_load_bt rfl Try.underlying23 rfl rfl rfl rfl rfl)) ?_
  refine rg_put (d := 8) (v := .pt 101 3) rfl (og rfl (of_eff (s_field_pt rfl Try.underlying26 rfl ti23 rfl rfl rfl) rfl)) ?_
  refine rg_put (d := 9) (v := .d (.sl 1 (List.map rS im.hold))) rfl (og rfl (op_load_pt rfl Try.underlying23 rfl rfl rfl rfl rfl)) ?_
  refine rg_imp (imp_nilT 7 104 9 1 rfl rfl) ?_
  refine rg_nam (d := 10) (v := .ow 105) (m := 105) (nw := [(105, .tr 9 1 (tD rS ([] ++ im.hold))), (104, .no)]) rfl (og rfl (of_eff (s_append_td 105 rfl Try.underlying23 ti9 rfl rfl rfl rfl rfl (.d _) (by simp only [List.length_nil]; omega) rfl) rfl)) rfl ?_
  refine rg_put (d := 11) (v := .pt 103 3) rfl (og rfl (of_eff (s_field_pt rfl Try.underlying26 rfl ti23 rfl rfl rfl) rfl)) ?_
  refine rg_sto (nw := [(103, .bt 26 [.dv (.fl (.string im.id)), .dv (.fl (.int .i64 im.time)), .dv (.fl (.int .i64 im.purpose)), .ow 9 1 (List.map rS ([] ++ im.hold)), .dv (.fl (.int .u64 im.dig))]), (105, .no)]) rfl (og rfl (of_eff (op_store_bt rfl rfl ti23 rfl rfl rfl (.tr rfl) rfl rfl rfl) rfl)) ?_
  refine rg_done rfl ?_
  refine a_rseq ?_
  refine rg_nam (d := 12) (v := .ow 106) (m := 106) (nw := [(106, .sv [.dv (.fl (.string im.id)), .dv (.fl (.int .i64 im.time)), .dv (.fl (.int .i64 im.purpose)), .ow 9 1 (List.map rS ([] ++ im.hold)), .dv (.fl (.int .u64 im.dig))]), (103, .no)]) rfl (og rfl (of_eff (op_move_bt 106 rfl Try.underlying26 rfl ti26 rfl rfl rfl rfl) rfl)) rfl ?_
  refine rg_sto (nw := [(102, .bt 26 [.dv (.fl (.string im.id)), .dv (.fl (.int .i64 im.time)), .dv (.fl (.int .i64 im.purpose)), .ow 9 1 (List.map rS ([] ++ im.hold)), .dv (.fl (.int .u64 im.dig))]), (106, .no)]) rfl (og rfl (of_eff (op_store_bt rfl rfl ti26 rfl rfl rfl (.sv rfl) rfl rfl rfl) rfl)) ?_
  refine rg_done rfl ?_
  refine a_ret ?_
  show ∃ rv, _ = #[rv] ∧ ResO _ _ rv _
  exact ⟨_, rfl, .cell rfl rfl Try.underlying26 rfl ti26 rfl⟩
theorem copied_data (im : Im) (hl : im.hold.length * 17 ≤ 140737488355328) : Ctr Try.prog 30 [.ag (eIm im)] (.d (.ag (eIm im))) := ctr_of_O (ref_copied im hl) rfl
set_option maxHeartbeats 4000000 in
set_option maxRecDepth 100000 in
theorem ref_purge (l : List Kp) (m : List Im) (c : List Int) (t : Int) (hm : m.length ≤ 1000) (hb : ∀ q, q < m.length → (ix m q).hold.length ≤ 1000) : Ctr Try.prog 16 [.sl 3 (List.map eKp l), .sl 5 (List.map eIm m), .sl 1 (List.map (rI .i64) c), .fl (.int .i64 t)] (.tu [.sl 5 (List.map eIm (purge l m c t).1.1), .sl 1 (List.map rS (purge l m c t).1.2), .fl (.int .i64 (purge l m c t).2)]) := by
  refine ctr (n := 85) (rs := #[.tmp 8, .tmp 9, .tmp 10]) (L := [(0, .d (.sl 3 (List.map eKp l))), (1, .d (.sl 5 (List.map eIm m))), (2, .d (.sl 1 (List.map (rI .i64) c))), (3, .d (.fl (.int .i64 t)))]) Try.func16 rfl rfl rfl rfl rfl (fun w0 U0 => ?_)
  refine a_rseq ?_
  refine rg_put (d := 8) (v := .d (.fl (.slice none 0 0))) rfl (og rfl (op_assign rfl rfl rfl)) ?_
  refine rg_put (d := 9) (v := .d (.fl (.slice none 0 0))) rfl (og rfl (op_assign rfl rfl rfl)) ?_
  refine rg_put (d := 10) (v := .d (.fl (.int .i64 0))) rfl (og rfl (op_assign rfl rfl rfl)) ?_
  refine rg_done rfl ?_
  refine a_rseq ?_
  refine rg_put (d := 17) (v := .d (.sl 3 (List.map eKp l))) rfl (og rfl (op_move rfl rfl rfl)) ?_
  refine rg_put (d := 18) (v := .d (.fl (.int .i64 (ck l)))) rfl (og rfl (op_call rfl Try.func13 nm13 rfl (.cons rfl (.d _) .nil) (ref_check l) rfl)) ?_
  refine rg_put (d := 11) (v := .d (.fl (.int .i64 (ck l)))) rfl (og rfl (op_assign rfl rfl rfl)) ?_
  refine rg_done rfl ?_
  refine a_seq ?_
  refine a_rseq ?_
  refine rg_put (d := 19) (v := .d (.fl (.int .i64 (ck l)))) rfl (og rfl (op_move rfl rfl rfl)) ?_
  refine rg_put (d := 20) (v := .d (.fl (.bool (((ck l) != 0))))) rfl (og rfl (op_bin rfl rfl rfl (b_neq _ _ _ _) rfl)) ?_
  refine rg_done rfl ?_
  refine a_cond rfl (fun h1 => ?_) (fun h1 => ?_)
  · skip
    have h2 := t_bne h1
    refine a_rseq ?_
    refine rg_put (d := 21) (v := .d (.fl (.int .i64 (ck l)))) rfl (og rfl (op_move rfl rfl rfl)) ?_
    refine rg_put (d := 8) (v := .d (.fl (.slice none 0 0))) rfl (og rfl (op_assign rfl rfl rfl)) ?_
    refine rg_put (d := 9) (v := .d (.fl (.slice none 0 0))) rfl (og rfl (op_assign rfl rfl rfl)) ?_
    refine rg_put (d := 10) (v := .d (.fl (.int .i64 (ck l)))) rfl (og rfl (op_assign rfl rfl rfl)) ?_
    refine rg_done rfl ?_
    refine a_ret ?_
    show ∃ ds, ResL _ _ _ ds ∧ RV.of ds = _
    refine ⟨[.sl 5 (List.map eIm []), .sl 1 (List.map rS []), .fl (.int .i64 (ck l))], (.cons (.tmp rfl (.cv (Cv.nil _))) (.cons (.tmp rfl (.cv (Cv.nil _))) (.cons (.tmp rfl (.d _)) .nil))), ?_⟩
    have hu : purge l m c t = (([], []), (ck l)) := by
      unfold purge; simp only [h1]; rfl
    rw [hu]; rfl
  · skip
    have h3 := f_bne h1
    refine a_skip ?_
    show A _ _ _ _ _ _ _
    refine a_seq ?_
    refine a_rseq ?_
    refine rg_put (d := 22) (v := .d (.sl 1 (List.map (rI .i64) c))) rfl (og rfl (op_move rfl rfl rfl)) ?_
    refine rg_put (d := 23) (v := .d (.fl (.int .i64 (c.length : Int)))) rfl (og rfl (s_len rfl Try.underlying37 rfl rfl)) ?_
    refine rg_put (d := 24) (v := .d (.sl 5 (List.map eIm m))) rfl (og rfl (op_move rfl rfl rfl)) ?_
    refine rg_put (d := 25) (v := .d (.fl (.int .i64 (m.length : Int)))) rfl (og rfl (s_len rfl Try.underlying36 rfl rfl)) ?_
    refine rg_put (d := 26) (v := .d (.fl (.bool (((c.length : Int) != (m.length : Int)))))) rfl (og rfl (op_bin rfl rfl rfl (b_neq _ _ _ _) rfl)) ?_
    refine rg_done rfl ?_
    refine a_cond rfl (fun h4 => ?_) (fun h4 => ?_)
    · skip
      have h5 := t_bne h4
      refine a_rseq ?_
      refine rg_put (d := 8) (v := .d (.fl (.slice none 0 0))) rfl (og rfl (op_assign rfl rfl rfl)) ?_
      refine rg_put (d := 9) (v := .d (.fl (.slice none 0 0))) rfl (og rfl (op_assign rfl rfl rfl)) ?_
      refine rg_put (d := 10) (v := .d (.fl (.int .i64 1))) rfl (og rfl (op_assign rfl rfl rfl)) ?_
      refine rg_done rfl ?_
      refine a_ret ?_
      show ∃ ds, ResL _ _ _ ds ∧ RV.of ds = _
      refine ⟨[.sl 5 (List.map eIm []), .sl 1 (List.map rS []), .fl (.int .i64 1)], (.cons (.tmp rfl (.cv (Cv.nil _))) (.cons (.tmp rfl (.cv (Cv.nil _))) (.cons (.tmp rfl (.d _)) .nil))), ?_⟩
      have hu : purge l m c t = (([], []), 1) := by
        unfold purge; simp only [h1, h4]; rfl
      rw [hu]; rfl
    · skip
      have h6 := f_bne h4
      refine a_skip ?_
      show A _ _ _ _ _ _ _
      refine a_seq ?_
      refine a_rseq ?_
      refine rg_put (d := 27) (v := .d (.fl (.int .i64 t))) rfl (og rfl (op_move rfl rfl rfl)) ?_
      refine rg_put (d := 28) (v := .d (.fl (.bool (isT t)))) rfl (og rfl (op_call rfl Try.func27 nm27 rfl (.cons rfl (.d _) .nil) (isTime27 t) rfl)) ?_
      refine rg_put (d := 29) (v := .d (.fl (.bool ((!(isT t)))))) rfl (og rfl (op_un rfl rfl (u_not _) rfl)) ?_
      refine rg_done rfl ?_
      refine a_cond rfl (fun h7 => ?_) (fun h7 => ?_)
      · skip
        have h8 := t_not h7
        refine a_rseq ?_
        refine rg_put (d := 8) (v := .d (.fl (.slice none 0 0))) rfl (og rfl (op_assign rfl rfl rfl)) ?_
        refine rg_put (d := 9) (v := .d (.fl (.slice none 0 0))) rfl (og rfl (op_assign rfl rfl rfl)) ?_
        refine rg_put (d := 10) (v := .d (.fl (.int .i64 12))) rfl (og rfl (op_assign rfl rfl rfl)) ?_
        refine rg_done rfl ?_
        refine a_ret ?_
        show ∃ ds, ResL _ _ _ ds ∧ RV.of ds = _
        refine ⟨[.sl 5 (List.map eIm []), .sl 1 (List.map rS []), .fl (.int .i64 12)], (.cons (.tmp rfl (.cv (Cv.nil _))) (.cons (.tmp rfl (.cv (Cv.nil _))) (.cons (.tmp rfl (.d _)) .nil))), ?_⟩
        have hu : purge l m c t = (([], []), 12) := by
          unfold purge; simp only [h1, h4, h7]; rfl
        rw [hu]; rfl
      · skip
        have h9 := f_not h7
        refine a_skip ?_
        show A _ _ _ _ _ _ _
        refine a_rseq ?_
        refine rg_put (d := 12) (v := .d (.fl (.slice none 0 0))) rfl (og rfl (op_assign rfl rfl rfl)) ?_
        refine rg_done rfl ?_
        refine a_rseq ?_
        refine rg_put (d := 13) (v := .d (.fl (.slice none 0 0))) rfl (og rfl (op_assign rfl rfl rfl)) ?_
        refine rg_done rfl ?_
        refine a_seq ?_
        refine a_rseq ?_
        refine rg_put (d := 14) (v := .d (.fl (.int .i64 0))) rfl (og rfl (op_assign rfl rfl rfl)) ?_
        refine rg_done rfl ?_
        refine a_block ?_
        refine a_loop (ι := Nat) (fun k => SS [(0, .d (.sl 3 (List.map eKp l))), (1, .d (.sl 5 (List.map eIm m))), (2, .d (.sl 1 (List.map (rI .i64) c))), (3, .d (.fl (.int .i64 t))), (11, .d (.fl (.int .i64 (ck l)))), (20, .d (.fl (.bool (((ck l) != 0))))), (26, .d (.fl (.bool (((c.length : Int) != (m.length : Int)))))), (29, .d (.fl (.bool ((!(isT t)))))), (14, .d (.fl (.int .i64 (k : Int)))), (12, .ow 201), (13, .ow 202)] [(201, .ow 26 5 (List.map eIm (kA l m c t k))), (202, .ow 9 1 (List.map rS (kB l m c t k)))]) (fun k => k ≤ m.length ∧ fe (er l m c t) 0 m.length = fe (er l m c t) k (m.length - k)) (fun k => m.length - k) 0 (⟨by omega, by rw [Nat.sub_zero]⟩) (Imp.trans (imp_nil 12 201 26 5 rfl rfl) (Imp.trans (imp_nil 13 202 9 1 rfl rfl) (imp_forget rfl ⟨rfl, rfl, rfl, rfl, rfl, rfl, rfl, rfl, (by first | rfl | exact ci (by omega) | exact ci (by simp) | exact cd (by simp) | simp), (by first | rfl | exact ci (by omega) | exact ci (by simp) | exact cd (by simp) | simp), (by first | rfl | exact ci (by omega) | exact ci (by simp) | exact cd (by simp) | simp), trivial⟩ ⟨(by first | rfl | simp), (by first | rfl | simp), trivial⟩))) (fun k hok => ?_)
        obtain ⟨hk, hc⟩ := hok
        have hka := kA_len (l := l) (m := m) (c := c) (t := t) k
        have hkb := kB_len (l := l) (m := m) (c := c) (t := t) k
        refine a_seq ?_
        refine a_rseq ?_
        refine rg_put (d := 30) (v := .d (.fl (.int .i64 (k : Int)))) rfl (og rfl (op_move rfl rfl rfl)) ?_
        refine rg_put (d := 31) (v := .d (.sl 5 (List.map eIm m))) rfl (og rfl (op_move rfl rfl rfl)) ?_
        refine rg_put (d := 32) (v := .d (.fl (.int .i64 (m.length : Int)))) rfl (og rfl (s_len rfl Try.underlying36 rfl rfl)) ?_
        refine rg_put (d := 33) (v := .d (.fl (.bool ((decide ((k : Int) < (m.length : Int))))))) rfl (og rfl (op_bin rfl rfl rfl (b_lss _ _ _ _) rfl)) ?_
        refine rg_done rfl ?_
        refine a_cond rfl (fun h10 => ?_) (fun h10 => ?_)
        · skip
          have h11 := t_dec h10
          refine a_skip ?_
          show A _ _ _ _ _ _ _
          refine a_seq ?_
          refine a_block ?_
          refine a_dseq (by kernel_rfl) ?_
          refine dr_put (d := 37) (v := .d (.sl 3 (List.map eKp l))) rfl (og rfl (op_move rfl rfl rfl)) ?_
          refine dr_put (d := 38) (v := .d (.sl 5 (List.map eIm m))) rfl (og rfl (op_move rfl rfl rfl)) ?_
          refine dr_put (d := 39) (v := .d (.fl (.int .i64 (k : Int)))) rfl (og rfl (op_move rfl rfl rfl)) ?_
          refine dr_put (d := 40) (v := .el ((eIm (ix m k)))) rfl (og rfl (s_index rfl Try.underlying36 ti26 rfl rfl (by omega) (row_at (by omega)) rfl)) ?_
          refine dr_put (d := 41) (v := .d (.ag (eIm (ix m k)))) rfl (og rfl (of_eff (s_load_els rfl Try.underlying26 rfl ti26 rfl rfl rfl) rfl)) ?_
          refine dr_put (d := 42) (v := .d (.sl 1 (List.map (rI .i64) c))) rfl (og rfl (op_move rfl rfl rfl)) ?_
          refine dr_put (d := 43) (v := .d (.fl (.int .i64 (k : Int)))) rfl (og rfl (op_move rfl rfl rfl)) ?_
          refine dr_put (d := 44) (v := .el ((rI .i64 (ix c k)))) rfl (og rfl (s_index rfl Try.underlying37 ti3 rfl rfl (by omega) (row_at (by omega)) rfl)) ?_
          refine dr_put (d := 45) (v := .d (.fl (.int .i64 (ix c k)))) rfl (og rfl (op_load_el rfl Try.underlying3 rfl rfl rfl rfl)) ?_
          refine dr_put (d := 46) (v := .tu [.fl (.int .i64 ((unt l (ix m k) (ix c k)).1)), .fl (.int .i64 ((unt l (ix m k) (ix c k)).2))]) rfl (og rfl (op_call rfl Try.func11 nm11 rfl (.cons rfl (.d _) (.cons rfl (.d _) (.cons rfl (.d _) .nil))) (ref_until l (ix m k) (ix c k)) rfl)) ?_
          refine dr_put (d := 36) (v := .tu [.fl (.int .i64 ((unt l (ix m k) (ix c k)).1)), .fl (.int .i64 ((unt l (ix m k) (ix c k)).2))]) rfl (og rfl (op_move rfl rfl rfl)) ?_
          refine dr_put (d := 47) (v := .d (.fl (.int .i64 ((unt l (ix m k) (ix c k)).1)))) rfl (og rfl (op_extract rfl rfl rfl rfl)) ?_
          refine dr_put (d := 48) (v := .d (.fl (.int .i64 ((unt l (ix m k) (ix c k)).2)))) rfl (og rfl (op_extract rfl rfl rfl rfl)) ?_
          refine dr_put (d := 15) (v := .d (.fl (.int .i64 ((unt l (ix m k) (ix c k)).1)))) rfl (og rfl (op_assign rfl rfl rfl)) ?_
          refine dr_put (d := 16) (v := .d (.fl (.int .i64 ((unt l (ix m k) (ix c k)).2)))) rfl (og rfl (op_assign rfl rfl rfl)) ?_
          refine dr_done rfl (by kernel_rfl) (by kernel_rfl) ?_
          refine a_seq ?_
          refine a_rseq ?_
          refine rg_put (d := 49) (v := .d (.fl (.int .i64 ((unt l (ix m k) (ix c k)).2)))) rfl (og rfl (op_move rfl rfl rfl)) ?_
          refine rg_put (d := 50) (v := .d (.fl (.bool (((unt l (ix m k) (ix c k)).2 != 0))))) rfl (og rfl (op_bin rfl rfl rfl (b_neq _ _ _ _) rfl)) ?_
          refine rg_put (d := 51) (v := .d (.fl (.bool (((unt l (ix m k) (ix c k)).2 != 0))))) rfl (og rfl (op_move rfl rfl rfl)) ?_
          rcases fot (((unt l (ix m k) (ix c k)).2 != 0)) with h12 | h12
          · skip
            have h13 := f_bne h12
            refine rg_put (d := 52) (v := .d (.fl undef)) rfl (on rfl rfl rfl h12) ?_
            refine rg_put (d := 53) (v := .d (.fl undef)) rfl (on rfl rfl rfl h12) ?_
            refine rg_put (d := 54) (v := .d (.fl (.bool false))) rfl (og rfl (op_pick rfl rfl (by rw [h12]; rfl) rfl)) ?_
            refine rg_put (d := 55) (v := .d (.fl (.bool false))) rfl (og rfl (op_move rfl rfl rfl)) ?_
            refine rg_put (d := 56) (v := .d (.fl undef)) rfl (on rfl rfl rfl rfl) ?_
            refine rg_put (d := 57) (v := .d (.fl undef)) rfl (on rfl rfl rfl rfl) ?_
            refine rg_put (d := 58) (v := .d (.fl (.bool false))) rfl (og rfl (op_pick rfl rfl rfl rfl)) ?_
            refine rg_done rfl ?_
            refine a_condF rfl rfl ?_
            refine a_skip ?_
            show A _ _ _ _ _ _ _
            refine a_rseq ?_
            refine rg_put (d := 60) (v := .d (.fl (.int .i64 ((unt l (ix m k) (ix c k)).2)))) rfl (og rfl (op_move rfl rfl rfl)) ?_
            refine rg_put (d := 61) (v := .d (.fl (.bool (((unt l (ix m k) (ix c k)).2 != 0))))) rfl (og rfl (op_bin rfl rfl rfl (b_neq _ _ _ _) rfl)) ?_
            refine rg_put (d := 62) (v := .d (.fl (.bool (((unt l (ix m k) (ix c k)).2 != 0))))) rfl (og rfl (op_move rfl rfl rfl)) ?_
            refine rg_put (d := 63) (v := .d (.fl (.int .i64 ((unt l (ix m k) (ix c k)).1)))) rfl (oy rfl rfl rfl h12 (op_move rfl rfl rfl)) ?_
            refine rg_put (d := 64) (v := .d (.fl (.int .i64 t))) rfl (oy rfl rfl rfl h12 (op_move rfl rfl rfl)) ?_
            refine rg_put (d := 65) (v := .d (.fl (.bool ((decide (t < (unt l (ix m k) (ix c k)).1)))))) rfl (oy rfl rfl rfl h12 (op_bin rfl rfl rfl (b_gtr _ _ _ _) rfl)) ?_
            refine rg_put (d := 66) (v := .d (.fl (.bool ((decide (t < (unt l (ix m k) (ix c k)).1)))))) rfl (og rfl (op_pick rfl rfl (by rw [h12]; rfl) rfl)) ?_
            refine rg_done rfl ?_
            refine a_cond rfl (fun h14 => ?_) (fun h14 => ?_)
            · skip
              have h15 := t_dec h14
              refine a_region ?_
              refine rg_put (d := 67) (v := .ow 201) rfl (og rfl (op_move rfl rfl rfl)) ?_
              refine rg_put (d := 68) (v := .d (.sl 5 (List.map eIm m))) rfl (og rfl (op_move rfl rfl rfl)) ?_
              refine rg_put (d := 69) (v := .d (.fl (.int .i64 (k : Int)))) rfl (og rfl (op_move rfl rfl rfl)) ?_
              refine rg_put (d := 70) (v := .el ((eIm (ix m k)))) rfl (og rfl (s_index rfl Try.underlying36 ti26 rfl rfl (by omega) (row_at (by omega)) rfl)) ?_
              refine rg_put (d := 71) (v := .d (.ag (eIm (ix m k)))) rfl (og rfl (of_eff (s_load_els rfl Try.underlying26 rfl ti26 rfl rfl rfl) rfl)) ?_
              refine rg_put (d := 72) (v := .d (.ag (eIm (ix m k)))) rfl (og rfl (op_call rfl Try.func30 nm30 rfl (.cons rfl (.d _) .nil) (copied_data (ix m k) (by have := hb k (by omega); omega)) rfl)) ?_
              refine rg_put (d := 73) (v := .d (.sl 5 (List.map eIm [(ix m k)]))) rfl (og rfl (of_eff (op_slices rfl Try.underlying36 ti26 rfl rfl rfl (by kernel_rfl) (xs := [.ag (eIm (ix m k))]) rfl rfl (.cons rfl rfl (.d _) rfl rfl rfl .nil) rfl) rfl)) ?_
              refine rg_nam (d := 74) (v := .ow 101) (m := 101) (nw := [(101, .ow 26 5 (List.map eIm (((kA l m c t k) ++ [(ix m k)])))), (201, .no)]) rfl (og rfl (s_append 101 rfl Try.underlying36 ti26 rfl rfl rfl rfl rfl (.d _) (by simp only [List.length_cons, List.length_nil]; omega) rfl)) rfl ?_
              refine rg_put (d := 12) (v := .ow 101) rfl (og rfl (op_assign rfl rfl rfl)) ?_
              refine rg_done rfl ?_
              show A _ _ _ _ _ _ _
              refine a_region ?_
              refine rg_put (d := 34) (v := .d (.fl (.int .i64 (k : Int)))) rfl (og rfl (op_move rfl rfl rfl)) ?_
              refine rg_put (d := 35) (v := .d (.fl (.int .i64 (((k : Int) + 1))))) rfl (og rfl (op_bin rfl rfl rfl (fun x y w => b_add64 _ _ _ x y w (by omega)) rfl)) ?_
              refine rg_put (d := 14) (v := .d (.fl (.int .i64 (((k : Int) + 1))))) rfl (og rfl (op_assign rfl rfl rfl)) ?_
              refine rg_done rfl ?_
              have hkp : kp l m c t k = true := by
                unfold kp; simp only [h1, h4, h7, h9, h10, h12, (bq_f h12), h14, show ((unt l (ix m k) (ix c k)).2 == 32) = false by rw [f_bne h12]; rfl, show ((unt l (ix m k) (ix c k)).2 == 11) = false by rw [f_bne h12]; rfl]; rfl
              have he : er l m c t k = 0 := by
                unfold er; rw [hkp]; rfl
              show ∃ i, _ ∧ _ ∧ Imp _ _ _ _ _
              refine ⟨k + 1, ⟨by omega, fe_no (by omega) hc he⟩, by omega, imp_ren (fun m => bif Nat.beq m 201 then 101 else m) rfl ⟨rfl, rfl, rfl, rfl, rfl, rfl, rfl, rfl, (by first | rfl | exact ci (by omega) | exact ci (by simp) | exact cd (by simp) | simp), rfl, rfl, trivial⟩ ⟨(congrArg (fun x => Ob.ow 26 5 (List.map eIm x)) (kA_yes hkp)), (congrArg (fun x => Ob.ow 9 1 (List.map rS x)) (kB_yes hkp)), trivial⟩⟩
            · skip
              have h16 := f_dec h14
              refine a_region ?_
              refine rg_put (d := 75) (v := .ow 202) rfl (og rfl (op_move rfl rfl rfl)) ?_
              refine rg_put (d := 76) (v := .d (.sl 5 (List.map eIm m))) rfl (og rfl (op_move rfl rfl rfl)) ?_
              refine rg_put (d := 77) (v := .d (.fl (.int .i64 (k : Int)))) rfl (og rfl (op_move rfl rfl rfl)) ?_
              refine rg_put (d := 78) (v := .el ((eIm (ix m k)))) rfl (og rfl (s_index rfl Try.underlying36 ti26 rfl rfl (by omega) (row_at (by omega)) rfl)) ?_
              refine rg_put (d := 79) (v := .el ((List.drop 0 ((eIm (ix m k)))))) rfl (og rfl (of_eff (s_field_el rfl Try.underlying26 rfl ti9 rfl rfl rfl) rfl)) ?_
              refine rg_put (d := 80) (v := .d (.fl (.string ((ix m k).id)))) rfl (og rfl (op_load_el rfl Try.underlying9 rfl rfl rfl rfl)) ?_
              refine rg_put (d := 81) (v := .d (.sl 1 (List.map rS [(ix m k).id]))) rfl (og rfl (of_eff (op_slices rfl Try.underlying23 ti9 rfl rfl rfl (by kernel_rfl) (xs := [.fl (.string ((ix m k).id))]) rfl rfl (.cons rfl rfl (.d _) rfl rfl rfl .nil) rfl) rfl)) ?_
              refine rg_nam (d := 82) (v := .ow 102) (m := 102) (nw := [(102, .ow 9 1 (List.map rS (((kB l m c t k) ++ [(ix m k).id])))), (202, .no)]) rfl (og rfl (s_append 102 rfl Try.underlying23 ti9 rfl rfl rfl rfl rfl (.d _) (by simp only [List.length_cons, List.length_nil]; omega) rfl)) rfl ?_
              refine rg_put (d := 13) (v := .ow 102) rfl (og rfl (op_assign rfl rfl rfl)) ?_
              refine rg_done rfl ?_
              show A _ _ _ _ _ _ _
              refine a_region ?_
              refine rg_put (d := 34) (v := .d (.fl (.int .i64 (k : Int)))) rfl (og rfl (op_move rfl rfl rfl)) ?_
              refine rg_put (d := 35) (v := .d (.fl (.int .i64 (((k : Int) + 1))))) rfl (og rfl (op_bin rfl rfl rfl (fun x y w => b_add64 _ _ _ x y w (by omega)) rfl)) ?_
              refine rg_put (d := 14) (v := .d (.fl (.int .i64 (((k : Int) + 1))))) rfl (og rfl (op_assign rfl rfl rfl)) ?_
              refine rg_done rfl ?_
              have hkp : kp l m c t k = false := by
                unfold kp; simp only [h1, h4, h7, h9, h10, h12, (bq_f h12), h14, show ((unt l (ix m k) (ix c k)).2 == 32) = false by rw [f_bne h12]; rfl, show ((unt l (ix m k) (ix c k)).2 == 11) = false by rw [f_bne h12]; rfl]; rfl
              have he : er l m c t k = 0 := by
                unfold er; rw [hkp]; exact f_bne h12
              show ∃ i, _ ∧ _ ∧ Imp _ _ _ _ _
              refine ⟨k + 1, ⟨by omega, fe_no (by omega) hc he⟩, by omega, imp_ren (fun m => bif Nat.beq m 202 then 102 else m) rfl ⟨rfl, rfl, rfl, rfl, rfl, rfl, rfl, rfl, (by first | rfl | exact ci (by omega) | exact ci (by simp) | exact cd (by simp) | simp), rfl, rfl, trivial⟩ ⟨(congrArg (fun x => Ob.ow 26 5 (List.map eIm x)) (kA_no hkp)), (congrArg (fun x => Ob.ow 9 1 (List.map rS x)) (kB_no hkp)), trivial⟩⟩
          · skip
            have h17 := t_bne h12
            refine rg_put (d := 52) (v := .d (.fl (.int .i64 ((unt l (ix m k) (ix c k)).2)))) rfl (oy rfl rfl rfl h12 (op_move rfl rfl rfl)) ?_
            refine rg_put (d := 53) (v := .d (.fl (.bool (((unt l (ix m k) (ix c k)).2 != 32))))) rfl (oy rfl rfl rfl h12 (op_bin rfl rfl rfl (b_neq _ _ _ _) rfl)) ?_
            refine rg_put (d := 54) (v := .d (.fl (.bool (((unt l (ix m k) (ix c k)).2 != 32))))) rfl (og rfl (op_pick rfl rfl (by rw [h12]; rfl) rfl)) ?_
            refine rg_put (d := 55) (v := .d (.fl (.bool (((unt l (ix m k) (ix c k)).2 != 32))))) rfl (og rfl (op_move rfl rfl rfl)) ?_
            rcases fot (((unt l (ix m k) (ix c k)).2 != 32)) with h18 | h18
            · skip
              have h19 := f_bne h18
              refine rg_put (d := 56) (v := .d (.fl undef)) rfl (on rfl rfl rfl h18) ?_
              refine rg_put (d := 57) (v := .d (.fl undef)) rfl (on rfl rfl rfl h18) ?_
              refine rg_put (d := 58) (v := .d (.fl (.bool false))) rfl (og rfl (op_pick rfl rfl (by rw [h18]; rfl) rfl)) ?_
              refine rg_done rfl ?_
              refine a_condF rfl rfl ?_
              refine a_skip ?_
              show A _ _ _ _ _ _ _
              refine a_rseq ?_
              refine rg_put (d := 60) (v := .d (.fl (.int .i64 ((unt l (ix m k) (ix c k)).2)))) rfl (og rfl (op_move rfl rfl rfl)) ?_
              refine rg_put (d := 61) (v := .d (.fl (.bool (((unt l (ix m k) (ix c k)).2 != 0))))) rfl (og rfl (op_bin rfl rfl rfl (b_neq _ _ _ _) rfl)) ?_
              refine rg_put (d := 62) (v := .d (.fl (.bool (((unt l (ix m k) (ix c k)).2 != 0))))) rfl (og rfl (op_move rfl rfl rfl)) ?_
              refine rg_put (d := 63) (v := .d (.fl undef)) rfl (on rfl rfl rfl h12) ?_
              refine rg_put (d := 64) (v := .d (.fl undef)) rfl (on rfl rfl rfl h12) ?_
              refine rg_put (d := 65) (v := .d (.fl undef)) rfl (on rfl rfl rfl h12) ?_
              refine rg_put (d := 66) (v := .d (.fl (.bool true))) rfl (og rfl (op_pick rfl rfl (by rw [h12]; rfl) rfl)) ?_
              refine rg_done rfl ?_
              refine a_condK rfl rfl ?_
              refine a_region ?_
              refine rg_put (d := 67) (v := .ow 201) rfl (og rfl (op_move rfl rfl rfl)) ?_
              refine rg_put (d := 68) (v := .d (.sl 5 (List.map eIm m))) rfl (og rfl (op_move rfl rfl rfl)) ?_
              refine rg_put (d := 69) (v := .d (.fl (.int .i64 (k : Int)))) rfl (og rfl (op_move rfl rfl rfl)) ?_
              refine rg_put (d := 70) (v := .el ((eIm (ix m k)))) rfl (og rfl (s_index rfl Try.underlying36 ti26 rfl rfl (by omega) (row_at (by omega)) rfl)) ?_
              refine rg_put (d := 71) (v := .d (.ag (eIm (ix m k)))) rfl (og rfl (of_eff (s_load_els rfl Try.underlying26 rfl ti26 rfl rfl rfl) rfl)) ?_
              refine rg_put (d := 72) (v := .d (.ag (eIm (ix m k)))) rfl (og rfl (op_call rfl Try.func30 nm30 rfl (.cons rfl (.d _) .nil) (copied_data (ix m k) (by have := hb k (by omega); omega)) rfl)) ?_
              refine rg_put (d := 73) (v := .d (.sl 5 (List.map eIm [(ix m k)]))) rfl (og rfl (of_eff (op_slices rfl Try.underlying36 ti26 rfl rfl rfl (by kernel_rfl) (xs := [.ag (eIm (ix m k))]) rfl rfl (.cons rfl rfl (.d _) rfl rfl rfl .nil) rfl) rfl)) ?_
              refine rg_nam (d := 74) (v := .ow 103) (m := 103) (nw := [(103, .ow 26 5 (List.map eIm (((kA l m c t k) ++ [(ix m k)])))), (201, .no)]) rfl (og rfl (s_append 103 rfl Try.underlying36 ti26 rfl rfl rfl rfl rfl (.d _) (by simp only [List.length_cons, List.length_nil]; omega) rfl)) rfl ?_
              refine rg_put (d := 12) (v := .ow 103) rfl (og rfl (op_assign rfl rfl rfl)) ?_
              refine rg_done rfl ?_
              show A _ _ _ _ _ _ _
              refine a_region ?_
              refine rg_put (d := 34) (v := .d (.fl (.int .i64 (k : Int)))) rfl (og rfl (op_move rfl rfl rfl)) ?_
              refine rg_put (d := 35) (v := .d (.fl (.int .i64 (((k : Int) + 1))))) rfl (og rfl (op_bin rfl rfl rfl (fun x y w => b_add64 _ _ _ x y w (by omega)) rfl)) ?_
              refine rg_put (d := 14) (v := .d (.fl (.int .i64 (((k : Int) + 1))))) rfl (og rfl (op_assign rfl rfl rfl)) ?_
              refine rg_done rfl ?_
              have hkp : kp l m c t k = true := by
                unfold kp; simp only [h1, h4, h7, h9, h10, h12, (bq_t h12), h18, (bq_f h18)]; rfl
              have he : er l m c t k = 0 := by
                unfold er; rw [hkp]; rfl
              show ∃ i, _ ∧ _ ∧ Imp _ _ _ _ _
              refine ⟨k + 1, ⟨by omega, fe_no (by omega) hc he⟩, by omega, imp_ren (fun m => bif Nat.beq m 201 then 103 else m) rfl ⟨rfl, rfl, rfl, rfl, rfl, rfl, rfl, rfl, (by first | rfl | exact ci (by omega) | exact ci (by simp) | exact cd (by simp) | simp), rfl, rfl, trivial⟩ ⟨(congrArg (fun x => Ob.ow 26 5 (List.map eIm x)) (kA_yes hkp)), (congrArg (fun x => Ob.ow 9 1 (List.map rS x)) (kB_yes hkp)), trivial⟩⟩
            · skip
              have h20 := t_bne h18
              refine rg_put (d := 56) (v := .d (.fl (.int .i64 ((unt l (ix m k) (ix c k)).2)))) rfl (oy rfl rfl rfl h18 (op_move rfl rfl rfl)) ?_
              refine rg_put (d := 57) (v := .d (.fl (.bool (((unt l (ix m k) (ix c k)).2 != 11))))) rfl (oy rfl rfl rfl h18 (op_bin rfl rfl rfl (b_neq _ _ _ _) rfl)) ?_
              refine rg_put (d := 58) (v := .d (.fl (.bool (((unt l (ix m k) (ix c k)).2 != 11))))) rfl (og rfl (op_pick rfl rfl (by rw [h18]; rfl) rfl)) ?_
              refine rg_done rfl ?_
              refine a_cond rfl (fun h21 => ?_) (fun h21 => ?_)
              · skip
                have h22 := t_bne h21
                refine a_rseq ?_
                refine rg_put (d := 59) (v := .d (.fl (.int .i64 ((unt l (ix m k) (ix c k)).2)))) rfl (og rfl (op_move rfl rfl rfl)) ?_
                refine rg_put (d := 8) (v := .d (.fl (.slice none 0 0))) rfl (og rfl (op_assign rfl rfl rfl)) ?_
                refine rg_put (d := 9) (v := .d (.fl (.slice none 0 0))) rfl (og rfl (op_assign rfl rfl rfl)) ?_
                refine rg_put (d := 10) (v := .d (.fl (.int .i64 ((unt l (ix m k) (ix c k)).2)))) rfl (og rfl (op_assign rfl rfl rfl)) ?_
                refine rg_done rfl ?_
                refine a_ret ?_
                show ∃ ds, ResL _ _ _ ds ∧ RV.of ds = _
                refine ⟨[.sl 5 (List.map eIm []), .sl 1 (List.map rS []), .fl (.int .i64 ((unt l (ix m k) (ix c k)).2))], (.cons (.tmp rfl (.cv (Cv.nil _))) (.cons (.tmp rfl (.cv (Cv.nil _))) (.cons (.tmp rfl (.d _)) .nil))), ?_⟩
                have hkp : kp l m c t k = false := by
                  unfold kp; simp only [h1, h4, h7, h9, h10, h12, (bq_t h12), h18, (bq_t h18), h21, (bq_t h21)]; rfl
                have hz := t_bne h12
                have he : er l m c t k = (unt l (ix m k) (ix c k)).2 := by unfold er; rw [hkp]; rfl
                have hf := fe_yes (by omega) hc he hz
                have hu : purge l m c t = (([], []), (unt l (ix m k) (ix c k)).2) := by
                  unfold purge; simp only [h1, h4, h7]; rw [hf]; exact if_neg hz
                rw [hu]; rfl
              · skip
                have h23 := f_bne h21
                refine a_skip ?_
                show A _ _ _ _ _ _ _
                refine a_rseq ?_
                refine rg_put (d := 60) (v := .d (.fl (.int .i64 ((unt l (ix m k) (ix c k)).2)))) rfl (og rfl (op_move rfl rfl rfl)) ?_
                refine rg_put (d := 61) (v := .d (.fl (.bool (((unt l (ix m k) (ix c k)).2 != 0))))) rfl (og rfl (op_bin rfl rfl rfl (b_neq _ _ _ _) rfl)) ?_
                refine rg_put (d := 62) (v := .d (.fl (.bool (((unt l (ix m k) (ix c k)).2 != 0))))) rfl (og rfl (op_move rfl rfl rfl)) ?_
                refine rg_put (d := 63) (v := .d (.fl undef)) rfl (on rfl rfl rfl h12) ?_
                refine rg_put (d := 64) (v := .d (.fl undef)) rfl (on rfl rfl rfl h12) ?_
                refine rg_put (d := 65) (v := .d (.fl undef)) rfl (on rfl rfl rfl h12) ?_
                refine rg_put (d := 66) (v := .d (.fl (.bool true))) rfl (og rfl (op_pick rfl rfl (by rw [h12]; rfl) rfl)) ?_
                refine rg_done rfl ?_
                refine a_condK rfl rfl ?_
                refine a_region ?_
                refine rg_put (d := 67) (v := .ow 201) rfl (og rfl (op_move rfl rfl rfl)) ?_
                refine rg_put (d := 68) (v := .d (.sl 5 (List.map eIm m))) rfl (og rfl (op_move rfl rfl rfl)) ?_
                refine rg_put (d := 69) (v := .d (.fl (.int .i64 (k : Int)))) rfl (og rfl (op_move rfl rfl rfl)) ?_
                refine rg_put (d := 70) (v := .el ((eIm (ix m k)))) rfl (og rfl (s_index rfl Try.underlying36 ti26 rfl rfl (by omega) (row_at (by omega)) rfl)) ?_
                refine rg_put (d := 71) (v := .d (.ag (eIm (ix m k)))) rfl (og rfl (of_eff (s_load_els rfl Try.underlying26 rfl ti26 rfl rfl rfl) rfl)) ?_
                refine rg_put (d := 72) (v := .d (.ag (eIm (ix m k)))) rfl (og rfl (op_call rfl Try.func30 nm30 rfl (.cons rfl (.d _) .nil) (copied_data (ix m k) (by have := hb k (by omega); omega)) rfl)) ?_
                refine rg_put (d := 73) (v := .d (.sl 5 (List.map eIm [(ix m k)]))) rfl (og rfl (of_eff (op_slices rfl Try.underlying36 ti26 rfl rfl rfl (by kernel_rfl) (xs := [.ag (eIm (ix m k))]) rfl rfl (.cons rfl rfl (.d _) rfl rfl rfl .nil) rfl) rfl)) ?_
                refine rg_nam (d := 74) (v := .ow 104) (m := 104) (nw := [(104, .ow 26 5 (List.map eIm (((kA l m c t k) ++ [(ix m k)])))), (201, .no)]) rfl (og rfl (s_append 104 rfl Try.underlying36 ti26 rfl rfl rfl rfl rfl (.d _) (by simp only [List.length_cons, List.length_nil]; omega) rfl)) rfl ?_
                refine rg_put (d := 12) (v := .ow 104) rfl (og rfl (op_assign rfl rfl rfl)) ?_
                refine rg_done rfl ?_
                show A _ _ _ _ _ _ _
                refine a_region ?_
                refine rg_put (d := 34) (v := .d (.fl (.int .i64 (k : Int)))) rfl (og rfl (op_move rfl rfl rfl)) ?_
                refine rg_put (d := 35) (v := .d (.fl (.int .i64 (((k : Int) + 1))))) rfl (og rfl (op_bin rfl rfl rfl (fun x y w => b_add64 _ _ _ x y w (by omega)) rfl)) ?_
                refine rg_put (d := 14) (v := .d (.fl (.int .i64 (((k : Int) + 1))))) rfl (og rfl (op_assign rfl rfl rfl)) ?_
                refine rg_done rfl ?_
                have hkp : kp l m c t k = true := by
                  unfold kp; simp only [h1, h4, h7, h9, h10, h12, (bq_t h12), h18, (bq_t h18), h21, (bq_f h21)]; rfl
                have he : er l m c t k = 0 := by
                  unfold er; rw [hkp]; rfl
                show ∃ i, _ ∧ _ ∧ Imp _ _ _ _ _
                refine ⟨k + 1, ⟨by omega, fe_no (by omega) hc he⟩, by omega, imp_ren (fun m => bif Nat.beq m 201 then 104 else m) rfl ⟨rfl, rfl, rfl, rfl, rfl, rfl, rfl, rfl, (by first | rfl | exact ci (by omega) | exact ci (by simp) | exact cd (by simp) | simp), rfl, rfl, trivial⟩ ⟨(congrArg (fun x => Ob.ow 26 5 (List.map eIm x)) (kA_yes hkp)), (congrArg (fun x => Ob.ow 9 1 (List.map rS x)) (kB_yes hkp)), trivial⟩⟩
        · skip
          have h24 := f_dec h10
          refine a_exit ?_
          show A _ _ _ _ _ _ _
          refine a_rseq ?_
          refine rg_put (d := 83) (v := .ow 201) rfl (og rfl (op_move rfl rfl rfl)) ?_
          refine rg_put (d := 84) (v := .ow 202) rfl (og rfl (op_move rfl rfl rfl)) ?_
          refine rg_put (d := 8) (v := .ow 201) rfl (og rfl (op_assign rfl rfl rfl)) ?_
          refine rg_put (d := 9) (v := .ow 202) rfl (og rfl (op_assign rfl rfl rfl)) ?_
          refine rg_put (d := 10) (v := .d (.fl (.int .i64 0))) rfl (og rfl (op_assign rfl rfl rfl)) ?_
          refine rg_done rfl ?_
          refine a_ret ?_
          show ∃ ds, ResL _ _ _ ds ∧ RV.of ds = _
          refine ⟨[.sl 5 (List.map eIm (kA l m c t k)), .sl 1 (List.map rS (kB l m c t k)), .fl (.int .i64 0)], (.cons (.tmp rfl (.ow rfl)) (.cons (.tmp rfl (.ow rfl)) (.cons (.tmp rfl (.d _)) .nil))), ?_⟩
          have hkk : k = m.length := by omega
          subst hkk
          have hf := hc.trans (fe_end (by omega))
          have hu : purge l m c t = ((kA l m c t m.length, kB l m c t m.length), 0) := by
            unfold purge; simp only [h1, h4, h7]; exact if_pos hf
          rw [hu]; rfl
end Go.Proofs.Yteplcjhnmmpicaa.Wk
