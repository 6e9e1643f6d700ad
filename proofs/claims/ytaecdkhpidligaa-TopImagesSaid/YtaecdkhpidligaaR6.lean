/- How long an image is kept, by the map. No condition. -/
import Derived.Test.YtaecdkhpidligaaR5
set_option linter.unusedSimpArgs false
set_option linter.unusedVariables false
namespace Go.Proofs.Ytaecdkhpidligaa.Wr
open Go Go.RowKit Go.Proofs.Ytaecdkhpidligaa.Av Go.Proofs.Ytaecdkhpidligaa.Wk
set_option maxHeartbeats 4000000 in
set_option maxRecDepth 100000 in
theorem until_map (l : List Kp) (im : Im) (c : Int) (h0 : ck l = 0) : Ctr Try.prog 17 [.mp (ents l), .ag (eIm im), .fl (.int .i64 c)] (.tu [.fl (.int .i64 (unt l im c).1), .fl (.int .i64 (unt l im c).2)]) := by
  refine ctr (n := 52) (rs := #[.tmp 6, .tmp 7]) (L := [(0, .d (.mp (ents l))), (1, .d (.ag (eIm im))), (2, .d (.fl (.int .i64 c)))]) Try.func17 rfl rfl rfl rfl rfl (fun w0 U0 => ?_)
  refine a_rseq ?_
  refine rg_nam (d := 4) (v := .pt 101 0) (m := 101) (nw := [(101, .bx 40 (eIm im))]) rfl (og rfl (of_eff (op_box 101 rfl rfl rfl rfl) rfl)) rfl ?_
  refine rg_put (d := 6) (v := .d (.fl (.int .i64 0))) rfl (og rfl (op_assign rfl rfl rfl)) ?_
  refine rg_put (d := 7) (v := .d (.fl (.int .i64 0))) rfl (og rfl (op_assign rfl rfl rfl)) ?_
  refine rg_done rfl ?_
  refine a_rseq ?_
  refine rg_put (d := 11) (v := .d (.mp (ents l))) rfl (og rfl (op_move rfl rfl rfl)) ?_
  refine rg_put (d := 12) (v := .pt 101 2) rfl (og rfl (of_eff (s_field_pt rfl Try.underlying40 rfl ti3 rfl rfl rfl) rfl)) ?_
  refine rg_put (d := 13) (v := .d (.fl (.int .i64 im.purpose))) rfl (og rfl (op_load_pt rfl Try.underlying3 rfl rfl rfl rfl rfl)) ?_
  rcases h1 : rule l im.purpose with _ | qh1
  · skip
    refine rg_put (d := 14) (v := .tu [.ag (eKp (Kp.mk 0 0 0)), .fl (.bool false)]) rfl (og rfl (op_lookup rfl Try.underlying51 Try.underlying3 rfl ti44 rfl rfl (.d _) rfl (r := none) ((mfind_map .i64 Kp.purpose (fun x => .ag (eKp x)) _ _).trans (congrArg (fun o => some (Option.map (fun x => DV.ag (eKp x)) o)) h1)) rfl)) ?_
    refine rg_put (d := 10) (v := .tu [.ag (eKp (Kp.mk 0 0 0)), .fl (.bool false)]) rfl (og rfl (op_move rfl rfl rfl)) ?_
    refine rg_put (d := 15) (v := .d (.ag (eKp (Kp.mk 0 0 0)))) rfl (og rfl (op_extract rfl rfl rfl rfl)) ?_
    refine rg_put (d := 16) (v := .d (.fl (.bool false))) rfl (og rfl (op_extract rfl rfl rfl rfl)) ?_
    refine rg_nam (d := 8) (v := .pt 102 0) (m := 102) (nw := [(102, .bx 44 [.fl (.int .i64 0), .fl (.int .i64 0), .fl (.int .i64 0)])]) rfl (og rfl (of_eff (s_alloc 102 rfl ti44 (by kernel_rfl) rfl) rfl)) rfl ?_
    refine rg_sto (nw := [(102, .bx 44 ((eKp (Kp.mk 0 0 0))))]) rfl (og rfl (of_eff (s_store rfl rfl ti44 rfl rfl rfl rfl rfl rfl) rfl)) ?_
    refine rg_put (d := 9) (v := .d (.fl (.bool false))) rfl (og rfl (op_assign rfl rfl rfl)) ?_
    refine rg_done rfl ?_
    refine a_seq ?_
    refine a_block ?_
    refine a_rseq ?_
    refine rg_put (d := 18) (v := .pt 101 1) rfl (og rfl (of_eff (s_field_pt rfl Try.underlying40 rfl ti3 rfl rfl rfl) rfl)) ?_
    refine rg_put (d := 19) (v := .d (.fl (.int .i64 im.time))) rfl (og rfl (op_load_pt rfl Try.underlying3 rfl rfl rfl rfl rfl)) ?_
    refine rg_put (d := 20) (v := .d (.fl (.bool (isT im.time)))) rfl (og rfl (op_call rfl Try.func16 nm16 rfl (.cons rfl (.d _) .nil) (isTime28 im.time) rfl)) ?_
    refine rg_put (d := 21) (v := .d (.fl (.bool ((!(isT im.time)))))) rfl (og rfl (op_un rfl rfl (u_not _) rfl)) ?_
    refine rg_put (d := 22) (v := .d (.fl (.bool ((!(isT im.time)))))) rfl (og rfl (op_move rfl rfl rfl)) ?_
    rcases fot ((!(isT im.time))) with h2 | h2
    · skip
      have h3 := f_not h2
      have := isT_t h3
      refine rg_put (d := 23) (v := .d (.fl (.int .i64 c))) rfl (oy rfl rfl rfl h2 (op_move rfl rfl rfl)) ?_
      refine rg_put (d := 24) (v := .d (.fl (.bool (isT c)))) rfl (oy rfl rfl rfl h2 (op_call rfl Try.func16 nm16 rfl (.cons rfl (.d _) .nil) (isTime28 c) rfl)) ?_
      refine rg_put (d := 25) (v := .d (.fl (.bool ((!(isT c)))))) rfl (oy rfl rfl rfl h2 (op_un rfl rfl (u_not _) rfl)) ?_
      refine rg_put (d := 26) (v := .d (.fl (.bool ((!(isT c)))))) rfl (oy rfl rfl rfl h2 (op_move rfl rfl rfl)) ?_
      rcases fot ((!(isT c))) with h4 | h4
      · skip
        have h5 := f_not h4
        have := isT_t h5
        refine rg_put (d := 27) (v := .d (.fl undef)) rfl (on rfl rfl rfl h4) ?_
        refine rg_put (d := 28) (v := .d (.fl undef)) rfl (on rfl rfl rfl h4) ?_
        refine rg_put (d := 29) (v := .d (.fl (.bool false))) rfl (oy rfl rfl rfl h2 (op_pick rfl rfl (by rw [h4]; rfl) rfl)) ?_
        refine rg_put (d := 30) (v := .d (.fl (.bool false))) rfl (og rfl (op_pick rfl rfl (by rw [h2]; rfl) rfl)) ?_
        refine rg_put (d := 17) (v := .d (.fl (.bool false))) rfl (og rfl (op_assign rfl rfl rfl)) ?_
        refine rg_done rfl ?_
        refine a_condF rfl rfl ?_
        refine a_rseq ?_
        refine rg_put (d := 32) (v := .d (.fl (.bool false))) rfl (og rfl (op_move rfl rfl rfl)) ?_
        refine rg_put (d := 33) (v := .d (.fl (.bool (!false)))) rfl (og rfl (op_un rfl rfl (u_not _) rfl)) ?_
        refine rg_put (d := 31) (v := .d (.fl (.bool (!false)))) rfl (og rfl (op_assign rfl rfl rfl)) ?_
        refine rg_done rfl ?_
        refine a_condK rfl (not_t' rfl) ?_
        refine a_rseq ?_
        refine rg_put (d := 6) (v := .d (.fl (.int .i64 0))) rfl (og rfl (op_assign rfl rfl rfl)) ?_
        refine rg_put (d := 7) (v := .d (.fl (.int .i64 10))) rfl (og rfl (op_assign rfl rfl rfl)) ?_
        refine rg_done rfl ?_
        refine a_ret ?_
        show ∃ ds, ResL _ _ _ ds ∧ RV.of ds = _
        refine ⟨[.fl (.int .i64 0), .fl (.int .i64 10)], (.cons (.tmp rfl (.d _)) (.cons (.tmp rfl (.d _)) .nil)), ?_⟩
        have hu : unt l im c = (0, 10) := by
          unfold unt; simp only [h2, h3, h4, h5, show (ck l != 0) = false from by rw [h0]; rfl, h1]; rfl
        rw [hu]; rfl
      · skip
        have h6 := t_not h4
        refine rg_put (d := 27) (v := .d (.fl (.int .i64 c))) rfl (oy rfl rfl rfl h4 (op_move rfl rfl rfl)) ?_
        refine rg_put (d := 28) (v := .d (.fl (.bool ((c != (-1)))))) rfl (oy rfl rfl rfl h4 (op_bin rfl rfl rfl (b_neq _ _ _ _) rfl)) ?_
        refine rg_put (d := 29) (v := .d (.fl (.bool ((c != (-1)))))) rfl (oy rfl rfl rfl h2 (op_pick rfl rfl (by rw [h4]; rfl) rfl)) ?_
        refine rg_put (d := 30) (v := .d (.fl (.bool ((c != (-1)))))) rfl (og rfl (op_pick rfl rfl (by rw [h2]; rfl) rfl)) ?_
        refine rg_put (d := 17) (v := .d (.fl (.bool ((c != (-1)))))) rfl (og rfl (op_assign rfl rfl rfl)) ?_
        refine rg_done rfl ?_
        refine a_cond rfl (fun h7 => ?_) (fun h7 => ?_)
        · skip
          have h8 := t_bne h7
          refine a_rseq ?_
          refine rg_put (d := 6) (v := .d (.fl (.int .i64 0))) rfl (og rfl (op_assign rfl rfl rfl)) ?_
          refine rg_put (d := 7) (v := .d (.fl (.int .i64 12))) rfl (og rfl (op_assign rfl rfl rfl)) ?_
          refine rg_done rfl ?_
          refine a_ret ?_
          show ∃ ds, ResL _ _ _ ds ∧ RV.of ds = _
          refine ⟨[.fl (.int .i64 0), .fl (.int .i64 12)], (.cons (.tmp rfl (.d _)) (.cons (.tmp rfl (.d _)) .nil)), ?_⟩
          have hu : unt l im c = (0, 12) := by
            unfold unt; simp only [h2, h3, h4, h6, h7, show (ck l != 0) = false from by rw [h0]; rfl, h1]; rfl
          rw [hu]; rfl
        · skip
          have h9 := f_bne h7
          refine a_rseq ?_
          refine rg_put (d := 32) (v := .d (.fl (.bool false))) rfl (og rfl (op_move rfl rfl rfl)) ?_
          refine rg_put (d := 33) (v := .d (.fl (.bool (!false)))) rfl (og rfl (op_un rfl rfl (u_not _) rfl)) ?_
          refine rg_put (d := 31) (v := .d (.fl (.bool (!false)))) rfl (og rfl (op_assign rfl rfl rfl)) ?_
          refine rg_done rfl ?_
          refine a_condK rfl (not_t' rfl) ?_
          refine a_rseq ?_
          refine rg_put (d := 6) (v := .d (.fl (.int .i64 0))) rfl (og rfl (op_assign rfl rfl rfl)) ?_
          refine rg_put (d := 7) (v := .d (.fl (.int .i64 10))) rfl (og rfl (op_assign rfl rfl rfl)) ?_
          refine rg_done rfl ?_
          refine a_ret ?_
          show ∃ ds, ResL _ _ _ ds ∧ RV.of ds = _
          refine ⟨[.fl (.int .i64 0), .fl (.int .i64 10)], (.cons (.tmp rfl (.d _)) (.cons (.tmp rfl (.d _)) .nil)), ?_⟩
          have hu : unt l im c = (0, 10) := by
            unfold unt; simp only [h2, h3, h4, h6, h7, show (ck l != 0) = false from by rw [h0]; rfl, h1]; rfl
          rw [hu]; rfl
    · skip
      have h10 := t_not h2
      refine rg_put (d := 23) (v := .d (.fl undef)) rfl (on rfl rfl rfl h2) ?_
      refine rg_put (d := 24) (v := .d (.fl undef)) rfl (on rfl rfl rfl h2) ?_
      refine rg_put (d := 25) (v := .d (.fl undef)) rfl (on rfl rfl rfl h2) ?_
      refine rg_put (d := 26) (v := .d (.fl undef)) rfl (on rfl rfl rfl h2) ?_
      refine rg_put (d := 27) (v := .d (.fl undef)) rfl (ou rfl rfl rfl) ?_
      refine rg_put (d := 28) (v := .d (.fl undef)) rfl (ou rfl rfl rfl) ?_
      refine rg_put (d := 29) (v := .d (.fl undef)) rfl (on rfl rfl rfl h2) ?_
      refine rg_put (d := 30) (v := .d (.fl (.bool true))) rfl (og rfl (op_pick rfl rfl (by rw [h2]; rfl) rfl)) ?_
      refine rg_put (d := 17) (v := .d (.fl (.bool true))) rfl (og rfl (op_assign rfl rfl rfl)) ?_
      refine rg_done rfl ?_
      refine a_condK rfl rfl ?_
      refine a_rseq ?_
      refine rg_put (d := 6) (v := .d (.fl (.int .i64 0))) rfl (og rfl (op_assign rfl rfl rfl)) ?_
      refine rg_put (d := 7) (v := .d (.fl (.int .i64 12))) rfl (og rfl (op_assign rfl rfl rfl)) ?_
      refine rg_done rfl ?_
      refine a_ret ?_
      show ∃ ds, ResL _ _ _ ds ∧ RV.of ds = _
      refine ⟨[.fl (.int .i64 0), .fl (.int .i64 12)], (.cons (.tmp rfl (.d _)) (.cons (.tmp rfl (.d _)) .nil)), ?_⟩
      have hu : unt l im c = (0, 12) := by
        unfold unt; simp only [h2, h10, show (ck l != 0) = false from by rw [h0]; rfl, h1]; rfl
      rw [hu]; rfl
  · skip
    refine rg_put (d := 14) (v := .tu [.ag (eKp qh1), .fl (.bool true)]) rfl (og rfl (op_lookup rfl Try.underlying51 Try.underlying3 rfl ti44 rfl rfl (.d _) rfl (r := (some (.ag (eKp qh1)))) ((mfind_map .i64 Kp.purpose (fun x => .ag (eKp x)) _ _).trans (congrArg (fun o => some (Option.map (fun x => DV.ag (eKp x)) o)) h1)) rfl)) ?_
    refine rg_put (d := 10) (v := .tu [.ag (eKp qh1), .fl (.bool true)]) rfl (og rfl (op_move rfl rfl rfl)) ?_
    refine rg_put (d := 15) (v := .d (.ag (eKp qh1))) rfl (og rfl (op_extract rfl rfl rfl rfl)) ?_
    refine rg_put (d := 16) (v := .d (.fl (.bool true))) rfl (og rfl (op_extract rfl rfl rfl rfl)) ?_
    refine rg_nam (d := 8) (v := .pt 103 0) (m := 103) (nw := [(103, .bx 44 [.fl (.int .i64 0), .fl (.int .i64 0), .fl (.int .i64 0)])]) rfl (og rfl (of_eff (s_alloc 103 rfl ti44 (by kernel_rfl) rfl) rfl)) rfl ?_
    refine rg_sto (nw := [(103, .bx 44 (eKp qh1))]) rfl (og rfl (of_eff (s_store rfl rfl ti44 rfl rfl rfl rfl rfl rfl) rfl)) ?_
    refine rg_put (d := 9) (v := .d (.fl (.bool true))) rfl (og rfl (op_assign rfl rfl rfl)) ?_
    refine rg_done rfl ?_
    refine a_seq ?_
    refine a_block ?_
    refine a_rseq ?_
    refine rg_put (d := 18) (v := .pt 101 1) rfl (og rfl (of_eff (s_field_pt rfl Try.underlying40 rfl ti3 rfl rfl rfl) rfl)) ?_
    refine rg_put (d := 19) (v := .d (.fl (.int .i64 im.time))) rfl (og rfl (op_load_pt rfl Try.underlying3 rfl rfl rfl rfl rfl)) ?_
    refine rg_put (d := 20) (v := .d (.fl (.bool (isT im.time)))) rfl (og rfl (op_call rfl Try.func16 nm16 rfl (.cons rfl (.d _) .nil) (isTime28 im.time) rfl)) ?_
    refine rg_put (d := 21) (v := .d (.fl (.bool ((!(isT im.time)))))) rfl (og rfl (op_un rfl rfl (u_not _) rfl)) ?_
    refine rg_put (d := 22) (v := .d (.fl (.bool ((!(isT im.time)))))) rfl (og rfl (op_move rfl rfl rfl)) ?_
    rcases fot ((!(isT im.time))) with h11 | h11
    · skip
      have h12 := f_not h11
      have := isT_t h12
      refine rg_put (d := 23) (v := .d (.fl (.int .i64 c))) rfl (oy rfl rfl rfl h11 (op_move rfl rfl rfl)) ?_
      refine rg_put (d := 24) (v := .d (.fl (.bool (isT c)))) rfl (oy rfl rfl rfl h11 (op_call rfl Try.func16 nm16 rfl (.cons rfl (.d _) .nil) (isTime28 c) rfl)) ?_
      refine rg_put (d := 25) (v := .d (.fl (.bool ((!(isT c)))))) rfl (oy rfl rfl rfl h11 (op_un rfl rfl (u_not _) rfl)) ?_
      refine rg_put (d := 26) (v := .d (.fl (.bool ((!(isT c)))))) rfl (oy rfl rfl rfl h11 (op_move rfl rfl rfl)) ?_
      rcases fot ((!(isT c))) with h13 | h13
      · skip
        have h14 := f_not h13
        have := isT_t h14
        refine rg_put (d := 27) (v := .d (.fl undef)) rfl (on rfl rfl rfl h13) ?_
        refine rg_put (d := 28) (v := .d (.fl undef)) rfl (on rfl rfl rfl h13) ?_
        refine rg_put (d := 29) (v := .d (.fl (.bool false))) rfl (oy rfl rfl rfl h11 (op_pick rfl rfl (by rw [h13]; rfl) rfl)) ?_
        refine rg_put (d := 30) (v := .d (.fl (.bool false))) rfl (og rfl (op_pick rfl rfl (by rw [h11]; rfl) rfl)) ?_
        refine rg_put (d := 17) (v := .d (.fl (.bool false))) rfl (og rfl (op_assign rfl rfl rfl)) ?_
        refine rg_done rfl ?_
        refine a_condF rfl rfl ?_
        refine a_rseq ?_
        refine rg_put (d := 32) (v := .d (.fl (.bool true))) rfl (og rfl (op_move rfl rfl rfl)) ?_
        refine rg_put (d := 33) (v := .d (.fl (.bool (!true)))) rfl (og rfl (op_un rfl rfl (u_not _) rfl)) ?_
        refine rg_put (d := 31) (v := .d (.fl (.bool (!true)))) rfl (og rfl (op_assign rfl rfl rfl)) ?_
        refine rg_done rfl ?_
        refine a_condF rfl (not_f rfl) ?_
        refine a_rseq ?_
        refine rg_put (d := 35) (v := .pt 101 3) rfl (og rfl (of_eff (s_field_pt rfl Try.underlying40 rfl ti33 rfl rfl rfl) rfl)) ?_
        refine rg_put (d := 36) (v := .d (.sl 1 (List.map rS im.hold))) rfl (og rfl (op_load_pt rfl Try.underlying33 rfl rfl rfl rfl rfl)) ?_
        refine rg_put (d := 37) (v := .d (.fl (.int .i64 (im.hold.length : Int)))) rfl (og rfl (s_len rfl Try.underlying33 rfl rfl)) ?_
        refine rg_put (d := 38) (v := .d (.fl (.bool ((decide (0 < (im.hold.length : Int))))))) rfl (og rfl (op_bin rfl rfl rfl (b_gtr _ _ _ _) rfl)) ?_
        refine rg_put (d := 34) (v := .d (.fl (.bool ((decide (0 < (im.hold.length : Int))))))) rfl (og rfl (op_assign rfl rfl rfl)) ?_
        refine rg_done rfl ?_
        refine a_cond rfl (fun h15 => ?_) (fun h15 => ?_)
        · skip
          have h16 := t_dec h15
          refine a_rseq ?_
          refine rg_put (d := 6) (v := .d (.fl (.int .i64 0))) rfl (og rfl (op_assign rfl rfl rfl)) ?_
          refine rg_put (d := 7) (v := .d (.fl (.int .i64 32))) rfl (og rfl (op_assign rfl rfl rfl)) ?_
          refine rg_done rfl ?_
          refine a_ret ?_
          show ∃ ds, ResL _ _ _ ds ∧ RV.of ds = _
          refine ⟨[.fl (.int .i64 0), .fl (.int .i64 32)], (.cons (.tmp rfl (.d _)) (.cons (.tmp rfl (.d _)) .nil)), ?_⟩
          have hu : unt l im c = (0, 32) := by
            unfold unt; simp only [h11, h12, h13, h14, h15, show (ck l != 0) = false from by rw [h0]; rfl, h1]; rfl
          rw [hu]; rfl
        · skip
          have h17 := f_dec h15
          refine a_rseq ?_
          refine rg_put (d := 40) (v := .d (.fl (.int .i64 c))) rfl (og rfl (op_move rfl rfl rfl)) ?_
          refine rg_put (d := 41) (v := .d (.fl (.bool ((c == (-1)))))) rfl (og rfl (op_bin rfl rfl rfl (b_eql _ _ _ _) rfl)) ?_
          refine rg_put (d := 39) (v := .d (.fl (.bool ((c == (-1)))))) rfl (og rfl (op_assign rfl rfl rfl)) ?_
          refine rg_done rfl ?_
          refine a_cond rfl (fun h18 => ?_) (fun h18 => ?_)
          · skip
            have h19 := t_beq h18
            refine a_rseq ?_
            refine rg_put (d := 6) (v := .d (.fl (.int .i64 0))) rfl (og rfl (op_assign rfl rfl rfl)) ?_
            refine rg_put (d := 7) (v := .d (.fl (.int .i64 11))) rfl (og rfl (op_assign rfl rfl rfl)) ?_
            refine rg_done rfl ?_
            refine a_ret ?_
            show ∃ ds, ResL _ _ _ ds ∧ RV.of ds = _
            refine ⟨[.fl (.int .i64 0), .fl (.int .i64 11)], (.cons (.tmp rfl (.d _)) (.cons (.tmp rfl (.d _)) .nil)), ?_⟩
            have hu : unt l im c = (0, 11) := by
              unfold unt; simp only [h11, h12, h13, h14, h15, h18, show (ck l != 0) = false from by rw [h0]; rfl, h1]; rfl
            rw [hu]; rfl
          · skip
            have h20 := f_beq h18
            refine a_skip ?_
            show A _ _ _ _ _ _ _
            refine a_rseq ?_
            have hqb := rule_bound h0 h1
            refine rg_put (d := 42) (v := .pt 101 1) rfl (og rfl (of_eff (s_field_pt rfl Try.underlying40 rfl ti3 rfl rfl rfl) rfl)) ?_
            refine rg_put (d := 43) (v := .d (.fl (.int .i64 im.time))) rfl (og rfl (op_load_pt rfl Try.underlying3 rfl rfl rfl rfl rfl)) ?_
            refine rg_put (d := 44) (v := .pt 103 1) rfl (og rfl (of_eff (s_field_pt rfl Try.underlying44 rfl ti3 rfl rfl rfl) rfl)) ?_
            refine rg_put (d := 45) (v := .d (.fl (.int .i64 qh1.seconds))) rfl (og rfl (op_load_pt rfl Try.underlying3 rfl rfl rfl rfl rfl)) ?_
            refine rg_put (d := 46) (v := .d (.fl (.int .i64 (im.time + qh1.seconds)))) rfl (og rfl (op_bin rfl rfl rfl (fun x y w => b_add64 _ _ _ x y w (by omega)) rfl)) ?_
            refine rg_put (d := 47) (v := .d (.fl (.int .i64 c))) rfl (og rfl (op_move rfl rfl rfl)) ?_
            refine rg_put (d := 48) (v := .pt 103 2) rfl (og rfl (of_eff (s_field_pt rfl Try.underlying44 rfl ti3 rfl rfl rfl) rfl)) ?_
            refine rg_put (d := 49) (v := .d (.fl (.int .i64 qh1.least))) rfl (og rfl (op_load_pt rfl Try.underlying3 rfl rfl rfl rfl rfl)) ?_
            refine rg_put (d := 50) (v := .d (.fl (.int .i64 (c + qh1.least)))) rfl (og rfl (op_bin rfl rfl rfl (fun x y w => b_add64 _ _ _ x y w (by omega)) rfl)) ?_
            refine rg_put (d := 51) (v := .d (.fl (.int .i64 ((max (im.time + qh1.seconds) (c + qh1.least)))))) rfl (og rfl (op_max rfl rfl rfl rfl)) ?_
            refine rg_put (d := 6) (v := .d (.fl (.int .i64 ((max (im.time + qh1.seconds) (c + qh1.least)))))) rfl (og rfl (op_assign rfl rfl rfl)) ?_
            refine rg_put (d := 7) (v := .d (.fl (.int .i64 0))) rfl (og rfl (op_assign rfl rfl rfl)) ?_
            refine rg_done rfl ?_
            refine a_ret ?_
            show ∃ ds, ResL _ _ _ ds ∧ RV.of ds = _
            refine ⟨[.fl (.int .i64 ((max (im.time + qh1.seconds) (c + qh1.least)))), .fl (.int .i64 0)], (.cons (.tmp rfl (.d _)) (.cons (.tmp rfl (.d _)) .nil)), ?_⟩
            have hu : unt l im c = ((max (im.time + qh1.seconds) (c + qh1.least)), 0) := by
              unfold unt; simp only [h11, h12, h13, h14, h15, h18, show (ck l != 0) = false from by rw [h0]; rfl, h1]; rfl
            rw [hu]; rfl
      · skip
        have h21 := t_not h13
        refine rg_put (d := 27) (v := .d (.fl (.int .i64 c))) rfl (oy rfl rfl rfl h13 (op_move rfl rfl rfl)) ?_
        refine rg_put (d := 28) (v := .d (.fl (.bool ((c != (-1)))))) rfl (oy rfl rfl rfl h13 (op_bin rfl rfl rfl (b_neq _ _ _ _) rfl)) ?_
        refine rg_put (d := 29) (v := .d (.fl (.bool ((c != (-1)))))) rfl (oy rfl rfl rfl h11 (op_pick rfl rfl (by rw [h13]; rfl) rfl)) ?_
        refine rg_put (d := 30) (v := .d (.fl (.bool ((c != (-1)))))) rfl (og rfl (op_pick rfl rfl (by rw [h11]; rfl) rfl)) ?_
        refine rg_put (d := 17) (v := .d (.fl (.bool ((c != (-1)))))) rfl (og rfl (op_assign rfl rfl rfl)) ?_
        refine rg_done rfl ?_
        refine a_cond rfl (fun h22 => ?_) (fun h22 => ?_)
        · skip
          have h23 := t_bne h22
          refine a_rseq ?_
          refine rg_put (d := 6) (v := .d (.fl (.int .i64 0))) rfl (og rfl (op_assign rfl rfl rfl)) ?_
          refine rg_put (d := 7) (v := .d (.fl (.int .i64 12))) rfl (og rfl (op_assign rfl rfl rfl)) ?_
          refine rg_done rfl ?_
          refine a_ret ?_
          show ∃ ds, ResL _ _ _ ds ∧ RV.of ds = _
          refine ⟨[.fl (.int .i64 0), .fl (.int .i64 12)], (.cons (.tmp rfl (.d _)) (.cons (.tmp rfl (.d _)) .nil)), ?_⟩
          have hu : unt l im c = (0, 12) := by
            unfold unt; simp only [h11, h12, h13, h21, h22, show (ck l != 0) = false from by rw [h0]; rfl, h1]; rfl
          rw [hu]; rfl
        · skip
          have h24 := f_bne h22
          refine a_rseq ?_
          refine rg_put (d := 32) (v := .d (.fl (.bool true))) rfl (og rfl (op_move rfl rfl rfl)) ?_
          refine rg_put (d := 33) (v := .d (.fl (.bool (!true)))) rfl (og rfl (op_un rfl rfl (u_not _) rfl)) ?_
          refine rg_put (d := 31) (v := .d (.fl (.bool (!true)))) rfl (og rfl (op_assign rfl rfl rfl)) ?_
          refine rg_done rfl ?_
          refine a_condF rfl (not_f rfl) ?_
          refine a_rseq ?_
          refine rg_put (d := 35) (v := .pt 101 3) rfl (og rfl (of_eff (s_field_pt rfl Try.underlying40 rfl ti33 rfl rfl rfl) rfl)) ?_
          refine rg_put (d := 36) (v := .d (.sl 1 (List.map rS im.hold))) rfl (og rfl (op_load_pt rfl Try.underlying33 rfl rfl rfl rfl rfl)) ?_
          refine rg_put (d := 37) (v := .d (.fl (.int .i64 (im.hold.length : Int)))) rfl (og rfl (s_len rfl Try.underlying33 rfl rfl)) ?_
          refine rg_put (d := 38) (v := .d (.fl (.bool ((decide (0 < (im.hold.length : Int))))))) rfl (og rfl (op_bin rfl rfl rfl (b_gtr _ _ _ _) rfl)) ?_
          refine rg_put (d := 34) (v := .d (.fl (.bool ((decide (0 < (im.hold.length : Int))))))) rfl (og rfl (op_assign rfl rfl rfl)) ?_
          refine rg_done rfl ?_
          refine a_cond rfl (fun h25 => ?_) (fun h25 => ?_)
          · skip
            have h26 := t_dec h25
            refine a_rseq ?_
            refine rg_put (d := 6) (v := .d (.fl (.int .i64 0))) rfl (og rfl (op_assign rfl rfl rfl)) ?_
            refine rg_put (d := 7) (v := .d (.fl (.int .i64 32))) rfl (og rfl (op_assign rfl rfl rfl)) ?_
            refine rg_done rfl ?_
            refine a_ret ?_
            show ∃ ds, ResL _ _ _ ds ∧ RV.of ds = _
            refine ⟨[.fl (.int .i64 0), .fl (.int .i64 32)], (.cons (.tmp rfl (.d _)) (.cons (.tmp rfl (.d _)) .nil)), ?_⟩
            have hu : unt l im c = (0, 32) := by
              unfold unt; simp only [h11, h12, h13, h21, h22, h25, show (ck l != 0) = false from by rw [h0]; rfl, h1]; rfl
            rw [hu]; rfl
          · skip
            have h27 := f_dec h25
            refine a_rseq ?_
            refine rg_put (d := 40) (v := .d (.fl (.int .i64 c))) rfl (og rfl (op_move rfl rfl rfl)) ?_
            refine rg_put (d := 41) (v := .d (.fl (.bool ((c == (-1)))))) rfl (og rfl (op_bin rfl rfl rfl (b_eql _ _ _ _) rfl)) ?_
            refine rg_put (d := 39) (v := .d (.fl (.bool ((c == (-1)))))) rfl (og rfl (op_assign rfl rfl rfl)) ?_
            refine rg_done rfl ?_
            refine a_cond rfl (fun h28 => ?_) (fun h28 => ?_)
            · skip
              have h29 := t_beq h28
              refine a_rseq ?_
              refine rg_put (d := 6) (v := .d (.fl (.int .i64 0))) rfl (og rfl (op_assign rfl rfl rfl)) ?_
              refine rg_put (d := 7) (v := .d (.fl (.int .i64 11))) rfl (og rfl (op_assign rfl rfl rfl)) ?_
              refine rg_done rfl ?_
              refine a_ret ?_
              show ∃ ds, ResL _ _ _ ds ∧ RV.of ds = _
              refine ⟨[.fl (.int .i64 0), .fl (.int .i64 11)], (.cons (.tmp rfl (.d _)) (.cons (.tmp rfl (.d _)) .nil)), ?_⟩
              have hu : unt l im c = (0, 11) := by
                unfold unt; simp only [h11, h12, h13, h21, h22, h25, h28, show (ck l != 0) = false from by rw [h0]; rfl, h1]; rfl
              rw [hu]; rfl
            · skip
              have h30 := f_beq h28
              refine a_skip ?_
              show A _ _ _ _ _ _ _
              refine a_rseq ?_
              have hqb := rule_bound h0 h1
              refine rg_put (d := 42) (v := .pt 101 1) rfl (og rfl (of_eff (s_field_pt rfl Try.underlying40 rfl ti3 rfl rfl rfl) rfl)) ?_
              refine rg_put (d := 43) (v := .d (.fl (.int .i64 im.time))) rfl (og rfl (op_load_pt rfl Try.underlying3 rfl rfl rfl rfl rfl)) ?_
              refine rg_put (d := 44) (v := .pt 103 1) rfl (og rfl (of_eff (s_field_pt rfl Try.underlying44 rfl ti3 rfl rfl rfl) rfl)) ?_
              refine rg_put (d := 45) (v := .d (.fl (.int .i64 qh1.seconds))) rfl (og rfl (op_load_pt rfl Try.underlying3 rfl rfl rfl rfl rfl)) ?_
              refine rg_put (d := 46) (v := .d (.fl (.int .i64 (im.time + qh1.seconds)))) rfl (og rfl (op_bin rfl rfl rfl (fun x y w => b_add64 _ _ _ x y w (by omega)) rfl)) ?_
              refine rg_put (d := 47) (v := .d (.fl (.int .i64 c))) rfl (og rfl (op_move rfl rfl rfl)) ?_
              refine rg_put (d := 48) (v := .pt 103 2) rfl (og rfl (of_eff (s_field_pt rfl Try.underlying44 rfl ti3 rfl rfl rfl) rfl)) ?_
              refine rg_put (d := 49) (v := .d (.fl (.int .i64 qh1.least))) rfl (og rfl (op_load_pt rfl Try.underlying3 rfl rfl rfl rfl rfl)) ?_
              refine rg_put (d := 50) (v := .d (.fl (.int .i64 (c + qh1.least)))) rfl (og rfl (op_bin rfl rfl rfl (fun x y w => b_add64 _ _ _ x y w (by omega)) rfl)) ?_
              refine rg_put (d := 51) (v := .d (.fl (.int .i64 ((max (im.time + qh1.seconds) (c + qh1.least)))))) rfl (og rfl (op_max rfl rfl rfl rfl)) ?_
              refine rg_put (d := 6) (v := .d (.fl (.int .i64 ((max (im.time + qh1.seconds) (c + qh1.least)))))) rfl (og rfl (op_assign rfl rfl rfl)) ?_
              refine rg_put (d := 7) (v := .d (.fl (.int .i64 0))) rfl (og rfl (op_assign rfl rfl rfl)) ?_
              refine rg_done rfl ?_
              refine a_ret ?_
              show ∃ ds, ResL _ _ _ ds ∧ RV.of ds = _
              refine ⟨[.fl (.int .i64 ((max (im.time + qh1.seconds) (c + qh1.least)))), .fl (.int .i64 0)], (.cons (.tmp rfl (.d _)) (.cons (.tmp rfl (.d _)) .nil)), ?_⟩
              have hu : unt l im c = ((max (im.time + qh1.seconds) (c + qh1.least)), 0) := by
                unfold unt; simp only [h11, h12, h13, h21, h22, h25, h28, show (ck l != 0) = false from by rw [h0]; rfl, h1]; rfl
              rw [hu]; rfl
    · skip
      have h31 := t_not h11
      refine rg_put (d := 23) (v := .d (.fl undef)) rfl (on rfl rfl rfl h11) ?_
      refine rg_put (d := 24) (v := .d (.fl undef)) rfl (on rfl rfl rfl h11) ?_
      refine rg_put (d := 25) (v := .d (.fl undef)) rfl (on rfl rfl rfl h11) ?_
      refine rg_put (d := 26) (v := .d (.fl undef)) rfl (on rfl rfl rfl h11) ?_
      refine rg_put (d := 27) (v := .d (.fl undef)) rfl (ou rfl rfl rfl) ?_
      refine rg_put (d := 28) (v := .d (.fl undef)) rfl (ou rfl rfl rfl) ?_
      refine rg_put (d := 29) (v := .d (.fl undef)) rfl (on rfl rfl rfl h11) ?_
      refine rg_put (d := 30) (v := .d (.fl (.bool true))) rfl (og rfl (op_pick rfl rfl (by rw [h11]; rfl) rfl)) ?_
      refine rg_put (d := 17) (v := .d (.fl (.bool true))) rfl (og rfl (op_assign rfl rfl rfl)) ?_
      refine rg_done rfl ?_
      refine a_condK rfl rfl ?_
      refine a_rseq ?_
      refine rg_put (d := 6) (v := .d (.fl (.int .i64 0))) rfl (og rfl (op_assign rfl rfl rfl)) ?_
      refine rg_put (d := 7) (v := .d (.fl (.int .i64 12))) rfl (og rfl (op_assign rfl rfl rfl)) ?_
      refine rg_done rfl ?_
      refine a_ret ?_
      show ∃ ds, ResL _ _ _ ds ∧ RV.of ds = _
      refine ⟨[.fl (.int .i64 0), .fl (.int .i64 12)], (.cons (.tmp rfl (.d _)) (.cons (.tmp rfl (.d _)) .nil)), ?_⟩
      have hu : unt l im c = (0, 12) := by
        unfold unt; simp only [h11, h31, show (ck l != 0) = false from by rw [h0]; rfl, h1]; rfl
      rw [hu]; rfl
end Go.Proofs.Ytaecdkhpidligaa.Wr
