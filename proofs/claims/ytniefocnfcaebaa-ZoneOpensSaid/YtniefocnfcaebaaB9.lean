/- The reference of the hours of an interval. Conditions: as each theorem names them. -/
import Derived.Test.YtniefocnfcaebaaAvS
import Derived.Test.YtniefocnfcaebaaAvN
import Derived.Test.YtniefocnfcaebaaB8
set_option linter.unusedSimpArgs false
set_option linter.unusedVariables false
namespace Go.Proofs.Ytniefocnfcaebaa.Wk
open Go Go.RowKit Go.Proofs.Ytniefocnfcaebaa.Av
set_option maxHeartbeats 4000000 in
set_option maxRecDepth 100000 in
theorem within27 (hs : List Wd) (i : Ivl) (R : List Ivl) (hl : hs.length ≤ 1000) (he : 0 ≤ i.fr ∧ i.fr < i.to ∧ i.to ≤ 68719476736) (hd : i.to - i.fr ≤ 1728000) (hR : NF R) (hm : ∀ t, Mem R t ↔ (i.fr ≤ t ∧ t < i.to) ∧ inH hs t = true) : Ctr Try.prog 27 [.sl 3 (List.map eWd hs), .ag (eIv i)] (.d (.sl 2 (List.map eIv R))) := by
  refine ctr (n := 150) (rs := #[.tmp 4]) (L := [(0, .d (.sl 3 (List.map eWd hs))), (1, .d (.ag (eIv i)))]) Try.func27 rfl rfl rfl rfl rfl (fun w0 U0 => ?_)
  refine a_rseq ?_
  refine rg_nam (d := 3) (v := .pt 101 0) (m := 101) (nw := [(101, .bx 32 (eIv i))]) rfl (og rfl (of_eff (op_box 101 rfl rfl rfl rfl) rfl)) rfl ?_
  refine rg_put (d := 4) (v := .d (.fl (.slice none 0 0))) rfl (og rfl (op_assign rfl rfl rfl)) ?_
  refine rg_done rfl ?_
  refine a_seq ?_
  refine a_rseq ?_
  refine rg_put (d := 14) (v := .d (.sl 3 (List.map eWd hs))) rfl (og rfl (op_move rfl rfl rfl)) ?_
  refine rg_put (d := 15) (v := .d (.fl (.int .i64 (hs.length : Int)))) rfl (og rfl (s_len rfl Try.underlying22 rfl rfl)) ?_
  refine rg_put (d := 16) (v := .d (.fl (.bool (((hs.length : Int) == 0))))) rfl (og rfl (op_bin rfl rfl rfl (b_eql _ _ _ _) rfl)) ?_
  refine rg_done rfl ?_
  refine a_cond rfl (fun h1 => ?_) (fun h1 => ?_)
  · skip
    have h2 := t_beq h1
    refine a_rseq ?_
    refine rg_put (d := 17) (v := .d (.ag (eIv i))) rfl (og rfl (of_eff (s_load_pts rfl Try.underlying32 rfl ti32 rfl rfl rfl rfl) rfl)) ?_
    refine rg_put (d := 18) (v := .d (.sl 2 (List.map eIv [i]))) rfl (og rfl (of_eff (op_slices rfl Try.underlying34 ti32 rfl rfl rfl (by kernel_rfl) (xs := [.ag (eIv i)]) rfl rfl (.cons rfl rfl (.d _) rfl rfl rfl .nil) rfl) rfl)) ?_
    refine rg_put (d := 4) (v := .d (.sl 2 (List.map eIv [i]))) rfl (og rfl (op_assign rfl rfl rfl)) ?_
    refine rg_done rfl ?_
    refine a_ret ?_
    show ∃ ds, ResL _ _ _ ds ∧ RV.of ds = _
    refine ⟨[.sl 2 (List.map eIv [i])], (.cons (.tmp rfl (.d _)) .nil), ?_⟩
    have hR1 : [i] = R := nf_uniq ⟨fun s h => by rw [List.mem_singleton] at h; subst h; exact he.2.1, List.pairwise_singleton _ _⟩ hR (fun t => by rw [hm, mem_one]; unfold inH; rw [if_pos (by have := eq_of_beq h1; omega)]; exact ⟨fun h => ⟨h, rfl⟩, fun h => h.1⟩)
    rw [← hR1]; rfl
  · skip
    have h3 := f_beq h1
    refine a_skip ?_
    show A _ _ _ _ _ _ _
    refine a_rseq ?_
    refine rg_put (d := 5) (v := .d (.fl (.slice none 0 0))) rfl (og rfl (op_assign rfl rfl rfl)) ?_
    refine rg_done rfl ?_
    refine a_seq ?_
    refine a_rseq ?_
    refine rg_imp (imp_nilT 5 102 32 2 rfl rfl) ?_
    refine rg_put (d := 19) (v := .pt 101 0) rfl (og rfl (of_eff (s_field_pt rfl Try.underlying32 rfl ti3 rfl rfl rfl) rfl)) ?_
    refine rg_put (d := 20) (v := .d (.fl (.int .i64 i.fr))) rfl (og rfl (op_load_pt rfl Try.underlying3 rfl rfl rfl rfl rfl)) ?_
    refine rg_put (d := 21) (v := .d (.fl (.int .i64 (i.fr / 86400)))) rfl (og rfl (op_bin rfl rfl rfl (fun x y w => b_quo64 _ _ _ x y w (by omega) (by omega) (by omega)) rfl)) ?_
    refine rg_put (d := 6) (v := .d (.fl (.int .i64 (i.fr / 86400)))) rfl (og rfl (op_assign rfl rfl rfl)) ?_
    refine rg_done rfl ?_
    refine a_block ?_
    refine a_loop (ι := Nat × List Ivl) (fun g => SS [(0, .d (.sl 3 (List.map eWd hs))), (1, .d (.ag (eIv i))), (3, .pt 101 0), (4, .d (.fl (.slice none 0 0))), (16, .d (.fl (.bool (((hs.length : Int) == 0))))), (6, .d (.fl (.int .i64 ((i.fr / 86400 + (g.1 : Int)))))), (5, .ow 102)] [(101, .bx 32 (eIv i)), (102, .tr 32 2 (tD eIv g.2))]) (fun g => g.1 ≤ spN i ∧ Inv hs i g.2 ((i.fr / 86400 + (g.1 : Int)) * 86400) (1441 * g.1)) (fun g => spN i - g.1) (0, []) (⟨Nat.zero_le _, Inv.start (by show (i.fr / 86400 + ((0 : Nat) : Int)) * 86400 ≤ i.fr; omega)⟩) (imp_forget rfl ⟨rfl, rfl, rfl, rfl, rfl, (by show AV.d (.fl (.int .i64 (i.fr / 86400))) = AV.d (.fl (.int .i64 (i.fr / 86400 + ((0 : Nat) : Int)))); simp), rfl, trivial⟩ ⟨rfl, rfl, trivial⟩) (fun g hok => ?_)
    obtain ⟨hk, hI⟩ := hok
    have hgl := hI.l
    have hnn : (g.1 : Int) ≤ (i.to - 1) / 86400 - i.fr / 86400 + 1 := by unfold spN at hk; omega
    refine a_seq ?_
    refine a_rseq ?_
    refine rg_put (d := 22) (v := .d (.fl (.int .i64 ((i.fr / 86400 + (g.1 : Int)))))) rfl (og rfl (op_move rfl rfl rfl)) ?_
    refine rg_put (d := 23) (v := .pt 101 1) rfl (og rfl (of_eff (s_field_pt rfl Try.underlying32 rfl ti3 rfl rfl rfl) rfl)) ?_
    refine rg_put (d := 24) (v := .d (.fl (.int .i64 i.to))) rfl (og rfl (op_load_pt rfl Try.underlying3 rfl rfl rfl rfl rfl)) ?_
    refine rg_put (d := 25) (v := .d (.fl (.int .i64 (i.to - 1)))) rfl (og rfl (op_bin rfl rfl rfl (fun x y w => b_sub64 _ _ _ x y w (by omega)) rfl)) ?_
    refine rg_put (d := 26) (v := .d (.fl (.int .i64 (((i.to - 1) / 86400))))) rfl (og rfl (op_bin rfl rfl rfl (fun x y w => b_quo64 _ _ _ x y w (by omega) (by omega) (by omega)) rfl)) ?_
    refine rg_put (d := 27) (v := .d (.fl (.bool ((decide ((i.fr / 86400 + (g.1 : Int)) ≤ ((i.to - 1) / 86400))))))) rfl (og rfl (op_bin rfl rfl rfl (b_leq _ _ _ _) rfl)) ?_
    refine rg_done rfl ?_
    refine a_cond rfl (fun h4 => ?_) (fun h4 => ?_)
    · skip
      have h5 := t_dec h4
      refine a_skip ?_
      show A _ _ _ _ _ _ _
      refine a_seq ?_
      refine a_block ?_
      refine a_rseq ?_
      refine rg_nam (d := 30) (v := .ow 103) (m := 103) (nw := [(103, .tr 3 1 (tD (rI .i64) []))]) rfl (og rfl (of_eff (op_slice0 103 rfl Try.underlying71 ti3 rfl) rfl)) rfl ?_
      refine rg_put (d := 7) (v := .ow 103) rfl (og rfl (op_assign rfl rfl rfl)) ?_
      refine rg_done rfl ?_
      refine a_seq ?_
      refine a_rseq ?_
      refine rg_put (d := 8) (v := .d (.fl (.int .i64 0))) rfl (og rfl (op_assign rfl rfl rfl)) ?_
      refine rg_done rfl ?_
      refine a_block ?_
      refine a_loop (ι := Nat) (fun mm => SS [(0, .d (.sl 3 (List.map eWd hs))), (1, .d (.ag (eIv i))), (3, .pt 101 0), (4, .d (.fl (.slice none 0 0))), (5, .ow 102), (6, .d (.fl (.int .i64 ((i.fr / 86400 + (g.1 : Int)))))), (16, .d (.fl (.bool (((hs.length : Int) == 0))))), (27, .d (.fl (.bool ((decide ((i.fr / 86400 + (g.1 : Int)) ≤ ((i.to - 1) / 86400))))))), (8, .d (.fl (.int .i64 (mm : Int)))), (7, .ow 103)] [(101, .bx 32 (eIv i)), (102, .tr 32 2 (tD eIv g.2)), (103, .tr 3 1 (tD (rI .i64) (cutL hs mm)))]) (fun mm => mm ≤ 1440) (fun mm => 1440 - mm) 0 (by omega) (imp_forget rfl ⟨rfl, rfl, rfl, rfl, rfl, rfl, rfl, rfl, rfl, rfl, trivial⟩ ⟨rfl, rfl, rfl, trivial⟩) (fun mm hok => ?_)
      have hmm := hok
      have hcl := cutL_len hs mm
      refine a_seq ?_
      refine a_rseq ?_
      refine rg_put (d := 31) (v := .d (.fl (.int .i64 (mm : Int)))) rfl (og rfl (op_move rfl rfl rfl)) ?_
      refine rg_put (d := 32) (v := .d (.fl (.bool ((decide ((mm : Int) < 1440)))))) rfl (og rfl (op_bin rfl rfl rfl (b_lss _ _ _ _) rfl)) ?_
      refine rg_done rfl ?_
      refine a_cond rfl (fun h6 => ?_) (fun h6 => ?_)
      · skip
        have h7 := t_dec h6
        refine a_skip ?_
        show A _ _ _ _ _ _ _
        refine a_seq ?_
        refine a_block ?_
        refine a_rseq ?_
        refine rg_put (d := 35) (v := .d (.fl (.int .i64 (mm : Int)))) rfl (og rfl (op_move rfl rfl rfl)) ?_
        refine rg_put (d := 36) (v := .d (.fl (.bool (((mm : Int) == 0))))) rfl (og rfl (op_bin rfl rfl rfl (b_eql _ _ _ _) rfl)) ?_
        refine rg_put (d := 9) (v := .d (.fl (.bool (((mm : Int) == 0))))) rfl (og rfl (op_assign rfl rfl rfl)) ?_
        refine rg_done rfl ?_
        refine a_seq ?_
        refine a_rseq ?_
        refine rg_put (d := 10) (v := .d (.fl (.int .i64 0))) rfl (og rfl (op_assign rfl rfl rfl)) ?_
        refine rg_done rfl ?_
        refine a_block ?_
        refine a_loop (ι := Nat) (fun k => SS [(0, .d (.sl 3 (List.map eWd hs))), (1, .d (.ag (eIv i))), (3, .pt 101 0), (4, .d (.fl (.slice none 0 0))), (5, .ow 102), (6, .d (.fl (.int .i64 ((i.fr / 86400 + (g.1 : Int)))))), (7, .ow 103), (8, .d (.fl (.int .i64 (mm : Int)))), (16, .d (.fl (.bool (((hs.length : Int) == 0))))), (27, .d (.fl (.bool ((decide ((i.fr / 86400 + (g.1 : Int)) ≤ ((i.to - 1) / 86400))))))), (32, .d (.fl (.bool ((decide ((mm : Int) < 1440)))))), (10, .d (.fl (.int .i64 (k : Int)))), (9, .d (.fl (.bool ((cuK hs (mm : Int) k)))))] [(101, .bx 32 (eIv i)), (102, .tr 32 2 (tD eIv g.2)), (103, .tr 3 1 (tD (rI .i64) (cutL hs mm)))]) (fun k => k ≤ hs.length) (fun k => hs.length - k) 0 (by omega) (imp_forget rfl ⟨rfl, rfl, rfl, rfl, rfl, rfl, rfl, rfl, rfl, rfl, rfl, rfl, (congrArg (fun z => AV.d (.fl (.bool z))) (cuK_0 _ _).symm), trivial⟩ ⟨rfl, rfl, rfl, trivial⟩) (fun k hok => ?_)
        have hk2 := hok
        refine a_seq ?_
        refine a_rseq ?_
        refine rg_put (d := 37) (v := .d (.fl (.int .i64 (k : Int)))) rfl (og rfl (op_move rfl rfl rfl)) ?_
        refine rg_put (d := 38) (v := .d (.sl 3 (List.map eWd hs))) rfl (og rfl (op_move rfl rfl rfl)) ?_
        refine rg_put (d := 39) (v := .d (.fl (.int .i64 (hs.length : Int)))) rfl (og rfl (s_len rfl Try.underlying22 rfl rfl)) ?_
        refine rg_put (d := 40) (v := .d (.fl (.bool ((decide ((k : Int) < (hs.length : Int))))))) rfl (og rfl (op_bin rfl rfl rfl (b_lss _ _ _ _) rfl)) ?_
        refine rg_done rfl ?_
        refine a_cond rfl (fun h8 => ?_) (fun h8 => ?_)
        · skip
          have h9 := t_dec h8
          refine a_skip ?_
          show A _ _ _ _ _ _ _
          refine a_seq ?_
          refine a_block ?_
          refine a_region ?_
          refine rg_put (d := 43) (v := .d (.fl (.bool ((cuK hs (mm : Int) k))))) rfl (og rfl (op_move rfl rfl rfl)) ?_
          refine rg_put (d := 44) (v := .d (.fl (.bool ((cuK hs (mm : Int) k))))) rfl (og rfl (op_move rfl rfl rfl)) ?_
          rcases fot ((cuK hs (mm : Int) k)) with h10 | h10
          · skip
            refine rg_put (d := 45) (v := .d (.sl 3 (List.map eWd hs))) rfl (oy rfl rfl rfl h10 (op_move rfl rfl rfl)) ?_
            refine rg_put (d := 46) (v := .d (.fl (.int .i64 (k : Int)))) rfl (oy rfl rfl rfl h10 (op_move rfl rfl rfl)) ?_
            refine rg_put (d := 47) (v := .el ((eWd (ix hs k)))) rfl (oy rfl rfl rfl h10 (s_index rfl Try.underlying22 ti48 rfl rfl (by omega) (row_at (by omega)) rfl)) ?_
            refine rg_put (d := 48) (v := .el ((List.drop 1 ((eWd (ix hs k)))))) rfl (oy rfl rfl rfl h10 (of_eff (s_field_el rfl Try.underlying48 rfl ti3 rfl rfl rfl) rfl)) ?_
            refine rg_put (d := 49) (v := .d (.fl (.int .i64 ((ix hs k).fr)))) rfl (oy rfl rfl rfl h10 (op_load_el rfl Try.underlying3 rfl rfl rfl rfl)) ?_
            refine rg_put (d := 50) (v := .d (.fl (.int .i64 (mm : Int)))) rfl (oy rfl rfl rfl h10 (op_move rfl rfl rfl)) ?_
            refine rg_put (d := 51) (v := .d (.fl (.bool (((ix hs k).fr == (mm : Int)))))) rfl (oy rfl rfl rfl h10 (op_bin rfl rfl rfl (b_eql _ _ _ _) rfl)) ?_
            refine rg_put (d := 52) (v := .d (.fl (.bool (((ix hs k).fr == (mm : Int)))))) rfl (og rfl (op_pick rfl rfl (by rw [h10]; rfl) rfl)) ?_
            refine rg_put (d := 53) (v := .d (.fl (.bool (((ix hs k).fr == (mm : Int)))))) rfl (og rfl (op_move rfl rfl rfl)) ?_
            rcases fot (((ix hs k).fr == (mm : Int))) with h11 | h11
            · skip
              have h12 := f_beq h11
              refine rg_put (d := 54) (v := .d (.sl 3 (List.map eWd hs))) rfl (oy rfl rfl rfl h11 (op_move rfl rfl rfl)) ?_
              refine rg_put (d := 55) (v := .d (.fl (.int .i64 (k : Int)))) rfl (oy rfl rfl rfl h11 (op_move rfl rfl rfl)) ?_
              refine rg_put (d := 56) (v := .el ((eWd (ix hs k)))) rfl (oy rfl rfl rfl h11 (s_index rfl Try.underlying22 ti48 rfl rfl (by omega) (row_at (by omega)) rfl)) ?_
              refine rg_put (d := 57) (v := .el ((List.drop 2 ((eWd (ix hs k)))))) rfl (oy rfl rfl rfl h11 (of_eff (s_field_el rfl Try.underlying48 rfl ti3 rfl rfl rfl) rfl)) ?_
              refine rg_put (d := 58) (v := .d (.fl (.int .i64 ((ix hs k).to)))) rfl (oy rfl rfl rfl h11 (op_load_el rfl Try.underlying3 rfl rfl rfl rfl)) ?_
              refine rg_put (d := 59) (v := .d (.fl (.int .i64 (mm : Int)))) rfl (oy rfl rfl rfl h11 (op_move rfl rfl rfl)) ?_
              refine rg_put (d := 60) (v := .d (.fl (.bool (((ix hs k).to == (mm : Int)))))) rfl (oy rfl rfl rfl h11 (op_bin rfl rfl rfl (b_eql _ _ _ _) rfl)) ?_
              refine rg_put (d := 61) (v := .d (.fl (.bool (((ix hs k).to == (mm : Int)))))) rfl (og rfl (op_pick rfl rfl (by rw [h11]; rfl) rfl)) ?_
              refine rg_put (d := 9) (v := .d (.fl (.bool (((ix hs k).to == (mm : Int)))))) rfl (og rfl (op_assign rfl rfl rfl)) ?_
              refine rg_done rfl ?_
              show A _ _ _ _ _ _ _
              refine a_region ?_
              refine rg_put (d := 41) (v := .d (.fl (.int .i64 (k : Int)))) rfl (og rfl (op_move rfl rfl rfl)) ?_
              refine rg_put (d := 42) (v := .d (.fl (.int .i64 (((k : Int) + 1))))) rfl (og rfl (op_bin rfl rfl rfl (fun x y w => b_add64 _ _ _ x y w (by omega)) rfl)) ?_
              refine rg_put (d := 10) (v := .d (.fl (.int .i64 (((k : Int) + 1))))) rfl (og rfl (op_assign rfl rfl rfl)) ?_
              refine rg_done rfl ?_
              show ∃ i, _ ∧ _ ∧ Imp _ _ _ _ _
              refine ⟨k + 1, (by omega), by omega, imp_forget rfl ⟨rfl, rfl, rfl, rfl, rfl, rfl, rfl, rfl, rfl, rfl, rfl, (ci (by omega)), (congrArg (fun z => AV.d (.fl (.bool z))) (by rw [cuK_s (by omega)]; simp only [h1, h4, h6, h8, h10, h11, Bool.true_or, Bool.false_or, Bool.or_true, Bool.or_false, Bool.not_true, Bool.not_false, cond_true, cond_false, Bool.true_and, Bool.false_and, Bool.and_true, Bool.and_false])), trivial⟩ ⟨rfl, rfl, rfl, trivial⟩⟩
            · skip
              have h13 := t_beq h11
              refine rg_put (d := 54) (v := .d (.fl undef)) rfl (on rfl rfl rfl h11) ?_
              refine rg_put (d := 55) (v := .d (.fl undef)) rfl (on rfl rfl rfl h11) ?_
              refine rg_put (d := 56) (v := .d (.fl undef)) rfl (on rfl rfl rfl h11) ?_
              refine rg_put (d := 57) (v := .d (.fl undef)) rfl (on rfl rfl rfl h11) ?_
              refine rg_put (d := 58) (v := .d (.fl undef)) rfl (on rfl rfl rfl h11) ?_
              refine rg_put (d := 59) (v := .d (.fl undef)) rfl (on rfl rfl rfl h11) ?_
              refine rg_put (d := 60) (v := .d (.fl undef)) rfl (on rfl rfl rfl h11) ?_
              refine rg_put (d := 61) (v := .d (.fl (.bool true))) rfl (og rfl (op_pick rfl rfl (by rw [h11]; rfl) rfl)) ?_
              refine rg_put (d := 9) (v := .d (.fl (.bool true))) rfl (og rfl (op_assign rfl rfl rfl)) ?_
              refine rg_done rfl ?_
              show A _ _ _ _ _ _ _
              refine a_region ?_
              refine rg_put (d := 41) (v := .d (.fl (.int .i64 (k : Int)))) rfl (og rfl (op_move rfl rfl rfl)) ?_
              refine rg_put (d := 42) (v := .d (.fl (.int .i64 (((k : Int) + 1))))) rfl (og rfl (op_bin rfl rfl rfl (fun x y w => b_add64 _ _ _ x y w (by omega)) rfl)) ?_
              refine rg_put (d := 10) (v := .d (.fl (.int .i64 (((k : Int) + 1))))) rfl (og rfl (op_assign rfl rfl rfl)) ?_
              refine rg_done rfl ?_
              show ∃ i, _ ∧ _ ∧ Imp _ _ _ _ _
              refine ⟨k + 1, (by omega), by omega, imp_forget rfl ⟨rfl, rfl, rfl, rfl, rfl, rfl, rfl, rfl, rfl, rfl, rfl, (ci (by omega)), (congrArg (fun z => AV.d (.fl (.bool z))) (by rw [cuK_s (by omega)]; simp only [h1, h4, h6, h8, h10, h11, Bool.true_or, Bool.false_or, Bool.or_true, Bool.or_false, Bool.not_true, Bool.not_false, cond_true, cond_false, Bool.true_and, Bool.false_and, Bool.and_true, Bool.and_false])), trivial⟩ ⟨rfl, rfl, rfl, trivial⟩⟩
          · skip
            refine rg_put (d := 45) (v := .d (.fl undef)) rfl (on rfl rfl rfl h10) ?_
            refine rg_put (d := 46) (v := .d (.fl undef)) rfl (on rfl rfl rfl h10) ?_
            refine rg_put (d := 47) (v := .d (.fl undef)) rfl (on rfl rfl rfl h10) ?_
            refine rg_put (d := 48) (v := .d (.fl undef)) rfl (on rfl rfl rfl h10) ?_
            refine rg_put (d := 49) (v := .d (.fl undef)) rfl (on rfl rfl rfl h10) ?_
            refine rg_put (d := 50) (v := .d (.fl undef)) rfl (on rfl rfl rfl h10) ?_
            refine rg_put (d := 51) (v := .d (.fl undef)) rfl (on rfl rfl rfl h10) ?_
            refine rg_put (d := 52) (v := .d (.fl (.bool true))) rfl (og rfl (op_pick rfl rfl (by rw [h10]; rfl) rfl)) ?_
            refine rg_put (d := 53) (v := .d (.fl (.bool true))) rfl (og rfl (op_move rfl rfl rfl)) ?_
            refine rg_put (d := 54) (v := .d (.fl undef)) rfl (on rfl rfl rfl rfl) ?_
            refine rg_put (d := 55) (v := .d (.fl undef)) rfl (on rfl rfl rfl rfl) ?_
            refine rg_put (d := 56) (v := .d (.fl undef)) rfl (on rfl rfl rfl rfl) ?_
            refine rg_put (d := 57) (v := .d (.fl undef)) rfl (on rfl rfl rfl rfl) ?_
            refine rg_put (d := 58) (v := .d (.fl undef)) rfl (on rfl rfl rfl rfl) ?_
            refine rg_put (d := 59) (v := .d (.fl undef)) rfl (on rfl rfl rfl rfl) ?_
            refine rg_put (d := 60) (v := .d (.fl undef)) rfl (on rfl rfl rfl rfl) ?_
            refine rg_put (d := 61) (v := .d (.fl (.bool true))) rfl (og rfl (op_pick rfl rfl rfl rfl)) ?_
            refine rg_put (d := 9) (v := .d (.fl (.bool true))) rfl (og rfl (op_assign rfl rfl rfl)) ?_
            refine rg_done rfl ?_
            show A _ _ _ _ _ _ _
            refine a_region ?_
            refine rg_put (d := 41) (v := .d (.fl (.int .i64 (k : Int)))) rfl (og rfl (op_move rfl rfl rfl)) ?_
            refine rg_put (d := 42) (v := .d (.fl (.int .i64 (((k : Int) + 1))))) rfl (og rfl (op_bin rfl rfl rfl (fun x y w => b_add64 _ _ _ x y w (by omega)) rfl)) ?_
            refine rg_put (d := 10) (v := .d (.fl (.int .i64 (((k : Int) + 1))))) rfl (og rfl (op_assign rfl rfl rfl)) ?_
            refine rg_done rfl ?_
            show ∃ i, _ ∧ _ ∧ Imp _ _ _ _ _
            refine ⟨k + 1, (by omega), by omega, imp_forget rfl ⟨rfl, rfl, rfl, rfl, rfl, rfl, rfl, rfl, rfl, rfl, rfl, (ci (by omega)), (congrArg (fun z => AV.d (.fl (.bool z))) (by rw [cuK_s (by omega)]; simp only [h1, h4, h6, h8, h10, Bool.true_or, Bool.false_or, Bool.or_true, Bool.or_false, Bool.not_true, Bool.not_false, cond_true, cond_false, Bool.true_and, Bool.false_and, Bool.and_true, Bool.and_false])), trivial⟩ ⟨rfl, rfl, rfl, trivial⟩⟩
        · skip
          have h14 := f_dec h8
          refine a_exit ?_
          show A _ _ _ _ _ _ _
          refine a_rseq ?_
          rw [show (cuK hs (mm : Int) k) = (isC hs (mm : Int)) from (by rw [show k = hs.length by omega]; exact cuK_all _ _)]
          refine rg_put (d := 62) (v := .d (.fl (.bool ((isC hs (mm : Int)))))) rfl (og rfl (op_move rfl rfl rfl)) ?_
          refine rg_done rfl ?_
          refine a_cond rfl (fun h15 => ?_) (fun h15 => ?_)
          · skip
            refine a_region ?_
            refine rg_put (d := 63) (v := .ow 103) rfl (og rfl (op_move rfl rfl rfl)) ?_
            refine rg_put (d := 64) (v := .d (.fl (.int .i64 (mm : Int)))) rfl (og rfl (op_move rfl rfl rfl)) ?_
            refine rg_put (d := 65) (v := .d (.sl 1 (List.map (rI .i64) [(mm : Int)]))) rfl (og rfl (of_eff (op_slices rfl Try.underlying71 ti3 rfl rfl rfl (by kernel_rfl) (xs := [.fl (.int .i64 (mm : Int))]) rfl rfl (.cons rfl rfl (.d _) rfl rfl rfl .nil) rfl) rfl)) ?_
            refine rg_nam (d := 66) (v := .ow 104) (m := 104) (nw := [(104, .tr 3 1 (tD (rI .i64) (((cutL hs mm) ++ [(mm : Int)])))), (103, .no)]) rfl (og rfl (of_eff (s_append_td 104 rfl Try.underlying71 ti3 rfl rfl rfl rfl rfl (.d _) (by simp only [List.length_append, List.length_cons, List.length_nil]; omega) rfl) rfl)) rfl ?_
            refine rg_put (d := 7) (v := .ow 104) rfl (og rfl (op_assign rfl rfl rfl)) ?_
            refine rg_done rfl ?_
            show A _ _ _ _ _ _ _
            refine a_region ?_
            refine rg_put (d := 33) (v := .d (.fl (.int .i64 (mm : Int)))) rfl (og rfl (op_move rfl rfl rfl)) ?_
            refine rg_put (d := 34) (v := .d (.fl (.int .i64 (((mm : Int) + 1))))) rfl (og rfl (op_bin rfl rfl rfl (fun x y w => b_add64 _ _ _ x y w (by omega)) rfl)) ?_
            refine rg_put (d := 8) (v := .d (.fl (.int .i64 (((mm : Int) + 1))))) rfl (og rfl (op_assign rfl rfl rfl)) ?_
            refine rg_done rfl ?_
            show ∃ i, _ ∧ _ ∧ Imp _ _ _ _ _
            refine ⟨mm + 1, (by omega), by omega, imp_ren (fun m => bif Nat.beq m 103 then 104 else m) rfl ⟨rfl, rfl, rfl, rfl, rfl, rfl, rfl, rfl, (ci (by omega)), rfl, trivial⟩ ⟨rfl, rfl, (congrArg (fun z => Ob.tr 3 1 (tD (rI .i64) z)) (cut_y h15)), trivial⟩⟩
          · skip
            refine a_skip ?_
            show A _ _ _ _ _ _ _
            refine a_region ?_
            refine rg_put (d := 33) (v := .d (.fl (.int .i64 (mm : Int)))) rfl (og rfl (op_move rfl rfl rfl)) ?_
            refine rg_put (d := 34) (v := .d (.fl (.int .i64 (((mm : Int) + 1))))) rfl (og rfl (op_bin rfl rfl rfl (fun x y w => b_add64 _ _ _ x y w (by omega)) rfl)) ?_
            refine rg_put (d := 8) (v := .d (.fl (.int .i64 (((mm : Int) + 1))))) rfl (og rfl (op_assign rfl rfl rfl)) ?_
            refine rg_done rfl ?_
            show ∃ i, _ ∧ _ ∧ Imp _ _ _ _ _
            refine ⟨mm + 1, (by omega), by omega, imp_forget rfl ⟨rfl, rfl, rfl, rfl, rfl, rfl, rfl, rfl, (ci (by omega)), rfl, trivial⟩ ⟨rfl, rfl, (congrArg (fun z => Ob.tr 3 1 (tD (rI .i64) z)) (cut_n h15)), trivial⟩⟩
      · skip
        have h16 := f_dec h6
        refine a_exit ?_
        show A _ _ _ _ _ _ _
        refine a_rseq ?_
        rw [show (cutL hs mm) = (cutL hs 1440) from (by rw [show mm = 1440 by omega])]
        have hcl := cutL_len hs 1440
        refine rg_put (d := 67) (v := .ow 103) rfl (og rfl (op_move rfl rfl rfl)) ?_
        refine rg_put (d := 68) (v := .d (.sl 1 (List.map (rI .i64) [1440]))) rfl (og rfl (of_eff (op_slices rfl Try.underlying71 ti3 rfl rfl rfl (by kernel_rfl) (xs := [.fl (.int .i64 1440)]) rfl rfl (.cons rfl rfl (.d _) rfl rfl rfl .nil) rfl) rfl)) ?_
        refine rg_nam (d := 69) (v := .ow 105) (m := 105) (nw := [(105, .tr 3 1 (tD (rI .i64) (((cutL hs 1440) ++ [1440])))), (103, .no)]) rfl (og rfl (of_eff (s_append_td 105 rfl Try.underlying71 ti3 rfl rfl rfl rfl rfl (.d _) (by simp only [List.length_append, List.length_cons, List.length_nil]; omega) rfl) rfl)) rfl ?_
        refine rg_put (d := 7) (v := .ow 105) rfl (og rfl (op_assign rfl rfl rfl)) ?_
        refine rg_done rfl ?_
        refine a_rseq ?_
        refine rg_imp (imp_leakT 7 105 rfl rfl) ?_
        rw [show ((cutL hs 1440) ++ [1440]) = (cs hs) from rfl]
        have hcn := cs_len hs
        refine rg_put (d := 11) (v := .d (.fl (.int .i64 0))) rfl (og rfl (op_assign rfl rfl rfl)) ?_
        refine rg_done rfl ?_
        refine a_block ?_
        refine a_loop (ι := Nat × List Ivl) (fun p => SS [(0, .d (.sl 3 (List.map eWd hs))), (1, .d (.ag (eIv i))), (3, .pt 101 0), (4, .d (.fl (.slice none 0 0))), (6, .d (.fl (.int .i64 ((i.fr / 86400 + (g.1 : Int)))))), (7, .d (.sl 1 (List.map (rI .i64) (cs hs)))), (8, .d (.fl (.int .i64 (mm : Int)))), (16, .d (.fl (.bool (((hs.length : Int) == 0))))), (27, .d (.fl (.bool ((decide ((i.fr / 86400 + (g.1 : Int)) ≤ ((i.to - 1) / 86400))))))), (32, .d (.fl (.bool ((decide ((mm : Int) < 1440)))))), (11, .d (.fl (.int .i64 (p.1 : Int)))), (5, .ow 102)] [(101, .bx 32 (eIv i)), (102, .tr 32 2 (tD eIv p.2))]) (fun p => p.1 + 1 ≤ (cs hs).length ∧ Inv hs i p.2 ((86400 * (i.fr / 86400 + (g.1 : Int))) + (60 * (ix (cs hs) p.1))) (1441 * g.1 + p.1)) (fun p => (cs hs).length - p.1) (0, g.2) (⟨by (show 0 + 1 ≤ (cs hs).length); unfold cs; simp, by (show Inv hs i g.2 (86400 * (i.fr / 86400 + (g.1 : Int)) + 60 * (ix (cs hs) 0)) _; rw [cs_0, show 86400 * (i.fr / 86400 + (g.1 : Int)) + 60 * 0 = (i.fr / 86400 + (g.1 : Int)) * 86400 by omega]; exact hI)⟩) (imp_forget rfl ⟨rfl, rfl, rfl, rfl, rfl, rfl, rfl, rfl, rfl, rfl, rfl, rfl, trivial⟩ ⟨rfl, rfl, trivial⟩) (fun p hok => ?_)
        obtain ⟨hq, hJ⟩ := hok
        have hpl := hJ.l
        have hci := cs_in (hs := hs) (q := p.1) (by omega)
        refine a_seq ?_
        refine a_rseq ?_
        refine rg_put (d := 70) (v := .d (.fl (.int .i64 (p.1 : Int)))) rfl (og rfl (op_move rfl rfl rfl)) ?_
        refine rg_put (d := 71) (v := .d (.fl (.int .i64 (((p.1 : Int) + 1))))) rfl (og rfl (op_bin rfl rfl rfl (fun x y w => b_add64 _ _ _ x y w (by omega)) rfl)) ?_
        refine rg_put (d := 72) (v := .d (.sl 1 (List.map (rI .i64) (cs hs)))) rfl (og rfl (op_move rfl rfl rfl)) ?_
        refine rg_put (d := 73) (v := .d (.fl (.int .i64 (((cs hs).length : Int))))) rfl (og rfl (s_len rfl Try.underlying71 rfl rfl)) ?_
        refine rg_put (d := 74) (v := .d (.fl (.bool ((decide (((p.1 : Int) + 1) < ((cs hs).length : Int))))))) rfl (og rfl (op_bin rfl rfl rfl (b_lss _ _ _ _) rfl)) ?_
        refine rg_done rfl ?_
        refine a_cond rfl (fun h17 => ?_) (fun h17 => ?_)
        · skip
          have h18 := t_dec h17
          refine a_skip ?_
          show A _ _ _ _ _ _ _
          refine a_seq ?_
          refine a_block ?_
          refine a_dseq (by kernel_rfl) ?_
          have hpt : (((p.1 : Int) + 1)).toNat = p.1 + 1 := by omega
          have hci2 : 0 ≤ ix (cs hs) (((p.1 : Int) + 1)).toNat ∧ ix (cs hs) (((p.1 : Int) + 1)).toNat ≤ 1440 := by rw [hpt]; exact cs_in (by omega)
          have hlt : ix (cs hs) p.1 < ix (cs hs) (((p.1 : Int) + 1)).toNat := by rw [hpt]; exact cs_lt (by omega) (by omega)
          refine dr_put (d := 77) (v := .d (.fl (.int .i64 ((i.fr / 86400 + (g.1 : Int)))))) rfl (og rfl (op_move rfl rfl rfl)) ?_
          refine dr_put (d := 78) (v := .d (.fl (.int .i64 ((86400 * (i.fr / 86400 + (g.1 : Int))))))) rfl (og rfl (op_bin rfl rfl rfl (fun x y w => b_mul64 _ _ _ x y w (by omega)) rfl)) ?_
          refine dr_put (d := 79) (v := .d (.sl 1 (List.map (rI .i64) (cs hs)))) rfl (og rfl (op_move rfl rfl rfl)) ?_
          refine dr_put (d := 80) (v := .d (.fl (.int .i64 (p.1 : Int)))) rfl (og rfl (op_move rfl rfl rfl)) ?_
          refine dr_put (d := 81) (v := .el ((rI .i64 ((ix (cs hs) p.1))))) rfl (og rfl (s_index rfl Try.underlying71 ti3 rfl rfl (by omega) (row_at (by omega)) rfl)) ?_
          refine dr_put (d := 82) (v := .d (.fl (.int .i64 ((ix (cs hs) p.1))))) rfl (og rfl (op_load_el rfl Try.underlying3 rfl rfl rfl rfl)) ?_
          refine dr_put (d := 83) (v := .d (.fl (.int .i64 ((60 * (ix (cs hs) p.1)))))) rfl (og rfl (op_bin rfl rfl rfl (fun x y w => b_mul64 _ _ _ x y w (by omega)) rfl)) ?_
          refine dr_put (d := 84) (v := .d (.fl (.int .i64 (((86400 * (i.fr / 86400 + (g.1 : Int))) + (60 * (ix (cs hs) p.1))))))) rfl (og rfl (op_bin rfl rfl rfl (fun x y w => b_add64 _ _ _ x y w (by omega)) rfl)) ?_
          refine dr_put (d := 85) (v := .d (.fl (.int .i64 ((i.fr / 86400 + (g.1 : Int)))))) rfl (og rfl (op_move rfl rfl rfl)) ?_
          refine dr_put (d := 86) (v := .d (.fl (.int .i64 ((86400 * (i.fr / 86400 + (g.1 : Int))))))) rfl (og rfl (op_bin rfl rfl rfl (fun x y w => b_mul64 _ _ _ x y w (by omega)) rfl)) ?_
          refine dr_put (d := 87) (v := .d (.sl 1 (List.map (rI .i64) (cs hs)))) rfl (og rfl (op_move rfl rfl rfl)) ?_
          refine dr_put (d := 88) (v := .d (.fl (.int .i64 (p.1 : Int)))) rfl (og rfl (op_move rfl rfl rfl)) ?_
          refine dr_put (d := 89) (v := .d (.fl (.int .i64 (((p.1 : Int) + 1))))) rfl (og rfl (op_bin rfl rfl rfl (fun x y w => b_add64 _ _ _ x y w (by omega)) rfl)) ?_
          refine dr_put (d := 90) (v := .el ((rI .i64 ((ix (cs hs) (((p.1 : Int) + 1)).toNat))))) rfl (og rfl (s_index rfl Try.underlying71 ti3 rfl rfl (by omega) (row_atI (by omega) (by omega)) rfl)) ?_
          refine dr_put (d := 91) (v := .d (.fl (.int .i64 ((ix (cs hs) (((p.1 : Int) + 1)).toNat))))) rfl (og rfl (op_load_el rfl Try.underlying3 rfl rfl rfl rfl)) ?_
          refine dr_put (d := 92) (v := .d (.fl (.int .i64 ((60 * (ix (cs hs) (((p.1 : Int) + 1)).toNat)))))) rfl (og rfl (op_bin rfl rfl rfl (fun x y w => b_mul64 _ _ _ x y w (by omega)) rfl)) ?_
          refine dr_put (d := 93) (v := .d (.fl (.int .i64 (((86400 * (i.fr / 86400 + (g.1 : Int))) + (60 * (ix (cs hs) (((p.1 : Int) + 1)).toNat))))))) rfl (og rfl (op_bin rfl rfl rfl (fun x y w => b_add64 _ _ _ x y w (by omega)) rfl)) ?_
          refine dr_put (d := 12) (v := .d (.fl (.int .i64 (((86400 * (i.fr / 86400 + (g.1 : Int))) + (60 * (ix (cs hs) p.1))))))) rfl (og rfl (op_assign rfl rfl rfl)) ?_
          refine dr_put (d := 13) (v := .d (.fl (.int .i64 (((86400 * (i.fr / 86400 + (g.1 : Int))) + (60 * (ix (cs hs) (((p.1 : Int) + 1)).toNat))))))) rfl (og rfl (op_assign rfl rfl rfl)) ?_
          refine dr_done rfl (sepB_of [0, 1, 0, 0, 12, 28, 60, 127, 0, 256, 0, 0, 2048, 7168, 15360, 31744, 65280, 255, 262143] (by kernel_rfl)) (by kernel_rfl) ?_
          refine a_seq ?_
          refine a_rseq ?_
          refine rg_put (d := 94) (v := .d (.sl 3 (List.map eWd hs))) rfl (og rfl (op_move rfl rfl rfl)) ?_
          refine rg_put (d := 95) (v := .d (.fl (.int .i64 (((86400 * (i.fr / 86400 + (g.1 : Int))) + (60 * (ix (cs hs) p.1))))))) rfl (og rfl (op_move rfl rfl rfl)) ?_
          refine rg_put (d := 96) (v := .d (.fl (.bool ((inH hs (((86400 * (i.fr / 86400 + (g.1 : Int))) + (60 * (ix (cs hs) p.1))))))))) rfl (og rfl (op_call rfl Try.func28 nm28 rfl (.cons rfl (.d _) (.cons rfl (.d _) .nil)) (inH28 hs (((86400 * (i.fr / 86400 + (g.1 : Int))) + (60 * (ix (cs hs) p.1)))) (by omega) (by omega)) rfl)) ?_
          refine rg_put (d := 97) (v := .d (.fl (.bool ((!((inH hs (((86400 * (i.fr / 86400 + (g.1 : Int))) + (60 * (ix (cs hs) p.1))))))))))) rfl (og rfl (op_un rfl rfl (u_not _) rfl)) ?_
          refine rg_put (d := 98) (v := .d (.fl (.bool ((!((inH hs (((86400 * (i.fr / 86400 + (g.1 : Int))) + (60 * (ix (cs hs) p.1))))))))))) rfl (og rfl (op_move rfl rfl rfl)) ?_
          rcases fot ((!((inH hs (((86400 * (i.fr / 86400 + (g.1 : Int))) + (60 * (ix (cs hs) p.1)))))))) with h19 | h19
          · skip
            have h20 := f_not h19
            refine rg_put (d := 99) (v := .d (.fl (.int .i64 (((86400 * (i.fr / 86400 + (g.1 : Int))) + (60 * (ix (cs hs) (((p.1 : Int) + 1)).toNat))))))) rfl (oy rfl rfl rfl h19 (op_move rfl rfl rfl)) ?_
            refine rg_put (d := 100) (v := .pt 101 0) rfl (oy rfl rfl rfl h19 (of_eff (s_field_pt rfl Try.underlying32 rfl ti3 rfl rfl rfl) rfl)) ?_
            refine rg_put (d := 101) (v := .d (.fl (.int .i64 i.fr))) rfl (oy rfl rfl rfl h19 (op_load_pt rfl Try.underlying3 rfl rfl rfl rfl rfl)) ?_
            refine rg_put (d := 102) (v := .d (.fl (.bool ((decide (((86400 * (i.fr / 86400 + (g.1 : Int))) + (60 * (ix (cs hs) (((p.1 : Int) + 1)).toNat))) ≤ i.fr)))))) rfl (oy rfl rfl rfl h19 (op_bin rfl rfl rfl (b_leq _ _ _ _) rfl)) ?_
            refine rg_put (d := 103) (v := .d (.fl (.bool ((decide (((86400 * (i.fr / 86400 + (g.1 : Int))) + (60 * (ix (cs hs) (((p.1 : Int) + 1)).toNat))) ≤ i.fr)))))) rfl (og rfl (op_pick rfl rfl (by rw [h19]; rfl) rfl)) ?_
            refine rg_put (d := 104) (v := .d (.fl (.bool ((decide (((86400 * (i.fr / 86400 + (g.1 : Int))) + (60 * (ix (cs hs) (((p.1 : Int) + 1)).toNat))) ≤ i.fr)))))) rfl (og rfl (op_move rfl rfl rfl)) ?_
            rcases fot ((decide (((86400 * (i.fr / 86400 + (g.1 : Int))) + (60 * (ix (cs hs) (((p.1 : Int) + 1)).toNat))) ≤ i.fr))) with h21 | h21
            · skip
              have h22 := f_dec h21
              refine rg_put (d := 105) (v := .d (.fl (.int .i64 (((86400 * (i.fr / 86400 + (g.1 : Int))) + (60 * (ix (cs hs) p.1))))))) rfl (oy rfl rfl rfl h21 (op_move rfl rfl rfl)) ?_
              refine rg_put (d := 106) (v := .pt 101 1) rfl (oy rfl rfl rfl h21 (of_eff (s_field_pt rfl Try.underlying32 rfl ti3 rfl rfl rfl) rfl)) ?_
              refine rg_put (d := 107) (v := .d (.fl (.int .i64 i.to))) rfl (oy rfl rfl rfl h21 (op_load_pt rfl Try.underlying3 rfl rfl rfl rfl rfl)) ?_
              refine rg_put (d := 108) (v := .d (.fl (.bool ((decide (i.to ≤ ((86400 * (i.fr / 86400 + (g.1 : Int))) + (60 * (ix (cs hs) p.1))))))))) rfl (oy rfl rfl rfl h21 (op_bin rfl rfl rfl (b_geq _ _ _ _) rfl)) ?_
              refine rg_put (d := 109) (v := .d (.fl (.bool ((decide (i.to ≤ ((86400 * (i.fr / 86400 + (g.1 : Int))) + (60 * (ix (cs hs) p.1))))))))) rfl (og rfl (op_pick rfl rfl (by rw [h21]; rfl) rfl)) ?_
              refine rg_done rfl ?_
              refine a_cond rfl (fun h23 => ?_) (fun h23 => ?_)
              · skip
                have h24 := t_dec h23
                refine a_exit ?_
                show A _ _ _ _ _ _ _
                refine a_region ?_
                refine rg_put (d := 75) (v := .d (.fl (.int .i64 (p.1 : Int)))) rfl (og rfl (op_move rfl rfl rfl)) ?_
                refine rg_put (d := 76) (v := .d (.fl (.int .i64 (((p.1 : Int) + 1))))) rfl (og rfl (op_bin rfl rfl rfl (fun x y w => b_add64 _ _ _ x y w (by omega)) rfl)) ?_
                refine rg_put (d := 11) (v := .d (.fl (.int .i64 (((p.1 : Int) + 1))))) rfl (og rfl (op_assign rfl rfl rfl)) ?_
                refine rg_done rfl ?_
                have hcst : ∀ t, ((86400 * (i.fr / 86400 + (g.1 : Int))) + (60 * (ix (cs hs) p.1))) ≤ t → t < ((86400 * (i.fr / 86400 + (g.1 : Int))) + (60 * (ix (cs hs) (((p.1 : Int) + 1)).toNat))) → inH hs t = inH hs ((86400 * (i.fr / 86400 + (g.1 : Int))) + (60 * (ix (cs hs) p.1))) := fun t h5 h6 => inH_const hci.1 hci2.2 (fun x h7 h8 => cs_gap (by omega) h7 (by rw [hpt] at h8; exact h8)) (by omega) h5 h6
                have hIn : Inv hs i p.2 ((86400 * (i.fr / 86400 + (g.1 : Int))) + (60 * (ix (cs hs) (((p.1 : Int) + 1)).toNat))) (1441 * g.1 + (p.1 + 1)) := Inv.no hJ (by omega) (by omega) hcst (.inr (by omega))
                rw [hpt] at hIn
                have hst : tD eIv p.2 = tD eIv p.2 := rfl
                show ∃ i, _ ∧ _ ∧ Imp _ _ _ _ _
                refine ⟨(p.1 + 1, p.2), ⟨by (show p.1 + 1 + 1 ≤ (cs hs).length); omega, hIn⟩, (by (show (cs hs).length - (p.1 + 1) < (cs hs).length - p.1); omega), imp_forget rfl ⟨rfl, rfl, rfl, rfl, rfl, rfl, rfl, rfl, rfl, rfl, (ci (by omega)), rfl, trivial⟩ ⟨rfl, (congrArg (fun z => Ob.tr 32 2 z) hst), trivial⟩⟩
              · skip
                have h25 := f_dec h23
                refine a_skip ?_
                show A _ _ _ _ _ _ _
                refine a_seq ?_
                refine a_rseq ?_
                refine rg_put (d := 110) (v := .d (.fl (.int .i64 (((86400 * (i.fr / 86400 + (g.1 : Int))) + (60 * (ix (cs hs) p.1))))))) rfl (og rfl (op_move rfl rfl rfl)) ?_
                refine rg_put (d := 111) (v := .pt 101 0) rfl (og rfl (of_eff (s_field_pt rfl Try.underlying32 rfl ti3 rfl rfl rfl) rfl)) ?_
                refine rg_put (d := 112) (v := .d (.fl (.int .i64 i.fr))) rfl (og rfl (op_load_pt rfl Try.underlying3 rfl rfl rfl rfl rfl)) ?_
                refine rg_put (d := 113) (v := .d (.fl (.bool ((decide (((86400 * (i.fr / 86400 + (g.1 : Int))) + (60 * (ix (cs hs) p.1))) < i.fr)))))) rfl (og rfl (op_bin rfl rfl rfl (b_lss _ _ _ _) rfl)) ?_
                refine rg_done rfl ?_
                refine a_cond rfl (fun h26 => ?_) (fun h26 => ?_)
                · skip
                  have h27 := t_dec h26
                  refine a_region ?_
                  refine rg_put (d := 114) (v := .pt 101 0) rfl (og rfl (of_eff (s_field_pt rfl Try.underlying32 rfl ti3 rfl rfl rfl) rfl)) ?_
                  refine rg_put (d := 115) (v := .d (.fl (.int .i64 i.fr))) rfl (og rfl (op_load_pt rfl Try.underlying3 rfl rfl rfl rfl rfl)) ?_
                  refine rg_put (d := 12) (v := .d (.fl (.int .i64 i.fr))) rfl (og rfl (op_assign rfl rfl rfl)) ?_
                  refine rg_done rfl ?_
                  show A _ _ _ _ _ _ _
                  refine a_seq ?_
                  refine a_rseq ?_
                  refine rg_put (d := 116) (v := .d (.fl (.int .i64 (((86400 * (i.fr / 86400 + (g.1 : Int))) + (60 * (ix (cs hs) (((p.1 : Int) + 1)).toNat))))))) rfl (og rfl (op_move rfl rfl rfl)) ?_
                  refine rg_put (d := 117) (v := .pt 101 1) rfl (og rfl (of_eff (s_field_pt rfl Try.underlying32 rfl ti3 rfl rfl rfl) rfl)) ?_
                  refine rg_put (d := 118) (v := .d (.fl (.int .i64 i.to))) rfl (og rfl (op_load_pt rfl Try.underlying3 rfl rfl rfl rfl rfl)) ?_
                  refine rg_put (d := 119) (v := .d (.fl (.bool ((decide (i.to < ((86400 * (i.fr / 86400 + (g.1 : Int))) + (60 * (ix (cs hs) (((p.1 : Int) + 1)).toNat))))))))) rfl (og rfl (op_bin rfl rfl rfl (b_gtr _ _ _ _) rfl)) ?_
                  refine rg_done rfl ?_
                  refine a_cond rfl (fun h28 => ?_) (fun h28 => ?_)
                  · skip
                    have h29 := t_dec h28
                    refine a_region ?_
                    refine rg_put (d := 120) (v := .pt 101 1) rfl (og rfl (of_eff (s_field_pt rfl Try.underlying32 rfl ti3 rfl rfl rfl) rfl)) ?_
                    refine rg_put (d := 121) (v := .d (.fl (.int .i64 i.to))) rfl (og rfl (op_load_pt rfl Try.underlying3 rfl rfl rfl rfl rfl)) ?_
                    refine rg_put (d := 13) (v := .d (.fl (.int .i64 i.to))) rfl (og rfl (op_assign rfl rfl rfl)) ?_
                    refine rg_done rfl ?_
                    show A _ _ _ _ _ _ _
                    refine a_rseq ?_
                    refine rg_put (d := 122) (v := .ow 102) rfl (og rfl (op_move rfl rfl rfl)) ?_
                    refine rg_put (d := 123) (v := .d (.fl (.int .i64 (((p.2).length : Int))))) rfl (og rfl (op_len_tr rfl Try.underlying34 rfl rfl tD_len rfl)) ?_
                    refine rg_put (d := 124) (v := .d (.fl (.bool ((decide (0 < ((p.2).length : Int))))))) rfl (og rfl (op_bin rfl rfl rfl (b_gtr _ _ _ _) rfl)) ?_
                    refine rg_put (d := 125) (v := .d (.fl (.bool ((decide (0 < ((p.2).length : Int))))))) rfl (og rfl (op_move rfl rfl rfl)) ?_
                    rcases fot ((decide (0 < ((p.2).length : Int)))) with h30 | h30
                    · skip
                      have h31 := f_dec h30
                      refine rg_put (d := 126) (v := .d (.fl undef)) rfl (on rfl rfl rfl h30) ?_
                      refine rg_put (d := 127) (v := .d (.fl undef)) rfl (on rfl rfl rfl h30) ?_
                      refine rg_put (d := 128) (v := .d (.fl undef)) rfl (on rfl rfl rfl h30) ?_
                      refine rg_put (d := 129) (v := .d (.fl undef)) rfl (on rfl rfl rfl h30) ?_
                      refine rg_put (d := 130) (v := .d (.fl undef)) rfl (on rfl rfl rfl h30) ?_
                      refine rg_put (d := 131) (v := .d (.fl undef)) rfl (on rfl rfl rfl h30) ?_
                      refine rg_put (d := 132) (v := .d (.fl undef)) rfl (on rfl rfl rfl h30) ?_
                      refine rg_put (d := 133) (v := .d (.fl undef)) rfl (on rfl rfl rfl h30) ?_
                      refine rg_put (d := 134) (v := .d (.fl undef)) rfl (on rfl rfl rfl h30) ?_
                      refine rg_put (d := 135) (v := .d (.fl (.bool false))) rfl (og rfl (op_pick rfl rfl (by rw [h30]; rfl) rfl)) ?_
                      refine rg_done rfl ?_
                      refine a_condF rfl rfl ?_
                      refine a_region ?_
                      refine rg_put (d := 143) (v := .ow 102) rfl (og rfl (op_move rfl rfl rfl)) ?_
                      refine rg_put (d := 144) (v := .d (.fl (.int .i64 i.fr))) rfl (og rfl (op_move rfl rfl rfl)) ?_
                      refine rg_put (d := 145) (v := .d (.fl (.int .i64 i.to))) rfl (og rfl (op_move rfl rfl rfl)) ?_
                      refine rg_put (d := 146) (v := .d (.ag (eIv i))) rfl (og rfl (of_eff (op_build rfl Try.underlying32 ti32 rfl (by kernel_rfl) (by kernel_rfl) (pl := #[(0, 1), (1, 1)]) (by kernel_rfl) (.cons rfl rfl (.d _) rfl rfl rfl (.cons rfl rfl (.d _) rfl rfl rfl .nil)) rfl) rfl)) ?_
                      refine rg_put (d := 147) (v := .d (.sl 2 (List.map eIv [i]))) rfl (og rfl (of_eff (op_slices rfl Try.underlying34 ti32 rfl rfl rfl (by kernel_rfl) (xs := [.ag (eIv i)]) rfl rfl (.cons rfl rfl (.d _) rfl rfl rfl .nil) rfl) rfl)) ?_
                      refine rg_nam (d := 148) (v := .ow 106) (m := 106) (nw := [(106, .tr 32 2 (tD eIv (p.2 ++ [i]))), (102, .no)]) rfl (og rfl (of_eff (s_append_td 106 rfl Try.underlying34 ti32 rfl rfl rfl rfl rfl (.d _) (by simp only [List.length_append, List.length_cons, List.length_nil]; omega) rfl) rfl)) rfl ?_
                      refine rg_put (d := 5) (v := .ow 106) rfl (og rfl (op_assign rfl rfl rfl)) ?_
                      refine rg_done rfl ?_
                      show A _ _ _ _ _ _ _
                      refine a_region ?_
                      refine rg_put (d := 75) (v := .d (.fl (.int .i64 (p.1 : Int)))) rfl (og rfl (op_move rfl rfl rfl)) ?_
                      refine rg_put (d := 76) (v := .d (.fl (.int .i64 (((p.1 : Int) + 1))))) rfl (og rfl (op_bin rfl rfl rfl (fun x y w => b_add64 _ _ _ x y w (by omega)) rfl)) ?_
                      refine rg_put (d := 11) (v := .d (.fl (.int .i64 (((p.1 : Int) + 1))))) rfl (og rfl (op_assign rfl rfl rfl)) ?_
                      refine rg_done rfl ?_
                      have hcst : ∀ t, ((86400 * (i.fr / 86400 + (g.1 : Int))) + (60 * (ix (cs hs) p.1))) ≤ t → t < ((86400 * (i.fr / 86400 + (g.1 : Int))) + (60 * (ix (cs hs) (((p.1 : Int) + 1)).toNat))) → inH hs t = inH hs ((86400 * (i.fr / 86400 + (g.1 : Int))) + (60 * (ix (cs hs) p.1))) := fun t h5 h6 => inH_const hci.1 hci2.2 (fun x h7 h8 => cs_gap (by omega) h7 (by rw [hpt] at h8; exact h8)) (by omega) h5 h6
                      have hIn : Inv hs i (extJ p.2 ⟨i.fr, i.to⟩) ((86400 * (i.fr / 86400 + (g.1 : Int))) + (60 * (ix (cs hs) (((p.1 : Int) + 1)).toNat))) (1441 * g.1 + (p.1 + 1)) := Inv.yes hJ (by omega) (by omega) hcst h20 (by omega) (by omega) (by omega) (by show i.fr = max _ _; omega) (by show i.to = min _ _; omega)
                      rw [hpt] at hIn
                      have hno : ¬ (0 < p.2.length ∧ (ix p.2 (p.2.length - 1)).to = i.fr) := fun h => by omega
                      have hxx : extJ p.2 ⟨i.fr, i.to⟩ = p.2 ++ [⟨i.fr, i.to⟩] := if_neg hno
                      have hst : tD eIv (p.2 ++ [⟨i.fr, i.to⟩]) = tD eIv (extJ p.2 ⟨i.fr, i.to⟩) := by rw [hxx]
                      show ∃ i, _ ∧ _ ∧ Imp _ _ _ _ _
                      refine ⟨(p.1 + 1, extJ p.2 ⟨i.fr, i.to⟩), ⟨by (show p.1 + 1 + 1 ≤ (cs hs).length); omega, hIn⟩, (by (show (cs hs).length - (p.1 + 1) < (cs hs).length - p.1); omega), imp_ren (fun m => bif Nat.beq m 102 then 106 else m) rfl ⟨rfl, rfl, rfl, rfl, rfl, rfl, rfl, rfl, rfl, rfl, (ci (by omega)), rfl, trivial⟩ ⟨rfl, (congrArg (fun z => Ob.tr 32 2 z) hst), trivial⟩⟩
                    · skip
                      have h32 := t_dec h30
                      refine rg_put (d := 126) (v := .ow 102) rfl (oy rfl rfl rfl h30 (op_move rfl rfl rfl)) ?_
                      refine rg_put (d := 127) (v := .ow 102) rfl (oy rfl rfl rfl h30 (op_move rfl rfl rfl)) ?_
                      refine rg_put (d := 128) (v := .d (.fl (.int .i64 (((p.2).length : Int))))) rfl (oy rfl rfl rfl h30 (op_len_tr rfl Try.underlying34 rfl rfl tD_len rfl)) ?_
                      refine rg_put (d := 129) (v := .d (.fl (.int .i64 ((((p.2).length : Int) - 1))))) rfl (oy rfl rfl rfl h30 (op_bin rfl rfl rfl (fun x y w => b_sub64 _ _ _ x y w (by omega)) rfl)) ?_
                      refine rg_put (d := 130) (v := .pe 102 2 (((((p.2).length : Int) - 1)).toNat) 0) rfl (oy rfl rfl rfl h30 (op_index_trI rfl Try.underlying34 ti32 rfl rfl rfl (by omega) (get_lt (tD_at (by omega))) rfl)) ?_
                      refine rg_put (d := 131) (v := .pe 102 2 (((((p.2).length : Int) - 1)).toNat) 1) rfl (oy rfl rfl rfl h30 (of_eff (op_field_pe rfl Try.underlying32 rfl ti3 rfl rfl rfl) rfl)) ?_
                      refine rg_put (d := 132) (v := .d (.fl (.int .i64 (((ix p.2 (((((p.2).length : Int) - 1)).toNat))).to)))) rfl (oy rfl rfl rfl h30 (of_eff (op_load_pe rfl Try.underlying3 rfl rfl rfl (tD_at (by omega)) rfl rfl) rfl)) ?_
                      refine rg_put (d := 133) (v := .d (.fl (.int .i64 i.fr))) rfl (oy rfl rfl rfl h30 (op_move rfl rfl rfl)) ?_
                      refine rg_put (d := 134) (v := .d (.fl (.bool ((((ix p.2 (((((p.2).length : Int) - 1)).toNat))).to == i.fr))))) rfl (oy rfl rfl rfl h30 (op_bin rfl rfl rfl (b_eql _ _ _ _) rfl)) ?_
                      refine rg_put (d := 135) (v := .d (.fl (.bool ((((ix p.2 (((((p.2).length : Int) - 1)).toNat))).to == i.fr))))) rfl (og rfl (op_pick rfl rfl (by rw [h30]; rfl) rfl)) ?_
                      refine rg_done rfl ?_
                      refine a_cond rfl (fun h33 => ?_) (fun h33 => ?_)
                      · skip
                        have h34 := t_beq h33
                        refine a_region ?_
                        refine rg_put (d := 136) (v := .ow 102) rfl (og rfl (op_move rfl rfl rfl)) ?_
                        refine rg_put (d := 137) (v := .ow 102) rfl (og rfl (op_move rfl rfl rfl)) ?_
                        refine rg_put (d := 138) (v := .d (.fl (.int .i64 (((p.2).length : Int))))) rfl (og rfl (op_len_tr rfl Try.underlying34 rfl rfl tD_len rfl)) ?_
                        refine rg_put (d := 139) (v := .d (.fl (.int .i64 ((((p.2).length : Int) - 1))))) rfl (og rfl (op_bin rfl rfl rfl (fun x y w => b_sub64 _ _ _ x y w (by omega)) rfl)) ?_
                        refine rg_put (d := 140) (v := .d (.fl (.int .i64 i.to))) rfl (og rfl (op_move rfl rfl rfl)) ?_
                        refine rg_put (d := 141) (v := .pe 102 2 (((((p.2).length : Int) - 1)).toNat) 0) rfl (og rfl (op_index_trI rfl Try.underlying34 ti32 rfl rfl rfl (by omega) (get_lt (tD_at (by omega))) rfl)) ?_
                        refine rg_put (d := 142) (v := .pe 102 2 (((((p.2).length : Int) - 1)).toNat) 1) rfl (og rfl (of_eff (op_field_pe rfl Try.underlying32 rfl ti3 rfl rfl rfl) rfl)) ?_
                        refine rg_sto (nw := [(102, .tr 32 2 (((tD eIv p.2).set (((((p.2).length : Int) - 1)).toNat) [.dv (.fl (.int .i64 (((ix p.2 (((((p.2).length : Int) - 1)).toNat))).fr))), .dv (.fl (.int .i64 i.to))])))]) rfl (og rfl (of_eff (op_store_pe rfl rfl ti3 rfl rfl (tD_at (by omega)) rfl (.d rfl) rfl rfl rfl) rfl)) ?_
                        refine rg_done rfl ?_
                        show A _ _ _ _ _ _ _
                        refine a_region ?_
                        refine rg_put (d := 75) (v := .d (.fl (.int .i64 (p.1 : Int)))) rfl (og rfl (op_move rfl rfl rfl)) ?_
                        refine rg_put (d := 76) (v := .d (.fl (.int .i64 (((p.1 : Int) + 1))))) rfl (og rfl (op_bin rfl rfl rfl (fun x y w => b_add64 _ _ _ x y w (by omega)) rfl)) ?_
                        refine rg_put (d := 11) (v := .d (.fl (.int .i64 (((p.1 : Int) + 1))))) rfl (og rfl (op_assign rfl rfl rfl)) ?_
                        refine rg_done rfl ?_
                        have hcst : ∀ t, ((86400 * (i.fr / 86400 + (g.1 : Int))) + (60 * (ix (cs hs) p.1))) ≤ t → t < ((86400 * (i.fr / 86400 + (g.1 : Int))) + (60 * (ix (cs hs) (((p.1 : Int) + 1)).toNat))) → inH hs t = inH hs ((86400 * (i.fr / 86400 + (g.1 : Int))) + (60 * (ix (cs hs) p.1))) := fun t h5 h6 => inH_const hci.1 hci2.2 (fun x h7 h8 => cs_gap (by omega) h7 (by rw [hpt] at h8; exact h8)) (by omega) h5 h6
                        have hIn : Inv hs i (extJ p.2 ⟨i.fr, i.to⟩) ((86400 * (i.fr / 86400 + (g.1 : Int))) + (60 * (ix (cs hs) (((p.1 : Int) + 1)).toNat))) (1441 * g.1 + (p.1 + 1)) := Inv.yes hJ (by omega) (by omega) hcst h20 (by omega) (by omega) (by omega) (by show i.fr = max _ _; omega) (by show i.to = min _ _; omega)
                        rw [hpt] at hIn
                        have hpv : ((p.2.length : Int) - 1).toNat = p.2.length - 1 := by omega
                        have hee : (ix p.2 (p.2.length - 1)).to = i.fr := by have h := eq_of_beq h33; rw [hpv] at h; exact h
                        have hxx : extJ p.2 ⟨i.fr, i.to⟩ = p.2.set (p.2.length - 1) ⟨(ix p.2 (p.2.length - 1)).fr, i.to⟩ := if_pos ⟨by omega, hee⟩
                        have hst : ((tD eIv p.2).set (((((p.2).length : Int) - 1)).toNat) [.dv (.fl (.int .i64 (((ix p.2 (((((p.2).length : Int) - 1)).toNat))).fr))), .dv (.fl (.int .i64 i.to))]) = tD eIv (extJ p.2 ⟨i.fr, i.to⟩) := (tD_set (α := Ivl) (x := ⟨(ix p.2 ((p.2.length : Int) - 1).toNat).fr, i.to⟩) rfl).trans (by rw [hpv, hxx])
                        show ∃ i, _ ∧ _ ∧ Imp _ _ _ _ _
                        refine ⟨(p.1 + 1, extJ p.2 ⟨i.fr, i.to⟩), ⟨by (show p.1 + 1 + 1 ≤ (cs hs).length); omega, hIn⟩, (by (show (cs hs).length - (p.1 + 1) < (cs hs).length - p.1); omega), imp_forget rfl ⟨rfl, rfl, rfl, rfl, rfl, rfl, rfl, rfl, rfl, rfl, (ci (by omega)), rfl, trivial⟩ ⟨rfl, (congrArg (fun z => Ob.tr 32 2 z) hst), trivial⟩⟩
                      · skip
                        have h35 := f_beq h33
                        refine a_region ?_
                        refine rg_put (d := 143) (v := .ow 102) rfl (og rfl (op_move rfl rfl rfl)) ?_
                        refine rg_put (d := 144) (v := .d (.fl (.int .i64 i.fr))) rfl (og rfl (op_move rfl rfl rfl)) ?_
                        refine rg_put (d := 145) (v := .d (.fl (.int .i64 i.to))) rfl (og rfl (op_move rfl rfl rfl)) ?_
                        refine rg_put (d := 146) (v := .d (.ag (eIv i))) rfl (og rfl (of_eff (op_build rfl Try.underlying32 ti32 rfl (by kernel_rfl) (by kernel_rfl) (pl := #[(0, 1), (1, 1)]) (by kernel_rfl) (.cons rfl rfl (.d _) rfl rfl rfl (.cons rfl rfl (.d _) rfl rfl rfl .nil)) rfl) rfl)) ?_
                        refine rg_put (d := 147) (v := .d (.sl 2 (List.map eIv [i]))) rfl (og rfl (of_eff (op_slices rfl Try.underlying34 ti32 rfl rfl rfl (by kernel_rfl) (xs := [.ag (eIv i)]) rfl rfl (.cons rfl rfl (.d _) rfl rfl rfl .nil) rfl) rfl)) ?_
                        refine rg_nam (d := 148) (v := .ow 107) (m := 107) (nw := [(107, .tr 32 2 (tD eIv (p.2 ++ [i]))), (102, .no)]) rfl (og rfl (of_eff (s_append_td 107 rfl Try.underlying34 ti32 rfl rfl rfl rfl rfl (.d _) (by simp only [List.length_append, List.length_cons, List.length_nil]; omega) rfl) rfl)) rfl ?_
                        refine rg_put (d := 5) (v := .ow 107) rfl (og rfl (op_assign rfl rfl rfl)) ?_
                        refine rg_done rfl ?_
                        show A _ _ _ _ _ _ _
                        refine a_region ?_
                        refine rg_put (d := 75) (v := .d (.fl (.int .i64 (p.1 : Int)))) rfl (og rfl (op_move rfl rfl rfl)) ?_
                        refine rg_put (d := 76) (v := .d (.fl (.int .i64 (((p.1 : Int) + 1))))) rfl (og rfl (op_bin rfl rfl rfl (fun x y w => b_add64 _ _ _ x y w (by omega)) rfl)) ?_
                        refine rg_put (d := 11) (v := .d (.fl (.int .i64 (((p.1 : Int) + 1))))) rfl (og rfl (op_assign rfl rfl rfl)) ?_
                        refine rg_done rfl ?_
                        have hcst : ∀ t, ((86400 * (i.fr / 86400 + (g.1 : Int))) + (60 * (ix (cs hs) p.1))) ≤ t → t < ((86400 * (i.fr / 86400 + (g.1 : Int))) + (60 * (ix (cs hs) (((p.1 : Int) + 1)).toNat))) → inH hs t = inH hs ((86400 * (i.fr / 86400 + (g.1 : Int))) + (60 * (ix (cs hs) p.1))) := fun t h5 h6 => inH_const hci.1 hci2.2 (fun x h7 h8 => cs_gap (by omega) h7 (by rw [hpt] at h8; exact h8)) (by omega) h5 h6
                        have hIn : Inv hs i (extJ p.2 ⟨i.fr, i.to⟩) ((86400 * (i.fr / 86400 + (g.1 : Int))) + (60 * (ix (cs hs) (((p.1 : Int) + 1)).toNat))) (1441 * g.1 + (p.1 + 1)) := Inv.yes hJ (by omega) (by omega) hcst h20 (by omega) (by omega) (by omega) (by show i.fr = max _ _; omega) (by show i.to = min _ _; omega)
                        rw [hpt] at hIn
                        have hpv : ((p.2.length : Int) - 1).toNat = p.2.length - 1 := by omega
                        have hno : ¬ (0 < p.2.length ∧ (ix p.2 (p.2.length - 1)).to = i.fr) := fun h => by have h1 := h33; rw [hpv] at h1; have h2 := f_beq h1; exact h2 h.2
                        have hxx : extJ p.2 ⟨i.fr, i.to⟩ = p.2 ++ [⟨i.fr, i.to⟩] := if_neg hno
                        have hst : tD eIv (p.2 ++ [⟨i.fr, i.to⟩]) = tD eIv (extJ p.2 ⟨i.fr, i.to⟩) := by rw [hxx]
                        show ∃ i, _ ∧ _ ∧ Imp _ _ _ _ _
                        refine ⟨(p.1 + 1, extJ p.2 ⟨i.fr, i.to⟩), ⟨by (show p.1 + 1 + 1 ≤ (cs hs).length); omega, hIn⟩, (by (show (cs hs).length - (p.1 + 1) < (cs hs).length - p.1); omega), imp_ren (fun m => bif Nat.beq m 102 then 107 else m) rfl ⟨rfl, rfl, rfl, rfl, rfl, rfl, rfl, rfl, rfl, rfl, (ci (by omega)), rfl, trivial⟩ ⟨rfl, (congrArg (fun z => Ob.tr 32 2 z) hst), trivial⟩⟩
                  · skip
                    have h36 := f_dec h28
                    refine a_skip ?_
                    show A _ _ _ _ _ _ _
                    refine a_rseq ?_
                    refine rg_put (d := 122) (v := .ow 102) rfl (og rfl (op_move rfl rfl rfl)) ?_
                    refine rg_put (d := 123) (v := .d (.fl (.int .i64 (((p.2).length : Int))))) rfl (og rfl (op_len_tr rfl Try.underlying34 rfl rfl tD_len rfl)) ?_
                    refine rg_put (d := 124) (v := .d (.fl (.bool ((decide (0 < ((p.2).length : Int))))))) rfl (og rfl (op_bin rfl rfl rfl (b_gtr _ _ _ _) rfl)) ?_
                    refine rg_put (d := 125) (v := .d (.fl (.bool ((decide (0 < ((p.2).length : Int))))))) rfl (og rfl (op_move rfl rfl rfl)) ?_
                    rcases fot ((decide (0 < ((p.2).length : Int)))) with h37 | h37
                    · skip
                      have h38 := f_dec h37
                      refine rg_put (d := 126) (v := .d (.fl undef)) rfl (on rfl rfl rfl h37) ?_
                      refine rg_put (d := 127) (v := .d (.fl undef)) rfl (on rfl rfl rfl h37) ?_
                      refine rg_put (d := 128) (v := .d (.fl undef)) rfl (on rfl rfl rfl h37) ?_
                      refine rg_put (d := 129) (v := .d (.fl undef)) rfl (on rfl rfl rfl h37) ?_
                      refine rg_put (d := 130) (v := .d (.fl undef)) rfl (on rfl rfl rfl h37) ?_
                      refine rg_put (d := 131) (v := .d (.fl undef)) rfl (on rfl rfl rfl h37) ?_
                      refine rg_put (d := 132) (v := .d (.fl undef)) rfl (on rfl rfl rfl h37) ?_
                      refine rg_put (d := 133) (v := .d (.fl undef)) rfl (on rfl rfl rfl h37) ?_
                      refine rg_put (d := 134) (v := .d (.fl undef)) rfl (on rfl rfl rfl h37) ?_
                      refine rg_put (d := 135) (v := .d (.fl (.bool false))) rfl (og rfl (op_pick rfl rfl (by rw [h37]; rfl) rfl)) ?_
                      refine rg_done rfl ?_
                      refine a_condF rfl rfl ?_
                      refine a_region ?_
                      refine rg_put (d := 143) (v := .ow 102) rfl (og rfl (op_move rfl rfl rfl)) ?_
                      refine rg_put (d := 144) (v := .d (.fl (.int .i64 i.fr))) rfl (og rfl (op_move rfl rfl rfl)) ?_
                      refine rg_put (d := 145) (v := .d (.fl (.int .i64 (((86400 * (i.fr / 86400 + (g.1 : Int))) + (60 * (ix (cs hs) (((p.1 : Int) + 1)).toNat))))))) rfl (og rfl (op_move rfl rfl rfl)) ?_
                      refine rg_put (d := 146) (v := .d (.ag (eIv ((Ivl.mk i.fr (((86400 * (i.fr / 86400 + (g.1 : Int))) + (60 * (ix (cs hs) (((p.1 : Int) + 1)).toNat))))))))) rfl (og rfl (of_eff (op_build rfl Try.underlying32 ti32 rfl (by kernel_rfl) (by kernel_rfl) (pl := #[(0, 1), (1, 1)]) (by kernel_rfl) (.cons rfl rfl (.d _) rfl rfl rfl (.cons rfl rfl (.d _) rfl rfl rfl .nil)) rfl) rfl)) ?_
                      refine rg_put (d := 147) (v := .d (.sl 2 (List.map eIv [(Ivl.mk i.fr (((86400 * (i.fr / 86400 + (g.1 : Int))) + (60 * (ix (cs hs) (((p.1 : Int) + 1)).toNat)))))]))) rfl (og rfl (of_eff (op_slices rfl Try.underlying34 ti32 rfl rfl rfl (by kernel_rfl) (xs := [.ag (eIv ((Ivl.mk i.fr (((86400 * (i.fr / 86400 + (g.1 : Int))) + (60 * (ix (cs hs) (((p.1 : Int) + 1)).toNat)))))))]) rfl rfl (.cons rfl rfl (.d _) rfl rfl rfl .nil) rfl) rfl)) ?_
                      refine rg_nam (d := 148) (v := .ow 108) (m := 108) (nw := [(108, .tr 32 2 (tD eIv ((p.2 ++ [(Ivl.mk i.fr (((86400 * (i.fr / 86400 + (g.1 : Int))) + (60 * (ix (cs hs) (((p.1 : Int) + 1)).toNat)))))])))), (102, .no)]) rfl (og rfl (of_eff (s_append_td 108 rfl Try.underlying34 ti32 rfl rfl rfl rfl rfl (.d _) (by simp only [List.length_append, List.length_cons, List.length_nil]; omega) rfl) rfl)) rfl ?_
                      refine rg_put (d := 5) (v := .ow 108) rfl (og rfl (op_assign rfl rfl rfl)) ?_
                      refine rg_done rfl ?_
                      show A _ _ _ _ _ _ _
                      refine a_region ?_
                      refine rg_put (d := 75) (v := .d (.fl (.int .i64 (p.1 : Int)))) rfl (og rfl (op_move rfl rfl rfl)) ?_
                      refine rg_put (d := 76) (v := .d (.fl (.int .i64 (((p.1 : Int) + 1))))) rfl (og rfl (op_bin rfl rfl rfl (fun x y w => b_add64 _ _ _ x y w (by omega)) rfl)) ?_
                      refine rg_put (d := 11) (v := .d (.fl (.int .i64 (((p.1 : Int) + 1))))) rfl (og rfl (op_assign rfl rfl rfl)) ?_
                      refine rg_done rfl ?_
                      have hcst : ∀ t, ((86400 * (i.fr / 86400 + (g.1 : Int))) + (60 * (ix (cs hs) p.1))) ≤ t → t < ((86400 * (i.fr / 86400 + (g.1 : Int))) + (60 * (ix (cs hs) (((p.1 : Int) + 1)).toNat))) → inH hs t = inH hs ((86400 * (i.fr / 86400 + (g.1 : Int))) + (60 * (ix (cs hs) p.1))) := fun t h5 h6 => inH_const hci.1 hci2.2 (fun x h7 h8 => cs_gap (by omega) h7 (by rw [hpt] at h8; exact h8)) (by omega) h5 h6
                      have hIn : Inv hs i (extJ p.2 ⟨i.fr, ((86400 * (i.fr / 86400 + (g.1 : Int))) + (60 * (ix (cs hs) (((p.1 : Int) + 1)).toNat)))⟩) ((86400 * (i.fr / 86400 + (g.1 : Int))) + (60 * (ix (cs hs) (((p.1 : Int) + 1)).toNat))) (1441 * g.1 + (p.1 + 1)) := Inv.yes hJ (by omega) (by omega) hcst h20 (by omega) (by omega) (by omega) (by show i.fr = max _ _; omega) (by show ((86400 * (i.fr / 86400 + (g.1 : Int))) + (60 * (ix (cs hs) (((p.1 : Int) + 1)).toNat))) = min _ _; omega)
                      rw [hpt] at hIn
                      have hno : ¬ (0 < p.2.length ∧ (ix p.2 (p.2.length - 1)).to = i.fr) := fun h => by omega
                      have hxx : extJ p.2 ⟨i.fr, ((86400 * (i.fr / 86400 + (g.1 : Int))) + (60 * (ix (cs hs) (((p.1 : Int) + 1)).toNat)))⟩ = p.2 ++ [⟨i.fr, ((86400 * (i.fr / 86400 + (g.1 : Int))) + (60 * (ix (cs hs) (((p.1 : Int) + 1)).toNat)))⟩] := if_neg hno
                      have hst : tD eIv (p.2 ++ [⟨i.fr, ((86400 * (i.fr / 86400 + (g.1 : Int))) + (60 * (ix (cs hs) (((p.1 : Int) + 1)).toNat)))⟩]) = tD eIv (extJ p.2 ⟨i.fr, ((86400 * (i.fr / 86400 + (g.1 : Int))) + (60 * (ix (cs hs) (((p.1 : Int) + 1)).toNat)))⟩) := by rw [hxx]
                      show ∃ i, _ ∧ _ ∧ Imp _ _ _ _ _
                      refine ⟨(p.1 + 1, extJ p.2 ⟨i.fr, ((86400 * (i.fr / 86400 + (g.1 : Int))) + (60 * (ix (cs hs) (((p.1 : Int) + 1)).toNat)))⟩), ⟨by (show p.1 + 1 + 1 ≤ (cs hs).length); omega, hIn⟩, (by (show (cs hs).length - (p.1 + 1) < (cs hs).length - p.1); omega), imp_ren (fun m => bif Nat.beq m 102 then 108 else m) rfl ⟨rfl, rfl, rfl, rfl, rfl, rfl, rfl, rfl, rfl, rfl, (ci (by omega)), rfl, trivial⟩ ⟨rfl, (congrArg (fun z => Ob.tr 32 2 z) hst), trivial⟩⟩
                    · skip
                      have h39 := t_dec h37
                      refine rg_put (d := 126) (v := .ow 102) rfl (oy rfl rfl rfl h37 (op_move rfl rfl rfl)) ?_
                      refine rg_put (d := 127) (v := .ow 102) rfl (oy rfl rfl rfl h37 (op_move rfl rfl rfl)) ?_
                      refine rg_put (d := 128) (v := .d (.fl (.int .i64 (((p.2).length : Int))))) rfl (oy rfl rfl rfl h37 (op_len_tr rfl Try.underlying34 rfl rfl tD_len rfl)) ?_
                      refine rg_put (d := 129) (v := .d (.fl (.int .i64 ((((p.2).length : Int) - 1))))) rfl (oy rfl rfl rfl h37 (op_bin rfl rfl rfl (fun x y w => b_sub64 _ _ _ x y w (by omega)) rfl)) ?_
                      refine rg_put (d := 130) (v := .pe 102 2 (((((p.2).length : Int) - 1)).toNat) 0) rfl (oy rfl rfl rfl h37 (op_index_trI rfl Try.underlying34 ti32 rfl rfl rfl (by omega) (get_lt (tD_at (by omega))) rfl)) ?_
                      refine rg_put (d := 131) (v := .pe 102 2 (((((p.2).length : Int) - 1)).toNat) 1) rfl (oy rfl rfl rfl h37 (of_eff (op_field_pe rfl Try.underlying32 rfl ti3 rfl rfl rfl) rfl)) ?_
                      refine rg_put (d := 132) (v := .d (.fl (.int .i64 (((ix p.2 (((((p.2).length : Int) - 1)).toNat))).to)))) rfl (oy rfl rfl rfl h37 (of_eff (op_load_pe rfl Try.underlying3 rfl rfl rfl (tD_at (by omega)) rfl rfl) rfl)) ?_
                      refine rg_put (d := 133) (v := .d (.fl (.int .i64 i.fr))) rfl (oy rfl rfl rfl h37 (op_move rfl rfl rfl)) ?_
                      refine rg_put (d := 134) (v := .d (.fl (.bool ((((ix p.2 (((((p.2).length : Int) - 1)).toNat))).to == i.fr))))) rfl (oy rfl rfl rfl h37 (op_bin rfl rfl rfl (b_eql _ _ _ _) rfl)) ?_
                      refine rg_put (d := 135) (v := .d (.fl (.bool ((((ix p.2 (((((p.2).length : Int) - 1)).toNat))).to == i.fr))))) rfl (og rfl (op_pick rfl rfl (by rw [h37]; rfl) rfl)) ?_
                      refine rg_done rfl ?_
                      refine a_cond rfl (fun h40 => ?_) (fun h40 => ?_)
                      · skip
                        have h41 := t_beq h40
                        refine a_region ?_
                        refine rg_put (d := 136) (v := .ow 102) rfl (og rfl (op_move rfl rfl rfl)) ?_
                        refine rg_put (d := 137) (v := .ow 102) rfl (og rfl (op_move rfl rfl rfl)) ?_
                        refine rg_put (d := 138) (v := .d (.fl (.int .i64 (((p.2).length : Int))))) rfl (og rfl (op_len_tr rfl Try.underlying34 rfl rfl tD_len rfl)) ?_
                        refine rg_put (d := 139) (v := .d (.fl (.int .i64 ((((p.2).length : Int) - 1))))) rfl (og rfl (op_bin rfl rfl rfl (fun x y w => b_sub64 _ _ _ x y w (by omega)) rfl)) ?_
                        refine rg_put (d := 140) (v := .d (.fl (.int .i64 (((86400 * (i.fr / 86400 + (g.1 : Int))) + (60 * (ix (cs hs) (((p.1 : Int) + 1)).toNat))))))) rfl (og rfl (op_move rfl rfl rfl)) ?_
                        refine rg_put (d := 141) (v := .pe 102 2 (((((p.2).length : Int) - 1)).toNat) 0) rfl (og rfl (op_index_trI rfl Try.underlying34 ti32 rfl rfl rfl (by omega) (get_lt (tD_at (by omega))) rfl)) ?_
                        refine rg_put (d := 142) (v := .pe 102 2 (((((p.2).length : Int) - 1)).toNat) 1) rfl (og rfl (of_eff (op_field_pe rfl Try.underlying32 rfl ti3 rfl rfl rfl) rfl)) ?_
                        refine rg_sto (nw := [(102, .tr 32 2 (((tD eIv p.2).set (((((p.2).length : Int) - 1)).toNat) [.dv (.fl (.int .i64 (((ix p.2 (((((p.2).length : Int) - 1)).toNat))).fr))), .dv (.fl (.int .i64 (((86400 * (i.fr / 86400 + (g.1 : Int))) + (60 * (ix (cs hs) (((p.1 : Int) + 1)).toNat))))))])))]) rfl (og rfl (of_eff (op_store_pe rfl rfl ti3 rfl rfl (tD_at (by omega)) rfl (.d rfl) rfl rfl rfl) rfl)) ?_
                        refine rg_done rfl ?_
                        show A _ _ _ _ _ _ _
                        refine a_region ?_
                        refine rg_put (d := 75) (v := .d (.fl (.int .i64 (p.1 : Int)))) rfl (og rfl (op_move rfl rfl rfl)) ?_
                        refine rg_put (d := 76) (v := .d (.fl (.int .i64 (((p.1 : Int) + 1))))) rfl (og rfl (op_bin rfl rfl rfl (fun x y w => b_add64 _ _ _ x y w (by omega)) rfl)) ?_
                        refine rg_put (d := 11) (v := .d (.fl (.int .i64 (((p.1 : Int) + 1))))) rfl (og rfl (op_assign rfl rfl rfl)) ?_
                        refine rg_done rfl ?_
                        have hcst : ∀ t, ((86400 * (i.fr / 86400 + (g.1 : Int))) + (60 * (ix (cs hs) p.1))) ≤ t → t < ((86400 * (i.fr / 86400 + (g.1 : Int))) + (60 * (ix (cs hs) (((p.1 : Int) + 1)).toNat))) → inH hs t = inH hs ((86400 * (i.fr / 86400 + (g.1 : Int))) + (60 * (ix (cs hs) p.1))) := fun t h5 h6 => inH_const hci.1 hci2.2 (fun x h7 h8 => cs_gap (by omega) h7 (by rw [hpt] at h8; exact h8)) (by omega) h5 h6
                        have hIn : Inv hs i (extJ p.2 ⟨i.fr, ((86400 * (i.fr / 86400 + (g.1 : Int))) + (60 * (ix (cs hs) (((p.1 : Int) + 1)).toNat)))⟩) ((86400 * (i.fr / 86400 + (g.1 : Int))) + (60 * (ix (cs hs) (((p.1 : Int) + 1)).toNat))) (1441 * g.1 + (p.1 + 1)) := Inv.yes hJ (by omega) (by omega) hcst h20 (by omega) (by omega) (by omega) (by show i.fr = max _ _; omega) (by show ((86400 * (i.fr / 86400 + (g.1 : Int))) + (60 * (ix (cs hs) (((p.1 : Int) + 1)).toNat))) = min _ _; omega)
                        rw [hpt] at hIn
                        have hpv : ((p.2.length : Int) - 1).toNat = p.2.length - 1 := by omega
                        have hee : (ix p.2 (p.2.length - 1)).to = i.fr := by have h := eq_of_beq h40; rw [hpv] at h; exact h
                        have hxx : extJ p.2 ⟨i.fr, ((86400 * (i.fr / 86400 + (g.1 : Int))) + (60 * (ix (cs hs) (((p.1 : Int) + 1)).toNat)))⟩ = p.2.set (p.2.length - 1) ⟨(ix p.2 (p.2.length - 1)).fr, ((86400 * (i.fr / 86400 + (g.1 : Int))) + (60 * (ix (cs hs) (((p.1 : Int) + 1)).toNat)))⟩ := if_pos ⟨by omega, hee⟩
                        have hst : ((tD eIv p.2).set (((((p.2).length : Int) - 1)).toNat) [.dv (.fl (.int .i64 (((ix p.2 (((((p.2).length : Int) - 1)).toNat))).fr))), .dv (.fl (.int .i64 (((86400 * (i.fr / 86400 + (g.1 : Int))) + (60 * (ix (cs hs) (((p.1 : Int) + 1)).toNat))))))]) = tD eIv (extJ p.2 ⟨i.fr, ((86400 * (i.fr / 86400 + (g.1 : Int))) + (60 * (ix (cs hs) (((p.1 : Int) + 1)).toNat)))⟩) := (tD_set (α := Ivl) (x := ⟨(ix p.2 ((p.2.length : Int) - 1).toNat).fr, ((86400 * (i.fr / 86400 + (g.1 : Int))) + (60 * (ix (cs hs) (((p.1 : Int) + 1)).toNat)))⟩) rfl).trans (by rw [hpv, hxx])
                        show ∃ i, _ ∧ _ ∧ Imp _ _ _ _ _
                        refine ⟨(p.1 + 1, extJ p.2 ⟨i.fr, ((86400 * (i.fr / 86400 + (g.1 : Int))) + (60 * (ix (cs hs) (((p.1 : Int) + 1)).toNat)))⟩), ⟨by (show p.1 + 1 + 1 ≤ (cs hs).length); omega, hIn⟩, (by (show (cs hs).length - (p.1 + 1) < (cs hs).length - p.1); omega), imp_forget rfl ⟨rfl, rfl, rfl, rfl, rfl, rfl, rfl, rfl, rfl, rfl, (ci (by omega)), rfl, trivial⟩ ⟨rfl, (congrArg (fun z => Ob.tr 32 2 z) hst), trivial⟩⟩
                      · skip
                        have h42 := f_beq h40
                        refine a_region ?_
                        refine rg_put (d := 143) (v := .ow 102) rfl (og rfl (op_move rfl rfl rfl)) ?_
                        refine rg_put (d := 144) (v := .d (.fl (.int .i64 i.fr))) rfl (og rfl (op_move rfl rfl rfl)) ?_
                        refine rg_put (d := 145) (v := .d (.fl (.int .i64 (((86400 * (i.fr / 86400 + (g.1 : Int))) + (60 * (ix (cs hs) (((p.1 : Int) + 1)).toNat))))))) rfl (og rfl (op_move rfl rfl rfl)) ?_
                        refine rg_put (d := 146) (v := .d (.ag (eIv ((Ivl.mk i.fr (((86400 * (i.fr / 86400 + (g.1 : Int))) + (60 * (ix (cs hs) (((p.1 : Int) + 1)).toNat))))))))) rfl (og rfl (of_eff (op_build rfl Try.underlying32 ti32 rfl (by kernel_rfl) (by kernel_rfl) (pl := #[(0, 1), (1, 1)]) (by kernel_rfl) (.cons rfl rfl (.d _) rfl rfl rfl (.cons rfl rfl (.d _) rfl rfl rfl .nil)) rfl) rfl)) ?_
                        refine rg_put (d := 147) (v := .d (.sl 2 (List.map eIv [(Ivl.mk i.fr (((86400 * (i.fr / 86400 + (g.1 : Int))) + (60 * (ix (cs hs) (((p.1 : Int) + 1)).toNat)))))]))) rfl (og rfl (of_eff (op_slices rfl Try.underlying34 ti32 rfl rfl rfl (by kernel_rfl) (xs := [.ag (eIv ((Ivl.mk i.fr (((86400 * (i.fr / 86400 + (g.1 : Int))) + (60 * (ix (cs hs) (((p.1 : Int) + 1)).toNat)))))))]) rfl rfl (.cons rfl rfl (.d _) rfl rfl rfl .nil) rfl) rfl)) ?_
                        refine rg_nam (d := 148) (v := .ow 109) (m := 109) (nw := [(109, .tr 32 2 (tD eIv ((p.2 ++ [(Ivl.mk i.fr (((86400 * (i.fr / 86400 + (g.1 : Int))) + (60 * (ix (cs hs) (((p.1 : Int) + 1)).toNat)))))])))), (102, .no)]) rfl (og rfl (of_eff (s_append_td 109 rfl Try.underlying34 ti32 rfl rfl rfl rfl rfl (.d _) (by simp only [List.length_append, List.length_cons, List.length_nil]; omega) rfl) rfl)) rfl ?_
                        refine rg_put (d := 5) (v := .ow 109) rfl (og rfl (op_assign rfl rfl rfl)) ?_
                        refine rg_done rfl ?_
                        show A _ _ _ _ _ _ _
                        refine a_region ?_
                        refine rg_put (d := 75) (v := .d (.fl (.int .i64 (p.1 : Int)))) rfl (og rfl (op_move rfl rfl rfl)) ?_
                        refine rg_put (d := 76) (v := .d (.fl (.int .i64 (((p.1 : Int) + 1))))) rfl (og rfl (op_bin rfl rfl rfl (fun x y w => b_add64 _ _ _ x y w (by omega)) rfl)) ?_
                        refine rg_put (d := 11) (v := .d (.fl (.int .i64 (((p.1 : Int) + 1))))) rfl (og rfl (op_assign rfl rfl rfl)) ?_
                        refine rg_done rfl ?_
                        have hcst : ∀ t, ((86400 * (i.fr / 86400 + (g.1 : Int))) + (60 * (ix (cs hs) p.1))) ≤ t → t < ((86400 * (i.fr / 86400 + (g.1 : Int))) + (60 * (ix (cs hs) (((p.1 : Int) + 1)).toNat))) → inH hs t = inH hs ((86400 * (i.fr / 86400 + (g.1 : Int))) + (60 * (ix (cs hs) p.1))) := fun t h5 h6 => inH_const hci.1 hci2.2 (fun x h7 h8 => cs_gap (by omega) h7 (by rw [hpt] at h8; exact h8)) (by omega) h5 h6
                        have hIn : Inv hs i (extJ p.2 ⟨i.fr, ((86400 * (i.fr / 86400 + (g.1 : Int))) + (60 * (ix (cs hs) (((p.1 : Int) + 1)).toNat)))⟩) ((86400 * (i.fr / 86400 + (g.1 : Int))) + (60 * (ix (cs hs) (((p.1 : Int) + 1)).toNat))) (1441 * g.1 + (p.1 + 1)) := Inv.yes hJ (by omega) (by omega) hcst h20 (by omega) (by omega) (by omega) (by show i.fr = max _ _; omega) (by show ((86400 * (i.fr / 86400 + (g.1 : Int))) + (60 * (ix (cs hs) (((p.1 : Int) + 1)).toNat))) = min _ _; omega)
                        rw [hpt] at hIn
                        have hpv : ((p.2.length : Int) - 1).toNat = p.2.length - 1 := by omega
                        have hno : ¬ (0 < p.2.length ∧ (ix p.2 (p.2.length - 1)).to = i.fr) := fun h => by have h1 := h40; rw [hpv] at h1; have h2 := f_beq h1; exact h2 h.2
                        have hxx : extJ p.2 ⟨i.fr, ((86400 * (i.fr / 86400 + (g.1 : Int))) + (60 * (ix (cs hs) (((p.1 : Int) + 1)).toNat)))⟩ = p.2 ++ [⟨i.fr, ((86400 * (i.fr / 86400 + (g.1 : Int))) + (60 * (ix (cs hs) (((p.1 : Int) + 1)).toNat)))⟩] := if_neg hno
                        have hst : tD eIv (p.2 ++ [⟨i.fr, ((86400 * (i.fr / 86400 + (g.1 : Int))) + (60 * (ix (cs hs) (((p.1 : Int) + 1)).toNat)))⟩]) = tD eIv (extJ p.2 ⟨i.fr, ((86400 * (i.fr / 86400 + (g.1 : Int))) + (60 * (ix (cs hs) (((p.1 : Int) + 1)).toNat)))⟩) := by rw [hxx]
                        show ∃ i, _ ∧ _ ∧ Imp _ _ _ _ _
                        refine ⟨(p.1 + 1, extJ p.2 ⟨i.fr, ((86400 * (i.fr / 86400 + (g.1 : Int))) + (60 * (ix (cs hs) (((p.1 : Int) + 1)).toNat)))⟩), ⟨by (show p.1 + 1 + 1 ≤ (cs hs).length); omega, hIn⟩, (by (show (cs hs).length - (p.1 + 1) < (cs hs).length - p.1); omega), imp_ren (fun m => bif Nat.beq m 102 then 109 else m) rfl ⟨rfl, rfl, rfl, rfl, rfl, rfl, rfl, rfl, rfl, rfl, (ci (by omega)), rfl, trivial⟩ ⟨rfl, (congrArg (fun z => Ob.tr 32 2 z) hst), trivial⟩⟩
                · skip
                  have h43 := f_dec h26
                  refine a_skip ?_
                  show A _ _ _ _ _ _ _
                  refine a_seq ?_
                  refine a_rseq ?_
                  refine rg_put (d := 116) (v := .d (.fl (.int .i64 (((86400 * (i.fr / 86400 + (g.1 : Int))) + (60 * (ix (cs hs) (((p.1 : Int) + 1)).toNat))))))) rfl (og rfl (op_move rfl rfl rfl)) ?_
                  refine rg_put (d := 117) (v := .pt 101 1) rfl (og rfl (of_eff (s_field_pt rfl Try.underlying32 rfl ti3 rfl rfl rfl) rfl)) ?_
                  refine rg_put (d := 118) (v := .d (.fl (.int .i64 i.to))) rfl (og rfl (op_load_pt rfl Try.underlying3 rfl rfl rfl rfl rfl)) ?_
                  refine rg_put (d := 119) (v := .d (.fl (.bool ((decide (i.to < ((86400 * (i.fr / 86400 + (g.1 : Int))) + (60 * (ix (cs hs) (((p.1 : Int) + 1)).toNat))))))))) rfl (og rfl (op_bin rfl rfl rfl (b_gtr _ _ _ _) rfl)) ?_
                  refine rg_done rfl ?_
                  refine a_cond rfl (fun h44 => ?_) (fun h44 => ?_)
                  · skip
                    have h45 := t_dec h44
                    refine a_region ?_
                    refine rg_put (d := 120) (v := .pt 101 1) rfl (og rfl (of_eff (s_field_pt rfl Try.underlying32 rfl ti3 rfl rfl rfl) rfl)) ?_
                    refine rg_put (d := 121) (v := .d (.fl (.int .i64 i.to))) rfl (og rfl (op_load_pt rfl Try.underlying3 rfl rfl rfl rfl rfl)) ?_
                    refine rg_put (d := 13) (v := .d (.fl (.int .i64 i.to))) rfl (og rfl (op_assign rfl rfl rfl)) ?_
                    refine rg_done rfl ?_
                    show A _ _ _ _ _ _ _
                    refine a_rseq ?_
                    refine rg_put (d := 122) (v := .ow 102) rfl (og rfl (op_move rfl rfl rfl)) ?_
                    refine rg_put (d := 123) (v := .d (.fl (.int .i64 (((p.2).length : Int))))) rfl (og rfl (op_len_tr rfl Try.underlying34 rfl rfl tD_len rfl)) ?_
                    refine rg_put (d := 124) (v := .d (.fl (.bool ((decide (0 < ((p.2).length : Int))))))) rfl (og rfl (op_bin rfl rfl rfl (b_gtr _ _ _ _) rfl)) ?_
                    refine rg_put (d := 125) (v := .d (.fl (.bool ((decide (0 < ((p.2).length : Int))))))) rfl (og rfl (op_move rfl rfl rfl)) ?_
                    rcases fot ((decide (0 < ((p.2).length : Int)))) with h46 | h46
                    · skip
                      have h47 := f_dec h46
                      refine rg_put (d := 126) (v := .d (.fl undef)) rfl (on rfl rfl rfl h46) ?_
                      refine rg_put (d := 127) (v := .d (.fl undef)) rfl (on rfl rfl rfl h46) ?_
                      refine rg_put (d := 128) (v := .d (.fl undef)) rfl (on rfl rfl rfl h46) ?_
                      refine rg_put (d := 129) (v := .d (.fl undef)) rfl (on rfl rfl rfl h46) ?_
                      refine rg_put (d := 130) (v := .d (.fl undef)) rfl (on rfl rfl rfl h46) ?_
                      refine rg_put (d := 131) (v := .d (.fl undef)) rfl (on rfl rfl rfl h46) ?_
                      refine rg_put (d := 132) (v := .d (.fl undef)) rfl (on rfl rfl rfl h46) ?_
                      refine rg_put (d := 133) (v := .d (.fl undef)) rfl (on rfl rfl rfl h46) ?_
                      refine rg_put (d := 134) (v := .d (.fl undef)) rfl (on rfl rfl rfl h46) ?_
                      refine rg_put (d := 135) (v := .d (.fl (.bool false))) rfl (og rfl (op_pick rfl rfl (by rw [h46]; rfl) rfl)) ?_
                      refine rg_done rfl ?_
                      refine a_condF rfl rfl ?_
                      refine a_region ?_
                      refine rg_put (d := 143) (v := .ow 102) rfl (og rfl (op_move rfl rfl rfl)) ?_
                      refine rg_put (d := 144) (v := .d (.fl (.int .i64 (((86400 * (i.fr / 86400 + (g.1 : Int))) + (60 * (ix (cs hs) p.1))))))) rfl (og rfl (op_move rfl rfl rfl)) ?_
                      refine rg_put (d := 145) (v := .d (.fl (.int .i64 i.to))) rfl (og rfl (op_move rfl rfl rfl)) ?_
                      refine rg_put (d := 146) (v := .d (.ag (eIv ((Ivl.mk (((86400 * (i.fr / 86400 + (g.1 : Int))) + (60 * (ix (cs hs) p.1)))) i.to))))) rfl (og rfl (of_eff (op_build rfl Try.underlying32 ti32 rfl (by kernel_rfl) (by kernel_rfl) (pl := #[(0, 1), (1, 1)]) (by kernel_rfl) (.cons rfl rfl (.d _) rfl rfl rfl (.cons rfl rfl (.d _) rfl rfl rfl .nil)) rfl) rfl)) ?_
                      refine rg_put (d := 147) (v := .d (.sl 2 (List.map eIv [(Ivl.mk (((86400 * (i.fr / 86400 + (g.1 : Int))) + (60 * (ix (cs hs) p.1)))) i.to)]))) rfl (og rfl (of_eff (op_slices rfl Try.underlying34 ti32 rfl rfl rfl (by kernel_rfl) (xs := [.ag (eIv ((Ivl.mk (((86400 * (i.fr / 86400 + (g.1 : Int))) + (60 * (ix (cs hs) p.1)))) i.to)))]) rfl rfl (.cons rfl rfl (.d _) rfl rfl rfl .nil) rfl) rfl)) ?_
                      refine rg_nam (d := 148) (v := .ow 110) (m := 110) (nw := [(110, .tr 32 2 (tD eIv ((p.2 ++ [(Ivl.mk (((86400 * (i.fr / 86400 + (g.1 : Int))) + (60 * (ix (cs hs) p.1)))) i.to)])))), (102, .no)]) rfl (og rfl (of_eff (s_append_td 110 rfl Try.underlying34 ti32 rfl rfl rfl rfl rfl (.d _) (by simp only [List.length_append, List.length_cons, List.length_nil]; omega) rfl) rfl)) rfl ?_
                      refine rg_put (d := 5) (v := .ow 110) rfl (og rfl (op_assign rfl rfl rfl)) ?_
                      refine rg_done rfl ?_
                      show A _ _ _ _ _ _ _
                      refine a_region ?_
                      refine rg_put (d := 75) (v := .d (.fl (.int .i64 (p.1 : Int)))) rfl (og rfl (op_move rfl rfl rfl)) ?_
                      refine rg_put (d := 76) (v := .d (.fl (.int .i64 (((p.1 : Int) + 1))))) rfl (og rfl (op_bin rfl rfl rfl (fun x y w => b_add64 _ _ _ x y w (by omega)) rfl)) ?_
                      refine rg_put (d := 11) (v := .d (.fl (.int .i64 (((p.1 : Int) + 1))))) rfl (og rfl (op_assign rfl rfl rfl)) ?_
                      refine rg_done rfl ?_
                      have hcst : ∀ t, ((86400 * (i.fr / 86400 + (g.1 : Int))) + (60 * (ix (cs hs) p.1))) ≤ t → t < ((86400 * (i.fr / 86400 + (g.1 : Int))) + (60 * (ix (cs hs) (((p.1 : Int) + 1)).toNat))) → inH hs t = inH hs ((86400 * (i.fr / 86400 + (g.1 : Int))) + (60 * (ix (cs hs) p.1))) := fun t h5 h6 => inH_const hci.1 hci2.2 (fun x h7 h8 => cs_gap (by omega) h7 (by rw [hpt] at h8; exact h8)) (by omega) h5 h6
                      have hIn : Inv hs i (extJ p.2 ⟨((86400 * (i.fr / 86400 + (g.1 : Int))) + (60 * (ix (cs hs) p.1))), i.to⟩) ((86400 * (i.fr / 86400 + (g.1 : Int))) + (60 * (ix (cs hs) (((p.1 : Int) + 1)).toNat))) (1441 * g.1 + (p.1 + 1)) := Inv.yes hJ (by omega) (by omega) hcst h20 (by omega) (by omega) (by omega) (by show ((86400 * (i.fr / 86400 + (g.1 : Int))) + (60 * (ix (cs hs) p.1))) = max _ _; omega) (by show i.to = min _ _; omega)
                      rw [hpt] at hIn
                      have hno : ¬ (0 < p.2.length ∧ (ix p.2 (p.2.length - 1)).to = ((86400 * (i.fr / 86400 + (g.1 : Int))) + (60 * (ix (cs hs) p.1)))) := fun h => by omega
                      have hxx : extJ p.2 ⟨((86400 * (i.fr / 86400 + (g.1 : Int))) + (60 * (ix (cs hs) p.1))), i.to⟩ = p.2 ++ [⟨((86400 * (i.fr / 86400 + (g.1 : Int))) + (60 * (ix (cs hs) p.1))), i.to⟩] := if_neg hno
                      have hst : tD eIv (p.2 ++ [⟨((86400 * (i.fr / 86400 + (g.1 : Int))) + (60 * (ix (cs hs) p.1))), i.to⟩]) = tD eIv (extJ p.2 ⟨((86400 * (i.fr / 86400 + (g.1 : Int))) + (60 * (ix (cs hs) p.1))), i.to⟩) := by rw [hxx]
                      show ∃ i, _ ∧ _ ∧ Imp _ _ _ _ _
                      refine ⟨(p.1 + 1, extJ p.2 ⟨((86400 * (i.fr / 86400 + (g.1 : Int))) + (60 * (ix (cs hs) p.1))), i.to⟩), ⟨by (show p.1 + 1 + 1 ≤ (cs hs).length); omega, hIn⟩, (by (show (cs hs).length - (p.1 + 1) < (cs hs).length - p.1); omega), imp_ren (fun m => bif Nat.beq m 102 then 110 else m) rfl ⟨rfl, rfl, rfl, rfl, rfl, rfl, rfl, rfl, rfl, rfl, (ci (by omega)), rfl, trivial⟩ ⟨rfl, (congrArg (fun z => Ob.tr 32 2 z) hst), trivial⟩⟩
                    · skip
                      have h48 := t_dec h46
                      refine rg_put (d := 126) (v := .ow 102) rfl (oy rfl rfl rfl h46 (op_move rfl rfl rfl)) ?_
                      refine rg_put (d := 127) (v := .ow 102) rfl (oy rfl rfl rfl h46 (op_move rfl rfl rfl)) ?_
                      refine rg_put (d := 128) (v := .d (.fl (.int .i64 (((p.2).length : Int))))) rfl (oy rfl rfl rfl h46 (op_len_tr rfl Try.underlying34 rfl rfl tD_len rfl)) ?_
                      refine rg_put (d := 129) (v := .d (.fl (.int .i64 ((((p.2).length : Int) - 1))))) rfl (oy rfl rfl rfl h46 (op_bin rfl rfl rfl (fun x y w => b_sub64 _ _ _ x y w (by omega)) rfl)) ?_
                      refine rg_put (d := 130) (v := .pe 102 2 (((((p.2).length : Int) - 1)).toNat) 0) rfl (oy rfl rfl rfl h46 (op_index_trI rfl Try.underlying34 ti32 rfl rfl rfl (by omega) (get_lt (tD_at (by omega))) rfl)) ?_
                      refine rg_put (d := 131) (v := .pe 102 2 (((((p.2).length : Int) - 1)).toNat) 1) rfl (oy rfl rfl rfl h46 (of_eff (op_field_pe rfl Try.underlying32 rfl ti3 rfl rfl rfl) rfl)) ?_
                      refine rg_put (d := 132) (v := .d (.fl (.int .i64 (((ix p.2 (((((p.2).length : Int) - 1)).toNat))).to)))) rfl (oy rfl rfl rfl h46 (of_eff (op_load_pe rfl Try.underlying3 rfl rfl rfl (tD_at (by omega)) rfl rfl) rfl)) ?_
                      refine rg_put (d := 133) (v := .d (.fl (.int .i64 (((86400 * (i.fr / 86400 + (g.1 : Int))) + (60 * (ix (cs hs) p.1))))))) rfl (oy rfl rfl rfl h46 (op_move rfl rfl rfl)) ?_
                      refine rg_put (d := 134) (v := .d (.fl (.bool ((((ix p.2 (((((p.2).length : Int) - 1)).toNat))).to == ((86400 * (i.fr / 86400 + (g.1 : Int))) + (60 * (ix (cs hs) p.1)))))))) rfl (oy rfl rfl rfl h46 (op_bin rfl rfl rfl (b_eql _ _ _ _) rfl)) ?_
                      refine rg_put (d := 135) (v := .d (.fl (.bool ((((ix p.2 (((((p.2).length : Int) - 1)).toNat))).to == ((86400 * (i.fr / 86400 + (g.1 : Int))) + (60 * (ix (cs hs) p.1)))))))) rfl (og rfl (op_pick rfl rfl (by rw [h46]; rfl) rfl)) ?_
                      refine rg_done rfl ?_
                      refine a_cond rfl (fun h49 => ?_) (fun h49 => ?_)
                      · skip
                        have h50 := t_beq h49
                        refine a_region ?_
                        refine rg_put (d := 136) (v := .ow 102) rfl (og rfl (op_move rfl rfl rfl)) ?_
                        refine rg_put (d := 137) (v := .ow 102) rfl (og rfl (op_move rfl rfl rfl)) ?_
                        refine rg_put (d := 138) (v := .d (.fl (.int .i64 (((p.2).length : Int))))) rfl (og rfl (op_len_tr rfl Try.underlying34 rfl rfl tD_len rfl)) ?_
                        refine rg_put (d := 139) (v := .d (.fl (.int .i64 ((((p.2).length : Int) - 1))))) rfl (og rfl (op_bin rfl rfl rfl (fun x y w => b_sub64 _ _ _ x y w (by omega)) rfl)) ?_
                        refine rg_put (d := 140) (v := .d (.fl (.int .i64 i.to))) rfl (og rfl (op_move rfl rfl rfl)) ?_
                        refine rg_put (d := 141) (v := .pe 102 2 (((((p.2).length : Int) - 1)).toNat) 0) rfl (og rfl (op_index_trI rfl Try.underlying34 ti32 rfl rfl rfl (by omega) (get_lt (tD_at (by omega))) rfl)) ?_
                        refine rg_put (d := 142) (v := .pe 102 2 (((((p.2).length : Int) - 1)).toNat) 1) rfl (og rfl (of_eff (op_field_pe rfl Try.underlying32 rfl ti3 rfl rfl rfl) rfl)) ?_
                        refine rg_sto (nw := [(102, .tr 32 2 (((tD eIv p.2).set (((((p.2).length : Int) - 1)).toNat) [.dv (.fl (.int .i64 (((ix p.2 (((((p.2).length : Int) - 1)).toNat))).fr))), .dv (.fl (.int .i64 i.to))])))]) rfl (og rfl (of_eff (op_store_pe rfl rfl ti3 rfl rfl (tD_at (by omega)) rfl (.d rfl) rfl rfl rfl) rfl)) ?_
                        refine rg_done rfl ?_
                        show A _ _ _ _ _ _ _
                        refine a_region ?_
                        refine rg_put (d := 75) (v := .d (.fl (.int .i64 (p.1 : Int)))) rfl (og rfl (op_move rfl rfl rfl)) ?_
                        refine rg_put (d := 76) (v := .d (.fl (.int .i64 (((p.1 : Int) + 1))))) rfl (og rfl (op_bin rfl rfl rfl (fun x y w => b_add64 _ _ _ x y w (by omega)) rfl)) ?_
                        refine rg_put (d := 11) (v := .d (.fl (.int .i64 (((p.1 : Int) + 1))))) rfl (og rfl (op_assign rfl rfl rfl)) ?_
                        refine rg_done rfl ?_
                        have hcst : ∀ t, ((86400 * (i.fr / 86400 + (g.1 : Int))) + (60 * (ix (cs hs) p.1))) ≤ t → t < ((86400 * (i.fr / 86400 + (g.1 : Int))) + (60 * (ix (cs hs) (((p.1 : Int) + 1)).toNat))) → inH hs t = inH hs ((86400 * (i.fr / 86400 + (g.1 : Int))) + (60 * (ix (cs hs) p.1))) := fun t h5 h6 => inH_const hci.1 hci2.2 (fun x h7 h8 => cs_gap (by omega) h7 (by rw [hpt] at h8; exact h8)) (by omega) h5 h6
                        have hIn : Inv hs i (extJ p.2 ⟨((86400 * (i.fr / 86400 + (g.1 : Int))) + (60 * (ix (cs hs) p.1))), i.to⟩) ((86400 * (i.fr / 86400 + (g.1 : Int))) + (60 * (ix (cs hs) (((p.1 : Int) + 1)).toNat))) (1441 * g.1 + (p.1 + 1)) := Inv.yes hJ (by omega) (by omega) hcst h20 (by omega) (by omega) (by omega) (by show ((86400 * (i.fr / 86400 + (g.1 : Int))) + (60 * (ix (cs hs) p.1))) = max _ _; omega) (by show i.to = min _ _; omega)
                        rw [hpt] at hIn
                        have hpv : ((p.2.length : Int) - 1).toNat = p.2.length - 1 := by omega
                        have hee : (ix p.2 (p.2.length - 1)).to = ((86400 * (i.fr / 86400 + (g.1 : Int))) + (60 * (ix (cs hs) p.1))) := by have h := eq_of_beq h49; rw [hpv] at h; exact h
                        have hxx : extJ p.2 ⟨((86400 * (i.fr / 86400 + (g.1 : Int))) + (60 * (ix (cs hs) p.1))), i.to⟩ = p.2.set (p.2.length - 1) ⟨(ix p.2 (p.2.length - 1)).fr, i.to⟩ := if_pos ⟨by omega, hee⟩
                        have hst : ((tD eIv p.2).set (((((p.2).length : Int) - 1)).toNat) [.dv (.fl (.int .i64 (((ix p.2 (((((p.2).length : Int) - 1)).toNat))).fr))), .dv (.fl (.int .i64 i.to))]) = tD eIv (extJ p.2 ⟨((86400 * (i.fr / 86400 + (g.1 : Int))) + (60 * (ix (cs hs) p.1))), i.to⟩) := (tD_set (α := Ivl) (x := ⟨(ix p.2 ((p.2.length : Int) - 1).toNat).fr, i.to⟩) rfl).trans (by rw [hpv, hxx])
                        show ∃ i, _ ∧ _ ∧ Imp _ _ _ _ _
                        refine ⟨(p.1 + 1, extJ p.2 ⟨((86400 * (i.fr / 86400 + (g.1 : Int))) + (60 * (ix (cs hs) p.1))), i.to⟩), ⟨by (show p.1 + 1 + 1 ≤ (cs hs).length); omega, hIn⟩, (by (show (cs hs).length - (p.1 + 1) < (cs hs).length - p.1); omega), imp_forget rfl ⟨rfl, rfl, rfl, rfl, rfl, rfl, rfl, rfl, rfl, rfl, (ci (by omega)), rfl, trivial⟩ ⟨rfl, (congrArg (fun z => Ob.tr 32 2 z) hst), trivial⟩⟩
                      · skip
                        have h51 := f_beq h49
                        refine a_region ?_
                        refine rg_put (d := 143) (v := .ow 102) rfl (og rfl (op_move rfl rfl rfl)) ?_
                        refine rg_put (d := 144) (v := .d (.fl (.int .i64 (((86400 * (i.fr / 86400 + (g.1 : Int))) + (60 * (ix (cs hs) p.1))))))) rfl (og rfl (op_move rfl rfl rfl)) ?_
                        refine rg_put (d := 145) (v := .d (.fl (.int .i64 i.to))) rfl (og rfl (op_move rfl rfl rfl)) ?_
                        refine rg_put (d := 146) (v := .d (.ag (eIv ((Ivl.mk (((86400 * (i.fr / 86400 + (g.1 : Int))) + (60 * (ix (cs hs) p.1)))) i.to))))) rfl (og rfl (of_eff (op_build rfl Try.underlying32 ti32 rfl (by kernel_rfl) (by kernel_rfl) (pl := #[(0, 1), (1, 1)]) (by kernel_rfl) (.cons rfl rfl (.d _) rfl rfl rfl (.cons rfl rfl (.d _) rfl rfl rfl .nil)) rfl) rfl)) ?_
                        refine rg_put (d := 147) (v := .d (.sl 2 (List.map eIv [(Ivl.mk (((86400 * (i.fr / 86400 + (g.1 : Int))) + (60 * (ix (cs hs) p.1)))) i.to)]))) rfl (og rfl (of_eff (op_slices rfl Try.underlying34 ti32 rfl rfl rfl (by kernel_rfl) (xs := [.ag (eIv ((Ivl.mk (((86400 * (i.fr / 86400 + (g.1 : Int))) + (60 * (ix (cs hs) p.1)))) i.to)))]) rfl rfl (.cons rfl rfl (.d _) rfl rfl rfl .nil) rfl) rfl)) ?_
                        refine rg_nam (d := 148) (v := .ow 111) (m := 111) (nw := [(111, .tr 32 2 (tD eIv ((p.2 ++ [(Ivl.mk (((86400 * (i.fr / 86400 + (g.1 : Int))) + (60 * (ix (cs hs) p.1)))) i.to)])))), (102, .no)]) rfl (og rfl (of_eff (s_append_td 111 rfl Try.underlying34 ti32 rfl rfl rfl rfl rfl (.d _) (by simp only [List.length_append, List.length_cons, List.length_nil]; omega) rfl) rfl)) rfl ?_
                        refine rg_put (d := 5) (v := .ow 111) rfl (og rfl (op_assign rfl rfl rfl)) ?_
                        refine rg_done rfl ?_
                        show A _ _ _ _ _ _ _
                        refine a_region ?_
                        refine rg_put (d := 75) (v := .d (.fl (.int .i64 (p.1 : Int)))) rfl (og rfl (op_move rfl rfl rfl)) ?_
                        refine rg_put (d := 76) (v := .d (.fl (.int .i64 (((p.1 : Int) + 1))))) rfl (og rfl (op_bin rfl rfl rfl (fun x y w => b_add64 _ _ _ x y w (by omega)) rfl)) ?_
                        refine rg_put (d := 11) (v := .d (.fl (.int .i64 (((p.1 : Int) + 1))))) rfl (og rfl (op_assign rfl rfl rfl)) ?_
                        refine rg_done rfl ?_
                        have hcst : ∀ t, ((86400 * (i.fr / 86400 + (g.1 : Int))) + (60 * (ix (cs hs) p.1))) ≤ t → t < ((86400 * (i.fr / 86400 + (g.1 : Int))) + (60 * (ix (cs hs) (((p.1 : Int) + 1)).toNat))) → inH hs t = inH hs ((86400 * (i.fr / 86400 + (g.1 : Int))) + (60 * (ix (cs hs) p.1))) := fun t h5 h6 => inH_const hci.1 hci2.2 (fun x h7 h8 => cs_gap (by omega) h7 (by rw [hpt] at h8; exact h8)) (by omega) h5 h6
                        have hIn : Inv hs i (extJ p.2 ⟨((86400 * (i.fr / 86400 + (g.1 : Int))) + (60 * (ix (cs hs) p.1))), i.to⟩) ((86400 * (i.fr / 86400 + (g.1 : Int))) + (60 * (ix (cs hs) (((p.1 : Int) + 1)).toNat))) (1441 * g.1 + (p.1 + 1)) := Inv.yes hJ (by omega) (by omega) hcst h20 (by omega) (by omega) (by omega) (by show ((86400 * (i.fr / 86400 + (g.1 : Int))) + (60 * (ix (cs hs) p.1))) = max _ _; omega) (by show i.to = min _ _; omega)
                        rw [hpt] at hIn
                        have hpv : ((p.2.length : Int) - 1).toNat = p.2.length - 1 := by omega
                        have hno : ¬ (0 < p.2.length ∧ (ix p.2 (p.2.length - 1)).to = ((86400 * (i.fr / 86400 + (g.1 : Int))) + (60 * (ix (cs hs) p.1)))) := fun h => by have h1 := h49; rw [hpv] at h1; have h2 := f_beq h1; exact h2 h.2
                        have hxx : extJ p.2 ⟨((86400 * (i.fr / 86400 + (g.1 : Int))) + (60 * (ix (cs hs) p.1))), i.to⟩ = p.2 ++ [⟨((86400 * (i.fr / 86400 + (g.1 : Int))) + (60 * (ix (cs hs) p.1))), i.to⟩] := if_neg hno
                        have hst : tD eIv (p.2 ++ [⟨((86400 * (i.fr / 86400 + (g.1 : Int))) + (60 * (ix (cs hs) p.1))), i.to⟩]) = tD eIv (extJ p.2 ⟨((86400 * (i.fr / 86400 + (g.1 : Int))) + (60 * (ix (cs hs) p.1))), i.to⟩) := by rw [hxx]
                        show ∃ i, _ ∧ _ ∧ Imp _ _ _ _ _
                        refine ⟨(p.1 + 1, extJ p.2 ⟨((86400 * (i.fr / 86400 + (g.1 : Int))) + (60 * (ix (cs hs) p.1))), i.to⟩), ⟨by (show p.1 + 1 + 1 ≤ (cs hs).length); omega, hIn⟩, (by (show (cs hs).length - (p.1 + 1) < (cs hs).length - p.1); omega), imp_ren (fun m => bif Nat.beq m 102 then 111 else m) rfl ⟨rfl, rfl, rfl, rfl, rfl, rfl, rfl, rfl, rfl, rfl, (ci (by omega)), rfl, trivial⟩ ⟨rfl, (congrArg (fun z => Ob.tr 32 2 z) hst), trivial⟩⟩
                  · skip
                    have h52 := f_dec h44
                    refine a_skip ?_
                    show A _ _ _ _ _ _ _
                    refine a_rseq ?_
                    refine rg_put (d := 122) (v := .ow 102) rfl (og rfl (op_move rfl rfl rfl)) ?_
                    refine rg_put (d := 123) (v := .d (.fl (.int .i64 (((p.2).length : Int))))) rfl (og rfl (op_len_tr rfl Try.underlying34 rfl rfl tD_len rfl)) ?_
                    refine rg_put (d := 124) (v := .d (.fl (.bool ((decide (0 < ((p.2).length : Int))))))) rfl (og rfl (op_bin rfl rfl rfl (b_gtr _ _ _ _) rfl)) ?_
                    refine rg_put (d := 125) (v := .d (.fl (.bool ((decide (0 < ((p.2).length : Int))))))) rfl (og rfl (op_move rfl rfl rfl)) ?_
                    rcases fot ((decide (0 < ((p.2).length : Int)))) with h53 | h53
                    · skip
                      have h54 := f_dec h53
                      refine rg_put (d := 126) (v := .d (.fl undef)) rfl (on rfl rfl rfl h53) ?_
                      refine rg_put (d := 127) (v := .d (.fl undef)) rfl (on rfl rfl rfl h53) ?_
                      refine rg_put (d := 128) (v := .d (.fl undef)) rfl (on rfl rfl rfl h53) ?_
                      refine rg_put (d := 129) (v := .d (.fl undef)) rfl (on rfl rfl rfl h53) ?_
                      refine rg_put (d := 130) (v := .d (.fl undef)) rfl (on rfl rfl rfl h53) ?_
                      refine rg_put (d := 131) (v := .d (.fl undef)) rfl (on rfl rfl rfl h53) ?_
                      refine rg_put (d := 132) (v := .d (.fl undef)) rfl (on rfl rfl rfl h53) ?_
                      refine rg_put (d := 133) (v := .d (.fl undef)) rfl (on rfl rfl rfl h53) ?_
                      refine rg_put (d := 134) (v := .d (.fl undef)) rfl (on rfl rfl rfl h53) ?_
                      refine rg_put (d := 135) (v := .d (.fl (.bool false))) rfl (og rfl (op_pick rfl rfl (by rw [h53]; rfl) rfl)) ?_
                      refine rg_done rfl ?_
                      refine a_condF rfl rfl ?_
                      refine a_region ?_
                      refine rg_put (d := 143) (v := .ow 102) rfl (og rfl (op_move rfl rfl rfl)) ?_
                      refine rg_put (d := 144) (v := .d (.fl (.int .i64 (((86400 * (i.fr / 86400 + (g.1 : Int))) + (60 * (ix (cs hs) p.1))))))) rfl (og rfl (op_move rfl rfl rfl)) ?_
                      refine rg_put (d := 145) (v := .d (.fl (.int .i64 (((86400 * (i.fr / 86400 + (g.1 : Int))) + (60 * (ix (cs hs) (((p.1 : Int) + 1)).toNat))))))) rfl (og rfl (op_move rfl rfl rfl)) ?_
                      refine rg_put (d := 146) (v := .d (.ag (eIv ((Ivl.mk (((86400 * (i.fr / 86400 + (g.1 : Int))) + (60 * (ix (cs hs) p.1)))) (((86400 * (i.fr / 86400 + (g.1 : Int))) + (60 * (ix (cs hs) (((p.1 : Int) + 1)).toNat))))))))) rfl (og rfl (of_eff (op_build rfl Try.underlying32 ti32 rfl (by kernel_rfl) (by kernel_rfl) (pl := #[(0, 1), (1, 1)]) (by kernel_rfl) (.cons rfl rfl (.d _) rfl rfl rfl (.cons rfl rfl (.d _) rfl rfl rfl .nil)) rfl) rfl)) ?_
                      refine rg_put (d := 147) (v := .d (.sl 2 (List.map eIv [(Ivl.mk (((86400 * (i.fr / 86400 + (g.1 : Int))) + (60 * (ix (cs hs) p.1)))) (((86400 * (i.fr / 86400 + (g.1 : Int))) + (60 * (ix (cs hs) (((p.1 : Int) + 1)).toNat)))))]))) rfl (og rfl (of_eff (op_slices rfl Try.underlying34 ti32 rfl rfl rfl (by kernel_rfl) (xs := [.ag (eIv ((Ivl.mk (((86400 * (i.fr / 86400 + (g.1 : Int))) + (60 * (ix (cs hs) p.1)))) (((86400 * (i.fr / 86400 + (g.1 : Int))) + (60 * (ix (cs hs) (((p.1 : Int) + 1)).toNat)))))))]) rfl rfl (.cons rfl rfl (.d _) rfl rfl rfl .nil) rfl) rfl)) ?_
                      refine rg_nam (d := 148) (v := .ow 112) (m := 112) (nw := [(112, .tr 32 2 (tD eIv ((p.2 ++ [(Ivl.mk (((86400 * (i.fr / 86400 + (g.1 : Int))) + (60 * (ix (cs hs) p.1)))) (((86400 * (i.fr / 86400 + (g.1 : Int))) + (60 * (ix (cs hs) (((p.1 : Int) + 1)).toNat)))))])))), (102, .no)]) rfl (og rfl (of_eff (s_append_td 112 rfl Try.underlying34 ti32 rfl rfl rfl rfl rfl (.d _) (by simp only [List.length_append, List.length_cons, List.length_nil]; omega) rfl) rfl)) rfl ?_
                      refine rg_put (d := 5) (v := .ow 112) rfl (og rfl (op_assign rfl rfl rfl)) ?_
                      refine rg_done rfl ?_
                      show A _ _ _ _ _ _ _
                      refine a_region ?_
                      refine rg_put (d := 75) (v := .d (.fl (.int .i64 (p.1 : Int)))) rfl (og rfl (op_move rfl rfl rfl)) ?_
                      refine rg_put (d := 76) (v := .d (.fl (.int .i64 (((p.1 : Int) + 1))))) rfl (og rfl (op_bin rfl rfl rfl (fun x y w => b_add64 _ _ _ x y w (by omega)) rfl)) ?_
                      refine rg_put (d := 11) (v := .d (.fl (.int .i64 (((p.1 : Int) + 1))))) rfl (og rfl (op_assign rfl rfl rfl)) ?_
                      refine rg_done rfl ?_
                      have hcst : ∀ t, ((86400 * (i.fr / 86400 + (g.1 : Int))) + (60 * (ix (cs hs) p.1))) ≤ t → t < ((86400 * (i.fr / 86400 + (g.1 : Int))) + (60 * (ix (cs hs) (((p.1 : Int) + 1)).toNat))) → inH hs t = inH hs ((86400 * (i.fr / 86400 + (g.1 : Int))) + (60 * (ix (cs hs) p.1))) := fun t h5 h6 => inH_const hci.1 hci2.2 (fun x h7 h8 => cs_gap (by omega) h7 (by rw [hpt] at h8; exact h8)) (by omega) h5 h6
                      have hIn : Inv hs i (extJ p.2 ⟨((86400 * (i.fr / 86400 + (g.1 : Int))) + (60 * (ix (cs hs) p.1))), ((86400 * (i.fr / 86400 + (g.1 : Int))) + (60 * (ix (cs hs) (((p.1 : Int) + 1)).toNat)))⟩) ((86400 * (i.fr / 86400 + (g.1 : Int))) + (60 * (ix (cs hs) (((p.1 : Int) + 1)).toNat))) (1441 * g.1 + (p.1 + 1)) := Inv.yes hJ (by omega) (by omega) hcst h20 (by omega) (by omega) (by omega) (by show ((86400 * (i.fr / 86400 + (g.1 : Int))) + (60 * (ix (cs hs) p.1))) = max _ _; omega) (by show ((86400 * (i.fr / 86400 + (g.1 : Int))) + (60 * (ix (cs hs) (((p.1 : Int) + 1)).toNat))) = min _ _; omega)
                      rw [hpt] at hIn
                      have hno : ¬ (0 < p.2.length ∧ (ix p.2 (p.2.length - 1)).to = ((86400 * (i.fr / 86400 + (g.1 : Int))) + (60 * (ix (cs hs) p.1)))) := fun h => by omega
                      have hxx : extJ p.2 ⟨((86400 * (i.fr / 86400 + (g.1 : Int))) + (60 * (ix (cs hs) p.1))), ((86400 * (i.fr / 86400 + (g.1 : Int))) + (60 * (ix (cs hs) (((p.1 : Int) + 1)).toNat)))⟩ = p.2 ++ [⟨((86400 * (i.fr / 86400 + (g.1 : Int))) + (60 * (ix (cs hs) p.1))), ((86400 * (i.fr / 86400 + (g.1 : Int))) + (60 * (ix (cs hs) (((p.1 : Int) + 1)).toNat)))⟩] := if_neg hno
                      have hst : tD eIv (p.2 ++ [⟨((86400 * (i.fr / 86400 + (g.1 : Int))) + (60 * (ix (cs hs) p.1))), ((86400 * (i.fr / 86400 + (g.1 : Int))) + (60 * (ix (cs hs) (((p.1 : Int) + 1)).toNat)))⟩]) = tD eIv (extJ p.2 ⟨((86400 * (i.fr / 86400 + (g.1 : Int))) + (60 * (ix (cs hs) p.1))), ((86400 * (i.fr / 86400 + (g.1 : Int))) + (60 * (ix (cs hs) (((p.1 : Int) + 1)).toNat)))⟩) := by rw [hxx]
                      show ∃ i, _ ∧ _ ∧ Imp _ _ _ _ _
                      refine ⟨(p.1 + 1, extJ p.2 ⟨((86400 * (i.fr / 86400 + (g.1 : Int))) + (60 * (ix (cs hs) p.1))), ((86400 * (i.fr / 86400 + (g.1 : Int))) + (60 * (ix (cs hs) (((p.1 : Int) + 1)).toNat)))⟩), ⟨by (show p.1 + 1 + 1 ≤ (cs hs).length); omega, hIn⟩, (by (show (cs hs).length - (p.1 + 1) < (cs hs).length - p.1); omega), imp_ren (fun m => bif Nat.beq m 102 then 112 else m) rfl ⟨rfl, rfl, rfl, rfl, rfl, rfl, rfl, rfl, rfl, rfl, (ci (by omega)), rfl, trivial⟩ ⟨rfl, (congrArg (fun z => Ob.tr 32 2 z) hst), trivial⟩⟩
                    · skip
                      have h55 := t_dec h53
                      refine rg_put (d := 126) (v := .ow 102) rfl (oy rfl rfl rfl h53 (op_move rfl rfl rfl)) ?_
                      refine rg_put (d := 127) (v := .ow 102) rfl (oy rfl rfl rfl h53 (op_move rfl rfl rfl)) ?_
                      refine rg_put (d := 128) (v := .d (.fl (.int .i64 (((p.2).length : Int))))) rfl (oy rfl rfl rfl h53 (op_len_tr rfl Try.underlying34 rfl rfl tD_len rfl)) ?_
                      refine rg_put (d := 129) (v := .d (.fl (.int .i64 ((((p.2).length : Int) - 1))))) rfl (oy rfl rfl rfl h53 (op_bin rfl rfl rfl (fun x y w => b_sub64 _ _ _ x y w (by omega)) rfl)) ?_
                      refine rg_put (d := 130) (v := .pe 102 2 (((((p.2).length : Int) - 1)).toNat) 0) rfl (oy rfl rfl rfl h53 (op_index_trI rfl Try.underlying34 ti32 rfl rfl rfl (by omega) (get_lt (tD_at (by omega))) rfl)) ?_
                      refine rg_put (d := 131) (v := .pe 102 2 (((((p.2).length : Int) - 1)).toNat) 1) rfl (oy rfl rfl rfl h53 (of_eff (op_field_pe rfl Try.underlying32 rfl ti3 rfl rfl rfl) rfl)) ?_
                      refine rg_put (d := 132) (v := .d (.fl (.int .i64 (((ix p.2 (((((p.2).length : Int) - 1)).toNat))).to)))) rfl (oy rfl rfl rfl h53 (of_eff (op_load_pe rfl Try.underlying3 rfl rfl rfl (tD_at (by omega)) rfl rfl) rfl)) ?_
                      refine rg_put (d := 133) (v := .d (.fl (.int .i64 (((86400 * (i.fr / 86400 + (g.1 : Int))) + (60 * (ix (cs hs) p.1))))))) rfl (oy rfl rfl rfl h53 (op_move rfl rfl rfl)) ?_
                      refine rg_put (d := 134) (v := .d (.fl (.bool ((((ix p.2 (((((p.2).length : Int) - 1)).toNat))).to == ((86400 * (i.fr / 86400 + (g.1 : Int))) + (60 * (ix (cs hs) p.1)))))))) rfl (oy rfl rfl rfl h53 (op_bin rfl rfl rfl (b_eql _ _ _ _) rfl)) ?_
                      refine rg_put (d := 135) (v := .d (.fl (.bool ((((ix p.2 (((((p.2).length : Int) - 1)).toNat))).to == ((86400 * (i.fr / 86400 + (g.1 : Int))) + (60 * (ix (cs hs) p.1)))))))) rfl (og rfl (op_pick rfl rfl (by rw [h53]; rfl) rfl)) ?_
                      refine rg_done rfl ?_
                      refine a_cond rfl (fun h56 => ?_) (fun h56 => ?_)
                      · skip
                        have h57 := t_beq h56
                        refine a_region ?_
                        refine rg_put (d := 136) (v := .ow 102) rfl (og rfl (op_move rfl rfl rfl)) ?_
                        refine rg_put (d := 137) (v := .ow 102) rfl (og rfl (op_move rfl rfl rfl)) ?_
                        refine rg_put (d := 138) (v := .d (.fl (.int .i64 (((p.2).length : Int))))) rfl (og rfl (op_len_tr rfl Try.underlying34 rfl rfl tD_len rfl)) ?_
                        refine rg_put (d := 139) (v := .d (.fl (.int .i64 ((((p.2).length : Int) - 1))))) rfl (og rfl (op_bin rfl rfl rfl (fun x y w => b_sub64 _ _ _ x y w (by omega)) rfl)) ?_
                        refine rg_put (d := 140) (v := .d (.fl (.int .i64 (((86400 * (i.fr / 86400 + (g.1 : Int))) + (60 * (ix (cs hs) (((p.1 : Int) + 1)).toNat))))))) rfl (og rfl (op_move rfl rfl rfl)) ?_
                        refine rg_put (d := 141) (v := .pe 102 2 (((((p.2).length : Int) - 1)).toNat) 0) rfl (og rfl (op_index_trI rfl Try.underlying34 ti32 rfl rfl rfl (by omega) (get_lt (tD_at (by omega))) rfl)) ?_
                        refine rg_put (d := 142) (v := .pe 102 2 (((((p.2).length : Int) - 1)).toNat) 1) rfl (og rfl (of_eff (op_field_pe rfl Try.underlying32 rfl ti3 rfl rfl rfl) rfl)) ?_
                        refine rg_sto (nw := [(102, .tr 32 2 (((tD eIv p.2).set (((((p.2).length : Int) - 1)).toNat) [.dv (.fl (.int .i64 (((ix p.2 (((((p.2).length : Int) - 1)).toNat))).fr))), .dv (.fl (.int .i64 (((86400 * (i.fr / 86400 + (g.1 : Int))) + (60 * (ix (cs hs) (((p.1 : Int) + 1)).toNat))))))])))]) rfl (og rfl (of_eff (op_store_pe rfl rfl ti3 rfl rfl (tD_at (by omega)) rfl (.d rfl) rfl rfl rfl) rfl)) ?_
                        refine rg_done rfl ?_
                        show A _ _ _ _ _ _ _
                        refine a_region ?_
                        refine rg_put (d := 75) (v := .d (.fl (.int .i64 (p.1 : Int)))) rfl (og rfl (op_move rfl rfl rfl)) ?_
                        refine rg_put (d := 76) (v := .d (.fl (.int .i64 (((p.1 : Int) + 1))))) rfl (og rfl (op_bin rfl rfl rfl (fun x y w => b_add64 _ _ _ x y w (by omega)) rfl)) ?_
                        refine rg_put (d := 11) (v := .d (.fl (.int .i64 (((p.1 : Int) + 1))))) rfl (og rfl (op_assign rfl rfl rfl)) ?_
                        refine rg_done rfl ?_
                        have hcst : ∀ t, ((86400 * (i.fr / 86400 + (g.1 : Int))) + (60 * (ix (cs hs) p.1))) ≤ t → t < ((86400 * (i.fr / 86400 + (g.1 : Int))) + (60 * (ix (cs hs) (((p.1 : Int) + 1)).toNat))) → inH hs t = inH hs ((86400 * (i.fr / 86400 + (g.1 : Int))) + (60 * (ix (cs hs) p.1))) := fun t h5 h6 => inH_const hci.1 hci2.2 (fun x h7 h8 => cs_gap (by omega) h7 (by rw [hpt] at h8; exact h8)) (by omega) h5 h6
                        have hIn : Inv hs i (extJ p.2 ⟨((86400 * (i.fr / 86400 + (g.1 : Int))) + (60 * (ix (cs hs) p.1))), ((86400 * (i.fr / 86400 + (g.1 : Int))) + (60 * (ix (cs hs) (((p.1 : Int) + 1)).toNat)))⟩) ((86400 * (i.fr / 86400 + (g.1 : Int))) + (60 * (ix (cs hs) (((p.1 : Int) + 1)).toNat))) (1441 * g.1 + (p.1 + 1)) := Inv.yes hJ (by omega) (by omega) hcst h20 (by omega) (by omega) (by omega) (by show ((86400 * (i.fr / 86400 + (g.1 : Int))) + (60 * (ix (cs hs) p.1))) = max _ _; omega) (by show ((86400 * (i.fr / 86400 + (g.1 : Int))) + (60 * (ix (cs hs) (((p.1 : Int) + 1)).toNat))) = min _ _; omega)
                        rw [hpt] at hIn
                        have hpv : ((p.2.length : Int) - 1).toNat = p.2.length - 1 := by omega
                        have hee : (ix p.2 (p.2.length - 1)).to = ((86400 * (i.fr / 86400 + (g.1 : Int))) + (60 * (ix (cs hs) p.1))) := by have h := eq_of_beq h56; rw [hpv] at h; exact h
                        have hxx : extJ p.2 ⟨((86400 * (i.fr / 86400 + (g.1 : Int))) + (60 * (ix (cs hs) p.1))), ((86400 * (i.fr / 86400 + (g.1 : Int))) + (60 * (ix (cs hs) (((p.1 : Int) + 1)).toNat)))⟩ = p.2.set (p.2.length - 1) ⟨(ix p.2 (p.2.length - 1)).fr, ((86400 * (i.fr / 86400 + (g.1 : Int))) + (60 * (ix (cs hs) (((p.1 : Int) + 1)).toNat)))⟩ := if_pos ⟨by omega, hee⟩
                        have hst : ((tD eIv p.2).set (((((p.2).length : Int) - 1)).toNat) [.dv (.fl (.int .i64 (((ix p.2 (((((p.2).length : Int) - 1)).toNat))).fr))), .dv (.fl (.int .i64 (((86400 * (i.fr / 86400 + (g.1 : Int))) + (60 * (ix (cs hs) (((p.1 : Int) + 1)).toNat))))))]) = tD eIv (extJ p.2 ⟨((86400 * (i.fr / 86400 + (g.1 : Int))) + (60 * (ix (cs hs) p.1))), ((86400 * (i.fr / 86400 + (g.1 : Int))) + (60 * (ix (cs hs) (((p.1 : Int) + 1)).toNat)))⟩) := (tD_set (α := Ivl) (x := ⟨(ix p.2 ((p.2.length : Int) - 1).toNat).fr, ((86400 * (i.fr / 86400 + (g.1 : Int))) + (60 * (ix (cs hs) (((p.1 : Int) + 1)).toNat)))⟩) rfl).trans (by rw [hpv, hxx])
                        show ∃ i, _ ∧ _ ∧ Imp _ _ _ _ _
                        refine ⟨(p.1 + 1, extJ p.2 ⟨((86400 * (i.fr / 86400 + (g.1 : Int))) + (60 * (ix (cs hs) p.1))), ((86400 * (i.fr / 86400 + (g.1 : Int))) + (60 * (ix (cs hs) (((p.1 : Int) + 1)).toNat)))⟩), ⟨by (show p.1 + 1 + 1 ≤ (cs hs).length); omega, hIn⟩, (by (show (cs hs).length - (p.1 + 1) < (cs hs).length - p.1); omega), imp_forget rfl ⟨rfl, rfl, rfl, rfl, rfl, rfl, rfl, rfl, rfl, rfl, (ci (by omega)), rfl, trivial⟩ ⟨rfl, (congrArg (fun z => Ob.tr 32 2 z) hst), trivial⟩⟩
                      · skip
                        have h58 := f_beq h56
                        refine a_region ?_
                        refine rg_put (d := 143) (v := .ow 102) rfl (og rfl (op_move rfl rfl rfl)) ?_
                        refine rg_put (d := 144) (v := .d (.fl (.int .i64 (((86400 * (i.fr / 86400 + (g.1 : Int))) + (60 * (ix (cs hs) p.1))))))) rfl (og rfl (op_move rfl rfl rfl)) ?_
                        refine rg_put (d := 145) (v := .d (.fl (.int .i64 (((86400 * (i.fr / 86400 + (g.1 : Int))) + (60 * (ix (cs hs) (((p.1 : Int) + 1)).toNat))))))) rfl (og rfl (op_move rfl rfl rfl)) ?_
                        refine rg_put (d := 146) (v := .d (.ag (eIv ((Ivl.mk (((86400 * (i.fr / 86400 + (g.1 : Int))) + (60 * (ix (cs hs) p.1)))) (((86400 * (i.fr / 86400 + (g.1 : Int))) + (60 * (ix (cs hs) (((p.1 : Int) + 1)).toNat))))))))) rfl (og rfl (of_eff (op_build rfl Try.underlying32 ti32 rfl (by kernel_rfl) (by kernel_rfl) (pl := #[(0, 1), (1, 1)]) (by kernel_rfl) (.cons rfl rfl (.d _) rfl rfl rfl (.cons rfl rfl (.d _) rfl rfl rfl .nil)) rfl) rfl)) ?_
                        refine rg_put (d := 147) (v := .d (.sl 2 (List.map eIv [(Ivl.mk (((86400 * (i.fr / 86400 + (g.1 : Int))) + (60 * (ix (cs hs) p.1)))) (((86400 * (i.fr / 86400 + (g.1 : Int))) + (60 * (ix (cs hs) (((p.1 : Int) + 1)).toNat)))))]))) rfl (og rfl (of_eff (op_slices rfl Try.underlying34 ti32 rfl rfl rfl (by kernel_rfl) (xs := [.ag (eIv ((Ivl.mk (((86400 * (i.fr / 86400 + (g.1 : Int))) + (60 * (ix (cs hs) p.1)))) (((86400 * (i.fr / 86400 + (g.1 : Int))) + (60 * (ix (cs hs) (((p.1 : Int) + 1)).toNat)))))))]) rfl rfl (.cons rfl rfl (.d _) rfl rfl rfl .nil) rfl) rfl)) ?_
                        refine rg_nam (d := 148) (v := .ow 113) (m := 113) (nw := [(113, .tr 32 2 (tD eIv ((p.2 ++ [(Ivl.mk (((86400 * (i.fr / 86400 + (g.1 : Int))) + (60 * (ix (cs hs) p.1)))) (((86400 * (i.fr / 86400 + (g.1 : Int))) + (60 * (ix (cs hs) (((p.1 : Int) + 1)).toNat)))))])))), (102, .no)]) rfl (og rfl (of_eff (s_append_td 113 rfl Try.underlying34 ti32 rfl rfl rfl rfl rfl (.d _) (by simp only [List.length_append, List.length_cons, List.length_nil]; omega) rfl) rfl)) rfl ?_
                        refine rg_put (d := 5) (v := .ow 113) rfl (og rfl (op_assign rfl rfl rfl)) ?_
                        refine rg_done rfl ?_
                        show A _ _ _ _ _ _ _
                        refine a_region ?_
                        refine rg_put (d := 75) (v := .d (.fl (.int .i64 (p.1 : Int)))) rfl (og rfl (op_move rfl rfl rfl)) ?_
                        refine rg_put (d := 76) (v := .d (.fl (.int .i64 (((p.1 : Int) + 1))))) rfl (og rfl (op_bin rfl rfl rfl (fun x y w => b_add64 _ _ _ x y w (by omega)) rfl)) ?_
                        refine rg_put (d := 11) (v := .d (.fl (.int .i64 (((p.1 : Int) + 1))))) rfl (og rfl (op_assign rfl rfl rfl)) ?_
                        refine rg_done rfl ?_
                        have hcst : ∀ t, ((86400 * (i.fr / 86400 + (g.1 : Int))) + (60 * (ix (cs hs) p.1))) ≤ t → t < ((86400 * (i.fr / 86400 + (g.1 : Int))) + (60 * (ix (cs hs) (((p.1 : Int) + 1)).toNat))) → inH hs t = inH hs ((86400 * (i.fr / 86400 + (g.1 : Int))) + (60 * (ix (cs hs) p.1))) := fun t h5 h6 => inH_const hci.1 hci2.2 (fun x h7 h8 => cs_gap (by omega) h7 (by rw [hpt] at h8; exact h8)) (by omega) h5 h6
                        have hIn : Inv hs i (extJ p.2 ⟨((86400 * (i.fr / 86400 + (g.1 : Int))) + (60 * (ix (cs hs) p.1))), ((86400 * (i.fr / 86400 + (g.1 : Int))) + (60 * (ix (cs hs) (((p.1 : Int) + 1)).toNat)))⟩) ((86400 * (i.fr / 86400 + (g.1 : Int))) + (60 * (ix (cs hs) (((p.1 : Int) + 1)).toNat))) (1441 * g.1 + (p.1 + 1)) := Inv.yes hJ (by omega) (by omega) hcst h20 (by omega) (by omega) (by omega) (by show ((86400 * (i.fr / 86400 + (g.1 : Int))) + (60 * (ix (cs hs) p.1))) = max _ _; omega) (by show ((86400 * (i.fr / 86400 + (g.1 : Int))) + (60 * (ix (cs hs) (((p.1 : Int) + 1)).toNat))) = min _ _; omega)
                        rw [hpt] at hIn
                        have hpv : ((p.2.length : Int) - 1).toNat = p.2.length - 1 := by omega
                        have hno : ¬ (0 < p.2.length ∧ (ix p.2 (p.2.length - 1)).to = ((86400 * (i.fr / 86400 + (g.1 : Int))) + (60 * (ix (cs hs) p.1)))) := fun h => by have h1 := h56; rw [hpv] at h1; have h2 := f_beq h1; exact h2 h.2
                        have hxx : extJ p.2 ⟨((86400 * (i.fr / 86400 + (g.1 : Int))) + (60 * (ix (cs hs) p.1))), ((86400 * (i.fr / 86400 + (g.1 : Int))) + (60 * (ix (cs hs) (((p.1 : Int) + 1)).toNat)))⟩ = p.2 ++ [⟨((86400 * (i.fr / 86400 + (g.1 : Int))) + (60 * (ix (cs hs) p.1))), ((86400 * (i.fr / 86400 + (g.1 : Int))) + (60 * (ix (cs hs) (((p.1 : Int) + 1)).toNat)))⟩] := if_neg hno
                        have hst : tD eIv (p.2 ++ [⟨((86400 * (i.fr / 86400 + (g.1 : Int))) + (60 * (ix (cs hs) p.1))), ((86400 * (i.fr / 86400 + (g.1 : Int))) + (60 * (ix (cs hs) (((p.1 : Int) + 1)).toNat)))⟩]) = tD eIv (extJ p.2 ⟨((86400 * (i.fr / 86400 + (g.1 : Int))) + (60 * (ix (cs hs) p.1))), ((86400 * (i.fr / 86400 + (g.1 : Int))) + (60 * (ix (cs hs) (((p.1 : Int) + 1)).toNat)))⟩) := by rw [hxx]
                        show ∃ i, _ ∧ _ ∧ Imp _ _ _ _ _
                        refine ⟨(p.1 + 1, extJ p.2 ⟨((86400 * (i.fr / 86400 + (g.1 : Int))) + (60 * (ix (cs hs) p.1))), ((86400 * (i.fr / 86400 + (g.1 : Int))) + (60 * (ix (cs hs) (((p.1 : Int) + 1)).toNat)))⟩), ⟨by (show p.1 + 1 + 1 ≤ (cs hs).length); omega, hIn⟩, (by (show (cs hs).length - (p.1 + 1) < (cs hs).length - p.1); omega), imp_ren (fun m => bif Nat.beq m 102 then 113 else m) rfl ⟨rfl, rfl, rfl, rfl, rfl, rfl, rfl, rfl, rfl, rfl, (ci (by omega)), rfl, trivial⟩ ⟨rfl, (congrArg (fun z => Ob.tr 32 2 z) hst), trivial⟩⟩
            · skip
              have h59 := t_dec h21
              refine rg_put (d := 105) (v := .d (.fl undef)) rfl (on rfl rfl rfl h21) ?_
              refine rg_put (d := 106) (v := .d (.fl undef)) rfl (on rfl rfl rfl h21) ?_
              refine rg_put (d := 107) (v := .d (.fl undef)) rfl (on rfl rfl rfl h21) ?_
              refine rg_put (d := 108) (v := .d (.fl undef)) rfl (on rfl rfl rfl h21) ?_
              refine rg_put (d := 109) (v := .d (.fl (.bool true))) rfl (og rfl (op_pick rfl rfl (by rw [h21]; rfl) rfl)) ?_
              refine rg_done rfl ?_
              refine a_condK rfl rfl ?_
              refine a_exit ?_
              show A _ _ _ _ _ _ _
              refine a_region ?_
              refine rg_put (d := 75) (v := .d (.fl (.int .i64 (p.1 : Int)))) rfl (og rfl (op_move rfl rfl rfl)) ?_
              refine rg_put (d := 76) (v := .d (.fl (.int .i64 (((p.1 : Int) + 1))))) rfl (og rfl (op_bin rfl rfl rfl (fun x y w => b_add64 _ _ _ x y w (by omega)) rfl)) ?_
              refine rg_put (d := 11) (v := .d (.fl (.int .i64 (((p.1 : Int) + 1))))) rfl (og rfl (op_assign rfl rfl rfl)) ?_
              refine rg_done rfl ?_
              have hcst : ∀ t, ((86400 * (i.fr / 86400 + (g.1 : Int))) + (60 * (ix (cs hs) p.1))) ≤ t → t < ((86400 * (i.fr / 86400 + (g.1 : Int))) + (60 * (ix (cs hs) (((p.1 : Int) + 1)).toNat))) → inH hs t = inH hs ((86400 * (i.fr / 86400 + (g.1 : Int))) + (60 * (ix (cs hs) p.1))) := fun t h5 h6 => inH_const hci.1 hci2.2 (fun x h7 h8 => cs_gap (by omega) h7 (by rw [hpt] at h8; exact h8)) (by omega) h5 h6
              have hIn : Inv hs i p.2 ((86400 * (i.fr / 86400 + (g.1 : Int))) + (60 * (ix (cs hs) (((p.1 : Int) + 1)).toNat))) (1441 * g.1 + (p.1 + 1)) := Inv.no hJ (by omega) (by omega) hcst (.inr (by omega))
              rw [hpt] at hIn
              have hst : tD eIv p.2 = tD eIv p.2 := rfl
              show ∃ i, _ ∧ _ ∧ Imp _ _ _ _ _
              refine ⟨(p.1 + 1, p.2), ⟨by (show p.1 + 1 + 1 ≤ (cs hs).length); omega, hIn⟩, (by (show (cs hs).length - (p.1 + 1) < (cs hs).length - p.1); omega), imp_forget rfl ⟨rfl, rfl, rfl, rfl, rfl, rfl, rfl, rfl, rfl, rfl, (ci (by omega)), rfl, trivial⟩ ⟨rfl, (congrArg (fun z => Ob.tr 32 2 z) hst), trivial⟩⟩
          · skip
            have h60 := t_not h19
            refine rg_put (d := 99) (v := .d (.fl undef)) rfl (on rfl rfl rfl h19) ?_
            refine rg_put (d := 100) (v := .d (.fl undef)) rfl (on rfl rfl rfl h19) ?_
            refine rg_put (d := 101) (v := .d (.fl undef)) rfl (on rfl rfl rfl h19) ?_
            refine rg_put (d := 102) (v := .d (.fl undef)) rfl (on rfl rfl rfl h19) ?_
            refine rg_put (d := 103) (v := .d (.fl (.bool true))) rfl (og rfl (op_pick rfl rfl (by rw [h19]; rfl) rfl)) ?_
            refine rg_put (d := 104) (v := .d (.fl (.bool true))) rfl (og rfl (op_move rfl rfl rfl)) ?_
            refine rg_put (d := 105) (v := .d (.fl undef)) rfl (on rfl rfl rfl rfl) ?_
            refine rg_put (d := 106) (v := .d (.fl undef)) rfl (on rfl rfl rfl rfl) ?_
            refine rg_put (d := 107) (v := .d (.fl undef)) rfl (on rfl rfl rfl rfl) ?_
            refine rg_put (d := 108) (v := .d (.fl undef)) rfl (on rfl rfl rfl rfl) ?_
            refine rg_put (d := 109) (v := .d (.fl (.bool true))) rfl (og rfl (op_pick rfl rfl rfl rfl)) ?_
            refine rg_done rfl ?_
            refine a_condK rfl rfl ?_
            refine a_exit ?_
            show A _ _ _ _ _ _ _
            refine a_region ?_
            refine rg_put (d := 75) (v := .d (.fl (.int .i64 (p.1 : Int)))) rfl (og rfl (op_move rfl rfl rfl)) ?_
            refine rg_put (d := 76) (v := .d (.fl (.int .i64 (((p.1 : Int) + 1))))) rfl (og rfl (op_bin rfl rfl rfl (fun x y w => b_add64 _ _ _ x y w (by omega)) rfl)) ?_
            refine rg_put (d := 11) (v := .d (.fl (.int .i64 (((p.1 : Int) + 1))))) rfl (og rfl (op_assign rfl rfl rfl)) ?_
            refine rg_done rfl ?_
            have hcst : ∀ t, ((86400 * (i.fr / 86400 + (g.1 : Int))) + (60 * (ix (cs hs) p.1))) ≤ t → t < ((86400 * (i.fr / 86400 + (g.1 : Int))) + (60 * (ix (cs hs) (((p.1 : Int) + 1)).toNat))) → inH hs t = inH hs ((86400 * (i.fr / 86400 + (g.1 : Int))) + (60 * (ix (cs hs) p.1))) := fun t h5 h6 => inH_const hci.1 hci2.2 (fun x h7 h8 => cs_gap (by omega) h7 (by rw [hpt] at h8; exact h8)) (by omega) h5 h6
            have hIn : Inv hs i p.2 ((86400 * (i.fr / 86400 + (g.1 : Int))) + (60 * (ix (cs hs) (((p.1 : Int) + 1)).toNat))) (1441 * g.1 + (p.1 + 1)) := Inv.no hJ (by omega) (by omega) hcst (.inl h60)
            rw [hpt] at hIn
            have hst : tD eIv p.2 = tD eIv p.2 := rfl
            show ∃ i, _ ∧ _ ∧ Imp _ _ _ _ _
            refine ⟨(p.1 + 1, p.2), ⟨by (show p.1 + 1 + 1 ≤ (cs hs).length); omega, hIn⟩, (by (show (cs hs).length - (p.1 + 1) < (cs hs).length - p.1); omega), imp_forget rfl ⟨rfl, rfl, rfl, rfl, rfl, rfl, rfl, rfl, rfl, rfl, (ci (by omega)), rfl, trivial⟩ ⟨rfl, (congrArg (fun z => Ob.tr 32 2 z) hst), trivial⟩⟩
        · skip
          have h61 := f_dec h17
          refine a_exit ?_
          show A _ _ _ _ _ _ _
          refine a_region ?_
          refine rg_put (d := 28) (v := .d (.fl (.int .i64 ((i.fr / 86400 + (g.1 : Int)))))) rfl (og rfl (op_move rfl rfl rfl)) ?_
          refine rg_put (d := 29) (v := .d (.fl (.int .i64 (((i.fr / 86400 + (g.1 : Int)) + 1))))) rfl (og rfl (op_bin rfl rfl rfl (fun x y w => b_add64 _ _ _ x y w (by omega)) rfl)) ?_
          refine rg_put (d := 6) (v := .d (.fl (.int .i64 (((i.fr / 86400 + (g.1 : Int)) + 1))))) rfl (og rfl (op_assign rfl rfl rfl)) ?_
          refine rg_done rfl ?_
          show ∃ i, _ ∧ _ ∧ Imp _ _ _ _ _
          refine ⟨(g.1 + 1, p.2), ⟨by (show g.1 + 1 ≤ spN i); unfold spN; omega, by (have hl5 := cs_last (hs := hs) (q := p.1) (by omega); have hx := hJ; rw [hl5] at hx; exact ⟨hx.nf, fun t => by (rw [hx.m]; show ((_ ∧ t < 86400 * (i.fr / 86400 + (g.1 : Int)) + 60 * 1440) ∧ _) ↔ ((_ ∧ t < (i.fr / 86400 + ((g.1 + 1 : Nat) : Int)) * 86400) ∧ _); rw [show 86400 * (i.fr / 86400 + (g.1 : Int)) + 60 * 1440 = (i.fr / 86400 + ((g.1 + 1 : Nat) : Int)) * 86400 by omega]), fun s hs2 => by (have := hx.e s hs2; show s.to ≤ (i.fr / 86400 + ((g.1 + 1 : Nat) : Int)) * 86400; omega), by (have := hx.l; show p.2.length ≤ 1441 * (g.1 + 1); have := cs_len hs; omega)⟩)⟩, (by (show spN i - (g.1 + 1) < spN i - g.1); unfold spN; omega), imp_forget rfl ⟨rfl, rfl, rfl, rfl, rfl, (by show AV.d (.fl (.int .i64 _)) = AV.d (.fl (.int .i64 (i.fr / 86400 + ((g.1 + 1 : Nat) : Int)))); congr 3; omega), rfl, trivial⟩ ⟨rfl, rfl, trivial⟩⟩
    · skip
      have h62 := f_dec h4
      refine a_exit ?_
      show A _ _ _ _ _ _ _
      refine a_rseq ?_
      refine rg_put (d := 149) (v := .ow 102) rfl (og rfl (op_move rfl rfl rfl)) ?_
      refine rg_put (d := 4) (v := .ow 102) rfl (og rfl (op_assign rfl rfl rfl)) ?_
      refine rg_done rfl ?_
      refine a_imp (imp_leakT 4 102 rfl rfl) ?_
      refine a_ret ?_
      show ∃ ds, ResL _ _ _ ds ∧ RV.of ds = _
      refine ⟨[.sl 2 (List.map eIv g.2)], (.cons (.tmp rfl (.d _)) .nil), ?_⟩
      have hR1 : g.2 = R := Inv.done hI (by omega) hR hm
      rw [← hR1]; rfl
end Go.Proofs.Ytniefocnfcaebaa.Wk
