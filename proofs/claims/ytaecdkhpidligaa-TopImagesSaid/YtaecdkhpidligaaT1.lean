/- The law of the images held and released. Condition: the arguments read as data. -/
import Derived.Test.YtaecdkhpidligaaOp
import Derived.Test.YtaecdkhpidligaaM2
set_option linter.unusedSimpArgs false
set_option linter.unusedVariables false
namespace Go.Proofs.Ytaecdkhpidligaa.Wk
open Go Go.RowKit Go.Proofs.Ytaecdkhpidligaa.Av
open Go.Proofs.Ytaecdkhpidligaa.Wr
theorem u64_r {n : Int} (h : (Lit.int .u64 n).wf = true) : 0 ≤ n ∧ n ≤ 18446744073709551615 := by simpa [Lit.wf, IntKind.min, IntKind.max, IntKind.signed, IntKind.bits] using h
theorem pic_n {l : List Im} (h : Wk.pic l = true) : l.length ≤ 10 := by
  unfold Wk.pic at h
  simp only [Bool.and_eq_true, decide_eq_true_eq] at h
  omega
theorem okd_pic {l : List Im} (h : ∀ a ∈ l, okIm a) (h1 : Wk.pic l = true) : ∀ im ∈ l, Okd im := by
  intro im hi
  unfold Wk.pic at h1
  simp only [Bool.and_eq_true, List.all_eq_true] at h1
  obtain ⟨a, b, c⟩ := pic_ok (h1.1 im hi)
  have hw := h im hi
  exact ⟨by omega, by omega, fun s hs => by have := (c s hs).1; omega, i64_r hw.2.1, i64_r hw.2.2.1, u64_r hw.2.2.2.2⟩
set_option maxHeartbeats 4000000 in
set_option maxRecDepth 100000 in
theorem law3 (l : List Kp) (ims : List Im) (c : List Int) (t : Int) (hW : ims.length ≤ 9223372036854775807 ∧ ∀ a ∈ ims, okIm a) : Ctr Try.prog 3 [.sl 3 (List.map eKp l), .sl 5 (List.map eIm ims), .sl 1 (List.map (rI .i64) c), .fl (.int .i64 t)] (.d (.fl (.bool true))) := by
  refine ctr (n := 197) (rs := #[.tmp 8]) (L := [(0, .d (.sl 3 (List.map eKp l))), (1, .d (.sl 5 (List.map eIm ims))), (2, .d (.sl 1 (List.map (rI .i64) c))), (3, .d (.fl (.int .i64 t)))]) Try.func3 rfl rfl rfl rfl rfl (fun w0 U0 => ?_)
  refine a_rseq ?_
  refine rg_put (d := 8) (v := .d (.fl (.bool false))) rfl (og rfl (op_assign rfl rfl rfl)) ?_
  refine rg_done rfl ?_
  refine a_seq ?_
  refine a_rseq ?_
  refine rg_put (d := 32) (v := .d (.sl 3 (List.map eKp l))) rfl (og rfl (op_move rfl rfl rfl)) ?_
  refine rg_put (d := 33) (v := .d (.fl (.int .i64 (l.length : Int)))) rfl (og rfl (s_len rfl Try.underlying22 rfl rfl)) ?_
  refine rg_put (d := 34) (v := .d (.fl (.bool ((decide (8 < (l.length : Int))))))) rfl (og rfl (op_bin rfl rfl rfl (b_gtr _ _ _ _) rfl)) ?_
  refine rg_put (d := 35) (v := .d (.fl (.bool ((decide (8 < (l.length : Int))))))) rfl (og rfl (op_move rfl rfl rfl)) ?_
  rcases fot ((decide (8 < (l.length : Int)))) with h1 | h1
  · skip
    have h2 := f_dec h1
    refine rg_put (d := 36) (v := .d (.sl 5 (List.map eIm ims))) rfl (oy rfl rfl rfl h1 (op_move rfl rfl rfl)) ?_
    refine rg_put (d := 37) (v := .d (.fl (.bool (Wk.pic ims)))) rfl (oy rfl rfl rfl h1 (op_call rfl Try.func4 nm4 rfl (.cons rfl (.d _) .nil) (pic4 ims hW.1 (fun x hx => (hW.2 x hx).2.2.2.1.1)) rfl)) ?_
    refine rg_put (d := 38) (v := .d (.fl (.bool ((!(Wk.pic ims)))))) rfl (oy rfl rfl rfl h1 (op_un rfl rfl (u_not _) rfl)) ?_
    refine rg_put (d := 39) (v := .d (.fl (.bool ((!(Wk.pic ims)))))) rfl (og rfl (op_pick rfl rfl (by rw [h1]; rfl) rfl)) ?_
    refine rg_done rfl ?_
    refine a_cond rfl (fun h3 => ?_) (fun h3 => ?_)
    · skip
      have h4 := t_not h3
      refine a_rseq ?_
      refine rg_put (d := 40) (v := .d (.fl (.bool true))) rfl (og rfl (op_call rfl Try.func5 nm5 rfl .nil awake5 rfl)) ?_
      refine rg_put (d := 8) (v := .d (.fl (.bool true))) rfl (og rfl (op_assign rfl rfl rfl)) ?_
      refine rg_done rfl ?_
      refine a_ret ?_
      show ∃ ds, ResL _ _ _ ds ∧ RV.of ds = _
      refine ⟨[.fl (.bool true)], (.cons (.tmp rfl (.d _)) .nil), ?_⟩
      rfl
    · skip
      have h5 := f_not h3
      refine a_skip ?_
      show A _ _ _ _ _ _ _
      refine a_rseq ?_
      have hp := h5
      have hl10 := pic_n hp
      have hO := okd_pic hW.2 hp
      refine rg_put (d := 42) (v := .d (.sl 5 (List.map eIm ims))) rfl (og rfl (op_move rfl rfl rfl)) ?_
      refine rg_put (d := 43) (v := .tu [.ag (ePk ((bld V1 ims).1)), .fl (.int .i64 ((bld V1 ims).2))]) rfl (og rfl (op_call rfl Try.func6 nm6 rfl (.cons rfl (.d _) (.cons rfl (.d _) .nil)) (build15 V1 ims (by decide) (by omega) hO) rfl)) ?_
      refine rg_put (d := 41) (v := .tu [.ag (ePk ((bld V1 ims).1)), .fl (.int .i64 ((bld V1 ims).2))]) rfl (og rfl (op_move rfl rfl rfl)) ?_
      refine rg_put (d := 44) (v := .d (.ag (ePk ((bld V1 ims).1)))) rfl (og rfl (op_extract rfl rfl rfl rfl)) ?_
      refine rg_put (d := 45) (v := .d (.fl (.int .i64 ((bld V1 ims).2)))) rfl (og rfl (op_extract rfl rfl rfl rfl)) ?_
      refine rg_nam (d := 9) (v := .pt 101 0) (m := 101) (nw := [(101, .bx 29 ([.fl (.string (⟨#[]⟩)), .fl (.slice none 0 0), .fl (.slice none 0 0)]))]) rfl (og rfl (of_eff (s_alloc 101 rfl ti29 (by kernel_rfl) rfl) rfl)) rfl ?_
      refine rg_sto (nw := [(101, .bx 29 ((ePk ((bld V1 ims).1))))]) rfl (og rfl (of_eff (s_store rfl rfl ti29 rfl rfl rfl rfl rfl rfl) rfl)) ?_
      refine rg_put (d := 10) (v := .d (.fl (.int .i64 ((bld V1 ims).2)))) rfl (og rfl (op_assign rfl rfl rfl)) ?_
      refine rg_done rfl ?_
      refine a_rseq ?_
      refine rg_put (d := 47) (v := .d (.sl 3 (List.map eKp l))) rfl (og rfl (op_move rfl rfl rfl)) ?_
      refine rg_put (d := 48) (v := .d (.sl 5 (List.map eIm ims))) rfl (og rfl (op_move rfl rfl rfl)) ?_
      refine rg_put (d := 49) (v := .d (.sl 1 (List.map (rI .i64) c))) rfl (og rfl (op_move rfl rfl rfl)) ?_
      refine rg_put (d := 50) (v := .d (.fl (.int .i64 t))) rfl (og rfl (op_move rfl rfl rfl)) ?_
      refine rg_put (d := 51) (v := .tu [.sl 5 (List.map eIm ((purge l ims c t).1.1)), .sl 1 (List.map rS ((purge l ims c t).1.2)), .fl (.int .i64 ((purge l ims c t).2))]) rfl (og rfl (op_call rfl Try.func7 nm7 rfl (.cons rfl (.d _) (.cons rfl (.d _) (.cons rfl (.d _) (.cons rfl (.d _) .nil)))) (ret_purge l ims c t (by omega) (fun q hq => by have := (hO _ (ix_mem hq)).l; omega)) rfl)) ?_
      refine rg_put (d := 46) (v := .tu [.sl 5 (List.map eIm ((purge l ims c t).1.1)), .sl 1 (List.map rS ((purge l ims c t).1.2)), .fl (.int .i64 ((purge l ims c t).2))]) rfl (og rfl (op_move rfl rfl rfl)) ?_
      refine rg_put (d := 52) (v := .d (.sl 5 (List.map eIm ((purge l ims c t).1.1)))) rfl (og rfl (op_extract rfl rfl rfl rfl)) ?_
      refine rg_put (d := 53) (v := .d (.sl 1 (List.map rS ((purge l ims c t).1.2)))) rfl (og rfl (op_extract rfl rfl rfl rfl)) ?_
      refine rg_put (d := 54) (v := .d (.fl (.int .i64 ((purge l ims c t).2)))) rfl (og rfl (op_extract rfl rfl rfl rfl)) ?_
      refine rg_put (d := 11) (v := .d (.sl 5 (List.map eIm ((purge l ims c t).1.1)))) rfl (og rfl (op_assign rfl rfl rfl)) ?_
      refine rg_put (d := 12) (v := .d (.sl 1 (List.map rS ((purge l ims c t).1.2)))) rfl (og rfl (op_assign rfl rfl rfl)) ?_
      refine rg_put (d := 13) (v := .d (.fl (.int .i64 ((purge l ims c t).2)))) rfl (og rfl (op_assign rfl rfl rfl)) ?_
      refine rg_done rfl ?_
      refine a_seq ?_
      refine a_rseq ?_
      refine rg_put (d := 55) (v := .d (.fl (.int .i64 ((bld V1 ims).2)))) rfl (og rfl (op_move rfl rfl rfl)) ?_
      refine rg_put (d := 56) (v := .d (.fl (.bool (((bld V1 ims).2 != 0))))) rfl (og rfl (op_bin rfl rfl rfl (b_neq _ _ _ _) rfl)) ?_
      refine rg_put (d := 57) (v := .d (.fl (.bool (((bld V1 ims).2 != 0))))) rfl (og rfl (op_move rfl rfl rfl)) ?_
      rcases fot (((bld V1 ims).2 != 0)) with h6 | h6
      · skip
        have h7 := f_bne h6
        refine rg_put (d := 58) (v := .d (.fl (.int .i64 ((purge l ims c t).2)))) rfl (oy rfl rfl rfl h6 (op_move rfl rfl rfl)) ?_
        refine rg_put (d := 59) (v := .d (.fl (.bool (((purge l ims c t).2 != 0))))) rfl (oy rfl rfl rfl h6 (op_bin rfl rfl rfl (b_neq _ _ _ _) rfl)) ?_
        refine rg_put (d := 60) (v := .d (.fl (.bool (((purge l ims c t).2 != 0))))) rfl (og rfl (op_pick rfl rfl (by rw [h6]; rfl) rfl)) ?_
        refine rg_done rfl ?_
        refine a_cond rfl (fun h8 => ?_) (fun h8 => ?_)
        · skip
          have h9 := t_bne h8
          refine a_rseq ?_
          refine rg_put (d := 61) (v := .d (.fl (.bool true))) rfl (og rfl (op_call rfl Try.func5 nm5 rfl .nil awake5 rfl)) ?_
          refine rg_put (d := 8) (v := .d (.fl (.bool true))) rfl (og rfl (op_assign rfl rfl rfl)) ?_
          refine rg_done rfl ?_
          refine a_ret ?_
          show ∃ ds, ResL _ _ _ ds ∧ RV.of ds = _
          refine ⟨[.fl (.bool true)], (.cons (.tmp rfl (.d _)) .nil), ?_⟩
          rfl
        · skip
          have h10 := f_bne h8
          refine a_skip ?_
          show A _ _ _ _ _ _ _
          refine a_rseq ?_
          have hB : (bld V1 ims).2 = 0 := f_bne h6
          have hZ : (purge l ims c t).2 = 0 := f_bne h8
          have hP := pre_of hp (bld_zero nameV1 hB) (fun x hx => ⟨i64_r (hW.2 x hx).2.1, i64_r (hW.2 x hx).2.2.1, u64_r (hW.2 x hx).2.2.2.2⟩)
          have hle := purge_len l ims c t
          refine rg_put (d := 62) (v := .d (.sl 5 (List.map eIm ims))) rfl (og rfl (op_move rfl rfl rfl)) ?_
          refine rg_put (d := 14) (v := .d (.sl 5 (List.map eIm ims))) rfl (og rfl (op_assign rfl rfl rfl)) ?_
          refine rg_done rfl ?_
          refine a_seq ?_
          refine a_rseq ?_
          have hB : (bld V1 ims).2 = 0 := f_bne h6
          have hZ : (purge l ims c t).2 = 0 := f_bne h8
          have hP := pre_of hp (bld_zero nameV1 hB) (fun x hx => ⟨i64_r (hW.2 x hx).2.1, i64_r (hW.2 x hx).2.2.1, u64_r (hW.2 x hx).2.2.2.2⟩)
          have hle := purge_len l ims c t
          refine rg_put (d := 15) (v := .d (.fl (.int .i64 0))) rfl (og rfl (op_assign rfl rfl rfl)) ?_
          refine rg_done rfl ?_
          refine a_block ?_
          refine a_loop (ι := Nat) (fun k => SS [(0, .d (.sl 3 (List.map eKp l))), (1, .d (.sl 5 (List.map eIm ims))), (2, .d (.sl 1 (List.map (rI .i64) c))), (3, .d (.fl (.int .i64 t))), (10, .d (.fl (.int .i64 ((bld V1 ims).2)))), (11, .d (.sl 5 (List.map eIm ((purge l ims c t).1.1)))), (12, .d (.sl 1 (List.map rS ((purge l ims c t).1.2)))), (13, .d (.fl (.int .i64 ((purge l ims c t).2)))), (39, .d (.fl (.bool ((!(Wk.pic ims)))))), (60, .d (.fl (.bool (((purge l ims c t).2 != 0))))), (15, .d (.fl (.int .i64 (k : Int)))), (14, .d (.sl 5 (List.map eIm (hel ims k))))] []) (fun k => k ≤ ims.length) (fun k => ims.length - k) 0 (by omega) (imp_forget rfl ⟨rfl, rfl, rfl, rfl, rfl, rfl, rfl, rfl, rfl, rfl, (by first | rfl | exact ci (by omega) | exact ci (by simp) | exact cd (by simp) | simp), (by first | rfl | exact ci (by omega) | exact ci (by simp) | exact cd (by simp) | simp), trivial⟩ trivial) (fun k hok => ?_)
          have hk := hok
          refine a_seq ?_
          refine a_rseq ?_
          refine rg_put (d := 63) (v := .d (.fl (.int .i64 (k : Int)))) rfl (og rfl (op_move rfl rfl rfl)) ?_
          refine rg_put (d := 64) (v := .d (.sl 5 (List.map eIm ims))) rfl (og rfl (op_move rfl rfl rfl)) ?_
          refine rg_put (d := 65) (v := .d (.fl (.int .i64 (ims.length : Int)))) rfl (og rfl (s_len rfl Try.underlying23 rfl rfl)) ?_
          refine rg_put (d := 66) (v := .d (.fl (.bool ((decide ((k : Int) < (ims.length : Int))))))) rfl (og rfl (op_bin rfl rfl rfl (b_lss _ _ _ _) rfl)) ?_
          refine rg_done rfl ?_
          refine a_cond rfl (fun h11 => ?_) (fun h11 => ?_)
          · skip
            have h12 := t_dec h11
            refine a_skip ?_
            show A _ _ _ _ _ _ _
            refine a_seq ?_
            refine a_block ?_
            refine a_rseq ?_
            refine rg_put (d := 70) (v := .d (.sl 5 (List.map eIm (hel ims k)))) rfl (og rfl (op_move rfl rfl rfl)) ?_
            refine rg_put (d := 71) (v := .d (.sl 5 (List.map eIm ims))) rfl (og rfl (op_move rfl rfl rfl)) ?_
            refine rg_put (d := 72) (v := .d (.fl (.int .i64 (k : Int)))) rfl (og rfl (op_move rfl rfl rfl)) ?_
            refine rg_put (d := 73) (v := .el ((eIm (ix ims k)))) rfl (og rfl (s_index rfl Try.underlying23 ti40 rfl rfl (by omega) (row_at (by omega)) rfl)) ?_
            refine rg_put (d := 74) (v := .el ((List.drop 0 ((eIm (ix ims k)))))) rfl (og rfl (of_eff (s_field_el rfl Try.underlying40 rfl ti9 rfl rfl rfl) rfl)) ?_
            refine rg_put (d := 75) (v := .d (.fl (.string ((ix ims k).id)))) rfl (og rfl (op_load_el rfl Try.underlying9 rfl rfl rfl rfl)) ?_
            refine rg_put (d := 76) (v := .tu [.sl 5 (List.map eIm ((hel ims (k + 1)))), .fl (.int .i64 (0 : Int))]) rfl (og rfl (op_call rfl Try.func8 nm8 rfl (.cons rfl (.d _) (.cons rfl (.d _) (.cons rfl (.d _) .nil))) (hold8 hP (by omega)) rfl)) ?_
            refine rg_put (d := 69) (v := .tu [.sl 5 (List.map eIm ((hel ims (k + 1)))), .fl (.int .i64 (0 : Int))]) rfl (og rfl (op_move rfl rfl rfl)) ?_
            refine rg_put (d := 77) (v := .d (.sl 5 (List.map eIm ((hel ims (k + 1)))))) rfl (og rfl (op_extract rfl rfl rfl rfl)) ?_
            refine rg_put (d := 78) (v := .d (.fl (.int .i64 (0 : Int)))) rfl (og rfl (op_extract rfl rfl rfl rfl)) ?_
            refine rg_put (d := 16) (v := .d (.sl 5 (List.map eIm ((hel ims (k + 1)))))) rfl (og rfl (op_assign rfl rfl rfl)) ?_
            refine rg_put (d := 17) (v := .d (.fl (.int .i64 (0 : Int)))) rfl (og rfl (op_assign rfl rfl rfl)) ?_
            refine rg_done rfl ?_
            refine a_seq ?_
            refine a_rseq ?_
            refine rg_put (d := 79) (v := .d (.fl (.int .i64 (0 : Int)))) rfl (og rfl (op_move rfl rfl rfl)) ?_
            refine rg_put (d := 80) (v := .d (.fl (.bool (((0 : Int) != 0))))) rfl (og rfl (op_bin rfl rfl rfl (b_neq _ _ _ _) rfl)) ?_
            refine rg_done rfl ?_
            refine a_condF rfl rfl ?_
            refine a_skip ?_
            show A _ _ _ _ _ _ _
            refine a_region ?_
            refine rg_put (d := 81) (v := .d (.sl 5 (List.map eIm ((hel ims (k + 1)))))) rfl (og rfl (op_move rfl rfl rfl)) ?_
            refine rg_put (d := 14) (v := .d (.sl 5 (List.map eIm ((hel ims (k + 1)))))) rfl (og rfl (op_assign rfl rfl rfl)) ?_
            refine rg_done rfl ?_
            show A _ _ _ _ _ _ _
            refine a_region ?_
            refine rg_put (d := 67) (v := .d (.fl (.int .i64 (k : Int)))) rfl (og rfl (op_move rfl rfl rfl)) ?_
            refine rg_put (d := 68) (v := .d (.fl (.int .i64 (((k : Int) + 1))))) rfl (og rfl (op_bin rfl rfl rfl (fun x y w => b_add64 _ _ _ x y w (by omega)) rfl)) ?_
            refine rg_put (d := 15) (v := .d (.fl (.int .i64 (((k : Int) + 1))))) rfl (og rfl (op_assign rfl rfl rfl)) ?_
            refine rg_done rfl ?_
            show ∃ i, _ ∧ _ ∧ Imp _ _ _ _ _
            refine ⟨k + 1, (by omega), by omega, imp_forget rfl ⟨rfl, rfl, rfl, rfl, rfl, rfl, rfl, rfl, rfl, rfl, (by first | rfl | exact ci (by omega) | exact ci (by simp) | exact cd (by simp) | simp), rfl, trivial⟩ trivial⟩
          · skip
            have h13 := f_dec h11
            refine a_exit ?_
            show A _ _ _ _ _ _ _
            refine a_rseq ?_
            refine rg_put (d := 83) (v := .d (.sl 5 (List.map eIm (hel ims k)))) rfl (og rfl (op_move rfl rfl rfl)) ?_
            refine rg_put (d := 84) (v := .tu [.ag (ePk (hpk ims)), .fl (.int .i64 (0 : Int))]) rfl (og rfl (op_call rfl Try.func6 nm6 rfl (.cons rfl (.d _) (.cons rfl (.d _) .nil)) (build6 hP (by omega)) rfl)) ?_
            refine rg_put (d := 82) (v := .tu [.ag (ePk (hpk ims)), .fl (.int .i64 (0 : Int))]) rfl (og rfl (op_move rfl rfl rfl)) ?_
            refine rg_put (d := 85) (v := .d (.ag (ePk (hpk ims)))) rfl (og rfl (op_extract rfl rfl rfl rfl)) ?_
            refine rg_put (d := 86) (v := .d (.fl (.int .i64 (0 : Int)))) rfl (og rfl (op_extract rfl rfl rfl rfl)) ?_
            refine rg_nam (d := 18) (v := .pt 102 0) (m := 102) (nw := [(102, .bx 29 ([.fl (.string (⟨#[]⟩)), .fl (.slice none 0 0), .fl (.slice none 0 0)]))]) rfl (og rfl (of_eff (s_alloc 102 rfl ti29 (by kernel_rfl) rfl) rfl)) rfl ?_
            refine rg_sto (nw := [(102, .bx 29 ((ePk (hpk ims))))]) rfl (og rfl (of_eff (s_store rfl rfl ti29 rfl rfl rfl rfl rfl rfl) rfl)) ?_
            refine rg_put (d := 19) (v := .d (.fl (.int .i64 (0 : Int)))) rfl (og rfl (op_assign rfl rfl rfl)) ?_
            refine rg_done rfl ?_
            refine a_rseq ?_
            refine rg_put (d := 88) (v := .d (.sl 3 (List.map eKp l))) rfl (og rfl (op_move rfl rfl rfl)) ?_
            refine rg_put (d := 89) (v := .d (.sl 5 (List.map eIm (hel ims k)))) rfl (og rfl (op_move rfl rfl rfl)) ?_
            refine rg_put (d := 90) (v := .d (.sl 1 (List.map (rI .i64) c))) rfl (og rfl (op_move rfl rfl rfl)) ?_
            refine rg_put (d := 91) (v := .d (.fl (.int .i64 t))) rfl (og rfl (op_move rfl rfl rfl)) ?_
            refine rg_put (d := 92) (v := .tu [.sl 5 (List.map eIm (hel ims k)), .sl 1 (List.map rS ([] : List ByteArray)), .fl (.int .i64 (0 : Int))]) rfl (og rfl (op_call rfl Try.func7 nm7 rfl (.cons rfl (.d _) (.cons rfl (.d _) (.cons rfl (.d _) (.cons rfl (.d _) .nil)))) (purgeH hP hZ (by omega)) rfl)) ?_
            refine rg_put (d := 87) (v := .tu [.sl 5 (List.map eIm (hel ims k)), .sl 1 (List.map rS ([] : List ByteArray)), .fl (.int .i64 (0 : Int))]) rfl (og rfl (op_move rfl rfl rfl)) ?_
            refine rg_put (d := 93) (v := .d (.sl 5 (List.map eIm (hel ims k)))) rfl (og rfl (op_extract rfl rfl rfl rfl)) ?_
            refine rg_put (d := 94) (v := .d (.sl 1 (List.map rS ([] : List ByteArray)))) rfl (og rfl (op_extract rfl rfl rfl rfl)) ?_
            refine rg_put (d := 95) (v := .d (.fl (.int .i64 (0 : Int)))) rfl (og rfl (op_extract rfl rfl rfl rfl)) ?_
            refine rg_put (d := 20) (v := .d (.sl 5 (List.map eIm (hel ims k)))) rfl (og rfl (op_assign rfl rfl rfl)) ?_
            refine rg_put (d := 21) (v := .d (.sl 1 (List.map rS ([] : List ByteArray)))) rfl (og rfl (op_assign rfl rfl rfl)) ?_
            refine rg_put (d := 22) (v := .d (.fl (.int .i64 (0 : Int)))) rfl (og rfl (op_assign rfl rfl rfl)) ?_
            refine rg_done rfl ?_
            refine a_seq ?_
            refine a_rseq ?_
            refine rg_put (d := 96) (v := .d (.fl (.int .i64 (0 : Int)))) rfl (og rfl (op_move rfl rfl rfl)) ?_
            refine rg_put (d := 97) (v := .d (.fl (.bool (((0 : Int) != 0))))) rfl (og rfl (op_bin rfl rfl rfl (b_neq _ _ _ _) rfl)) ?_
            refine rg_put (d := 98) (v := .d (.fl (.bool (((0 : Int) != 0))))) rfl (og rfl (op_move rfl rfl rfl)) ?_
            refine rg_put (d := 99) (v := .d (.fl (.int .i64 (0 : Int)))) rfl (oy rfl rfl rfl rfl (op_move rfl rfl rfl)) ?_
            refine rg_put (d := 100) (v := .d (.fl (.bool (((0 : Int) != 0))))) rfl (oy rfl rfl rfl rfl (op_bin rfl rfl rfl (b_neq _ _ _ _) rfl)) ?_
            refine rg_put (d := 101) (v := .d (.fl (.bool (((0 : Int) != 0))))) rfl (og rfl (op_pick rfl rfl rfl rfl)) ?_
            refine rg_put (d := 102) (v := .d (.fl (.bool (((0 : Int) != 0))))) rfl (og rfl (op_move rfl rfl rfl)) ?_
            refine rg_put (d := 103) (v := .d (.ag (ePk (hpk ims)))) rfl (oy rfl rfl rfl rfl (of_eff (s_load_pts rfl Try.underlying29 rfl ti29 rfl rfl rfl rfl) rfl)) ?_
            refine rg_put (d := 104) (v := .d (.fl (.bool true))) rfl (oy rfl rfl rfl rfl (op_call rfl Try.func9 nm9 rfl (.cons rfl (.d _) .nil) (ver9 hP) rfl)) ?_
            refine rg_put (d := 105) (v := .d (.fl (.bool (!true)))) rfl (oy rfl rfl rfl rfl (op_un rfl rfl (u_not _) rfl)) ?_
            refine rg_put (d := 106) (v := .d (.fl (.bool (!true)))) rfl (og rfl (op_pick rfl rfl rfl rfl)) ?_
            refine rg_put (d := 107) (v := .d (.fl (.bool (!true)))) rfl (og rfl (op_move rfl rfl rfl)) ?_
            refine rg_put (d := 108) (v := .d (.sl 1 (List.map rS ([] : List ByteArray)))) rfl (oy rfl rfl rfl rfl (op_move rfl rfl rfl)) ?_
            refine rg_put (d := 109) (v := .d (.fl (.int .i64 ((([] : List ByteArray).length : Int))))) rfl (oy rfl rfl rfl rfl (s_len rfl Try.underlying33 rfl rfl)) ?_
            refine rg_put (d := 110) (v := .d (.fl (.bool (((([] : List ByteArray).length : Int) != 0))))) rfl (oy rfl rfl rfl rfl (op_bin rfl rfl rfl (b_neq _ _ _ _) rfl)) ?_
            refine rg_put (d := 111) (v := .d (.fl (.bool (((([] : List ByteArray).length : Int) != 0))))) rfl (og rfl (op_pick rfl rfl rfl rfl)) ?_
            refine rg_put (d := 112) (v := .d (.fl (.bool (((([] : List ByteArray).length : Int) != 0))))) rfl (og rfl (op_move rfl rfl rfl)) ?_
            refine rg_put (d := 113) (v := .d (.sl 5 (List.map eIm (hel ims k)))) rfl (oy rfl rfl rfl rfl (op_move rfl rfl rfl)) ?_
            refine rg_put (d := 114) (v := .d (.fl (.int .i64 (((hel ims k).length : Int))))) rfl (oy rfl rfl rfl rfl (s_len rfl Try.underlying23 rfl rfl)) ?_
            refine rg_put (d := 115) (v := .d (.sl 5 (List.map eIm ims))) rfl (oy rfl rfl rfl rfl (op_move rfl rfl rfl)) ?_
            refine rg_put (d := 116) (v := .d (.fl (.int .i64 (ims.length : Int)))) rfl (oy rfl rfl rfl rfl (s_len rfl Try.underlying23 rfl rfl)) ?_
            refine rg_put (d := 117) (v := .d (.fl (.bool ((((hel ims k).length : Int) != (ims.length : Int)))))) rfl (oy rfl rfl rfl rfl (op_bin rfl rfl rfl (b_neq _ _ _ _) rfl)) ?_
            refine rg_put (d := 118) (v := .d (.fl (.bool ((((hel ims k).length : Int) != (ims.length : Int)))))) rfl (og rfl (op_pick rfl rfl rfl rfl)) ?_
            refine rg_done rfl ?_
            refine a_condF rfl (show (((hel ims k).length : Int) != (ims.length : Int)) = false by rw [hel_len]; exact ne_self_b _) ?_
            refine a_skip ?_
            show A _ _ _ _ _ _ _
            refine a_rseq ?_
            refine rg_put (d := 119) (v := .d (.sl 5 (List.map eIm (hel ims k)))) rfl (og rfl (op_move rfl rfl rfl)) ?_
            refine rg_put (d := 23) (v := .d (.sl 5 (List.map eIm (hel ims k)))) rfl (og rfl (op_assign rfl rfl rfl)) ?_
            refine rg_done rfl ?_
            refine a_seq ?_
            refine a_rseq ?_
            rw [show (hel ims k) = (fre ims 0) from hel_fre (by omega)]
            refine rg_put (d := 24) (v := .d (.fl (.int .i64 0))) rfl (og rfl (op_assign rfl rfl rfl)) ?_
            refine rg_done rfl ?_
            refine a_block ?_
            refine a_loop (ι := Nat) (fun j => SS [(0, .d (.sl 3 (List.map eKp l))), (1, .d (.sl 5 (List.map eIm ims))), (2, .d (.sl 1 (List.map (rI .i64) c))), (3, .d (.fl (.int .i64 t))), (10, .d (.fl (.int .i64 ((bld V1 ims).2)))), (11, .d (.sl 5 (List.map eIm ((purge l ims c t).1.1)))), (12, .d (.sl 1 (List.map rS ((purge l ims c t).1.2)))), (13, .d (.fl (.int .i64 ((purge l ims c t).2)))), (14, .d (.sl 5 (List.map eIm (fre ims 0)))), (15, .d (.fl (.int .i64 (k : Int)))), (18, .pt 102 0), (19, .d (.fl (.int .i64 (0 : Int)))), (20, .d (.sl 5 (List.map eIm (fre ims 0)))), (21, .d (.sl 1 (List.map rS ([] : List ByteArray)))), (22, .d (.fl (.int .i64 (0 : Int)))), (39, .d (.fl (.bool ((!(Wk.pic ims)))))), (60, .d (.fl (.bool (((purge l ims c t).2 != 0))))), (66, .d (.fl (.bool ((decide ((k : Int) < (ims.length : Int))))))), (118, .d (.fl (.bool ((((fre ims 0).length : Int) != (ims.length : Int)))))), (24, .d (.fl (.int .i64 (j : Int)))), (23, .d (.sl 5 (List.map eIm (fre ims j))))] [(102, .bx 29 ((ePk (hpk ims))))]) (fun j => j ≤ ims.length) (fun j => ims.length - j) 0 (by omega) (imp_forget rfl ⟨rfl, rfl, rfl, rfl, rfl, rfl, rfl, rfl, rfl, rfl, rfl, rfl, rfl, rfl, rfl, rfl, rfl, rfl, rfl, (by first | rfl | exact ci (by omega) | exact ci (by simp) | exact cd (by simp) | simp), (by first | rfl | exact ci (by omega) | exact ci (by simp) | exact cd (by simp) | simp), trivial⟩ ⟨rfl, trivial⟩) (fun j hok => ?_)
            have hj := hok
            refine a_seq ?_
            refine a_rseq ?_
            refine rg_put (d := 120) (v := .d (.fl (.int .i64 (j : Int)))) rfl (og rfl (op_move rfl rfl rfl)) ?_
            refine rg_put (d := 121) (v := .d (.sl 5 (List.map eIm ims))) rfl (og rfl (op_move rfl rfl rfl)) ?_
            refine rg_put (d := 122) (v := .d (.fl (.int .i64 (ims.length : Int)))) rfl (og rfl (s_len rfl Try.underlying23 rfl rfl)) ?_
            refine rg_put (d := 123) (v := .d (.fl (.bool ((decide ((j : Int) < (ims.length : Int))))))) rfl (og rfl (op_bin rfl rfl rfl (b_lss _ _ _ _) rfl)) ?_
            refine rg_done rfl ?_
            refine a_cond rfl (fun h14 => ?_) (fun h14 => ?_)
            · skip
              have h15 := t_dec h14
              refine a_skip ?_
              show A _ _ _ _ _ _ _
              refine a_seq ?_
              refine a_block ?_
              refine a_rseq ?_
              refine rg_put (d := 127) (v := .d (.sl 5 (List.map eIm (fre ims j)))) rfl (og rfl (op_move rfl rfl rfl)) ?_
              refine rg_put (d := 128) (v := .d (.sl 5 (List.map eIm ims))) rfl (og rfl (op_move rfl rfl rfl)) ?_
              refine rg_put (d := 129) (v := .d (.fl (.int .i64 (j : Int)))) rfl (og rfl (op_move rfl rfl rfl)) ?_
              refine rg_put (d := 130) (v := .el ((eIm (ix ims j)))) rfl (og rfl (s_index rfl Try.underlying23 ti40 rfl rfl (by omega) (row_at (by omega)) rfl)) ?_
              refine rg_put (d := 131) (v := .el ((List.drop 0 ((eIm (ix ims j)))))) rfl (og rfl (of_eff (s_field_el rfl Try.underlying40 rfl ti9 rfl rfl rfl) rfl)) ?_
              refine rg_put (d := 132) (v := .d (.fl (.string ((ix ims j).id)))) rfl (og rfl (op_load_el rfl Try.underlying9 rfl rfl rfl rfl)) ?_
              refine rg_put (d := 133) (v := .tu [.sl 5 (List.map eIm ((fre ims (j + 1)))), .fl (.int .i64 (0 : Int))]) rfl (og rfl (op_call rfl Try.func10 nm10 rfl (.cons rfl (.d _) (.cons rfl (.d _) (.cons rfl (.d _) .nil))) (rel10 hP (by omega)) rfl)) ?_
              refine rg_put (d := 126) (v := .tu [.sl 5 (List.map eIm ((fre ims (j + 1)))), .fl (.int .i64 (0 : Int))]) rfl (og rfl (op_move rfl rfl rfl)) ?_
              refine rg_put (d := 134) (v := .d (.sl 5 (List.map eIm ((fre ims (j + 1)))))) rfl (og rfl (op_extract rfl rfl rfl rfl)) ?_
              refine rg_put (d := 135) (v := .d (.fl (.int .i64 (0 : Int)))) rfl (og rfl (op_extract rfl rfl rfl rfl)) ?_
              refine rg_put (d := 25) (v := .d (.sl 5 (List.map eIm ((fre ims (j + 1)))))) rfl (og rfl (op_assign rfl rfl rfl)) ?_
              refine rg_put (d := 26) (v := .d (.fl (.int .i64 (0 : Int)))) rfl (og rfl (op_assign rfl rfl rfl)) ?_
              refine rg_done rfl ?_
              refine a_seq ?_
              refine a_rseq ?_
              refine rg_put (d := 136) (v := .d (.fl (.int .i64 (0 : Int)))) rfl (og rfl (op_move rfl rfl rfl)) ?_
              refine rg_put (d := 137) (v := .d (.fl (.bool (((0 : Int) != 0))))) rfl (og rfl (op_bin rfl rfl rfl (b_neq _ _ _ _) rfl)) ?_
              refine rg_done rfl ?_
              refine a_condF rfl rfl ?_
              refine a_skip ?_
              show A _ _ _ _ _ _ _
              refine a_region ?_
              refine rg_put (d := 138) (v := .d (.sl 5 (List.map eIm ((fre ims (j + 1)))))) rfl (og rfl (op_move rfl rfl rfl)) ?_
              refine rg_put (d := 23) (v := .d (.sl 5 (List.map eIm ((fre ims (j + 1)))))) rfl (og rfl (op_assign rfl rfl rfl)) ?_
              refine rg_done rfl ?_
              show A _ _ _ _ _ _ _
              refine a_region ?_
              refine rg_put (d := 124) (v := .d (.fl (.int .i64 (j : Int)))) rfl (og rfl (op_move rfl rfl rfl)) ?_
              refine rg_put (d := 125) (v := .d (.fl (.int .i64 (((j : Int) + 1))))) rfl (og rfl (op_bin rfl rfl rfl (fun x y w => b_add64 _ _ _ x y w (by omega)) rfl)) ?_
              refine rg_put (d := 24) (v := .d (.fl (.int .i64 (((j : Int) + 1))))) rfl (og rfl (op_assign rfl rfl rfl)) ?_
              refine rg_done rfl ?_
              show ∃ i, _ ∧ _ ∧ Imp _ _ _ _ _
              refine ⟨j + 1, (by omega), by omega, imp_forget rfl ⟨rfl, rfl, rfl, rfl, rfl, rfl, rfl, rfl, rfl, rfl, rfl, rfl, rfl, rfl, rfl, rfl, rfl, rfl, rfl, (by first | rfl | exact ci (by omega) | exact ci (by simp) | exact cd (by simp) | simp), rfl, trivial⟩ ⟨rfl, trivial⟩⟩
            · skip
              have h16 := f_dec h14
              refine a_exit ?_
              show A _ _ _ _ _ _ _
              refine a_rseq ?_
              refine rg_put (d := 140) (v := .d (.sl 3 (List.map eKp l))) rfl (og rfl (op_move rfl rfl rfl)) ?_
              refine rg_put (d := 141) (v := .d (.sl 5 (List.map eIm (fre ims j)))) rfl (og rfl (op_move rfl rfl rfl)) ?_
              refine rg_put (d := 142) (v := .d (.sl 1 (List.map (rI .i64) c))) rfl (og rfl (op_move rfl rfl rfl)) ?_
              refine rg_put (d := 143) (v := .d (.fl (.int .i64 t))) rfl (og rfl (op_move rfl rfl rfl)) ?_
              refine rg_put (d := 144) (v := .tu [.sl 5 (List.map eIm ((purge l ims c t).1.1)), .sl 1 (List.map rS ((purge l ims c t).1.2)), .fl (.int .i64 ((purge l ims c t).2))]) rfl (og rfl (op_call rfl Try.func7 nm7 rfl (.cons rfl (.d _) (.cons rfl (.d _) (.cons rfl (.d _) (.cons rfl (.d _) .nil)))) (purgeF hP (by omega)) rfl)) ?_
              refine rg_put (d := 139) (v := .tu [.sl 5 (List.map eIm ((purge l ims c t).1.1)), .sl 1 (List.map rS ((purge l ims c t).1.2)), .fl (.int .i64 ((purge l ims c t).2))]) rfl (og rfl (op_move rfl rfl rfl)) ?_
              refine rg_put (d := 145) (v := .d (.sl 5 (List.map eIm ((purge l ims c t).1.1)))) rfl (og rfl (op_extract rfl rfl rfl rfl)) ?_
              refine rg_put (d := 146) (v := .d (.sl 1 (List.map rS ((purge l ims c t).1.2)))) rfl (og rfl (op_extract rfl rfl rfl rfl)) ?_
              refine rg_put (d := 147) (v := .d (.fl (.int .i64 ((purge l ims c t).2)))) rfl (og rfl (op_extract rfl rfl rfl rfl)) ?_
              refine rg_put (d := 27) (v := .d (.sl 5 (List.map eIm ((purge l ims c t).1.1)))) rfl (og rfl (op_assign rfl rfl rfl)) ?_
              refine rg_put (d := 28) (v := .d (.sl 1 (List.map rS ((purge l ims c t).1.2)))) rfl (og rfl (op_assign rfl rfl rfl)) ?_
              refine rg_put (d := 29) (v := .d (.fl (.int .i64 ((purge l ims c t).2)))) rfl (og rfl (op_assign rfl rfl rfl)) ?_
              refine rg_done rfl ?_
              refine a_seq ?_
              refine a_rseq ?_
              refine rg_put (d := 148) (v := .d (.fl (.int .i64 ((purge l ims c t).2)))) rfl (og rfl (op_move rfl rfl rfl)) ?_
              refine rg_put (d := 149) (v := .d (.fl (.bool (((purge l ims c t).2 != 0))))) rfl (og rfl (op_bin rfl rfl rfl (b_neq _ _ _ _) rfl)) ?_
              refine rg_put (d := 150) (v := .d (.fl (.bool (((purge l ims c t).2 != 0))))) rfl (og rfl (op_move rfl rfl rfl)) ?_
              refine rg_put (d := 151) (v := .d (.sl 5 (List.map eIm ((purge l ims c t).1.1)))) rfl (oy rfl rfl rfl h8 (op_move rfl rfl rfl)) ?_
              refine rg_put (d := 152) (v := .d (.fl (.int .i64 ((((purge l ims c t).1.1).length : Int))))) rfl (oy rfl rfl rfl h8 (s_len rfl Try.underlying23 rfl rfl)) ?_
              refine rg_put (d := 153) (v := .d (.sl 5 (List.map eIm ((purge l ims c t).1.1)))) rfl (oy rfl rfl rfl h8 (op_move rfl rfl rfl)) ?_
              refine rg_put (d := 154) (v := .d (.fl (.int .i64 ((((purge l ims c t).1.1).length : Int))))) rfl (oy rfl rfl rfl h8 (s_len rfl Try.underlying23 rfl rfl)) ?_
              refine rg_put (d := 155) (v := .d (.fl (.bool (((((purge l ims c t).1.1).length : Int) != (((purge l ims c t).1.1).length : Int)))))) rfl (oy rfl rfl rfl h8 (op_bin rfl rfl rfl (b_neq _ _ _ _) rfl)) ?_
              refine rg_put (d := 156) (v := .d (.fl (.bool (((((purge l ims c t).1.1).length : Int) != (((purge l ims c t).1.1).length : Int)))))) rfl (og rfl (op_pick rfl rfl (by rw [h8]; rfl) rfl)) ?_
              refine rg_put (d := 157) (v := .d (.fl (.bool (((((purge l ims c t).1.1).length : Int) != (((purge l ims c t).1.1).length : Int)))))) rfl (og rfl (op_move rfl rfl rfl)) ?_
              refine rg_put (d := 158) (v := .d (.sl 1 (List.map rS ((purge l ims c t).1.2)))) rfl (oy rfl rfl rfl (ne_self_b _) (op_move rfl rfl rfl)) ?_
              refine rg_put (d := 159) (v := .d (.fl (.int .i64 ((((purge l ims c t).1.2).length : Int))))) rfl (oy rfl rfl rfl (ne_self_b _) (s_len rfl Try.underlying33 rfl rfl)) ?_
              refine rg_put (d := 160) (v := .d (.sl 1 (List.map rS ((purge l ims c t).1.2)))) rfl (oy rfl rfl rfl (ne_self_b _) (op_move rfl rfl rfl)) ?_
              refine rg_put (d := 161) (v := .d (.fl (.int .i64 ((((purge l ims c t).1.2).length : Int))))) rfl (oy rfl rfl rfl (ne_self_b _) (s_len rfl Try.underlying33 rfl rfl)) ?_
              refine rg_put (d := 162) (v := .d (.fl (.bool (((((purge l ims c t).1.2).length : Int) != (((purge l ims c t).1.2).length : Int)))))) rfl (oy rfl rfl rfl (ne_self_b _) (op_bin rfl rfl rfl (b_neq _ _ _ _) rfl)) ?_
              refine rg_put (d := 163) (v := .d (.fl (.bool (((((purge l ims c t).1.2).length : Int) != (((purge l ims c t).1.2).length : Int)))))) rfl (og rfl (op_pick rfl rfl (by rw [(ne_self_b _)]; rfl) rfl)) ?_
              refine rg_done rfl ?_
              refine a_condF rfl (ne_self_b _) ?_
              refine a_skip ?_
              show A _ _ _ _ _ _ _
              refine a_seq ?_
              refine a_rseq ?_
              refine rg_put (d := 30) (v := .d (.fl (.int .i64 0))) rfl (og rfl (op_assign rfl rfl rfl)) ?_
              refine rg_done rfl ?_
              refine a_block ?_
              refine a_loop (ι := Nat) (fun a => SS [(0, .d (.sl 3 (List.map eKp l))), (1, .d (.sl 5 (List.map eIm ims))), (2, .d (.sl 1 (List.map (rI .i64) c))), (3, .d (.fl (.int .i64 t))), (10, .d (.fl (.int .i64 ((bld V1 ims).2)))), (11, .d (.sl 5 (List.map eIm ((purge l ims c t).1.1)))), (12, .d (.sl 1 (List.map rS ((purge l ims c t).1.2)))), (13, .d (.fl (.int .i64 ((purge l ims c t).2)))), (14, .d (.sl 5 (List.map eIm (fre ims 0)))), (15, .d (.fl (.int .i64 (k : Int)))), (18, .pt 102 0), (19, .d (.fl (.int .i64 (0 : Int)))), (20, .d (.sl 5 (List.map eIm (fre ims 0)))), (21, .d (.sl 1 (List.map rS ([] : List ByteArray)))), (22, .d (.fl (.int .i64 (0 : Int)))), (23, .d (.sl 5 (List.map eIm (fre ims j)))), (24, .d (.fl (.int .i64 (j : Int)))), (27, .d (.sl 5 (List.map eIm ((purge l ims c t).1.1)))), (28, .d (.sl 1 (List.map rS ((purge l ims c t).1.2)))), (29, .d (.fl (.int .i64 ((purge l ims c t).2)))), (39, .d (.fl (.bool ((!(Wk.pic ims)))))), (60, .d (.fl (.bool (((purge l ims c t).2 != 0))))), (66, .d (.fl (.bool ((decide ((k : Int) < (ims.length : Int))))))), (118, .d (.fl (.bool ((((fre ims 0).length : Int) != (ims.length : Int)))))), (123, .d (.fl (.bool ((decide ((j : Int) < (ims.length : Int))))))), (163, .d (.fl (.bool (((((purge l ims c t).1.2).length : Int) != (((purge l ims c t).1.2).length : Int)))))), (30, .d (.fl (.int .i64 (a : Int))))] [(102, .bx 29 ((ePk (hpk ims))))]) (fun a => a ≤ (purge l ims c t).1.1.length) (fun a => (purge l ims c t).1.1.length - a) 0 (by omega) (imp_forget rfl ⟨rfl, rfl, rfl, rfl, rfl, rfl, rfl, rfl, rfl, rfl, rfl, rfl, rfl, rfl, rfl, rfl, rfl, rfl, rfl, rfl, rfl, rfl, rfl, rfl, rfl, rfl, (by first | rfl | exact ci (by omega) | exact ci (by simp) | exact cd (by simp) | simp), trivial⟩ ⟨rfl, trivial⟩) (fun a hok => ?_)
              have ha := hok
              refine a_seq ?_
              refine a_rseq ?_
              refine rg_put (d := 164) (v := .d (.fl (.int .i64 (a : Int)))) rfl (og rfl (op_move rfl rfl rfl)) ?_
              refine rg_put (d := 165) (v := .d (.sl 5 (List.map eIm ((purge l ims c t).1.1)))) rfl (og rfl (op_move rfl rfl rfl)) ?_
              refine rg_put (d := 166) (v := .d (.fl (.int .i64 ((((purge l ims c t).1.1).length : Int))))) rfl (og rfl (s_len rfl Try.underlying23 rfl rfl)) ?_
              refine rg_put (d := 167) (v := .d (.fl (.bool ((decide ((a : Int) < (((purge l ims c t).1.1).length : Int))))))) rfl (og rfl (op_bin rfl rfl rfl (b_lss _ _ _ _) rfl)) ?_
              refine rg_done rfl ?_
              refine a_cond rfl (fun h17 => ?_) (fun h17 => ?_)
              · skip
                have h18 := t_dec h17
                refine a_skip ?_
                show A _ _ _ _ _ _ _
                refine a_seq ?_
                refine a_block ?_
                refine a_dseq (by kernel_rfl) ?_
                refine dr_put (d := 170) (v := .d (.sl 5 (List.map eIm ((purge l ims c t).1.1)))) rfl (og rfl (op_move rfl rfl rfl)) ?_
                refine dr_put (d := 171) (v := .d (.fl (.int .i64 (a : Int)))) rfl (og rfl (op_move rfl rfl rfl)) ?_
                refine dr_put (d := 172) (v := .el ((eIm ((ix ((purge l ims c t).1.1) a))))) rfl (og rfl (s_index rfl Try.underlying23 ti40 rfl rfl (by omega) (row_at (by omega)) rfl)) ?_
                refine dr_put (d := 173) (v := .el ((List.drop 0 ((eIm ((ix ((purge l ims c t).1.1) a))))))) rfl (og rfl (of_eff (s_field_el rfl Try.underlying40 rfl ti9 rfl rfl rfl) rfl)) ?_
                refine dr_put (d := 174) (v := .d (.fl (.string (((ix ((purge l ims c t).1.1) a)).id)))) rfl (og rfl (op_load_el rfl Try.underlying9 rfl rfl rfl rfl)) ?_
                refine dr_put (d := 175) (v := .d (.sl 5 (List.map eIm ((purge l ims c t).1.1)))) rfl (og rfl (op_move rfl rfl rfl)) ?_
                refine dr_put (d := 176) (v := .d (.fl (.int .i64 (a : Int)))) rfl (og rfl (op_move rfl rfl rfl)) ?_
                refine dr_put (d := 177) (v := .el ((eIm ((ix ((purge l ims c t).1.1) a))))) rfl (og rfl (s_index rfl Try.underlying23 ti40 rfl rfl (by omega) (row_at (by omega)) rfl)) ?_
                refine dr_put (d := 178) (v := .el ((List.drop 0 ((eIm ((ix ((purge l ims c t).1.1) a))))))) rfl (og rfl (of_eff (s_field_el rfl Try.underlying40 rfl ti9 rfl rfl rfl) rfl)) ?_
                refine dr_put (d := 179) (v := .d (.fl (.string (((ix ((purge l ims c t).1.1) a)).id)))) rfl (og rfl (op_load_el rfl Try.underlying9 rfl rfl rfl rfl)) ?_
                refine dr_put (d := 180) (v := .d (.fl (.bool ((!(sEq (((ix ((purge l ims c t).1.1) a)).id) (((ix ((purge l ims c t).1.1) a)).id))))))) rfl (og rfl (op_bin rfl rfl rfl (b_sne _ _ _) rfl)) ?_
                refine dr_done rfl (by kernel_rfl) (by kernel_rfl) ?_
                refine a_condF rfl (not_f (eq_self_s _)) ?_
                refine a_skip ?_
                show A _ _ _ _ _ _ _
                refine a_region ?_
                refine rg_put (d := 168) (v := .d (.fl (.int .i64 (a : Int)))) rfl (og rfl (op_move rfl rfl rfl)) ?_
                refine rg_put (d := 169) (v := .d (.fl (.int .i64 (((a : Int) + 1))))) rfl (og rfl (op_bin rfl rfl rfl (fun x y w => b_add64 _ _ _ x y w (by omega)) rfl)) ?_
                refine rg_put (d := 30) (v := .d (.fl (.int .i64 (((a : Int) + 1))))) rfl (og rfl (op_assign rfl rfl rfl)) ?_
                refine rg_done rfl ?_
                show ∃ i, _ ∧ _ ∧ Imp _ _ _ _ _
                refine ⟨a + 1, (by omega), by omega, imp_forget rfl ⟨rfl, rfl, rfl, rfl, rfl, rfl, rfl, rfl, rfl, rfl, rfl, rfl, rfl, rfl, rfl, rfl, rfl, rfl, rfl, rfl, rfl, rfl, rfl, rfl, rfl, rfl, (by first | rfl | exact ci (by omega) | exact ci (by simp) | exact cd (by simp) | simp), trivial⟩ ⟨rfl, trivial⟩⟩
              · skip
                have h19 := f_dec h17
                refine a_exit ?_
                show A _ _ _ _ _ _ _
                refine a_seq ?_
                refine a_rseq ?_
                refine rg_put (d := 31) (v := .d (.fl (.int .i64 0))) rfl (og rfl (op_assign rfl rfl rfl)) ?_
                refine rg_done rfl ?_
                refine a_block ?_
                refine a_loop (ι := Nat) (fun b => SS [(0, .d (.sl 3 (List.map eKp l))), (1, .d (.sl 5 (List.map eIm ims))), (2, .d (.sl 1 (List.map (rI .i64) c))), (3, .d (.fl (.int .i64 t))), (10, .d (.fl (.int .i64 ((bld V1 ims).2)))), (11, .d (.sl 5 (List.map eIm ((purge l ims c t).1.1)))), (12, .d (.sl 1 (List.map rS ((purge l ims c t).1.2)))), (13, .d (.fl (.int .i64 ((purge l ims c t).2)))), (14, .d (.sl 5 (List.map eIm (fre ims 0)))), (15, .d (.fl (.int .i64 (k : Int)))), (18, .pt 102 0), (19, .d (.fl (.int .i64 (0 : Int)))), (20, .d (.sl 5 (List.map eIm (fre ims 0)))), (21, .d (.sl 1 (List.map rS ([] : List ByteArray)))), (22, .d (.fl (.int .i64 (0 : Int)))), (23, .d (.sl 5 (List.map eIm (fre ims j)))), (24, .d (.fl (.int .i64 (j : Int)))), (27, .d (.sl 5 (List.map eIm ((purge l ims c t).1.1)))), (28, .d (.sl 1 (List.map rS ((purge l ims c t).1.2)))), (29, .d (.fl (.int .i64 ((purge l ims c t).2)))), (30, .d (.fl (.int .i64 (a : Int)))), (39, .d (.fl (.bool ((!(Wk.pic ims)))))), (60, .d (.fl (.bool (((purge l ims c t).2 != 0))))), (66, .d (.fl (.bool ((decide ((k : Int) < (ims.length : Int))))))), (118, .d (.fl (.bool ((((fre ims 0).length : Int) != (ims.length : Int)))))), (123, .d (.fl (.bool ((decide ((j : Int) < (ims.length : Int))))))), (163, .d (.fl (.bool (((((purge l ims c t).1.2).length : Int) != (((purge l ims c t).1.2).length : Int)))))), (167, .d (.fl (.bool ((decide ((a : Int) < (((purge l ims c t).1.1).length : Int))))))), (31, .d (.fl (.int .i64 (b : Int))))] [(102, .bx 29 ((ePk (hpk ims))))]) (fun b => b ≤ (purge l ims c t).1.2.length) (fun b => (purge l ims c t).1.2.length - b) 0 (by omega) (imp_forget rfl ⟨rfl, rfl, rfl, rfl, rfl, rfl, rfl, rfl, rfl, rfl, rfl, rfl, rfl, rfl, rfl, rfl, rfl, rfl, rfl, rfl, rfl, rfl, rfl, rfl, rfl, rfl, rfl, rfl, (by first | rfl | exact ci (by omega) | exact ci (by simp) | exact cd (by simp) | simp), trivial⟩ ⟨rfl, trivial⟩) (fun b hok => ?_)
                have hb := hok
                refine a_seq ?_
                refine a_rseq ?_
                refine rg_put (d := 181) (v := .d (.fl (.int .i64 (b : Int)))) rfl (og rfl (op_move rfl rfl rfl)) ?_
                refine rg_put (d := 182) (v := .d (.sl 1 (List.map rS ((purge l ims c t).1.2)))) rfl (og rfl (op_move rfl rfl rfl)) ?_
                refine rg_put (d := 183) (v := .d (.fl (.int .i64 ((((purge l ims c t).1.2).length : Int))))) rfl (og rfl (s_len rfl Try.underlying33 rfl rfl)) ?_
                refine rg_put (d := 184) (v := .d (.fl (.bool ((decide ((b : Int) < (((purge l ims c t).1.2).length : Int))))))) rfl (og rfl (op_bin rfl rfl rfl (b_lss _ _ _ _) rfl)) ?_
                refine rg_done rfl ?_
                refine a_cond rfl (fun h20 => ?_) (fun h20 => ?_)
                · skip
                  have h21 := t_dec h20
                  refine a_skip ?_
                  show A _ _ _ _ _ _ _
                  refine a_seq ?_
                  refine a_block ?_
                  refine a_dseq (by kernel_rfl) ?_
                  refine dr_put (d := 187) (v := .d (.sl 1 (List.map rS ((purge l ims c t).1.2)))) rfl (og rfl (op_move rfl rfl rfl)) ?_
                  refine dr_put (d := 188) (v := .d (.fl (.int .i64 (b : Int)))) rfl (og rfl (op_move rfl rfl rfl)) ?_
                  refine dr_put (d := 189) (v := .el ((rS ((ix ((purge l ims c t).1.2) b))))) rfl (og rfl (s_index rfl Try.underlying33 ti9 rfl rfl (by omega) (row_at (by omega)) rfl)) ?_
                  refine dr_put (d := 190) (v := .d (.fl (.string ((ix ((purge l ims c t).1.2) b))))) rfl (og rfl (op_load_el rfl Try.underlying9 rfl rfl rfl rfl)) ?_
                  refine dr_put (d := 191) (v := .d (.sl 1 (List.map rS ((purge l ims c t).1.2)))) rfl (og rfl (op_move rfl rfl rfl)) ?_
                  refine dr_put (d := 192) (v := .d (.fl (.int .i64 (b : Int)))) rfl (og rfl (op_move rfl rfl rfl)) ?_
                  refine dr_put (d := 193) (v := .el ((rS ((ix ((purge l ims c t).1.2) b))))) rfl (og rfl (s_index rfl Try.underlying33 ti9 rfl rfl (by omega) (row_at (by omega)) rfl)) ?_
                  refine dr_put (d := 194) (v := .d (.fl (.string ((ix ((purge l ims c t).1.2) b))))) rfl (og rfl (op_load_el rfl Try.underlying9 rfl rfl rfl rfl)) ?_
                  refine dr_put (d := 195) (v := .d (.fl (.bool ((!(sEq ((ix ((purge l ims c t).1.2) b)) ((ix ((purge l ims c t).1.2) b)))))))) rfl (og rfl (op_bin rfl rfl rfl (b_sne _ _ _) rfl)) ?_
                  refine dr_done rfl (by kernel_rfl) (by kernel_rfl) ?_
                  refine a_condF rfl (not_f (eq_self_s _)) ?_
                  refine a_skip ?_
                  show A _ _ _ _ _ _ _
                  refine a_region ?_
                  refine rg_put (d := 185) (v := .d (.fl (.int .i64 (b : Int)))) rfl (og rfl (op_move rfl rfl rfl)) ?_
                  refine rg_put (d := 186) (v := .d (.fl (.int .i64 (((b : Int) + 1))))) rfl (og rfl (op_bin rfl rfl rfl (fun x y w => b_add64 _ _ _ x y w (by omega)) rfl)) ?_
                  refine rg_put (d := 31) (v := .d (.fl (.int .i64 (((b : Int) + 1))))) rfl (og rfl (op_assign rfl rfl rfl)) ?_
                  refine rg_done rfl ?_
                  show ∃ i, _ ∧ _ ∧ Imp _ _ _ _ _
                  refine ⟨b + 1, (by omega), by omega, imp_forget rfl ⟨rfl, rfl, rfl, rfl, rfl, rfl, rfl, rfl, rfl, rfl, rfl, rfl, rfl, rfl, rfl, rfl, rfl, rfl, rfl, rfl, rfl, rfl, rfl, rfl, rfl, rfl, rfl, rfl, (by first | rfl | exact ci (by omega) | exact ci (by simp) | exact cd (by simp) | simp), trivial⟩ ⟨rfl, trivial⟩⟩
                · skip
                  have h22 := f_dec h20
                  refine a_exit ?_
                  show A _ _ _ _ _ _ _
                  refine a_rseq ?_
                  refine rg_put (d := 196) (v := .d (.fl (.bool true))) rfl (og rfl (op_call rfl Try.func5 nm5 rfl .nil awake5 rfl)) ?_
                  refine rg_put (d := 8) (v := .d (.fl (.bool true))) rfl (og rfl (op_assign rfl rfl rfl)) ?_
                  refine rg_done rfl ?_
                  refine a_ret ?_
                  show ∃ ds, ResL _ _ _ ds ∧ RV.of ds = _
                  refine ⟨[.fl (.bool true)], (.cons (.tmp rfl (.d _)) .nil), ?_⟩
                  rfl
      · skip
        have h23 := t_bne h6
        refine rg_put (d := 58) (v := .d (.fl undef)) rfl (on rfl rfl rfl h6) ?_
        refine rg_put (d := 59) (v := .d (.fl undef)) rfl (on rfl rfl rfl h6) ?_
        refine rg_put (d := 60) (v := .d (.fl (.bool true))) rfl (og rfl (op_pick rfl rfl (by rw [h6]; rfl) rfl)) ?_
        refine rg_done rfl ?_
        refine a_condK rfl rfl ?_
        refine a_rseq ?_
        refine rg_put (d := 61) (v := .d (.fl (.bool true))) rfl (og rfl (op_call rfl Try.func5 nm5 rfl .nil awake5 rfl)) ?_
        refine rg_put (d := 8) (v := .d (.fl (.bool true))) rfl (og rfl (op_assign rfl rfl rfl)) ?_
        refine rg_done rfl ?_
        refine a_ret ?_
        show ∃ ds, ResL _ _ _ ds ∧ RV.of ds = _
        refine ⟨[.fl (.bool true)], (.cons (.tmp rfl (.d _)) .nil), ?_⟩
        rfl
  · skip
    have h24 := t_dec h1
    refine rg_put (d := 36) (v := .d (.fl undef)) rfl (on rfl rfl rfl h1) ?_
    refine rg_put (d := 37) (v := .d (.fl undef)) rfl (on rfl rfl rfl h1) ?_
    refine rg_put (d := 38) (v := .d (.fl undef)) rfl (on rfl rfl rfl h1) ?_
    refine rg_put (d := 39) (v := .d (.fl (.bool true))) rfl (og rfl (op_pick rfl rfl (by rw [h1]; rfl) rfl)) ?_
    refine rg_done rfl ?_
    refine a_condK rfl rfl ?_
    refine a_rseq ?_
    refine rg_put (d := 40) (v := .d (.fl (.bool true))) rfl (og rfl (op_call rfl Try.func5 nm5 rfl .nil awake5 rfl)) ?_
    refine rg_put (d := 8) (v := .d (.fl (.bool true))) rfl (og rfl (op_assign rfl rfl rfl)) ?_
    refine rg_done rfl ?_
    refine a_ret ?_
    show ∃ ds, ResL _ _ _ ds ∧ RV.of ds = _
    refine ⟨[.fl (.bool true)], (.cons (.tmp rfl (.d _)) .nil), ?_⟩
    rfl
end Go.Proofs.Ytaecdkhpidligaa.Wk
