/- The law of revealing. Condition: the arguments read as data. -/
import Derived.Test.YtfkipmdaffhkbaaC3
set_option linter.unusedSimpArgs false
set_option linter.unusedVariables false
namespace Go.Proofs.Ytfkipmdaffhkbaa.Wk
open Go Go.RowKit Go.Proofs.Ytfkipmdaffhkbaa.Av
theorem firstK {id : ByteArray} {l : List Im} {k : Nat} {im : Im} (hk : k < l.length) (hl : l.length ≤ 20) (hO : ∀ x ∈ l, Okd x) (hd : imEq (ix l k) im = false) : Ctr Try.prog 23 [.ag (ePk (pkF id l)), .ag (ePk (Pk.mk id (oth l k im) (fits id l)))] (.d (.fl (.int .i64 (k : Int)))) := by
  have := first23 (pkF id l) (Pk.mk id (oth l k im) (fits id l)) (by show l.length ≤ 2000; omega) (by show (oth l k im).length ≤ 2000; rw [oth_len hk]; omega) (fun im hi => by have := (hO im hi).l; omega)
  rw [show fstD (pkF id l).images (Pk.mk id (oth l k im) (fits id l)).images = (k : Int) from fst_oth hk hd] at this
  exact this
set_option maxHeartbeats 4000000 in
set_option maxRecDepth 100000 in
theorem law8 (id : ByteArray) (l : List Im) (im : Im) (hW : l.length ≤ 9223372036854775807 ∧ ∀ x ∈ l, okIm x) (hV : okIm im) : Ctr Try.prog 8 [.fl (.string id), .sl 5 (List.map eIm l), .ag (eIm im)] (.d (.fl (.bool true))) := by
  refine ctr (n := 141) (rs := #[.tmp 6]) (L := [(0, .d (.fl (.string id))), (1, .d (.sl 5 (List.map eIm l))), (2, .d (.ag (eIm im)))]) Try.func8 rfl rfl rfl rfl rfl (fun w0 U0 => ?_)
  refine a_rseq ?_
  refine rg_nam (d := 5) (v := .pt 101 0) (m := 101) (nw := [(101, .bx 25 (eIm im))]) rfl (og rfl (of_eff (op_box 101 rfl rfl rfl rfl) rfl)) rfl ?_
  refine rg_put (d := 6) (v := .d (.fl (.bool false))) rfl (og rfl (op_assign rfl rfl rfl)) ?_
  refine rg_done rfl ?_
  refine a_seq ?_
  refine a_rseq ?_
  refine rg_put (d := 14) (v := .d (.sl 5 (List.map eIm l))) rfl (og rfl (op_move rfl rfl rfl)) ?_
  refine rg_put (d := 15) (v := .d (.fl (.bool (fewB l)))) rfl (og rfl (op_call rfl Try.func14 nm14 rfl (.cons rfl (.d _) .nil) (few14 l hW.1 (fun x hx => (hW.2 x hx).2.2.2.1.1)) rfl)) ?_
  refine rg_put (d := 16) (v := .d (.fl (.bool ((!(fewB l)))))) rfl (og rfl (op_un rfl rfl (u_not _) rfl)) ?_
  refine rg_put (d := 17) (v := .d (.fl (.bool ((!(fewB l)))))) rfl (og rfl (op_move rfl rfl rfl)) ?_
  rcases fot ((!(fewB l))) with h1 | h1
  · skip
    have h2 := f_not h1
    refine rg_put (d := 18) (v := .d (.fl (.string id))) rfl (oy rfl rfl rfl h1 (op_move rfl rfl rfl)) ?_
    refine rg_put (d := 19) (v := .d (.fl (.int .i64 (id.size : Int)))) rfl (oy rfl rfl rfl h1 (op_len_str rfl Try.underlying9 rfl rfl)) ?_
    refine rg_put (d := 20) (v := .d (.fl (.bool ((decide (600 < (id.size : Int))))))) rfl (oy rfl rfl rfl h1 (op_bin rfl rfl rfl (b_gtr _ _ _ _) rfl)) ?_
    refine rg_put (d := 21) (v := .d (.fl (.bool ((decide (600 < (id.size : Int))))))) rfl (og rfl (op_pick rfl rfl (by rw [h1]; rfl) rfl)) ?_
    refine rg_put (d := 22) (v := .d (.fl (.bool ((decide (600 < (id.size : Int))))))) rfl (og rfl (op_move rfl rfl rfl)) ?_
    rcases fot ((decide (600 < (id.size : Int)))) with h3 | h3
    · skip
      have h4 := f_dec h3
      refine rg_put (d := 23) (v := .d (.ag (eIm im))) rfl (oy rfl rfl rfl h3 (of_eff (s_load_pts rfl Try.underlying25 rfl ti25 rfl rfl rfl rfl) rfl)) ?_
      refine rg_put (d := 24) (v := .d (.fl (.bool (oneB im)))) rfl (oy rfl rfl rfl h3 (op_call rfl Try.func10 nm10 rfl (.cons rfl (.d _) .nil) (one10 im hV.2.2.2.1.1) rfl)) ?_
      refine rg_put (d := 25) (v := .d (.fl (.bool ((!(oneB im)))))) rfl (oy rfl rfl rfl h3 (op_un rfl rfl (u_not _) rfl)) ?_
      refine rg_put (d := 26) (v := .d (.fl (.bool ((!(oneB im)))))) rfl (og rfl (op_pick rfl rfl (by rw [h3]; rfl) rfl)) ?_
      refine rg_put (d := 27) (v := .d (.fl (.bool ((!(oneB im)))))) rfl (og rfl (op_move rfl rfl rfl)) ?_
      rcases fot ((!(oneB im))) with h5 | h5
      · skip
        have h6 := f_not h5
        refine rg_put (d := 28) (v := .d (.sl 5 (List.map eIm l))) rfl (oy rfl rfl rfl h5 (op_move rfl rfl rfl)) ?_
        refine rg_put (d := 29) (v := .d (.fl (.int .i64 (l.length : Int)))) rfl (oy rfl rfl rfl h5 (s_len rfl Try.underlying29 rfl rfl)) ?_
        refine rg_put (d := 30) (v := .d (.fl (.bool (((l.length : Int) == 0))))) rfl (oy rfl rfl rfl h5 (op_bin rfl rfl rfl (b_eql _ _ _ _) rfl)) ?_
        refine rg_put (d := 31) (v := .d (.fl (.bool (((l.length : Int) == 0))))) rfl (og rfl (op_pick rfl rfl (by rw [h5]; rfl) rfl)) ?_
        refine rg_done rfl ?_
        refine a_cond rfl (fun h7 => ?_) (fun h7 => ?_)
        · skip
          have h8 := t_beq h7
          refine a_rseq ?_
          refine rg_put (d := 32) (v := .d (.fl (.bool true))) rfl (og rfl (op_call rfl Try.func11 nm11 rfl .nil awake11 rfl)) ?_
          refine rg_put (d := 6) (v := .d (.fl (.bool true))) rfl (og rfl (op_assign rfl rfl rfl)) ?_
          refine rg_done rfl ?_
          refine a_ret ?_
          show ∃ ds, ResL _ _ _ ds ∧ RV.of ds = _
          refine ⟨[.fl (.bool true)], (.cons (.tmp rfl (.d _)) .nil), ?_⟩
          rfl
        · skip
          have h9 := f_beq h7
          refine a_skip ?_
          show A _ _ _ _ _ _ _
          refine a_rseq ?_
          obtain ⟨hO, hl20⟩ := okd_few hW.2 h2
          have hI := okd_one hV h6
          refine rg_put (d := 34) (v := .d (.fl (.string id))) rfl (og rfl (op_move rfl rfl rfl)) ?_
          refine rg_put (d := 35) (v := .d (.sl 5 (List.map eIm l))) rfl (og rfl (op_move rfl rfl rfl)) ?_
          refine rg_put (d := 36) (v := .tu [.ag (ePk ((bld id l).1)), .fl (.int .i64 ((bld id l).2))]) rfl (og rfl (op_call rfl Try.func15 nm15 rfl (.cons rfl (.d _) (.cons rfl (.d _) .nil)) (build15 id l (by omega) (by omega) hO) rfl)) ?_
          refine rg_put (d := 33) (v := .tu [.ag (ePk ((bld id l).1)), .fl (.int .i64 ((bld id l).2))]) rfl (og rfl (op_move rfl rfl rfl)) ?_
          refine rg_put (d := 37) (v := .d (.ag (ePk ((bld id l).1)))) rfl (og rfl (op_extract rfl rfl rfl rfl)) ?_
          refine rg_put (d := 38) (v := .d (.fl (.int .i64 ((bld id l).2)))) rfl (og rfl (op_extract rfl rfl rfl rfl)) ?_
          refine rg_nam (d := 7) (v := .pt 102 0) (m := 102) (nw := [(102, .bx 33 ([.fl (.string (⟨#[]⟩)), .fl (.slice none 0 0), .fl (.slice none 0 0)]))]) rfl (og rfl (of_eff (s_alloc 102 rfl ti33 (by kernel_rfl) rfl) rfl)) rfl ?_
          refine rg_sto (nw := [(102, .bx 33 ((ePk ((bld id l).1))))]) rfl (og rfl (of_eff (s_store rfl rfl ti33 rfl rfl rfl rfl rfl rfl) rfl)) ?_
          refine rg_put (d := 8) (v := .d (.fl (.int .i64 ((bld id l).2)))) rfl (og rfl (op_assign rfl rfl rfl)) ?_
          refine rg_done rfl ?_
          refine a_seq ?_
          refine a_rseq ?_
          refine rg_put (d := 39) (v := .d (.fl (.int .i64 ((bld id l).2)))) rfl (og rfl (op_move rfl rfl rfl)) ?_
          refine rg_put (d := 40) (v := .d (.fl (.bool (((bld id l).2 != 0))))) rfl (og rfl (op_bin rfl rfl rfl (b_neq _ _ _ _) rfl)) ?_
          refine rg_put (d := 41) (v := .d (.fl (.bool (((bld id l).2 != 0))))) rfl (og rfl (op_move rfl rfl rfl)) ?_
          rcases fot (((bld id l).2 != 0)) with h10 | h10
          · skip
            have h11 := f_bne h10
            refine rg_put (d := 42) (v := .pt 102 1) rfl (oy rfl rfl rfl h10 (of_eff (s_field_pt rfl Try.underlying33 rfl ti29 rfl rfl rfl) rfl)) ?_
            refine rg_put (d := 43) (v := .d (.sl 5 (List.map eIm (((bld id l).1).images)))) rfl (oy rfl rfl rfl h10 (op_load_pt rfl Try.underlying29 rfl rfl rfl rfl rfl)) ?_
            refine rg_put (d := 44) (v := .d (.fl (.int .i64 (((((bld id l).1).images).length : Int))))) rfl (oy rfl rfl rfl h10 (s_len rfl Try.underlying29 rfl rfl)) ?_
            refine rg_put (d := 45) (v := .d (.sl 5 (List.map eIm l))) rfl (oy rfl rfl rfl h10 (op_move rfl rfl rfl)) ?_
            refine rg_put (d := 46) (v := .d (.fl (.int .i64 (l.length : Int)))) rfl (oy rfl rfl rfl h10 (s_len rfl Try.underlying29 rfl rfl)) ?_
            refine rg_put (d := 47) (v := .d (.fl (.bool ((((((bld id l).1).images).length : Int) != (l.length : Int)))))) rfl (oy rfl rfl rfl h10 (op_bin rfl rfl rfl (b_neq _ _ _ _) rfl)) ?_
            refine rg_put (d := 48) (v := .d (.fl (.bool ((((((bld id l).1).images).length : Int) != (l.length : Int)))))) rfl (og rfl (op_pick rfl rfl (by rw [h10]; rfl) rfl)) ?_
            refine rg_put (d := 49) (v := .d (.fl (.bool ((((((bld id l).1).images).length : Int) != (l.length : Int)))))) rfl (og rfl (op_move rfl rfl rfl)) ?_
            refine rg_put (d := 50) (v := .pt 102 2) rfl (oy rfl rfl rfl (show (((((bld id l).1).images).length : Int) != (l.length : Int)) = false by rw [bld_zero (f_bne h10)]; exact ne_self_b _) (of_eff (s_field_pt rfl Try.underlying33 rfl ti31 rfl rfl rfl) rfl)) ?_
            refine rg_put (d := 51) (v := .d (.sl 1 (List.map (rI .u64) (((bld id l).1).chain)))) rfl (oy rfl rfl rfl (show (((((bld id l).1).images).length : Int) != (l.length : Int)) = false by rw [bld_zero (f_bne h10)]; exact ne_self_b _) (op_load_pt rfl Try.underlying31 rfl rfl rfl rfl rfl)) ?_
            refine rg_put (d := 52) (v := .d (.fl (.int .i64 (((((bld id l).1).chain).length : Int))))) rfl (oy rfl rfl rfl (show (((((bld id l).1).images).length : Int) != (l.length : Int)) = false by rw [bld_zero (f_bne h10)]; exact ne_self_b _) (s_len rfl Try.underlying31 rfl rfl)) ?_
            refine rg_put (d := 53) (v := .d (.sl 5 (List.map eIm l))) rfl (oy rfl rfl rfl (show (((((bld id l).1).images).length : Int) != (l.length : Int)) = false by rw [bld_zero (f_bne h10)]; exact ne_self_b _) (op_move rfl rfl rfl)) ?_
            refine rg_put (d := 54) (v := .d (.fl (.int .i64 (l.length : Int)))) rfl (oy rfl rfl rfl (show (((((bld id l).1).images).length : Int) != (l.length : Int)) = false by rw [bld_zero (f_bne h10)]; exact ne_self_b _) (s_len rfl Try.underlying29 rfl rfl)) ?_
            refine rg_put (d := 55) (v := .d (.fl (.bool ((((((bld id l).1).chain).length : Int) != (l.length : Int)))))) rfl (oy rfl rfl rfl (show (((((bld id l).1).images).length : Int) != (l.length : Int)) = false by rw [bld_zero (f_bne h10)]; exact ne_self_b _) (op_bin rfl rfl rfl (b_neq _ _ _ _) rfl)) ?_
            refine rg_put (d := 56) (v := .d (.fl (.bool ((((((bld id l).1).chain).length : Int) != (l.length : Int)))))) rfl (og rfl (op_pick rfl rfl (by rw [(show (((((bld id l).1).images).length : Int) != (l.length : Int)) = false by rw [bld_zero (f_bne h10)]; exact ne_self_b _)]; rfl) rfl)) ?_
            refine rg_done rfl ?_
            refine a_condF rfl (show (((((bld id l).1).chain).length : Int) != (l.length : Int)) = false by rw [bld_zero (f_bne h10)]; show ((((fits id l).length : Nat) : Int) != ((l.length : Nat) : Int)) = false; rw [fits_len]; exact ne_self_b _) ?_
            refine a_skip ?_
            show A _ _ _ _ _ _ _
            refine a_seq ?_
            refine a_rseq ?_
            have hA : bld id l = (pkF id l, 0) := bld_zero (f_bne h10)
            rw [hA]
            have hn1 : (pkF id l).chain.length = l.length := fits_len _ _
            refine rg_put (d := 9) (v := .d (.fl (.int .i64 0))) rfl (og rfl (op_assign rfl rfl rfl)) ?_
            refine rg_done rfl ?_
            refine a_block ?_
            refine a_loop (ι := Nat) (fun k => SS [(0, .d (.fl (.string id))), (1, .d (.sl 5 (List.map eIm l))), (2, .d (.ag (eIm im))), (5, .pt 101 0), (7, .pt 102 0), (8, .d (.fl (.int .i64 0))), (31, .d (.fl (.bool (((l.length : Int) == 0))))), (56, .d (.fl (.bool ((((((pkF id l)).chain).length : Int) != (l.length : Int)))))), (9, .d (.fl (.int .i64 (k : Int))))] [(101, .bx 25 (eIm im)), (102, .bx 33 ((ePk ((pkF id l)))))]) (fun k => k ≤ l.length) (fun k => l.length - k) 0 (by omega) (imp_forget rfl ⟨rfl, rfl, rfl, rfl, rfl, rfl, rfl, rfl, (by first | rfl | exact ci (by omega) | exact ci (by simp) | exact cd (by simp) | simp), trivial⟩ ⟨rfl, rfl, trivial⟩) (fun k hok => ?_)
            have hk := hok
            refine a_seq ?_
            refine a_rseq ?_
            refine rg_put (d := 62) (v := .d (.fl (.int .i64 (k : Int)))) rfl (og rfl (op_move rfl rfl rfl)) ?_
            refine rg_put (d := 63) (v := .d (.sl 5 (List.map eIm l))) rfl (og rfl (op_move rfl rfl rfl)) ?_
            refine rg_put (d := 64) (v := .d (.fl (.int .i64 (l.length : Int)))) rfl (og rfl (s_len rfl Try.underlying29 rfl rfl)) ?_
            refine rg_put (d := 65) (v := .d (.fl (.bool ((decide ((k : Int) < (l.length : Int))))))) rfl (og rfl (op_bin rfl rfl rfl (b_lss _ _ _ _) rfl)) ?_
            refine rg_done rfl ?_
            refine a_cond rfl (fun h12 => ?_) (fun h12 => ?_)
            · skip
              have h13 := t_dec h12
              refine a_skip ?_
              show A _ _ _ _ _ _ _
              refine a_seq ?_
              refine a_block ?_
              refine a_seq ?_
              refine a_dseq (by kernel_rfl) ?_
              refine dr_put (d := 68) (v := .d (.sl 5 (List.map eIm l))) rfl (og rfl (op_move rfl rfl rfl)) ?_
              refine dr_put (d := 69) (v := .d (.fl (.int .i64 (k : Int)))) rfl (og rfl (op_move rfl rfl rfl)) ?_
              refine dr_put (d := 70) (v := .el ((eIm (ix l k)))) rfl (og rfl (s_index rfl Try.underlying29 ti25 rfl rfl (by omega) (row_at (by omega)) rfl)) ?_
              refine dr_put (d := 71) (v := .d (.ag (eIm (ix l k)))) rfl (og rfl (of_eff (s_load_els rfl Try.underlying25 rfl ti25 rfl rfl rfl) rfl)) ?_
              refine dr_put (d := 72) (v := .d (.ag (eIm im))) rfl (og rfl (of_eff (s_load_pts rfl Try.underlying25 rfl ti25 rfl rfl rfl rfl) rfl)) ?_
              refine dr_put (d := 73) (v := .d (.fl (.bool ((imEq (ix l k) im))))) rfl (og rfl (op_call rfl Try.func24 nm24 rfl (.cons rfl (.d _) (.cons rfl (.d _) .nil)) (same24 (ix l k) im (by have := (hO _ (ix_mem (l := l) (k := k) (by omega))).l; omega)) rfl)) ?_
              refine dr_done rfl (by kernel_rfl) (by kernel_rfl) ?_
              refine a_cond rfl (fun h14 => ?_) (fun h14 => ?_)
              · skip
                refine a_exit ?_
                show A _ _ _ _ _ _ _
                refine a_region ?_
                refine rg_put (d := 66) (v := .d (.fl (.int .i64 (k : Int)))) rfl (og rfl (op_move rfl rfl rfl)) ?_
                refine rg_put (d := 67) (v := .d (.fl (.int .i64 (((k : Int) + 1))))) rfl (og rfl (op_bin rfl rfl rfl (fun x y w => b_add64 _ _ _ x y w (by omega)) rfl)) ?_
                refine rg_put (d := 9) (v := .d (.fl (.int .i64 (((k : Int) + 1))))) rfl (og rfl (op_assign rfl rfl rfl)) ?_
                refine rg_done rfl ?_
                show ∃ i, _ ∧ _ ∧ Imp _ _ _ _ _
                refine ⟨k + 1, (by omega), by omega, imp_forget rfl ⟨rfl, rfl, rfl, rfl, rfl, rfl, rfl, rfl, (by first | rfl | exact ci (by omega) | exact ci (by simp) | exact cd (by simp) | simp), trivial⟩ ⟨rfl, rfl, trivial⟩⟩
              · skip
                refine a_skip ?_
                show A _ _ _ _ _ _ _
                refine a_rseq ?_
                refine rg_put (d := 10) (v := .d (.fl (.slice none 0 0))) rfl (og rfl (op_assign rfl rfl rfl)) ?_
                refine rg_done rfl ?_
                refine a_rseq ?_
                refine rg_put (d := 74) (v := .d (.fl (.slice none 0 0))) rfl (og rfl (op_move rfl rfl rfl)) ?_
                refine rg_put (d := 75) (v := .d (.sl 5 (List.map eIm l))) rfl (og rfl (op_move rfl rfl rfl)) ?_
                refine rg_put (d := 76) (v := .d (.fl (.int .i64 (k : Int)))) rfl (og rfl (op_move rfl rfl rfl)) ?_
                refine rg_put (d := 77) (v := .d (.sl 5 (List.map eIm (((l.drop 0).take (k - 0)))))) rfl (og rfl (s_slice rfl Try.underlying29 ti25 rfl (.no _) (.so (n := k) _ rfl (by omega)) (by omega) (by omega) rfl)) ?_
                refine rg_nam (d := 78) (v := .ow 103) (m := 103) (nw := [(103, .tr 25 5 (tD eIm (((l.drop 0).take (k - 0)))))]) rfl (og rfl (of_eff (s_append_nilT 103 rfl Try.underlying29 ti25 rfl rfl rfl rfl (.d _) (by simp only [List.length_append, List.length_take, List.length_drop, List.length_cons, List.length_nil]; omega) rfl) rfl)) rfl ?_
                refine rg_put (d := 10) (v := .ow 103) rfl (og rfl (op_assign rfl rfl rfl)) ?_
                refine rg_done rfl ?_
                refine a_rseq ?_
                refine rg_put (d := 79) (v := .ow 103) rfl (og rfl (op_move rfl rfl rfl)) ?_
                refine rg_put (d := 80) (v := .d (.ag (eIm im))) rfl (og rfl (of_eff (s_load_pts rfl Try.underlying25 rfl ti25 rfl rfl rfl rfl) rfl)) ?_
                refine rg_put (d := 81) (v := .d (.sl 5 (List.map eIm [im]))) rfl (og rfl (of_eff (op_slices rfl Try.underlying29 ti25 rfl rfl rfl (by kernel_rfl) (xs := [.ag (eIm im)]) rfl rfl (.cons rfl rfl (.d _) rfl rfl rfl .nil) rfl) rfl)) ?_
                refine rg_nam (d := 82) (v := .ow 104) (m := 104) (nw := [(104, .tr 25 5 (tD eIm ((((l.drop 0).take (k - 0)) ++ [im])))), (103, .no)]) rfl (og rfl (of_eff (s_append_td 104 rfl Try.underlying29 ti25 rfl rfl rfl rfl rfl (.d _) (by simp only [List.length_append, List.length_take, List.length_drop, List.length_cons, List.length_nil]; omega) rfl) rfl)) rfl ?_
                refine rg_put (d := 10) (v := .ow 104) rfl (og rfl (op_assign rfl rfl rfl)) ?_
                refine rg_done rfl ?_
                refine a_rseq ?_
                refine rg_put (d := 83) (v := .ow 104) rfl (og rfl (op_move rfl rfl rfl)) ?_
                refine rg_put (d := 84) (v := .d (.sl 5 (List.map eIm l))) rfl (og rfl (op_move rfl rfl rfl)) ?_
                refine rg_put (d := 85) (v := .d (.fl (.int .i64 (k : Int)))) rfl (og rfl (op_move rfl rfl rfl)) ?_
                refine rg_put (d := 86) (v := .d (.fl (.int .i64 (((k : Int) + 1))))) rfl (og rfl (op_bin rfl rfl rfl (fun x y w => b_add64 _ _ _ x y w (by omega)) rfl)) ?_
                refine rg_put (d := 87) (v := .d (.sl 5 (List.map eIm (((l.drop ((((k : Int) + 1)).toNat)).take (l.length - ((((k : Int) + 1)).toNat))))))) rfl (og rfl (s_slice rfl Try.underlying29 ti25 rfl (.so (n := (((k : Int) + 1)).toNat) _ rfl (by omega)) (.no _) (by omega) (by omega) rfl)) ?_
                refine rg_nam (d := 88) (v := .ow 105) (m := 105) (nw := [(105, .tr 25 5 (tD eIm (((((l.drop 0).take (k - 0)) ++ [im]) ++ ((l.drop ((((k : Int) + 1)).toNat)).take (l.length - ((((k : Int) + 1)).toNat))))))), (104, .no)]) rfl (og rfl (of_eff (s_append_td 105 rfl Try.underlying29 ti25 rfl rfl rfl rfl rfl (.d _) (by simp only [List.length_append, List.length_take, List.length_drop, List.length_cons, List.length_nil]; omega) rfl) rfl)) rfl ?_
                refine rg_put (d := 10) (v := .ow 105) rfl (og rfl (op_assign rfl rfl rfl)) ?_
                refine rg_done rfl ?_
                rw [show ((((l.drop 0).take (k - 0)) ++ [im]) ++ ((l.drop ((((k : Int) + 1)).toNat)).take (l.length - ((((k : Int) + 1)).toNat)))) = (oth l k im) from oth_eq (by omega)]
                refine a_imp (imp_leakT 10 105 rfl rfl) ?_
                refine a_rseq ?_
                refine rg_put (d := 89) (v := .d (.fl (.string id))) rfl (og rfl (op_move rfl rfl rfl)) ?_
                refine rg_put (d := 90) (v := .d (.sl 5 (List.map eIm (oth l k im)))) rfl (og rfl (op_move rfl rfl rfl)) ?_
                refine rg_put (d := 91) (v := .pt 102 2) rfl (og rfl (of_eff (s_field_pt rfl Try.underlying33 rfl ti31 rfl rfl rfl) rfl)) ?_
                refine rg_put (d := 92) (v := .d (.sl 1 (List.map (rI .u64) (((pkF id l)).chain)))) rfl (og rfl (op_load_pt rfl Try.underlying31 rfl rfl rfl rfl rfl)) ?_
                refine rg_put (d := 93) (v := .d (.ag (ePk ((Pk.mk id (oth l k im) (((pkF id l)).chain)))))) rfl (og rfl (of_eff (op_build rfl Try.underlying33 ti33 rfl (by kernel_rfl) (by kernel_rfl) (pl := #[(0, 1), (1, 1), (2, 1)]) (by kernel_rfl) (.cons rfl rfl (.d _) rfl rfl rfl (.cons rfl rfl (.d _) rfl rfl rfl (.cons rfl rfl (.d _) rfl rfl rfl .nil))) rfl) rfl)) ?_
                refine rg_nam (d := 11) (v := .pt 106 0) (m := 106) (nw := [(106, .bx 33 ([.fl (.string (⟨#[]⟩)), .fl (.slice none 0 0), .fl (.slice none 0 0)]))]) rfl (og rfl (of_eff (s_alloc 106 rfl ti33 (by kernel_rfl) rfl) rfl)) rfl ?_
                refine rg_sto (nw := [(106, .bx 33 ((ePk ((Pk.mk id (oth l k im) (((pkF id l)).chain))))))]) rfl (og rfl (of_eff (s_store rfl rfl ti33 rfl rfl rfl rfl rfl rfl) rfl)) ?_
                refine rg_done rfl ?_
                refine a_rseq ?_
                refine rg_put (d := 94) (v := .d (.fl (.string id))) rfl (og rfl (op_move rfl rfl rfl)) ?_
                refine rg_put (d := 95) (v := .d (.sl 1 (List.map (rI .u8) (bys id)))) rfl (og rfl (op_bytesOf rfl Try.underlying9 Try.underlying48 Try.underlying5 rfl (by omega) rfl)) ?_
                refine rg_put (d := 96) (v := .d (.fl (.int .u64 ((hsh (bys id)))))) rfl (og rfl (op_call rfl Try.func25 nm25 rfl (.cons rfl (.d _) .nil) (ref_hash (bys id) (by rw [bys_len]; omega)) rfl)) ?_
                refine rg_put (d := 12) (v := .d (.fl (.int .u64 ((hsh (bys id)))))) rfl (og rfl (op_assign rfl rfl rfl)) ?_
                refine rg_done rfl ?_
                refine a_seq ?_
                refine a_rseq ?_
                refine rg_put (d := 97) (v := .d (.fl (.int .i64 (k : Int)))) rfl (og rfl (op_move rfl rfl rfl)) ?_
                refine rg_put (d := 98) (v := .d (.fl (.bool ((decide (0 < (k : Int))))))) rfl (og rfl (op_bin rfl rfl rfl (b_gtr _ _ _ _) rfl)) ?_
                refine rg_done rfl ?_
                refine a_cond rfl (fun h15 => ?_) (fun h15 => ?_)
                · skip
                  have h16 := t_dec h15
                  refine a_region ?_
                  refine rg_put (d := 99) (v := .pt 102 2) rfl (og rfl (of_eff (s_field_pt rfl Try.underlying33 rfl ti31 rfl rfl rfl) rfl)) ?_
                  refine rg_put (d := 100) (v := .d (.sl 1 (List.map (rI .u64) (((pkF id l)).chain)))) rfl (og rfl (op_load_pt rfl Try.underlying31 rfl rfl rfl rfl rfl)) ?_
                  refine rg_put (d := 101) (v := .d (.fl (.int .i64 (k : Int)))) rfl (og rfl (op_move rfl rfl rfl)) ?_
                  refine rg_put (d := 102) (v := .d (.fl (.int .i64 (((k : Int) - 1))))) rfl (og rfl (op_bin rfl rfl rfl (fun x y w => b_sub64 _ _ _ x y w (by omega)) rfl)) ?_
                  refine rg_put (d := 103) (v := .el ((rI .u64 ((ix (((pkF id l)).chain) (((k : Int) - 1)).toNat))))) rfl (og rfl (s_index rfl Try.underlying31 ti23 rfl rfl (by omega) (row_atI (by omega) (by omega)) rfl)) ?_
                  refine rg_put (d := 104) (v := .d (.fl (.int .u64 ((ix (((pkF id l)).chain) (((k : Int) - 1)).toNat))))) rfl (og rfl (op_load_el rfl Try.underlying23 rfl rfl rfl rfl)) ?_
                  refine rg_put (d := 12) (v := .d (.fl (.int .u64 ((ix (((pkF id l)).chain) (((k : Int) - 1)).toNat))))) rfl (og rfl (op_assign rfl rfl rfl)) ?_
                  refine rg_done rfl ?_
                  show A _ _ _ _ _ _ _
                  rw [show (ix (((pkF id l)).chain) (((k : Int) - 1)).toNat) = (lastK id l k) from lastK_pos (by omega) (by omega)]
                  refine a_dseq (by kernel_rfl) ?_
                  refine dr_put (d := 105) (v := .d (.ag (eIm im))) rfl (og rfl (of_eff (s_load_pts rfl Try.underlying25 rfl ti25 rfl rfl rfl rfl) rfl)) ?_
                  refine dr_put (d := 106) (v := .d (.fl (.int .u64 (dgI im)))) rfl (og rfl (op_call rfl Try.func13 nm13 rfl (.cons rfl (.d _) .nil) (digest13 im hI) rfl)) ?_
                  refine dr_put (d := 107) (v := .d (.sl 5 (List.map eIm l))) rfl (og rfl (op_move rfl rfl rfl)) ?_
                  refine dr_put (d := 108) (v := .d (.fl (.int .i64 (k : Int)))) rfl (og rfl (op_move rfl rfl rfl)) ?_
                  refine dr_put (d := 109) (v := .el ((eIm (ix l k)))) rfl (og rfl (s_index rfl Try.underlying29 ti25 rfl rfl (by omega) (row_at (by omega)) rfl)) ?_
                  refine dr_put (d := 110) (v := .d (.ag (eIm (ix l k)))) rfl (og rfl (of_eff (s_load_els rfl Try.underlying25 rfl ti25 rfl rfl rfl) rfl)) ?_
                  refine dr_put (d := 111) (v := .d (.fl (.int .u64 ((dgI (ix l k)))))) rfl (og rfl (op_call rfl Try.func13 nm13 rfl (.cons rfl (.d _) .nil) (digest13 (ix l k) (hO _ (ix_mem (by omega)))) rfl)) ?_
                  refine dr_put (d := 112) (v := .d (.fl (.bool (((dgI im) == (dgI (ix l k))))))) rfl (og rfl (op_bin rfl rfl rfl (b_eql _ _ _ _) rfl)) ?_
                  refine dr_put (d := 113) (v := .d (.fl (.bool (((dgI im) == (dgI (ix l k))))))) rfl (og rfl (op_move rfl rfl rfl)) ?_
                  rcases fot (((dgI im) == (dgI (ix l k)))) with h17 | h17
                  · skip
                    have h18 := f_beq h17
                    refine dr_put (d := 114) (v := .d (.fl (.int .u64 (lastK id l k)))) rfl (oy rfl rfl rfl h17 (op_move rfl rfl rfl)) ?_
                    refine dr_put (d := 115) (v := .d (.ag (eIm im))) rfl (oy rfl rfl rfl h17 (of_eff (s_load_pts rfl Try.underlying25 rfl ti25 rfl rfl rfl rfl) rfl)) ?_
                    refine dr_put (d := 116) (v := .d (.fl (.int .u64 (dgI im)))) rfl (oy rfl rfl rfl h17 (op_call rfl Try.func13 nm13 rfl (.cons rfl (.d _) .nil) (digest13 im hI) rfl)) ?_
                    refine dr_put (d := 117) (v := .d (.fl (.int .u64 ((jn (lastK id l k) (dgI im)))))) rfl (oy rfl rfl rfl h17 (op_call rfl Try.func26 nm26 rfl (.cons rfl (.d _) (.cons rfl (.d _) .nil)) (join26 (lastK id l k) (dgI im) (lastK_in _ _ _) (dgI_in _)) rfl)) ?_
                    refine dr_put (d := 118) (v := .d (.fl (.int .u64 (lastK id l k)))) rfl (oy rfl rfl rfl h17 (op_move rfl rfl rfl)) ?_
                    refine dr_put (d := 119) (v := .d (.sl 5 (List.map eIm l))) rfl (oy rfl rfl rfl h17 (op_move rfl rfl rfl)) ?_
                    refine dr_put (d := 120) (v := .d (.fl (.int .i64 (k : Int)))) rfl (oy rfl rfl rfl h17 (op_move rfl rfl rfl)) ?_
                    refine dr_put (d := 121) (v := .el ((eIm (ix l k)))) rfl (oy rfl rfl rfl h17 (s_index rfl Try.underlying29 ti25 rfl rfl (by omega) (row_at (by omega)) rfl)) ?_
                    refine dr_put (d := 122) (v := .d (.ag (eIm (ix l k)))) rfl (oy rfl rfl rfl h17 (of_eff (s_load_els rfl Try.underlying25 rfl ti25 rfl rfl rfl) rfl)) ?_
                    refine dr_put (d := 123) (v := .d (.fl (.int .u64 ((dgI (ix l k)))))) rfl (oy rfl rfl rfl h17 (op_call rfl Try.func13 nm13 rfl (.cons rfl (.d _) .nil) (digest13 (ix l k) (hO _ (ix_mem (by omega)))) rfl)) ?_
                    refine dr_put (d := 124) (v := .d (.fl (.int .u64 ((jn (lastK id l k) ((dgI (ix l k)))))))) rfl (oy rfl rfl rfl h17 (op_call rfl Try.func26 nm26 rfl (.cons rfl (.d _) (.cons rfl (.d _) .nil)) (join26 (lastK id l k) ((dgI (ix l k))) (lastK_in _ _ _) (dgI_in _)) rfl)) ?_
                    refine dr_put (d := 125) (v := .d (.fl (.bool (((jn (lastK id l k) (dgI im)) == (jn (lastK id l k) ((dgI (ix l k))))))))) rfl (oy rfl rfl rfl h17 (op_bin rfl rfl rfl (b_eql _ _ _ _) rfl)) ?_
                    refine dr_put (d := 126) (v := .d (.fl (.bool (((jn (lastK id l k) (dgI im)) == (jn (lastK id l k) ((dgI (ix l k))))))))) rfl (og rfl (op_pick rfl rfl (by rw [h17]; rfl) rfl)) ?_
                    refine dr_put (d := 13) (v := .d (.fl (.bool (((jn (lastK id l k) (dgI im)) == (jn (lastK id l k) ((dgI (ix l k))))))))) rfl (og rfl (op_assign rfl rfl rfl)) ?_
                    refine dr_done rfl (sepB_of [0, 1, 0, 0, 12, 28, 63, 127, 255, 511, 511, 1535, 4095, 511, 511, 511, 49663, 115199, 253951, 524287, 1048575, 2097151, 4194303] (by kernel_rfl)) (by kernel_rfl) ?_
                    refine a_rseq ?_
                    refine rg_put (d := 127) (v := .d (.ag (ePk (((Pk.mk id (oth l k im) (((pkF id l)).chain))))))) rfl (og rfl (of_eff (s_load_pts rfl Try.underlying33 rfl ti33 rfl rfl rfl rfl) rfl)) ?_
                    refine rg_put (d := 128) (v := .d (.fl (.bool ((lEq (fits id l) (fits id (oth l k im))))))) rfl (og rfl (op_call rfl Try.func20 nm20 rfl (.cons rfl (.d _) .nil) (verify20 (Pk.mk id (oth l k im) (fits id l)) (⟨by show id.size ≤ 1000; omega, by show (oth l k im).length ≤ 2000; rw [oth_len (by omega)]; omega, by show (fits id l).length ≤ 100000; rw [fits_len]; omega, okd_oth hO hI, fits_in _ _⟩ : Okp (Pk.mk id (oth l k im) (fits id l)))) rfl)) ?_
                    refine rg_put (d := 129) (v := .d (.fl (.bool ((lEq (fits id l) (fits id (oth l k im))))))) rfl (og rfl (op_move rfl rfl rfl)) ?_
                    rcases fot ((lEq (fits id l) (fits id (oth l k im)))) with h19 | h19
                    · skip
                      refine rg_put (d := 130) (v := .d (.fl undef)) rfl (on rfl rfl rfl h19) ?_
                      refine rg_put (d := 131) (v := .d (.fl undef)) rfl (on rfl rfl rfl h19) ?_
                      refine rg_put (d := 132) (v := .d (.fl (.bool false))) rfl (og rfl (op_pick rfl rfl (by rw [h19]; rfl) rfl)) ?_
                      refine rg_put (d := 133) (v := .d (.fl (.bool false))) rfl (og rfl (op_move rfl rfl rfl)) ?_
                      refine rg_put (d := 134) (v := .d (.ag (ePk (((pkF id l)))))) rfl (oy rfl rfl rfl rfl (of_eff (s_load_pts rfl Try.underlying33 rfl ti33 rfl rfl rfl rfl) rfl)) ?_
                      refine rg_put (d := 135) (v := .d (.ag (ePk (((Pk.mk id (oth l k im) (((pkF id l)).chain))))))) rfl (oy rfl rfl rfl rfl (of_eff (s_load_pts rfl Try.underlying33 rfl ti33 rfl rfl rfl rfl) rfl)) ?_
                      refine rg_put (d := 136) (v := .d (.fl (.int .i64 (k : Int)))) rfl (oy rfl rfl rfl rfl (op_call rfl Try.func23 nm23 rfl (.cons rfl (.d _) (.cons rfl (.d _) .nil)) (firstK (id := id) (by omega) hl20 hO h14) rfl)) ?_
                      refine rg_put (d := 137) (v := .d (.fl (.int .i64 (k : Int)))) rfl (oy rfl rfl rfl rfl (op_move rfl rfl rfl)) ?_
                      refine rg_put (d := 138) (v := .d (.fl (.bool (((k : Int) != (k : Int)))))) rfl (oy rfl rfl rfl rfl (op_bin rfl rfl rfl (b_neq _ _ _ _) rfl)) ?_
                      refine rg_put (d := 139) (v := .d (.fl (.bool (((k : Int) != (k : Int)))))) rfl (og rfl (op_pick rfl rfl rfl rfl)) ?_
                      refine rg_done rfl ?_
                      refine a_condF rfl (ne_self_b _) ?_
                      refine a_skip ?_
                      show A _ _ _ _ _ _ _
                      refine a_region ?_
                      refine rg_put (d := 66) (v := .d (.fl (.int .i64 (k : Int)))) rfl (og rfl (op_move rfl rfl rfl)) ?_
                      refine rg_put (d := 67) (v := .d (.fl (.int .i64 (((k : Int) + 1))))) rfl (og rfl (op_bin rfl rfl rfl (fun x y w => b_add64 _ _ _ x y w (by omega)) rfl)) ?_
                      refine rg_put (d := 9) (v := .d (.fl (.int .i64 (((k : Int) + 1))))) rfl (og rfl (op_assign rfl rfl rfl)) ?_
                      refine rg_done rfl ?_
                      show ∃ i, _ ∧ _ ∧ Imp _ _ _ _ _
                      refine ⟨k + 1, (by omega), by omega, imp_forget rfl ⟨rfl, rfl, rfl, rfl, rfl, rfl, rfl, rfl, (by first | rfl | exact ci (by omega) | exact ci (by simp) | exact cd (by simp) | simp), trivial⟩ ⟨rfl, rfl, trivial⟩⟩
                    · skip
                      refine rg_put (d := 130) (v := .d (.fl (.bool (((jn (lastK id l k) (dgI im)) == (jn (lastK id l k) ((dgI (ix l k))))))))) rfl (oy rfl rfl rfl h19 (op_move rfl rfl rfl)) ?_
                      refine rg_put (d := 131) (v := .d (.fl (.bool ((!(((jn (lastK id l k) (dgI im)) == (jn (lastK id l k) ((dgI (ix l k))))))))))) rfl (oy rfl rfl rfl h19 (op_un rfl rfl (u_not _) rfl)) ?_
                      refine rg_put (d := 132) (v := .d (.fl (.bool ((!(((jn (lastK id l k) (dgI im)) == (jn (lastK id l k) ((dgI (ix l k))))))))))) rfl (og rfl (op_pick rfl rfl (by rw [h19]; rfl) rfl)) ?_
                      refine rg_put (d := 133) (v := .d (.fl (.bool ((!(((jn (lastK id l k) (dgI im)) == (jn (lastK id l k) ((dgI (ix l k))))))))))) rfl (og rfl (op_move rfl rfl rfl)) ?_
                      refine rg_put (d := 134) (v := .d (.ag (ePk (((pkF id l)))))) rfl (oy rfl rfl rfl (not_f (ver_same (by omega) h19)) (of_eff (s_load_pts rfl Try.underlying33 rfl ti33 rfl rfl rfl rfl) rfl)) ?_
                      refine rg_put (d := 135) (v := .d (.ag (ePk (((Pk.mk id (oth l k im) (((pkF id l)).chain))))))) rfl (oy rfl rfl rfl (not_f (ver_same (by omega) h19)) (of_eff (s_load_pts rfl Try.underlying33 rfl ti33 rfl rfl rfl rfl) rfl)) ?_
                      refine rg_put (d := 136) (v := .d (.fl (.int .i64 (k : Int)))) rfl (oy rfl rfl rfl (not_f (ver_same (by omega) h19)) (op_call rfl Try.func23 nm23 rfl (.cons rfl (.d _) (.cons rfl (.d _) .nil)) (firstK (id := id) (by omega) hl20 hO h14) rfl)) ?_
                      refine rg_put (d := 137) (v := .d (.fl (.int .i64 (k : Int)))) rfl (oy rfl rfl rfl (not_f (ver_same (by omega) h19)) (op_move rfl rfl rfl)) ?_
                      refine rg_put (d := 138) (v := .d (.fl (.bool (((k : Int) != (k : Int)))))) rfl (oy rfl rfl rfl (not_f (ver_same (by omega) h19)) (op_bin rfl rfl rfl (b_neq _ _ _ _) rfl)) ?_
                      refine rg_put (d := 139) (v := .d (.fl (.bool (((k : Int) != (k : Int)))))) rfl (og rfl (op_pick rfl rfl (by rw [(not_f (ver_same (by omega) h19))]; rfl) rfl)) ?_
                      refine rg_done rfl ?_
                      refine a_condF rfl (ne_self_b _) ?_
                      refine a_skip ?_
                      show A _ _ _ _ _ _ _
                      refine a_region ?_
                      refine rg_put (d := 66) (v := .d (.fl (.int .i64 (k : Int)))) rfl (og rfl (op_move rfl rfl rfl)) ?_
                      refine rg_put (d := 67) (v := .d (.fl (.int .i64 (((k : Int) + 1))))) rfl (og rfl (op_bin rfl rfl rfl (fun x y w => b_add64 _ _ _ x y w (by omega)) rfl)) ?_
                      refine rg_put (d := 9) (v := .d (.fl (.int .i64 (((k : Int) + 1))))) rfl (og rfl (op_assign rfl rfl rfl)) ?_
                      refine rg_done rfl ?_
                      show ∃ i, _ ∧ _ ∧ Imp _ _ _ _ _
                      refine ⟨k + 1, (by omega), by omega, imp_forget rfl ⟨rfl, rfl, rfl, rfl, rfl, rfl, rfl, rfl, (by first | rfl | exact ci (by omega) | exact ci (by simp) | exact cd (by simp) | simp), trivial⟩ ⟨rfl, rfl, trivial⟩⟩
                  · skip
                    have h20 := t_beq h17
                    refine dr_put (d := 114) (v := .d (.fl undef)) rfl (on rfl rfl rfl h17) ?_
                    refine dr_put (d := 115) (v := .d (.fl undef)) rfl (on rfl rfl rfl h17) ?_
                    refine dr_put (d := 116) (v := .d (.fl undef)) rfl (on rfl rfl rfl h17) ?_
                    refine dr_put (d := 117) (v := .d (.fl undef)) rfl (on rfl rfl rfl h17) ?_
                    refine dr_put (d := 118) (v := .d (.fl undef)) rfl (on rfl rfl rfl h17) ?_
                    refine dr_put (d := 119) (v := .d (.fl undef)) rfl (on rfl rfl rfl h17) ?_
                    refine dr_put (d := 120) (v := .d (.fl undef)) rfl (on rfl rfl rfl h17) ?_
                    refine dr_put (d := 121) (v := .d (.fl undef)) rfl (on rfl rfl rfl h17) ?_
                    refine dr_put (d := 122) (v := .d (.fl undef)) rfl (on rfl rfl rfl h17) ?_
                    refine dr_put (d := 123) (v := .d (.fl undef)) rfl (on rfl rfl rfl h17) ?_
                    refine dr_put (d := 124) (v := .d (.fl undef)) rfl (on rfl rfl rfl h17) ?_
                    refine dr_put (d := 125) (v := .d (.fl undef)) rfl (on rfl rfl rfl h17) ?_
                    refine dr_put (d := 126) (v := .d (.fl (.bool true))) rfl (og rfl (op_pick rfl rfl (by rw [h17]; rfl) rfl)) ?_
                    refine dr_put (d := 13) (v := .d (.fl (.bool true))) rfl (og rfl (op_assign rfl rfl rfl)) ?_
                    refine dr_done rfl (sepB_of [0, 1, 0, 0, 12, 28, 63, 127, 255, 511, 511, 1535, 4095, 511, 511, 511, 49663, 115199, 253951, 524287, 1048575, 2097151, 4194303] (by kernel_rfl)) (by kernel_rfl) ?_
                    refine a_rseq ?_
                    refine rg_put (d := 127) (v := .d (.ag (ePk (((Pk.mk id (oth l k im) (((pkF id l)).chain))))))) rfl (og rfl (of_eff (s_load_pts rfl Try.underlying33 rfl ti33 rfl rfl rfl rfl) rfl)) ?_
                    refine rg_put (d := 128) (v := .d (.fl (.bool ((lEq (fits id l) (fits id (oth l k im))))))) rfl (og rfl (op_call rfl Try.func20 nm20 rfl (.cons rfl (.d _) .nil) (verify20 (Pk.mk id (oth l k im) (fits id l)) (⟨by show id.size ≤ 1000; omega, by show (oth l k im).length ≤ 2000; rw [oth_len (by omega)]; omega, by show (fits id l).length ≤ 100000; rw [fits_len]; omega, okd_oth hO hI, fits_in _ _⟩ : Okp (Pk.mk id (oth l k im) (fits id l)))) rfl)) ?_
                    refine rg_put (d := 129) (v := .d (.fl (.bool ((lEq (fits id l) (fits id (oth l k im))))))) rfl (og rfl (op_move rfl rfl rfl)) ?_
                    rcases fot ((lEq (fits id l) (fits id (oth l k im)))) with h21 | h21
                    · skip
                      refine rg_put (d := 130) (v := .d (.fl undef)) rfl (on rfl rfl rfl h21) ?_
                      refine rg_put (d := 131) (v := .d (.fl undef)) rfl (on rfl rfl rfl h21) ?_
                      refine rg_put (d := 132) (v := .d (.fl (.bool false))) rfl (og rfl (op_pick rfl rfl (by rw [h21]; rfl) rfl)) ?_
                      refine rg_put (d := 133) (v := .d (.fl (.bool false))) rfl (og rfl (op_move rfl rfl rfl)) ?_
                      refine rg_put (d := 134) (v := .d (.ag (ePk (((pkF id l)))))) rfl (oy rfl rfl rfl rfl (of_eff (s_load_pts rfl Try.underlying33 rfl ti33 rfl rfl rfl rfl) rfl)) ?_
                      refine rg_put (d := 135) (v := .d (.ag (ePk (((Pk.mk id (oth l k im) (((pkF id l)).chain))))))) rfl (oy rfl rfl rfl rfl (of_eff (s_load_pts rfl Try.underlying33 rfl ti33 rfl rfl rfl rfl) rfl)) ?_
                      refine rg_put (d := 136) (v := .d (.fl (.int .i64 (k : Int)))) rfl (oy rfl rfl rfl rfl (op_call rfl Try.func23 nm23 rfl (.cons rfl (.d _) (.cons rfl (.d _) .nil)) (firstK (id := id) (by omega) hl20 hO h14) rfl)) ?_
                      refine rg_put (d := 137) (v := .d (.fl (.int .i64 (k : Int)))) rfl (oy rfl rfl rfl rfl (op_move rfl rfl rfl)) ?_
                      refine rg_put (d := 138) (v := .d (.fl (.bool (((k : Int) != (k : Int)))))) rfl (oy rfl rfl rfl rfl (op_bin rfl rfl rfl (b_neq _ _ _ _) rfl)) ?_
                      refine rg_put (d := 139) (v := .d (.fl (.bool (((k : Int) != (k : Int)))))) rfl (og rfl (op_pick rfl rfl rfl rfl)) ?_
                      refine rg_done rfl ?_
                      refine a_condF rfl (ne_self_b _) ?_
                      refine a_skip ?_
                      show A _ _ _ _ _ _ _
                      refine a_region ?_
                      refine rg_put (d := 66) (v := .d (.fl (.int .i64 (k : Int)))) rfl (og rfl (op_move rfl rfl rfl)) ?_
                      refine rg_put (d := 67) (v := .d (.fl (.int .i64 (((k : Int) + 1))))) rfl (og rfl (op_bin rfl rfl rfl (fun x y w => b_add64 _ _ _ x y w (by omega)) rfl)) ?_
                      refine rg_put (d := 9) (v := .d (.fl (.int .i64 (((k : Int) + 1))))) rfl (og rfl (op_assign rfl rfl rfl)) ?_
                      refine rg_done rfl ?_
                      show ∃ i, _ ∧ _ ∧ Imp _ _ _ _ _
                      refine ⟨k + 1, (by omega), by omega, imp_forget rfl ⟨rfl, rfl, rfl, rfl, rfl, rfl, rfl, rfl, (by first | rfl | exact ci (by omega) | exact ci (by simp) | exact cd (by simp) | simp), trivial⟩ ⟨rfl, rfl, trivial⟩⟩
                    · skip
                      refine rg_put (d := 130) (v := .d (.fl (.bool true))) rfl (oy rfl rfl rfl h21 (op_move rfl rfl rfl)) ?_
                      refine rg_put (d := 131) (v := .d (.fl (.bool (!true)))) rfl (oy rfl rfl rfl h21 (op_un rfl rfl (u_not _) rfl)) ?_
                      refine rg_put (d := 132) (v := .d (.fl (.bool (!true)))) rfl (og rfl (op_pick rfl rfl (by rw [h21]; rfl) rfl)) ?_
                      refine rg_put (d := 133) (v := .d (.fl (.bool (!true)))) rfl (og rfl (op_move rfl rfl rfl)) ?_
                      refine rg_put (d := 134) (v := .d (.ag (ePk (((pkF id l)))))) rfl (oy rfl rfl rfl rfl (of_eff (s_load_pts rfl Try.underlying33 rfl ti33 rfl rfl rfl rfl) rfl)) ?_
                      refine rg_put (d := 135) (v := .d (.ag (ePk (((Pk.mk id (oth l k im) (((pkF id l)).chain))))))) rfl (oy rfl rfl rfl rfl (of_eff (s_load_pts rfl Try.underlying33 rfl ti33 rfl rfl rfl rfl) rfl)) ?_
                      refine rg_put (d := 136) (v := .d (.fl (.int .i64 (k : Int)))) rfl (oy rfl rfl rfl rfl (op_call rfl Try.func23 nm23 rfl (.cons rfl (.d _) (.cons rfl (.d _) .nil)) (firstK (id := id) (by omega) hl20 hO h14) rfl)) ?_
                      refine rg_put (d := 137) (v := .d (.fl (.int .i64 (k : Int)))) rfl (oy rfl rfl rfl rfl (op_move rfl rfl rfl)) ?_
                      refine rg_put (d := 138) (v := .d (.fl (.bool (((k : Int) != (k : Int)))))) rfl (oy rfl rfl rfl rfl (op_bin rfl rfl rfl (b_neq _ _ _ _) rfl)) ?_
                      refine rg_put (d := 139) (v := .d (.fl (.bool (((k : Int) != (k : Int)))))) rfl (og rfl (op_pick rfl rfl rfl rfl)) ?_
                      refine rg_done rfl ?_
                      refine a_condF rfl (ne_self_b _) ?_
                      refine a_skip ?_
                      show A _ _ _ _ _ _ _
                      refine a_region ?_
                      refine rg_put (d := 66) (v := .d (.fl (.int .i64 (k : Int)))) rfl (og rfl (op_move rfl rfl rfl)) ?_
                      refine rg_put (d := 67) (v := .d (.fl (.int .i64 (((k : Int) + 1))))) rfl (og rfl (op_bin rfl rfl rfl (fun x y w => b_add64 _ _ _ x y w (by omega)) rfl)) ?_
                      refine rg_put (d := 9) (v := .d (.fl (.int .i64 (((k : Int) + 1))))) rfl (og rfl (op_assign rfl rfl rfl)) ?_
                      refine rg_done rfl ?_
                      show ∃ i, _ ∧ _ ∧ Imp _ _ _ _ _
                      refine ⟨k + 1, (by omega), by omega, imp_forget rfl ⟨rfl, rfl, rfl, rfl, rfl, rfl, rfl, rfl, (by first | rfl | exact ci (by omega) | exact ci (by simp) | exact cd (by simp) | simp), trivial⟩ ⟨rfl, rfl, trivial⟩⟩
                · skip
                  have h22 := f_dec h15
                  refine a_skip ?_
                  show A _ _ _ _ _ _ _
                  rw [show (hsh (bys id)) = (lastK id l k) from lastK_zero id l (by omega)]
                  refine a_dseq (by kernel_rfl) ?_
                  refine dr_put (d := 105) (v := .d (.ag (eIm im))) rfl (og rfl (of_eff (s_load_pts rfl Try.underlying25 rfl ti25 rfl rfl rfl rfl) rfl)) ?_
                  refine dr_put (d := 106) (v := .d (.fl (.int .u64 (dgI im)))) rfl (og rfl (op_call rfl Try.func13 nm13 rfl (.cons rfl (.d _) .nil) (digest13 im hI) rfl)) ?_
                  refine dr_put (d := 107) (v := .d (.sl 5 (List.map eIm l))) rfl (og rfl (op_move rfl rfl rfl)) ?_
                  refine dr_put (d := 108) (v := .d (.fl (.int .i64 (k : Int)))) rfl (og rfl (op_move rfl rfl rfl)) ?_
                  refine dr_put (d := 109) (v := .el ((eIm (ix l k)))) rfl (og rfl (s_index rfl Try.underlying29 ti25 rfl rfl (by omega) (row_at (by omega)) rfl)) ?_
                  refine dr_put (d := 110) (v := .d (.ag (eIm (ix l k)))) rfl (og rfl (of_eff (s_load_els rfl Try.underlying25 rfl ti25 rfl rfl rfl) rfl)) ?_
                  refine dr_put (d := 111) (v := .d (.fl (.int .u64 ((dgI (ix l k)))))) rfl (og rfl (op_call rfl Try.func13 nm13 rfl (.cons rfl (.d _) .nil) (digest13 (ix l k) (hO _ (ix_mem (by omega)))) rfl)) ?_
                  refine dr_put (d := 112) (v := .d (.fl (.bool (((dgI im) == (dgI (ix l k))))))) rfl (og rfl (op_bin rfl rfl rfl (b_eql _ _ _ _) rfl)) ?_
                  refine dr_put (d := 113) (v := .d (.fl (.bool (((dgI im) == (dgI (ix l k))))))) rfl (og rfl (op_move rfl rfl rfl)) ?_
                  rcases fot (((dgI im) == (dgI (ix l k)))) with h23 | h23
                  · skip
                    have h24 := f_beq h23
                    refine dr_put (d := 114) (v := .d (.fl (.int .u64 (lastK id l k)))) rfl (oy rfl rfl rfl h23 (op_move rfl rfl rfl)) ?_
                    refine dr_put (d := 115) (v := .d (.ag (eIm im))) rfl (oy rfl rfl rfl h23 (of_eff (s_load_pts rfl Try.underlying25 rfl ti25 rfl rfl rfl rfl) rfl)) ?_
                    refine dr_put (d := 116) (v := .d (.fl (.int .u64 (dgI im)))) rfl (oy rfl rfl rfl h23 (op_call rfl Try.func13 nm13 rfl (.cons rfl (.d _) .nil) (digest13 im hI) rfl)) ?_
                    refine dr_put (d := 117) (v := .d (.fl (.int .u64 ((jn (lastK id l k) (dgI im)))))) rfl (oy rfl rfl rfl h23 (op_call rfl Try.func26 nm26 rfl (.cons rfl (.d _) (.cons rfl (.d _) .nil)) (join26 (lastK id l k) (dgI im) (lastK_in _ _ _) (dgI_in _)) rfl)) ?_
                    refine dr_put (d := 118) (v := .d (.fl (.int .u64 (lastK id l k)))) rfl (oy rfl rfl rfl h23 (op_move rfl rfl rfl)) ?_
                    refine dr_put (d := 119) (v := .d (.sl 5 (List.map eIm l))) rfl (oy rfl rfl rfl h23 (op_move rfl rfl rfl)) ?_
                    refine dr_put (d := 120) (v := .d (.fl (.int .i64 (k : Int)))) rfl (oy rfl rfl rfl h23 (op_move rfl rfl rfl)) ?_
                    refine dr_put (d := 121) (v := .el ((eIm (ix l k)))) rfl (oy rfl rfl rfl h23 (s_index rfl Try.underlying29 ti25 rfl rfl (by omega) (row_at (by omega)) rfl)) ?_
                    refine dr_put (d := 122) (v := .d (.ag (eIm (ix l k)))) rfl (oy rfl rfl rfl h23 (of_eff (s_load_els rfl Try.underlying25 rfl ti25 rfl rfl rfl) rfl)) ?_
                    refine dr_put (d := 123) (v := .d (.fl (.int .u64 ((dgI (ix l k)))))) rfl (oy rfl rfl rfl h23 (op_call rfl Try.func13 nm13 rfl (.cons rfl (.d _) .nil) (digest13 (ix l k) (hO _ (ix_mem (by omega)))) rfl)) ?_
                    refine dr_put (d := 124) (v := .d (.fl (.int .u64 ((jn (lastK id l k) ((dgI (ix l k)))))))) rfl (oy rfl rfl rfl h23 (op_call rfl Try.func26 nm26 rfl (.cons rfl (.d _) (.cons rfl (.d _) .nil)) (join26 (lastK id l k) ((dgI (ix l k))) (lastK_in _ _ _) (dgI_in _)) rfl)) ?_
                    refine dr_put (d := 125) (v := .d (.fl (.bool (((jn (lastK id l k) (dgI im)) == (jn (lastK id l k) ((dgI (ix l k))))))))) rfl (oy rfl rfl rfl h23 (op_bin rfl rfl rfl (b_eql _ _ _ _) rfl)) ?_
                    refine dr_put (d := 126) (v := .d (.fl (.bool (((jn (lastK id l k) (dgI im)) == (jn (lastK id l k) ((dgI (ix l k))))))))) rfl (og rfl (op_pick rfl rfl (by rw [h23]; rfl) rfl)) ?_
                    refine dr_put (d := 13) (v := .d (.fl (.bool (((jn (lastK id l k) (dgI im)) == (jn (lastK id l k) ((dgI (ix l k))))))))) rfl (og rfl (op_assign rfl rfl rfl)) ?_
                    refine dr_done rfl (sepB_of [0, 1, 0, 0, 12, 28, 63, 127, 255, 511, 511, 1535, 4095, 511, 511, 511, 49663, 115199, 253951, 524287, 1048575, 2097151, 4194303] (by kernel_rfl)) (by kernel_rfl) ?_
                    refine a_rseq ?_
                    refine rg_put (d := 127) (v := .d (.ag (ePk (((Pk.mk id (oth l k im) (((pkF id l)).chain))))))) rfl (og rfl (of_eff (s_load_pts rfl Try.underlying33 rfl ti33 rfl rfl rfl rfl) rfl)) ?_
                    refine rg_put (d := 128) (v := .d (.fl (.bool ((lEq (fits id l) (fits id (oth l k im))))))) rfl (og rfl (op_call rfl Try.func20 nm20 rfl (.cons rfl (.d _) .nil) (verify20 (Pk.mk id (oth l k im) (fits id l)) (⟨by show id.size ≤ 1000; omega, by show (oth l k im).length ≤ 2000; rw [oth_len (by omega)]; omega, by show (fits id l).length ≤ 100000; rw [fits_len]; omega, okd_oth hO hI, fits_in _ _⟩ : Okp (Pk.mk id (oth l k im) (fits id l)))) rfl)) ?_
                    refine rg_put (d := 129) (v := .d (.fl (.bool ((lEq (fits id l) (fits id (oth l k im))))))) rfl (og rfl (op_move rfl rfl rfl)) ?_
                    rcases fot ((lEq (fits id l) (fits id (oth l k im)))) with h25 | h25
                    · skip
                      refine rg_put (d := 130) (v := .d (.fl undef)) rfl (on rfl rfl rfl h25) ?_
                      refine rg_put (d := 131) (v := .d (.fl undef)) rfl (on rfl rfl rfl h25) ?_
                      refine rg_put (d := 132) (v := .d (.fl (.bool false))) rfl (og rfl (op_pick rfl rfl (by rw [h25]; rfl) rfl)) ?_
                      refine rg_put (d := 133) (v := .d (.fl (.bool false))) rfl (og rfl (op_move rfl rfl rfl)) ?_
                      refine rg_put (d := 134) (v := .d (.ag (ePk (((pkF id l)))))) rfl (oy rfl rfl rfl rfl (of_eff (s_load_pts rfl Try.underlying33 rfl ti33 rfl rfl rfl rfl) rfl)) ?_
                      refine rg_put (d := 135) (v := .d (.ag (ePk (((Pk.mk id (oth l k im) (((pkF id l)).chain))))))) rfl (oy rfl rfl rfl rfl (of_eff (s_load_pts rfl Try.underlying33 rfl ti33 rfl rfl rfl rfl) rfl)) ?_
                      refine rg_put (d := 136) (v := .d (.fl (.int .i64 (k : Int)))) rfl (oy rfl rfl rfl rfl (op_call rfl Try.func23 nm23 rfl (.cons rfl (.d _) (.cons rfl (.d _) .nil)) (firstK (id := id) (by omega) hl20 hO h14) rfl)) ?_
                      refine rg_put (d := 137) (v := .d (.fl (.int .i64 (k : Int)))) rfl (oy rfl rfl rfl rfl (op_move rfl rfl rfl)) ?_
                      refine rg_put (d := 138) (v := .d (.fl (.bool (((k : Int) != (k : Int)))))) rfl (oy rfl rfl rfl rfl (op_bin rfl rfl rfl (b_neq _ _ _ _) rfl)) ?_
                      refine rg_put (d := 139) (v := .d (.fl (.bool (((k : Int) != (k : Int)))))) rfl (og rfl (op_pick rfl rfl rfl rfl)) ?_
                      refine rg_done rfl ?_
                      refine a_condF rfl (ne_self_b _) ?_
                      refine a_skip ?_
                      show A _ _ _ _ _ _ _
                      refine a_region ?_
                      refine rg_put (d := 66) (v := .d (.fl (.int .i64 (k : Int)))) rfl (og rfl (op_move rfl rfl rfl)) ?_
                      refine rg_put (d := 67) (v := .d (.fl (.int .i64 (((k : Int) + 1))))) rfl (og rfl (op_bin rfl rfl rfl (fun x y w => b_add64 _ _ _ x y w (by omega)) rfl)) ?_
                      refine rg_put (d := 9) (v := .d (.fl (.int .i64 (((k : Int) + 1))))) rfl (og rfl (op_assign rfl rfl rfl)) ?_
                      refine rg_done rfl ?_
                      show ∃ i, _ ∧ _ ∧ Imp _ _ _ _ _
                      refine ⟨k + 1, (by omega), by omega, imp_forget rfl ⟨rfl, rfl, rfl, rfl, rfl, rfl, rfl, rfl, (by first | rfl | exact ci (by omega) | exact ci (by simp) | exact cd (by simp) | simp), trivial⟩ ⟨rfl, rfl, trivial⟩⟩
                    · skip
                      refine rg_put (d := 130) (v := .d (.fl (.bool (((jn (lastK id l k) (dgI im)) == (jn (lastK id l k) ((dgI (ix l k))))))))) rfl (oy rfl rfl rfl h25 (op_move rfl rfl rfl)) ?_
                      refine rg_put (d := 131) (v := .d (.fl (.bool ((!(((jn (lastK id l k) (dgI im)) == (jn (lastK id l k) ((dgI (ix l k))))))))))) rfl (oy rfl rfl rfl h25 (op_un rfl rfl (u_not _) rfl)) ?_
                      refine rg_put (d := 132) (v := .d (.fl (.bool ((!(((jn (lastK id l k) (dgI im)) == (jn (lastK id l k) ((dgI (ix l k))))))))))) rfl (og rfl (op_pick rfl rfl (by rw [h25]; rfl) rfl)) ?_
                      refine rg_put (d := 133) (v := .d (.fl (.bool ((!(((jn (lastK id l k) (dgI im)) == (jn (lastK id l k) ((dgI (ix l k))))))))))) rfl (og rfl (op_move rfl rfl rfl)) ?_
                      refine rg_put (d := 134) (v := .d (.ag (ePk (((pkF id l)))))) rfl (oy rfl rfl rfl (not_f (ver_same (by omega) h25)) (of_eff (s_load_pts rfl Try.underlying33 rfl ti33 rfl rfl rfl rfl) rfl)) ?_
                      refine rg_put (d := 135) (v := .d (.ag (ePk (((Pk.mk id (oth l k im) (((pkF id l)).chain))))))) rfl (oy rfl rfl rfl (not_f (ver_same (by omega) h25)) (of_eff (s_load_pts rfl Try.underlying33 rfl ti33 rfl rfl rfl rfl) rfl)) ?_
                      refine rg_put (d := 136) (v := .d (.fl (.int .i64 (k : Int)))) rfl (oy rfl rfl rfl (not_f (ver_same (by omega) h25)) (op_call rfl Try.func23 nm23 rfl (.cons rfl (.d _) (.cons rfl (.d _) .nil)) (firstK (id := id) (by omega) hl20 hO h14) rfl)) ?_
                      refine rg_put (d := 137) (v := .d (.fl (.int .i64 (k : Int)))) rfl (oy rfl rfl rfl (not_f (ver_same (by omega) h25)) (op_move rfl rfl rfl)) ?_
                      refine rg_put (d := 138) (v := .d (.fl (.bool (((k : Int) != (k : Int)))))) rfl (oy rfl rfl rfl (not_f (ver_same (by omega) h25)) (op_bin rfl rfl rfl (b_neq _ _ _ _) rfl)) ?_
                      refine rg_put (d := 139) (v := .d (.fl (.bool (((k : Int) != (k : Int)))))) rfl (og rfl (op_pick rfl rfl (by rw [(not_f (ver_same (by omega) h25))]; rfl) rfl)) ?_
                      refine rg_done rfl ?_
                      refine a_condF rfl (ne_self_b _) ?_
                      refine a_skip ?_
                      show A _ _ _ _ _ _ _
                      refine a_region ?_
                      refine rg_put (d := 66) (v := .d (.fl (.int .i64 (k : Int)))) rfl (og rfl (op_move rfl rfl rfl)) ?_
                      refine rg_put (d := 67) (v := .d (.fl (.int .i64 (((k : Int) + 1))))) rfl (og rfl (op_bin rfl rfl rfl (fun x y w => b_add64 _ _ _ x y w (by omega)) rfl)) ?_
                      refine rg_put (d := 9) (v := .d (.fl (.int .i64 (((k : Int) + 1))))) rfl (og rfl (op_assign rfl rfl rfl)) ?_
                      refine rg_done rfl ?_
                      show ∃ i, _ ∧ _ ∧ Imp _ _ _ _ _
                      refine ⟨k + 1, (by omega), by omega, imp_forget rfl ⟨rfl, rfl, rfl, rfl, rfl, rfl, rfl, rfl, (by first | rfl | exact ci (by omega) | exact ci (by simp) | exact cd (by simp) | simp), trivial⟩ ⟨rfl, rfl, trivial⟩⟩
                  · skip
                    have h26 := t_beq h23
                    refine dr_put (d := 114) (v := .d (.fl undef)) rfl (on rfl rfl rfl h23) ?_
                    refine dr_put (d := 115) (v := .d (.fl undef)) rfl (on rfl rfl rfl h23) ?_
                    refine dr_put (d := 116) (v := .d (.fl undef)) rfl (on rfl rfl rfl h23) ?_
                    refine dr_put (d := 117) (v := .d (.fl undef)) rfl (on rfl rfl rfl h23) ?_
                    refine dr_put (d := 118) (v := .d (.fl undef)) rfl (on rfl rfl rfl h23) ?_
                    refine dr_put (d := 119) (v := .d (.fl undef)) rfl (on rfl rfl rfl h23) ?_
                    refine dr_put (d := 120) (v := .d (.fl undef)) rfl (on rfl rfl rfl h23) ?_
                    refine dr_put (d := 121) (v := .d (.fl undef)) rfl (on rfl rfl rfl h23) ?_
                    refine dr_put (d := 122) (v := .d (.fl undef)) rfl (on rfl rfl rfl h23) ?_
                    refine dr_put (d := 123) (v := .d (.fl undef)) rfl (on rfl rfl rfl h23) ?_
                    refine dr_put (d := 124) (v := .d (.fl undef)) rfl (on rfl rfl rfl h23) ?_
                    refine dr_put (d := 125) (v := .d (.fl undef)) rfl (on rfl rfl rfl h23) ?_
                    refine dr_put (d := 126) (v := .d (.fl (.bool true))) rfl (og rfl (op_pick rfl rfl (by rw [h23]; rfl) rfl)) ?_
                    refine dr_put (d := 13) (v := .d (.fl (.bool true))) rfl (og rfl (op_assign rfl rfl rfl)) ?_
                    refine dr_done rfl (sepB_of [0, 1, 0, 0, 12, 28, 63, 127, 255, 511, 511, 1535, 4095, 511, 511, 511, 49663, 115199, 253951, 524287, 1048575, 2097151, 4194303] (by kernel_rfl)) (by kernel_rfl) ?_
                    refine a_rseq ?_
                    refine rg_put (d := 127) (v := .d (.ag (ePk (((Pk.mk id (oth l k im) (((pkF id l)).chain))))))) rfl (og rfl (of_eff (s_load_pts rfl Try.underlying33 rfl ti33 rfl rfl rfl rfl) rfl)) ?_
                    refine rg_put (d := 128) (v := .d (.fl (.bool ((lEq (fits id l) (fits id (oth l k im))))))) rfl (og rfl (op_call rfl Try.func20 nm20 rfl (.cons rfl (.d _) .nil) (verify20 (Pk.mk id (oth l k im) (fits id l)) (⟨by show id.size ≤ 1000; omega, by show (oth l k im).length ≤ 2000; rw [oth_len (by omega)]; omega, by show (fits id l).length ≤ 100000; rw [fits_len]; omega, okd_oth hO hI, fits_in _ _⟩ : Okp (Pk.mk id (oth l k im) (fits id l)))) rfl)) ?_
                    refine rg_put (d := 129) (v := .d (.fl (.bool ((lEq (fits id l) (fits id (oth l k im))))))) rfl (og rfl (op_move rfl rfl rfl)) ?_
                    rcases fot ((lEq (fits id l) (fits id (oth l k im)))) with h27 | h27
                    · skip
                      refine rg_put (d := 130) (v := .d (.fl undef)) rfl (on rfl rfl rfl h27) ?_
                      refine rg_put (d := 131) (v := .d (.fl undef)) rfl (on rfl rfl rfl h27) ?_
                      refine rg_put (d := 132) (v := .d (.fl (.bool false))) rfl (og rfl (op_pick rfl rfl (by rw [h27]; rfl) rfl)) ?_
                      refine rg_put (d := 133) (v := .d (.fl (.bool false))) rfl (og rfl (op_move rfl rfl rfl)) ?_
                      refine rg_put (d := 134) (v := .d (.ag (ePk (((pkF id l)))))) rfl (oy rfl rfl rfl rfl (of_eff (s_load_pts rfl Try.underlying33 rfl ti33 rfl rfl rfl rfl) rfl)) ?_
                      refine rg_put (d := 135) (v := .d (.ag (ePk (((Pk.mk id (oth l k im) (((pkF id l)).chain))))))) rfl (oy rfl rfl rfl rfl (of_eff (s_load_pts rfl Try.underlying33 rfl ti33 rfl rfl rfl rfl) rfl)) ?_
                      refine rg_put (d := 136) (v := .d (.fl (.int .i64 (k : Int)))) rfl (oy rfl rfl rfl rfl (op_call rfl Try.func23 nm23 rfl (.cons rfl (.d _) (.cons rfl (.d _) .nil)) (firstK (id := id) (by omega) hl20 hO h14) rfl)) ?_
                      refine rg_put (d := 137) (v := .d (.fl (.int .i64 (k : Int)))) rfl (oy rfl rfl rfl rfl (op_move rfl rfl rfl)) ?_
                      refine rg_put (d := 138) (v := .d (.fl (.bool (((k : Int) != (k : Int)))))) rfl (oy rfl rfl rfl rfl (op_bin rfl rfl rfl (b_neq _ _ _ _) rfl)) ?_
                      refine rg_put (d := 139) (v := .d (.fl (.bool (((k : Int) != (k : Int)))))) rfl (og rfl (op_pick rfl rfl rfl rfl)) ?_
                      refine rg_done rfl ?_
                      refine a_condF rfl (ne_self_b _) ?_
                      refine a_skip ?_
                      show A _ _ _ _ _ _ _
                      refine a_region ?_
                      refine rg_put (d := 66) (v := .d (.fl (.int .i64 (k : Int)))) rfl (og rfl (op_move rfl rfl rfl)) ?_
                      refine rg_put (d := 67) (v := .d (.fl (.int .i64 (((k : Int) + 1))))) rfl (og rfl (op_bin rfl rfl rfl (fun x y w => b_add64 _ _ _ x y w (by omega)) rfl)) ?_
                      refine rg_put (d := 9) (v := .d (.fl (.int .i64 (((k : Int) + 1))))) rfl (og rfl (op_assign rfl rfl rfl)) ?_
                      refine rg_done rfl ?_
                      show ∃ i, _ ∧ _ ∧ Imp _ _ _ _ _
                      refine ⟨k + 1, (by omega), by omega, imp_forget rfl ⟨rfl, rfl, rfl, rfl, rfl, rfl, rfl, rfl, (by first | rfl | exact ci (by omega) | exact ci (by simp) | exact cd (by simp) | simp), trivial⟩ ⟨rfl, rfl, trivial⟩⟩
                    · skip
                      refine rg_put (d := 130) (v := .d (.fl (.bool true))) rfl (oy rfl rfl rfl h27 (op_move rfl rfl rfl)) ?_
                      refine rg_put (d := 131) (v := .d (.fl (.bool (!true)))) rfl (oy rfl rfl rfl h27 (op_un rfl rfl (u_not _) rfl)) ?_
                      refine rg_put (d := 132) (v := .d (.fl (.bool (!true)))) rfl (og rfl (op_pick rfl rfl (by rw [h27]; rfl) rfl)) ?_
                      refine rg_put (d := 133) (v := .d (.fl (.bool (!true)))) rfl (og rfl (op_move rfl rfl rfl)) ?_
                      refine rg_put (d := 134) (v := .d (.ag (ePk (((pkF id l)))))) rfl (oy rfl rfl rfl rfl (of_eff (s_load_pts rfl Try.underlying33 rfl ti33 rfl rfl rfl rfl) rfl)) ?_
                      refine rg_put (d := 135) (v := .d (.ag (ePk (((Pk.mk id (oth l k im) (((pkF id l)).chain))))))) rfl (oy rfl rfl rfl rfl (of_eff (s_load_pts rfl Try.underlying33 rfl ti33 rfl rfl rfl rfl) rfl)) ?_
                      refine rg_put (d := 136) (v := .d (.fl (.int .i64 (k : Int)))) rfl (oy rfl rfl rfl rfl (op_call rfl Try.func23 nm23 rfl (.cons rfl (.d _) (.cons rfl (.d _) .nil)) (firstK (id := id) (by omega) hl20 hO h14) rfl)) ?_
                      refine rg_put (d := 137) (v := .d (.fl (.int .i64 (k : Int)))) rfl (oy rfl rfl rfl rfl (op_move rfl rfl rfl)) ?_
                      refine rg_put (d := 138) (v := .d (.fl (.bool (((k : Int) != (k : Int)))))) rfl (oy rfl rfl rfl rfl (op_bin rfl rfl rfl (b_neq _ _ _ _) rfl)) ?_
                      refine rg_put (d := 139) (v := .d (.fl (.bool (((k : Int) != (k : Int)))))) rfl (og rfl (op_pick rfl rfl rfl rfl)) ?_
                      refine rg_done rfl ?_
                      refine a_condF rfl (ne_self_b _) ?_
                      refine a_skip ?_
                      show A _ _ _ _ _ _ _
                      refine a_region ?_
                      refine rg_put (d := 66) (v := .d (.fl (.int .i64 (k : Int)))) rfl (og rfl (op_move rfl rfl rfl)) ?_
                      refine rg_put (d := 67) (v := .d (.fl (.int .i64 (((k : Int) + 1))))) rfl (og rfl (op_bin rfl rfl rfl (fun x y w => b_add64 _ _ _ x y w (by omega)) rfl)) ?_
                      refine rg_put (d := 9) (v := .d (.fl (.int .i64 (((k : Int) + 1))))) rfl (og rfl (op_assign rfl rfl rfl)) ?_
                      refine rg_done rfl ?_
                      show ∃ i, _ ∧ _ ∧ Imp _ _ _ _ _
                      refine ⟨k + 1, (by omega), by omega, imp_forget rfl ⟨rfl, rfl, rfl, rfl, rfl, rfl, rfl, rfl, (by first | rfl | exact ci (by omega) | exact ci (by simp) | exact cd (by simp) | simp), trivial⟩ ⟨rfl, rfl, trivial⟩⟩
            · skip
              have h28 := f_dec h12
              refine a_exit ?_
              show A _ _ _ _ _ _ _
              refine a_rseq ?_
              refine rg_put (d := 140) (v := .d (.fl (.bool true))) rfl (og rfl (op_call rfl Try.func11 nm11 rfl .nil awake11 rfl)) ?_
              refine rg_put (d := 6) (v := .d (.fl (.bool true))) rfl (og rfl (op_assign rfl rfl rfl)) ?_
              refine rg_done rfl ?_
              refine a_ret ?_
              show ∃ ds, ResL _ _ _ ds ∧ RV.of ds = _
              refine ⟨[.fl (.bool true)], (.cons (.tmp rfl (.d _)) .nil), ?_⟩
              rfl
          · skip
            have h29 := t_bne h10
            refine rg_put (d := 42) (v := .d (.fl undef)) rfl (on rfl rfl rfl h10) ?_
            refine rg_put (d := 43) (v := .d (.fl undef)) rfl (on rfl rfl rfl h10) ?_
            refine rg_put (d := 44) (v := .d (.fl undef)) rfl (on rfl rfl rfl h10) ?_
            refine rg_put (d := 45) (v := .d (.fl undef)) rfl (on rfl rfl rfl h10) ?_
            refine rg_put (d := 46) (v := .d (.fl undef)) rfl (on rfl rfl rfl h10) ?_
            refine rg_put (d := 47) (v := .d (.fl undef)) rfl (on rfl rfl rfl h10) ?_
            refine rg_put (d := 48) (v := .d (.fl (.bool true))) rfl (og rfl (op_pick rfl rfl (by rw [h10]; rfl) rfl)) ?_
            refine rg_put (d := 49) (v := .d (.fl (.bool true))) rfl (og rfl (op_move rfl rfl rfl)) ?_
            refine rg_put (d := 50) (v := .d (.fl undef)) rfl (on rfl rfl rfl rfl) ?_
            refine rg_put (d := 51) (v := .d (.fl undef)) rfl (on rfl rfl rfl rfl) ?_
            refine rg_put (d := 52) (v := .d (.fl undef)) rfl (on rfl rfl rfl rfl) ?_
            refine rg_put (d := 53) (v := .d (.fl undef)) rfl (on rfl rfl rfl rfl) ?_
            refine rg_put (d := 54) (v := .d (.fl undef)) rfl (on rfl rfl rfl rfl) ?_
            refine rg_put (d := 55) (v := .d (.fl undef)) rfl (on rfl rfl rfl rfl) ?_
            refine rg_put (d := 56) (v := .d (.fl (.bool true))) rfl (og rfl (op_pick rfl rfl rfl rfl)) ?_
            refine rg_done rfl ?_
            refine a_condK rfl rfl ?_
            refine a_rseq ?_
            refine rg_put (d := 57) (v := .d (.fl (.int .i64 ((bld id l).2)))) rfl (og rfl (op_move rfl rfl rfl)) ?_
            refine rg_put (d := 58) (v := .d (.fl (.bool (((bld id l).2 != 0))))) rfl (og rfl (op_bin rfl rfl rfl (b_neq _ _ _ _) rfl)) ?_
            refine rg_put (d := 59) (v := .d (.fl (.bool (((bld id l).2 != 0))))) rfl (og rfl (op_move rfl rfl rfl)) ?_
            refine rg_put (d := 60) (v := .d (.fl (.bool true))) rfl (oy rfl rfl rfl h10 (op_call rfl Try.func11 nm11 rfl .nil awake11 rfl)) ?_
            refine rg_put (d := 61) (v := .d (.fl (.bool true))) rfl (og rfl (op_pick rfl rfl (by rw [h10]; rfl) rfl)) ?_
            refine rg_put (d := 6) (v := .d (.fl (.bool true))) rfl (og rfl (op_assign rfl rfl rfl)) ?_
            refine rg_done rfl ?_
            refine a_ret ?_
            show ∃ ds, ResL _ _ _ ds ∧ RV.of ds = _
            refine ⟨[.fl (.bool true)], (.cons (.tmp rfl (.d _)) .nil), ?_⟩
            rfl
      · skip
        have h30 := t_not h5
        refine rg_put (d := 28) (v := .d (.fl undef)) rfl (on rfl rfl rfl h5) ?_
        refine rg_put (d := 29) (v := .d (.fl undef)) rfl (on rfl rfl rfl h5) ?_
        refine rg_put (d := 30) (v := .d (.fl undef)) rfl (on rfl rfl rfl h5) ?_
        refine rg_put (d := 31) (v := .d (.fl (.bool true))) rfl (og rfl (op_pick rfl rfl (by rw [h5]; rfl) rfl)) ?_
        refine rg_done rfl ?_
        refine a_condK rfl rfl ?_
        refine a_rseq ?_
        refine rg_put (d := 32) (v := .d (.fl (.bool true))) rfl (og rfl (op_call rfl Try.func11 nm11 rfl .nil awake11 rfl)) ?_
        refine rg_put (d := 6) (v := .d (.fl (.bool true))) rfl (og rfl (op_assign rfl rfl rfl)) ?_
        refine rg_done rfl ?_
        refine a_ret ?_
        show ∃ ds, ResL _ _ _ ds ∧ RV.of ds = _
        refine ⟨[.fl (.bool true)], (.cons (.tmp rfl (.d _)) .nil), ?_⟩
        rfl
    · skip
      have h31 := t_dec h3
      refine rg_put (d := 23) (v := .d (.fl undef)) rfl (on rfl rfl rfl h3) ?_
      refine rg_put (d := 24) (v := .d (.fl undef)) rfl (on rfl rfl rfl h3) ?_
      refine rg_put (d := 25) (v := .d (.fl undef)) rfl (on rfl rfl rfl h3) ?_
      refine rg_put (d := 26) (v := .d (.fl (.bool true))) rfl (og rfl (op_pick rfl rfl (by rw [h3]; rfl) rfl)) ?_
      refine rg_put (d := 27) (v := .d (.fl (.bool true))) rfl (og rfl (op_move rfl rfl rfl)) ?_
      refine rg_put (d := 28) (v := .d (.fl undef)) rfl (on rfl rfl rfl rfl) ?_
      refine rg_put (d := 29) (v := .d (.fl undef)) rfl (on rfl rfl rfl rfl) ?_
      refine rg_put (d := 30) (v := .d (.fl undef)) rfl (on rfl rfl rfl rfl) ?_
      refine rg_put (d := 31) (v := .d (.fl (.bool true))) rfl (og rfl (op_pick rfl rfl rfl rfl)) ?_
      refine rg_done rfl ?_
      refine a_condK rfl rfl ?_
      refine a_rseq ?_
      refine rg_put (d := 32) (v := .d (.fl (.bool true))) rfl (og rfl (op_call rfl Try.func11 nm11 rfl .nil awake11 rfl)) ?_
      refine rg_put (d := 6) (v := .d (.fl (.bool true))) rfl (og rfl (op_assign rfl rfl rfl)) ?_
      refine rg_done rfl ?_
      refine a_ret ?_
      show ∃ ds, ResL _ _ _ ds ∧ RV.of ds = _
      refine ⟨[.fl (.bool true)], (.cons (.tmp rfl (.d _)) .nil), ?_⟩
      rfl
  · skip
    have h32 := t_not h1
    refine rg_put (d := 18) (v := .d (.fl undef)) rfl (on rfl rfl rfl h1) ?_
    refine rg_put (d := 19) (v := .d (.fl undef)) rfl (on rfl rfl rfl h1) ?_
    refine rg_put (d := 20) (v := .d (.fl undef)) rfl (on rfl rfl rfl h1) ?_
    refine rg_put (d := 21) (v := .d (.fl (.bool true))) rfl (og rfl (op_pick rfl rfl (by rw [h1]; rfl) rfl)) ?_
    refine rg_put (d := 22) (v := .d (.fl (.bool true))) rfl (og rfl (op_move rfl rfl rfl)) ?_
    refine rg_put (d := 23) (v := .d (.fl undef)) rfl (on rfl rfl rfl rfl) ?_
    refine rg_put (d := 24) (v := .d (.fl undef)) rfl (on rfl rfl rfl rfl) ?_
    refine rg_put (d := 25) (v := .d (.fl undef)) rfl (on rfl rfl rfl rfl) ?_
    refine rg_put (d := 26) (v := .d (.fl (.bool true))) rfl (og rfl (op_pick rfl rfl rfl rfl)) ?_
    refine rg_put (d := 27) (v := .d (.fl (.bool true))) rfl (og rfl (op_move rfl rfl rfl)) ?_
    refine rg_put (d := 28) (v := .d (.fl undef)) rfl (on rfl rfl rfl rfl) ?_
    refine rg_put (d := 29) (v := .d (.fl undef)) rfl (on rfl rfl rfl rfl) ?_
    refine rg_put (d := 30) (v := .d (.fl undef)) rfl (on rfl rfl rfl rfl) ?_
    refine rg_put (d := 31) (v := .d (.fl (.bool true))) rfl (og rfl (op_pick rfl rfl rfl rfl)) ?_
    refine rg_done rfl ?_
    refine a_condK rfl rfl ?_
    refine a_rseq ?_
    refine rg_put (d := 32) (v := .d (.fl (.bool true))) rfl (og rfl (op_call rfl Try.func11 nm11 rfl .nil awake11 rfl)) ?_
    refine rg_put (d := 6) (v := .d (.fl (.bool true))) rfl (og rfl (op_assign rfl rfl rfl)) ?_
    refine rg_done rfl ?_
    refine a_ret ?_
    show ∃ ds, ResL _ _ _ ds ∧ RV.of ds = _
    refine ⟨[.fl (.bool true)], (.cons (.tmp rfl (.d _)) .nil), ?_⟩
    rfl
end Go.Proofs.Ytfkipmdaffhkbaa.Wk
