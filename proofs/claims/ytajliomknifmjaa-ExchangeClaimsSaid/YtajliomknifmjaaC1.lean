/- The law of claims. No condition. -/
import Derived.Test.YtajliomknifmjaaAl
import Derived.Test.YtajliomknifmjaaB1
set_option linter.unusedSimpArgs false
set_option linter.unusedVariables false
namespace Go.Proofs.Ytajliomknifmjaa.Wk
open Go Go.RowKit Go.Proofs.Ytajliomknifmjaa.Av
set_option maxHeartbeats 4000000 in
set_option maxRecDepth 100000 in
theorem claC (p : Ptn) (h1 : p.ours.length ≤ 200) (h2 : p.theirs.length ≤ 200) (o1 : okR p.ours) (o2 : okR p.theirs) : Ctr Try.prog 7 [.ag (ePt p)] (.tu [.fl (.int .i64 (rs p.ours p.ours.length)), .fl (.int .i64 (rs p.theirs p.theirs.length))]) := by
  refine ctr (n := 10) (rs := #[.tmp 2, .tmp 3]) (L := [(0, .d (.ag (ePt p)))]) Try.func7 rfl rfl rfl rfl rfl (fun w0 U0 => ?_)
  refine a_rseq ?_
  refine rg_nam (d := 1) (v := .pt 101 0) (m := 101) (nw := [(101, .bx 25 (ePt p))]) rfl (og rfl (of_eff (op_box 101 rfl rfl rfl rfl) rfl)) rfl ?_
  refine rg_put (d := 2) (v := .d (.fl (.int .i64 0))) rfl (og rfl (op_assign rfl rfl rfl)) ?_
  refine rg_put (d := 3) (v := .d (.fl (.int .i64 0))) rfl (og rfl (op_assign rfl rfl rfl)) ?_
  refine rg_done rfl ?_
  refine a_dseq (by kernel_rfl) ?_
  refine dr_put (d := 4) (v := .pt 101 4) rfl (og rfl (of_eff (s_field_pt rfl Try.underlying25 rfl ti23 rfl rfl rfl) rfl)) ?_
  refine dr_put (d := 5) (v := .d (.sl 5 (List.map eRec p.ours))) rfl (og rfl (op_load_pt rfl Try.underlying23 rfl rfl rfl rfl rfl)) ?_
  refine dr_put (d := 6) (v := .d (.fl (.int .i64 (rs p.ours p.ours.length)))) rfl (og rfl (op_call rfl Try.func21 nm21 rfl (.cons rfl (.d _) .nil) (sumC p.ours h1 o1) rfl)) ?_
  refine dr_put (d := 7) (v := .pt 101 5) rfl (og rfl (of_eff (s_field_pt rfl Try.underlying25 rfl ti23 rfl rfl rfl) rfl)) ?_
  refine dr_put (d := 8) (v := .d (.sl 5 (List.map eRec p.theirs))) rfl (og rfl (op_load_pt rfl Try.underlying23 rfl rfl rfl rfl rfl)) ?_
  refine dr_put (d := 9) (v := .d (.fl (.int .i64 (rs p.theirs p.theirs.length)))) rfl (og rfl (op_call rfl Try.func21 nm21 rfl (.cons rfl (.d _) .nil) (sumC p.theirs h2 o2) rfl)) ?_
  refine dr_put (d := 2) (v := .d (.fl (.int .i64 (rs p.ours p.ours.length)))) rfl (og rfl (op_assign rfl rfl rfl)) ?_
  refine dr_put (d := 3) (v := .d (.fl (.int .i64 (rs p.theirs p.theirs.length)))) rfl (og rfl (op_assign rfl rfl rfl)) ?_
  refine dr_done rfl (by kernel_rfl) (by kernel_rfl) ?_
  refine a_ret ?_
  show ∃ ds, ResL _ _ _ ds ∧ RV.of ds = _
  refine ⟨[.fl (.int .i64 (rs p.ours p.ours.length)), .fl (.int .i64 (rs p.theirs p.theirs.length))], (.cons (.tmp rfl (.d _)) (.cons (.tmp rfl (.d _)) .nil)), ?_⟩
  rfl
set_option maxHeartbeats 4000000 in
set_option maxRecDepth 100000 in
theorem claR (p : Ptn) (h1 : p.ours.length ≤ 200) (h2 : p.theirs.length ≤ 200) (o1 : okR p.ours) (o2 : okR p.theirs) : Ctr Try.prog 8 [.ag (ePt p)] (.tu [.fl (.int .i64 (rs p.ours p.ours.length)), .fl (.int .i64 (rs p.theirs p.theirs.length))]) := by
  refine ctr (n := 10) (rs := #[.tmp 2, .tmp 3]) (L := [(0, .d (.ag (ePt p)))]) Try.func8 rfl rfl rfl rfl rfl (fun w0 U0 => ?_)
  refine a_rseq ?_
  refine rg_nam (d := 1) (v := .pt 101 0) (m := 101) (nw := [(101, .bx 25 (ePt p))]) rfl (og rfl (of_eff (op_box 101 rfl rfl rfl rfl) rfl)) rfl ?_
  refine rg_put (d := 2) (v := .d (.fl (.int .i64 0))) rfl (og rfl (op_assign rfl rfl rfl)) ?_
  refine rg_put (d := 3) (v := .d (.fl (.int .i64 0))) rfl (og rfl (op_assign rfl rfl rfl)) ?_
  refine rg_done rfl ?_
  refine a_dseq (by kernel_rfl) ?_
  refine dr_put (d := 4) (v := .pt 101 4) rfl (og rfl (of_eff (s_field_pt rfl Try.underlying25 rfl ti23 rfl rfl rfl) rfl)) ?_
  refine dr_put (d := 5) (v := .d (.sl 5 (List.map eRec p.ours))) rfl (og rfl (op_load_pt rfl Try.underlying23 rfl rfl rfl rfl rfl)) ?_
  refine dr_put (d := 6) (v := .d (.fl (.int .i64 (rs p.ours p.ours.length)))) rfl (og rfl (op_call rfl Try.func22 nm22 rfl (.cons rfl (.d _) .nil) (sumR p.ours h1 o1) rfl)) ?_
  refine dr_put (d := 7) (v := .pt 101 5) rfl (og rfl (of_eff (s_field_pt rfl Try.underlying25 rfl ti23 rfl rfl rfl) rfl)) ?_
  refine dr_put (d := 8) (v := .d (.sl 5 (List.map eRec p.theirs))) rfl (og rfl (op_load_pt rfl Try.underlying23 rfl rfl rfl rfl rfl)) ?_
  refine dr_put (d := 9) (v := .d (.fl (.int .i64 (rs p.theirs p.theirs.length)))) rfl (og rfl (op_call rfl Try.func22 nm22 rfl (.cons rfl (.d _) .nil) (sumR p.theirs h2 o2) rfl)) ?_
  refine dr_put (d := 2) (v := .d (.fl (.int .i64 (rs p.ours p.ours.length)))) rfl (og rfl (op_assign rfl rfl rfl)) ?_
  refine dr_put (d := 3) (v := .d (.fl (.int .i64 (rs p.theirs p.theirs.length)))) rfl (og rfl (op_assign rfl rfl rfl)) ?_
  refine dr_done rfl (by kernel_rfl) (by kernel_rfl) ?_
  refine a_ret ?_
  show ∃ ds, ResL _ _ _ ds ∧ RV.of ds = _
  refine ⟨[.fl (.int .i64 (rs p.ours p.ours.length)), .fl (.int .i64 (rs p.theirs p.theirs.length))], (.cons (.tmp rfl (.d _)) (.cons (.tmp rfl (.d _)) .nil)), ?_⟩
  rfl
set_option maxHeartbeats 4000000 in
set_option maxRecDepth 100000 in
theorem law3 (p : Ptn) : Ctr Try.prog 3 [.ag (ePt p)] (.d (.fl (.bool true))) := by
  refine ctr (n := 63) (rs := #[.tmp 2]) (L := [(0, .d (.ag (ePt p)))]) Try.func3 rfl rfl rfl rfl rfl (fun w0 U0 => ?_)
  refine a_rseq ?_
  refine rg_nam (d := 1) (v := .pt 101 0) (m := 101) (nw := [(101, .bx 25 (ePt p))]) rfl (og rfl (of_eff (op_box 101 rfl rfl rfl rfl) rfl)) rfl ?_
  refine rg_put (d := 2) (v := .d (.fl (.bool false))) rfl (og rfl (op_assign rfl rfl rfl)) ?_
  refine rg_done rfl ?_
  refine a_seq ?_
  refine a_rseq ?_
  refine rg_put (d := 9) (v := .pt 101 4) rfl (og rfl (of_eff (s_field_pt rfl Try.underlying25 rfl ti23 rfl rfl rfl) rfl)) ?_
  refine rg_put (d := 10) (v := .d (.sl 5 (List.map eRec p.ours))) rfl (og rfl (op_load_pt rfl Try.underlying23 rfl rfl rfl rfl rfl)) ?_
  refine rg_put (d := 11) (v := .d (.fl (.int .i64 (p.ours.length : Int)))) rfl (og rfl (s_len rfl Try.underlying23 rfl rfl)) ?_
  refine rg_put (d := 12) (v := .d (.fl (.bool ((decide (200 < (p.ours.length : Int))))))) rfl (og rfl (op_bin rfl rfl rfl (b_gtr _ _ _ _) rfl)) ?_
  refine rg_put (d := 13) (v := .d (.fl (.bool ((decide (200 < (p.ours.length : Int))))))) rfl (og rfl (op_move rfl rfl rfl)) ?_
  rcases fot ((decide (200 < (p.ours.length : Int)))) with h1 | h1
  · skip
    have h2 := f_dec h1
    refine rg_put (d := 14) (v := .pt 101 5) rfl (oy rfl rfl rfl h1 (of_eff (s_field_pt rfl Try.underlying25 rfl ti23 rfl rfl rfl) rfl)) ?_
    refine rg_put (d := 15) (v := .d (.sl 5 (List.map eRec p.theirs))) rfl (oy rfl rfl rfl h1 (op_load_pt rfl Try.underlying23 rfl rfl rfl rfl rfl)) ?_
    refine rg_put (d := 16) (v := .d (.fl (.int .i64 (p.theirs.length : Int)))) rfl (oy rfl rfl rfl h1 (s_len rfl Try.underlying23 rfl rfl)) ?_
    refine rg_put (d := 17) (v := .d (.fl (.bool ((decide (200 < (p.theirs.length : Int))))))) rfl (oy rfl rfl rfl h1 (op_bin rfl rfl rfl (b_gtr _ _ _ _) rfl)) ?_
    refine rg_put (d := 18) (v := .d (.fl (.bool ((decide (200 < (p.theirs.length : Int))))))) rfl (og rfl (op_pick rfl rfl (by rw [h1]; rfl) rfl)) ?_
    refine rg_done rfl ?_
    refine a_cond rfl (fun h3 => ?_) (fun h3 => ?_)
    · skip
      have h4 := t_dec h3
      refine a_rseq ?_
      refine rg_put (d := 19) (v := .d (.fl (.bool true))) rfl (og rfl (op_call rfl Try.func6 nm6 rfl .nil aliveT rfl)) ?_
      refine rg_put (d := 2) (v := .d (.fl (.bool true))) rfl (og rfl (op_assign rfl rfl rfl)) ?_
      refine rg_done rfl ?_
      refine a_ret ?_
      show ∃ ds, ResL _ _ _ ds ∧ RV.of ds = _
      refine ⟨[.fl (.bool true)], (.cons (.tmp rfl (.d _)) .nil), ?_⟩
      rfl
    · skip
      have h5 := f_dec h3
      refine a_skip ?_
      show A _ _ _ _ _ _ _
      refine a_seq ?_
      refine a_dseq (by kernel_rfl) ?_
      refine dr_nam (d := 20) (v := .ow 102) (m := 102) (nw := [(102, .ow 28 5 (List.map eRec []))]) rfl (og rfl (of_eff (op_slice0w 102 rfl Try.underlying23 ti28 rfl) rfl)) ?_
      refine dr_put (d := 21) (v := .pt 101 4) rfl (og rfl (of_eff (s_field_pt rfl Try.underlying25 rfl ti23 rfl rfl rfl) rfl)) ?_
      refine dr_put (d := 22) (v := .d (.sl 5 (List.map eRec p.ours))) rfl (og rfl (op_load_pt rfl Try.underlying23 rfl rfl rfl rfl rfl)) ?_
      refine dr_nam (d := 23) (v := .ow 103) (m := 103) (nw := [(103, .ow 28 5 (List.map eRec ([] ++ p.ours))), (102, .no)]) rfl (og rfl (s_appendB 103 rfl Try.underlying23 ti28 rfl rfl rfl rfl rfl (.d _) (by first | omega | (simp only [List.length_append, List.length_cons, List.length_nil]; omega)) rfl)) ?_
      refine dr_put (d := 24) (v := .pt 101 5) rfl (og rfl (of_eff (s_field_pt rfl Try.underlying25 rfl ti23 rfl rfl rfl) rfl)) ?_
      refine dr_put (d := 25) (v := .d (.sl 5 (List.map eRec p.theirs))) rfl (og rfl (op_load_pt rfl Try.underlying23 rfl rfl rfl rfl rfl)) ?_
      refine dr_nam (d := 26) (v := .ow 104) (m := 104) (nw := [(104, .ow 28 5 (List.map eRec ((([] ++ p.ours) ++ p.theirs)))), (103, .no)]) rfl (og rfl (s_appendB 104 rfl Try.underlying23 ti28 rfl rfl rfl rfl rfl (.d _) (by first | omega | (simp only [List.length_append, List.length_cons, List.length_nil]; omega)) rfl)) ?_
      refine dr_put (d := 27) (v := .d (.fl (.int .i64 ((((([] ++ p.ours) ++ p.theirs)).length : Int))))) rfl (og rfl (s_len_ow rfl Try.underlying23 rfl rfl rfl)) ?_
      refine dr_put (d := 28) (v := .d (.fl (.int .i64 0))) rfl (og rfl (op_move rfl rfl rfl)) ?_
      refine dr_done rfl (by kernel_rfl) (by kernel_rfl) ?_
      refine a_block ?_
      refine a_loop (ι := Nat) (fun k => SS [(0, .d (.ag (ePt p))), (1, .pt 101 0), (18, .d (.fl (.bool ((decide (200 < (p.theirs.length : Int))))))), (26, .ow 104), (27, .d (.fl (.int .i64 ((((([] ++ p.ours) ++ p.theirs)).length : Int))))), (28, .d (.fl (.int .i64 (k : Int))))] [(101, .bx 25 (ePt p)), (104, .ow 28 5 (List.map eRec ((([] ++ p.ours) ++ p.theirs))))]) (fun k => k ≤ (([] ++ p.ours) ++ p.theirs).length ∧ ∀ q, q < k → -1125899906842624 ≤ (ix (([] ++ p.ours) ++ p.theirs) q).cents ∧ (ix (([] ++ p.ours) ++ p.theirs) q).cents ≤ 1125899906842624) (fun k => (([] ++ p.ours) ++ p.theirs).length - k) 0 (⟨by omega, fun q h => by omega⟩) (imp_forget rfl ⟨rfl, rfl, rfl, rfl, rfl, (by first | rfl | exact ci (by omega) | exact ci (by simp) | exact cd (by simp) | simp), trivial⟩ ⟨rfl, rfl, trivial⟩) (fun k hok => ?_)
      obtain ⟨hk, hq⟩ := hok
      have hAl : (([] ++ p.ours) ++ p.theirs).length ≤ 400 := by simp only [List.length_append, List.length_nil]; omega
      refine a_rseq ?_
      refine rg_put (d := 29) (v := .d (.fl (.bool ((decide ((k : Int) < (((([] ++ p.ours) ++ p.theirs)).length : Int))))))) rfl (og rfl (op_bin rfl rfl rfl (b_lss _ _ _ _) rfl)) ?_
      refine rg_done rfl ?_
      refine a_seq ?_
      refine a_cond rfl (fun h6 => ?_) (fun h6 => ?_)
      · skip
        have h7 := t_dec h6
        refine a_skip ?_
        show A _ _ _ _ _ _ _
        refine a_seq ?_
        refine a_block ?_
        refine a_rseq ?_
        refine rg_put (d := 30) (v := .el ((eRec ((ix ((([] ++ p.ours) ++ p.theirs)) k))))) rfl (og rfl (s_index_ow rfl Try.underlying23 ti28 rfl rfl rfl (by omega) (row_at (by omega)) rfl)) ?_
        refine rg_put (d := 31) (v := .d (.ag (eRec (((ix ((([] ++ p.ours) ++ p.theirs)) k)))))) rfl (og rfl (of_eff (s_load_els rfl Try.underlying28 rfl ti28 rfl rfl rfl) rfl)) ?_
        refine rg_nam (d := 4) (v := .pt 105 0) (m := 105) (nw := [(105, .bx 28 ([.fl (.int .i64 0), .fl (.string (⟨#[]⟩)), .fl (.int .i64 0), .fl (.int .i64 0), .fl (.int .i64 0)]))]) rfl (og rfl (of_eff (s_alloc 105 rfl ti28 (by kernel_rfl) rfl) rfl)) rfl ?_
        refine rg_sto (nw := [(105, .bx 28 ((eRec (((ix ((([] ++ p.ours) ++ p.theirs)) k))))))]) rfl (og rfl (of_eff (s_store rfl rfl ti28 rfl rfl rfl rfl rfl rfl) rfl)) ?_
        refine rg_done rfl ?_
        refine a_rseq ?_
        refine rg_put (d := 32) (v := .pt 105 3) rfl (og rfl (of_eff (s_field_pt rfl Try.underlying28 rfl ti3 rfl rfl rfl) rfl)) ?_
        refine rg_put (d := 33) (v := .d (.fl (.int .i64 ((((ix ((([] ++ p.ours) ++ p.theirs)) k))).cents)))) rfl (og rfl (op_load_pt rfl Try.underlying3 rfl rfl rfl rfl rfl)) ?_
        refine rg_put (d := 34) (v := .d (.fl (.bool ((decide ((((ix ((([] ++ p.ours) ++ p.theirs)) k))).cents < (-1125899906842624))))))) rfl (og rfl (op_bin rfl rfl rfl (b_lss _ _ _ _) rfl)) ?_
        refine rg_put (d := 35) (v := .d (.fl (.bool ((decide ((((ix ((([] ++ p.ours) ++ p.theirs)) k))).cents < (-1125899906842624))))))) rfl (og rfl (op_move rfl rfl rfl)) ?_
        rcases fot ((decide ((((ix ((([] ++ p.ours) ++ p.theirs)) k))).cents < (-1125899906842624)))) with h8 | h8
        · skip
          have h9 := f_dec h8
          refine rg_put (d := 36) (v := .pt 105 3) rfl (oy rfl rfl rfl h8 (of_eff (s_field_pt rfl Try.underlying28 rfl ti3 rfl rfl rfl) rfl)) ?_
          refine rg_put (d := 37) (v := .d (.fl (.int .i64 ((((ix ((([] ++ p.ours) ++ p.theirs)) k))).cents)))) rfl (oy rfl rfl rfl h8 (op_load_pt rfl Try.underlying3 rfl rfl rfl rfl rfl)) ?_
          refine rg_put (d := 38) (v := .d (.fl (.bool ((decide (1125899906842624 < (((ix ((([] ++ p.ours) ++ p.theirs)) k))).cents)))))) rfl (oy rfl rfl rfl h8 (op_bin rfl rfl rfl (b_gtr _ _ _ _) rfl)) ?_
          refine rg_put (d := 39) (v := .d (.fl (.bool ((decide (1125899906842624 < (((ix ((([] ++ p.ours) ++ p.theirs)) k))).cents)))))) rfl (og rfl (op_pick rfl rfl (by rw [h8]; rfl) rfl)) ?_
          refine rg_done rfl ?_
          refine a_cond rfl (fun h10 => ?_) (fun h10 => ?_)
          · skip
            have h11 := t_dec h10
            refine a_rseq ?_
            refine rg_put (d := 40) (v := .d (.fl (.bool true))) rfl (og rfl (op_call rfl Try.func6 nm6 rfl .nil aliveT rfl)) ?_
            refine rg_put (d := 2) (v := .d (.fl (.bool true))) rfl (og rfl (op_assign rfl rfl rfl)) ?_
            refine rg_done rfl ?_
            refine a_ret ?_
            show ∃ ds, ResL _ _ _ ds ∧ RV.of ds = _
            refine ⟨[.fl (.bool true)], (.cons (.tmp rfl (.d _)) .nil), ?_⟩
            rfl
          · skip
            have h12 := f_dec h10
            refine a_skip ?_
            show A _ _ _ _ _ _ _
            refine a_region ?_
            refine rg_put (d := 41) (v := .d (.fl (.int .i64 (((k : Int) + 1))))) rfl (og rfl (op_bin rfl rfl rfl (fun x y w => b_add64 _ _ _ x y w (by omega)) rfl)) ?_
            refine rg_put (d := 28) (v := .d (.fl (.int .i64 (((k : Int) + 1))))) rfl (og rfl (op_move rfl rfl rfl)) ?_
            refine rg_done rfl ?_
            show ∃ i, _ ∧ _ ∧ Imp _ _ _ _ _
            refine ⟨k + 1, ⟨by omega, fun q h => (Nat.lt_succ_iff_lt_or_eq.1 h).elim (hq q) (fun e => by rw [e]; exact ⟨by omega, by omega⟩)⟩, by omega, imp_forget rfl ⟨rfl, rfl, rfl, rfl, rfl, (by first | rfl | exact ci (by omega) | exact ci (by simp) | exact cd (by simp) | simp), trivial⟩ ⟨rfl, rfl, trivial⟩⟩
        · skip
          have h13 := t_dec h8
          refine rg_put (d := 36) (v := .d (.fl undef)) rfl (on rfl rfl rfl h8) ?_
          refine rg_put (d := 37) (v := .d (.fl undef)) rfl (on rfl rfl rfl h8) ?_
          refine rg_put (d := 38) (v := .d (.fl undef)) rfl (on rfl rfl rfl h8) ?_
          refine rg_put (d := 39) (v := .d (.fl (.bool true))) rfl (og rfl (op_pick rfl rfl (by rw [h8]; rfl) rfl)) ?_
          refine rg_done rfl ?_
          refine a_condK rfl rfl ?_
          refine a_rseq ?_
          refine rg_put (d := 40) (v := .d (.fl (.bool true))) rfl (og rfl (op_call rfl Try.func6 nm6 rfl .nil aliveT rfl)) ?_
          refine rg_put (d := 2) (v := .d (.fl (.bool true))) rfl (og rfl (op_assign rfl rfl rfl)) ?_
          refine rg_done rfl ?_
          refine a_ret ?_
          show ∃ ds, ResL _ _ _ ds ∧ RV.of ds = _
          refine ⟨[.fl (.bool true)], (.cons (.tmp rfl (.d _)) .nil), ?_⟩
          rfl
      · skip
        have h14 := f_dec h6
        refine a_exit ?_
        show A _ _ _ _ _ _ _
        refine a_rseq ?_
        have hall : okR (([] ++ p.ours) ++ p.theirs) := fun r hr => by obtain ⟨q, hq1, rfl⟩ := mem_ix hr; exact hq q (by omega)
        have o1 : okR p.ours := fun r hr => hall r (by simp [hr])
        have o2 : okR p.theirs := fun r hr => hall r (by simp [hr])
        refine rg_put (d := 43) (v := .d (.ag (ePt p))) rfl (og rfl (of_eff (s_load_pts rfl Try.underlying25 rfl ti25 rfl rfl rfl rfl) rfl)) ?_
        refine rg_put (d := 44) (v := .tu [.fl (.int .i64 (rs p.ours p.ours.length)), .fl (.int .i64 (rs p.theirs p.theirs.length))]) rfl (og rfl (op_call rfl Try.func7 nm7 rfl (.cons rfl (.d _) .nil) (claC p (by omega) (by omega) o1 o2) rfl)) ?_
        refine rg_put (d := 42) (v := .tu [.fl (.int .i64 (rs p.ours p.ours.length)), .fl (.int .i64 (rs p.theirs p.theirs.length))]) rfl (og rfl (op_move rfl rfl rfl)) ?_
        refine rg_put (d := 45) (v := .d (.fl (.int .i64 (rs p.ours p.ours.length)))) rfl (og rfl (op_extract rfl rfl rfl rfl)) ?_
        refine rg_put (d := 46) (v := .d (.fl (.int .i64 (rs p.theirs p.theirs.length)))) rfl (og rfl (op_extract rfl rfl rfl rfl)) ?_
        refine rg_put (d := 5) (v := .d (.fl (.int .i64 (rs p.ours p.ours.length)))) rfl (og rfl (op_assign rfl rfl rfl)) ?_
        refine rg_put (d := 6) (v := .d (.fl (.int .i64 (rs p.theirs p.theirs.length)))) rfl (og rfl (op_assign rfl rfl rfl)) ?_
        refine rg_done rfl ?_
        refine a_rseq ?_
        refine rg_put (d := 48) (v := .d (.ag (ePt p))) rfl (og rfl (of_eff (s_load_pts rfl Try.underlying25 rfl ti25 rfl rfl rfl rfl) rfl)) ?_
        refine rg_put (d := 49) (v := .tu [.fl (.int .i64 (rs p.ours p.ours.length)), .fl (.int .i64 (rs p.theirs p.theirs.length))]) rfl (og rfl (op_call rfl Try.func8 nm8 rfl (.cons rfl (.d _) .nil) (claR p (by omega) (by omega) o1 o2) rfl)) ?_
        refine rg_put (d := 47) (v := .tu [.fl (.int .i64 (rs p.ours p.ours.length)), .fl (.int .i64 (rs p.theirs p.theirs.length))]) rfl (og rfl (op_move rfl rfl rfl)) ?_
        refine rg_put (d := 50) (v := .d (.fl (.int .i64 (rs p.ours p.ours.length)))) rfl (og rfl (op_extract rfl rfl rfl rfl)) ?_
        refine rg_put (d := 51) (v := .d (.fl (.int .i64 (rs p.theirs p.theirs.length)))) rfl (og rfl (op_extract rfl rfl rfl rfl)) ?_
        refine rg_put (d := 7) (v := .d (.fl (.int .i64 (rs p.ours p.ours.length)))) rfl (og rfl (op_assign rfl rfl rfl)) ?_
        refine rg_put (d := 8) (v := .d (.fl (.int .i64 (rs p.theirs p.theirs.length)))) rfl (og rfl (op_assign rfl rfl rfl)) ?_
        refine rg_done rfl ?_
        refine a_rseq ?_
        refine rg_put (d := 52) (v := .d (.fl (.int .i64 (rs p.ours p.ours.length)))) rfl (og rfl (op_move rfl rfl rfl)) ?_
        refine rg_put (d := 53) (v := .d (.fl (.int .i64 (rs p.ours p.ours.length)))) rfl (og rfl (op_move rfl rfl rfl)) ?_
        refine rg_put (d := 54) (v := .d (.fl (.bool (((rs p.ours p.ours.length) == (rs p.ours p.ours.length)))))) rfl (og rfl (op_bin rfl rfl rfl (b_eql _ _ _ _) rfl)) ?_
        refine rg_put (d := 55) (v := .d (.fl (.bool (((rs p.ours p.ours.length) == (rs p.ours p.ours.length)))))) rfl (og rfl (op_move rfl rfl rfl)) ?_
        refine rg_put (d := 56) (v := .d (.fl (.int .i64 (rs p.theirs p.theirs.length)))) rfl (oy rfl rfl rfl (beq_self_eq_true _) (op_move rfl rfl rfl)) ?_
        refine rg_put (d := 57) (v := .d (.fl (.int .i64 (rs p.theirs p.theirs.length)))) rfl (oy rfl rfl rfl (beq_self_eq_true _) (op_move rfl rfl rfl)) ?_
        refine rg_put (d := 58) (v := .d (.fl (.bool (((rs p.theirs p.theirs.length) == (rs p.theirs p.theirs.length)))))) rfl (oy rfl rfl rfl (beq_self_eq_true _) (op_bin rfl rfl rfl (b_eql _ _ _ _) rfl)) ?_
        refine rg_put (d := 59) (v := .d (.fl (.bool (((rs p.theirs p.theirs.length) == (rs p.theirs p.theirs.length)))))) rfl (og rfl (op_pick rfl rfl (by rw [(beq_self_eq_true _)]; rfl) rfl)) ?_
        refine rg_put (d := 60) (v := .d (.fl (.bool (((rs p.theirs p.theirs.length) == (rs p.theirs p.theirs.length)))))) rfl (og rfl (op_move rfl rfl rfl)) ?_
        refine rg_put (d := 61) (v := .d (.fl (.bool true))) rfl (oy rfl rfl rfl (beq_self_eq_true _) (op_call rfl Try.func6 nm6 rfl .nil aliveT rfl)) ?_
        refine rg_put (d := 62) (v := .d (.fl (.bool true))) rfl (og rfl (op_pick rfl rfl (by rw [(beq_self_eq_true _)]; rfl) rfl)) ?_
        refine rg_put (d := 2) (v := .d (.fl (.bool true))) rfl (og rfl (op_assign rfl rfl rfl)) ?_
        refine rg_done rfl ?_
        refine a_ret ?_
        show ∃ ds, ResL _ _ _ ds ∧ RV.of ds = _
        refine ⟨[.fl (.bool true)], (.cons (.tmp rfl (.d _)) .nil), ?_⟩
        rfl
  · skip
    have h15 := t_dec h1
    refine rg_put (d := 14) (v := .d (.fl undef)) rfl (on rfl rfl rfl h1) ?_
    refine rg_put (d := 15) (v := .d (.fl undef)) rfl (on rfl rfl rfl h1) ?_
    refine rg_put (d := 16) (v := .d (.fl undef)) rfl (on rfl rfl rfl h1) ?_
    refine rg_put (d := 17) (v := .d (.fl undef)) rfl (on rfl rfl rfl h1) ?_
    refine rg_put (d := 18) (v := .d (.fl (.bool true))) rfl (og rfl (op_pick rfl rfl (by rw [h1]; rfl) rfl)) ?_
    refine rg_done rfl ?_
    refine a_condK rfl rfl ?_
    refine a_rseq ?_
    refine rg_put (d := 19) (v := .d (.fl (.bool true))) rfl (og rfl (op_call rfl Try.func6 nm6 rfl .nil aliveT rfl)) ?_
    refine rg_put (d := 2) (v := .d (.fl (.bool true))) rfl (og rfl (op_assign rfl rfl rfl)) ?_
    refine rg_done rfl ?_
    refine a_ret ?_
    show ∃ ds, ResL _ _ _ ds ∧ RV.of ds = _
    refine ⟨[.fl (.bool true)], (.cons (.tmp rfl (.d _)) .nil), ?_⟩
    rfl
end Go.Proofs.Ytajliomknifmjaa.Wk
