/- The part, the other side; the law of checks. Conditions: as each theorem names them. -/
import Derived.Test.YtacbipoplnfmoaaAl
import Derived.Test.YtacbipoplnfmoaaB1
set_option linter.unusedSimpArgs false
set_option linter.unusedVariables false
namespace Go.Proofs.Ytacbipoplnfmoaa.Wk
open Go Go.RowKit Go.Proofs.Ytacbipoplnfmoaa.Av
def inn (l : List Rl) (ks : List Int) (i j : Nat) : Int := if 0 < cn ks (ix l i).kind j then max (mx l ks i) (ix l i).part else mx l ks i
theorem inn_no {l : List Rl} {ks : List Int} {i j : Nat} (h : ¬ (1 ≤ ix ks j ∧ ix ks j ≤ 3) ∨ ¬ ((ix l i).kind = 0 ∨ ix ks j = (ix l i).kind)) : inn l ks i j = inn l ks i (j + 1) := by unfold inn; rw [← cn_no h]
theorem inn_new {l : List Rl} {ks : List Int} {i j : Nat} (h1 : 1 ≤ ix ks j ∧ ix ks j ≤ 3) (h2 : (ix l i).kind = 0 ∨ ix ks j = (ix l i).kind) (h3 : inn l ks i j < (ix l i).part) : (ix l i).part = inn l ks i (j + 1) := by
  have hc := cn_yes (ks := ks) (k := j) h1 h2
  have hb := (cn_in ks (ix l i).kind j).1
  unfold inn at h3 ⊢
  rw [if_pos (by omega)]
  split at h3 <;> omega
theorem inn_old {l : List Rl} {ks : List Int} {i j : Nat} (h1 : 1 ≤ ix ks j ∧ ix ks j ≤ 3) (h2 : (ix l i).kind = 0 ∨ ix ks j = (ix l i).kind) (h3 : ¬ inn l ks i j < (ix l i).part) : inn l ks i j = inn l ks i (j + 1) := by
  have hc := cn_yes (ks := ks) (k := j) h1 h2
  have hb := (cn_in ks (ix l i).kind j).1
  unfold inn at h3 ⊢
  rw [if_pos (by omega : 0 < cn ks (ix l i).kind (j + 1))]
  split at h3 <;> rename_i h4
  · rw [if_pos h4]
  · rw [if_neg h4]; omega

set_option maxHeartbeats 4000000 in
set_option maxRecDepth 100000 in
theorem prt9 (l : List Rl) (ks : List Int) (hl : l.length ≤ 14) (hs : ks.length ≤ 20) : Ctr Try.prog 9 [.sl 2 (List.map eRl l), .sl 1 (List.map (rI .i64) ks)] (.d (.fl (.int .i64 (prt l ks)))) := by
  refine ctr (n := 72) (rs := #[.tmp 4]) (L := [(0, .d (.sl 2 (List.map eRl l))), (1, .d (.sl 1 (List.map (rI .i64) ks)))]) Try.func9 rfl rfl rfl rfl rfl (fun w0 U0 => ?_)
  refine a_rseq ?_
  refine rg_put (d := 4) (v := .d (.fl (.int .i64 0))) rfl (og rfl (op_assign rfl rfl rfl)) ?_
  refine rg_done rfl ?_
  refine a_seq ?_
  refine a_rseq ?_
  refine rg_put (d := 9) (v := .d (.sl 2 (List.map eRl l))) rfl (og rfl (op_move rfl rfl rfl)) ?_
  refine rg_put (d := 10) (v := .d (.fl (.int .i64 (chk l)))) rfl (og rfl (op_call rfl Try.func7 nm7 rfl (.cons rfl (.d _) .nil) (chk7 l (by omega)) rfl)) ?_
  refine rg_put (d := 11) (v := .d (.fl (.bool (((chk l) != 0))))) rfl (og rfl (op_bin rfl rfl rfl (b_neq _ _ _ _) rfl)) ?_
  refine rg_done rfl ?_
  refine a_cond rfl (fun h1 => ?_) (fun h1 => ?_)
  · skip
    have h2 := t_bne h1
    refine a_rseq ?_
    refine rg_put (d := 4) (v := .d (.fl (.int .i64 0))) rfl (og rfl (op_assign rfl rfl rfl)) ?_
    refine rg_done rfl ?_
    refine a_ret ?_
    show ∃ ds, ResL _ _ _ ds ∧ RV.of ds = _
    refine ⟨[.fl (.int .i64 0)], (.cons (.tmp rfl (.d _)) .nil), ?_⟩
    rw [prt_no (t_bne h1)]; rfl
  · skip
    have h3 := f_bne h1
    refine a_skip ?_
    show A _ _ _ _ _ _ _
    refine a_rseq ?_
    refine rg_put (d := 5) (v := .d (.fl (.int .i64 0))) rfl (og rfl (op_assign rfl rfl rfl)) ?_
    refine rg_done rfl ?_
    refine a_seq ?_
    refine a_rseq ?_
    refine rg_put (d := 6) (v := .d (.fl (.int .i64 0))) rfl (og rfl (op_assign rfl rfl rfl)) ?_
    refine rg_done rfl ?_
    refine a_block ?_
    refine a_loop (ι := Nat) (fun i => SS [(0, .d (.sl 2 (List.map eRl l))), (1, .d (.sl 1 (List.map (rI .i64) ks))), (4, .d (.fl (.int .i64 0))), (11, .d (.fl (.bool (((chk l) != 0))))), (6, .d (.fl (.int .i64 (i : Int)))), (5, .d (.fl (.int .i64 (mx l ks i))))] []) (fun i => i ≤ l.length) (fun i => l.length - i) 0 (by omega) (imp_forget rfl ⟨rfl, rfl, rfl, rfl, (by first | rfl | exact ci (by omega) | exact ci (by simp) | exact cd (by simp) | simp), rfl, trivial⟩ trivial) (fun i hok => ?_)
    have hi := hok
    refine a_seq ?_
    refine a_rseq ?_
    refine rg_put (d := 12) (v := .d (.fl (.int .i64 (i : Int)))) rfl (og rfl (op_move rfl rfl rfl)) ?_
    refine rg_put (d := 13) (v := .d (.sl 2 (List.map eRl l))) rfl (og rfl (op_move rfl rfl rfl)) ?_
    refine rg_put (d := 14) (v := .d (.fl (.int .i64 (l.length : Int)))) rfl (og rfl (s_len rfl Try.underlying22 rfl rfl)) ?_
    refine rg_put (d := 15) (v := .d (.fl (.bool ((decide ((i : Int) < (l.length : Int))))))) rfl (og rfl (op_bin rfl rfl rfl (b_lss _ _ _ _) rfl)) ?_
    refine rg_done rfl ?_
    refine a_cond rfl (fun h4 => ?_) (fun h4 => ?_)
    · skip
      have h5 := t_dec h4
      refine a_skip ?_
      show A _ _ _ _ _ _ _
      refine a_seq ?_
      refine a_block ?_
      refine a_rseq ?_
      refine rg_put (d := 7) (v := .d (.fl (.int .i64 0))) rfl (og rfl (op_assign rfl rfl rfl)) ?_
      refine rg_done rfl ?_
      refine a_block ?_
      refine a_loop (ι := Nat) (fun j => SS [(0, .d (.sl 2 (List.map eRl l))), (1, .d (.sl 1 (List.map (rI .i64) ks))), (4, .d (.fl (.int .i64 0))), (6, .d (.fl (.int .i64 (i : Int)))), (11, .d (.fl (.bool (((chk l) != 0))))), (15, .d (.fl (.bool ((decide ((i : Int) < (l.length : Int))))))), (7, .d (.fl (.int .i64 (j : Int)))), (5, .d (.fl (.int .i64 (inn l ks i j))))] []) (fun j => j ≤ ks.length) (fun j => ks.length - j) 0 (by omega) (imp_forget rfl ⟨rfl, rfl, rfl, rfl, rfl, rfl, (by first | rfl | exact ci (by omega) | exact ci (by simp) | exact cd (by simp) | simp), (congrArg (fun z => AV.d (.fl (.int .i64 z))) (show mx l ks i = inn l ks i 0 from rfl)), trivial⟩ trivial) (fun j hok => ?_)
      have hj := hok
      refine a_seq ?_
      refine a_rseq ?_
      refine rg_put (d := 18) (v := .d (.fl (.int .i64 (j : Int)))) rfl (og rfl (op_move rfl rfl rfl)) ?_
      refine rg_put (d := 19) (v := .d (.sl 1 (List.map (rI .i64) ks))) rfl (og rfl (op_move rfl rfl rfl)) ?_
      refine rg_put (d := 20) (v := .d (.fl (.int .i64 (ks.length : Int)))) rfl (og rfl (s_len rfl Try.underlying23 rfl rfl)) ?_
      refine rg_put (d := 21) (v := .d (.fl (.bool ((decide ((j : Int) < (ks.length : Int))))))) rfl (og rfl (op_bin rfl rfl rfl (b_lss _ _ _ _) rfl)) ?_
      refine rg_done rfl ?_
      refine a_cond rfl (fun h6 => ?_) (fun h6 => ?_)
      · skip
        have h7 := t_dec h6
        refine a_skip ?_
        show A _ _ _ _ _ _ _
        refine a_seq ?_
        refine a_block ?_
        refine a_rseq ?_
        refine rg_put (d := 24) (v := .d (.sl 1 (List.map (rI .i64) ks))) rfl (og rfl (op_move rfl rfl rfl)) ?_
        refine rg_put (d := 25) (v := .d (.fl (.int .i64 (j : Int)))) rfl (og rfl (op_move rfl rfl rfl)) ?_
        refine rg_put (d := 26) (v := .el ((rI .i64 (ix ks j)))) rfl (og rfl (s_index rfl Try.underlying23 ti3 rfl rfl (by omega) (row_at (by omega)) rfl)) ?_
        refine rg_put (d := 27) (v := .d (.fl (.int .i64 (ix ks j)))) rfl (og rfl (op_load_el rfl Try.underlying3 rfl rfl rfl rfl)) ?_
        refine rg_put (d := 28) (v := .d (.fl (.bool ((decide (1 ≤ (ix ks j))))))) rfl (og rfl (op_bin rfl rfl rfl (b_geq _ _ _ _) rfl)) ?_
        refine rg_put (d := 29) (v := .d (.fl (.bool ((decide (1 ≤ (ix ks j))))))) rfl (og rfl (op_move rfl rfl rfl)) ?_
        rcases fot ((decide (1 ≤ (ix ks j)))) with h8 | h8
        · skip
          have h9 := f_dec h8
          refine rg_put (d := 30) (v := .d (.fl undef)) rfl (on rfl rfl rfl h8) ?_
          refine rg_put (d := 31) (v := .d (.fl undef)) rfl (on rfl rfl rfl h8) ?_
          refine rg_put (d := 32) (v := .d (.fl undef)) rfl (on rfl rfl rfl h8) ?_
          refine rg_put (d := 33) (v := .d (.fl undef)) rfl (on rfl rfl rfl h8) ?_
          refine rg_put (d := 34) (v := .d (.fl undef)) rfl (on rfl rfl rfl h8) ?_
          refine rg_put (d := 35) (v := .d (.fl (.bool false))) rfl (og rfl (op_pick rfl rfl (by rw [h8]; rfl) rfl)) ?_
          refine rg_put (d := 8) (v := .d (.fl (.bool false))) rfl (og rfl (op_assign rfl rfl rfl)) ?_
          refine rg_done rfl ?_
          refine a_dseq (by kernel_rfl) ?_
          refine dr_put (d := 36) (v := .d (.fl (.bool false))) rfl (og rfl (op_move rfl rfl rfl)) ?_
          refine dr_put (d := 37) (v := .d (.fl (.bool false))) rfl (og rfl (op_move rfl rfl rfl)) ?_
          refine dr_put (d := 38) (v := .d (.fl undef)) rfl (on rfl rfl rfl rfl) ?_
          refine dr_put (d := 39) (v := .d (.fl undef)) rfl (on rfl rfl rfl rfl) ?_
          refine dr_put (d := 40) (v := .d (.fl undef)) rfl (on rfl rfl rfl rfl) ?_
          refine dr_put (d := 41) (v := .d (.fl undef)) rfl (on rfl rfl rfl rfl) ?_
          refine dr_put (d := 42) (v := .d (.fl undef)) rfl (on rfl rfl rfl rfl) ?_
          refine dr_put (d := 43) (v := .d (.fl undef)) rfl (on rfl rfl rfl rfl) ?_
          refine dr_put (d := 44) (v := .d (.fl undef)) rfl (on rfl rfl rfl rfl) ?_
          refine dr_put (d := 45) (v := .d (.fl undef)) rfl (ou rfl rfl rfl) ?_
          refine dr_put (d := 46) (v := .d (.fl undef)) rfl (ou rfl rfl rfl) ?_
          refine dr_put (d := 47) (v := .d (.fl undef)) rfl (ou rfl rfl rfl) ?_
          refine dr_put (d := 48) (v := .d (.fl undef)) rfl (ou rfl rfl rfl) ?_
          refine dr_put (d := 49) (v := .d (.fl undef)) rfl (ou rfl rfl rfl) ?_
          refine dr_put (d := 50) (v := .d (.fl undef)) rfl (ou rfl rfl rfl) ?_
          refine dr_put (d := 51) (v := .d (.fl undef)) rfl (ou rfl rfl rfl) ?_
          refine dr_put (d := 52) (v := .d (.fl undef)) rfl (ou rfl rfl rfl) ?_
          refine dr_put (d := 53) (v := .d (.fl undef)) rfl (ou rfl rfl rfl) ?_
          refine dr_put (d := 54) (v := .d (.fl undef)) rfl (ou rfl rfl rfl) ?_
          refine dr_put (d := 55) (v := .d (.fl undef)) rfl (on rfl rfl rfl rfl) ?_
          refine dr_put (d := 56) (v := .d (.fl (.bool false))) rfl (og rfl (op_pick rfl rfl rfl rfl)) ?_
          refine dr_put (d := 57) (v := .d (.fl (.bool false))) rfl (og rfl (op_move rfl rfl rfl)) ?_
          refine dr_put (d := 58) (v := .d (.fl undef)) rfl (on rfl rfl rfl rfl) ?_
          refine dr_put (d := 59) (v := .d (.fl undef)) rfl (on rfl rfl rfl rfl) ?_
          refine dr_put (d := 60) (v := .d (.fl undef)) rfl (on rfl rfl rfl rfl) ?_
          refine dr_put (d := 61) (v := .d (.fl undef)) rfl (on rfl rfl rfl rfl) ?_
          refine dr_put (d := 62) (v := .d (.fl undef)) rfl (on rfl rfl rfl rfl) ?_
          refine dr_put (d := 63) (v := .d (.fl undef)) rfl (on rfl rfl rfl rfl) ?_
          refine dr_put (d := 64) (v := .d (.fl undef)) rfl (on rfl rfl rfl rfl) ?_
          refine dr_put (d := 65) (v := .d (.fl (.bool false))) rfl (og rfl (op_pick rfl rfl rfl rfl)) ?_
          refine dr_done rfl (sepB_of [0, 1, 3, 3, 15, 31, 63, 127, 255, 511, 511, 2047, 4095, 8191, 511, 511, 49663, 115199, 262143, 524287, 1048575, 2097151, 4194303, 4194303, 16777215, 33554431, 67108863, 4194303, 268435455, 536870911] (by kernel_rfl)) (by kernel_rfl) ?_
          refine a_condF rfl rfl ?_
          refine a_skip ?_
          show A _ _ _ _ _ _ _
          refine a_region ?_
          refine rg_put (d := 22) (v := .d (.fl (.int .i64 (j : Int)))) rfl (og rfl (op_move rfl rfl rfl)) ?_
          refine rg_put (d := 23) (v := .d (.fl (.int .i64 (((j : Int) + 1))))) rfl (og rfl (op_bin rfl rfl rfl (fun x y w => b_add64 _ _ _ x y w (by omega)) rfl)) ?_
          refine rg_put (d := 7) (v := .d (.fl (.int .i64 (((j : Int) + 1))))) rfl (og rfl (op_assign rfl rfl rfl)) ?_
          refine rg_done rfl ?_
          show ∃ i, _ ∧ _ ∧ Imp _ _ _ _ _
          refine ⟨j + 1, (by omega), by omega, imp_forget rfl ⟨rfl, rfl, rfl, rfl, rfl, rfl, (by first | rfl | exact ci (by omega) | exact ci (by simp) | exact cd (by simp) | simp), (congrArg (fun z => AV.d (.fl (.int .i64 z))) (inn_no (.inl (by omega)))), trivial⟩ trivial⟩
        · skip
          have h10 := t_dec h8
          refine rg_put (d := 30) (v := .d (.sl 1 (List.map (rI .i64) ks))) rfl (oy rfl rfl rfl h8 (op_move rfl rfl rfl)) ?_
          refine rg_put (d := 31) (v := .d (.fl (.int .i64 (j : Int)))) rfl (oy rfl rfl rfl h8 (op_move rfl rfl rfl)) ?_
          refine rg_put (d := 32) (v := .el ((rI .i64 (ix ks j)))) rfl (oy rfl rfl rfl h8 (s_index rfl Try.underlying23 ti3 rfl rfl (by omega) (row_at (by omega)) rfl)) ?_
          refine rg_put (d := 33) (v := .d (.fl (.int .i64 (ix ks j)))) rfl (oy rfl rfl rfl h8 (op_load_el rfl Try.underlying3 rfl rfl rfl rfl)) ?_
          refine rg_put (d := 34) (v := .d (.fl (.bool ((decide ((ix ks j) ≤ 3)))))) rfl (oy rfl rfl rfl h8 (op_bin rfl rfl rfl (b_leq _ _ _ _) rfl)) ?_
          refine rg_put (d := 35) (v := .d (.fl (.bool ((decide ((ix ks j) ≤ 3)))))) rfl (og rfl (op_pick rfl rfl (by rw [h8]; rfl) rfl)) ?_
          refine rg_put (d := 8) (v := .d (.fl (.bool ((decide ((ix ks j) ≤ 3)))))) rfl (og rfl (op_assign rfl rfl rfl)) ?_
          refine rg_done rfl ?_
          refine a_dseq (by kernel_rfl) ?_
          refine dr_put (d := 36) (v := .d (.fl (.bool ((decide ((ix ks j) ≤ 3)))))) rfl (og rfl (op_move rfl rfl rfl)) ?_
          refine dr_put (d := 37) (v := .d (.fl (.bool ((decide ((ix ks j) ≤ 3)))))) rfl (og rfl (op_move rfl rfl rfl)) ?_
          rcases fot ((decide ((ix ks j) ≤ 3))) with h11 | h11
          · skip
            have h12 := f_dec h11
            refine dr_put (d := 38) (v := .d (.fl undef)) rfl (on rfl rfl rfl h11) ?_
            refine dr_put (d := 39) (v := .d (.fl undef)) rfl (on rfl rfl rfl h11) ?_
            refine dr_put (d := 40) (v := .d (.fl undef)) rfl (on rfl rfl rfl h11) ?_
            refine dr_put (d := 41) (v := .d (.fl undef)) rfl (on rfl rfl rfl h11) ?_
            refine dr_put (d := 42) (v := .d (.fl undef)) rfl (on rfl rfl rfl h11) ?_
            refine dr_put (d := 43) (v := .d (.fl undef)) rfl (on rfl rfl rfl h11) ?_
            refine dr_put (d := 44) (v := .d (.fl undef)) rfl (on rfl rfl rfl h11) ?_
            refine dr_put (d := 45) (v := .d (.fl undef)) rfl (ou rfl rfl rfl) ?_
            refine dr_put (d := 46) (v := .d (.fl undef)) rfl (ou rfl rfl rfl) ?_
            refine dr_put (d := 47) (v := .d (.fl undef)) rfl (ou rfl rfl rfl) ?_
            refine dr_put (d := 48) (v := .d (.fl undef)) rfl (ou rfl rfl rfl) ?_
            refine dr_put (d := 49) (v := .d (.fl undef)) rfl (ou rfl rfl rfl) ?_
            refine dr_put (d := 50) (v := .d (.fl undef)) rfl (ou rfl rfl rfl) ?_
            refine dr_put (d := 51) (v := .d (.fl undef)) rfl (ou rfl rfl rfl) ?_
            refine dr_put (d := 52) (v := .d (.fl undef)) rfl (ou rfl rfl rfl) ?_
            refine dr_put (d := 53) (v := .d (.fl undef)) rfl (ou rfl rfl rfl) ?_
            refine dr_put (d := 54) (v := .d (.fl undef)) rfl (ou rfl rfl rfl) ?_
            refine dr_put (d := 55) (v := .d (.fl undef)) rfl (on rfl rfl rfl h11) ?_
            refine dr_put (d := 56) (v := .d (.fl (.bool false))) rfl (og rfl (op_pick rfl rfl (by rw [h11]; rfl) rfl)) ?_
            refine dr_put (d := 57) (v := .d (.fl (.bool false))) rfl (og rfl (op_move rfl rfl rfl)) ?_
            refine dr_put (d := 58) (v := .d (.fl undef)) rfl (on rfl rfl rfl rfl) ?_
            refine dr_put (d := 59) (v := .d (.fl undef)) rfl (on rfl rfl rfl rfl) ?_
            refine dr_put (d := 60) (v := .d (.fl undef)) rfl (on rfl rfl rfl rfl) ?_
            refine dr_put (d := 61) (v := .d (.fl undef)) rfl (on rfl rfl rfl rfl) ?_
            refine dr_put (d := 62) (v := .d (.fl undef)) rfl (on rfl rfl rfl rfl) ?_
            refine dr_put (d := 63) (v := .d (.fl undef)) rfl (on rfl rfl rfl rfl) ?_
            refine dr_put (d := 64) (v := .d (.fl undef)) rfl (on rfl rfl rfl rfl) ?_
            refine dr_put (d := 65) (v := .d (.fl (.bool false))) rfl (og rfl (op_pick rfl rfl rfl rfl)) ?_
            refine dr_done rfl (sepB_of [0, 1, 3, 3, 15, 31, 63, 127, 255, 511, 511, 2047, 4095, 8191, 511, 511, 49663, 115199, 262143, 524287, 1048575, 2097151, 4194303, 4194303, 16777215, 33554431, 67108863, 4194303, 268435455, 536870911] (by kernel_rfl)) (by kernel_rfl) ?_
            refine a_condF rfl rfl ?_
            refine a_skip ?_
            show A _ _ _ _ _ _ _
            refine a_region ?_
            refine rg_put (d := 22) (v := .d (.fl (.int .i64 (j : Int)))) rfl (og rfl (op_move rfl rfl rfl)) ?_
            refine rg_put (d := 23) (v := .d (.fl (.int .i64 (((j : Int) + 1))))) rfl (og rfl (op_bin rfl rfl rfl (fun x y w => b_add64 _ _ _ x y w (by omega)) rfl)) ?_
            refine rg_put (d := 7) (v := .d (.fl (.int .i64 (((j : Int) + 1))))) rfl (og rfl (op_assign rfl rfl rfl)) ?_
            refine rg_done rfl ?_
            show ∃ i, _ ∧ _ ∧ Imp _ _ _ _ _
            refine ⟨j + 1, (by omega), by omega, imp_forget rfl ⟨rfl, rfl, rfl, rfl, rfl, rfl, (by first | rfl | exact ci (by omega) | exact ci (by simp) | exact cd (by simp) | simp), (congrArg (fun z => AV.d (.fl (.int .i64 z))) (inn_no (.inl (by omega)))), trivial⟩ trivial⟩
          · skip
            have h13 := t_dec h11
            refine dr_put (d := 38) (v := .d (.sl 2 (List.map eRl l))) rfl (oy rfl rfl rfl h11 (op_move rfl rfl rfl)) ?_
            refine dr_put (d := 39) (v := .d (.fl (.int .i64 (i : Int)))) rfl (oy rfl rfl rfl h11 (op_move rfl rfl rfl)) ?_
            refine dr_put (d := 40) (v := .el ((eRl (ix l i)))) rfl (oy rfl rfl rfl h11 (s_index rfl Try.underlying22 ti31 rfl rfl (by omega) (row_at (by omega)) rfl)) ?_
            refine dr_put (d := 41) (v := .el ((List.drop 0 ((eRl (ix l i)))))) rfl (oy rfl rfl rfl h11 (of_eff (s_field_el rfl Try.underlying31 rfl ti3 rfl rfl rfl) rfl)) ?_
            refine dr_put (d := 42) (v := .d (.fl (.int .i64 ((ix l i).kind)))) rfl (oy rfl rfl rfl h11 (op_load_el rfl Try.underlying3 rfl rfl rfl rfl)) ?_
            refine dr_put (d := 43) (v := .d (.fl (.bool (((ix l i).kind == 0))))) rfl (oy rfl rfl rfl h11 (op_bin rfl rfl rfl (b_eql _ _ _ _) rfl)) ?_
            refine dr_put (d := 44) (v := .d (.fl (.bool (((ix l i).kind == 0))))) rfl (oy rfl rfl rfl h11 (op_move rfl rfl rfl)) ?_
            rcases fot (((ix l i).kind == 0)) with h14 | h14
            · skip
              have h15 := f_beq h14
              refine dr_put (d := 45) (v := .d (.sl 2 (List.map eRl l))) rfl (oy rfl rfl rfl h14 (op_move rfl rfl rfl)) ?_
              refine dr_put (d := 46) (v := .d (.fl (.int .i64 (i : Int)))) rfl (oy rfl rfl rfl h14 (op_move rfl rfl rfl)) ?_
              refine dr_put (d := 47) (v := .el ((eRl (ix l i)))) rfl (oy rfl rfl rfl h14 (s_index rfl Try.underlying22 ti31 rfl rfl (by omega) (row_at (by omega)) rfl)) ?_
              refine dr_put (d := 48) (v := .el ((List.drop 0 ((eRl (ix l i)))))) rfl (oy rfl rfl rfl h14 (of_eff (s_field_el rfl Try.underlying31 rfl ti3 rfl rfl rfl) rfl)) ?_
              refine dr_put (d := 49) (v := .d (.fl (.int .i64 ((ix l i).kind)))) rfl (oy rfl rfl rfl h14 (op_load_el rfl Try.underlying3 rfl rfl rfl rfl)) ?_
              refine dr_put (d := 50) (v := .d (.sl 1 (List.map (rI .i64) ks))) rfl (oy rfl rfl rfl h14 (op_move rfl rfl rfl)) ?_
              refine dr_put (d := 51) (v := .d (.fl (.int .i64 (j : Int)))) rfl (oy rfl rfl rfl h14 (op_move rfl rfl rfl)) ?_
              refine dr_put (d := 52) (v := .el ((rI .i64 (ix ks j)))) rfl (oy rfl rfl rfl h14 (s_index rfl Try.underlying23 ti3 rfl rfl (by omega) (row_at (by omega)) rfl)) ?_
              refine dr_put (d := 53) (v := .d (.fl (.int .i64 (ix ks j)))) rfl (oy rfl rfl rfl h14 (op_load_el rfl Try.underlying3 rfl rfl rfl rfl)) ?_
              refine dr_put (d := 54) (v := .d (.fl (.bool (((ix l i).kind == (ix ks j)))))) rfl (oy rfl rfl rfl h14 (op_bin rfl rfl rfl (b_eql _ _ _ _) rfl)) ?_
              refine dr_put (d := 55) (v := .d (.fl (.bool (((ix l i).kind == (ix ks j)))))) rfl (oy rfl rfl rfl h11 (op_pick rfl rfl (by rw [h14]; rfl) rfl)) ?_
              refine dr_put (d := 56) (v := .d (.fl (.bool (((ix l i).kind == (ix ks j)))))) rfl (og rfl (op_pick rfl rfl (by rw [h11]; rfl) rfl)) ?_
              refine dr_put (d := 57) (v := .d (.fl (.bool (((ix l i).kind == (ix ks j)))))) rfl (og rfl (op_move rfl rfl rfl)) ?_
              rcases fot (((ix l i).kind == (ix ks j))) with h16 | h16
              · skip
                have h17 := f_beq h16
                refine dr_put (d := 58) (v := .d (.fl undef)) rfl (on rfl rfl rfl h16) ?_
                refine dr_put (d := 59) (v := .d (.fl undef)) rfl (on rfl rfl rfl h16) ?_
                refine dr_put (d := 60) (v := .d (.fl undef)) rfl (on rfl rfl rfl h16) ?_
                refine dr_put (d := 61) (v := .d (.fl undef)) rfl (on rfl rfl rfl h16) ?_
                refine dr_put (d := 62) (v := .d (.fl undef)) rfl (on rfl rfl rfl h16) ?_
                refine dr_put (d := 63) (v := .d (.fl undef)) rfl (on rfl rfl rfl h16) ?_
                refine dr_put (d := 64) (v := .d (.fl undef)) rfl (on rfl rfl rfl h16) ?_
                refine dr_put (d := 65) (v := .d (.fl (.bool false))) rfl (og rfl (op_pick rfl rfl (by rw [h16]; rfl) rfl)) ?_
                refine dr_done rfl (sepB_of [0, 1, 3, 3, 15, 31, 63, 127, 255, 511, 511, 2047, 4095, 8191, 511, 511, 49663, 115199, 262143, 524287, 1048575, 2097151, 4194303, 4194303, 16777215, 33554431, 67108863, 4194303, 268435455, 536870911] (by kernel_rfl)) (by kernel_rfl) ?_
                refine a_condF rfl rfl ?_
                refine a_skip ?_
                show A _ _ _ _ _ _ _
                refine a_region ?_
                refine rg_put (d := 22) (v := .d (.fl (.int .i64 (j : Int)))) rfl (og rfl (op_move rfl rfl rfl)) ?_
                refine rg_put (d := 23) (v := .d (.fl (.int .i64 (((j : Int) + 1))))) rfl (og rfl (op_bin rfl rfl rfl (fun x y w => b_add64 _ _ _ x y w (by omega)) rfl)) ?_
                refine rg_put (d := 7) (v := .d (.fl (.int .i64 (((j : Int) + 1))))) rfl (og rfl (op_assign rfl rfl rfl)) ?_
                refine rg_done rfl ?_
                show ∃ i, _ ∧ _ ∧ Imp _ _ _ _ _
                refine ⟨j + 1, (by omega), by omega, imp_forget rfl ⟨rfl, rfl, rfl, rfl, rfl, rfl, (by first | rfl | exact ci (by omega) | exact ci (by simp) | exact cd (by simp) | simp), (congrArg (fun z => AV.d (.fl (.int .i64 z))) (inn_no (.inr (by omega)))), trivial⟩ trivial⟩
              · skip
                have h18 := t_beq h16
                refine dr_put (d := 58) (v := .d (.sl 2 (List.map eRl l))) rfl (oy rfl rfl rfl h16 (op_move rfl rfl rfl)) ?_
                refine dr_put (d := 59) (v := .d (.fl (.int .i64 (i : Int)))) rfl (oy rfl rfl rfl h16 (op_move rfl rfl rfl)) ?_
                refine dr_put (d := 60) (v := .el ((eRl (ix l i)))) rfl (oy rfl rfl rfl h16 (s_index rfl Try.underlying22 ti31 rfl rfl (by omega) (row_at (by omega)) rfl)) ?_
                refine dr_put (d := 61) (v := .el ((List.drop 1 ((eRl (ix l i)))))) rfl (oy rfl rfl rfl h16 (of_eff (s_field_el rfl Try.underlying31 rfl ti3 rfl rfl rfl) rfl)) ?_
                refine dr_put (d := 62) (v := .d (.fl (.int .i64 ((ix l i).part)))) rfl (oy rfl rfl rfl h16 (op_load_el rfl Try.underlying3 rfl rfl rfl rfl)) ?_
                refine dr_put (d := 63) (v := .d (.fl (.int .i64 (inn l ks i j)))) rfl (oy rfl rfl rfl h16 (op_move rfl rfl rfl)) ?_
                refine dr_put (d := 64) (v := .d (.fl (.bool ((decide ((inn l ks i j) < (ix l i).part)))))) rfl (oy rfl rfl rfl h16 (op_bin rfl rfl rfl (b_gtr _ _ _ _) rfl)) ?_
                refine dr_put (d := 65) (v := .d (.fl (.bool ((decide ((inn l ks i j) < (ix l i).part)))))) rfl (og rfl (op_pick rfl rfl (by rw [h16]; rfl) rfl)) ?_
                refine dr_done rfl (sepB_of [0, 1, 3, 3, 15, 31, 63, 127, 255, 511, 511, 2047, 4095, 8191, 511, 511, 49663, 115199, 262143, 524287, 1048575, 2097151, 4194303, 4194303, 16777215, 33554431, 67108863, 4194303, 268435455, 536870911] (by kernel_rfl)) (by kernel_rfl) ?_
                refine a_cond rfl (fun h19 => ?_) (fun h19 => ?_)
                · skip
                  have h20 := t_dec h19
                  refine a_region ?_
                  refine rg_put (d := 66) (v := .d (.sl 2 (List.map eRl l))) rfl (og rfl (op_move rfl rfl rfl)) ?_
                  refine rg_put (d := 67) (v := .d (.fl (.int .i64 (i : Int)))) rfl (og rfl (op_move rfl rfl rfl)) ?_
                  refine rg_put (d := 68) (v := .el ((eRl (ix l i)))) rfl (og rfl (s_index rfl Try.underlying22 ti31 rfl rfl (by omega) (row_at (by omega)) rfl)) ?_
                  refine rg_put (d := 69) (v := .el ((List.drop 1 ((eRl (ix l i)))))) rfl (og rfl (of_eff (s_field_el rfl Try.underlying31 rfl ti3 rfl rfl rfl) rfl)) ?_
                  refine rg_put (d := 70) (v := .d (.fl (.int .i64 ((ix l i).part)))) rfl (og rfl (op_load_el rfl Try.underlying3 rfl rfl rfl rfl)) ?_
                  refine rg_put (d := 5) (v := .d (.fl (.int .i64 ((ix l i).part)))) rfl (og rfl (op_assign rfl rfl rfl)) ?_
                  refine rg_done rfl ?_
                  show A _ _ _ _ _ _ _
                  refine a_region ?_
                  refine rg_put (d := 22) (v := .d (.fl (.int .i64 (j : Int)))) rfl (og rfl (op_move rfl rfl rfl)) ?_
                  refine rg_put (d := 23) (v := .d (.fl (.int .i64 (((j : Int) + 1))))) rfl (og rfl (op_bin rfl rfl rfl (fun x y w => b_add64 _ _ _ x y w (by omega)) rfl)) ?_
                  refine rg_put (d := 7) (v := .d (.fl (.int .i64 (((j : Int) + 1))))) rfl (og rfl (op_assign rfl rfl rfl)) ?_
                  refine rg_done rfl ?_
                  show ∃ i, _ ∧ _ ∧ Imp _ _ _ _ _
                  refine ⟨j + 1, (by omega), by omega, imp_forget rfl ⟨rfl, rfl, rfl, rfl, rfl, rfl, (by first | rfl | exact ci (by omega) | exact ci (by simp) | exact cd (by simp) | simp), (congrArg (fun z => AV.d (.fl (.int .i64 z))) (inn_new (by omega) (by omega) (by omega))), trivial⟩ trivial⟩
                · skip
                  have h21 := f_dec h19
                  refine a_skip ?_
                  show A _ _ _ _ _ _ _
                  refine a_region ?_
                  refine rg_put (d := 22) (v := .d (.fl (.int .i64 (j : Int)))) rfl (og rfl (op_move rfl rfl rfl)) ?_
                  refine rg_put (d := 23) (v := .d (.fl (.int .i64 (((j : Int) + 1))))) rfl (og rfl (op_bin rfl rfl rfl (fun x y w => b_add64 _ _ _ x y w (by omega)) rfl)) ?_
                  refine rg_put (d := 7) (v := .d (.fl (.int .i64 (((j : Int) + 1))))) rfl (og rfl (op_assign rfl rfl rfl)) ?_
                  refine rg_done rfl ?_
                  show ∃ i, _ ∧ _ ∧ Imp _ _ _ _ _
                  refine ⟨j + 1, (by omega), by omega, imp_forget rfl ⟨rfl, rfl, rfl, rfl, rfl, rfl, (by first | rfl | exact ci (by omega) | exact ci (by simp) | exact cd (by simp) | simp), (congrArg (fun z => AV.d (.fl (.int .i64 z))) (inn_old (by omega) (by omega) (by omega))), trivial⟩ trivial⟩
            · skip
              have h22 := t_beq h14
              refine dr_put (d := 45) (v := .d (.fl undef)) rfl (on rfl rfl rfl h14) ?_
              refine dr_put (d := 46) (v := .d (.fl undef)) rfl (on rfl rfl rfl h14) ?_
              refine dr_put (d := 47) (v := .d (.fl undef)) rfl (on rfl rfl rfl h14) ?_
              refine dr_put (d := 48) (v := .d (.fl undef)) rfl (on rfl rfl rfl h14) ?_
              refine dr_put (d := 49) (v := .d (.fl undef)) rfl (on rfl rfl rfl h14) ?_
              refine dr_put (d := 50) (v := .d (.fl undef)) rfl (on rfl rfl rfl h14) ?_
              refine dr_put (d := 51) (v := .d (.fl undef)) rfl (on rfl rfl rfl h14) ?_
              refine dr_put (d := 52) (v := .d (.fl undef)) rfl (on rfl rfl rfl h14) ?_
              refine dr_put (d := 53) (v := .d (.fl undef)) rfl (on rfl rfl rfl h14) ?_
              refine dr_put (d := 54) (v := .d (.fl undef)) rfl (on rfl rfl rfl h14) ?_
              refine dr_put (d := 55) (v := .d (.fl (.bool true))) rfl (oy rfl rfl rfl h11 (op_pick rfl rfl (by rw [h14]; rfl) rfl)) ?_
              refine dr_put (d := 56) (v := .d (.fl (.bool true))) rfl (og rfl (op_pick rfl rfl (by rw [h11]; rfl) rfl)) ?_
              refine dr_put (d := 57) (v := .d (.fl (.bool true))) rfl (og rfl (op_move rfl rfl rfl)) ?_
              refine dr_put (d := 58) (v := .d (.sl 2 (List.map eRl l))) rfl (oy rfl rfl rfl rfl (op_move rfl rfl rfl)) ?_
              refine dr_put (d := 59) (v := .d (.fl (.int .i64 (i : Int)))) rfl (oy rfl rfl rfl rfl (op_move rfl rfl rfl)) ?_
              refine dr_put (d := 60) (v := .el ((eRl (ix l i)))) rfl (oy rfl rfl rfl rfl (s_index rfl Try.underlying22 ti31 rfl rfl (by omega) (row_at (by omega)) rfl)) ?_
              refine dr_put (d := 61) (v := .el ((List.drop 1 ((eRl (ix l i)))))) rfl (oy rfl rfl rfl rfl (of_eff (s_field_el rfl Try.underlying31 rfl ti3 rfl rfl rfl) rfl)) ?_
              refine dr_put (d := 62) (v := .d (.fl (.int .i64 ((ix l i).part)))) rfl (oy rfl rfl rfl rfl (op_load_el rfl Try.underlying3 rfl rfl rfl rfl)) ?_
              refine dr_put (d := 63) (v := .d (.fl (.int .i64 (inn l ks i j)))) rfl (oy rfl rfl rfl rfl (op_move rfl rfl rfl)) ?_
              refine dr_put (d := 64) (v := .d (.fl (.bool ((decide ((inn l ks i j) < (ix l i).part)))))) rfl (oy rfl rfl rfl rfl (op_bin rfl rfl rfl (b_gtr _ _ _ _) rfl)) ?_
              refine dr_put (d := 65) (v := .d (.fl (.bool ((decide ((inn l ks i j) < (ix l i).part)))))) rfl (og rfl (op_pick rfl rfl rfl rfl)) ?_
              refine dr_done rfl (sepB_of [0, 1, 3, 3, 15, 31, 63, 127, 255, 511, 511, 2047, 4095, 8191, 511, 511, 49663, 115199, 262143, 524287, 1048575, 2097151, 4194303, 4194303, 16777215, 33554431, 67108863, 4194303, 268435455, 536870911] (by kernel_rfl)) (by kernel_rfl) ?_
              refine a_cond rfl (fun h23 => ?_) (fun h23 => ?_)
              · skip
                have h24 := t_dec h23
                refine a_region ?_
                refine rg_put (d := 66) (v := .d (.sl 2 (List.map eRl l))) rfl (og rfl (op_move rfl rfl rfl)) ?_
                refine rg_put (d := 67) (v := .d (.fl (.int .i64 (i : Int)))) rfl (og rfl (op_move rfl rfl rfl)) ?_
                refine rg_put (d := 68) (v := .el ((eRl (ix l i)))) rfl (og rfl (s_index rfl Try.underlying22 ti31 rfl rfl (by omega) (row_at (by omega)) rfl)) ?_
                refine rg_put (d := 69) (v := .el ((List.drop 1 ((eRl (ix l i)))))) rfl (og rfl (of_eff (s_field_el rfl Try.underlying31 rfl ti3 rfl rfl rfl) rfl)) ?_
                refine rg_put (d := 70) (v := .d (.fl (.int .i64 ((ix l i).part)))) rfl (og rfl (op_load_el rfl Try.underlying3 rfl rfl rfl rfl)) ?_
                refine rg_put (d := 5) (v := .d (.fl (.int .i64 ((ix l i).part)))) rfl (og rfl (op_assign rfl rfl rfl)) ?_
                refine rg_done rfl ?_
                show A _ _ _ _ _ _ _
                refine a_region ?_
                refine rg_put (d := 22) (v := .d (.fl (.int .i64 (j : Int)))) rfl (og rfl (op_move rfl rfl rfl)) ?_
                refine rg_put (d := 23) (v := .d (.fl (.int .i64 (((j : Int) + 1))))) rfl (og rfl (op_bin rfl rfl rfl (fun x y w => b_add64 _ _ _ x y w (by omega)) rfl)) ?_
                refine rg_put (d := 7) (v := .d (.fl (.int .i64 (((j : Int) + 1))))) rfl (og rfl (op_assign rfl rfl rfl)) ?_
                refine rg_done rfl ?_
                show ∃ i, _ ∧ _ ∧ Imp _ _ _ _ _
                refine ⟨j + 1, (by omega), by omega, imp_forget rfl ⟨rfl, rfl, rfl, rfl, rfl, rfl, (by first | rfl | exact ci (by omega) | exact ci (by simp) | exact cd (by simp) | simp), (congrArg (fun z => AV.d (.fl (.int .i64 z))) (inn_new (by omega) (by omega) (by omega))), trivial⟩ trivial⟩
              · skip
                have h25 := f_dec h23
                refine a_skip ?_
                show A _ _ _ _ _ _ _
                refine a_region ?_
                refine rg_put (d := 22) (v := .d (.fl (.int .i64 (j : Int)))) rfl (og rfl (op_move rfl rfl rfl)) ?_
                refine rg_put (d := 23) (v := .d (.fl (.int .i64 (((j : Int) + 1))))) rfl (og rfl (op_bin rfl rfl rfl (fun x y w => b_add64 _ _ _ x y w (by omega)) rfl)) ?_
                refine rg_put (d := 7) (v := .d (.fl (.int .i64 (((j : Int) + 1))))) rfl (og rfl (op_assign rfl rfl rfl)) ?_
                refine rg_done rfl ?_
                show ∃ i, _ ∧ _ ∧ Imp _ _ _ _ _
                refine ⟨j + 1, (by omega), by omega, imp_forget rfl ⟨rfl, rfl, rfl, rfl, rfl, rfl, (by first | rfl | exact ci (by omega) | exact ci (by simp) | exact cd (by simp) | simp), (congrArg (fun z => AV.d (.fl (.int .i64 z))) (inn_old (by omega) (by omega) (by omega))), trivial⟩ trivial⟩
      · skip
        have h26 := f_dec h6
        refine a_exit ?_
        show A _ _ _ _ _ _ _
        refine a_region ?_
        have hjl : j = ks.length := by omega
        rw [show (inn l ks i j) = (inn l ks i ks.length) from by rw [hjl]]
        refine rg_put (d := 16) (v := .d (.fl (.int .i64 (i : Int)))) rfl (og rfl (op_move rfl rfl rfl)) ?_
        refine rg_put (d := 17) (v := .d (.fl (.int .i64 (((i : Int) + 1))))) rfl (og rfl (op_bin rfl rfl rfl (fun x y w => b_add64 _ _ _ x y w (by omega)) rfl)) ?_
        refine rg_put (d := 6) (v := .d (.fl (.int .i64 (((i : Int) + 1))))) rfl (og rfl (op_assign rfl rfl rfl)) ?_
        refine rg_done rfl ?_
        show ∃ i, _ ∧ _ ∧ Imp _ _ _ _ _
        refine ⟨i + 1, (by omega), by omega, imp_forget rfl ⟨rfl, rfl, rfl, rfl, (by first | rfl | exact ci (by omega) | exact ci (by simp) | exact cd (by simp) | simp), rfl, trivial⟩ trivial⟩
    · skip
      have h27 := f_dec h4
      refine a_exit ?_
      show A _ _ _ _ _ _ _
      refine a_rseq ?_
      refine rg_put (d := 71) (v := .d (.fl (.int .i64 (mx l ks i)))) rfl (og rfl (op_move rfl rfl rfl)) ?_
      refine rg_put (d := 4) (v := .d (.fl (.int .i64 (mx l ks i)))) rfl (og rfl (op_assign rfl rfl rfl)) ?_
      refine rg_done rfl ?_
      refine a_ret ?_
      show ∃ ds, ResL _ _ _ ds ∧ RV.of ds = _
      refine ⟨[.fl (.int .i64 (mx l ks i))], (.cons (.tmp rfl (.d _)) .nil), ?_⟩
      rw [prt_yes (f_bne h1), show l.length = i by omega]; rfl
set_option maxHeartbeats 4000000 in
set_option maxRecDepth 100000 in
theorem law3 (l : List Rl) (ks : List Int) : Ctr Try.prog 3 [.sl 2 (List.map eRl l), .sl 1 (List.map (rI .i64) ks)] (.d (.fl (.bool true))) := by
  refine ctr (n := 31) (rs := #[.tmp 4]) (L := [(0, .d (.sl 2 (List.map eRl l))), (1, .d (.sl 1 (List.map (rI .i64) ks)))]) Try.func3 rfl rfl rfl rfl rfl (fun w0 U0 => ?_)
  refine a_rseq ?_
  refine rg_put (d := 4) (v := .d (.fl (.bool false))) rfl (og rfl (op_assign rfl rfl rfl)) ?_
  refine rg_done rfl ?_
  refine a_seq ?_
  refine a_rseq ?_
  refine rg_put (d := 5) (v := .d (.sl 2 (List.map eRl l))) rfl (og rfl (op_move rfl rfl rfl)) ?_
  refine rg_put (d := 6) (v := .d (.fl (.int .i64 (l.length : Int)))) rfl (og rfl (s_len rfl Try.underlying22 rfl rfl)) ?_
  refine rg_put (d := 7) (v := .d (.fl (.bool ((decide (14 < (l.length : Int))))))) rfl (og rfl (op_bin rfl rfl rfl (b_gtr _ _ _ _) rfl)) ?_
  refine rg_put (d := 8) (v := .d (.fl (.bool ((decide (14 < (l.length : Int))))))) rfl (og rfl (op_move rfl rfl rfl)) ?_
  rcases fot ((decide (14 < (l.length : Int)))) with h1 | h1
  · skip
    have h2 := f_dec h1
    refine rg_put (d := 9) (v := .d (.sl 1 (List.map (rI .i64) ks))) rfl (oy rfl rfl rfl h1 (op_move rfl rfl rfl)) ?_
    refine rg_put (d := 10) (v := .d (.fl (.int .i64 (ks.length : Int)))) rfl (oy rfl rfl rfl h1 (s_len rfl Try.underlying23 rfl rfl)) ?_
    refine rg_put (d := 11) (v := .d (.fl (.bool ((decide (20 < (ks.length : Int))))))) rfl (oy rfl rfl rfl h1 (op_bin rfl rfl rfl (b_gtr _ _ _ _) rfl)) ?_
    refine rg_put (d := 12) (v := .d (.fl (.bool ((decide (20 < (ks.length : Int))))))) rfl (og rfl (op_pick rfl rfl (by rw [h1]; rfl) rfl)) ?_
    refine rg_done rfl ?_
    refine a_cond rfl (fun h3 => ?_) (fun h3 => ?_)
    · skip
      have h4 := t_dec h3
      refine a_rseq ?_
      refine rg_put (d := 13) (v := .d (.fl (.bool true))) rfl (og rfl (op_call rfl Try.func5 nm5 rfl .nil alive5 rfl)) ?_
      refine rg_put (d := 4) (v := .d (.fl (.bool true))) rfl (og rfl (op_assign rfl rfl rfl)) ?_
      refine rg_done rfl ?_
      refine a_ret ?_
      show ∃ ds, ResL _ _ _ ds ∧ RV.of ds = _
      refine ⟨[.fl (.bool true)], (.cons (.tmp rfl (.d _)) .nil), ?_⟩
      rfl
    · skip
      have h5 := f_dec h3
      refine a_skip ?_
      show A _ _ _ _ _ _ _
      refine a_rseq ?_
      refine rg_put (d := 14) (v := .d (.sl 2 (List.map eRl l))) rfl (og rfl (op_move rfl rfl rfl)) ?_
      refine rg_put (d := 15) (v := .d (.fl (.int .i64 (chk l)))) rfl (og rfl (op_call rfl Try.func6 nm6 rfl (.cons rfl (.d _) .nil) (chk6 l (by omega)) rfl)) ?_
      refine rg_put (d := 16) (v := .d (.sl 2 (List.map eRl l))) rfl (og rfl (op_move rfl rfl rfl)) ?_
      refine rg_put (d := 17) (v := .d (.fl (.int .i64 (chk l)))) rfl (og rfl (op_call rfl Try.func7 nm7 rfl (.cons rfl (.d _) .nil) (chk7 l (by omega)) rfl)) ?_
      refine rg_put (d := 18) (v := .d (.fl (.bool (((chk l) == (chk l)))))) rfl (og rfl (op_bin rfl rfl rfl (b_eql _ _ _ _) rfl)) ?_
      refine rg_put (d := 19) (v := .d (.fl (.bool (((chk l) == (chk l)))))) rfl (og rfl (op_move rfl rfl rfl)) ?_
      refine rg_put (d := 20) (v := .d (.sl 2 (List.map eRl l))) rfl (oy rfl rfl rfl (eq_self_b _) (op_move rfl rfl rfl)) ?_
      refine rg_put (d := 21) (v := .d (.sl 1 (List.map (rI .i64) ks))) rfl (oy rfl rfl rfl (eq_self_b _) (op_move rfl rfl rfl)) ?_
      refine rg_put (d := 22) (v := .d (.fl (.int .i64 (prt l ks)))) rfl (oy rfl rfl rfl (eq_self_b _) (op_call rfl Try.func8 nm8 rfl (.cons rfl (.d _) (.cons rfl (.d _) .nil)) (prt8 l ks (by omega) (by omega)) rfl)) ?_
      refine rg_put (d := 23) (v := .d (.sl 2 (List.map eRl l))) rfl (oy rfl rfl rfl (eq_self_b _) (op_move rfl rfl rfl)) ?_
      refine rg_put (d := 24) (v := .d (.sl 1 (List.map (rI .i64) ks))) rfl (oy rfl rfl rfl (eq_self_b _) (op_move rfl rfl rfl)) ?_
      refine rg_put (d := 25) (v := .d (.fl (.int .i64 (prt l ks)))) rfl (oy rfl rfl rfl (eq_self_b _) (op_call rfl Try.func9 nm9 rfl (.cons rfl (.d _) (.cons rfl (.d _) .nil)) (prt9 l ks (by omega) (by omega)) rfl)) ?_
      refine rg_put (d := 26) (v := .d (.fl (.bool (((prt l ks) == (prt l ks)))))) rfl (oy rfl rfl rfl (eq_self_b _) (op_bin rfl rfl rfl (b_eql _ _ _ _) rfl)) ?_
      refine rg_put (d := 27) (v := .d (.fl (.bool (((prt l ks) == (prt l ks)))))) rfl (og rfl (op_pick rfl rfl (by rw [(eq_self_b _)]; rfl) rfl)) ?_
      refine rg_put (d := 28) (v := .d (.fl (.bool (((prt l ks) == (prt l ks)))))) rfl (og rfl (op_move rfl rfl rfl)) ?_
      refine rg_put (d := 29) (v := .d (.fl (.bool true))) rfl (oy rfl rfl rfl (eq_self_b _) (op_call rfl Try.func5 nm5 rfl .nil alive5 rfl)) ?_
      refine rg_put (d := 30) (v := .d (.fl (.bool true))) rfl (og rfl (op_pick rfl rfl (by rw [(eq_self_b _)]; rfl) rfl)) ?_
      refine rg_put (d := 4) (v := .d (.fl (.bool true))) rfl (og rfl (op_assign rfl rfl rfl)) ?_
      refine rg_done rfl ?_
      refine a_ret ?_
      show ∃ ds, ResL _ _ _ ds ∧ RV.of ds = _
      refine ⟨[.fl (.bool true)], (.cons (.tmp rfl (.d _)) .nil), ?_⟩
      rfl
  · skip
    have h6 := t_dec h1
    refine rg_put (d := 9) (v := .d (.fl undef)) rfl (on rfl rfl rfl h1) ?_
    refine rg_put (d := 10) (v := .d (.fl undef)) rfl (on rfl rfl rfl h1) ?_
    refine rg_put (d := 11) (v := .d (.fl undef)) rfl (on rfl rfl rfl h1) ?_
    refine rg_put (d := 12) (v := .d (.fl (.bool true))) rfl (og rfl (op_pick rfl rfl (by rw [h1]; rfl) rfl)) ?_
    refine rg_done rfl ?_
    refine a_condK rfl rfl ?_
    refine a_rseq ?_
    refine rg_put (d := 13) (v := .d (.fl (.bool true))) rfl (og rfl (op_call rfl Try.func5 nm5 rfl .nil alive5 rfl)) ?_
    refine rg_put (d := 4) (v := .d (.fl (.bool true))) rfl (og rfl (op_assign rfl rfl rfl)) ?_
    refine rg_done rfl ?_
    refine a_ret ?_
    show ∃ ds, ResL _ _ _ ds ∧ RV.of ds = _
    refine ⟨[.fl (.bool true)], (.cons (.tmp rfl (.d _)) .nil), ?_⟩
    rfl
end Go.Proofs.Ytacbipoplnfmoaa.Wk
