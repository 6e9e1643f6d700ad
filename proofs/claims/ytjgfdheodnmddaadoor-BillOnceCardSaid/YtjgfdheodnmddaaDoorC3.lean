/- The law of charges billed once. Condition: the table of months reads as it is laid. -/
import Derived.Test.YtjgfdheodnmddaaDoorAl
import Derived.Test.YtjgfdheodnmddaaDoorB5
set_option linter.unusedSimpArgs false
set_option linter.unusedVariables false
namespace Go.Proofs.YtjgfdheodnmddaaDoor.Wk
open Go Go.RowKit Go.Proofs.YtjgfdheodnmddaaDoor.Av
set_option maxHeartbeats 4000000 in
set_option maxRecDepth 100000 in
theorem law5 (b : Bil) (hb1 : b.acc.length ≤ 9223372036854775807) (hb2 : b.caps.length ≤ 9223372036854775807) (hb3 : b.chs.length ≤ 9223372036854775807) : CtrK Tryd.prog KK 5 [.ag (eBil b)] (.d (.fl (.bool true))) := by
  refine ctrK (n := 93) (rs := #[.tmp 2]) (L := [(0, .d (.ag (eBil b)))]) Tryd.func5 rfl rfl rfl rfl rfl (fun w0 U0 hG => ?_)
  refine a_rseq ?_
  refine rg_nam (d := 1) (v := .pt 101 0) (m := 101) (nw := [(101, .bx 35 (eBil b))]) rfl (og rfl (of_eff (op_box 101 rfl rfl rfl rfl) rfl)) rfl ?_
  refine rg_put (d := 2) (v := .d (.fl (.bool false))) rfl (og rfl (op_assign rfl rfl rfl)) ?_
  refine rg_done rfl ?_
  refine a_seq ?_
  refine a_rseq ?_
  refine rg_put (d := 11) (v := .d (.ag (eBil b))) rfl (og rfl (of_eff (s_load_pts rfl Tryd.underlying35 rfl ti35 rfl rfl rfl rfl) rfl)) ?_
  refine rg_put (d := 12) (v := .d (.fl (.bool (few b)))) rfl (og rfl (op_call rfl Tryd.func13 nm13 rfl (.cons rfl (.d _) .nil) (few13 b (by omega) (by omega) (by omega)) rfl)) ?_
  refine rg_put (d := 13) (v := .d (.fl (.bool ((!(few b)))))) rfl (og rfl (op_un rfl rfl (u_not _) rfl)) ?_
  refine rg_done rfl ?_
  refine a_cond rfl (fun h1 => ?_) (fun h1 => ?_)
  · skip
    have h2 := t_not h1
    refine a_rseq ?_
    refine rg_put (d := 14) (v := .d (.fl (.bool true))) rfl (og rfl (op_callK kkst hG rfl Tryd.func10 nm10 rfl .nil alive10 rfl)) ?_
    refine rg_put (d := 2) (v := .d (.fl (.bool true))) rfl (og rfl (op_assign rfl rfl rfl)) ?_
    refine rg_done rfl ?_
    refine a_ret ?_
    show ∃ ds, ResL _ _ _ ds ∧ RV.of ds = _
    refine ⟨[.fl (.bool true)], (.cons (.tmp rfl (.d _)) .nil), ?_⟩
    rfl
  · skip
    have h3 := f_not h1
    refine a_skip ?_
    show A _ _ _ _ _ _ _
    refine a_rseq ?_
    have hf := few_t h3
    have ha : ∀ q, q < b.acc.length → (ix b.acc q).owned.length ≤ 80 := fun q h => by have := hf.2.1 q h; omega
    have hz := hf.2.2
    refine rg_put (d := 3) (v := .d (.fl (.int .i64 0))) rfl (og rfl (op_assign rfl rfl rfl)) ?_
    refine rg_put (d := 4) (v := .d (.fl (.int .i64 0))) rfl (og rfl (op_assign rfl rfl rfl)) ?_
    refine rg_done rfl ?_
    refine a_seq ?_
    refine a_rseq ?_
    refine rg_put (d := 5) (v := .d (.fl (.int .i64 0))) rfl (og rfl (op_assign rfl rfl rfl)) ?_
    refine rg_done rfl ?_
    refine a_block ?_
    refine a_loop (ι := Nat) (fun k => SS [(0, .d (.ag (eBil b))), (1, .pt 101 0), (2, .d (.fl (.bool false))), (4, .d (.fl (.int .i64 0))), (13, .d (.fl (.bool ((!(few b)))))), (5, .d (.fl (.int .i64 (k : Int)))), (3, .d (.fl (.int .i64 ((ct (fun q => o2 b.acc (ix b.chs q)) k)))))] [(101, .bx 35 (eBil b))]) (fun k => k ≤ b.chs.length) (fun k => b.chs.length - k) 0 (by omega) (imp_forget rfl ⟨rfl, rfl, rfl, rfl, rfl, (by first | rfl | exact ci (by omega) | exact ci (by simp) | exact cd (by simp) | simp), rfl, trivial⟩ ⟨rfl, trivial⟩) (fun k hok => ?_)
    have hk := hok
    have hcn := ct_in (fun q => o2 b.acc (ix b.chs q)) k
    refine a_seq ?_
    refine a_rseq ?_
    refine rg_put (d := 15) (v := .d (.fl (.int .i64 (k : Int)))) rfl (og rfl (op_move rfl rfl rfl)) ?_
    refine rg_put (d := 16) (v := .pt 101 2) rfl (og rfl (of_eff (s_field_pt rfl Tryd.underlying35 rfl ti33 rfl rfl rfl) rfl)) ?_
    refine rg_put (d := 17) (v := .d (.sl 7 (List.map eChg b.chs))) rfl (og rfl (op_load_pt rfl Tryd.underlying33 rfl rfl rfl rfl rfl)) ?_
    refine rg_put (d := 18) (v := .d (.fl (.int .i64 (b.chs.length : Int)))) rfl (og rfl (s_len rfl Tryd.underlying33 rfl rfl)) ?_
    refine rg_put (d := 19) (v := .d (.fl (.bool ((decide ((k : Int) < (b.chs.length : Int))))))) rfl (og rfl (op_bin rfl rfl rfl (b_lss _ _ _ _) rfl)) ?_
    refine rg_done rfl ?_
    refine a_cond rfl (fun h4 => ?_) (fun h4 => ?_)
    · skip
      have h5 := t_dec h4
      refine a_skip ?_
      show A _ _ _ _ _ _ _
      refine a_seq ?_
      refine a_block ?_
      refine a_dseq (by kernel_rfl) ?_
      refine dr_put (d := 23) (v := .pt 101 0) rfl (og rfl (of_eff (s_field_pt rfl Tryd.underlying35 rfl ti31 rfl rfl rfl) rfl)) ?_
      refine dr_put (d := 24) (v := .d (.sl 9 (List.map eAc b.acc))) rfl (og rfl (op_load_pt rfl Tryd.underlying31 rfl rfl rfl rfl rfl)) ?_
      refine dr_put (d := 25) (v := .pt 101 2) rfl (og rfl (of_eff (s_field_pt rfl Tryd.underlying35 rfl ti33 rfl rfl rfl) rfl)) ?_
      refine dr_put (d := 26) (v := .d (.sl 7 (List.map eChg b.chs))) rfl (og rfl (op_load_pt rfl Tryd.underlying33 rfl rfl rfl rfl rfl)) ?_
      refine dr_put (d := 27) (v := .d (.fl (.int .i64 (k : Int)))) rfl (og rfl (op_move rfl rfl rfl)) ?_
      refine dr_put (d := 28) (v := .el ((eChg (ix b.chs k)))) rfl (og rfl (s_index rfl Tryd.underlying33 ti41 rfl rfl (by omega) (row_at (by omega)) rfl)) ?_
      refine dr_put (d := 29) (v := .el ((List.drop 1 ((eChg (ix b.chs k)))))) rfl (og rfl (of_eff (s_field_el rfl Tryd.underlying41 rfl ti9 rfl rfl rfl) rfl)) ?_
      refine dr_put (d := 30) (v := .d (.fl (.string ((ix b.chs k).veh)))) rfl (og rfl (op_load_el rfl Tryd.underlying9 rfl rfl rfl rfl)) ?_
      refine dr_put (d := 31) (v := .pt 101 2) rfl (og rfl (of_eff (s_field_pt rfl Tryd.underlying35 rfl ti33 rfl rfl rfl) rfl)) ?_
      refine dr_put (d := 32) (v := .d (.sl 7 (List.map eChg b.chs))) rfl (og rfl (op_load_pt rfl Tryd.underlying33 rfl rfl rfl rfl rfl)) ?_
      refine dr_put (d := 33) (v := .d (.fl (.int .i64 (k : Int)))) rfl (og rfl (op_move rfl rfl rfl)) ?_
      refine dr_put (d := 34) (v := .el ((eChg (ix b.chs k)))) rfl (og rfl (s_index rfl Tryd.underlying33 ti41 rfl rfl (by omega) (row_at (by omega)) rfl)) ?_
      refine dr_put (d := 35) (v := .el ((List.drop 4 ((eChg (ix b.chs k)))))) rfl (og rfl (of_eff (s_field_el rfl Tryd.underlying41 rfl ti3 rfl rfl rfl) rfl)) ?_
      refine dr_put (d := 36) (v := .d (.fl (.int .i64 ((ix b.chs k).time)))) rfl (og rfl (op_load_el rfl Tryd.underlying3 rfl rfl rfl rfl)) ?_
      refine dr_put (d := 37) (v := .tu [.fl (.string ((own b.acc ((ix b.chs k).veh) ((ix b.chs k).time)).1)), .fl (.bool ((own b.acc ((ix b.chs k).veh) ((ix b.chs k).time)).2))]) rfl (og rfl (op_call rfl Tryd.func14 nm14 rfl (.cons rfl (.d _) (.cons rfl (.d _) (.cons rfl (.d _) .nil))) (owP b.acc ((ix b.chs k).veh) ((ix b.chs k).time) (by omega) ha) rfl)) ?_
      refine dr_put (d := 22) (v := .tu [.fl (.string ((own b.acc ((ix b.chs k).veh) ((ix b.chs k).time)).1)), .fl (.bool ((own b.acc ((ix b.chs k).veh) ((ix b.chs k).time)).2))]) rfl (og rfl (op_move rfl rfl rfl)) ?_
      refine dr_put (d := 38) (v := .d (.fl (.string ((own b.acc ((ix b.chs k).veh) ((ix b.chs k).time)).1)))) rfl (og rfl (op_extract rfl rfl rfl rfl)) ?_
      refine dr_put (d := 39) (v := .d (.fl (.bool ((own b.acc ((ix b.chs k).veh) ((ix b.chs k).time)).2)))) rfl (og rfl (op_extract rfl rfl rfl rfl)) ?_
      refine dr_put (d := 6) (v := .d (.fl (.string ((own b.acc ((ix b.chs k).veh) ((ix b.chs k).time)).1)))) rfl (og rfl (op_assign rfl rfl rfl)) ?_
      refine dr_put (d := 7) (v := .d (.fl (.bool ((own b.acc ((ix b.chs k).veh) ((ix b.chs k).time)).2)))) rfl (og rfl (op_assign rfl rfl rfl)) ?_
      refine dr_done rfl (sepB_of [0, 1, 0, 4, 0, 28, 60, 124, 0, 256, 0, 1792, 3840, 7936, 16383, 32767, 65535, 65535, 131071, 524287] (by kernel_rfl)) (by kernel_rfl) ?_
      refine a_rseq ?_
      refine rg_put (d := 40) (v := .d (.fl (.bool ((own b.acc ((ix b.chs k).veh) ((ix b.chs k).time)).2)))) rfl (og rfl (op_move rfl rfl rfl)) ?_
      refine rg_done rfl ?_
      refine a_cond rfl (fun h6 => ?_) (fun h6 => ?_)
      · skip
        refine a_region ?_
        refine rg_put (d := 41) (v := .d (.fl (.int .i64 ((ct (fun q => o2 b.acc (ix b.chs q)) k))))) rfl (og rfl (op_move rfl rfl rfl)) ?_
        refine rg_put (d := 42) (v := .d (.fl (.int .i64 (((ct (fun q => o2 b.acc (ix b.chs q)) k) + 1))))) rfl (og rfl (op_bin rfl rfl rfl (fun x y w => b_add64 _ _ _ x y w (by omega)) rfl)) ?_
        refine rg_put (d := 3) (v := .d (.fl (.int .i64 (((ct (fun q => o2 b.acc (ix b.chs q)) k) + 1))))) rfl (og rfl (op_assign rfl rfl rfl)) ?_
        refine rg_done rfl ?_
        show A _ _ _ _ _ _ _
        refine a_region ?_
        refine rg_put (d := 20) (v := .d (.fl (.int .i64 (k : Int)))) rfl (og rfl (op_move rfl rfl rfl)) ?_
        refine rg_put (d := 21) (v := .d (.fl (.int .i64 (((k : Int) + 1))))) rfl (og rfl (op_bin rfl rfl rfl (fun x y w => b_add64 _ _ _ x y w (by omega)) rfl)) ?_
        refine rg_put (d := 5) (v := .d (.fl (.int .i64 (((k : Int) + 1))))) rfl (og rfl (op_assign rfl rfl rfl)) ?_
        refine rg_done rfl ?_
        show ∃ i, _ ∧ _ ∧ Imp _ _ _ _ _
        refine ⟨k + 1, (by omega), by omega, imp_forget rfl ⟨rfl, rfl, rfl, rfl, rfl, (by first | rfl | exact ci (by omega) | exact ci (by simp) | exact cd (by simp) | simp), (congrArg (fun z => AV.d (.fl (.int .i64 z))) (ct_y (p := fun q => o2 b.acc (ix b.chs q)) (show o2 b.acc (ix b.chs k) = true from h6))), trivial⟩ ⟨rfl, trivial⟩⟩
      · skip
        refine a_skip ?_
        show A _ _ _ _ _ _ _
        refine a_region ?_
        refine rg_put (d := 20) (v := .d (.fl (.int .i64 (k : Int)))) rfl (og rfl (op_move rfl rfl rfl)) ?_
        refine rg_put (d := 21) (v := .d (.fl (.int .i64 (((k : Int) + 1))))) rfl (og rfl (op_bin rfl rfl rfl (fun x y w => b_add64 _ _ _ x y w (by omega)) rfl)) ?_
        refine rg_put (d := 5) (v := .d (.fl (.int .i64 (((k : Int) + 1))))) rfl (og rfl (op_assign rfl rfl rfl)) ?_
        refine rg_done rfl ?_
        show ∃ i, _ ∧ _ ∧ Imp _ _ _ _ _
        refine ⟨k + 1, (by omega), by omega, imp_forget rfl ⟨rfl, rfl, rfl, rfl, rfl, (by first | rfl | exact ci (by omega) | exact ci (by simp) | exact cd (by simp) | simp), (congrArg (fun z => AV.d (.fl (.int .i64 z))) (ct_n (p := fun q => o2 b.acc (ix b.chs q)) (show o2 b.acc (ix b.chs k) = false from h6))), trivial⟩ ⟨rfl, trivial⟩⟩
    · skip
      have h7 := f_dec h4
      refine a_exit ?_
      show A _ _ _ _ _ _ _
      refine a_seq ?_
      refine a_rseq ?_
      refine rg_put (d := 8) (v := .d (.fl (.int .i64 0))) rfl (og rfl (op_assign rfl rfl rfl)) ?_
      refine rg_done rfl ?_
      refine a_block ?_
      refine a_loop (ι := Nat) (fun i => SS [(0, .d (.ag (eBil b))), (1, .pt 101 0), (2, .d (.fl (.bool false))), (3, .d (.fl (.int .i64 ((ct (fun q => o2 b.acc (ix b.chs q)) k))))), (5, .d (.fl (.int .i64 (k : Int)))), (13, .d (.fl (.bool ((!(few b)))))), (19, .d (.fl (.bool ((decide ((k : Int) < (b.chs.length : Int))))))), (8, .d (.fl (.int .i64 (i : Int)))), (4, .d (.fl (.int .i64 (al b.acc b.chs i))))] [(101, .bx 35 (eBil b))]) (fun i => i ≤ b.acc.length) (fun i => b.acc.length - i) 0 (by omega) (imp_forget rfl ⟨rfl, rfl, rfl, rfl, rfl, rfl, rfl, (by first | rfl | exact ci (by omega) | exact ci (by simp) | exact cd (by simp) | simp), rfl, trivial⟩ ⟨rfl, trivial⟩) (fun i hok => ?_)
      have hki := hok
      have hal := al_in b.acc b.chs i
      have hm : (i : Int) * (b.chs.length : Int) ≤ 8 * 30 := Int.mul_le_mul (by omega) (by omega) (by omega) (by omega)
      refine a_seq ?_
      refine a_rseq ?_
      refine rg_put (d := 43) (v := .d (.fl (.int .i64 (i : Int)))) rfl (og rfl (op_move rfl rfl rfl)) ?_
      refine rg_put (d := 44) (v := .pt 101 0) rfl (og rfl (of_eff (s_field_pt rfl Tryd.underlying35 rfl ti31 rfl rfl rfl) rfl)) ?_
      refine rg_put (d := 45) (v := .d (.sl 9 (List.map eAc b.acc))) rfl (og rfl (op_load_pt rfl Tryd.underlying31 rfl rfl rfl rfl rfl)) ?_
      refine rg_put (d := 46) (v := .d (.fl (.int .i64 (b.acc.length : Int)))) rfl (og rfl (s_len rfl Tryd.underlying31 rfl rfl)) ?_
      refine rg_put (d := 47) (v := .d (.fl (.bool ((decide ((i : Int) < (b.acc.length : Int))))))) rfl (og rfl (op_bin rfl rfl rfl (b_lss _ _ _ _) rfl)) ?_
      refine rg_done rfl ?_
      refine a_cond rfl (fun h8 => ?_) (fun h8 => ?_)
      · skip
        have h9 := t_dec h8
        refine a_skip ?_
        show A _ _ _ _ _ _ _
        refine a_seq ?_
        refine a_block ?_
        refine a_rseq ?_
        refine rg_put (d := 9) (v := .d (.fl (.bool false))) rfl (og rfl (op_assign rfl rfl rfl)) ?_
        refine rg_done rfl ?_
        refine a_seq ?_
        refine a_rseq ?_
        refine rg_put (d := 10) (v := .d (.fl (.int .i64 0))) rfl (og rfl (op_assign rfl rfl rfl)) ?_
        refine rg_done rfl ?_
        refine a_block ?_
        refine a_loop (ι := Nat) (fun j => SS [(0, .d (.ag (eBil b))), (1, .pt 101 0), (2, .d (.fl (.bool false))), (3, .d (.fl (.int .i64 ((ct (fun q => o2 b.acc (ix b.chs q)) k))))), (4, .d (.fl (.int .i64 (al b.acc b.chs i)))), (5, .d (.fl (.int .i64 (k : Int)))), (8, .d (.fl (.int .i64 (i : Int)))), (13, .d (.fl (.bool ((!(few b)))))), (19, .d (.fl (.bool ((decide ((k : Int) < (b.chs.length : Int))))))), (47, .d (.fl (.bool ((decide ((i : Int) < (b.acc.length : Int))))))), (10, .d (.fl (.int .i64 (j : Int)))), (9, .d (.fl (.bool ((hsn b.acc (ix b.acc i).name j)))))] [(101, .bx 35 (eBil b))]) (fun j => j ≤ i) (fun j => i - j) 0 (by omega) (imp_forget rfl ⟨rfl, rfl, rfl, rfl, rfl, rfl, rfl, rfl, rfl, rfl, (by first | rfl | exact ci (by omega) | exact ci (by simp) | exact cd (by simp) | simp), rfl, trivial⟩ ⟨rfl, trivial⟩) (fun j hok => ?_)
        have hkj := hok
        refine a_seq ?_
        refine a_rseq ?_
        refine rg_put (d := 50) (v := .d (.fl (.int .i64 (j : Int)))) rfl (og rfl (op_move rfl rfl rfl)) ?_
        refine rg_put (d := 51) (v := .d (.fl (.int .i64 (i : Int)))) rfl (og rfl (op_move rfl rfl rfl)) ?_
        refine rg_put (d := 52) (v := .d (.fl (.bool ((decide ((j : Int) < (i : Int))))))) rfl (og rfl (op_bin rfl rfl rfl (b_lss _ _ _ _) rfl)) ?_
        refine rg_done rfl ?_
        refine a_cond rfl (fun h10 => ?_) (fun h10 => ?_)
        · skip
          have h11 := t_dec h10
          refine a_skip ?_
          show A _ _ _ _ _ _ _
          refine a_seq ?_
          refine a_block ?_
          refine a_draw (by kernel_rfl) ?_
          refine dr_put (d := 55) (v := .d (.fl (.bool ((hsn b.acc (ix b.acc i).name j))))) rfl (og rfl (op_move rfl rfl rfl)) ?_
          refine dr_put (d := 56) (v := .d (.fl (.bool ((hsn b.acc (ix b.acc i).name j))))) rfl (og rfl (op_move rfl rfl rfl)) ?_
          rcases fot ((hsn b.acc (ix b.acc i).name j)) with h12 | h12
          · skip
            refine dr_put (d := 57) (v := .pt 101 0) rfl (oy rfl rfl rfl h12 (of_eff (s_field_pt rfl Tryd.underlying35 rfl ti31 rfl rfl rfl) rfl)) ?_
            refine dr_put (d := 58) (v := .d (.sl 9 (List.map eAc b.acc))) rfl (oy rfl rfl rfl h12 (op_load_pt rfl Tryd.underlying31 rfl rfl rfl rfl rfl)) ?_
            refine dr_put (d := 59) (v := .d (.fl (.int .i64 (j : Int)))) rfl (oy rfl rfl rfl h12 (op_move rfl rfl rfl)) ?_
            refine dr_put (d := 60) (v := .el ((eAc (ix b.acc j)))) rfl (oy rfl rfl rfl h12 (s_index rfl Tryd.underlying31 ti46 rfl rfl (by omega) (row_at (by omega)) rfl)) ?_
            refine dr_put (d := 61) (v := .el ((List.drop 0 ((eAc (ix b.acc j)))))) rfl (oy rfl rfl rfl h12 (of_eff (s_field_el rfl Tryd.underlying46 rfl ti9 rfl rfl rfl) rfl)) ?_
            refine dr_put (d := 62) (v := .d (.fl (.string ((ix b.acc j).name)))) rfl (oy rfl rfl rfl h12 (op_load_el rfl Tryd.underlying9 rfl rfl rfl rfl)) ?_
            refine dr_put (d := 63) (v := .pt 101 0) rfl (oy rfl rfl rfl h12 (of_eff (s_field_pt rfl Tryd.underlying35 rfl ti31 rfl rfl rfl) rfl)) ?_
            refine dr_put (d := 64) (v := .d (.sl 9 (List.map eAc b.acc))) rfl (oy rfl rfl rfl h12 (op_load_pt rfl Tryd.underlying31 rfl rfl rfl rfl rfl)) ?_
            refine dr_put (d := 65) (v := .d (.fl (.int .i64 (i : Int)))) rfl (oy rfl rfl rfl h12 (op_move rfl rfl rfl)) ?_
            refine dr_put (d := 66) (v := .el ((eAc (ix b.acc i)))) rfl (oy rfl rfl rfl h12 (s_index rfl Tryd.underlying31 ti46 rfl rfl (by omega) (row_at (by omega)) rfl)) ?_
            refine dr_put (d := 67) (v := .el ((List.drop 0 ((eAc (ix b.acc i)))))) rfl (oy rfl rfl rfl h12 (of_eff (s_field_el rfl Tryd.underlying46 rfl ti9 rfl rfl rfl) rfl)) ?_
            refine dr_put (d := 68) (v := .d (.fl (.string ((ix b.acc i).name)))) rfl (oy rfl rfl rfl h12 (op_load_el rfl Tryd.underlying9 rfl rfl rfl rfl)) ?_
            refine dr_put (d := 69) (v := .d (.fl (.bool ((sEq ((ix b.acc j).name) ((ix b.acc i).name)))))) rfl (oy rfl rfl rfl h12 (op_bin rfl rfl rfl (b_seq _ _ _) rfl)) ?_
            refine dr_put (d := 70) (v := .d (.fl (.bool ((sEq ((ix b.acc j).name) ((ix b.acc i).name)))))) rfl (og rfl (op_pick rfl rfl (by rw [h12]; rfl) rfl)) ?_
            refine dr_put (d := 9) (v := .d (.fl (.bool ((sEq ((ix b.acc j).name) ((ix b.acc i).name)))))) rfl (og rfl (op_assign rfl rfl rfl)) ?_
            refine dr_done rfl (sepB_of [0, 1, 3, 7, 3, 31, 63, 127, 3, 259, 3, 1795, 3843, 7939, 16383, 32767, 65535] (by kernel_rfl)) (by kernel_rfl) ?_
            show A _ _ _ _ _ _ _
            refine a_region ?_
            refine rg_put (d := 53) (v := .d (.fl (.int .i64 (j : Int)))) rfl (og rfl (op_move rfl rfl rfl)) ?_
            refine rg_put (d := 54) (v := .d (.fl (.int .i64 (((j : Int) + 1))))) rfl (og rfl (op_bin rfl rfl rfl (fun x y w => b_add64 _ _ _ x y w (by omega)) rfl)) ?_
            refine rg_put (d := 10) (v := .d (.fl (.int .i64 (((j : Int) + 1))))) rfl (og rfl (op_assign rfl rfl rfl)) ?_
            refine rg_done rfl ?_
            show ∃ i, _ ∧ _ ∧ Imp _ _ _ _ _
            refine ⟨j + 1, (by omega), by omega, imp_forget rfl ⟨rfl, rfl, rfl, rfl, rfl, rfl, rfl, rfl, rfl, rfl, (by first | rfl | exact ci (by omega) | exact ci (by simp) | exact cd (by simp) | simp), (congrArg (fun z => AV.d (.fl (.bool z))) (by show (sEq ((ix b.acc j).name) ((ix b.acc i).name)) = ((hsn b.acc (ix b.acc i).name j) || _); rw [h12, Bool.false_or])), trivial⟩ ⟨rfl, trivial⟩⟩
          · skip
            refine dr_put (d := 57) (v := .d (.fl undef)) rfl (on rfl rfl rfl h12) ?_
            refine dr_put (d := 58) (v := .d (.fl undef)) rfl (on rfl rfl rfl h12) ?_
            refine dr_put (d := 59) (v := .d (.fl undef)) rfl (on rfl rfl rfl h12) ?_
            refine dr_put (d := 60) (v := .d (.fl undef)) rfl (on rfl rfl rfl h12) ?_
            refine dr_put (d := 61) (v := .d (.fl undef)) rfl (on rfl rfl rfl h12) ?_
            refine dr_put (d := 62) (v := .d (.fl undef)) rfl (on rfl rfl rfl h12) ?_
            refine dr_put (d := 63) (v := .d (.fl undef)) rfl (on rfl rfl rfl h12) ?_
            refine dr_put (d := 64) (v := .d (.fl undef)) rfl (on rfl rfl rfl h12) ?_
            refine dr_put (d := 65) (v := .d (.fl undef)) rfl (on rfl rfl rfl h12) ?_
            refine dr_put (d := 66) (v := .d (.fl undef)) rfl (on rfl rfl rfl h12) ?_
            refine dr_put (d := 67) (v := .d (.fl undef)) rfl (on rfl rfl rfl h12) ?_
            refine dr_put (d := 68) (v := .d (.fl undef)) rfl (on rfl rfl rfl h12) ?_
            refine dr_put (d := 69) (v := .d (.fl undef)) rfl (on rfl rfl rfl h12) ?_
            refine dr_put (d := 70) (v := .d (.fl (.bool true))) rfl (og rfl (op_pick rfl rfl (by rw [h12]; rfl) rfl)) ?_
            refine dr_put (d := 9) (v := .d (.fl (.bool true))) rfl (og rfl (op_assign rfl rfl rfl)) ?_
            refine dr_done rfl (sepB_of [0, 1, 3, 7, 3, 31, 63, 127, 3, 259, 3, 1795, 3843, 7939, 16383, 32767, 65535] (by kernel_rfl)) (by kernel_rfl) ?_
            show A _ _ _ _ _ _ _
            refine a_region ?_
            refine rg_put (d := 53) (v := .d (.fl (.int .i64 (j : Int)))) rfl (og rfl (op_move rfl rfl rfl)) ?_
            refine rg_put (d := 54) (v := .d (.fl (.int .i64 (((j : Int) + 1))))) rfl (og rfl (op_bin rfl rfl rfl (fun x y w => b_add64 _ _ _ x y w (by omega)) rfl)) ?_
            refine rg_put (d := 10) (v := .d (.fl (.int .i64 (((j : Int) + 1))))) rfl (og rfl (op_assign rfl rfl rfl)) ?_
            refine rg_done rfl ?_
            show ∃ i, _ ∧ _ ∧ Imp _ _ _ _ _
            refine ⟨j + 1, (by omega), by omega, imp_forget rfl ⟨rfl, rfl, rfl, rfl, rfl, rfl, rfl, rfl, rfl, rfl, (by first | rfl | exact ci (by omega) | exact ci (by simp) | exact cd (by simp) | simp), (congrArg (fun z => AV.d (.fl (.bool z))) (by show true = ((hsn b.acc (ix b.acc i).name j) || _); rw [h12, Bool.true_or])), trivial⟩ ⟨rfl, trivial⟩⟩
        · skip
          have h13 := f_dec h10
          refine a_exit ?_
          show A _ _ _ _ _ _ _
          refine a_rseq ?_
          have hji : j = i := by omega
          rw [show (hsn b.acc (ix b.acc i).name j) = (hsn b.acc (ix b.acc i).name i) from by rw [hji]]
          refine rg_put (d := 71) (v := .d (.fl (.bool ((hsn b.acc (ix b.acc i).name i))))) rfl (og rfl (op_move rfl rfl rfl)) ?_
          refine rg_put (d := 72) (v := .d (.fl (.bool ((!((hsn b.acc (ix b.acc i).name i))))))) rfl (og rfl (op_un rfl rfl (u_not _) rfl)) ?_
          refine rg_done rfl ?_
          refine a_cond rfl (fun h14 => ?_) (fun h14 => ?_)
          · skip
            have h15 := t_not h14
            refine a_draw (by kernel_rfl) ?_
            have hol := ofl_len b.acc (ix b.acc i).name b.chs
            refine dr_put (d := 73) (v := .d (.fl (.int .i64 (al b.acc b.chs i)))) rfl (og rfl (op_move rfl rfl rfl)) ?_
            refine dr_put (d := 74) (v := .d (.ag (eBil b))) rfl (og rfl (of_eff (s_load_pts rfl Tryd.underlying35 rfl ti35 rfl rfl rfl rfl) rfl)) ?_
            refine dr_put (d := 75) (v := .d (.ag (eCfg (cf b)))) rfl (og rfl (op_call rfl Tryd.func16 nm16 rfl (.cons rfl (.d _) .nil) (cf16 b) rfl)) ?_
            refine dr_put (d := 76) (v := .pt 101 0) rfl (og rfl (of_eff (s_field_pt rfl Tryd.underlying35 rfl ti31 rfl rfl rfl) rfl)) ?_
            refine dr_put (d := 77) (v := .d (.sl 9 (List.map eAc b.acc))) rfl (og rfl (op_load_pt rfl Tryd.underlying31 rfl rfl rfl rfl rfl)) ?_
            refine dr_put (d := 78) (v := .d (.fl (.int .i64 (i : Int)))) rfl (og rfl (op_move rfl rfl rfl)) ?_
            refine dr_put (d := 79) (v := .el ((eAc (ix b.acc i)))) rfl (og rfl (s_index rfl Tryd.underlying31 ti46 rfl rfl (by omega) (row_at (by omega)) rfl)) ?_
            refine dr_put (d := 80) (v := .el ((List.drop 0 ((eAc (ix b.acc i)))))) rfl (og rfl (of_eff (s_field_el rfl Tryd.underlying46 rfl ti9 rfl rfl rfl) rfl)) ?_
            refine dr_put (d := 81) (v := .d (.fl (.string ((ix b.acc i).name)))) rfl (og rfl (op_load_el rfl Tryd.underlying9 rfl rfl rfl rfl)) ?_
            refine dr_put (d := 82) (v := .pt 101 2) rfl (og rfl (of_eff (s_field_pt rfl Tryd.underlying35 rfl ti33 rfl rfl rfl) rfl)) ?_
            refine dr_put (d := 83) (v := .d (.sl 7 (List.map eChg b.chs))) rfl (og rfl (op_load_pt rfl Tryd.underlying33 rfl rfl rfl rfl rfl)) ?_
            refine dr_put (d := 84) (v := .d (.sl 7 (List.map eChg ((ofl b.acc ((ix b.acc i).name) b.chs))))) rfl (og rfl (op_call rfl Tryd.func15 nm15 rfl (.cons rfl (.d _) (.cons rfl (.d _) (.cons rfl (.d _) .nil))) (of15 (cf b) ((ix b.acc i).name) b.chs (by show b.acc.length ≤ 8; omega) ha (by omega) hz) rfl)) ?_
            refine dr_put (d := 85) (v := .d (.fl (.int .i64 ((((ofl b.acc ((ix b.acc i).name) b.chs)).length : Int))))) rfl (og rfl (s_len rfl Tryd.underlying33 rfl rfl)) ?_
            refine dr_put (d := 86) (v := .d (.fl (.int .i64 (((al b.acc b.chs i) + (((ofl b.acc ((ix b.acc i).name) b.chs)).length : Int)))))) rfl (og rfl (op_bin rfl rfl rfl (fun x y w => b_add64 _ _ _ x y w (by omega)) rfl)) ?_
            refine dr_put (d := 4) (v := .d (.fl (.int .i64 (((al b.acc b.chs i) + (((ofl b.acc ((ix b.acc i).name) b.chs)).length : Int)))))) rfl (og rfl (op_assign rfl rfl rfl)) ?_
            refine dr_done rfl (sepB_of [0, 0, 2, 0, 8, 0, 56, 120, 248, 0, 512, 2046, 4094, 8191, 16383] (by kernel_rfl)) (by kernel_rfl) ?_
            show A _ _ _ _ _ _ _
            refine a_region ?_
            refine rg_put (d := 48) (v := .d (.fl (.int .i64 (i : Int)))) rfl (og rfl (op_move rfl rfl rfl)) ?_
            refine rg_put (d := 49) (v := .d (.fl (.int .i64 (((i : Int) + 1))))) rfl (og rfl (op_bin rfl rfl rfl (fun x y w => b_add64 _ _ _ x y w (by omega)) rfl)) ?_
            refine rg_put (d := 8) (v := .d (.fl (.int .i64 (((i : Int) + 1))))) rfl (og rfl (op_assign rfl rfl rfl)) ?_
            refine rg_done rfl ?_
            show ∃ i, _ ∧ _ ∧ Imp _ _ _ _ _
            refine ⟨i + 1, (by omega), by omega, imp_forget rfl ⟨rfl, rfl, rfl, rfl, rfl, rfl, rfl, (by first | rfl | exact ci (by omega) | exact ci (by simp) | exact cd (by simp) | simp), (congrArg (fun z => AV.d (.fl (.int .i64 z))) (al_n h15)), trivial⟩ ⟨rfl, trivial⟩⟩
          · skip
            have h16 := f_not h14
            refine a_skip ?_
            show A _ _ _ _ _ _ _
            refine a_region ?_
            refine rg_put (d := 48) (v := .d (.fl (.int .i64 (i : Int)))) rfl (og rfl (op_move rfl rfl rfl)) ?_
            refine rg_put (d := 49) (v := .d (.fl (.int .i64 (((i : Int) + 1))))) rfl (og rfl (op_bin rfl rfl rfl (fun x y w => b_add64 _ _ _ x y w (by omega)) rfl)) ?_
            refine rg_put (d := 8) (v := .d (.fl (.int .i64 (((i : Int) + 1))))) rfl (og rfl (op_assign rfl rfl rfl)) ?_
            refine rg_done rfl ?_
            show ∃ i, _ ∧ _ ∧ Imp _ _ _ _ _
            refine ⟨i + 1, (by omega), by omega, imp_forget rfl ⟨rfl, rfl, rfl, rfl, rfl, rfl, rfl, (by first | rfl | exact ci (by omega) | exact ci (by simp) | exact cd (by simp) | simp), (congrArg (fun z => AV.d (.fl (.int .i64 z))) (al_y h16)), trivial⟩ ⟨rfl, trivial⟩⟩
      · skip
        have h17 := f_dec h8
        refine a_exit ?_
        show A _ _ _ _ _ _ _
        refine a_rseq ?_
        have hkl : k = b.chs.length := by omega
        have hil : i = b.acc.length := by omega
        rw [show (ct (fun q => o2 b.acc (ix b.chs q)) k) = (al b.acc b.chs i) from by rw [hkl, hil]; exact once b.acc b.chs]
        refine rg_put (d := 87) (v := .d (.fl (.int .i64 (al b.acc b.chs i)))) rfl (og rfl (op_move rfl rfl rfl)) ?_
        refine rg_put (d := 88) (v := .d (.fl (.int .i64 (al b.acc b.chs i)))) rfl (og rfl (op_move rfl rfl rfl)) ?_
        refine rg_put (d := 89) (v := .d (.fl (.bool (((al b.acc b.chs i) == (al b.acc b.chs i)))))) rfl (og rfl (op_bin rfl rfl rfl (b_eql _ _ _ _) rfl)) ?_
        refine rg_put (d := 90) (v := .d (.fl (.bool (((al b.acc b.chs i) == (al b.acc b.chs i)))))) rfl (og rfl (op_move rfl rfl rfl)) ?_
        refine rg_put (d := 91) (v := .d (.fl (.bool true))) rfl (oy rfl rfl rfl (beq_self_eq_true _) (op_callK kkst hG rfl Tryd.func10 nm10 rfl .nil alive10 rfl)) ?_
        refine rg_put (d := 92) (v := .d (.fl (.bool true))) rfl (og rfl (op_pick rfl rfl (by rw [(beq_self_eq_true _)]; rfl) rfl)) ?_
        refine rg_put (d := 2) (v := .d (.fl (.bool true))) rfl (og rfl (op_assign rfl rfl rfl)) ?_
        refine rg_done rfl ?_
        refine a_ret ?_
        show ∃ ds, ResL _ _ _ ds ∧ RV.of ds = _
        refine ⟨[.fl (.bool true)], (.cons (.tmp rfl (.d _)) .nil), ?_⟩
        rfl
end Go.Proofs.YtjgfdheodnmddaaDoor.Wk
