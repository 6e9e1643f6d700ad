/- Passages earlier in the month, both sides. Conditions: as each theorem names them. -/
import Derived.Test.YtjgfdheodnmddaaDoorB1
set_option linter.unusedSimpArgs false
set_option linter.unusedVariables false
namespace Go.Proofs.YtjgfdheodnmddaaDoor.Wk
open Go Go.RowKit Go.Proofs.YtjgfdheodnmddaaDoor.Av
set_option maxHeartbeats 4000000 in
set_option maxRecDepth 100000 in
theorem bgP (x : Tp) : Ctr Tryd.prog 25 [.ag (eTp x)] (.tu [.fl (.int .i64 (bg x)), .fl (.bool (nz x))]) := by
  refine ctr (n := 13) (rs := #[.tmp 2, .tmp 3]) (L := [(0, .d (.ag (eTp x)))]) Tryd.func25 rfl rfl rfl rfl rfl (fun w0 U0 => ?_)
  refine a_rseq ?_
  refine rg_nam (d := 1) (v := .pt 101 0) (m := 101) (nw := [(101, .bx 28 (eTp x))]) rfl (og rfl (of_eff (op_box 101 rfl rfl rfl rfl) rfl)) rfl ?_
  refine rg_put (d := 2) (v := .d (.fl (.int .i64 0))) rfl (og rfl (op_assign rfl rfl rfl)) ?_
  refine rg_put (d := 3) (v := .d (.fl (.bool false))) rfl (og rfl (op_assign rfl rfl rfl)) ?_
  refine rg_done rfl ?_
  refine a_seq ?_
  refine a_rseq ?_
  refine rg_put (d := 4) (v := .pt 101 4) rfl (og rfl (of_eff (s_field_pt rfl Tryd.underlying28 rfl ti26 rfl rfl rfl) rfl)) ?_
  refine rg_put (d := 5) (v := .d (.sl 3 (List.map eSto x.stops))) rfl (og rfl (op_load_pt rfl Tryd.underlying26 rfl rfl rfl rfl rfl)) ?_
  refine rg_put (d := 6) (v := .d (.fl (.int .i64 (x.stops.length : Int)))) rfl (og rfl (s_len rfl Tryd.underlying26 rfl rfl)) ?_
  refine rg_put (d := 7) (v := .d (.fl (.bool (((x.stops.length : Int) == 0))))) rfl (og rfl (op_bin rfl rfl rfl (b_eql _ _ _ _) rfl)) ?_
  refine rg_done rfl ?_
  refine a_cond rfl (fun h1 => ?_) (fun h1 => ?_)
  · skip
    have h2 := t_beq h1
    refine a_rseq ?_
    refine rg_put (d := 2) (v := .d (.fl (.int .i64 0))) rfl (og rfl (op_assign rfl rfl rfl)) ?_
    refine rg_put (d := 3) (v := .d (.fl (.bool false))) rfl (og rfl (op_assign rfl rfl rfl)) ?_
    refine rg_done rfl ?_
    refine a_ret ?_
    show ∃ ds, ResL _ _ _ ds ∧ RV.of ds = _
    refine ⟨[.fl (.int .i64 0), .fl (.bool false)], (.cons (.tmp rfl (.d _)) (.cons (.tmp rfl (.d _)) .nil)), ?_⟩
    have hb1 : bg x = 0 := by unfold bg; rw [h1]; rfl
    have hb2 : nz x = false := by unfold nz; rw [h1]; rfl
    rw [hb1, hb2]; rfl
  · skip
    have h3 := f_beq h1
    refine a_skip ?_
    show A _ _ _ _ _ _ _
    refine a_rseq ?_
    refine rg_put (d := 8) (v := .pt 101 4) rfl (og rfl (of_eff (s_field_pt rfl Tryd.underlying28 rfl ti26 rfl rfl rfl) rfl)) ?_
    refine rg_put (d := 9) (v := .d (.sl 3 (List.map eSto x.stops))) rfl (og rfl (op_load_pt rfl Tryd.underlying26 rfl rfl rfl rfl rfl)) ?_
    refine rg_put (d := 10) (v := .el ((eSto (ix x.stops 0)))) rfl (og rfl (s_index rfl Tryd.underlying26 ti93 rfl rfl (by omega) (row_at (by omega)) rfl)) ?_
    refine rg_put (d := 11) (v := .el ((List.drop 1 ((eSto (ix x.stops 0)))))) rfl (og rfl (of_eff (s_field_el rfl Tryd.underlying93 rfl ti3 rfl rfl rfl) rfl)) ?_
    refine rg_put (d := 12) (v := .d (.fl (.int .i64 ((ix x.stops 0).time)))) rfl (og rfl (op_load_el rfl Tryd.underlying3 rfl rfl rfl rfl)) ?_
    refine rg_put (d := 2) (v := .d (.fl (.int .i64 ((ix x.stops 0).time)))) rfl (og rfl (op_assign rfl rfl rfl)) ?_
    refine rg_put (d := 3) (v := .d (.fl (.bool true))) rfl (og rfl (op_assign rfl rfl rfl)) ?_
    refine rg_done rfl ?_
    refine a_ret ?_
    show ∃ ds, ResL _ _ _ ds ∧ RV.of ds = _
    refine ⟨[.fl (.int .i64 ((ix x.stops 0).time)), .fl (.bool true)], (.cons (.tmp rfl (.d _)) (.cons (.tmp rfl (.d _)) .nil)), ?_⟩
    have hb1 : bg x = (ix x.stops 0).time := by unfold bg; rw [h1]; rfl
    have hb2 : nz x = true := by unfold nz; rw [h1]; rfl
    rw [hb1, hb2]; rfl
set_option maxHeartbeats 4000000 in
set_option maxRecDepth 100000 in
theorem befR (s u : ByteArray) (hs : s.size ≤ 80) (hz : u.size ≤ 80) : Ctr Tryd.prog 26 [.fl (.string s), .fl (.string u)] (.d (.fl (.bool (sLt s u)))) := by
  refine ctr (n := 37) (rs := #[.tmp 4]) (L := [(0, .d (.fl (.string s))), (1, .d (.fl (.string u)))]) Tryd.func26 rfl rfl rfl rfl rfl (fun w0 U0 => ?_)
  refine a_rseq ?_
  refine rg_put (d := 4) (v := .d (.fl (.bool false))) rfl (og rfl (op_assign rfl rfl rfl)) ?_
  refine rg_done rfl ?_
  refine a_seq ?_
  refine a_rseq ?_
  refine rg_put (d := 5) (v := .d (.fl (.int .i64 0))) rfl (og rfl (op_assign rfl rfl rfl)) ?_
  refine rg_done rfl ?_
  refine a_block ?_
  refine a_loop (ι := Nat) (fun k => SS [(0, .d (.fl (.string s))), (1, .d (.fl (.string u))), (5, .d (.fl (.int .i64 (k : Int))))] []) (fun k => k ≤ s.size ∧ k ≤ u.size ∧ ∀ q, q < k → bt s q = bt u q) (fun k => s.size - k) 0 (⟨by omega, by omega, fun q h => by omega⟩) (imp_forget rfl ⟨rfl, rfl, (by first | rfl | exact ci (by omega) | exact ci (by simp) | exact cd (by simp) | simp), trivial⟩ trivial) (fun k hok => ?_)
  obtain ⟨hk, hk2, hq⟩ := hok
  refine a_seq ?_
  refine a_rseq ?_
  refine rg_put (d := 6) (v := .d (.fl (.int .i64 (k : Int)))) rfl (og rfl (op_move rfl rfl rfl)) ?_
  refine rg_put (d := 7) (v := .d (.fl (.string s))) rfl (og rfl (op_move rfl rfl rfl)) ?_
  refine rg_put (d := 8) (v := .d (.fl (.int .i64 (s.size : Int)))) rfl (og rfl (op_len_str rfl Tryd.underlying9 rfl rfl)) ?_
  refine rg_put (d := 9) (v := .d (.fl (.bool ((decide ((k : Int) < (s.size : Int))))))) rfl (og rfl (op_bin rfl rfl rfl (b_lss _ _ _ _) rfl)) ?_
  refine rg_put (d := 10) (v := .d (.fl (.bool ((decide ((k : Int) < (s.size : Int))))))) rfl (og rfl (op_move rfl rfl rfl)) ?_
  rcases fot ((decide ((k : Int) < (s.size : Int)))) with h1 | h1
  · skip
    have h2 := f_dec h1
    refine rg_put (d := 11) (v := .d (.fl undef)) rfl (on rfl rfl rfl h1) ?_
    refine rg_put (d := 12) (v := .d (.fl undef)) rfl (on rfl rfl rfl h1) ?_
    refine rg_put (d := 13) (v := .d (.fl undef)) rfl (on rfl rfl rfl h1) ?_
    refine rg_put (d := 14) (v := .d (.fl undef)) rfl (on rfl rfl rfl h1) ?_
    refine rg_put (d := 15) (v := .d (.fl (.bool false))) rfl (og rfl (op_pick rfl rfl (by rw [h1]; rfl) rfl)) ?_
    refine rg_done rfl ?_
    refine a_condF rfl rfl ?_
    refine a_exit ?_
    show A _ _ _ _ _ _ _
    refine a_rseq ?_
    refine rg_put (d := 32) (v := .d (.fl (.string s))) rfl (og rfl (op_move rfl rfl rfl)) ?_
    refine rg_put (d := 33) (v := .d (.fl (.int .i64 (s.size : Int)))) rfl (og rfl (op_len_str rfl Tryd.underlying9 rfl rfl)) ?_
    refine rg_put (d := 34) (v := .d (.fl (.string u))) rfl (og rfl (op_move rfl rfl rfl)) ?_
    refine rg_put (d := 35) (v := .d (.fl (.int .i64 (u.size : Int)))) rfl (og rfl (op_len_str rfl Tryd.underlying9 rfl rfl)) ?_
    refine rg_put (d := 36) (v := .d (.fl (.bool ((decide ((s.size : Int) < (u.size : Int))))))) rfl (og rfl (op_bin rfl rfl rfl (b_lss _ _ _ _) rfl)) ?_
    refine rg_put (d := 4) (v := .d (.fl (.bool ((decide ((s.size : Int) < (u.size : Int))))))) rfl (og rfl (op_assign rfl rfl rfl)) ?_
    refine rg_done rfl ?_
    refine a_ret ?_
    show ∃ ds, ResL _ _ _ ds ∧ RV.of ds = _
    refine ⟨[.fl (.bool ((decide ((s.size : Int) < (u.size : Int)))))], (.cons (.tmp rfl (.d _)) .nil), ?_⟩
    rw [bef_end (k := k) (by omega) hq]; rfl
  · skip
    have h3 := t_dec h1
    refine rg_put (d := 11) (v := .d (.fl (.int .i64 (k : Int)))) rfl (oy rfl rfl rfl h1 (op_move rfl rfl rfl)) ?_
    refine rg_put (d := 12) (v := .d (.fl (.string u))) rfl (oy rfl rfl rfl h1 (op_move rfl rfl rfl)) ?_
    refine rg_put (d := 13) (v := .d (.fl (.int .i64 (u.size : Int)))) rfl (oy rfl rfl rfl h1 (op_len_str rfl Tryd.underlying9 rfl rfl)) ?_
    refine rg_put (d := 14) (v := .d (.fl (.bool ((decide ((k : Int) < (u.size : Int))))))) rfl (oy rfl rfl rfl h1 (op_bin rfl rfl rfl (b_lss _ _ _ _) rfl)) ?_
    refine rg_put (d := 15) (v := .d (.fl (.bool ((decide ((k : Int) < (u.size : Int))))))) rfl (og rfl (op_pick rfl rfl (by rw [h1]; rfl) rfl)) ?_
    refine rg_done rfl ?_
    refine a_cond rfl (fun h4 => ?_) (fun h4 => ?_)
    · skip
      have h5 := t_dec h4
      refine a_skip ?_
      show A _ _ _ _ _ _ _
      refine a_seq ?_
      refine a_block ?_
      refine a_dseq (by kernel_rfl) ?_
      refine dr_put (d := 18) (v := .d (.fl (.string s))) rfl (og rfl (op_move rfl rfl rfl)) ?_
      refine dr_put (d := 19) (v := .d (.fl (.int .i64 (k : Int)))) rfl (og rfl (op_move rfl rfl rfl)) ?_
      refine dr_put (d := 20) (v := .d (.fl (.int .u8 (((bt s k).toNat : Int))))) rfl (og rfl (op_strindex rfl Tryd.underlying9 rfl rfl (by omega) (byte_ix (by omega)) rfl)) ?_
      refine dr_put (d := 21) (v := .d (.fl (.string u))) rfl (og rfl (op_move rfl rfl rfl)) ?_
      refine dr_put (d := 22) (v := .d (.fl (.int .i64 (k : Int)))) rfl (og rfl (op_move rfl rfl rfl)) ?_
      refine dr_put (d := 23) (v := .d (.fl (.int .u8 (((bt u k).toNat : Int))))) rfl (og rfl (op_strindex rfl Tryd.underlying9 rfl rfl (by omega) (byte_ix (by omega)) rfl)) ?_
      refine dr_put (d := 24) (v := .d (.fl (.bool ((((bt s k).toNat : Int) != ((bt u k).toNat : Int)))))) rfl (og rfl (op_bin rfl rfl rfl (b_neq _ _ _ _) rfl)) ?_
      refine dr_done rfl (by kernel_rfl) (by kernel_rfl) ?_
      refine a_cond rfl (fun h6 => ?_) (fun h6 => ?_)
      · skip
        have h7 := t_bne h6
        refine a_dseq (by kernel_rfl) ?_
        refine dr_put (d := 25) (v := .d (.fl (.string s))) rfl (og rfl (op_move rfl rfl rfl)) ?_
        refine dr_put (d := 26) (v := .d (.fl (.int .i64 (k : Int)))) rfl (og rfl (op_move rfl rfl rfl)) ?_
        refine dr_put (d := 27) (v := .d (.fl (.int .u8 (((bt s k).toNat : Int))))) rfl (og rfl (op_strindex rfl Tryd.underlying9 rfl rfl (by omega) (byte_ix (by omega)) rfl)) ?_
        refine dr_put (d := 28) (v := .d (.fl (.string u))) rfl (og rfl (op_move rfl rfl rfl)) ?_
        refine dr_put (d := 29) (v := .d (.fl (.int .i64 (k : Int)))) rfl (og rfl (op_move rfl rfl rfl)) ?_
        refine dr_put (d := 30) (v := .d (.fl (.int .u8 (((bt u k).toNat : Int))))) rfl (og rfl (op_strindex rfl Tryd.underlying9 rfl rfl (by omega) (byte_ix (by omega)) rfl)) ?_
        refine dr_put (d := 31) (v := .d (.fl (.bool ((decide (((bt s k).toNat : Int) < ((bt u k).toNat : Int))))))) rfl (og rfl (op_bin rfl rfl rfl (b_lss _ _ _ _) rfl)) ?_
        refine dr_put (d := 4) (v := .d (.fl (.bool ((decide (((bt s k).toNat : Int) < ((bt u k).toNat : Int))))))) rfl (og rfl (op_assign rfl rfl rfl)) ?_
        refine dr_done rfl (by kernel_rfl) (by kernel_rfl) ?_
        refine a_ret ?_
        show ∃ ds, ResL _ _ _ ds ∧ RV.of ds = _
        refine ⟨[.fl (.bool ((decide (((bt s k).toNat : Int) < ((bt u k).toNat : Int)))))], (.cons (.tmp rfl (.d _)) .nil), ?_⟩
        have hne : bt s k ≠ bt u k := fun e => by have := t_bne h6; rw [e] at this; exact this rfl
        rw [bef_at (by omega) (by omega) hq hne]; rfl
      · skip
        have h8 := f_bne h6
        refine a_skip ?_
        show A _ _ _ _ _ _ _
        refine a_region ?_
        refine rg_put (d := 16) (v := .d (.fl (.int .i64 (k : Int)))) rfl (og rfl (op_move rfl rfl rfl)) ?_
        refine rg_put (d := 17) (v := .d (.fl (.int .i64 (((k : Int) + 1))))) rfl (og rfl (op_bin rfl rfl rfl (fun x y w => b_add64 _ _ _ x y w (by omega)) rfl)) ?_
        refine rg_put (d := 5) (v := .d (.fl (.int .i64 (((k : Int) + 1))))) rfl (og rfl (op_assign rfl rfl rfl)) ?_
        refine rg_done rfl ?_
        have hx : bt s k = bt u k := UInt8.toNat_inj.1 (by have := f_bne h6; omega)
        show ∃ i, _ ∧ _ ∧ Imp _ _ _ _ _
        refine ⟨k + 1, ⟨by omega, by omega, fun q h => (Nat.lt_succ_iff_lt_or_eq.1 h).elim (hq q) (fun e => by rw [e]; exact hx)⟩, by omega, imp_forget rfl ⟨rfl, rfl, (by first | rfl | exact ci (by omega) | exact ci (by simp) | exact cd (by simp) | simp), trivial⟩ trivial⟩
    · skip
      have h9 := f_dec h4
      refine a_exit ?_
      show A _ _ _ _ _ _ _
      refine a_rseq ?_
      refine rg_put (d := 32) (v := .d (.fl (.string s))) rfl (og rfl (op_move rfl rfl rfl)) ?_
      refine rg_put (d := 33) (v := .d (.fl (.int .i64 (s.size : Int)))) rfl (og rfl (op_len_str rfl Tryd.underlying9 rfl rfl)) ?_
      refine rg_put (d := 34) (v := .d (.fl (.string u))) rfl (og rfl (op_move rfl rfl rfl)) ?_
      refine rg_put (d := 35) (v := .d (.fl (.int .i64 (u.size : Int)))) rfl (og rfl (op_len_str rfl Tryd.underlying9 rfl rfl)) ?_
      refine rg_put (d := 36) (v := .d (.fl (.bool ((decide ((s.size : Int) < (u.size : Int))))))) rfl (og rfl (op_bin rfl rfl rfl (b_lss _ _ _ _) rfl)) ?_
      refine rg_put (d := 4) (v := .d (.fl (.bool ((decide ((s.size : Int) < (u.size : Int))))))) rfl (og rfl (op_assign rfl rfl rfl)) ?_
      refine rg_done rfl ?_
      refine a_ret ?_
      show ∃ ds, ResL _ _ _ ds ∧ RV.of ds = _
      refine ⟨[.fl (.bool ((decide ((s.size : Int) < (u.size : Int)))))], (.cons (.tmp rfl (.d _)) .nil), ?_⟩
      rw [bef_end (k := k) (by omega) hq]; rfl
set_option maxHeartbeats 4000000 in
set_option maxRecDepth 100000 in
theorem earP (l : List Tp) (x : Tp) (hl : l.length ≤ 30) (hid : ∀ q, q < l.length → (ix l q).id.size ≤ 80) (hxi : x.id.size ≤ 80) : CtrK Tryd.prog KK 11 [.sl 5 (List.map eTp l), .ag (eTp x)] (.d (.fl (.int .i64 (ear l x)))) := by
  refine ctrK (n := 74) (rs := #[.tmp 4]) (L := [(0, .d (.sl 5 (List.map eTp l))), (1, .d (.ag (eTp x)))]) Tryd.func11 rfl rfl rfl rfl rfl (fun w0 U0 hG => ?_)
  refine a_rseq ?_
  refine rg_nam (d := 3) (v := .pt 101 0) (m := 101) (nw := [(101, .bx 28 (eTp x))]) rfl (og rfl (of_eff (op_box 101 rfl rfl rfl rfl) rfl)) rfl ?_
  refine rg_put (d := 4) (v := .d (.fl (.int .i64 0))) rfl (og rfl (op_assign rfl rfl rfl)) ?_
  refine rg_done rfl ?_
  refine a_rseq ?_
  refine rg_put (d := 15) (v := .d (.ag (eTp x))) rfl (og rfl (of_eff (s_load_pts rfl Tryd.underlying28 rfl ti28 rfl rfl rfl rfl) rfl)) ?_
  refine rg_put (d := 16) (v := .tu [.fl (.int .i64 (bg x)), .fl (.bool (nz x))]) rfl (og rfl (op_call rfl Tryd.func25 nm25 rfl (.cons rfl (.d _) .nil) (bgP x) rfl)) ?_
  refine rg_put (d := 14) (v := .tu [.fl (.int .i64 (bg x)), .fl (.bool (nz x))]) rfl (og rfl (op_move rfl rfl rfl)) ?_
  refine rg_put (d := 17) (v := .d (.fl (.int .i64 (bg x)))) rfl (og rfl (op_extract rfl rfl rfl rfl)) ?_
  refine rg_put (d := 18) (v := .d (.fl (.bool (nz x)))) rfl (og rfl (op_extract rfl rfl rfl rfl)) ?_
  refine rg_put (d := 5) (v := .d (.fl (.int .i64 (bg x)))) rfl (og rfl (op_assign rfl rfl rfl)) ?_
  refine rg_put (d := 6) (v := .d (.fl (.bool (nz x)))) rfl (og rfl (op_assign rfl rfl rfl)) ?_
  refine rg_done rfl ?_
  refine a_rseq ?_
  refine rg_put (d := 19) (v := .d (.fl (.int .i64 (bg x)))) rfl (og rfl (op_move rfl rfl rfl)) ?_
  refine rg_put (d := 20) (v := .d (.fl (.int .i64 ((mon (bg x)))))) rfl (og rfl (op_callK kkst hG rfl Tryd.func8 nm8 rfl (.cons rfl (.d _) .nil) (monP (bg x)) rfl)) ?_
  refine rg_put (d := 7) (v := .d (.fl (.int .i64 ((mon (bg x)))))) rfl (og rfl (op_assign rfl rfl rfl)) ?_
  refine rg_done rfl ?_
  refine a_seq ?_
  refine a_rseq ?_
  refine rg_put (d := 21) (v := .d (.fl (.bool (nz x)))) rfl (og rfl (op_move rfl rfl rfl)) ?_
  refine rg_put (d := 22) (v := .d (.fl (.bool ((!(nz x)))))) rfl (og rfl (op_un rfl rfl (u_not _) rfl)) ?_
  refine rg_put (d := 23) (v := .d (.fl (.bool ((!(nz x)))))) rfl (og rfl (op_move rfl rfl rfl)) ?_
  rcases fot ((!(nz x))) with h1 | h1
  · skip
    have h2 := f_not h1
    refine rg_put (d := 24) (v := .d (.fl (.int .i64 ((mon (bg x)))))) rfl (oy rfl rfl rfl h1 (op_move rfl rfl rfl)) ?_
    refine rg_put (d := 25) (v := .d (.fl (.bool (((mon (bg x)) == (-1)))))) rfl (oy rfl rfl rfl h1 (op_bin rfl rfl rfl (b_eql _ _ _ _) rfl)) ?_
    refine rg_put (d := 26) (v := .d (.fl (.bool (((mon (bg x)) == (-1)))))) rfl (og rfl (op_pick rfl rfl (by rw [h1]; rfl) rfl)) ?_
    refine rg_done rfl ?_
    refine a_cond rfl (fun h3 => ?_) (fun h3 => ?_)
    · skip
      have h4 := t_beq h3
      refine a_rseq ?_
      refine rg_put (d := 4) (v := .d (.fl (.int .i64 0))) rfl (og rfl (op_assign rfl rfl rfl)) ?_
      refine rg_done rfl ?_
      refine a_ret ?_
      show ∃ ds, ResL _ _ _ ds ∧ RV.of ds = _
      refine ⟨[.fl (.int .i64 0)], (.cons (.tmp rfl (.d _)) .nil), ?_⟩
      have hu : ear l x = 0 := by unfold ear; simp only [h1, h2, h3, Bool.true_or, Bool.false_or, Bool.or_true, Bool.or_false, Bool.not_true, Bool.not_false, cond_true, cond_false, Bool.true_and, Bool.false_and, Bool.and_true, Bool.and_false] <;> rfl
      rw [hu]; rfl
    · skip
      have h5 := f_beq h3
      refine a_skip ?_
      show A _ _ _ _ _ _ _
      refine a_rseq ?_
      refine rg_put (d := 8) (v := .d (.fl (.int .i64 0))) rfl (og rfl (op_assign rfl rfl rfl)) ?_
      refine rg_done rfl ?_
      refine a_seq ?_
      refine a_rseq ?_
      refine rg_put (d := 27) (v := .d (.sl 5 (List.map eTp l))) rfl (og rfl (op_move rfl rfl rfl)) ?_
      refine rg_put (d := 28) (v := .d (.fl (.int .i64 (l.length : Int)))) rfl (og rfl (s_len rfl Tryd.underlying25 rfl rfl)) ?_
      refine rg_put (d := 29) (v := .d (.fl (.int .i64 0))) rfl (og rfl (op_move rfl rfl rfl)) ?_
      refine rg_done rfl ?_
      refine a_block ?_
      refine a_loop (ι := Nat) (fun k => SS [(0, .d (.sl 5 (List.map eTp l))), (1, .d (.ag (eTp x))), (3, .pt 101 0), (4, .d (.fl (.int .i64 0))), (5, .d (.fl (.int .i64 (bg x)))), (6, .d (.fl (.bool (nz x)))), (7, .d (.fl (.int .i64 ((mon (bg x)))))), (26, .d (.fl (.bool (((mon (bg x)) == (-1)))))), (27, .d (.sl 5 (List.map eTp l))), (28, .d (.fl (.int .i64 (l.length : Int)))), (29, .d (.fl (.int .i64 (k : Int)))), (8, .d (.fl (.int .i64 (cn l x k))))] [(101, .bx 28 (eTp x))]) (fun k => k ≤ l.length) (fun k => l.length - k) 0 (by omega) (imp_forget rfl ⟨rfl, rfl, rfl, rfl, rfl, rfl, rfl, rfl, rfl, rfl, (by first | rfl | exact ci (by omega) | exact ci (by simp) | exact cd (by simp) | simp), rfl, trivial⟩ ⟨rfl, trivial⟩) (fun k hok => ?_)
      have hk := hok
      have hcn := cn_in l x k
      refine a_rseq ?_
      refine rg_put (d := 30) (v := .d (.fl (.bool ((decide ((k : Int) < (l.length : Int))))))) rfl (og rfl (op_bin rfl rfl rfl (b_lss _ _ _ _) rfl)) ?_
      refine rg_done rfl ?_
      refine a_seq ?_
      refine a_cond rfl (fun h6 => ?_) (fun h6 => ?_)
      · skip
        have h7 := t_dec h6
        refine a_skip ?_
        show A _ _ _ _ _ _ _
        refine a_seq ?_
        refine a_block ?_
        refine a_rseq ?_
        refine rg_put (d := 31) (v := .el ((eTp (ix l k)))) rfl (og rfl (s_index rfl Tryd.underlying25 ti28 rfl rfl (by omega) (row_at (by omega)) rfl)) ?_
        refine rg_put (d := 32) (v := .d (.ag (eTp (ix l k)))) rfl (og rfl (of_eff (s_load_els rfl Tryd.underlying28 rfl ti28 rfl rfl rfl) rfl)) ?_
        refine rg_nam (d := 10) (v := .pt 102 0) (m := 102) (nw := [(102, .bx 28 ([.fl (.string (⟨#[]⟩)), .fl (.string (⟨#[]⟩)), .fl (.string (⟨#[]⟩)), .fl (.int .i64 0), .fl (.slice none 0 0)]))]) rfl (og rfl (of_eff (s_alloc 102 rfl ti28 (by kernel_rfl) rfl) rfl)) rfl ?_
        refine rg_sto (nw := [(102, .bx 28 ((eTp (ix l k))))]) rfl (og rfl (of_eff (s_store rfl rfl ti28 rfl rfl rfl rfl rfl rfl) rfl)) ?_
        refine rg_done rfl ?_
        refine a_rseq ?_
        refine rg_put (d := 34) (v := .d (.ag (eTp (ix l k)))) rfl (og rfl (of_eff (s_load_pts rfl Tryd.underlying28 rfl ti28 rfl rfl rfl rfl) rfl)) ?_
        refine rg_put (d := 35) (v := .tu [.fl (.int .i64 ((bg (ix l k)))), .fl (.bool ((nz (ix l k))))]) rfl (og rfl (op_call rfl Tryd.func25 nm25 rfl (.cons rfl (.d _) .nil) (bgP (ix l k)) rfl)) ?_
        refine rg_put (d := 33) (v := .tu [.fl (.int .i64 ((bg (ix l k)))), .fl (.bool ((nz (ix l k))))]) rfl (og rfl (op_move rfl rfl rfl)) ?_
        refine rg_put (d := 36) (v := .d (.fl (.int .i64 ((bg (ix l k)))))) rfl (og rfl (op_extract rfl rfl rfl rfl)) ?_
        refine rg_put (d := 37) (v := .d (.fl (.bool ((nz (ix l k)))))) rfl (og rfl (op_extract rfl rfl rfl rfl)) ?_
        refine rg_put (d := 11) (v := .d (.fl (.int .i64 ((bg (ix l k)))))) rfl (og rfl (op_assign rfl rfl rfl)) ?_
        refine rg_put (d := 12) (v := .d (.fl (.bool ((nz (ix l k)))))) rfl (og rfl (op_assign rfl rfl rfl)) ?_
        refine rg_done rfl ?_
        refine a_rseq ?_
        refine rg_put (d := 38) (v := .d (.fl (.int .i64 ((bg (ix l k)))))) rfl (og rfl (op_move rfl rfl rfl)) ?_
        refine rg_put (d := 39) (v := .d (.fl (.int .i64 (bg x)))) rfl (og rfl (op_move rfl rfl rfl)) ?_
        refine rg_put (d := 40) (v := .d (.fl (.bool ((decide ((bg (ix l k)) < (bg x))))))) rfl (og rfl (op_bin rfl rfl rfl (b_lss _ _ _ _) rfl)) ?_
        refine rg_put (d := 41) (v := .d (.fl (.bool ((decide ((bg (ix l k)) < (bg x))))))) rfl (og rfl (op_move rfl rfl rfl)) ?_
        rcases fot ((decide ((bg (ix l k)) < (bg x)))) with h8 | h8
        · skip
          have h9 := f_dec h8
          refine rg_put (d := 42) (v := .d (.fl (.int .i64 ((bg (ix l k)))))) rfl (oy rfl rfl rfl h8 (op_move rfl rfl rfl)) ?_
          refine rg_put (d := 43) (v := .d (.fl (.int .i64 (bg x)))) rfl (oy rfl rfl rfl h8 (op_move rfl rfl rfl)) ?_
          refine rg_put (d := 44) (v := .d (.fl (.bool (((bg (ix l k)) == (bg x)))))) rfl (oy rfl rfl rfl h8 (op_bin rfl rfl rfl (b_eql _ _ _ _) rfl)) ?_
          refine rg_put (d := 45) (v := .d (.fl (.bool (((bg (ix l k)) == (bg x)))))) rfl (oy rfl rfl rfl h8 (op_move rfl rfl rfl)) ?_
          rcases fot (((bg (ix l k)) == (bg x))) with h10 | h10
          · skip
            have h11 := f_beq h10
            refine rg_put (d := 46) (v := .d (.fl undef)) rfl (on rfl rfl rfl h10) ?_
            refine rg_put (d := 47) (v := .d (.fl undef)) rfl (on rfl rfl rfl h10) ?_
            refine rg_put (d := 48) (v := .d (.fl undef)) rfl (on rfl rfl rfl h10) ?_
            refine rg_put (d := 49) (v := .d (.fl undef)) rfl (on rfl rfl rfl h10) ?_
            refine rg_put (d := 50) (v := .d (.fl undef)) rfl (on rfl rfl rfl h10) ?_
            refine rg_put (d := 51) (v := .d (.fl (.bool false))) rfl (oy rfl rfl rfl h8 (op_pick rfl rfl (by rw [h10]; rfl) rfl)) ?_
            refine rg_put (d := 52) (v := .d (.fl (.bool false))) rfl (og rfl (op_pick rfl rfl (by rw [h8]; rfl) rfl)) ?_
            refine rg_put (d := 13) (v := .d (.fl (.bool false))) rfl (og rfl (op_assign rfl rfl rfl)) ?_
            refine rg_done rfl ?_
            refine a_rseq ?_
            refine rg_put (d := 53) (v := .d (.fl (.bool ((nz (ix l k)))))) rfl (og rfl (op_move rfl rfl rfl)) ?_
            refine rg_put (d := 54) (v := .d (.fl (.bool ((nz (ix l k)))))) rfl (og rfl (op_move rfl rfl rfl)) ?_
            rcases fot ((nz (ix l k))) with h12 | h12
            · skip
              refine rg_put (d := 55) (v := .d (.fl undef)) rfl (on rfl rfl rfl h12) ?_
              refine rg_put (d := 56) (v := .d (.fl undef)) rfl (on rfl rfl rfl h12) ?_
              refine rg_put (d := 57) (v := .d (.fl undef)) rfl (on rfl rfl rfl h12) ?_
              refine rg_put (d := 58) (v := .d (.fl undef)) rfl (on rfl rfl rfl h12) ?_
              refine rg_put (d := 59) (v := .d (.fl undef)) rfl (on rfl rfl rfl h12) ?_
              refine rg_put (d := 60) (v := .d (.fl (.bool false))) rfl (og rfl (op_pick rfl rfl (by rw [h12]; rfl) rfl)) ?_
              refine rg_put (d := 61) (v := .d (.fl (.bool false))) rfl (og rfl (op_move rfl rfl rfl)) ?_
              refine rg_put (d := 62) (v := .d (.fl undef)) rfl (on rfl rfl rfl rfl) ?_
              refine rg_put (d := 63) (v := .d (.fl (.bool false))) rfl (og rfl (op_pick rfl rfl rfl rfl)) ?_
              refine rg_put (d := 64) (v := .d (.fl (.bool false))) rfl (og rfl (op_move rfl rfl rfl)) ?_
              refine rg_put (d := 65) (v := .d (.fl undef)) rfl (on rfl rfl rfl rfl) ?_
              refine rg_put (d := 66) (v := .d (.fl undef)) rfl (on rfl rfl rfl rfl) ?_
              refine rg_put (d := 67) (v := .d (.fl undef)) rfl (on rfl rfl rfl rfl) ?_
              refine rg_put (d := 68) (v := .d (.fl undef)) rfl (on rfl rfl rfl rfl) ?_
              refine rg_put (d := 69) (v := .d (.fl (.bool false))) rfl (og rfl (op_pick rfl rfl rfl rfl)) ?_
              refine rg_done rfl ?_
              refine a_condF rfl rfl ?_
              refine a_skip ?_
              show A _ _ _ _ _ _ _
              refine a_region ?_
              refine rg_put (d := 72) (v := .d (.fl (.int .i64 (((k : Int) + 1))))) rfl (og rfl (op_bin rfl rfl rfl (fun x y w => b_add64 _ _ _ x y w (by omega)) rfl)) ?_
              refine rg_put (d := 29) (v := .d (.fl (.int .i64 (((k : Int) + 1))))) rfl (og rfl (op_move rfl rfl rfl)) ?_
              refine rg_done rfl ?_
              show ∃ i, _ ∧ _ ∧ Imp _ _ _ _ _
              refine ⟨k + 1, (by omega), by omega, imp_forget rfl ⟨rfl, rfl, rfl, rfl, rfl, rfl, rfl, rfl, rfl, rfl, (by first | rfl | exact ci (by omega) | exact ci (by simp) | exact cd (by simp) | simp), (congrArg (fun z => AV.d (.fl (.int .i64 z))) (cn_n (by unfold okc; simp only [h1, h2, h3, h6, h8, h10, h12, Bool.true_or, Bool.false_or, Bool.or_true, Bool.or_false, Bool.not_true, Bool.not_false, cond_true, cond_false, Bool.true_and, Bool.false_and, Bool.and_true, Bool.and_false] <;> first | rfl | simp))), trivial⟩ ⟨rfl, trivial⟩⟩
            · skip
              refine rg_put (d := 55) (v := .pt 102 1) rfl (oy rfl rfl rfl h12 (of_eff (s_field_pt rfl Tryd.underlying28 rfl ti9 rfl rfl rfl) rfl)) ?_
              refine rg_put (d := 56) (v := .d (.fl (.string ((ix l k).veh)))) rfl (oy rfl rfl rfl h12 (op_load_pt rfl Tryd.underlying9 rfl rfl rfl rfl rfl)) ?_
              refine rg_put (d := 57) (v := .pt 101 1) rfl (oy rfl rfl rfl h12 (of_eff (s_field_pt rfl Tryd.underlying28 rfl ti9 rfl rfl rfl) rfl)) ?_
              refine rg_put (d := 58) (v := .d (.fl (.string x.veh))) rfl (oy rfl rfl rfl h12 (op_load_pt rfl Tryd.underlying9 rfl rfl rfl rfl rfl)) ?_
              refine rg_put (d := 59) (v := .d (.fl (.bool ((sEq ((ix l k).veh) x.veh))))) rfl (oy rfl rfl rfl h12 (op_bin rfl rfl rfl (b_seq _ _ _) rfl)) ?_
              refine rg_put (d := 60) (v := .d (.fl (.bool ((sEq ((ix l k).veh) x.veh))))) rfl (og rfl (op_pick rfl rfl (by rw [h12]; rfl) rfl)) ?_
              refine rg_put (d := 61) (v := .d (.fl (.bool ((sEq ((ix l k).veh) x.veh))))) rfl (og rfl (op_move rfl rfl rfl)) ?_
              rcases fot ((sEq ((ix l k).veh) x.veh)) with h13 | h13
              · skip
                refine rg_put (d := 62) (v := .d (.fl undef)) rfl (on rfl rfl rfl h13) ?_
                refine rg_put (d := 63) (v := .d (.fl (.bool false))) rfl (og rfl (op_pick rfl rfl (by rw [h13]; rfl) rfl)) ?_
                refine rg_put (d := 64) (v := .d (.fl (.bool false))) rfl (og rfl (op_move rfl rfl rfl)) ?_
                refine rg_put (d := 65) (v := .d (.fl undef)) rfl (on rfl rfl rfl rfl) ?_
                refine rg_put (d := 66) (v := .d (.fl undef)) rfl (on rfl rfl rfl rfl) ?_
                refine rg_put (d := 67) (v := .d (.fl undef)) rfl (on rfl rfl rfl rfl) ?_
                refine rg_put (d := 68) (v := .d (.fl undef)) rfl (on rfl rfl rfl rfl) ?_
                refine rg_put (d := 69) (v := .d (.fl (.bool false))) rfl (og rfl (op_pick rfl rfl rfl rfl)) ?_
                refine rg_done rfl ?_
                refine a_condF rfl rfl ?_
                refine a_skip ?_
                show A _ _ _ _ _ _ _
                refine a_region ?_
                refine rg_put (d := 72) (v := .d (.fl (.int .i64 (((k : Int) + 1))))) rfl (og rfl (op_bin rfl rfl rfl (fun x y w => b_add64 _ _ _ x y w (by omega)) rfl)) ?_
                refine rg_put (d := 29) (v := .d (.fl (.int .i64 (((k : Int) + 1))))) rfl (og rfl (op_move rfl rfl rfl)) ?_
                refine rg_done rfl ?_
                show ∃ i, _ ∧ _ ∧ Imp _ _ _ _ _
                refine ⟨k + 1, (by omega), by omega, imp_forget rfl ⟨rfl, rfl, rfl, rfl, rfl, rfl, rfl, rfl, rfl, rfl, (by first | rfl | exact ci (by omega) | exact ci (by simp) | exact cd (by simp) | simp), (congrArg (fun z => AV.d (.fl (.int .i64 z))) (cn_n (by unfold okc; simp only [h1, h2, h3, h6, h8, h10, h12, h13, Bool.true_or, Bool.false_or, Bool.or_true, Bool.or_false, Bool.not_true, Bool.not_false, cond_true, cond_false, Bool.true_and, Bool.false_and, Bool.and_true, Bool.and_false] <;> first | rfl | simp))), trivial⟩ ⟨rfl, trivial⟩⟩
              · skip
                refine rg_put (d := 62) (v := .d (.fl (.bool false))) rfl (oy rfl rfl rfl h13 (op_move rfl rfl rfl)) ?_
                refine rg_put (d := 63) (v := .d (.fl (.bool false))) rfl (og rfl (op_pick rfl rfl (by rw [h13]; rfl) rfl)) ?_
                refine rg_put (d := 64) (v := .d (.fl (.bool false))) rfl (og rfl (op_move rfl rfl rfl)) ?_
                refine rg_put (d := 65) (v := .d (.fl undef)) rfl (on rfl rfl rfl rfl) ?_
                refine rg_put (d := 66) (v := .d (.fl undef)) rfl (on rfl rfl rfl rfl) ?_
                refine rg_put (d := 67) (v := .d (.fl undef)) rfl (on rfl rfl rfl rfl) ?_
                refine rg_put (d := 68) (v := .d (.fl undef)) rfl (on rfl rfl rfl rfl) ?_
                refine rg_put (d := 69) (v := .d (.fl (.bool false))) rfl (og rfl (op_pick rfl rfl rfl rfl)) ?_
                refine rg_done rfl ?_
                refine a_condF rfl rfl ?_
                refine a_skip ?_
                show A _ _ _ _ _ _ _
                refine a_region ?_
                refine rg_put (d := 72) (v := .d (.fl (.int .i64 (((k : Int) + 1))))) rfl (og rfl (op_bin rfl rfl rfl (fun x y w => b_add64 _ _ _ x y w (by omega)) rfl)) ?_
                refine rg_put (d := 29) (v := .d (.fl (.int .i64 (((k : Int) + 1))))) rfl (og rfl (op_move rfl rfl rfl)) ?_
                refine rg_done rfl ?_
                show ∃ i, _ ∧ _ ∧ Imp _ _ _ _ _
                refine ⟨k + 1, (by omega), by omega, imp_forget rfl ⟨rfl, rfl, rfl, rfl, rfl, rfl, rfl, rfl, rfl, rfl, (by first | rfl | exact ci (by omega) | exact ci (by simp) | exact cd (by simp) | simp), (congrArg (fun z => AV.d (.fl (.int .i64 z))) (cn_n (by unfold okc; simp only [h1, h2, h3, h6, h8, h10, h12, h13, Bool.true_or, Bool.false_or, Bool.or_true, Bool.or_false, Bool.not_true, Bool.not_false, cond_true, cond_false, Bool.true_and, Bool.false_and, Bool.and_true, Bool.and_false] <;> first | rfl | simp))), trivial⟩ ⟨rfl, trivial⟩⟩
          · skip
            have h14 := t_beq h10
            refine rg_put (d := 46) (v := .pt 102 0) rfl (oy rfl rfl rfl h10 (of_eff (s_field_pt rfl Tryd.underlying28 rfl ti9 rfl rfl rfl) rfl)) ?_
            refine rg_put (d := 47) (v := .d (.fl (.string ((ix l k).id)))) rfl (oy rfl rfl rfl h10 (op_load_pt rfl Tryd.underlying9 rfl rfl rfl rfl rfl)) ?_
            refine rg_put (d := 48) (v := .pt 101 0) rfl (oy rfl rfl rfl h10 (of_eff (s_field_pt rfl Tryd.underlying28 rfl ti9 rfl rfl rfl) rfl)) ?_
            refine rg_put (d := 49) (v := .d (.fl (.string x.id))) rfl (oy rfl rfl rfl h10 (op_load_pt rfl Tryd.underlying9 rfl rfl rfl rfl rfl)) ?_
            refine rg_put (d := 50) (v := .d (.fl (.bool ((sLt ((ix l k).id) x.id))))) rfl (oy rfl rfl rfl h10 (op_bin rfl rfl rfl (b_slt _ _ _) rfl)) ?_
            refine rg_put (d := 51) (v := .d (.fl (.bool ((sLt ((ix l k).id) x.id))))) rfl (oy rfl rfl rfl h8 (op_pick rfl rfl (by rw [h10]; rfl) rfl)) ?_
            refine rg_put (d := 52) (v := .d (.fl (.bool ((sLt ((ix l k).id) x.id))))) rfl (og rfl (op_pick rfl rfl (by rw [h8]; rfl) rfl)) ?_
            refine rg_put (d := 13) (v := .d (.fl (.bool ((sLt ((ix l k).id) x.id))))) rfl (og rfl (op_assign rfl rfl rfl)) ?_
            refine rg_done rfl ?_
            refine a_rseq ?_
            refine rg_put (d := 53) (v := .d (.fl (.bool ((nz (ix l k)))))) rfl (og rfl (op_move rfl rfl rfl)) ?_
            refine rg_put (d := 54) (v := .d (.fl (.bool ((nz (ix l k)))))) rfl (og rfl (op_move rfl rfl rfl)) ?_
            rcases fot ((nz (ix l k))) with h15 | h15
            · skip
              refine rg_put (d := 55) (v := .d (.fl undef)) rfl (on rfl rfl rfl h15) ?_
              refine rg_put (d := 56) (v := .d (.fl undef)) rfl (on rfl rfl rfl h15) ?_
              refine rg_put (d := 57) (v := .d (.fl undef)) rfl (on rfl rfl rfl h15) ?_
              refine rg_put (d := 58) (v := .d (.fl undef)) rfl (on rfl rfl rfl h15) ?_
              refine rg_put (d := 59) (v := .d (.fl undef)) rfl (on rfl rfl rfl h15) ?_
              refine rg_put (d := 60) (v := .d (.fl (.bool false))) rfl (og rfl (op_pick rfl rfl (by rw [h15]; rfl) rfl)) ?_
              refine rg_put (d := 61) (v := .d (.fl (.bool false))) rfl (og rfl (op_move rfl rfl rfl)) ?_
              refine rg_put (d := 62) (v := .d (.fl undef)) rfl (on rfl rfl rfl rfl) ?_
              refine rg_put (d := 63) (v := .d (.fl (.bool false))) rfl (og rfl (op_pick rfl rfl rfl rfl)) ?_
              refine rg_put (d := 64) (v := .d (.fl (.bool false))) rfl (og rfl (op_move rfl rfl rfl)) ?_
              refine rg_put (d := 65) (v := .d (.fl undef)) rfl (on rfl rfl rfl rfl) ?_
              refine rg_put (d := 66) (v := .d (.fl undef)) rfl (on rfl rfl rfl rfl) ?_
              refine rg_put (d := 67) (v := .d (.fl undef)) rfl (on rfl rfl rfl rfl) ?_
              refine rg_put (d := 68) (v := .d (.fl undef)) rfl (on rfl rfl rfl rfl) ?_
              refine rg_put (d := 69) (v := .d (.fl (.bool false))) rfl (og rfl (op_pick rfl rfl rfl rfl)) ?_
              refine rg_done rfl ?_
              refine a_condF rfl rfl ?_
              refine a_skip ?_
              show A _ _ _ _ _ _ _
              refine a_region ?_
              refine rg_put (d := 72) (v := .d (.fl (.int .i64 (((k : Int) + 1))))) rfl (og rfl (op_bin rfl rfl rfl (fun x y w => b_add64 _ _ _ x y w (by omega)) rfl)) ?_
              refine rg_put (d := 29) (v := .d (.fl (.int .i64 (((k : Int) + 1))))) rfl (og rfl (op_move rfl rfl rfl)) ?_
              refine rg_done rfl ?_
              show ∃ i, _ ∧ _ ∧ Imp _ _ _ _ _
              refine ⟨k + 1, (by omega), by omega, imp_forget rfl ⟨rfl, rfl, rfl, rfl, rfl, rfl, rfl, rfl, rfl, rfl, (by first | rfl | exact ci (by omega) | exact ci (by simp) | exact cd (by simp) | simp), (congrArg (fun z => AV.d (.fl (.int .i64 z))) (cn_n (by unfold okc; simp only [h1, h2, h3, h6, h8, h10, h15, Bool.true_or, Bool.false_or, Bool.or_true, Bool.or_false, Bool.not_true, Bool.not_false, cond_true, cond_false, Bool.true_and, Bool.false_and, Bool.and_true, Bool.and_false] <;> first | rfl | simp))), trivial⟩ ⟨rfl, trivial⟩⟩
            · skip
              refine rg_put (d := 55) (v := .pt 102 1) rfl (oy rfl rfl rfl h15 (of_eff (s_field_pt rfl Tryd.underlying28 rfl ti9 rfl rfl rfl) rfl)) ?_
              refine rg_put (d := 56) (v := .d (.fl (.string ((ix l k).veh)))) rfl (oy rfl rfl rfl h15 (op_load_pt rfl Tryd.underlying9 rfl rfl rfl rfl rfl)) ?_
              refine rg_put (d := 57) (v := .pt 101 1) rfl (oy rfl rfl rfl h15 (of_eff (s_field_pt rfl Tryd.underlying28 rfl ti9 rfl rfl rfl) rfl)) ?_
              refine rg_put (d := 58) (v := .d (.fl (.string x.veh))) rfl (oy rfl rfl rfl h15 (op_load_pt rfl Tryd.underlying9 rfl rfl rfl rfl rfl)) ?_
              refine rg_put (d := 59) (v := .d (.fl (.bool ((sEq ((ix l k).veh) x.veh))))) rfl (oy rfl rfl rfl h15 (op_bin rfl rfl rfl (b_seq _ _ _) rfl)) ?_
              refine rg_put (d := 60) (v := .d (.fl (.bool ((sEq ((ix l k).veh) x.veh))))) rfl (og rfl (op_pick rfl rfl (by rw [h15]; rfl) rfl)) ?_
              refine rg_put (d := 61) (v := .d (.fl (.bool ((sEq ((ix l k).veh) x.veh))))) rfl (og rfl (op_move rfl rfl rfl)) ?_
              rcases fot ((sEq ((ix l k).veh) x.veh)) with h16 | h16
              · skip
                refine rg_put (d := 62) (v := .d (.fl undef)) rfl (on rfl rfl rfl h16) ?_
                refine rg_put (d := 63) (v := .d (.fl (.bool false))) rfl (og rfl (op_pick rfl rfl (by rw [h16]; rfl) rfl)) ?_
                refine rg_put (d := 64) (v := .d (.fl (.bool false))) rfl (og rfl (op_move rfl rfl rfl)) ?_
                refine rg_put (d := 65) (v := .d (.fl undef)) rfl (on rfl rfl rfl rfl) ?_
                refine rg_put (d := 66) (v := .d (.fl undef)) rfl (on rfl rfl rfl rfl) ?_
                refine rg_put (d := 67) (v := .d (.fl undef)) rfl (on rfl rfl rfl rfl) ?_
                refine rg_put (d := 68) (v := .d (.fl undef)) rfl (on rfl rfl rfl rfl) ?_
                refine rg_put (d := 69) (v := .d (.fl (.bool false))) rfl (og rfl (op_pick rfl rfl rfl rfl)) ?_
                refine rg_done rfl ?_
                refine a_condF rfl rfl ?_
                refine a_skip ?_
                show A _ _ _ _ _ _ _
                refine a_region ?_
                refine rg_put (d := 72) (v := .d (.fl (.int .i64 (((k : Int) + 1))))) rfl (og rfl (op_bin rfl rfl rfl (fun x y w => b_add64 _ _ _ x y w (by omega)) rfl)) ?_
                refine rg_put (d := 29) (v := .d (.fl (.int .i64 (((k : Int) + 1))))) rfl (og rfl (op_move rfl rfl rfl)) ?_
                refine rg_done rfl ?_
                show ∃ i, _ ∧ _ ∧ Imp _ _ _ _ _
                refine ⟨k + 1, (by omega), by omega, imp_forget rfl ⟨rfl, rfl, rfl, rfl, rfl, rfl, rfl, rfl, rfl, rfl, (by first | rfl | exact ci (by omega) | exact ci (by simp) | exact cd (by simp) | simp), (congrArg (fun z => AV.d (.fl (.int .i64 z))) (cn_n (by unfold okc; simp only [h1, h2, h3, h6, h8, h10, h15, h16, Bool.true_or, Bool.false_or, Bool.or_true, Bool.or_false, Bool.not_true, Bool.not_false, cond_true, cond_false, Bool.true_and, Bool.false_and, Bool.and_true, Bool.and_false] <;> first | rfl | simp))), trivial⟩ ⟨rfl, trivial⟩⟩
              · skip
                refine rg_put (d := 62) (v := .d (.fl (.bool ((sLt ((ix l k).id) x.id))))) rfl (oy rfl rfl rfl h16 (op_move rfl rfl rfl)) ?_
                refine rg_put (d := 63) (v := .d (.fl (.bool ((sLt ((ix l k).id) x.id))))) rfl (og rfl (op_pick rfl rfl (by rw [h16]; rfl) rfl)) ?_
                refine rg_put (d := 64) (v := .d (.fl (.bool ((sLt ((ix l k).id) x.id))))) rfl (og rfl (op_move rfl rfl rfl)) ?_
                rcases fot ((sLt ((ix l k).id) x.id)) with h17 | h17
                · skip
                  refine rg_put (d := 65) (v := .d (.fl undef)) rfl (on rfl rfl rfl h17) ?_
                  refine rg_put (d := 66) (v := .d (.fl undef)) rfl (on rfl rfl rfl h17) ?_
                  refine rg_put (d := 67) (v := .d (.fl undef)) rfl (on rfl rfl rfl h17) ?_
                  refine rg_put (d := 68) (v := .d (.fl undef)) rfl (on rfl rfl rfl h17) ?_
                  refine rg_put (d := 69) (v := .d (.fl (.bool false))) rfl (og rfl (op_pick rfl rfl (by rw [h17]; rfl) rfl)) ?_
                  refine rg_done rfl ?_
                  refine a_condF rfl rfl ?_
                  refine a_skip ?_
                  show A _ _ _ _ _ _ _
                  refine a_region ?_
                  refine rg_put (d := 72) (v := .d (.fl (.int .i64 (((k : Int) + 1))))) rfl (og rfl (op_bin rfl rfl rfl (fun x y w => b_add64 _ _ _ x y w (by omega)) rfl)) ?_
                  refine rg_put (d := 29) (v := .d (.fl (.int .i64 (((k : Int) + 1))))) rfl (og rfl (op_move rfl rfl rfl)) ?_
                  refine rg_done rfl ?_
                  show ∃ i, _ ∧ _ ∧ Imp _ _ _ _ _
                  refine ⟨k + 1, (by omega), by omega, imp_forget rfl ⟨rfl, rfl, rfl, rfl, rfl, rfl, rfl, rfl, rfl, rfl, (by first | rfl | exact ci (by omega) | exact ci (by simp) | exact cd (by simp) | simp), (congrArg (fun z => AV.d (.fl (.int .i64 z))) (cn_n (by unfold okc; simp only [h1, h2, h3, h6, h8, h10, h15, h16, h17, Bool.true_or, Bool.false_or, Bool.or_true, Bool.or_false, Bool.not_true, Bool.not_false, cond_true, cond_false, Bool.true_and, Bool.false_and, Bool.and_true, Bool.and_false] <;> first | rfl | simp))), trivial⟩ ⟨rfl, trivial⟩⟩
                · skip
                  refine rg_put (d := 65) (v := .d (.fl (.int .i64 ((bg (ix l k)))))) rfl (oy rfl rfl rfl h17 (op_move rfl rfl rfl)) ?_
                  refine rg_put (d := 66) (v := .d (.fl (.int .i64 ((mon ((bg (ix l k)))))))) rfl (oy rfl rfl rfl h17 (op_callK kkst hG rfl Tryd.func8 nm8 rfl (.cons rfl (.d _) .nil) (monP ((bg (ix l k)))) rfl)) ?_
                  refine rg_put (d := 67) (v := .d (.fl (.int .i64 ((mon (bg x)))))) rfl (oy rfl rfl rfl h17 (op_move rfl rfl rfl)) ?_
                  refine rg_put (d := 68) (v := .d (.fl (.bool (((mon ((bg (ix l k)))) == (mon (bg x))))))) rfl (oy rfl rfl rfl h17 (op_bin rfl rfl rfl (b_eql _ _ _ _) rfl)) ?_
                  refine rg_put (d := 69) (v := .d (.fl (.bool (((mon ((bg (ix l k)))) == (mon (bg x))))))) rfl (og rfl (op_pick rfl rfl (by rw [h17]; rfl) rfl)) ?_
                  refine rg_done rfl ?_
                  refine a_cond rfl (fun h18 => ?_) (fun h18 => ?_)
                  · skip
                    have h19 := t_beq h18
                    refine a_region ?_
                    refine rg_put (d := 70) (v := .d (.fl (.int .i64 (cn l x k)))) rfl (og rfl (op_move rfl rfl rfl)) ?_
                    refine rg_put (d := 71) (v := .d (.fl (.int .i64 (((cn l x k) + 1))))) rfl (og rfl (op_bin rfl rfl rfl (fun x y w => b_add64 _ _ _ x y w (by omega)) rfl)) ?_
                    refine rg_put (d := 8) (v := .d (.fl (.int .i64 (((cn l x k) + 1))))) rfl (og rfl (op_assign rfl rfl rfl)) ?_
                    refine rg_done rfl ?_
                    show A _ _ _ _ _ _ _
                    refine a_region ?_
                    refine rg_put (d := 72) (v := .d (.fl (.int .i64 (((k : Int) + 1))))) rfl (og rfl (op_bin rfl rfl rfl (fun x y w => b_add64 _ _ _ x y w (by omega)) rfl)) ?_
                    refine rg_put (d := 29) (v := .d (.fl (.int .i64 (((k : Int) + 1))))) rfl (og rfl (op_move rfl rfl rfl)) ?_
                    refine rg_done rfl ?_
                    show ∃ i, _ ∧ _ ∧ Imp _ _ _ _ _
                    refine ⟨k + 1, (by omega), by omega, imp_forget rfl ⟨rfl, rfl, rfl, rfl, rfl, rfl, rfl, rfl, rfl, rfl, (by first | rfl | exact ci (by omega) | exact ci (by simp) | exact cd (by simp) | simp), (congrArg (fun z => AV.d (.fl (.int .i64 z))) (cn_y (by unfold okc; simp only [h1, h2, h3, h6, h8, h10, h15, h16, h17, h18, Bool.true_or, Bool.false_or, Bool.or_true, Bool.or_false, Bool.not_true, Bool.not_false, cond_true, cond_false, Bool.true_and, Bool.false_and, Bool.and_true, Bool.and_false] <;> first | rfl | simp))), trivial⟩ ⟨rfl, trivial⟩⟩
                  · skip
                    have h20 := f_beq h18
                    refine a_skip ?_
                    show A _ _ _ _ _ _ _
                    refine a_region ?_
                    refine rg_put (d := 72) (v := .d (.fl (.int .i64 (((k : Int) + 1))))) rfl (og rfl (op_bin rfl rfl rfl (fun x y w => b_add64 _ _ _ x y w (by omega)) rfl)) ?_
                    refine rg_put (d := 29) (v := .d (.fl (.int .i64 (((k : Int) + 1))))) rfl (og rfl (op_move rfl rfl rfl)) ?_
                    refine rg_done rfl ?_
                    show ∃ i, _ ∧ _ ∧ Imp _ _ _ _ _
                    refine ⟨k + 1, (by omega), by omega, imp_forget rfl ⟨rfl, rfl, rfl, rfl, rfl, rfl, rfl, rfl, rfl, rfl, (by first | rfl | exact ci (by omega) | exact ci (by simp) | exact cd (by simp) | simp), (congrArg (fun z => AV.d (.fl (.int .i64 z))) (cn_n (by unfold okc; simp only [h1, h2, h3, h6, h8, h10, h15, h16, h17, h18, Bool.true_or, Bool.false_or, Bool.or_true, Bool.or_false, Bool.not_true, Bool.not_false, cond_true, cond_false, Bool.true_and, Bool.false_and, Bool.and_true, Bool.and_false] <;> first | rfl | simp))), trivial⟩ ⟨rfl, trivial⟩⟩
        · skip
          have h21 := t_dec h8
          refine rg_put (d := 42) (v := .d (.fl undef)) rfl (on rfl rfl rfl h8) ?_
          refine rg_put (d := 43) (v := .d (.fl undef)) rfl (on rfl rfl rfl h8) ?_
          refine rg_put (d := 44) (v := .d (.fl undef)) rfl (on rfl rfl rfl h8) ?_
          refine rg_put (d := 45) (v := .d (.fl undef)) rfl (on rfl rfl rfl h8) ?_
          refine rg_put (d := 46) (v := .d (.fl undef)) rfl (ou rfl rfl rfl) ?_
          refine rg_put (d := 47) (v := .d (.fl undef)) rfl (ou rfl rfl rfl) ?_
          refine rg_put (d := 48) (v := .d (.fl undef)) rfl (ou rfl rfl rfl) ?_
          refine rg_put (d := 49) (v := .d (.fl undef)) rfl (ou rfl rfl rfl) ?_
          refine rg_put (d := 50) (v := .d (.fl undef)) rfl (ou rfl rfl rfl) ?_
          refine rg_put (d := 51) (v := .d (.fl undef)) rfl (on rfl rfl rfl h8) ?_
          refine rg_put (d := 52) (v := .d (.fl (.bool true))) rfl (og rfl (op_pick rfl rfl (by rw [h8]; rfl) rfl)) ?_
          refine rg_put (d := 13) (v := .d (.fl (.bool true))) rfl (og rfl (op_assign rfl rfl rfl)) ?_
          refine rg_done rfl ?_
          refine a_rseq ?_
          refine rg_put (d := 53) (v := .d (.fl (.bool ((nz (ix l k)))))) rfl (og rfl (op_move rfl rfl rfl)) ?_
          refine rg_put (d := 54) (v := .d (.fl (.bool ((nz (ix l k)))))) rfl (og rfl (op_move rfl rfl rfl)) ?_
          rcases fot ((nz (ix l k))) with h22 | h22
          · skip
            refine rg_put (d := 55) (v := .d (.fl undef)) rfl (on rfl rfl rfl h22) ?_
            refine rg_put (d := 56) (v := .d (.fl undef)) rfl (on rfl rfl rfl h22) ?_
            refine rg_put (d := 57) (v := .d (.fl undef)) rfl (on rfl rfl rfl h22) ?_
            refine rg_put (d := 58) (v := .d (.fl undef)) rfl (on rfl rfl rfl h22) ?_
            refine rg_put (d := 59) (v := .d (.fl undef)) rfl (on rfl rfl rfl h22) ?_
            refine rg_put (d := 60) (v := .d (.fl (.bool false))) rfl (og rfl (op_pick rfl rfl (by rw [h22]; rfl) rfl)) ?_
            refine rg_put (d := 61) (v := .d (.fl (.bool false))) rfl (og rfl (op_move rfl rfl rfl)) ?_
            refine rg_put (d := 62) (v := .d (.fl undef)) rfl (on rfl rfl rfl rfl) ?_
            refine rg_put (d := 63) (v := .d (.fl (.bool false))) rfl (og rfl (op_pick rfl rfl rfl rfl)) ?_
            refine rg_put (d := 64) (v := .d (.fl (.bool false))) rfl (og rfl (op_move rfl rfl rfl)) ?_
            refine rg_put (d := 65) (v := .d (.fl undef)) rfl (on rfl rfl rfl rfl) ?_
            refine rg_put (d := 66) (v := .d (.fl undef)) rfl (on rfl rfl rfl rfl) ?_
            refine rg_put (d := 67) (v := .d (.fl undef)) rfl (on rfl rfl rfl rfl) ?_
            refine rg_put (d := 68) (v := .d (.fl undef)) rfl (on rfl rfl rfl rfl) ?_
            refine rg_put (d := 69) (v := .d (.fl (.bool false))) rfl (og rfl (op_pick rfl rfl rfl rfl)) ?_
            refine rg_done rfl ?_
            refine a_condF rfl rfl ?_
            refine a_skip ?_
            show A _ _ _ _ _ _ _
            refine a_region ?_
            refine rg_put (d := 72) (v := .d (.fl (.int .i64 (((k : Int) + 1))))) rfl (og rfl (op_bin rfl rfl rfl (fun x y w => b_add64 _ _ _ x y w (by omega)) rfl)) ?_
            refine rg_put (d := 29) (v := .d (.fl (.int .i64 (((k : Int) + 1))))) rfl (og rfl (op_move rfl rfl rfl)) ?_
            refine rg_done rfl ?_
            show ∃ i, _ ∧ _ ∧ Imp _ _ _ _ _
            refine ⟨k + 1, (by omega), by omega, imp_forget rfl ⟨rfl, rfl, rfl, rfl, rfl, rfl, rfl, rfl, rfl, rfl, (by first | rfl | exact ci (by omega) | exact ci (by simp) | exact cd (by simp) | simp), (congrArg (fun z => AV.d (.fl (.int .i64 z))) (cn_n (by unfold okc; simp only [h1, h2, h3, h6, h8, h22, Bool.true_or, Bool.false_or, Bool.or_true, Bool.or_false, Bool.not_true, Bool.not_false, cond_true, cond_false, Bool.true_and, Bool.false_and, Bool.and_true, Bool.and_false] <;> first | rfl | simp))), trivial⟩ ⟨rfl, trivial⟩⟩
          · skip
            refine rg_put (d := 55) (v := .pt 102 1) rfl (oy rfl rfl rfl h22 (of_eff (s_field_pt rfl Tryd.underlying28 rfl ti9 rfl rfl rfl) rfl)) ?_
            refine rg_put (d := 56) (v := .d (.fl (.string ((ix l k).veh)))) rfl (oy rfl rfl rfl h22 (op_load_pt rfl Tryd.underlying9 rfl rfl rfl rfl rfl)) ?_
            refine rg_put (d := 57) (v := .pt 101 1) rfl (oy rfl rfl rfl h22 (of_eff (s_field_pt rfl Tryd.underlying28 rfl ti9 rfl rfl rfl) rfl)) ?_
            refine rg_put (d := 58) (v := .d (.fl (.string x.veh))) rfl (oy rfl rfl rfl h22 (op_load_pt rfl Tryd.underlying9 rfl rfl rfl rfl rfl)) ?_
            refine rg_put (d := 59) (v := .d (.fl (.bool ((sEq ((ix l k).veh) x.veh))))) rfl (oy rfl rfl rfl h22 (op_bin rfl rfl rfl (b_seq _ _ _) rfl)) ?_
            refine rg_put (d := 60) (v := .d (.fl (.bool ((sEq ((ix l k).veh) x.veh))))) rfl (og rfl (op_pick rfl rfl (by rw [h22]; rfl) rfl)) ?_
            refine rg_put (d := 61) (v := .d (.fl (.bool ((sEq ((ix l k).veh) x.veh))))) rfl (og rfl (op_move rfl rfl rfl)) ?_
            rcases fot ((sEq ((ix l k).veh) x.veh)) with h23 | h23
            · skip
              refine rg_put (d := 62) (v := .d (.fl undef)) rfl (on rfl rfl rfl h23) ?_
              refine rg_put (d := 63) (v := .d (.fl (.bool false))) rfl (og rfl (op_pick rfl rfl (by rw [h23]; rfl) rfl)) ?_
              refine rg_put (d := 64) (v := .d (.fl (.bool false))) rfl (og rfl (op_move rfl rfl rfl)) ?_
              refine rg_put (d := 65) (v := .d (.fl undef)) rfl (on rfl rfl rfl rfl) ?_
              refine rg_put (d := 66) (v := .d (.fl undef)) rfl (on rfl rfl rfl rfl) ?_
              refine rg_put (d := 67) (v := .d (.fl undef)) rfl (on rfl rfl rfl rfl) ?_
              refine rg_put (d := 68) (v := .d (.fl undef)) rfl (on rfl rfl rfl rfl) ?_
              refine rg_put (d := 69) (v := .d (.fl (.bool false))) rfl (og rfl (op_pick rfl rfl rfl rfl)) ?_
              refine rg_done rfl ?_
              refine a_condF rfl rfl ?_
              refine a_skip ?_
              show A _ _ _ _ _ _ _
              refine a_region ?_
              refine rg_put (d := 72) (v := .d (.fl (.int .i64 (((k : Int) + 1))))) rfl (og rfl (op_bin rfl rfl rfl (fun x y w => b_add64 _ _ _ x y w (by omega)) rfl)) ?_
              refine rg_put (d := 29) (v := .d (.fl (.int .i64 (((k : Int) + 1))))) rfl (og rfl (op_move rfl rfl rfl)) ?_
              refine rg_done rfl ?_
              show ∃ i, _ ∧ _ ∧ Imp _ _ _ _ _
              refine ⟨k + 1, (by omega), by omega, imp_forget rfl ⟨rfl, rfl, rfl, rfl, rfl, rfl, rfl, rfl, rfl, rfl, (by first | rfl | exact ci (by omega) | exact ci (by simp) | exact cd (by simp) | simp), (congrArg (fun z => AV.d (.fl (.int .i64 z))) (cn_n (by unfold okc; simp only [h1, h2, h3, h6, h8, h22, h23, Bool.true_or, Bool.false_or, Bool.or_true, Bool.or_false, Bool.not_true, Bool.not_false, cond_true, cond_false, Bool.true_and, Bool.false_and, Bool.and_true, Bool.and_false] <;> first | rfl | simp))), trivial⟩ ⟨rfl, trivial⟩⟩
            · skip
              refine rg_put (d := 62) (v := .d (.fl (.bool true))) rfl (oy rfl rfl rfl h23 (op_move rfl rfl rfl)) ?_
              refine rg_put (d := 63) (v := .d (.fl (.bool true))) rfl (og rfl (op_pick rfl rfl (by rw [h23]; rfl) rfl)) ?_
              refine rg_put (d := 64) (v := .d (.fl (.bool true))) rfl (og rfl (op_move rfl rfl rfl)) ?_
              refine rg_put (d := 65) (v := .d (.fl (.int .i64 ((bg (ix l k)))))) rfl (oy rfl rfl rfl rfl (op_move rfl rfl rfl)) ?_
              refine rg_put (d := 66) (v := .d (.fl (.int .i64 ((mon ((bg (ix l k)))))))) rfl (oy rfl rfl rfl rfl (op_callK kkst hG rfl Tryd.func8 nm8 rfl (.cons rfl (.d _) .nil) (monP ((bg (ix l k)))) rfl)) ?_
              refine rg_put (d := 67) (v := .d (.fl (.int .i64 ((mon (bg x)))))) rfl (oy rfl rfl rfl rfl (op_move rfl rfl rfl)) ?_
              refine rg_put (d := 68) (v := .d (.fl (.bool (((mon ((bg (ix l k)))) == (mon (bg x))))))) rfl (oy rfl rfl rfl rfl (op_bin rfl rfl rfl (b_eql _ _ _ _) rfl)) ?_
              refine rg_put (d := 69) (v := .d (.fl (.bool (((mon ((bg (ix l k)))) == (mon (bg x))))))) rfl (og rfl (op_pick rfl rfl rfl rfl)) ?_
              refine rg_done rfl ?_
              refine a_cond rfl (fun h24 => ?_) (fun h24 => ?_)
              · skip
                have h25 := t_beq h24
                refine a_region ?_
                refine rg_put (d := 70) (v := .d (.fl (.int .i64 (cn l x k)))) rfl (og rfl (op_move rfl rfl rfl)) ?_
                refine rg_put (d := 71) (v := .d (.fl (.int .i64 (((cn l x k) + 1))))) rfl (og rfl (op_bin rfl rfl rfl (fun x y w => b_add64 _ _ _ x y w (by omega)) rfl)) ?_
                refine rg_put (d := 8) (v := .d (.fl (.int .i64 (((cn l x k) + 1))))) rfl (og rfl (op_assign rfl rfl rfl)) ?_
                refine rg_done rfl ?_
                show A _ _ _ _ _ _ _
                refine a_region ?_
                refine rg_put (d := 72) (v := .d (.fl (.int .i64 (((k : Int) + 1))))) rfl (og rfl (op_bin rfl rfl rfl (fun x y w => b_add64 _ _ _ x y w (by omega)) rfl)) ?_
                refine rg_put (d := 29) (v := .d (.fl (.int .i64 (((k : Int) + 1))))) rfl (og rfl (op_move rfl rfl rfl)) ?_
                refine rg_done rfl ?_
                show ∃ i, _ ∧ _ ∧ Imp _ _ _ _ _
                refine ⟨k + 1, (by omega), by omega, imp_forget rfl ⟨rfl, rfl, rfl, rfl, rfl, rfl, rfl, rfl, rfl, rfl, (by first | rfl | exact ci (by omega) | exact ci (by simp) | exact cd (by simp) | simp), (congrArg (fun z => AV.d (.fl (.int .i64 z))) (cn_y (by unfold okc; simp only [h1, h2, h3, h6, h8, h22, h23, h24, Bool.true_or, Bool.false_or, Bool.or_true, Bool.or_false, Bool.not_true, Bool.not_false, cond_true, cond_false, Bool.true_and, Bool.false_and, Bool.and_true, Bool.and_false] <;> first | rfl | simp))), trivial⟩ ⟨rfl, trivial⟩⟩
              · skip
                have h26 := f_beq h24
                refine a_skip ?_
                show A _ _ _ _ _ _ _
                refine a_region ?_
                refine rg_put (d := 72) (v := .d (.fl (.int .i64 (((k : Int) + 1))))) rfl (og rfl (op_bin rfl rfl rfl (fun x y w => b_add64 _ _ _ x y w (by omega)) rfl)) ?_
                refine rg_put (d := 29) (v := .d (.fl (.int .i64 (((k : Int) + 1))))) rfl (og rfl (op_move rfl rfl rfl)) ?_
                refine rg_done rfl ?_
                show ∃ i, _ ∧ _ ∧ Imp _ _ _ _ _
                refine ⟨k + 1, (by omega), by omega, imp_forget rfl ⟨rfl, rfl, rfl, rfl, rfl, rfl, rfl, rfl, rfl, rfl, (by first | rfl | exact ci (by omega) | exact ci (by simp) | exact cd (by simp) | simp), (congrArg (fun z => AV.d (.fl (.int .i64 z))) (cn_n (by unfold okc; simp only [h1, h2, h3, h6, h8, h22, h23, h24, Bool.true_or, Bool.false_or, Bool.or_true, Bool.or_false, Bool.not_true, Bool.not_false, cond_true, cond_false, Bool.true_and, Bool.false_and, Bool.and_true, Bool.and_false] <;> first | rfl | simp))), trivial⟩ ⟨rfl, trivial⟩⟩
      · skip
        have h27 := f_dec h6
        refine a_exit ?_
        show A _ _ _ _ _ _ _
        refine a_rseq ?_
        refine rg_put (d := 73) (v := .d (.fl (.int .i64 (cn l x k)))) rfl (og rfl (op_move rfl rfl rfl)) ?_
        refine rg_put (d := 4) (v := .d (.fl (.int .i64 (cn l x k)))) rfl (og rfl (op_assign rfl rfl rfl)) ?_
        refine rg_done rfl ?_
        refine a_ret ?_
        show ∃ ds, ResL _ _ _ ds ∧ RV.of ds = _
        refine ⟨[.fl (.int .i64 (cn l x k))], (.cons (.tmp rfl (.d _)) .nil), ?_⟩
        have hkl : k = l.length := by omega
        have hu : ear l x = cn l x l.length := by unfold ear; simp only [h1, h2, h3, h6, Bool.true_or, Bool.false_or, Bool.or_true, Bool.or_false, Bool.not_true, Bool.not_false, cond_true, cond_false, Bool.true_and, Bool.false_and, Bool.and_true, Bool.and_false] <;> rfl
        rw [hu, ← hkl]; rfl
  · skip
    have h28 := t_not h1
    refine rg_put (d := 24) (v := .d (.fl undef)) rfl (on rfl rfl rfl h1) ?_
    refine rg_put (d := 25) (v := .d (.fl undef)) rfl (on rfl rfl rfl h1) ?_
    refine rg_put (d := 26) (v := .d (.fl (.bool true))) rfl (og rfl (op_pick rfl rfl (by rw [h1]; rfl) rfl)) ?_
    refine rg_done rfl ?_
    refine a_condK rfl rfl ?_
    refine a_rseq ?_
    refine rg_put (d := 4) (v := .d (.fl (.int .i64 0))) rfl (og rfl (op_assign rfl rfl rfl)) ?_
    refine rg_done rfl ?_
    refine a_ret ?_
    show ∃ ds, ResL _ _ _ ds ∧ RV.of ds = _
    refine ⟨[.fl (.int .i64 0)], (.cons (.tmp rfl (.d _)) .nil), ?_⟩
    have hu : ear l x = 0 := by unfold ear; simp only [h1, h28, Bool.true_or, Bool.false_or, Bool.or_true, Bool.or_false, Bool.not_true, Bool.not_false, cond_true, cond_false, Bool.true_and, Bool.false_and, Bool.and_true, Bool.and_false] <;> rfl
    rw [hu]; rfl
set_option maxHeartbeats 4000000 in
set_option maxRecDepth 100000 in
theorem earR (l : List Tp) (x : Tp) (hl : l.length ≤ 30) (hid : ∀ q, q < l.length → (ix l q).id.size ≤ 80) (hxi : x.id.size ≤ 80) : Ctr Tryd.prog 12 [.sl 5 (List.map eTp l), .ag (eTp x)] (.d (.fl (.int .i64 (ear l x)))) := by
  refine ctr (n := 86) (rs := #[.tmp 4]) (L := [(0, .d (.sl 5 (List.map eTp l))), (1, .d (.ag (eTp x)))]) Tryd.func12 rfl rfl rfl rfl rfl (fun w0 U0 => ?_)
  refine a_rseq ?_
  refine rg_nam (d := 3) (v := .pt 101 0) (m := 101) (nw := [(101, .bx 28 (eTp x))]) rfl (og rfl (of_eff (op_box 101 rfl rfl rfl rfl) rfl)) rfl ?_
  refine rg_put (d := 4) (v := .d (.fl (.int .i64 0))) rfl (og rfl (op_assign rfl rfl rfl)) ?_
  refine rg_done rfl ?_
  refine a_seq ?_
  refine a_rseq ?_
  refine rg_put (d := 9) (v := .pt 101 4) rfl (og rfl (of_eff (s_field_pt rfl Tryd.underlying28 rfl ti26 rfl rfl rfl) rfl)) ?_
  refine rg_put (d := 10) (v := .d (.sl 3 (List.map eSto x.stops))) rfl (og rfl (op_load_pt rfl Tryd.underlying26 rfl rfl rfl rfl rfl)) ?_
  refine rg_put (d := 11) (v := .d (.fl (.int .i64 (x.stops.length : Int)))) rfl (og rfl (s_len rfl Tryd.underlying26 rfl rfl)) ?_
  refine rg_put (d := 12) (v := .d (.fl (.bool (((x.stops.length : Int) == 0))))) rfl (og rfl (op_bin rfl rfl rfl (b_eql _ _ _ _) rfl)) ?_
  refine rg_put (d := 13) (v := .d (.fl (.bool (((x.stops.length : Int) == 0))))) rfl (og rfl (op_move rfl rfl rfl)) ?_
  rcases fot (((x.stops.length : Int) == 0)) with h1 | h1
  · skip
    have h2 := f_beq h1
    refine rg_put (d := 14) (v := .pt 101 4) rfl (oy rfl rfl rfl h1 (of_eff (s_field_pt rfl Tryd.underlying28 rfl ti26 rfl rfl rfl) rfl)) ?_
    refine rg_put (d := 15) (v := .d (.sl 3 (List.map eSto x.stops))) rfl (oy rfl rfl rfl h1 (op_load_pt rfl Tryd.underlying26 rfl rfl rfl rfl rfl)) ?_
    refine rg_put (d := 16) (v := .el ((eSto (ix x.stops 0)))) rfl (oy rfl rfl rfl h1 (s_index rfl Tryd.underlying26 ti93 rfl rfl (by omega) (row_at (by omega)) rfl)) ?_
    refine rg_put (d := 17) (v := .el ((List.drop 1 ((eSto (ix x.stops 0)))))) rfl (oy rfl rfl rfl h1 (of_eff (s_field_el rfl Tryd.underlying93 rfl ti3 rfl rfl rfl) rfl)) ?_
    refine rg_put (d := 18) (v := .d (.fl (.int .i64 ((ix x.stops 0).time)))) rfl (oy rfl rfl rfl h1 (op_load_el rfl Tryd.underlying3 rfl rfl rfl rfl)) ?_
    refine rg_put (d := 19) (v := .d (.fl (.int .i64 ((mon ((ix x.stops 0).time)))))) rfl (oy rfl rfl rfl h1 (op_call rfl Tryd.func9 nm9 rfl (.cons rfl (.d _) .nil) (monR ((ix x.stops 0).time)) rfl)) ?_
    refine rg_put (d := 20) (v := .d (.fl (.bool ((decide ((mon ((ix x.stops 0).time)) < 0)))))) rfl (oy rfl rfl rfl h1 (op_bin rfl rfl rfl (b_lss _ _ _ _) rfl)) ?_
    refine rg_put (d := 21) (v := .d (.fl (.bool ((decide ((mon ((ix x.stops 0).time)) < 0)))))) rfl (og rfl (op_pick rfl rfl (by rw [h1]; rfl) rfl)) ?_
    refine rg_done rfl ?_
    refine a_cond rfl (fun h3 => ?_) (fun h3 => ?_)
    · skip
      have h4 := t_dec h3
      refine a_rseq ?_
      refine rg_put (d := 4) (v := .d (.fl (.int .i64 0))) rfl (og rfl (op_assign rfl rfl rfl)) ?_
      refine rg_done rfl ?_
      refine a_ret ?_
      show ∃ ds, ResL _ _ _ ds ∧ RV.of ds = _
      refine ⟨[.fl (.int .i64 0)], (.cons (.tmp rfl (.d _)) .nil), ?_⟩
      have hmg := mon_ge (ix x.stops 0).time
      have hbx := bg_f h1
      have hmm : (mon (bg x) == -1) = true := by rw [hbx]; simp; omega
      have hnz : nz x = true := by unfold nz; rw [h1]; rfl
      have hu : ear l x = 0 := by unfold ear; rw [hmm, hnz]; rfl
      rw [hu]; rfl
    · skip
      have h5 := f_dec h3
      refine a_skip ?_
      show A _ _ _ _ _ _ _
      refine a_rseq ?_
      have hbx := bg_f h1
      refine rg_put (d := 22) (v := .pt 101 4) rfl (og rfl (of_eff (s_field_pt rfl Tryd.underlying28 rfl ti26 rfl rfl rfl) rfl)) ?_
      refine rg_put (d := 23) (v := .d (.sl 3 (List.map eSto x.stops))) rfl (og rfl (op_load_pt rfl Tryd.underlying26 rfl rfl rfl rfl rfl)) ?_
      refine rg_put (d := 24) (v := .el ((eSto (ix x.stops 0)))) rfl (og rfl (s_index rfl Tryd.underlying26 ti93 rfl rfl (by omega) (row_at (by omega)) rfl)) ?_
      refine rg_put (d := 25) (v := .el ((List.drop 1 ((eSto (ix x.stops 0)))))) rfl (og rfl (of_eff (s_field_el rfl Tryd.underlying93 rfl ti3 rfl rfl rfl) rfl)) ?_
      refine rg_put (d := 26) (v := .d (.fl (.int .i64 ((ix x.stops 0).time)))) rfl (og rfl (op_load_el rfl Tryd.underlying3 rfl rfl rfl rfl)) ?_
      refine rg_put (d := 5) (v := .d (.fl (.int .i64 ((ix x.stops 0).time)))) rfl (og rfl (op_assign rfl rfl rfl)) ?_
      refine rg_done rfl ?_
      refine a_rseq ?_
      refine rg_put (d := 6) (v := .d (.fl (.int .i64 0))) rfl (og rfl (op_assign rfl rfl rfl)) ?_
      refine rg_done rfl ?_
      refine a_seq ?_
      refine a_rseq ?_
      refine rg_put (d := 7) (v := .d (.fl (.int .i64 0))) rfl (og rfl (op_assign rfl rfl rfl)) ?_
      refine rg_done rfl ?_
      refine a_block ?_
      refine a_loop (ι := Nat) (fun k => SS [(0, .d (.sl 5 (List.map eTp l))), (1, .d (.ag (eTp x))), (3, .pt 101 0), (4, .d (.fl (.int .i64 0))), (5, .d (.fl (.int .i64 ((ix x.stops 0).time)))), (21, .d (.fl (.bool ((decide ((mon ((ix x.stops 0).time)) < 0)))))), (7, .d (.fl (.int .i64 (k : Int)))), (6, .d (.fl (.int .i64 (cn l x k))))] [(101, .bx 28 (eTp x))]) (fun k => k ≤ l.length) (fun k => l.length - k) 0 (by omega) (imp_forget rfl ⟨rfl, rfl, rfl, rfl, rfl, rfl, (by first | rfl | exact ci (by omega) | exact ci (by simp) | exact cd (by simp) | simp), rfl, trivial⟩ ⟨rfl, trivial⟩) (fun k hok => ?_)
      have hk := hok
      have hcn := cn_in l x k
      refine a_seq ?_
      refine a_rseq ?_
      refine rg_put (d := 27) (v := .d (.fl (.int .i64 (k : Int)))) rfl (og rfl (op_move rfl rfl rfl)) ?_
      refine rg_put (d := 28) (v := .d (.sl 5 (List.map eTp l))) rfl (og rfl (op_move rfl rfl rfl)) ?_
      refine rg_put (d := 29) (v := .d (.fl (.int .i64 (l.length : Int)))) rfl (og rfl (s_len rfl Tryd.underlying25 rfl rfl)) ?_
      refine rg_put (d := 30) (v := .d (.fl (.bool ((decide ((k : Int) < (l.length : Int))))))) rfl (og rfl (op_bin rfl rfl rfl (b_lss _ _ _ _) rfl)) ?_
      refine rg_done rfl ?_
      refine a_cond rfl (fun h6 => ?_) (fun h6 => ?_)
      · skip
        have h7 := t_dec h6
        refine a_skip ?_
        show A _ _ _ _ _ _ _
        refine a_seq ?_
        refine a_block ?_
        refine a_seq ?_
        refine a_dseq (by kernel_rfl) ?_
        refine dr_put (d := 33) (v := .d (.sl 5 (List.map eTp l))) rfl (og rfl (op_move rfl rfl rfl)) ?_
        refine dr_put (d := 34) (v := .d (.fl (.int .i64 (k : Int)))) rfl (og rfl (op_move rfl rfl rfl)) ?_
        refine dr_put (d := 35) (v := .el ((eTp (ix l k)))) rfl (og rfl (s_index rfl Tryd.underlying25 ti28 rfl rfl (by omega) (row_at (by omega)) rfl)) ?_
        refine dr_put (d := 36) (v := .el ((List.drop 1 ((eTp (ix l k)))))) rfl (og rfl (of_eff (s_field_el rfl Tryd.underlying28 rfl ti9 rfl rfl rfl) rfl)) ?_
        refine dr_put (d := 37) (v := .d (.fl (.string ((ix l k).veh)))) rfl (og rfl (op_load_el rfl Tryd.underlying9 rfl rfl rfl rfl)) ?_
        refine dr_put (d := 38) (v := .pt 101 1) rfl (og rfl (of_eff (s_field_pt rfl Tryd.underlying28 rfl ti9 rfl rfl rfl) rfl)) ?_
        refine dr_put (d := 39) (v := .d (.fl (.string x.veh))) rfl (og rfl (op_load_pt rfl Tryd.underlying9 rfl rfl rfl rfl rfl)) ?_
        refine dr_put (d := 40) (v := .d (.fl (.bool ((!(sEq ((ix l k).veh) x.veh)))))) rfl (og rfl (op_bin rfl rfl rfl (b_sne _ _ _) rfl)) ?_
        refine dr_put (d := 41) (v := .d (.fl (.bool ((!(sEq ((ix l k).veh) x.veh)))))) rfl (og rfl (op_move rfl rfl rfl)) ?_
        rcases fot ((!(sEq ((ix l k).veh) x.veh))) with h8 | h8
        · skip
          have h9 := f_not h8
          refine dr_put (d := 42) (v := .d (.sl 5 (List.map eTp l))) rfl (oy rfl rfl rfl h8 (op_move rfl rfl rfl)) ?_
          refine dr_put (d := 43) (v := .d (.fl (.int .i64 (k : Int)))) rfl (oy rfl rfl rfl h8 (op_move rfl rfl rfl)) ?_
          refine dr_put (d := 44) (v := .el ((eTp (ix l k)))) rfl (oy rfl rfl rfl h8 (s_index rfl Tryd.underlying25 ti28 rfl rfl (by omega) (row_at (by omega)) rfl)) ?_
          refine dr_put (d := 45) (v := .el ((List.drop 4 ((eTp (ix l k)))))) rfl (oy rfl rfl rfl h8 (of_eff (s_field_el rfl Tryd.underlying28 rfl ti26 rfl rfl rfl) rfl)) ?_
          refine dr_put (d := 46) (v := .d (.sl 3 (List.map eSto ((ix l k).stops)))) rfl (oy rfl rfl rfl h8 (op_load_el rfl Tryd.underlying26 rfl rfl rfl rfl)) ?_
          refine dr_put (d := 47) (v := .d (.fl (.int .i64 ((((ix l k).stops).length : Int))))) rfl (oy rfl rfl rfl h8 (s_len rfl Tryd.underlying26 rfl rfl)) ?_
          refine dr_put (d := 48) (v := .d (.fl (.bool (((((ix l k).stops).length : Int) == 0))))) rfl (oy rfl rfl rfl h8 (op_bin rfl rfl rfl (b_eql _ _ _ _) rfl)) ?_
          refine dr_put (d := 49) (v := .d (.fl (.bool (((((ix l k).stops).length : Int) == 0))))) rfl (og rfl (op_pick rfl rfl (by rw [h8]; rfl) rfl)) ?_
          refine dr_done rfl (sepB_of [0, 0, 3, 7, 15, 0, 32, 127, 255, 511, 511, 2047, 4095, 8191, 16383, 32767, 65535] (by kernel_rfl)) (by kernel_rfl) ?_
          refine a_cond rfl (fun h10 => ?_) (fun h10 => ?_)
          · skip
            have h11 := t_beq h10
            refine a_exit ?_
            show A _ _ _ _ _ _ _
            refine a_region ?_
            refine rg_put (d := 31) (v := .d (.fl (.int .i64 (k : Int)))) rfl (og rfl (op_move rfl rfl rfl)) ?_
            refine rg_put (d := 32) (v := .d (.fl (.int .i64 (((k : Int) + 1))))) rfl (og rfl (op_bin rfl rfl rfl (fun x y w => b_add64 _ _ _ x y w (by omega)) rfl)) ?_
            refine rg_put (d := 7) (v := .d (.fl (.int .i64 (((k : Int) + 1))))) rfl (og rfl (op_assign rfl rfl rfl)) ?_
            refine rg_done rfl ?_
            show ∃ i, _ ∧ _ ∧ Imp _ _ _ _ _
            refine ⟨k + 1, (by omega), by omega, imp_forget rfl ⟨rfl, rfl, rfl, rfl, rfl, rfl, (by first | rfl | exact ci (by omega) | exact ci (by simp) | exact cd (by simp) | simp), (congrArg (fun z => AV.d (.fl (.int .i64 z))) (cn_n (by have hnzy : nz (ix l k) = false := (by unfold nz; rw [h10]; rfl); unfold okc; simp only [h1, h3, h6, h8, h9, h10, hnzy, hbx, Bool.true_or, Bool.false_or, Bool.or_true, Bool.or_false, Bool.not_true, Bool.not_false, cond_true, cond_false, Bool.true_and, Bool.false_and, Bool.and_true, Bool.and_false] <;> first | rfl | simp))), trivial⟩ ⟨rfl, trivial⟩⟩
          · skip
            have h12 := f_beq h10
            refine a_skip ?_
            show A _ _ _ _ _ _ _
            refine a_rseq ?_
            refine rg_put (d := 50) (v := .d (.sl 5 (List.map eTp l))) rfl (og rfl (op_move rfl rfl rfl)) ?_
            refine rg_put (d := 51) (v := .d (.fl (.int .i64 (k : Int)))) rfl (og rfl (op_move rfl rfl rfl)) ?_
            refine rg_put (d := 52) (v := .el ((eTp (ix l k)))) rfl (og rfl (s_index rfl Tryd.underlying25 ti28 rfl rfl (by omega) (row_at (by omega)) rfl)) ?_
            refine rg_put (d := 53) (v := .el ((List.drop 4 ((eTp (ix l k)))))) rfl (og rfl (of_eff (s_field_el rfl Tryd.underlying28 rfl ti26 rfl rfl rfl) rfl)) ?_
            refine rg_put (d := 54) (v := .d (.sl 3 (List.map eSto ((ix l k).stops)))) rfl (og rfl (op_load_el rfl Tryd.underlying26 rfl rfl rfl rfl)) ?_
            refine rg_put (d := 55) (v := .el ((eSto ((ix ((ix l k).stops) 0))))) rfl (og rfl (s_index rfl Tryd.underlying26 ti93 rfl rfl (by omega) (row_at (by omega)) rfl)) ?_
            refine rg_put (d := 56) (v := .el ((List.drop 1 ((eSto ((ix ((ix l k).stops) 0))))))) rfl (og rfl (of_eff (s_field_el rfl Tryd.underlying93 rfl ti3 rfl rfl rfl) rfl)) ?_
            refine rg_put (d := 57) (v := .d (.fl (.int .i64 (((ix ((ix l k).stops) 0)).time)))) rfl (og rfl (op_load_el rfl Tryd.underlying3 rfl rfl rfl rfl)) ?_
            refine rg_put (d := 8) (v := .d (.fl (.int .i64 (((ix ((ix l k).stops) 0)).time)))) rfl (og rfl (op_assign rfl rfl rfl)) ?_
            refine rg_done rfl ?_
            refine a_dseq (by kernel_rfl) ?_
            refine dr_put (d := 58) (v := .d (.fl (.int .i64 (((ix ((ix l k).stops) 0)).time)))) rfl (og rfl (op_move rfl rfl rfl)) ?_
            refine dr_put (d := 59) (v := .d (.fl (.int .i64 ((mon (((ix ((ix l k).stops) 0)).time)))))) rfl (og rfl (op_call rfl Tryd.func9 nm9 rfl (.cons rfl (.d _) .nil) (monR (((ix ((ix l k).stops) 0)).time)) rfl)) ?_
            refine dr_put (d := 60) (v := .d (.fl (.int .i64 ((ix x.stops 0).time)))) rfl (og rfl (op_move rfl rfl rfl)) ?_
            refine dr_put (d := 61) (v := .d (.fl (.int .i64 ((mon ((ix x.stops 0).time)))))) rfl (og rfl (op_call rfl Tryd.func9 nm9 rfl (.cons rfl (.d _) .nil) (monR ((ix x.stops 0).time)) rfl)) ?_
            refine dr_put (d := 62) (v := .d (.fl (.bool (((mon (((ix ((ix l k).stops) 0)).time)) == (mon ((ix x.stops 0).time))))))) rfl (og rfl (op_bin rfl rfl rfl (b_eql _ _ _ _) rfl)) ?_
            refine dr_put (d := 63) (v := .d (.fl (.bool (((mon (((ix ((ix l k).stops) 0)).time)) == (mon ((ix x.stops 0).time))))))) rfl (og rfl (op_move rfl rfl rfl)) ?_
            rcases fot (((mon (((ix ((ix l k).stops) 0)).time)) == (mon ((ix x.stops 0).time)))) with h13 | h13
            · skip
              have h14 := f_beq h13
              refine dr_put (d := 64) (v := .d (.fl undef)) rfl (on rfl rfl rfl h13) ?_
              refine dr_put (d := 65) (v := .d (.fl undef)) rfl (on rfl rfl rfl h13) ?_
              refine dr_put (d := 66) (v := .d (.fl undef)) rfl (on rfl rfl rfl h13) ?_
              refine dr_put (d := 67) (v := .d (.fl undef)) rfl (on rfl rfl rfl h13) ?_
              refine dr_put (d := 68) (v := .d (.fl undef)) rfl (ou rfl rfl rfl) ?_
              refine dr_put (d := 69) (v := .d (.fl undef)) rfl (ou rfl rfl rfl) ?_
              refine dr_put (d := 70) (v := .d (.fl undef)) rfl (ou rfl rfl rfl) ?_
              refine dr_put (d := 71) (v := .d (.fl undef)) rfl (ou rfl rfl rfl) ?_
              refine dr_put (d := 72) (v := .d (.fl undef)) rfl (ou rfl rfl rfl) ?_
              refine dr_put (d := 73) (v := .d (.fl undef)) rfl (ou rfl rfl rfl) ?_
              refine dr_put (d := 74) (v := .d (.fl undef)) rfl (ou rfl rfl rfl) ?_
              refine dr_put (d := 75) (v := .d (.fl undef)) rfl (ou rfl rfl rfl) ?_
              refine dr_put (d := 76) (v := .d (.fl undef)) rfl (ou rfl rfl rfl) ?_
              refine dr_put (d := 77) (v := .d (.fl undef)) rfl (ou rfl rfl rfl) ?_
              refine dr_put (d := 78) (v := .d (.fl undef)) rfl (ou rfl rfl rfl) ?_
              refine dr_put (d := 79) (v := .d (.fl undef)) rfl (ou rfl rfl rfl) ?_
              refine dr_put (d := 80) (v := .d (.fl undef)) rfl (ou rfl rfl rfl) ?_
              refine dr_put (d := 81) (v := .d (.fl undef)) rfl (on rfl rfl rfl h13) ?_
              refine dr_put (d := 82) (v := .d (.fl (.bool false))) rfl (og rfl (op_pick rfl rfl (by rw [h13]; rfl) rfl)) ?_
              refine dr_done rfl (sepB_of [0, 1, 0, 7, 15, 31, 63, 63, 255, 511, 1023, 1023, 4095, 8191, 16383, 16383, 65535, 131071, 262143, 16383, 540671, 2097151, 4194303, 8388607, 16777215] (by kernel_rfl)) (by kernel_rfl) ?_
              refine a_condF rfl rfl ?_
              refine a_skip ?_
              show A _ _ _ _ _ _ _
              refine a_region ?_
              refine rg_put (d := 31) (v := .d (.fl (.int .i64 (k : Int)))) rfl (og rfl (op_move rfl rfl rfl)) ?_
              refine rg_put (d := 32) (v := .d (.fl (.int .i64 (((k : Int) + 1))))) rfl (og rfl (op_bin rfl rfl rfl (fun x y w => b_add64 _ _ _ x y w (by omega)) rfl)) ?_
              refine rg_put (d := 7) (v := .d (.fl (.int .i64 (((k : Int) + 1))))) rfl (og rfl (op_assign rfl rfl rfl)) ?_
              refine rg_done rfl ?_
              show ∃ i, _ ∧ _ ∧ Imp _ _ _ _ _
              refine ⟨k + 1, (by omega), by omega, imp_forget rfl ⟨rfl, rfl, rfl, rfl, rfl, rfl, (by first | rfl | exact ci (by omega) | exact ci (by simp) | exact cd (by simp) | simp), (congrArg (fun z => AV.d (.fl (.int .i64 z))) (cn_n (by have hnzy : nz (ix l k) = true := (by unfold nz; rw [h10]; rfl); have hby := bg_f h10; unfold okc; simp only [h1, h3, h6, h8, h9, h10, h13, hnzy, hby, hbx, Bool.true_or, Bool.false_or, Bool.or_true, Bool.or_false, Bool.not_true, Bool.not_false, cond_true, cond_false, Bool.true_and, Bool.false_and, Bool.and_true, Bool.and_false] <;> first | rfl | simp))), trivial⟩ ⟨rfl, trivial⟩⟩
            · skip
              have h15 := t_beq h13
              refine dr_put (d := 64) (v := .d (.fl (.int .i64 (((ix ((ix l k).stops) 0)).time)))) rfl (oy rfl rfl rfl h13 (op_move rfl rfl rfl)) ?_
              refine dr_put (d := 65) (v := .d (.fl (.int .i64 ((ix x.stops 0).time)))) rfl (oy rfl rfl rfl h13 (op_move rfl rfl rfl)) ?_
              refine dr_put (d := 66) (v := .d (.fl (.bool ((decide (((ix ((ix l k).stops) 0)).time < (ix x.stops 0).time)))))) rfl (oy rfl rfl rfl h13 (op_bin rfl rfl rfl (b_lss _ _ _ _) rfl)) ?_
              refine dr_put (d := 67) (v := .d (.fl (.bool ((decide (((ix ((ix l k).stops) 0)).time < (ix x.stops 0).time)))))) rfl (oy rfl rfl rfl h13 (op_move rfl rfl rfl)) ?_
              rcases fot ((decide (((ix ((ix l k).stops) 0)).time < (ix x.stops 0).time))) with h16 | h16
              · skip
                have h17 := f_dec h16
                refine dr_put (d := 68) (v := .d (.fl (.int .i64 (((ix ((ix l k).stops) 0)).time)))) rfl (oy rfl rfl rfl h16 (op_move rfl rfl rfl)) ?_
                refine dr_put (d := 69) (v := .d (.fl (.int .i64 ((ix x.stops 0).time)))) rfl (oy rfl rfl rfl h16 (op_move rfl rfl rfl)) ?_
                refine dr_put (d := 70) (v := .d (.fl (.bool ((((ix ((ix l k).stops) 0)).time == (ix x.stops 0).time))))) rfl (oy rfl rfl rfl h16 (op_bin rfl rfl rfl (b_eql _ _ _ _) rfl)) ?_
                refine dr_put (d := 71) (v := .d (.fl (.bool ((((ix ((ix l k).stops) 0)).time == (ix x.stops 0).time))))) rfl (oy rfl rfl rfl h16 (op_move rfl rfl rfl)) ?_
                rcases fot ((((ix ((ix l k).stops) 0)).time == (ix x.stops 0).time)) with h18 | h18
                · skip
                  have h19 := f_beq h18
                  refine dr_put (d := 72) (v := .d (.fl undef)) rfl (on rfl rfl rfl h18) ?_
                  refine dr_put (d := 73) (v := .d (.fl undef)) rfl (on rfl rfl rfl h18) ?_
                  refine dr_put (d := 74) (v := .d (.fl undef)) rfl (on rfl rfl rfl h18) ?_
                  refine dr_put (d := 75) (v := .d (.fl undef)) rfl (on rfl rfl rfl h18) ?_
                  refine dr_put (d := 76) (v := .d (.fl undef)) rfl (on rfl rfl rfl h18) ?_
                  refine dr_put (d := 77) (v := .d (.fl undef)) rfl (on rfl rfl rfl h18) ?_
                  refine dr_put (d := 78) (v := .d (.fl undef)) rfl (on rfl rfl rfl h18) ?_
                  refine dr_put (d := 79) (v := .d (.fl undef)) rfl (on rfl rfl rfl h18) ?_
                  refine dr_put (d := 80) (v := .d (.fl (.bool false))) rfl (oy rfl rfl rfl h16 (op_pick rfl rfl (by rw [h18]; rfl) rfl)) ?_
                  refine dr_put (d := 81) (v := .d (.fl (.bool false))) rfl (oy rfl rfl rfl h13 (op_pick rfl rfl (by rw [h16]; rfl) rfl)) ?_
                  refine dr_put (d := 82) (v := .d (.fl (.bool false))) rfl (og rfl (op_pick rfl rfl (by rw [h13]; rfl) rfl)) ?_
                  refine dr_done rfl (sepB_of [0, 1, 0, 7, 15, 31, 63, 63, 255, 511, 1023, 1023, 4095, 8191, 16383, 16383, 65535, 131071, 262143, 16383, 540671, 2097151, 4194303, 8388607, 16777215] (by kernel_rfl)) (by kernel_rfl) ?_
                  refine a_condF rfl rfl ?_
                  refine a_skip ?_
                  show A _ _ _ _ _ _ _
                  refine a_region ?_
                  refine rg_put (d := 31) (v := .d (.fl (.int .i64 (k : Int)))) rfl (og rfl (op_move rfl rfl rfl)) ?_
                  refine rg_put (d := 32) (v := .d (.fl (.int .i64 (((k : Int) + 1))))) rfl (og rfl (op_bin rfl rfl rfl (fun x y w => b_add64 _ _ _ x y w (by omega)) rfl)) ?_
                  refine rg_put (d := 7) (v := .d (.fl (.int .i64 (((k : Int) + 1))))) rfl (og rfl (op_assign rfl rfl rfl)) ?_
                  refine rg_done rfl ?_
                  show ∃ i, _ ∧ _ ∧ Imp _ _ _ _ _
                  refine ⟨k + 1, (by omega), by omega, imp_forget rfl ⟨rfl, rfl, rfl, rfl, rfl, rfl, (by first | rfl | exact ci (by omega) | exact ci (by simp) | exact cd (by simp) | simp), (congrArg (fun z => AV.d (.fl (.int .i64 z))) (cn_n (by have hnzy : nz (ix l k) = true := (by unfold nz; rw [h10]; rfl); have hby := bg_f h10; unfold okc; simp only [h1, h3, h6, h8, h9, h10, h13, h16, h18, hnzy, hby, hbx, Bool.true_or, Bool.false_or, Bool.or_true, Bool.or_false, Bool.not_true, Bool.not_false, cond_true, cond_false, Bool.true_and, Bool.false_and, Bool.and_true, Bool.and_false] <;> first | rfl | simp))), trivial⟩ ⟨rfl, trivial⟩⟩
                · skip
                  have h20 := t_beq h18
                  refine dr_put (d := 72) (v := .d (.sl 5 (List.map eTp l))) rfl (oy rfl rfl rfl h18 (op_move rfl rfl rfl)) ?_
                  refine dr_put (d := 73) (v := .d (.fl (.int .i64 (k : Int)))) rfl (oy rfl rfl rfl h18 (op_move rfl rfl rfl)) ?_
                  refine dr_put (d := 74) (v := .el ((eTp (ix l k)))) rfl (oy rfl rfl rfl h18 (s_index rfl Tryd.underlying25 ti28 rfl rfl (by omega) (row_at (by omega)) rfl)) ?_
                  refine dr_put (d := 75) (v := .el ((List.drop 0 ((eTp (ix l k)))))) rfl (oy rfl rfl rfl h18 (of_eff (s_field_el rfl Tryd.underlying28 rfl ti9 rfl rfl rfl) rfl)) ?_
                  refine dr_put (d := 76) (v := .d (.fl (.string ((ix l k).id)))) rfl (oy rfl rfl rfl h18 (op_load_el rfl Tryd.underlying9 rfl rfl rfl rfl)) ?_
                  refine dr_put (d := 77) (v := .pt 101 0) rfl (oy rfl rfl rfl h18 (of_eff (s_field_pt rfl Tryd.underlying28 rfl ti9 rfl rfl rfl) rfl)) ?_
                  refine dr_put (d := 78) (v := .d (.fl (.string x.id))) rfl (oy rfl rfl rfl h18 (op_load_pt rfl Tryd.underlying9 rfl rfl rfl rfl rfl)) ?_
                  refine dr_put (d := 79) (v := .d (.fl (.bool ((sLt ((ix l k).id) x.id))))) rfl (oy rfl rfl rfl h18 (op_call rfl Tryd.func26 nm26 rfl (.cons rfl (.d _) (.cons rfl (.d _) .nil)) (befR ((ix l k).id) x.id (hid k (by omega)) (by omega)) rfl)) ?_
                  refine dr_put (d := 80) (v := .d (.fl (.bool ((sLt ((ix l k).id) x.id))))) rfl (oy rfl rfl rfl h16 (op_pick rfl rfl (by rw [h18]; rfl) rfl)) ?_
                  refine dr_put (d := 81) (v := .d (.fl (.bool ((sLt ((ix l k).id) x.id))))) rfl (oy rfl rfl rfl h13 (op_pick rfl rfl (by rw [h16]; rfl) rfl)) ?_
                  refine dr_put (d := 82) (v := .d (.fl (.bool ((sLt ((ix l k).id) x.id))))) rfl (og rfl (op_pick rfl rfl (by rw [h13]; rfl) rfl)) ?_
                  refine dr_done rfl (sepB_of [0, 1, 0, 7, 15, 31, 63, 63, 255, 511, 1023, 1023, 4095, 8191, 16383, 16383, 65535, 131071, 262143, 16383, 540671, 2097151, 4194303, 8388607, 16777215] (by kernel_rfl)) (by kernel_rfl) ?_
                  refine a_cond rfl (fun h21 => ?_) (fun h21 => ?_)
                  · skip
                    refine a_region ?_
                    refine rg_put (d := 83) (v := .d (.fl (.int .i64 (cn l x k)))) rfl (og rfl (op_move rfl rfl rfl)) ?_
                    refine rg_put (d := 84) (v := .d (.fl (.int .i64 (((cn l x k) + 1))))) rfl (og rfl (op_bin rfl rfl rfl (fun x y w => b_add64 _ _ _ x y w (by omega)) rfl)) ?_
                    refine rg_put (d := 6) (v := .d (.fl (.int .i64 (((cn l x k) + 1))))) rfl (og rfl (op_assign rfl rfl rfl)) ?_
                    refine rg_done rfl ?_
                    show A _ _ _ _ _ _ _
                    refine a_region ?_
                    refine rg_put (d := 31) (v := .d (.fl (.int .i64 (k : Int)))) rfl (og rfl (op_move rfl rfl rfl)) ?_
                    refine rg_put (d := 32) (v := .d (.fl (.int .i64 (((k : Int) + 1))))) rfl (og rfl (op_bin rfl rfl rfl (fun x y w => b_add64 _ _ _ x y w (by omega)) rfl)) ?_
                    refine rg_put (d := 7) (v := .d (.fl (.int .i64 (((k : Int) + 1))))) rfl (og rfl (op_assign rfl rfl rfl)) ?_
                    refine rg_done rfl ?_
                    show ∃ i, _ ∧ _ ∧ Imp _ _ _ _ _
                    refine ⟨k + 1, (by omega), by omega, imp_forget rfl ⟨rfl, rfl, rfl, rfl, rfl, rfl, (by first | rfl | exact ci (by omega) | exact ci (by simp) | exact cd (by simp) | simp), (congrArg (fun z => AV.d (.fl (.int .i64 z))) (cn_y (by have hnzy : nz (ix l k) = true := (by unfold nz; rw [h10]; rfl); have hby := bg_f h10; unfold okc; simp only [h1, h3, h6, h8, h9, h10, h13, h16, h18, h21, hnzy, hby, hbx, Bool.true_or, Bool.false_or, Bool.or_true, Bool.or_false, Bool.not_true, Bool.not_false, cond_true, cond_false, Bool.true_and, Bool.false_and, Bool.and_true, Bool.and_false] <;> first | rfl | simp))), trivial⟩ ⟨rfl, trivial⟩⟩
                  · skip
                    refine a_skip ?_
                    show A _ _ _ _ _ _ _
                    refine a_region ?_
                    refine rg_put (d := 31) (v := .d (.fl (.int .i64 (k : Int)))) rfl (og rfl (op_move rfl rfl rfl)) ?_
                    refine rg_put (d := 32) (v := .d (.fl (.int .i64 (((k : Int) + 1))))) rfl (og rfl (op_bin rfl rfl rfl (fun x y w => b_add64 _ _ _ x y w (by omega)) rfl)) ?_
                    refine rg_put (d := 7) (v := .d (.fl (.int .i64 (((k : Int) + 1))))) rfl (og rfl (op_assign rfl rfl rfl)) ?_
                    refine rg_done rfl ?_
                    show ∃ i, _ ∧ _ ∧ Imp _ _ _ _ _
                    refine ⟨k + 1, (by omega), by omega, imp_forget rfl ⟨rfl, rfl, rfl, rfl, rfl, rfl, (by first | rfl | exact ci (by omega) | exact ci (by simp) | exact cd (by simp) | simp), (congrArg (fun z => AV.d (.fl (.int .i64 z))) (cn_n (by have hnzy : nz (ix l k) = true := (by unfold nz; rw [h10]; rfl); have hby := bg_f h10; unfold okc; simp only [h1, h3, h6, h8, h9, h10, h13, h16, h18, h21, hnzy, hby, hbx, Bool.true_or, Bool.false_or, Bool.or_true, Bool.or_false, Bool.not_true, Bool.not_false, cond_true, cond_false, Bool.true_and, Bool.false_and, Bool.and_true, Bool.and_false] <;> first | rfl | simp))), trivial⟩ ⟨rfl, trivial⟩⟩
              · skip
                have h22 := t_dec h16
                refine dr_put (d := 68) (v := .d (.fl undef)) rfl (on rfl rfl rfl h16) ?_
                refine dr_put (d := 69) (v := .d (.fl undef)) rfl (on rfl rfl rfl h16) ?_
                refine dr_put (d := 70) (v := .d (.fl undef)) rfl (on rfl rfl rfl h16) ?_
                refine dr_put (d := 71) (v := .d (.fl undef)) rfl (on rfl rfl rfl h16) ?_
                refine dr_put (d := 72) (v := .d (.fl undef)) rfl (ou rfl rfl rfl) ?_
                refine dr_put (d := 73) (v := .d (.fl undef)) rfl (ou rfl rfl rfl) ?_
                refine dr_put (d := 74) (v := .d (.fl undef)) rfl (ou rfl rfl rfl) ?_
                refine dr_put (d := 75) (v := .d (.fl undef)) rfl (ou rfl rfl rfl) ?_
                refine dr_put (d := 76) (v := .d (.fl undef)) rfl (ou rfl rfl rfl) ?_
                refine dr_put (d := 77) (v := .d (.fl undef)) rfl (ou rfl rfl rfl) ?_
                refine dr_put (d := 78) (v := .d (.fl undef)) rfl (ou rfl rfl rfl) ?_
                refine dr_put (d := 79) (v := .d (.fl undef)) rfl (ou rfl rfl rfl) ?_
                refine dr_put (d := 80) (v := .d (.fl undef)) rfl (on rfl rfl rfl h16) ?_
                refine dr_put (d := 81) (v := .d (.fl (.bool true))) rfl (oy rfl rfl rfl h13 (op_pick rfl rfl (by rw [h16]; rfl) rfl)) ?_
                refine dr_put (d := 82) (v := .d (.fl (.bool true))) rfl (og rfl (op_pick rfl rfl (by rw [h13]; rfl) rfl)) ?_
                refine dr_done rfl (sepB_of [0, 1, 0, 7, 15, 31, 63, 63, 255, 511, 1023, 1023, 4095, 8191, 16383, 16383, 65535, 131071, 262143, 16383, 540671, 2097151, 4194303, 8388607, 16777215] (by kernel_rfl)) (by kernel_rfl) ?_
                refine a_condK rfl rfl ?_
                refine a_region ?_
                refine rg_put (d := 83) (v := .d (.fl (.int .i64 (cn l x k)))) rfl (og rfl (op_move rfl rfl rfl)) ?_
                refine rg_put (d := 84) (v := .d (.fl (.int .i64 (((cn l x k) + 1))))) rfl (og rfl (op_bin rfl rfl rfl (fun x y w => b_add64 _ _ _ x y w (by omega)) rfl)) ?_
                refine rg_put (d := 6) (v := .d (.fl (.int .i64 (((cn l x k) + 1))))) rfl (og rfl (op_assign rfl rfl rfl)) ?_
                refine rg_done rfl ?_
                show A _ _ _ _ _ _ _
                refine a_region ?_
                refine rg_put (d := 31) (v := .d (.fl (.int .i64 (k : Int)))) rfl (og rfl (op_move rfl rfl rfl)) ?_
                refine rg_put (d := 32) (v := .d (.fl (.int .i64 (((k : Int) + 1))))) rfl (og rfl (op_bin rfl rfl rfl (fun x y w => b_add64 _ _ _ x y w (by omega)) rfl)) ?_
                refine rg_put (d := 7) (v := .d (.fl (.int .i64 (((k : Int) + 1))))) rfl (og rfl (op_assign rfl rfl rfl)) ?_
                refine rg_done rfl ?_
                show ∃ i, _ ∧ _ ∧ Imp _ _ _ _ _
                refine ⟨k + 1, (by omega), by omega, imp_forget rfl ⟨rfl, rfl, rfl, rfl, rfl, rfl, (by first | rfl | exact ci (by omega) | exact ci (by simp) | exact cd (by simp) | simp), (congrArg (fun z => AV.d (.fl (.int .i64 z))) (cn_y (by have hnzy : nz (ix l k) = true := (by unfold nz; rw [h10]; rfl); have hby := bg_f h10; unfold okc; simp only [h1, h3, h6, h8, h9, h10, h13, h16, hnzy, hby, hbx, Bool.true_or, Bool.false_or, Bool.or_true, Bool.or_false, Bool.not_true, Bool.not_false, cond_true, cond_false, Bool.true_and, Bool.false_and, Bool.and_true, Bool.and_false] <;> first | rfl | simp))), trivial⟩ ⟨rfl, trivial⟩⟩
        · skip
          have h23 := t_not h8
          refine dr_put (d := 42) (v := .d (.fl undef)) rfl (on rfl rfl rfl h8) ?_
          refine dr_put (d := 43) (v := .d (.fl undef)) rfl (on rfl rfl rfl h8) ?_
          refine dr_put (d := 44) (v := .d (.fl undef)) rfl (on rfl rfl rfl h8) ?_
          refine dr_put (d := 45) (v := .d (.fl undef)) rfl (on rfl rfl rfl h8) ?_
          refine dr_put (d := 46) (v := .d (.fl undef)) rfl (on rfl rfl rfl h8) ?_
          refine dr_put (d := 47) (v := .d (.fl undef)) rfl (on rfl rfl rfl h8) ?_
          refine dr_put (d := 48) (v := .d (.fl undef)) rfl (on rfl rfl rfl h8) ?_
          refine dr_put (d := 49) (v := .d (.fl (.bool true))) rfl (og rfl (op_pick rfl rfl (by rw [h8]; rfl) rfl)) ?_
          refine dr_done rfl (sepB_of [0, 0, 3, 7, 15, 0, 32, 127, 255, 511, 511, 2047, 4095, 8191, 16383, 32767, 65535] (by kernel_rfl)) (by kernel_rfl) ?_
          refine a_condK rfl rfl ?_
          refine a_exit ?_
          show A _ _ _ _ _ _ _
          refine a_region ?_
          refine rg_put (d := 31) (v := .d (.fl (.int .i64 (k : Int)))) rfl (og rfl (op_move rfl rfl rfl)) ?_
          refine rg_put (d := 32) (v := .d (.fl (.int .i64 (((k : Int) + 1))))) rfl (og rfl (op_bin rfl rfl rfl (fun x y w => b_add64 _ _ _ x y w (by omega)) rfl)) ?_
          refine rg_put (d := 7) (v := .d (.fl (.int .i64 (((k : Int) + 1))))) rfl (og rfl (op_assign rfl rfl rfl)) ?_
          refine rg_done rfl ?_
          show ∃ i, _ ∧ _ ∧ Imp _ _ _ _ _
          refine ⟨k + 1, (by omega), by omega, imp_forget rfl ⟨rfl, rfl, rfl, rfl, rfl, rfl, (by first | rfl | exact ci (by omega) | exact ci (by simp) | exact cd (by simp) | simp), (congrArg (fun z => AV.d (.fl (.int .i64 z))) (cn_n (by unfold okc; simp only [h1, h3, h6, h8, h23, hbx, Bool.true_or, Bool.false_or, Bool.or_true, Bool.or_false, Bool.not_true, Bool.not_false, cond_true, cond_false, Bool.true_and, Bool.false_and, Bool.and_true, Bool.and_false] <;> first | rfl | simp))), trivial⟩ ⟨rfl, trivial⟩⟩
      · skip
        have h24 := f_dec h6
        refine a_exit ?_
        show A _ _ _ _ _ _ _
        refine a_rseq ?_
        refine rg_put (d := 85) (v := .d (.fl (.int .i64 (cn l x k)))) rfl (og rfl (op_move rfl rfl rfl)) ?_
        refine rg_put (d := 4) (v := .d (.fl (.int .i64 (cn l x k)))) rfl (og rfl (op_assign rfl rfl rfl)) ?_
        refine rg_done rfl ?_
        refine a_ret ?_
        show ∃ ds, ResL _ _ _ ds ∧ RV.of ds = _
        refine ⟨[.fl (.int .i64 (cn l x k))], (.cons (.tmp rfl (.d _)) .nil), ?_⟩
        have hmg := mon_ge (ix x.stops 0).time
        have hmm : (mon (bg x) == -1) = false := by rw [hbx]; simp; omega
        have hnz : nz x = true := by unfold nz; rw [h1]; rfl
        have hkl : k = l.length := by omega
        have hu : ear l x = cn l x l.length := by unfold ear; rw [hmm, hnz]; rfl
        rw [hu, ← hkl]; rfl
  · skip
    have h25 := t_beq h1
    refine rg_put (d := 14) (v := .d (.fl undef)) rfl (on rfl rfl rfl h1) ?_
    refine rg_put (d := 15) (v := .d (.fl undef)) rfl (on rfl rfl rfl h1) ?_
    refine rg_put (d := 16) (v := .d (.fl undef)) rfl (on rfl rfl rfl h1) ?_
    refine rg_put (d := 17) (v := .d (.fl undef)) rfl (on rfl rfl rfl h1) ?_
    refine rg_put (d := 18) (v := .d (.fl undef)) rfl (on rfl rfl rfl h1) ?_
    refine rg_put (d := 19) (v := .d (.fl undef)) rfl (on rfl rfl rfl h1) ?_
    refine rg_put (d := 20) (v := .d (.fl undef)) rfl (on rfl rfl rfl h1) ?_
    refine rg_put (d := 21) (v := .d (.fl (.bool true))) rfl (og rfl (op_pick rfl rfl (by rw [h1]; rfl) rfl)) ?_
    refine rg_done rfl ?_
    refine a_condK rfl rfl ?_
    refine a_rseq ?_
    refine rg_put (d := 4) (v := .d (.fl (.int .i64 0))) rfl (og rfl (op_assign rfl rfl rfl)) ?_
    refine rg_done rfl ?_
    refine a_ret ?_
    show ∃ ds, ResL _ _ _ ds ∧ RV.of ds = _
    refine ⟨[.fl (.int .i64 0)], (.cons (.tmp rfl (.d _)) .nil), ?_⟩
    have hu : ear l x = 0 := by unfold ear nz; simp only [h1, Bool.true_or, Bool.false_or, Bool.or_true, Bool.or_false, Bool.not_true, Bool.not_false, cond_true, cond_false, Bool.true_and, Bool.false_and, Bool.and_true, Bool.and_false] <;> rfl
    rw [hu]; rfl
end Go.Proofs.YtjgfdheodnmddaaDoor.Wk
