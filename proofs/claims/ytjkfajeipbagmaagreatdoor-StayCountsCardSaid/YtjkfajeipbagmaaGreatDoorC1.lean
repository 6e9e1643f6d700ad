/- The laws of counts and peaks. Condition: the table reads as it is laid. -/
import Derived.Test.YtjkfajeipbagmaaGreatDoorAl
import Derived.Test.YtjkfajeipbagmaaGreatDoorB2
set_option linter.unusedSimpArgs false
set_option linter.unusedVariables false
namespace Go.Proofs.YtjkfajeipbagmaaGreatDoor.Wk
open Go Go.RowKit Go.Proofs.YtjkfajeipbagmaaGreatDoor.Av
def shB (s : Sty) : Bool := decide ((s.id.size : Int) ≤ 200) && decide ((s.zone.size : Int) ≤ 40) && decide ((s.plate.size : Int) ≤ 40)
set_option maxHeartbeats 4000000 in
set_option maxRecDepth 100000 in
theorem shC (s : Sty) : Ctr Tryz.prog 6 [.ag (eSty s)] (.d (.fl (.bool (shB s)))) := by
  refine ctr (n := 19) (rs := #[.tmp 2]) (L := [(0, .d (.ag (eSty s)))]) Tryz.func6 rfl rfl rfl rfl rfl (fun w0 U0 => ?_)
  refine a_rseq ?_
  refine rg_nam (d := 1) (v := .pt 101 0) (m := 101) (nw := [(101, .bx 28 (eSty s))]) rfl (og rfl (of_eff (op_box 101 rfl rfl rfl rfl) rfl)) rfl ?_
  refine rg_put (d := 2) (v := .d (.fl (.bool false))) rfl (og rfl (op_assign rfl rfl rfl)) ?_
  refine rg_done rfl ?_
  refine a_rseq ?_
  refine rg_put (d := 3) (v := .pt 101 0) rfl (og rfl (of_eff (s_field_pt rfl Tryz.underlying28 rfl ti9 rfl rfl rfl) rfl)) ?_
  refine rg_put (d := 4) (v := .d (.fl (.string s.id))) rfl (og rfl (op_load_pt rfl Tryz.underlying9 rfl rfl rfl rfl rfl)) ?_
  refine rg_put (d := 5) (v := .d (.fl (.int .i64 (s.id.size : Int)))) rfl (og rfl (op_len_str rfl Tryz.underlying9 rfl rfl)) ?_
  refine rg_put (d := 6) (v := .d (.fl (.bool ((decide ((s.id.size : Int) ≤ 200)))))) rfl (og rfl (op_bin rfl rfl rfl (b_leq _ _ _ _) rfl)) ?_
  refine rg_put (d := 7) (v := .d (.fl (.bool ((decide ((s.id.size : Int) ≤ 200)))))) rfl (og rfl (op_move rfl rfl rfl)) ?_
  rcases fot ((decide ((s.id.size : Int) ≤ 200))) with h1 | h1
  · skip
    have h2 := f_dec h1
    refine rg_put (d := 8) (v := .d (.fl undef)) rfl (on rfl rfl rfl h1) ?_
    refine rg_put (d := 9) (v := .d (.fl undef)) rfl (on rfl rfl rfl h1) ?_
    refine rg_put (d := 10) (v := .d (.fl undef)) rfl (on rfl rfl rfl h1) ?_
    refine rg_put (d := 11) (v := .d (.fl undef)) rfl (on rfl rfl rfl h1) ?_
    refine rg_put (d := 12) (v := .d (.fl (.bool false))) rfl (og rfl (op_pick rfl rfl (by rw [h1]; rfl) rfl)) ?_
    refine rg_put (d := 13) (v := .d (.fl (.bool false))) rfl (og rfl (op_move rfl rfl rfl)) ?_
    refine rg_put (d := 14) (v := .d (.fl undef)) rfl (on rfl rfl rfl rfl) ?_
    refine rg_put (d := 15) (v := .d (.fl undef)) rfl (on rfl rfl rfl rfl) ?_
    refine rg_put (d := 16) (v := .d (.fl undef)) rfl (on rfl rfl rfl rfl) ?_
    refine rg_put (d := 17) (v := .d (.fl undef)) rfl (on rfl rfl rfl rfl) ?_
    refine rg_put (d := 18) (v := .d (.fl (.bool false))) rfl (og rfl (op_pick rfl rfl rfl rfl)) ?_
    refine rg_put (d := 2) (v := .d (.fl (.bool false))) rfl (og rfl (op_assign rfl rfl rfl)) ?_
    refine rg_done rfl ?_
    refine a_ret ?_
    show ∃ ds, ResL _ _ _ ds ∧ RV.of ds = _
    refine ⟨[.fl (.bool false)], (.cons (.tmp rfl (.d _)) .nil), ?_⟩
    first
      | (have hu : shB s = false := by
          unfold shB; simp only [h1, Bool.true_or, Bool.false_or, Bool.or_true, Bool.or_false, Bool.not_true, Bool.not_false, cond_true, cond_false, Bool.true_and, Bool.false_and, Bool.and_true, Bool.and_false] <;> rfl
         rw [hu]; rfl)
      | (exfalso; omega)
  · skip
    have h3 := t_dec h1
    refine rg_put (d := 8) (v := .pt 101 1) rfl (oy rfl rfl rfl h1 (of_eff (s_field_pt rfl Tryz.underlying28 rfl ti9 rfl rfl rfl) rfl)) ?_
    refine rg_put (d := 9) (v := .d (.fl (.string s.zone))) rfl (oy rfl rfl rfl h1 (op_load_pt rfl Tryz.underlying9 rfl rfl rfl rfl rfl)) ?_
    refine rg_put (d := 10) (v := .d (.fl (.int .i64 (s.zone.size : Int)))) rfl (oy rfl rfl rfl h1 (op_len_str rfl Tryz.underlying9 rfl rfl)) ?_
    refine rg_put (d := 11) (v := .d (.fl (.bool ((decide ((s.zone.size : Int) ≤ 40)))))) rfl (oy rfl rfl rfl h1 (op_bin rfl rfl rfl (b_leq _ _ _ _) rfl)) ?_
    refine rg_put (d := 12) (v := .d (.fl (.bool ((decide ((s.zone.size : Int) ≤ 40)))))) rfl (og rfl (op_pick rfl rfl (by rw [h1]; rfl) rfl)) ?_
    refine rg_put (d := 13) (v := .d (.fl (.bool ((decide ((s.zone.size : Int) ≤ 40)))))) rfl (og rfl (op_move rfl rfl rfl)) ?_
    rcases fot ((decide ((s.zone.size : Int) ≤ 40))) with h4 | h4
    · skip
      have h5 := f_dec h4
      refine rg_put (d := 14) (v := .d (.fl undef)) rfl (on rfl rfl rfl h4) ?_
      refine rg_put (d := 15) (v := .d (.fl undef)) rfl (on rfl rfl rfl h4) ?_
      refine rg_put (d := 16) (v := .d (.fl undef)) rfl (on rfl rfl rfl h4) ?_
      refine rg_put (d := 17) (v := .d (.fl undef)) rfl (on rfl rfl rfl h4) ?_
      refine rg_put (d := 18) (v := .d (.fl (.bool false))) rfl (og rfl (op_pick rfl rfl (by rw [h4]; rfl) rfl)) ?_
      refine rg_put (d := 2) (v := .d (.fl (.bool false))) rfl (og rfl (op_assign rfl rfl rfl)) ?_
      refine rg_done rfl ?_
      refine a_ret ?_
      show ∃ ds, ResL _ _ _ ds ∧ RV.of ds = _
      refine ⟨[.fl (.bool false)], (.cons (.tmp rfl (.d _)) .nil), ?_⟩
      first
        | (have hu : shB s = false := by
            unfold shB; simp only [h1, h4, Bool.true_or, Bool.false_or, Bool.or_true, Bool.or_false, Bool.not_true, Bool.not_false, cond_true, cond_false, Bool.true_and, Bool.false_and, Bool.and_true, Bool.and_false] <;> rfl
           rw [hu]; rfl)
        | (exfalso; omega)
    · skip
      have h6 := t_dec h4
      refine rg_put (d := 14) (v := .pt 101 2) rfl (oy rfl rfl rfl h4 (of_eff (s_field_pt rfl Tryz.underlying28 rfl ti9 rfl rfl rfl) rfl)) ?_
      refine rg_put (d := 15) (v := .d (.fl (.string s.plate))) rfl (oy rfl rfl rfl h4 (op_load_pt rfl Tryz.underlying9 rfl rfl rfl rfl rfl)) ?_
      refine rg_put (d := 16) (v := .d (.fl (.int .i64 (s.plate.size : Int)))) rfl (oy rfl rfl rfl h4 (op_len_str rfl Tryz.underlying9 rfl rfl)) ?_
      refine rg_put (d := 17) (v := .d (.fl (.bool ((decide ((s.plate.size : Int) ≤ 40)))))) rfl (oy rfl rfl rfl h4 (op_bin rfl rfl rfl (b_leq _ _ _ _) rfl)) ?_
      refine rg_put (d := 18) (v := .d (.fl (.bool ((decide ((s.plate.size : Int) ≤ 40)))))) rfl (og rfl (op_pick rfl rfl (by rw [h4]; rfl) rfl)) ?_
      refine rg_put (d := 2) (v := .d (.fl (.bool ((decide ((s.plate.size : Int) ≤ 40)))))) rfl (og rfl (op_assign rfl rfl rfl)) ?_
      refine rg_done rfl ?_
      refine a_ret ?_
      show ∃ ds, ResL _ _ _ ds ∧ RV.of ds = _
      refine ⟨[.fl (.bool ((decide ((s.plate.size : Int) ≤ 40))))], (.cons (.tmp rfl (.d _)) .nil), ?_⟩
      first
        | (have hu : shB s = (decide ((s.plate.size : Int) ≤ 40)) := by
            unfold shB; simp only [h1, h4, Bool.true_or, Bool.false_or, Bool.or_true, Bool.or_false, Bool.not_true, Bool.not_false, cond_true, cond_false, Bool.true_and, Bool.false_and, Bool.and_true, Bool.and_false] <;> rfl
           rw [hu]; rfl)
        | (exfalso; omega)
set_option maxHeartbeats 4000000 in
set_option maxRecDepth 100000 in
theorem law1 (l : List Sty) (z : ByteArray) (t : Int) : CtrK Tryz.prog KK 3 [.sl 5 (List.map eSty l), .fl (.string z), .fl (.int .i64 t)] (.d (.fl (.bool true))) := by
  refine ctrK (n := 85) (rs := #[.tmp 6]) (L := [(0, .d (.sl 5 (List.map eSty l))), (1, .d (.fl (.string z))), (2, .d (.fl (.int .i64 t)))]) Tryz.func3 rfl rfl rfl rfl rfl (fun w0 U0 hG => ?_)
  refine a_rseq ?_
  refine rg_put (d := 6) (v := .d (.fl (.bool false))) rfl (og rfl (op_assign rfl rfl rfl)) ?_
  refine rg_done rfl ?_
  refine a_seq ?_
  refine a_rseq ?_
  refine rg_put (d := 11) (v := .d (.sl 5 (List.map eSty l))) rfl (og rfl (op_move rfl rfl rfl)) ?_
  refine rg_put (d := 12) (v := .d (.fl (.int .i64 (l.length : Int)))) rfl (og rfl (s_len rfl Tryz.underlying22 rfl rfl)) ?_
  refine rg_put (d := 13) (v := .d (.fl (.bool ((decide (40 < (l.length : Int))))))) rfl (og rfl (op_bin rfl rfl rfl (b_gtr _ _ _ _) rfl)) ?_
  refine rg_put (d := 14) (v := .d (.fl (.bool ((decide (40 < (l.length : Int))))))) rfl (og rfl (op_move rfl rfl rfl)) ?_
  rcases fot ((decide (40 < (l.length : Int)))) with h1 | h1
  · skip
    have h2 := f_dec h1
    refine rg_put (d := 15) (v := .d (.fl (.string z))) rfl (oy rfl rfl rfl h1 (op_move rfl rfl rfl)) ?_
    refine rg_put (d := 16) (v := .d (.fl (.int .i64 (z.size : Int)))) rfl (oy rfl rfl rfl h1 (op_len_str rfl Tryz.underlying9 rfl rfl)) ?_
    refine rg_put (d := 17) (v := .d (.fl (.bool ((decide (40 < (z.size : Int))))))) rfl (oy rfl rfl rfl h1 (op_bin rfl rfl rfl (b_gtr _ _ _ _) rfl)) ?_
    refine rg_put (d := 18) (v := .d (.fl (.bool ((decide (40 < (z.size : Int))))))) rfl (og rfl (op_pick rfl rfl (by rw [h1]; rfl) rfl)) ?_
    refine rg_done rfl ?_
    refine a_cond rfl (fun h3 => ?_) (fun h3 => ?_)
    · skip
      have h4 := t_dec h3
      refine a_rseq ?_
      refine rg_put (d := 19) (v := .d (.fl (.bool true))) rfl (og rfl (op_callK kkst hG rfl Tryz.func5 nm5 rfl .nil aliveT rfl)) ?_
      refine rg_put (d := 6) (v := .d (.fl (.bool true))) rfl (og rfl (op_assign rfl rfl rfl)) ?_
      refine rg_done rfl ?_
      refine a_ret ?_
      show ∃ ds, ResL _ _ _ ds ∧ RV.of ds = _
      refine ⟨[.fl (.bool true)], (.cons (.tmp rfl (.d _)) .nil), ?_⟩
      rfl
    · skip
      have h5 := f_dec h3
      refine a_skip ?_
      show A _ _ _ _ _ _ _
      refine a_seq ?_
      refine a_rseq ?_
      refine rg_put (d := 7) (v := .d (.fl (.int .i64 0))) rfl (og rfl (op_assign rfl rfl rfl)) ?_
      refine rg_done rfl ?_
      refine a_block ?_
      refine a_loop (ι := Nat) (fun k => SS [(0, .d (.sl 5 (List.map eSty l))), (1, .d (.fl (.string z))), (2, .d (.fl (.int .i64 t))), (18, .d (.fl (.bool ((decide (40 < (z.size : Int))))))), (7, .d (.fl (.int .i64 (k : Int))))] []) (fun k => k ≤ l.length ∧ ∀ q, q < k → (shB (ix l q)) = true) (fun k => l.length - k) 0 (⟨by omega, fun q h => by omega⟩) (imp_forget rfl ⟨rfl, rfl, rfl, rfl, (by first | rfl | exact ci (by omega) | exact ci (by simp) | exact cd (by simp) | simp), trivial⟩ trivial) (fun k hok => ?_)
      obtain ⟨hkk, hq⟩ := hok
      refine a_seq ?_
      refine a_rseq ?_
      refine rg_put (d := 20) (v := .d (.fl (.int .i64 (k : Int)))) rfl (og rfl (op_move rfl rfl rfl)) ?_
      refine rg_put (d := 21) (v := .d (.sl 5 (List.map eSty l))) rfl (og rfl (op_move rfl rfl rfl)) ?_
      refine rg_put (d := 22) (v := .d (.fl (.int .i64 (l.length : Int)))) rfl (og rfl (s_len rfl Tryz.underlying22 rfl rfl)) ?_
      refine rg_put (d := 23) (v := .d (.fl (.bool ((decide ((k : Int) < (l.length : Int))))))) rfl (og rfl (op_bin rfl rfl rfl (b_lss _ _ _ _) rfl)) ?_
      refine rg_done rfl ?_
      refine a_cond rfl (fun h6 => ?_) (fun h6 => ?_)
      · skip
        have h7 := t_dec h6
        refine a_skip ?_
        show A _ _ _ _ _ _ _
        refine a_seq ?_
        refine a_block ?_
        refine a_rseq ?_
        refine rg_put (d := 26) (v := .d (.sl 5 (List.map eSty l))) rfl (og rfl (op_move rfl rfl rfl)) ?_
        refine rg_put (d := 27) (v := .d (.fl (.int .i64 (k : Int)))) rfl (og rfl (op_move rfl rfl rfl)) ?_
        refine rg_put (d := 28) (v := .el ((eSty (ix l k)))) rfl (og rfl (s_index rfl Tryz.underlying22 ti28 rfl rfl (by omega) (row_at (by omega)) rfl)) ?_
        refine rg_put (d := 29) (v := .d (.ag (eSty (ix l k)))) rfl (og rfl (of_eff (s_load_els rfl Tryz.underlying28 rfl ti28 rfl rfl rfl) rfl)) ?_
        refine rg_put (d := 30) (v := .d (.fl (.bool ((shB (ix l k)))))) rfl (og rfl (op_call rfl Tryz.func6 nm6 rfl (.cons rfl (.d _) .nil) (shC (ix l k)) rfl)) ?_
        refine rg_put (d := 31) (v := .d (.fl (.bool ((!((shB (ix l k)))))))) rfl (og rfl (op_un rfl rfl (u_not _) rfl)) ?_
        refine rg_done rfl ?_
        refine a_cond rfl (fun h8 => ?_) (fun h8 => ?_)
        · skip
          have h9 := t_not h8
          refine a_rseq ?_
          refine rg_put (d := 32) (v := .d (.fl (.bool true))) rfl (og rfl (op_callK kkst hG rfl Tryz.func5 nm5 rfl .nil aliveT rfl)) ?_
          refine rg_put (d := 6) (v := .d (.fl (.bool true))) rfl (og rfl (op_assign rfl rfl rfl)) ?_
          refine rg_done rfl ?_
          refine a_ret ?_
          show ∃ ds, ResL _ _ _ ds ∧ RV.of ds = _
          refine ⟨[.fl (.bool true)], (.cons (.tmp rfl (.d _)) .nil), ?_⟩
          rfl
        · skip
          have h10 := f_not h8
          refine a_skip ?_
          show A _ _ _ _ _ _ _
          refine a_region ?_
          refine rg_put (d := 24) (v := .d (.fl (.int .i64 (k : Int)))) rfl (og rfl (op_move rfl rfl rfl)) ?_
          refine rg_put (d := 25) (v := .d (.fl (.int .i64 (((k : Int) + 1))))) rfl (og rfl (op_bin rfl rfl rfl (fun x y w => b_add64 _ _ _ x y w (by omega)) rfl)) ?_
          refine rg_put (d := 7) (v := .d (.fl (.int .i64 (((k : Int) + 1))))) rfl (og rfl (op_assign rfl rfl rfl)) ?_
          refine rg_done rfl ?_
          have hx : (shB (ix l k)) = true := h10
          show ∃ i, _ ∧ _ ∧ Imp _ _ _ _ _
          refine ⟨k + 1, ⟨by omega, fun q h => (Nat.lt_succ_iff_lt_or_eq.1 h).elim (hq q) (fun e => by rw [e]; exact hx)⟩, by omega, imp_forget rfl ⟨rfl, rfl, rfl, rfl, (by first | rfl | exact ci (by omega) | exact ci (by simp) | exact cd (by simp) | simp), trivial⟩ trivial⟩
      · skip
        have h11 := f_dec h6
        refine a_exit ?_
        show A _ _ _ _ _ _ _
        refine a_rseq ?_
        refine rg_put (d := 34) (v := .d (.sl 5 (List.map eSty l))) rfl (og rfl (op_move rfl rfl rfl)) ?_
        refine rg_put (d := 35) (v := .d (.fl (.string z))) rfl (og rfl (op_move rfl rfl rfl)) ?_
        refine rg_put (d := 36) (v := .tu [.fl (.int .i64 ((rf l z l.length).1)), .fl (.int .i64 ((rf l z l.length).2))]) rfl (og rfl (op_call rfl Tryz.func7 nm7 rfl (.cons rfl (.d _) (.cons rfl (.d _) .nil)) (pkP l z (by omega)) rfl)) ?_
        refine rg_put (d := 33) (v := .tu [.fl (.int .i64 ((rf l z l.length).1)), .fl (.int .i64 ((rf l z l.length).2))]) rfl (og rfl (op_move rfl rfl rfl)) ?_
        refine rg_put (d := 37) (v := .d (.fl (.int .i64 ((rf l z l.length).1)))) rfl (og rfl (op_extract rfl rfl rfl rfl)) ?_
        refine rg_put (d := 38) (v := .d (.fl (.int .i64 ((rf l z l.length).2)))) rfl (og rfl (op_extract rfl rfl rfl rfl)) ?_
        refine rg_put (d := 8) (v := .d (.fl (.int .i64 ((rf l z l.length).1)))) rfl (og rfl (op_assign rfl rfl rfl)) ?_
        refine rg_put (d := 9) (v := .d (.fl (.int .i64 ((rf l z l.length).2)))) rfl (og rfl (op_assign rfl rfl rfl)) ?_
        refine rg_done rfl ?_
        refine a_rseq ?_
        refine rg_put (d := 39) (v := .d (.sl 5 (List.map eSty l))) rfl (og rfl (op_move rfl rfl rfl)) ?_
        refine rg_put (d := 40) (v := .d (.fl (.string z))) rfl (og rfl (op_move rfl rfl rfl)) ?_
        refine rg_put (d := 41) (v := .d (.fl (.int .i64 t))) rfl (og rfl (op_move rfl rfl rfl)) ?_
        refine rg_put (d := 42) (v := .d (.fl (.int .i64 (ct l z t l.length)))) rfl (og rfl (op_call rfl Tryz.func8 nm8 rfl (.cons rfl (.d _) (.cons rfl (.d _) (.cons rfl (.d _) .nil))) (prP l z t (by omega)) rfl)) ?_
        refine rg_put (d := 10) (v := .d (.fl (.int .i64 (ct l z t l.length)))) rfl (og rfl (op_assign rfl rfl rfl)) ?_
        refine rg_done rfl ?_
        refine a_seq ?_
        refine a_rseq ?_
        have hP := rf_pk l z
        have hPn := hP.n
        have hPa := hP.a t
        have hPe := hP.e
        have hPh := hP.h
        have hPb : 0 < (rf l z l.length).1 → t < (rf l z l.length).2 → ct l z t l.length < (rf l z l.length).1 := fun h0 h1 => hP.b h0 t h1
        have hct := ct_in l z t l.length
        have hcf := ct_in l z (rf l z l.length).2 l.length
        have hPf := hP.a (rf l z l.length).2
        refine rg_put (d := 43) (v := .d (.fl (.int .i64 (ct l z t l.length)))) rfl (og rfl (op_move rfl rfl rfl)) ?_
        refine rg_put (d := 44) (v := .d (.fl (.int .i64 ((rf l z l.length).1)))) rfl (og rfl (op_move rfl rfl rfl)) ?_
        refine rg_put (d := 45) (v := .d (.fl (.bool ((decide ((rf l z l.length).1 < (ct l z t l.length))))))) rfl (og rfl (op_bin rfl rfl rfl (b_gtr _ _ _ _) rfl)) ?_
        refine rg_put (d := 46) (v := .d (.fl (.bool ((decide ((rf l z l.length).1 < (ct l z t l.length))))))) rfl (og rfl (op_move rfl rfl rfl)) ?_
        rcases fot ((decide ((rf l z l.length).1 < (ct l z t l.length)))) with h12 | h12
        · skip
          have h13 := f_dec h12
          refine rg_put (d := 47) (v := .d (.fl (.int .i64 (ct l z t l.length)))) rfl (oy rfl rfl rfl h12 (op_move rfl rfl rfl)) ?_
          refine rg_put (d := 48) (v := .d (.fl (.bool ((decide ((ct l z t l.length) < 0)))))) rfl (oy rfl rfl rfl h12 (op_bin rfl rfl rfl (b_lss _ _ _ _) rfl)) ?_
          refine rg_put (d := 49) (v := .d (.fl (.bool ((decide ((ct l z t l.length) < 0)))))) rfl (og rfl (op_pick rfl rfl (by rw [h12]; rfl) rfl)) ?_
          refine rg_put (d := 50) (v := .d (.fl (.bool ((decide ((ct l z t l.length) < 0)))))) rfl (og rfl (op_move rfl rfl rfl)) ?_
          rcases fot ((decide ((ct l z t l.length) < 0))) with h14 | h14
          · skip
            have h15 := f_dec h14
            refine rg_put (d := 51) (v := .d (.sl 5 (List.map eSty l))) rfl (oy rfl rfl rfl h14 (op_move rfl rfl rfl)) ?_
            refine rg_put (d := 52) (v := .d (.fl (.string z))) rfl (oy rfl rfl rfl h14 (op_move rfl rfl rfl)) ?_
            refine rg_put (d := 53) (v := .d (.fl (.int .i64 ((rf l z l.length).2)))) rfl (oy rfl rfl rfl h14 (op_move rfl rfl rfl)) ?_
            refine rg_put (d := 54) (v := .d (.fl (.int .i64 ((ct l z ((rf l z l.length).2) l.length))))) rfl (oy rfl rfl rfl h14 (op_call rfl Tryz.func8 nm8 rfl (.cons rfl (.d _) (.cons rfl (.d _) (.cons rfl (.d _) .nil))) (prP l z ((rf l z l.length).2) (by omega)) rfl)) ?_
            refine rg_put (d := 55) (v := .d (.fl (.int .i64 ((rf l z l.length).1)))) rfl (oy rfl rfl rfl h14 (op_move rfl rfl rfl)) ?_
            refine rg_put (d := 56) (v := .d (.fl (.bool (((ct l z ((rf l z l.length).2) l.length) != (rf l z l.length).1))))) rfl (oy rfl rfl rfl h14 (op_bin rfl rfl rfl (b_neq _ _ _ _) rfl)) ?_
            refine rg_put (d := 57) (v := .d (.fl (.bool (((ct l z ((rf l z l.length).2) l.length) != (rf l z l.length).1))))) rfl (og rfl (op_pick rfl rfl (by rw [h14]; rfl) rfl)) ?_
            refine rg_done rfl ?_
            refine a_cond rfl (fun h16 => ?_) (fun h16 => ?_)
            · skip
              have h17 := t_bne h16
              refine a_rseq ?_
              refine rg_put (d := 6) (v := .d (.fl (.bool false))) rfl (og rfl (op_assign rfl rfl rfl)) ?_
              refine rg_done rfl ?_
              refine a_ret ?_
              show ∃ ds, ResL _ _ _ ds ∧ RV.of ds = _
              refine ⟨[.fl (.bool false)], (.cons (.tmp rfl (.d _)) .nil), ?_⟩
              exfalso; omega
            · skip
              have h18 := f_bne h16
              refine a_skip ?_
              show A _ _ _ _ _ _ _
              refine a_rseq ?_
              refine rg_put (d := 58) (v := .d (.fl (.int .i64 ((rf l z l.length).1)))) rfl (og rfl (op_move rfl rfl rfl)) ?_
              refine rg_put (d := 59) (v := .d (.fl (.bool (((rf l z l.length).1 == 0))))) rfl (og rfl (op_bin rfl rfl rfl (b_eql _ _ _ _) rfl)) ?_
              refine rg_put (d := 60) (v := .d (.fl (.bool (((rf l z l.length).1 == 0))))) rfl (og rfl (op_move rfl rfl rfl)) ?_
              rcases fot (((rf l z l.length).1 == 0)) with h19 | h19
              · skip
                have h20 := f_beq h19
                refine rg_put (d := 61) (v := .d (.fl undef)) rfl (on rfl rfl rfl h19) ?_
                refine rg_put (d := 62) (v := .d (.fl undef)) rfl (on rfl rfl rfl h19) ?_
                refine rg_put (d := 63) (v := .d (.fl (.bool false))) rfl (og rfl (op_pick rfl rfl (by rw [h19]; rfl) rfl)) ?_
                refine rg_put (d := 64) (v := .d (.fl (.bool false))) rfl (og rfl (op_move rfl rfl rfl)) ?_
                refine rg_put (d := 65) (v := .d (.fl (.int .i64 ((rf l z l.length).1)))) rfl (oy rfl rfl rfl rfl (op_move rfl rfl rfl)) ?_
                refine rg_put (d := 66) (v := .d (.fl (.bool ((decide (0 < (rf l z l.length).1)))))) rfl (oy rfl rfl rfl rfl (op_bin rfl rfl rfl (b_gtr _ _ _ _) rfl)) ?_
                refine rg_put (d := 67) (v := .d (.fl (.bool ((decide (0 < (rf l z l.length).1)))))) rfl (oy rfl rfl rfl rfl (op_move rfl rfl rfl)) ?_
                rcases fot ((decide (0 < (rf l z l.length).1))) with h21 | h21
                · skip
                  have h22 := f_dec h21
                  refine rg_put (d := 68) (v := .d (.fl undef)) rfl (on rfl rfl rfl h21) ?_
                  refine rg_put (d := 69) (v := .d (.fl undef)) rfl (on rfl rfl rfl h21) ?_
                  refine rg_put (d := 70) (v := .d (.fl undef)) rfl (on rfl rfl rfl h21) ?_
                  refine rg_put (d := 71) (v := .d (.fl undef)) rfl (ou rfl rfl rfl) ?_
                  refine rg_put (d := 72) (v := .d (.fl undef)) rfl (ou rfl rfl rfl) ?_
                  refine rg_put (d := 73) (v := .d (.fl undef)) rfl (ou rfl rfl rfl) ?_
                  refine rg_put (d := 74) (v := .d (.fl undef)) rfl (on rfl rfl rfl h21) ?_
                  refine rg_put (d := 75) (v := .d (.fl undef)) rfl (on rfl rfl rfl h21) ?_
                  refine rg_put (d := 76) (v := .d (.fl undef)) rfl (ou rfl rfl rfl) ?_
                  refine rg_put (d := 77) (v := .d (.fl undef)) rfl (ou rfl rfl rfl) ?_
                  refine rg_put (d := 78) (v := .d (.fl undef)) rfl (ou rfl rfl rfl) ?_
                  refine rg_put (d := 79) (v := .d (.fl undef)) rfl (on rfl rfl rfl h21) ?_
                  refine rg_put (d := 80) (v := .d (.fl (.bool false))) rfl (oy rfl rfl rfl rfl (op_pick rfl rfl (by rw [h21]; rfl) rfl)) ?_
                  refine rg_put (d := 81) (v := .d (.fl (.bool false))) rfl (og rfl (op_pick rfl rfl rfl rfl)) ?_
                  refine rg_put (d := 82) (v := .d (.fl (.bool false))) rfl (og rfl (op_move rfl rfl rfl)) ?_
                  refine rg_put (d := 83) (v := .d (.fl undef)) rfl (on rfl rfl rfl rfl) ?_
                  refine rg_put (d := 84) (v := .d (.fl (.bool false))) rfl (og rfl (op_pick rfl rfl rfl rfl)) ?_
                  refine rg_put (d := 6) (v := .d (.fl (.bool false))) rfl (og rfl (op_assign rfl rfl rfl)) ?_
                  refine rg_done rfl ?_
                  refine a_ret ?_
                  show ∃ ds, ResL _ _ _ ds ∧ RV.of ds = _
                  refine ⟨[.fl (.bool false)], (.cons (.tmp rfl (.d _)) .nil), ?_⟩
                  exfalso; omega
                · skip
                  have h23 := t_dec h21
                  refine rg_put (d := 68) (v := .d (.fl (.int .i64 t))) rfl (oy rfl rfl rfl h21 (op_move rfl rfl rfl)) ?_
                  refine rg_put (d := 69) (v := .d (.fl (.bool ((decide (t < 0)))))) rfl (oy rfl rfl rfl h21 (op_bin rfl rfl rfl (b_lss _ _ _ _) rfl)) ?_
                  refine rg_put (d := 70) (v := .d (.fl (.bool ((decide (t < 0)))))) rfl (oy rfl rfl rfl h21 (op_move rfl rfl rfl)) ?_
                  rcases fot ((decide (t < 0))) with h24 | h24
                  · skip
                    have h25 := f_dec h24
                    refine rg_put (d := 71) (v := .d (.fl (.int .i64 t))) rfl (oy rfl rfl rfl h24 (op_move rfl rfl rfl)) ?_
                    refine rg_put (d := 72) (v := .d (.fl (.int .i64 ((rf l z l.length).2)))) rfl (oy rfl rfl rfl h24 (op_move rfl rfl rfl)) ?_
                    refine rg_put (d := 73) (v := .d (.fl (.bool ((decide ((rf l z l.length).2 ≤ t)))))) rfl (oy rfl rfl rfl h24 (op_bin rfl rfl rfl (b_geq _ _ _ _) rfl)) ?_
                    refine rg_put (d := 74) (v := .d (.fl (.bool ((decide ((rf l z l.length).2 ≤ t)))))) rfl (oy rfl rfl rfl h21 (op_pick rfl rfl (by rw [h24]; rfl) rfl)) ?_
                    refine rg_put (d := 75) (v := .d (.fl (.bool ((decide ((rf l z l.length).2 ≤ t)))))) rfl (oy rfl rfl rfl h21 (op_move rfl rfl rfl)) ?_
                    rcases fot ((decide ((rf l z l.length).2 ≤ t))) with h26 | h26
                    · skip
                      have h27 := f_dec h26
                      refine rg_put (d := 76) (v := .d (.fl (.int .i64 (ct l z t l.length)))) rfl (oy rfl rfl rfl h26 (op_move rfl rfl rfl)) ?_
                      refine rg_put (d := 77) (v := .d (.fl (.int .i64 ((rf l z l.length).1)))) rfl (oy rfl rfl rfl h26 (op_move rfl rfl rfl)) ?_
                      refine rg_put (d := 78) (v := .d (.fl (.bool ((decide ((ct l z t l.length) < (rf l z l.length).1)))))) rfl (oy rfl rfl rfl h26 (op_bin rfl rfl rfl (b_lss _ _ _ _) rfl)) ?_
                      refine rg_put (d := 79) (v := .d (.fl (.bool ((decide ((ct l z t l.length) < (rf l z l.length).1)))))) rfl (oy rfl rfl rfl h21 (op_pick rfl rfl (by rw [h26]; rfl) rfl)) ?_
                      refine rg_put (d := 80) (v := .d (.fl (.bool ((decide ((ct l z t l.length) < (rf l z l.length).1)))))) rfl (oy rfl rfl rfl rfl (op_pick rfl rfl (by rw [h21]; rfl) rfl)) ?_
                      refine rg_put (d := 81) (v := .d (.fl (.bool ((decide ((ct l z t l.length) < (rf l z l.length).1)))))) rfl (og rfl (op_pick rfl rfl rfl rfl)) ?_
                      refine rg_put (d := 82) (v := .d (.fl (.bool ((decide ((ct l z t l.length) < (rf l z l.length).1)))))) rfl (og rfl (op_move rfl rfl rfl)) ?_
                      rcases fot ((decide ((ct l z t l.length) < (rf l z l.length).1))) with h28 | h28
                      · skip
                        have h29 := f_dec h28
                        refine rg_put (d := 83) (v := .d (.fl undef)) rfl (on rfl rfl rfl h28) ?_
                        refine rg_put (d := 84) (v := .d (.fl (.bool false))) rfl (og rfl (op_pick rfl rfl (by rw [h28]; rfl) rfl)) ?_
                        refine rg_put (d := 6) (v := .d (.fl (.bool false))) rfl (og rfl (op_assign rfl rfl rfl)) ?_
                        refine rg_done rfl ?_
                        refine a_ret ?_
                        show ∃ ds, ResL _ _ _ ds ∧ RV.of ds = _
                        refine ⟨[.fl (.bool false)], (.cons (.tmp rfl (.d _)) .nil), ?_⟩
                        exfalso; omega
                      · skip
                        have h30 := t_dec h28
                        refine rg_put (d := 83) (v := .d (.fl (.bool true))) rfl (oy rfl rfl rfl h28 (op_callK kkst hG rfl Tryz.func5 nm5 rfl .nil aliveT rfl)) ?_
                        refine rg_put (d := 84) (v := .d (.fl (.bool true))) rfl (og rfl (op_pick rfl rfl (by rw [h28]; rfl) rfl)) ?_
                        refine rg_put (d := 6) (v := .d (.fl (.bool true))) rfl (og rfl (op_assign rfl rfl rfl)) ?_
                        refine rg_done rfl ?_
                        refine a_ret ?_
                        show ∃ ds, ResL _ _ _ ds ∧ RV.of ds = _
                        refine ⟨[.fl (.bool true)], (.cons (.tmp rfl (.d _)) .nil), ?_⟩
                        rfl
                    · skip
                      have h31 := t_dec h26
                      refine rg_put (d := 76) (v := .d (.fl undef)) rfl (on rfl rfl rfl h26) ?_
                      refine rg_put (d := 77) (v := .d (.fl undef)) rfl (on rfl rfl rfl h26) ?_
                      refine rg_put (d := 78) (v := .d (.fl undef)) rfl (on rfl rfl rfl h26) ?_
                      refine rg_put (d := 79) (v := .d (.fl (.bool true))) rfl (oy rfl rfl rfl h21 (op_pick rfl rfl (by rw [h26]; rfl) rfl)) ?_
                      refine rg_put (d := 80) (v := .d (.fl (.bool true))) rfl (oy rfl rfl rfl rfl (op_pick rfl rfl (by rw [h21]; rfl) rfl)) ?_
                      refine rg_put (d := 81) (v := .d (.fl (.bool true))) rfl (og rfl (op_pick rfl rfl rfl rfl)) ?_
                      refine rg_put (d := 82) (v := .d (.fl (.bool true))) rfl (og rfl (op_move rfl rfl rfl)) ?_
                      refine rg_put (d := 83) (v := .d (.fl (.bool true))) rfl (oy rfl rfl rfl rfl (op_callK kkst hG rfl Tryz.func5 nm5 rfl .nil aliveT rfl)) ?_
                      refine rg_put (d := 84) (v := .d (.fl (.bool true))) rfl (og rfl (op_pick rfl rfl rfl rfl)) ?_
                      refine rg_put (d := 6) (v := .d (.fl (.bool true))) rfl (og rfl (op_assign rfl rfl rfl)) ?_
                      refine rg_done rfl ?_
                      refine a_ret ?_
                      show ∃ ds, ResL _ _ _ ds ∧ RV.of ds = _
                      refine ⟨[.fl (.bool true)], (.cons (.tmp rfl (.d _)) .nil), ?_⟩
                      rfl
                  · skip
                    have h32 := t_dec h24
                    refine rg_put (d := 71) (v := .d (.fl undef)) rfl (on rfl rfl rfl h24) ?_
                    refine rg_put (d := 72) (v := .d (.fl undef)) rfl (on rfl rfl rfl h24) ?_
                    refine rg_put (d := 73) (v := .d (.fl undef)) rfl (on rfl rfl rfl h24) ?_
                    refine rg_put (d := 74) (v := .d (.fl (.bool true))) rfl (oy rfl rfl rfl h21 (op_pick rfl rfl (by rw [h24]; rfl) rfl)) ?_
                    refine rg_put (d := 75) (v := .d (.fl (.bool true))) rfl (oy rfl rfl rfl h21 (op_move rfl rfl rfl)) ?_
                    refine rg_put (d := 76) (v := .d (.fl undef)) rfl (on rfl rfl rfl rfl) ?_
                    refine rg_put (d := 77) (v := .d (.fl undef)) rfl (on rfl rfl rfl rfl) ?_
                    refine rg_put (d := 78) (v := .d (.fl undef)) rfl (on rfl rfl rfl rfl) ?_
                    refine rg_put (d := 79) (v := .d (.fl (.bool true))) rfl (oy rfl rfl rfl h21 (op_pick rfl rfl rfl rfl)) ?_
                    refine rg_put (d := 80) (v := .d (.fl (.bool true))) rfl (oy rfl rfl rfl rfl (op_pick rfl rfl (by rw [h21]; rfl) rfl)) ?_
                    refine rg_put (d := 81) (v := .d (.fl (.bool true))) rfl (og rfl (op_pick rfl rfl rfl rfl)) ?_
                    refine rg_put (d := 82) (v := .d (.fl (.bool true))) rfl (og rfl (op_move rfl rfl rfl)) ?_
                    refine rg_put (d := 83) (v := .d (.fl (.bool true))) rfl (oy rfl rfl rfl rfl (op_callK kkst hG rfl Tryz.func5 nm5 rfl .nil aliveT rfl)) ?_
                    refine rg_put (d := 84) (v := .d (.fl (.bool true))) rfl (og rfl (op_pick rfl rfl rfl rfl)) ?_
                    refine rg_put (d := 6) (v := .d (.fl (.bool true))) rfl (og rfl (op_assign rfl rfl rfl)) ?_
                    refine rg_done rfl ?_
                    refine a_ret ?_
                    show ∃ ds, ResL _ _ _ ds ∧ RV.of ds = _
                    refine ⟨[.fl (.bool true)], (.cons (.tmp rfl (.d _)) .nil), ?_⟩
                    rfl
              · skip
                have h33 := t_beq h19
                refine rg_put (d := 61) (v := .d (.fl (.int .i64 ((rf l z l.length).2)))) rfl (oy rfl rfl rfl h19 (op_move rfl rfl rfl)) ?_
                refine rg_put (d := 62) (v := .d (.fl (.bool (((rf l z l.length).2 == 0))))) rfl (oy rfl rfl rfl h19 (op_bin rfl rfl rfl (b_eql _ _ _ _) rfl)) ?_
                refine rg_put (d := 63) (v := .d (.fl (.bool (((rf l z l.length).2 == 0))))) rfl (og rfl (op_pick rfl rfl (by rw [h19]; rfl) rfl)) ?_
                refine rg_put (d := 64) (v := .d (.fl (.bool (((rf l z l.length).2 == 0))))) rfl (og rfl (op_move rfl rfl rfl)) ?_
                rcases fot (((rf l z l.length).2 == 0)) with h34 | h34
                · skip
                  have h35 := f_beq h34
                  refine rg_put (d := 65) (v := .d (.fl (.int .i64 ((rf l z l.length).1)))) rfl (oy rfl rfl rfl h34 (op_move rfl rfl rfl)) ?_
                  refine rg_put (d := 66) (v := .d (.fl (.bool ((decide (0 < (rf l z l.length).1)))))) rfl (oy rfl rfl rfl h34 (op_bin rfl rfl rfl (b_gtr _ _ _ _) rfl)) ?_
                  refine rg_put (d := 67) (v := .d (.fl (.bool ((decide (0 < (rf l z l.length).1)))))) rfl (oy rfl rfl rfl h34 (op_move rfl rfl rfl)) ?_
                  rcases fot ((decide (0 < (rf l z l.length).1))) with h36 | h36
                  · skip
                    have h37 := f_dec h36
                    refine rg_put (d := 68) (v := .d (.fl undef)) rfl (on rfl rfl rfl h36) ?_
                    refine rg_put (d := 69) (v := .d (.fl undef)) rfl (on rfl rfl rfl h36) ?_
                    refine rg_put (d := 70) (v := .d (.fl undef)) rfl (on rfl rfl rfl h36) ?_
                    refine rg_put (d := 71) (v := .d (.fl undef)) rfl (ou rfl rfl rfl) ?_
                    refine rg_put (d := 72) (v := .d (.fl undef)) rfl (ou rfl rfl rfl) ?_
                    refine rg_put (d := 73) (v := .d (.fl undef)) rfl (ou rfl rfl rfl) ?_
                    refine rg_put (d := 74) (v := .d (.fl undef)) rfl (on rfl rfl rfl h36) ?_
                    refine rg_put (d := 75) (v := .d (.fl undef)) rfl (on rfl rfl rfl h36) ?_
                    refine rg_put (d := 76) (v := .d (.fl undef)) rfl (ou rfl rfl rfl) ?_
                    refine rg_put (d := 77) (v := .d (.fl undef)) rfl (ou rfl rfl rfl) ?_
                    refine rg_put (d := 78) (v := .d (.fl undef)) rfl (ou rfl rfl rfl) ?_
                    refine rg_put (d := 79) (v := .d (.fl undef)) rfl (on rfl rfl rfl h36) ?_
                    refine rg_put (d := 80) (v := .d (.fl (.bool false))) rfl (oy rfl rfl rfl h34 (op_pick rfl rfl (by rw [h36]; rfl) rfl)) ?_
                    refine rg_put (d := 81) (v := .d (.fl (.bool false))) rfl (og rfl (op_pick rfl rfl (by rw [h34]; rfl) rfl)) ?_
                    refine rg_put (d := 82) (v := .d (.fl (.bool false))) rfl (og rfl (op_move rfl rfl rfl)) ?_
                    refine rg_put (d := 83) (v := .d (.fl undef)) rfl (on rfl rfl rfl rfl) ?_
                    refine rg_put (d := 84) (v := .d (.fl (.bool false))) rfl (og rfl (op_pick rfl rfl rfl rfl)) ?_
                    refine rg_put (d := 6) (v := .d (.fl (.bool false))) rfl (og rfl (op_assign rfl rfl rfl)) ?_
                    refine rg_done rfl ?_
                    refine a_ret ?_
                    show ∃ ds, ResL _ _ _ ds ∧ RV.of ds = _
                    refine ⟨[.fl (.bool false)], (.cons (.tmp rfl (.d _)) .nil), ?_⟩
                    exfalso; omega
                  · skip
                    have h38 := t_dec h36
                    refine rg_put (d := 68) (v := .d (.fl (.int .i64 t))) rfl (oy rfl rfl rfl h36 (op_move rfl rfl rfl)) ?_
                    refine rg_put (d := 69) (v := .d (.fl (.bool ((decide (t < 0)))))) rfl (oy rfl rfl rfl h36 (op_bin rfl rfl rfl (b_lss _ _ _ _) rfl)) ?_
                    refine rg_put (d := 70) (v := .d (.fl (.bool ((decide (t < 0)))))) rfl (oy rfl rfl rfl h36 (op_move rfl rfl rfl)) ?_
                    rcases fot ((decide (t < 0))) with h39 | h39
                    · skip
                      have h40 := f_dec h39
                      refine rg_put (d := 71) (v := .d (.fl (.int .i64 t))) rfl (oy rfl rfl rfl h39 (op_move rfl rfl rfl)) ?_
                      refine rg_put (d := 72) (v := .d (.fl (.int .i64 ((rf l z l.length).2)))) rfl (oy rfl rfl rfl h39 (op_move rfl rfl rfl)) ?_
                      refine rg_put (d := 73) (v := .d (.fl (.bool ((decide ((rf l z l.length).2 ≤ t)))))) rfl (oy rfl rfl rfl h39 (op_bin rfl rfl rfl (b_geq _ _ _ _) rfl)) ?_
                      refine rg_put (d := 74) (v := .d (.fl (.bool ((decide ((rf l z l.length).2 ≤ t)))))) rfl (oy rfl rfl rfl h36 (op_pick rfl rfl (by rw [h39]; rfl) rfl)) ?_
                      refine rg_put (d := 75) (v := .d (.fl (.bool ((decide ((rf l z l.length).2 ≤ t)))))) rfl (oy rfl rfl rfl h36 (op_move rfl rfl rfl)) ?_
                      rcases fot ((decide ((rf l z l.length).2 ≤ t))) with h41 | h41
                      · skip
                        have h42 := f_dec h41
                        refine rg_put (d := 76) (v := .d (.fl (.int .i64 (ct l z t l.length)))) rfl (oy rfl rfl rfl h41 (op_move rfl rfl rfl)) ?_
                        refine rg_put (d := 77) (v := .d (.fl (.int .i64 ((rf l z l.length).1)))) rfl (oy rfl rfl rfl h41 (op_move rfl rfl rfl)) ?_
                        refine rg_put (d := 78) (v := .d (.fl (.bool ((decide ((ct l z t l.length) < (rf l z l.length).1)))))) rfl (oy rfl rfl rfl h41 (op_bin rfl rfl rfl (b_lss _ _ _ _) rfl)) ?_
                        refine rg_put (d := 79) (v := .d (.fl (.bool ((decide ((ct l z t l.length) < (rf l z l.length).1)))))) rfl (oy rfl rfl rfl h36 (op_pick rfl rfl (by rw [h41]; rfl) rfl)) ?_
                        refine rg_put (d := 80) (v := .d (.fl (.bool ((decide ((ct l z t l.length) < (rf l z l.length).1)))))) rfl (oy rfl rfl rfl h34 (op_pick rfl rfl (by rw [h36]; rfl) rfl)) ?_
                        refine rg_put (d := 81) (v := .d (.fl (.bool ((decide ((ct l z t l.length) < (rf l z l.length).1)))))) rfl (og rfl (op_pick rfl rfl (by rw [h34]; rfl) rfl)) ?_
                        refine rg_put (d := 82) (v := .d (.fl (.bool ((decide ((ct l z t l.length) < (rf l z l.length).1)))))) rfl (og rfl (op_move rfl rfl rfl)) ?_
                        rcases fot ((decide ((ct l z t l.length) < (rf l z l.length).1))) with h43 | h43
                        · skip
                          have h44 := f_dec h43
                          refine rg_put (d := 83) (v := .d (.fl undef)) rfl (on rfl rfl rfl h43) ?_
                          refine rg_put (d := 84) (v := .d (.fl (.bool false))) rfl (og rfl (op_pick rfl rfl (by rw [h43]; rfl) rfl)) ?_
                          refine rg_put (d := 6) (v := .d (.fl (.bool false))) rfl (og rfl (op_assign rfl rfl rfl)) ?_
                          refine rg_done rfl ?_
                          refine a_ret ?_
                          show ∃ ds, ResL _ _ _ ds ∧ RV.of ds = _
                          refine ⟨[.fl (.bool false)], (.cons (.tmp rfl (.d _)) .nil), ?_⟩
                          exfalso; omega
                        · skip
                          have h45 := t_dec h43
                          refine rg_put (d := 83) (v := .d (.fl (.bool true))) rfl (oy rfl rfl rfl h43 (op_callK kkst hG rfl Tryz.func5 nm5 rfl .nil aliveT rfl)) ?_
                          refine rg_put (d := 84) (v := .d (.fl (.bool true))) rfl (og rfl (op_pick rfl rfl (by rw [h43]; rfl) rfl)) ?_
                          refine rg_put (d := 6) (v := .d (.fl (.bool true))) rfl (og rfl (op_assign rfl rfl rfl)) ?_
                          refine rg_done rfl ?_
                          refine a_ret ?_
                          show ∃ ds, ResL _ _ _ ds ∧ RV.of ds = _
                          refine ⟨[.fl (.bool true)], (.cons (.tmp rfl (.d _)) .nil), ?_⟩
                          rfl
                      · skip
                        have h46 := t_dec h41
                        refine rg_put (d := 76) (v := .d (.fl undef)) rfl (on rfl rfl rfl h41) ?_
                        refine rg_put (d := 77) (v := .d (.fl undef)) rfl (on rfl rfl rfl h41) ?_
                        refine rg_put (d := 78) (v := .d (.fl undef)) rfl (on rfl rfl rfl h41) ?_
                        refine rg_put (d := 79) (v := .d (.fl (.bool true))) rfl (oy rfl rfl rfl h36 (op_pick rfl rfl (by rw [h41]; rfl) rfl)) ?_
                        refine rg_put (d := 80) (v := .d (.fl (.bool true))) rfl (oy rfl rfl rfl h34 (op_pick rfl rfl (by rw [h36]; rfl) rfl)) ?_
                        refine rg_put (d := 81) (v := .d (.fl (.bool true))) rfl (og rfl (op_pick rfl rfl (by rw [h34]; rfl) rfl)) ?_
                        refine rg_put (d := 82) (v := .d (.fl (.bool true))) rfl (og rfl (op_move rfl rfl rfl)) ?_
                        refine rg_put (d := 83) (v := .d (.fl (.bool true))) rfl (oy rfl rfl rfl rfl (op_callK kkst hG rfl Tryz.func5 nm5 rfl .nil aliveT rfl)) ?_
                        refine rg_put (d := 84) (v := .d (.fl (.bool true))) rfl (og rfl (op_pick rfl rfl rfl rfl)) ?_
                        refine rg_put (d := 6) (v := .d (.fl (.bool true))) rfl (og rfl (op_assign rfl rfl rfl)) ?_
                        refine rg_done rfl ?_
                        refine a_ret ?_
                        show ∃ ds, ResL _ _ _ ds ∧ RV.of ds = _
                        refine ⟨[.fl (.bool true)], (.cons (.tmp rfl (.d _)) .nil), ?_⟩
                        rfl
                    · skip
                      have h47 := t_dec h39
                      refine rg_put (d := 71) (v := .d (.fl undef)) rfl (on rfl rfl rfl h39) ?_
                      refine rg_put (d := 72) (v := .d (.fl undef)) rfl (on rfl rfl rfl h39) ?_
                      refine rg_put (d := 73) (v := .d (.fl undef)) rfl (on rfl rfl rfl h39) ?_
                      refine rg_put (d := 74) (v := .d (.fl (.bool true))) rfl (oy rfl rfl rfl h36 (op_pick rfl rfl (by rw [h39]; rfl) rfl)) ?_
                      refine rg_put (d := 75) (v := .d (.fl (.bool true))) rfl (oy rfl rfl rfl h36 (op_move rfl rfl rfl)) ?_
                      refine rg_put (d := 76) (v := .d (.fl undef)) rfl (on rfl rfl rfl rfl) ?_
                      refine rg_put (d := 77) (v := .d (.fl undef)) rfl (on rfl rfl rfl rfl) ?_
                      refine rg_put (d := 78) (v := .d (.fl undef)) rfl (on rfl rfl rfl rfl) ?_
                      refine rg_put (d := 79) (v := .d (.fl (.bool true))) rfl (oy rfl rfl rfl h36 (op_pick rfl rfl rfl rfl)) ?_
                      refine rg_put (d := 80) (v := .d (.fl (.bool true))) rfl (oy rfl rfl rfl h34 (op_pick rfl rfl (by rw [h36]; rfl) rfl)) ?_
                      refine rg_put (d := 81) (v := .d (.fl (.bool true))) rfl (og rfl (op_pick rfl rfl (by rw [h34]; rfl) rfl)) ?_
                      refine rg_put (d := 82) (v := .d (.fl (.bool true))) rfl (og rfl (op_move rfl rfl rfl)) ?_
                      refine rg_put (d := 83) (v := .d (.fl (.bool true))) rfl (oy rfl rfl rfl rfl (op_callK kkst hG rfl Tryz.func5 nm5 rfl .nil aliveT rfl)) ?_
                      refine rg_put (d := 84) (v := .d (.fl (.bool true))) rfl (og rfl (op_pick rfl rfl rfl rfl)) ?_
                      refine rg_put (d := 6) (v := .d (.fl (.bool true))) rfl (og rfl (op_assign rfl rfl rfl)) ?_
                      refine rg_done rfl ?_
                      refine a_ret ?_
                      show ∃ ds, ResL _ _ _ ds ∧ RV.of ds = _
                      refine ⟨[.fl (.bool true)], (.cons (.tmp rfl (.d _)) .nil), ?_⟩
                      rfl
                · skip
                  have h48 := t_beq h34
                  refine rg_put (d := 65) (v := .d (.fl undef)) rfl (on rfl rfl rfl h34) ?_
                  refine rg_put (d := 66) (v := .d (.fl undef)) rfl (on rfl rfl rfl h34) ?_
                  refine rg_put (d := 67) (v := .d (.fl undef)) rfl (on rfl rfl rfl h34) ?_
                  refine rg_put (d := 68) (v := .d (.fl undef)) rfl (ou rfl rfl rfl) ?_
                  refine rg_put (d := 69) (v := .d (.fl undef)) rfl (ou rfl rfl rfl) ?_
                  refine rg_put (d := 70) (v := .d (.fl undef)) rfl (ou rfl rfl rfl) ?_
                  refine rg_put (d := 71) (v := .d (.fl undef)) rfl (ou rfl rfl rfl) ?_
                  refine rg_put (d := 72) (v := .d (.fl undef)) rfl (ou rfl rfl rfl) ?_
                  refine rg_put (d := 73) (v := .d (.fl undef)) rfl (ou rfl rfl rfl) ?_
                  refine rg_put (d := 74) (v := .d (.fl undef)) rfl (ou rfl rfl rfl) ?_
                  refine rg_put (d := 75) (v := .d (.fl undef)) rfl (ou rfl rfl rfl) ?_
                  refine rg_put (d := 76) (v := .d (.fl undef)) rfl (ou rfl rfl rfl) ?_
                  refine rg_put (d := 77) (v := .d (.fl undef)) rfl (ou rfl rfl rfl) ?_
                  refine rg_put (d := 78) (v := .d (.fl undef)) rfl (ou rfl rfl rfl) ?_
                  refine rg_put (d := 79) (v := .d (.fl undef)) rfl (ou rfl rfl rfl) ?_
                  refine rg_put (d := 80) (v := .d (.fl undef)) rfl (on rfl rfl rfl h34) ?_
                  refine rg_put (d := 81) (v := .d (.fl (.bool true))) rfl (og rfl (op_pick rfl rfl (by rw [h34]; rfl) rfl)) ?_
                  refine rg_put (d := 82) (v := .d (.fl (.bool true))) rfl (og rfl (op_move rfl rfl rfl)) ?_
                  refine rg_put (d := 83) (v := .d (.fl (.bool true))) rfl (oy rfl rfl rfl rfl (op_callK kkst hG rfl Tryz.func5 nm5 rfl .nil aliveT rfl)) ?_
                  refine rg_put (d := 84) (v := .d (.fl (.bool true))) rfl (og rfl (op_pick rfl rfl rfl rfl)) ?_
                  refine rg_put (d := 6) (v := .d (.fl (.bool true))) rfl (og rfl (op_assign rfl rfl rfl)) ?_
                  refine rg_done rfl ?_
                  refine a_ret ?_
                  show ∃ ds, ResL _ _ _ ds ∧ RV.of ds = _
                  refine ⟨[.fl (.bool true)], (.cons (.tmp rfl (.d _)) .nil), ?_⟩
                  rfl
          · skip
            have h49 := t_dec h14
            refine rg_put (d := 51) (v := .d (.fl undef)) rfl (on rfl rfl rfl h14) ?_
            refine rg_put (d := 52) (v := .d (.fl undef)) rfl (on rfl rfl rfl h14) ?_
            refine rg_put (d := 53) (v := .d (.fl undef)) rfl (on rfl rfl rfl h14) ?_
            refine rg_put (d := 54) (v := .d (.fl undef)) rfl (on rfl rfl rfl h14) ?_
            refine rg_put (d := 55) (v := .d (.fl undef)) rfl (on rfl rfl rfl h14) ?_
            refine rg_put (d := 56) (v := .d (.fl undef)) rfl (on rfl rfl rfl h14) ?_
            refine rg_put (d := 57) (v := .d (.fl (.bool true))) rfl (og rfl (op_pick rfl rfl (by rw [h14]; rfl) rfl)) ?_
            refine rg_done rfl ?_
            refine a_condK rfl rfl ?_
            refine a_rseq ?_
            refine rg_put (d := 6) (v := .d (.fl (.bool false))) rfl (og rfl (op_assign rfl rfl rfl)) ?_
            refine rg_done rfl ?_
            refine a_ret ?_
            show ∃ ds, ResL _ _ _ ds ∧ RV.of ds = _
            refine ⟨[.fl (.bool false)], (.cons (.tmp rfl (.d _)) .nil), ?_⟩
            exfalso; omega
        · skip
          have h50 := t_dec h12
          refine rg_put (d := 47) (v := .d (.fl undef)) rfl (on rfl rfl rfl h12) ?_
          refine rg_put (d := 48) (v := .d (.fl undef)) rfl (on rfl rfl rfl h12) ?_
          refine rg_put (d := 49) (v := .d (.fl (.bool true))) rfl (og rfl (op_pick rfl rfl (by rw [h12]; rfl) rfl)) ?_
          refine rg_put (d := 50) (v := .d (.fl (.bool true))) rfl (og rfl (op_move rfl rfl rfl)) ?_
          refine rg_put (d := 51) (v := .d (.fl undef)) rfl (on rfl rfl rfl rfl) ?_
          refine rg_put (d := 52) (v := .d (.fl undef)) rfl (on rfl rfl rfl rfl) ?_
          refine rg_put (d := 53) (v := .d (.fl undef)) rfl (on rfl rfl rfl rfl) ?_
          refine rg_put (d := 54) (v := .d (.fl undef)) rfl (on rfl rfl rfl rfl) ?_
          refine rg_put (d := 55) (v := .d (.fl undef)) rfl (on rfl rfl rfl rfl) ?_
          refine rg_put (d := 56) (v := .d (.fl undef)) rfl (on rfl rfl rfl rfl) ?_
          refine rg_put (d := 57) (v := .d (.fl (.bool true))) rfl (og rfl (op_pick rfl rfl rfl rfl)) ?_
          refine rg_done rfl ?_
          refine a_condK rfl rfl ?_
          refine a_rseq ?_
          refine rg_put (d := 6) (v := .d (.fl (.bool false))) rfl (og rfl (op_assign rfl rfl rfl)) ?_
          refine rg_done rfl ?_
          refine a_ret ?_
          show ∃ ds, ResL _ _ _ ds ∧ RV.of ds = _
          refine ⟨[.fl (.bool false)], (.cons (.tmp rfl (.d _)) .nil), ?_⟩
          exfalso; omega
  · skip
    have h51 := t_dec h1
    refine rg_put (d := 15) (v := .d (.fl undef)) rfl (on rfl rfl rfl h1) ?_
    refine rg_put (d := 16) (v := .d (.fl undef)) rfl (on rfl rfl rfl h1) ?_
    refine rg_put (d := 17) (v := .d (.fl undef)) rfl (on rfl rfl rfl h1) ?_
    refine rg_put (d := 18) (v := .d (.fl (.bool true))) rfl (og rfl (op_pick rfl rfl (by rw [h1]; rfl) rfl)) ?_
    refine rg_done rfl ?_
    refine a_condK rfl rfl ?_
    refine a_rseq ?_
    refine rg_put (d := 19) (v := .d (.fl (.bool true))) rfl (og rfl (op_callK kkst hG rfl Tryz.func5 nm5 rfl .nil aliveT rfl)) ?_
    refine rg_put (d := 6) (v := .d (.fl (.bool true))) rfl (og rfl (op_assign rfl rfl rfl)) ?_
    refine rg_done rfl ?_
    refine a_ret ?_
    show ∃ ds, ResL _ _ _ ds ∧ RV.of ds = _
    refine ⟨[.fl (.bool true)], (.cons (.tmp rfl (.d _)) .nil), ?_⟩
    rfl
set_option maxHeartbeats 4000000 in
set_option maxRecDepth 100000 in
theorem law2 (l : List Sty) (z : ByteArray) (t : Int) : CtrK Tryz.prog KK 4 [.sl 5 (List.map eSty l), .fl (.string z), .fl (.int .i64 t)] (.d (.fl (.bool true))) := by
  refine ctrK (n := 68) (rs := #[.tmp 6]) (L := [(0, .d (.sl 5 (List.map eSty l))), (1, .d (.fl (.string z))), (2, .d (.fl (.int .i64 t)))]) Tryz.func4 rfl rfl rfl rfl rfl (fun w0 U0 hG => ?_)
  refine a_rseq ?_
  refine rg_put (d := 6) (v := .d (.fl (.bool false))) rfl (og rfl (op_assign rfl rfl rfl)) ?_
  refine rg_done rfl ?_
  refine a_seq ?_
  refine a_rseq ?_
  refine rg_put (d := 12) (v := .d (.sl 5 (List.map eSty l))) rfl (og rfl (op_move rfl rfl rfl)) ?_
  refine rg_put (d := 13) (v := .d (.fl (.int .i64 (l.length : Int)))) rfl (og rfl (s_len rfl Tryz.underlying22 rfl rfl)) ?_
  refine rg_put (d := 14) (v := .d (.fl (.bool ((decide (40 < (l.length : Int))))))) rfl (og rfl (op_bin rfl rfl rfl (b_gtr _ _ _ _) rfl)) ?_
  refine rg_put (d := 15) (v := .d (.fl (.bool ((decide (40 < (l.length : Int))))))) rfl (og rfl (op_move rfl rfl rfl)) ?_
  rcases fot ((decide (40 < (l.length : Int)))) with h1 | h1
  · skip
    have h2 := f_dec h1
    refine rg_put (d := 16) (v := .d (.fl (.string z))) rfl (oy rfl rfl rfl h1 (op_move rfl rfl rfl)) ?_
    refine rg_put (d := 17) (v := .d (.fl (.int .i64 (z.size : Int)))) rfl (oy rfl rfl rfl h1 (op_len_str rfl Tryz.underlying9 rfl rfl)) ?_
    refine rg_put (d := 18) (v := .d (.fl (.bool ((decide (40 < (z.size : Int))))))) rfl (oy rfl rfl rfl h1 (op_bin rfl rfl rfl (b_gtr _ _ _ _) rfl)) ?_
    refine rg_put (d := 19) (v := .d (.fl (.bool ((decide (40 < (z.size : Int))))))) rfl (og rfl (op_pick rfl rfl (by rw [h1]; rfl) rfl)) ?_
    refine rg_done rfl ?_
    refine a_cond rfl (fun h3 => ?_) (fun h3 => ?_)
    · skip
      have h4 := t_dec h3
      refine a_rseq ?_
      refine rg_put (d := 20) (v := .d (.fl (.bool true))) rfl (og rfl (op_callK kkst hG rfl Tryz.func5 nm5 rfl .nil aliveT rfl)) ?_
      refine rg_put (d := 6) (v := .d (.fl (.bool true))) rfl (og rfl (op_assign rfl rfl rfl)) ?_
      refine rg_done rfl ?_
      refine a_ret ?_
      show ∃ ds, ResL _ _ _ ds ∧ RV.of ds = _
      refine ⟨[.fl (.bool true)], (.cons (.tmp rfl (.d _)) .nil), ?_⟩
      rfl
    · skip
      have h5 := f_dec h3
      refine a_skip ?_
      show A _ _ _ _ _ _ _
      refine a_seq ?_
      refine a_rseq ?_
      refine rg_put (d := 7) (v := .d (.fl (.int .i64 0))) rfl (og rfl (op_assign rfl rfl rfl)) ?_
      refine rg_done rfl ?_
      refine a_block ?_
      refine a_loop (ι := Nat) (fun k => SS [(0, .d (.sl 5 (List.map eSty l))), (1, .d (.fl (.string z))), (2, .d (.fl (.int .i64 t))), (19, .d (.fl (.bool ((decide (40 < (z.size : Int))))))), (7, .d (.fl (.int .i64 (k : Int))))] []) (fun k => k ≤ l.length ∧ ∀ q, q < k → (shB (ix l q)) = true) (fun k => l.length - k) 0 (⟨by omega, fun q h => by omega⟩) (imp_forget rfl ⟨rfl, rfl, rfl, rfl, (by first | rfl | exact ci (by omega) | exact ci (by simp) | exact cd (by simp) | simp), trivial⟩ trivial) (fun k hok => ?_)
      obtain ⟨hkk, hq⟩ := hok
      refine a_seq ?_
      refine a_rseq ?_
      refine rg_put (d := 21) (v := .d (.fl (.int .i64 (k : Int)))) rfl (og rfl (op_move rfl rfl rfl)) ?_
      refine rg_put (d := 22) (v := .d (.sl 5 (List.map eSty l))) rfl (og rfl (op_move rfl rfl rfl)) ?_
      refine rg_put (d := 23) (v := .d (.fl (.int .i64 (l.length : Int)))) rfl (og rfl (s_len rfl Tryz.underlying22 rfl rfl)) ?_
      refine rg_put (d := 24) (v := .d (.fl (.bool ((decide ((k : Int) < (l.length : Int))))))) rfl (og rfl (op_bin rfl rfl rfl (b_lss _ _ _ _) rfl)) ?_
      refine rg_done rfl ?_
      refine a_cond rfl (fun h6 => ?_) (fun h6 => ?_)
      · skip
        have h7 := t_dec h6
        refine a_skip ?_
        show A _ _ _ _ _ _ _
        refine a_seq ?_
        refine a_block ?_
        refine a_rseq ?_
        refine rg_put (d := 27) (v := .d (.sl 5 (List.map eSty l))) rfl (og rfl (op_move rfl rfl rfl)) ?_
        refine rg_put (d := 28) (v := .d (.fl (.int .i64 (k : Int)))) rfl (og rfl (op_move rfl rfl rfl)) ?_
        refine rg_put (d := 29) (v := .el ((eSty (ix l k)))) rfl (og rfl (s_index rfl Tryz.underlying22 ti28 rfl rfl (by omega) (row_at (by omega)) rfl)) ?_
        refine rg_put (d := 30) (v := .d (.ag (eSty (ix l k)))) rfl (og rfl (of_eff (s_load_els rfl Tryz.underlying28 rfl ti28 rfl rfl rfl) rfl)) ?_
        refine rg_put (d := 31) (v := .d (.fl (.bool ((shB (ix l k)))))) rfl (og rfl (op_call rfl Tryz.func6 nm6 rfl (.cons rfl (.d _) .nil) (shC (ix l k)) rfl)) ?_
        refine rg_put (d := 32) (v := .d (.fl (.bool ((!((shB (ix l k)))))))) rfl (og rfl (op_un rfl rfl (u_not _) rfl)) ?_
        refine rg_done rfl ?_
        refine a_cond rfl (fun h8 => ?_) (fun h8 => ?_)
        · skip
          have h9 := t_not h8
          refine a_rseq ?_
          refine rg_put (d := 33) (v := .d (.fl (.bool true))) rfl (og rfl (op_callK kkst hG rfl Tryz.func5 nm5 rfl .nil aliveT rfl)) ?_
          refine rg_put (d := 6) (v := .d (.fl (.bool true))) rfl (og rfl (op_assign rfl rfl rfl)) ?_
          refine rg_done rfl ?_
          refine a_ret ?_
          show ∃ ds, ResL _ _ _ ds ∧ RV.of ds = _
          refine ⟨[.fl (.bool true)], (.cons (.tmp rfl (.d _)) .nil), ?_⟩
          rfl
        · skip
          have h10 := f_not h8
          refine a_skip ?_
          show A _ _ _ _ _ _ _
          refine a_region ?_
          refine rg_put (d := 25) (v := .d (.fl (.int .i64 (k : Int)))) rfl (og rfl (op_move rfl rfl rfl)) ?_
          refine rg_put (d := 26) (v := .d (.fl (.int .i64 (((k : Int) + 1))))) rfl (og rfl (op_bin rfl rfl rfl (fun x y w => b_add64 _ _ _ x y w (by omega)) rfl)) ?_
          refine rg_put (d := 7) (v := .d (.fl (.int .i64 (((k : Int) + 1))))) rfl (og rfl (op_assign rfl rfl rfl)) ?_
          refine rg_done rfl ?_
          have hx : (shB (ix l k)) = true := h10
          show ∃ i, _ ∧ _ ∧ Imp _ _ _ _ _
          refine ⟨k + 1, ⟨by omega, fun q h => (Nat.lt_succ_iff_lt_or_eq.1 h).elim (hq q) (fun e => by rw [e]; exact hx)⟩, by omega, imp_forget rfl ⟨rfl, rfl, rfl, rfl, (by first | rfl | exact ci (by omega) | exact ci (by simp) | exact cd (by simp) | simp), trivial⟩ trivial⟩
      · skip
        have h11 := f_dec h6
        refine a_exit ?_
        show A _ _ _ _ _ _ _
        refine a_rseq ?_
        refine rg_put (d := 35) (v := .d (.sl 5 (List.map eSty l))) rfl (og rfl (op_move rfl rfl rfl)) ?_
        refine rg_put (d := 36) (v := .d (.fl (.string z))) rfl (og rfl (op_move rfl rfl rfl)) ?_
        refine rg_put (d := 37) (v := .tu [.fl (.int .i64 ((rf l z l.length).1)), .fl (.int .i64 ((rf l z l.length).2))]) rfl (og rfl (op_call rfl Tryz.func7 nm7 rfl (.cons rfl (.d _) (.cons rfl (.d _) .nil)) (pkP l z (by omega)) rfl)) ?_
        refine rg_put (d := 34) (v := .tu [.fl (.int .i64 ((rf l z l.length).1)), .fl (.int .i64 ((rf l z l.length).2))]) rfl (og rfl (op_move rfl rfl rfl)) ?_
        refine rg_put (d := 38) (v := .d (.fl (.int .i64 ((rf l z l.length).1)))) rfl (og rfl (op_extract rfl rfl rfl rfl)) ?_
        refine rg_put (d := 39) (v := .d (.fl (.int .i64 ((rf l z l.length).2)))) rfl (og rfl (op_extract rfl rfl rfl rfl)) ?_
        refine rg_put (d := 8) (v := .d (.fl (.int .i64 ((rf l z l.length).1)))) rfl (og rfl (op_assign rfl rfl rfl)) ?_
        refine rg_put (d := 9) (v := .d (.fl (.int .i64 ((rf l z l.length).2)))) rfl (og rfl (op_assign rfl rfl rfl)) ?_
        refine rg_done rfl ?_
        refine a_rseq ?_
        refine rg_put (d := 41) (v := .d (.sl 5 (List.map eSty l))) rfl (og rfl (op_move rfl rfl rfl)) ?_
        refine rg_put (d := 42) (v := .d (.fl (.string z))) rfl (og rfl (op_move rfl rfl rfl)) ?_
        refine rg_put (d := 43) (v := .tu [.fl (.int .i64 ((rf l z l.length).1)), .fl (.int .i64 ((rf l z l.length).2))]) rfl (og rfl (op_call rfl Tryz.func9 nm9 rfl (.cons rfl (.d _) (.cons rfl (.d _) .nil)) (pkR l z (by omega)) rfl)) ?_
        refine rg_put (d := 40) (v := .tu [.fl (.int .i64 ((rf l z l.length).1)), .fl (.int .i64 ((rf l z l.length).2))]) rfl (og rfl (op_move rfl rfl rfl)) ?_
        refine rg_put (d := 44) (v := .d (.fl (.int .i64 ((rf l z l.length).1)))) rfl (og rfl (op_extract rfl rfl rfl rfl)) ?_
        refine rg_put (d := 45) (v := .d (.fl (.int .i64 ((rf l z l.length).2)))) rfl (og rfl (op_extract rfl rfl rfl rfl)) ?_
        refine rg_put (d := 10) (v := .d (.fl (.int .i64 ((rf l z l.length).1)))) rfl (og rfl (op_assign rfl rfl rfl)) ?_
        refine rg_put (d := 11) (v := .d (.fl (.int .i64 ((rf l z l.length).2)))) rfl (og rfl (op_assign rfl rfl rfl)) ?_
        refine rg_done rfl ?_
        refine a_rseq ?_
        refine rg_put (d := 46) (v := .d (.sl 5 (List.map eSty l))) rfl (og rfl (op_move rfl rfl rfl)) ?_
        refine rg_put (d := 47) (v := .d (.fl (.string z))) rfl (og rfl (op_move rfl rfl rfl)) ?_
        refine rg_put (d := 48) (v := .d (.fl (.int .i64 t))) rfl (og rfl (op_move rfl rfl rfl)) ?_
        refine rg_put (d := 49) (v := .d (.fl (.int .i64 (ct l z t l.length)))) rfl (og rfl (op_call rfl Tryz.func8 nm8 rfl (.cons rfl (.d _) (.cons rfl (.d _) (.cons rfl (.d _) .nil))) (prP l z t (by omega)) rfl)) ?_
        refine rg_put (d := 50) (v := .d (.sl 5 (List.map eSty l))) rfl (og rfl (op_move rfl rfl rfl)) ?_
        refine rg_put (d := 51) (v := .d (.fl (.string z))) rfl (og rfl (op_move rfl rfl rfl)) ?_
        refine rg_put (d := 52) (v := .d (.fl (.int .i64 t))) rfl (og rfl (op_move rfl rfl rfl)) ?_
        refine rg_put (d := 53) (v := .d (.fl (.int .i64 (ct l z t l.length)))) rfl (og rfl (op_call rfl Tryz.func10 nm10 rfl (.cons rfl (.d _) (.cons rfl (.d _) (.cons rfl (.d _) .nil))) (prR l z t (by omega)) rfl)) ?_
        refine rg_put (d := 54) (v := .d (.fl (.bool (((ct l z t l.length) == (ct l z t l.length)))))) rfl (og rfl (op_bin rfl rfl rfl (b_eql _ _ _ _) rfl)) ?_
        refine rg_put (d := 55) (v := .d (.fl (.bool (((ct l z t l.length) == (ct l z t l.length)))))) rfl (og rfl (op_move rfl rfl rfl)) ?_
        refine rg_put (d := 56) (v := .d (.fl (.int .i64 ((rf l z l.length).1)))) rfl (oy rfl rfl rfl (beq_self_eq_true _) (op_move rfl rfl rfl)) ?_
        refine rg_put (d := 57) (v := .d (.fl (.int .i64 ((rf l z l.length).1)))) rfl (oy rfl rfl rfl (beq_self_eq_true _) (op_move rfl rfl rfl)) ?_
        refine rg_put (d := 58) (v := .d (.fl (.bool (((rf l z l.length).1 == (rf l z l.length).1))))) rfl (oy rfl rfl rfl (beq_self_eq_true _) (op_bin rfl rfl rfl (b_eql _ _ _ _) rfl)) ?_
        refine rg_put (d := 59) (v := .d (.fl (.bool (((rf l z l.length).1 == (rf l z l.length).1))))) rfl (og rfl (op_pick rfl rfl (by rw [(beq_self_eq_true _)]; rfl) rfl)) ?_
        refine rg_put (d := 60) (v := .d (.fl (.bool (((rf l z l.length).1 == (rf l z l.length).1))))) rfl (og rfl (op_move rfl rfl rfl)) ?_
        refine rg_put (d := 61) (v := .d (.fl (.int .i64 ((rf l z l.length).2)))) rfl (oy rfl rfl rfl (beq_self_eq_true _) (op_move rfl rfl rfl)) ?_
        refine rg_put (d := 62) (v := .d (.fl (.int .i64 ((rf l z l.length).2)))) rfl (oy rfl rfl rfl (beq_self_eq_true _) (op_move rfl rfl rfl)) ?_
        refine rg_put (d := 63) (v := .d (.fl (.bool (((rf l z l.length).2 == (rf l z l.length).2))))) rfl (oy rfl rfl rfl (beq_self_eq_true _) (op_bin rfl rfl rfl (b_eql _ _ _ _) rfl)) ?_
        refine rg_put (d := 64) (v := .d (.fl (.bool (((rf l z l.length).2 == (rf l z l.length).2))))) rfl (og rfl (op_pick rfl rfl (by rw [(beq_self_eq_true _)]; rfl) rfl)) ?_
        refine rg_put (d := 65) (v := .d (.fl (.bool (((rf l z l.length).2 == (rf l z l.length).2))))) rfl (og rfl (op_move rfl rfl rfl)) ?_
        refine rg_put (d := 66) (v := .d (.fl (.bool true))) rfl (oy rfl rfl rfl (beq_self_eq_true _) (op_callK kkst hG rfl Tryz.func5 nm5 rfl .nil aliveT rfl)) ?_
        refine rg_put (d := 67) (v := .d (.fl (.bool true))) rfl (og rfl (op_pick rfl rfl (by rw [(beq_self_eq_true _)]; rfl) rfl)) ?_
        refine rg_put (d := 6) (v := .d (.fl (.bool true))) rfl (og rfl (op_assign rfl rfl rfl)) ?_
        refine rg_done rfl ?_
        refine a_ret ?_
        show ∃ ds, ResL _ _ _ ds ∧ RV.of ds = _
        refine ⟨[.fl (.bool true)], (.cons (.tmp rfl (.d _)) .nil), ?_⟩
        rfl
  · skip
    have h12 := t_dec h1
    refine rg_put (d := 16) (v := .d (.fl undef)) rfl (on rfl rfl rfl h1) ?_
    refine rg_put (d := 17) (v := .d (.fl undef)) rfl (on rfl rfl rfl h1) ?_
    refine rg_put (d := 18) (v := .d (.fl undef)) rfl (on rfl rfl rfl h1) ?_
    refine rg_put (d := 19) (v := .d (.fl (.bool true))) rfl (og rfl (op_pick rfl rfl (by rw [h1]; rfl) rfl)) ?_
    refine rg_done rfl ?_
    refine a_condK rfl rfl ?_
    refine a_rseq ?_
    refine rg_put (d := 20) (v := .d (.fl (.bool true))) rfl (og rfl (op_callK kkst hG rfl Tryz.func5 nm5 rfl .nil aliveT rfl)) ?_
    refine rg_put (d := 6) (v := .d (.fl (.bool true))) rfl (og rfl (op_assign rfl rfl rfl)) ?_
    refine rg_done rfl ?_
    refine a_ret ?_
    show ∃ ds, ResL _ _ _ ds ∧ RV.of ds = _
    refine ⟨[.fl (.bool true)], (.cons (.tmp rfl (.d _)) .nil), ?_⟩
    rfl
end Go.Proofs.YtjkfajeipbagmaaGreatDoor.Wk
