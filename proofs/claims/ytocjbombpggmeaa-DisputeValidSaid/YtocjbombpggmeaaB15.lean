/- Expiry, the plain way. Condition: lists that are not great. -/
import Derived.Test.YtocjbombpggmeaaB14
set_option linter.unusedSimpArgs false
set_option linter.unusedVariables false
namespace Go.Proofs.Ytocjbombpggmeaa.Wk
open Go Go.RowKit Go.Proofs.Ytocjbombpggmeaa.Av
set_option maxHeartbeats 4000000 in
set_option maxRecDepth 100000 in
theorem ref_expire (l : List Dp) (t : Int) (hl : l.length ≤ 1100) (hb : ∀ q, q < l.length → (ix l q).proofs.length ≤ 2000) (hc : ∀ q, q < l.length → 0 ≤ (ix l q).cents ∧ (ix l q).cents ≤ 1125899906842625) (hw : ∀ q, q < l.length → -68719476736 ≤ (ix l q).time ∧ (ix l q).time ≤ 137438953472) : Ctr Try.prog 31 [.sl 5 (List.map eDp l), .fl (.int .i64 t)] (.tu [.sl 5 (List.map eDp (exl l t l.length)), .fl (.int .i64 (exs l t l.length))]) := by
  refine ctr (n := 49) (rs := #[.tmp 4, .tmp 5]) (L := [(0, .d (.sl 5 (List.map eDp l))), (1, .d (.fl (.int .i64 t)))]) Try.func31 rfl rfl rfl rfl rfl (fun w0 U0 => ?_)
  refine a_rseq ?_
  refine rg_put (d := 4) (v := .d (.fl (.slice none 0 0))) rfl (og rfl (op_assign rfl rfl rfl)) ?_
  refine rg_put (d := 5) (v := .d (.fl (.int .i64 0))) rfl (og rfl (op_assign rfl rfl rfl)) ?_
  refine rg_done rfl ?_
  refine a_rseq ?_
  refine rg_put (d := 9) (v := .d (.sl 5 (List.map eDp l))) rfl (og rfl (op_move rfl rfl rfl)) ?_
  refine rg_nam (d := 10) (v := .ow 101) (m := 101) (nw := [(101, .tr 40 5 (l.map oDp))]) rfl (og rfl (of_eff (op_callO 101 rfl Try.func42 nm42 rfl (.cons rfl (.d _) .nil) (copied42 l (by omega) (fun q h => hb q h)) rfl) rfl)) rfl ?_
  refine rg_put (d := 6) (v := .ow 101) rfl (og rfl (op_assign rfl rfl rfl)) ?_
  refine rg_done rfl ?_
  refine a_rseq ?_
  refine rg_put (d := 7) (v := .d (.fl (.int .i64 0))) rfl (og rfl (op_assign rfl rfl rfl)) ?_
  refine rg_done rfl ?_
  refine a_seq ?_
  refine a_rseq ?_
  refine rg_put (d := 8) (v := .d (.fl (.int .i64 0))) rfl (og rfl (op_assign rfl rfl rfl)) ?_
  refine rg_done rfl ?_
  refine a_block ?_
  refine a_loop (ι := Nat) (fun k => SS [(0, .d (.sl 5 (List.map eDp l))), (1, .d (.fl (.int .i64 t))), (4, .d (.fl (.slice none 0 0))), (5, .d (.fl (.int .i64 0))), (6, .ow 101), (8, .d (.fl (.int .i64 (k : Int)))), (7, .d (.fl (.int .i64 (exs l t k))))] [(101, .tr 40 5 (((exl l t k).map oDp)))]) (fun k => k ≤ l.length) (fun k => l.length - k) 0 (by omega) (imp_forget rfl ⟨rfl, rfl, rfl, rfl, rfl, (by first | rfl | exact ci (by omega) | exact ci (by simp) | exact cd (by simp) | simp), rfl, trivial⟩ ⟨(congrArg (fun L => Ob.tr 40 5 (List.map oDp L)) (exl_zero l t)), trivial⟩) (fun k hok => ?_)
  have hk := hok
  have hle := exs_le (t := t) hc k hk
  have hln := exl_len l t k
  refine a_seq ?_
  refine a_rseq ?_
  refine rg_put (d := 11) (v := .d (.fl (.int .i64 (k : Int)))) rfl (og rfl (op_move rfl rfl rfl)) ?_
  refine rg_put (d := 12) (v := .ow 101) rfl (og rfl (op_move rfl rfl rfl)) ?_
  refine rg_put (d := 13) (v := .d (.fl (.int .i64 (l.length : Int)))) rfl (og rfl (op_len_tr rfl Try.underlying22 rfl rfl (by rw [List.length_map]; exact exl_len l t k) rfl)) ?_
  refine rg_put (d := 14) (v := .d (.fl (.bool ((decide ((k : Int) < (l.length : Int))))))) rfl (og rfl (op_bin rfl rfl rfl (b_lss _ _ _ _) rfl)) ?_
  refine rg_put (d := 15) (v := .d (.fl (.bool ((decide ((k : Int) < (l.length : Int))))))) rfl (og rfl (op_move rfl rfl rfl)) ?_
  rcases fot ((decide ((k : Int) < (l.length : Int)))) with h1 | h1
  · skip
    have h2 := f_dec h1
    refine rg_put (d := 16) (v := .d (.fl undef)) rfl (on rfl rfl rfl h1) ?_
    refine rg_put (d := 17) (v := .d (.fl undef)) rfl (on rfl rfl rfl h1) ?_
    refine rg_put (d := 18) (v := .d (.fl (.bool false))) rfl (og rfl (op_pick rfl rfl (by rw [h1]; rfl) rfl)) ?_
    refine rg_done rfl ?_
    refine a_condF rfl rfl ?_
    refine a_exit ?_
    show A _ _ _ _ _ _ _
    refine a_rseq ?_
    refine rg_imp (imp_leakE 6 101 (rows' := List.map eDp (exl l t k)) rfl rfl map_ok map_rd) ?_
    refine rg_put (d := 47) (v := .d (.sl 5 (List.map eDp (exl l t k)))) rfl (og rfl (op_move rfl rfl rfl)) ?_
    refine rg_put (d := 48) (v := .d (.fl (.int .i64 (exs l t k)))) rfl (og rfl (op_move rfl rfl rfl)) ?_
    refine rg_put (d := 4) (v := .d (.sl 5 (List.map eDp (exl l t k)))) rfl (og rfl (op_assign rfl rfl rfl)) ?_
    refine rg_put (d := 5) (v := .d (.fl (.int .i64 (exs l t k)))) rfl (og rfl (op_assign rfl rfl rfl)) ?_
    refine rg_done rfl ?_
    refine a_ret ?_
    show ∃ ds, ResL _ _ _ ds ∧ RV.of ds = _
    refine ⟨[.sl 5 (List.map eDp (exl l t k)), .fl (.int .i64 (exs l t k))], (.cons (.tmp rfl (.d _)) (.cons (.tmp rfl (.d _)) .nil)), ?_⟩
    have hkk : k = l.length := by omega
    subst hkk
    rfl
  · skip
    have h3 := t_dec h1
    refine rg_put (d := 16) (v := .d (.fl (.int .i64 t))) rfl (oy rfl rfl rfl h1 (op_move rfl rfl rfl)) ?_
    refine rg_put (d := 17) (v := .d (.fl (.bool (isT t)))) rfl (oy rfl rfl rfl h1 (op_call rfl Try.func39 nm39 rfl (.cons rfl (.d _) .nil) (isTime39 t) rfl)) ?_
    refine rg_put (d := 18) (v := .d (.fl (.bool (isT t)))) rfl (og rfl (op_pick rfl rfl (by rw [h1]; rfl) rfl)) ?_
    refine rg_done rfl ?_
    refine a_cond rfl (fun h4 => ?_) (fun h4 => ?_)
    · skip
      have := isT_t h4
      refine a_skip ?_
      show A _ _ _ _ _ _ _
      refine a_seq ?_
      refine a_block ?_
      refine a_rseq ?_
      refine rg_put (d := 21) (v := .ow 101) rfl (og rfl (op_move rfl rfl rfl)) ?_
      refine rg_put (d := 22) (v := .d (.fl (.int .i64 (k : Int)))) rfl (og rfl (op_move rfl rfl rfl)) ?_
      refine rg_put (d := 23) (v := .pe 101 5 k 0) rfl (og rfl (op_index_tr rfl Try.underlying22 ti40 rfl rfl rfl (get_lt (exl_at (by omega))) rfl)) ?_
      refine rg_put (d := 24) (v := .pe 101 5 k 3) rfl (og rfl (of_eff (op_field_pe rfl Try.underlying40 rfl ti3 rfl rfl rfl) rfl)) ?_
      refine rg_put (d := 25) (v := .d (.fl (.int .i64 ((ix l k).state)))) rfl (og rfl (of_eff (op_load_pe rfl Try.underlying3 rfl rfl rfl (exl_at (by omega)) rfl rfl) rfl)) ?_
      refine rg_put (d := 26) (v := .d (.fl (.bool (((ix l k).state == 1))))) rfl (og rfl (op_bin rfl rfl rfl (b_eql _ _ _ _) rfl)) ?_
      refine rg_put (d := 27) (v := .d (.fl (.bool (((ix l k).state == 1))))) rfl (og rfl (op_move rfl rfl rfl)) ?_
      rcases fot (((ix l k).state == 1)) with h5 | h5
      · skip
        have h6 := f_beq h5
        refine rg_put (d := 28) (v := .d (.fl undef)) rfl (on rfl rfl rfl h5) ?_
        refine rg_put (d := 29) (v := .d (.fl undef)) rfl (on rfl rfl rfl h5) ?_
        refine rg_put (d := 30) (v := .d (.fl undef)) rfl (on rfl rfl rfl h5) ?_
        refine rg_put (d := 31) (v := .d (.fl undef)) rfl (on rfl rfl rfl h5) ?_
        refine rg_put (d := 32) (v := .d (.fl undef)) rfl (on rfl rfl rfl h5) ?_
        refine rg_put (d := 33) (v := .d (.fl undef)) rfl (on rfl rfl rfl h5) ?_
        refine rg_put (d := 34) (v := .d (.fl undef)) rfl (on rfl rfl rfl h5) ?_
        refine rg_put (d := 35) (v := .d (.fl (.bool false))) rfl (og rfl (op_pick rfl rfl (by rw [h5]; rfl) rfl)) ?_
        refine rg_done rfl ?_
        refine a_condF rfl rfl ?_
        refine a_skip ?_
        show A _ _ _ _ _ _ _
        refine a_region ?_
        refine rg_put (d := 19) (v := .d (.fl (.int .i64 (k : Int)))) rfl (og rfl (op_move rfl rfl rfl)) ?_
        refine rg_put (d := 20) (v := .d (.fl (.int .i64 (((k : Int) + 1))))) rfl (og rfl (op_bin rfl rfl rfl (fun x y w => b_add64 _ _ _ x y w (by omega)) rfl)) ?_
        refine rg_put (d := 8) (v := .d (.fl (.int .i64 (((k : Int) + 1))))) rfl (og rfl (op_assign rfl rfl rfl)) ?_
        refine rg_done rfl ?_
        have hxp : xp t (ix l k) = false := by
          unfold xp; simp only [h1, h4, h5]; rfl
        show ∃ i, _ ∧ _ ∧ Imp _ _ _ _ _
        refine ⟨k + 1, (by omega), by omega, imp_forget rfl ⟨rfl, rfl, rfl, rfl, rfl, (by first | rfl | exact ci (by omega) | exact ci (by simp) | exact cd (by simp) | simp), (ci (exs_no hxp).symm), trivial⟩ ⟨(congrArg (Ob.tr 40 5) (exl_no (by omega) hxp)), trivial⟩⟩
      · skip
        have h7 := t_beq h5
        refine rg_put (d := 28) (v := .d (.fl (.int .i64 t))) rfl (oy rfl rfl rfl h5 (op_move rfl rfl rfl)) ?_
        refine rg_put (d := 29) (v := .ow 101) rfl (oy rfl rfl rfl h5 (op_move rfl rfl rfl)) ?_
        refine rg_put (d := 30) (v := .d (.fl (.int .i64 (k : Int)))) rfl (oy rfl rfl rfl h5 (op_move rfl rfl rfl)) ?_
        refine rg_put (d := 31) (v := .pe 101 5 k 0) rfl (oy rfl rfl rfl h5 (op_index_tr rfl Try.underlying22 ti40 rfl rfl rfl (get_lt (exl_at (by omega))) rfl)) ?_
        refine rg_put (d := 32) (v := .pe 101 5 k 1) rfl (oy rfl rfl rfl h5 (of_eff (op_field_pe rfl Try.underlying40 rfl ti3 rfl rfl rfl) rfl)) ?_
        refine rg_put (d := 33) (v := .d (.fl (.int .i64 ((ix l k).time)))) rfl (oy rfl rfl rfl h5 (of_eff (op_load_pe rfl Try.underlying3 rfl rfl rfl (exl_at (by omega)) rfl rfl) rfl)) ?_
        refine rg_put (d := 34) (v := .d (.fl (.bool ((decide ((ix l k).time < t - 60 * 86400)))))) rfl (oy rfl rfl rfl h5 (op_call rfl Try.func44 nm44 rfl (.cons rfl (.d _) (.cons rfl (.d _) (.cons rfl (.d _) .nil))) (after44 t ((ix l k).time) 60 (by omega) (by omega) (by omega) (by omega)) rfl)) ?_
        refine rg_put (d := 35) (v := .d (.fl (.bool ((decide ((ix l k).time < t - 60 * 86400)))))) rfl (og rfl (op_pick rfl rfl (by rw [h5]; rfl) rfl)) ?_
        refine rg_done rfl ?_
        refine a_cond rfl (fun h8 => ?_) (fun h8 => ?_)
        · skip
          have h9 := t_dec h8
          refine a_rseq ?_
          refine rg_put (d := 36) (v := .ow 101) rfl (og rfl (op_move rfl rfl rfl)) ?_
          refine rg_put (d := 37) (v := .d (.fl (.int .i64 (k : Int)))) rfl (og rfl (op_move rfl rfl rfl)) ?_
          refine rg_put (d := 38) (v := .pe 101 5 k 0) rfl (og rfl (op_index_tr rfl Try.underlying22 ti40 rfl rfl rfl (get_lt (exl_at (by omega))) rfl)) ?_
          refine rg_put (d := 39) (v := .pe 101 5 k 3) rfl (og rfl (of_eff (op_field_pe rfl Try.underlying40 rfl ti3 rfl rfl rfl) rfl)) ?_
          refine rg_sto (nw := [(101, .tr 40 5 ((((((exl l t k).map oDp))).set k [.dv (.fl (.string ((ix l k).key))), .dv (.fl (.int .i64 ((ix l k).time))), .dv (.fl (.int .i64 ((ix l k).cents))), .dv (.fl (.int .i64 2)), .ow 9 1 (List.map rS ((ix l k).proofs))])))]) rfl (og rfl (of_eff (op_store_pe rfl rfl ti3 rfl rfl (exl_at (by omega)) rfl (.d rfl) rfl rfl rfl) rfl)) ?_
          refine rg_done rfl ?_
          refine a_region ?_
          have hcq := hc k (by omega)
          refine rg_put (d := 40) (v := .d (.fl (.int .i64 (exs l t k)))) rfl (og rfl (op_move rfl rfl rfl)) ?_
          refine rg_put (d := 41) (v := .ow 101) rfl (og rfl (op_move rfl rfl rfl)) ?_
          refine rg_put (d := 42) (v := .d (.fl (.int .i64 (k : Int)))) rfl (og rfl (op_move rfl rfl rfl)) ?_
          refine rg_put (d := 43) (v := .pe 101 5 k 0) rfl (og rfl (op_index_tr rfl Try.underlying22 ti40 rfl rfl rfl (get_lt (set_get (exl_at (by omega)))) rfl)) ?_
          refine rg_put (d := 44) (v := .pe 101 5 k 2) rfl (og rfl (of_eff (op_field_pe rfl Try.underlying40 rfl ti3 rfl rfl rfl) rfl)) ?_
          refine rg_put (d := 45) (v := .d (.fl (.int .i64 ((ix l k).cents)))) rfl (og rfl (of_eff (op_load_pe rfl Try.underlying3 rfl rfl rfl (set_get (exl_at (by omega))) rfl rfl) rfl)) ?_
          refine rg_put (d := 46) (v := .d (.fl (.int .i64 (((exs l t k) + (ix l k).cents))))) rfl (og rfl (op_bin rfl rfl rfl (fun x y w => b_add64 _ _ _ x y w (by omega)) rfl)) ?_
          refine rg_put (d := 7) (v := .d (.fl (.int .i64 (((exs l t k) + (ix l k).cents))))) rfl (og rfl (op_assign rfl rfl rfl)) ?_
          refine rg_done rfl ?_
          show A _ _ _ _ _ _ _
          refine a_region ?_
          refine rg_put (d := 19) (v := .d (.fl (.int .i64 (k : Int)))) rfl (og rfl (op_move rfl rfl rfl)) ?_
          refine rg_put (d := 20) (v := .d (.fl (.int .i64 (((k : Int) + 1))))) rfl (og rfl (op_bin rfl rfl rfl (fun x y w => b_add64 _ _ _ x y w (by omega)) rfl)) ?_
          refine rg_put (d := 8) (v := .d (.fl (.int .i64 (((k : Int) + 1))))) rfl (og rfl (op_assign rfl rfl rfl)) ?_
          refine rg_done rfl ?_
          have hxp : xp t (ix l k) = true := by
            unfold xp; simp only [h1, h4, h5, h8, show decide ((ix l k).time < (t - 5184000)) = true from decide_eq_true (by omega)]; rfl
          show ∃ i, _ ∧ _ ∧ Imp _ _ _ _ _
          refine ⟨k + 1, (by omega), by omega, imp_forget rfl ⟨rfl, rfl, rfl, rfl, rfl, (by first | rfl | exact ci (by omega) | exact ci (by simp) | exact cd (by simp) | simp), (ci (exs_yes hxp).symm), trivial⟩ ⟨(congrArg (Ob.tr 40 5) (exl_yes (by omega) hxp)), trivial⟩⟩
        · skip
          have h10 := f_dec h8
          refine a_skip ?_
          show A _ _ _ _ _ _ _
          refine a_region ?_
          refine rg_put (d := 19) (v := .d (.fl (.int .i64 (k : Int)))) rfl (og rfl (op_move rfl rfl rfl)) ?_
          refine rg_put (d := 20) (v := .d (.fl (.int .i64 (((k : Int) + 1))))) rfl (og rfl (op_bin rfl rfl rfl (fun x y w => b_add64 _ _ _ x y w (by omega)) rfl)) ?_
          refine rg_put (d := 8) (v := .d (.fl (.int .i64 (((k : Int) + 1))))) rfl (og rfl (op_assign rfl rfl rfl)) ?_
          refine rg_done rfl ?_
          have hxp : xp t (ix l k) = false := by
            unfold xp; simp only [h1, h4, h5, h8, show decide ((ix l k).time < (t - 5184000)) = false from decide_eq_false (by omega)]; rfl
          show ∃ i, _ ∧ _ ∧ Imp _ _ _ _ _
          refine ⟨k + 1, (by omega), by omega, imp_forget rfl ⟨rfl, rfl, rfl, rfl, rfl, (by first | rfl | exact ci (by omega) | exact ci (by simp) | exact cd (by simp) | simp), (ci (exs_no hxp).symm), trivial⟩ ⟨(congrArg (Ob.tr 40 5) (exl_no (by omega) hxp)), trivial⟩⟩
    · skip
      refine a_exit ?_
      show A _ _ _ _ _ _ _
      refine a_rseq ?_
      refine rg_imp (imp_leakE 6 101 (rows' := List.map eDp (exl l t k)) rfl rfl map_ok map_rd) ?_
      refine rg_put (d := 47) (v := .d (.sl 5 (List.map eDp (exl l t k)))) rfl (og rfl (op_move rfl rfl rfl)) ?_
      refine rg_put (d := 48) (v := .d (.fl (.int .i64 (exs l t k)))) rfl (og rfl (op_move rfl rfl rfl)) ?_
      refine rg_put (d := 4) (v := .d (.sl 5 (List.map eDp (exl l t k)))) rfl (og rfl (op_assign rfl rfl rfl)) ?_
      refine rg_put (d := 5) (v := .d (.fl (.int .i64 (exs l t k)))) rfl (og rfl (op_assign rfl rfl rfl)) ?_
      refine rg_done rfl ?_
      refine a_ret ?_
      show ∃ ds, ResL _ _ _ ds ∧ RV.of ds = _
      refine ⟨[.sl 5 (List.map eDp (exl l t k)), .fl (.int .i64 (exs l t k))], (.cons (.tmp rfl (.d _)) (.cons (.tmp rfl (.d _)) .nil)), ?_⟩
      rw [(exl_not h4 l.length).1, (exl_not h4 l.length).2, (exl_not h4 k).1, (exl_not h4 k).2]; rfl
end Go.Proofs.Ytocjbombpggmeaa.Wk
