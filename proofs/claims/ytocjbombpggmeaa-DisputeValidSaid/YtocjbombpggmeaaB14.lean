/- Expiry. Condition: lists that are not great. -/
import Derived.Test.YtocjbombpggmeaaB13
set_option linter.unusedSimpArgs false
set_option linter.unusedVariables false
namespace Go.Proofs.Ytocjbombpggmeaa.Wk
open Go Go.RowKit Go.Proofs.Ytocjbombpggmeaa.Av
def xp (t : Int) (d : Dp) : Bool := isT t && (d.state == 1) && decide (d.time < (t - 5184000))
def exo (t : Int) (d : Dp) : Dp := if xp t d = true then setS d 2 else d
def exl (l : List Dp) (t : Int) (k : Nat) : List Dp := (l.take k).map (exo t) ++ l.drop k
def exs (l : List Dp) (t : Int) : Nat → Int
  | 0 => 0
  | k + 1 => if xp t (ix l k) = true then exs l t k + (ix l k).cents else exs l t k
theorem exl_zero (l : List Dp) (t : Int) : l = exl l t 0 := by simp [exl]
theorem exl_len (l : List Dp) (t : Int) (k : Nat) : (exl l t k).length = l.length := by simp [exl]; omega
theorem exl_at {l : List Dp} {t : Int} {k : Nat} (h : k < l.length) : ((exl l t k).map oDp)[k]? = some (oDp (ix l k)) := by
  rw [List.getElem?_map]
  unfold exl
  rw [List.getElem?_append_right (by simp; omega), drop_ix h]
  simp [show k - min k l.length = 0 by omega]
theorem exl_set {l : List Dp} {t : Int} {k : Nat} (h : k < l.length) : (exl l t k).set k (exo t (ix l k)) = exl l t (k + 1) := by
  unfold exl
  rw [List.set_append_right _ _ (by simp; omega), drop_ix h, take_ix h]
  simp [show k - min k l.length = 0 by omega]
theorem exl_yes {l : List Dp} {t : Int} {k : Nat} (h : k < l.length) (hx : xp t (ix l k) = true) : ((exl l t k).map oDp).set k (oDp (setS (ix l k) 2)) = (exl l t (k + 1)).map oDp := by
  rw [← exl_set h, List.map_set]
  unfold exo
  rw [if_pos hx]
theorem exl_no {l : List Dp} {t : Int} {k : Nat} (h : k < l.length) (hx : xp t (ix l k) = false) : (exl l t k).map oDp = (exl l t (k + 1)).map oDp := by
  congr 1
  unfold exl
  rw [drop_ix h, take_ix h]
  simp [exo, hx]
theorem exs_yes {l : List Dp} {t : Int} {k : Nat} (hx : xp t (ix l k) = true) : exs l t (k + 1) = exs l t k + (ix l k).cents := by
  show (if _ then _ else _) = _; rw [if_pos hx]
theorem exs_no {l : List Dp} {t : Int} {k : Nat} (hx : xp t (ix l k) = false) : exs l t (k + 1) = exs l t k := by
  show (if _ then _ else _) = _; rw [if_neg (by simp [hx])]
theorem exs_le {l : List Dp} {t : Int} (hc : ∀ q, q < l.length → 0 ≤ (ix l q).cents ∧ (ix l q).cents ≤ 1125899906842625) : ∀ k, k ≤ l.length → 0 ≤ exs l t k ∧ exs l t k ≤ (k : Int) * 1125899906842625
  | 0, _ => ⟨Int.le_refl _, by simp [exs]⟩
  | k + 1, h => by
    have ih := exs_le (t := t) hc k (by omega)
    have := hc k (by omega)
    unfold exs
    split
    · constructor
      · omega
      · push_cast; omega
    · constructor
      · exact ih.1
      · push_cast; omega
theorem exl_not {l : List Dp} {t : Int} (h : isT t = false) (k : Nat) : exl l t k = l ∧ exs l t k = 0 := by
  have hx : ∀ d, xp t d = false := fun d => by unfold xp; rw [h]; rfl
  constructor
  · unfold exl
    rw [show (l.take k).map (exo t) = l.take k from by
      conv => rhs; rw [← List.map_id (l.take k)]
      exact List.map_congr_left (fun d _ => by unfold exo; rw [hx d]; rfl)]
    exact List.take_append_drop k l
  · induction k with
    | zero => rfl
    | succ k ih => rw [exs_no (hx _)]; exact ih
theorem map_ok {L : List Dp} : ∀ r ∈ L.map oDp, ∀ c ∈ r, c.ok = true := by
  intro r hr
  obtain ⟨x, _, rfl⟩ := List.mem_map.1 hr
  exact oDp_ok x
theorem map_rd {L : List Dp} : (L.map oDp).map (·.map OC.rd) = List.map eDp L := by
  rw [List.map_map]; rfl

set_option maxHeartbeats 4000000 in
set_option maxRecDepth 100000 in
theorem expire18 (l : List Dp) (t : Int) (hl : l.length ≤ 1100) (hb : ∀ q, q < l.length → (ix l q).proofs.length ≤ 2000) (hc : ∀ q, q < l.length → 0 ≤ (ix l q).cents ∧ (ix l q).cents ≤ 1125899906842625) (hw : ∀ q, q < l.length → -68719476736 ≤ (ix l q).time ∧ (ix l q).time ≤ 137438953472) : Ctr Try.prog 18 [.sl 5 (List.map eDp l), .fl (.int .i64 t)] (.tu [.sl 5 (List.map eDp (exl l t l.length)), .fl (.int .i64 (exs l t l.length))]) := by
  refine ctr (n := 50) (rs := #[.tmp 4, .tmp 5]) (L := [(0, .d (.sl 5 (List.map eDp l))), (1, .d (.fl (.int .i64 t)))]) Try.func18 rfl rfl rfl rfl rfl (fun w0 U0 => ?_)
  refine a_rseq ?_
  refine rg_put (d := 4) (v := .d (.fl (.slice none 0 0))) rfl (og rfl (op_assign rfl rfl rfl)) ?_
  refine rg_put (d := 5) (v := .d (.fl (.int .i64 0))) rfl (og rfl (op_assign rfl rfl rfl)) ?_
  refine rg_done rfl ?_
  refine a_rseq ?_
  refine rg_put (d := 9) (v := .d (.sl 5 (List.map eDp l))) rfl (og rfl (op_move rfl rfl rfl)) ?_
  refine rg_nam (d := 10) (v := .ow 101) (m := 101) (nw := [(101, .tr 40 5 (l.map oDp))]) rfl (og rfl (of_eff (op_callO 101 rfl Try.func34 nm34 rfl (.cons rfl (.d _) .nil) (fresh_dp l (by omega) (fun q h => hb q h)) rfl) rfl)) rfl ?_
  refine rg_put (d := 6) (v := .ow 101) rfl (og rfl (op_assign rfl rfl rfl)) ?_
  refine rg_done rfl ?_
  refine a_rseq ?_
  refine rg_put (d := 7) (v := .d (.fl (.int .i64 0))) rfl (og rfl (op_assign rfl rfl rfl)) ?_
  refine rg_done rfl ?_
  refine a_seq ?_
  refine a_rseq ?_
  refine rg_put (d := 11) (v := .ow 101) rfl (og rfl (op_move rfl rfl rfl)) ?_
  refine rg_put (d := 12) (v := .d (.fl (.int .i64 (l.length : Int)))) rfl (og rfl (op_len_tr rfl Try.underlying22 rfl rfl (by simp) rfl)) ?_
  refine rg_put (d := 13) (v := .d (.fl (.int .i64 0))) rfl (og rfl (op_move rfl rfl rfl)) ?_
  refine rg_done rfl ?_
  refine a_block ?_
  refine a_loop (ι := Nat) (fun k => SS [(0, .d (.sl 5 (List.map eDp l))), (1, .d (.fl (.int .i64 t))), (4, .d (.fl (.slice none 0 0))), (5, .d (.fl (.int .i64 0))), (6, .ow 101), (12, .d (.fl (.int .i64 (l.length : Int)))), (13, .d (.fl (.int .i64 (k : Int)))), (7, .d (.fl (.int .i64 (exs l t k))))] [(101, .tr 40 5 (((exl l t k).map oDp)))]) (fun k => k ≤ l.length) (fun k => l.length - k) 0 (by omega) (imp_forget rfl ⟨rfl, rfl, rfl, rfl, rfl, rfl, (by first | rfl | exact ci (by omega) | exact ci (by simp) | exact cd (by simp) | simp), rfl, trivial⟩ ⟨(congrArg (fun L => Ob.tr 40 5 (List.map oDp L)) (exl_zero l t)), trivial⟩) (fun k hok => ?_)
  have hk := hok
  have hle := exs_le (t := t) hc k hk
  have hln := exl_len l t k
  refine a_rseq ?_
  refine rg_put (d := 14) (v := .d (.fl (.bool ((decide ((k : Int) < (l.length : Int))))))) rfl (og rfl (op_bin rfl rfl rfl (b_lss _ _ _ _) rfl)) ?_
  refine rg_done rfl ?_
  refine a_seq ?_
  refine a_cond rfl (fun h1 => ?_) (fun h1 => ?_)
  · skip
    have h2 := t_dec h1
    refine a_skip ?_
    show A _ _ _ _ _ _ _
    refine a_seq ?_
    refine a_block ?_
    refine a_rseq ?_
    refine rg_put (d := 15) (v := .d (.fl (.int .i64 (k : Int)))) rfl (og rfl (op_move rfl rfl rfl)) ?_
    refine rg_put (d := 8) (v := .d (.fl (.int .i64 (k : Int)))) rfl (og rfl (op_assign rfl rfl rfl)) ?_
    refine rg_done rfl ?_
    refine a_rseq ?_
    refine rg_put (d := 16) (v := .d (.fl (.int .i64 t))) rfl (og rfl (op_move rfl rfl rfl)) ?_
    refine rg_put (d := 17) (v := .d (.fl (.bool (isT t)))) rfl (og rfl (op_call rfl Try.func20 nm20 rfl (.cons rfl (.d _) .nil) (isTime20 t) rfl)) ?_
    refine rg_put (d := 18) (v := .d (.fl (.bool (isT t)))) rfl (og rfl (op_move rfl rfl rfl)) ?_
    rcases fot (isT t) with h3 | h3
    · skip
      refine rg_put (d := 19) (v := .d (.fl undef)) rfl (on rfl rfl rfl h3) ?_
      refine rg_put (d := 20) (v := .d (.fl undef)) rfl (on rfl rfl rfl h3) ?_
      refine rg_put (d := 21) (v := .d (.fl undef)) rfl (on rfl rfl rfl h3) ?_
      refine rg_put (d := 22) (v := .d (.fl undef)) rfl (on rfl rfl rfl h3) ?_
      refine rg_put (d := 23) (v := .d (.fl undef)) rfl (on rfl rfl rfl h3) ?_
      refine rg_put (d := 24) (v := .d (.fl undef)) rfl (on rfl rfl rfl h3) ?_
      refine rg_put (d := 25) (v := .d (.fl (.bool false))) rfl (og rfl (op_pick rfl rfl (by rw [h3]; rfl) rfl)) ?_
      refine rg_put (d := 26) (v := .d (.fl (.bool false))) rfl (og rfl (op_move rfl rfl rfl)) ?_
      refine rg_put (d := 27) (v := .d (.fl undef)) rfl (on rfl rfl rfl rfl) ?_
      refine rg_put (d := 28) (v := .d (.fl undef)) rfl (on rfl rfl rfl rfl) ?_
      refine rg_put (d := 29) (v := .d (.fl undef)) rfl (on rfl rfl rfl rfl) ?_
      refine rg_put (d := 30) (v := .d (.fl undef)) rfl (on rfl rfl rfl rfl) ?_
      refine rg_put (d := 31) (v := .d (.fl undef)) rfl (on rfl rfl rfl rfl) ?_
      refine rg_put (d := 32) (v := .d (.fl undef)) rfl (on rfl rfl rfl rfl) ?_
      refine rg_put (d := 33) (v := .d (.fl undef)) rfl (on rfl rfl rfl rfl) ?_
      refine rg_put (d := 34) (v := .d (.fl undef)) rfl (on rfl rfl rfl rfl) ?_
      refine rg_put (d := 35) (v := .d (.fl (.bool false))) rfl (og rfl (op_pick rfl rfl rfl rfl)) ?_
      refine rg_done rfl ?_
      refine a_condF rfl rfl ?_
      refine a_skip ?_
      show A _ _ _ _ _ _ _
      refine a_region ?_
      refine rg_put (d := 47) (v := .d (.fl (.int .i64 (((k : Int) + 1))))) rfl (og rfl (op_bin rfl rfl rfl (fun x y w => b_add64 _ _ _ x y w (by omega)) rfl)) ?_
      refine rg_put (d := 13) (v := .d (.fl (.int .i64 (((k : Int) + 1))))) rfl (og rfl (op_move rfl rfl rfl)) ?_
      refine rg_done rfl ?_
      have hxp : xp t (ix l k) = false := by
        unfold xp; simp only [h1, h3]; rfl
      show ∃ i, _ ∧ _ ∧ Imp _ _ _ _ _
      refine ⟨k + 1, (by omega), by omega, imp_forget rfl ⟨rfl, rfl, rfl, rfl, rfl, rfl, (by first | rfl | exact ci (by omega) | exact ci (by simp) | exact cd (by simp) | simp), (ci (exs_no hxp).symm), trivial⟩ ⟨(congrArg (Ob.tr 40 5) (exl_no (by omega) hxp)), trivial⟩⟩
    · skip
      have := isT_t h3
      refine rg_put (d := 19) (v := .ow 101) rfl (oy rfl rfl rfl h3 (op_move rfl rfl rfl)) ?_
      refine rg_put (d := 20) (v := .d (.fl (.int .i64 (k : Int)))) rfl (oy rfl rfl rfl h3 (op_move rfl rfl rfl)) ?_
      refine rg_put (d := 21) (v := .pe 101 5 k 0) rfl (oy rfl rfl rfl h3 (op_index_tr rfl Try.underlying22 ti40 rfl rfl rfl (get_lt (exl_at (by omega))) rfl)) ?_
      refine rg_put (d := 22) (v := .pe 101 5 k 3) rfl (oy rfl rfl rfl h3 (of_eff (op_field_pe rfl Try.underlying40 rfl ti3 rfl rfl rfl) rfl)) ?_
      refine rg_put (d := 23) (v := .d (.fl (.int .i64 ((ix l k).state)))) rfl (oy rfl rfl rfl h3 (of_eff (op_load_pe rfl Try.underlying3 rfl rfl rfl (exl_at (by omega)) rfl rfl) rfl)) ?_
      refine rg_put (d := 24) (v := .d (.fl (.bool (((ix l k).state == 1))))) rfl (oy rfl rfl rfl h3 (op_bin rfl rfl rfl (b_eql _ _ _ _) rfl)) ?_
      refine rg_put (d := 25) (v := .d (.fl (.bool (((ix l k).state == 1))))) rfl (og rfl (op_pick rfl rfl (by rw [h3]; rfl) rfl)) ?_
      refine rg_put (d := 26) (v := .d (.fl (.bool (((ix l k).state == 1))))) rfl (og rfl (op_move rfl rfl rfl)) ?_
      rcases fot (((ix l k).state == 1)) with h4 | h4
      · skip
        have h5 := f_beq h4
        refine rg_put (d := 27) (v := .d (.fl undef)) rfl (on rfl rfl rfl h4) ?_
        refine rg_put (d := 28) (v := .d (.fl undef)) rfl (on rfl rfl rfl h4) ?_
        refine rg_put (d := 29) (v := .d (.fl undef)) rfl (on rfl rfl rfl h4) ?_
        refine rg_put (d := 30) (v := .d (.fl undef)) rfl (on rfl rfl rfl h4) ?_
        refine rg_put (d := 31) (v := .d (.fl undef)) rfl (on rfl rfl rfl h4) ?_
        refine rg_put (d := 32) (v := .d (.fl undef)) rfl (on rfl rfl rfl h4) ?_
        refine rg_put (d := 33) (v := .d (.fl undef)) rfl (on rfl rfl rfl h4) ?_
        refine rg_put (d := 34) (v := .d (.fl undef)) rfl (on rfl rfl rfl h4) ?_
        refine rg_put (d := 35) (v := .d (.fl (.bool false))) rfl (og rfl (op_pick rfl rfl (by rw [h4]; rfl) rfl)) ?_
        refine rg_done rfl ?_
        refine a_condF rfl rfl ?_
        refine a_skip ?_
        show A _ _ _ _ _ _ _
        refine a_region ?_
        refine rg_put (d := 47) (v := .d (.fl (.int .i64 (((k : Int) + 1))))) rfl (og rfl (op_bin rfl rfl rfl (fun x y w => b_add64 _ _ _ x y w (by omega)) rfl)) ?_
        refine rg_put (d := 13) (v := .d (.fl (.int .i64 (((k : Int) + 1))))) rfl (og rfl (op_move rfl rfl rfl)) ?_
        refine rg_done rfl ?_
        have hxp : xp t (ix l k) = false := by
          unfold xp; simp only [h1, h3, h4]; rfl
        show ∃ i, _ ∧ _ ∧ Imp _ _ _ _ _
        refine ⟨k + 1, (by omega), by omega, imp_forget rfl ⟨rfl, rfl, rfl, rfl, rfl, rfl, (by first | rfl | exact ci (by omega) | exact ci (by simp) | exact cd (by simp) | simp), (ci (exs_no hxp).symm), trivial⟩ ⟨(congrArg (Ob.tr 40 5) (exl_no (by omega) hxp)), trivial⟩⟩
      · skip
        have h6 := t_beq h4
        refine rg_put (d := 27) (v := .ow 101) rfl (oy rfl rfl rfl h4 (op_move rfl rfl rfl)) ?_
        refine rg_put (d := 28) (v := .d (.fl (.int .i64 (k : Int)))) rfl (oy rfl rfl rfl h4 (op_move rfl rfl rfl)) ?_
        refine rg_put (d := 29) (v := .pe 101 5 k 0) rfl (oy rfl rfl rfl h4 (op_index_tr rfl Try.underlying22 ti40 rfl rfl rfl (get_lt (exl_at (by omega))) rfl)) ?_
        refine rg_put (d := 30) (v := .pe 101 5 k 1) rfl (oy rfl rfl rfl h4 (of_eff (op_field_pe rfl Try.underlying40 rfl ti3 rfl rfl rfl) rfl)) ?_
        refine rg_put (d := 31) (v := .d (.fl (.int .i64 ((ix l k).time)))) rfl (oy rfl rfl rfl h4 (of_eff (op_load_pe rfl Try.underlying3 rfl rfl rfl (exl_at (by omega)) rfl rfl) rfl)) ?_
        refine rg_put (d := 32) (v := .d (.fl (.int .i64 t))) rfl (oy rfl rfl rfl h4 (op_move rfl rfl rfl)) ?_
        refine rg_put (d := 33) (v := .d (.fl (.int .i64 (t - 5184000)))) rfl (oy rfl rfl rfl h4 (op_bin rfl rfl rfl (fun x y w => b_sub64 _ _ _ x y w (by omega)) rfl)) ?_
        refine rg_put (d := 34) (v := .d (.fl (.bool ((decide ((ix l k).time < (t - 5184000))))))) rfl (oy rfl rfl rfl h4 (op_bin rfl rfl rfl (b_lss _ _ _ _) rfl)) ?_
        refine rg_put (d := 35) (v := .d (.fl (.bool ((decide ((ix l k).time < (t - 5184000))))))) rfl (og rfl (op_pick rfl rfl (by rw [h4]; rfl) rfl)) ?_
        refine rg_done rfl ?_
        refine a_cond rfl (fun h7 => ?_) (fun h7 => ?_)
        · skip
          have h8 := t_dec h7
          refine a_rseq ?_
          refine rg_put (d := 36) (v := .ow 101) rfl (og rfl (op_move rfl rfl rfl)) ?_
          refine rg_put (d := 37) (v := .d (.fl (.int .i64 (k : Int)))) rfl (og rfl (op_move rfl rfl rfl)) ?_
          refine rg_put (d := 38) (v := .pe 101 5 k 0) rfl (og rfl (op_index_tr rfl Try.underlying22 ti40 rfl rfl rfl (get_lt (exl_at (by omega))) rfl)) ?_
          refine rg_put (d := 39) (v := .pe 101 5 k 3) rfl (og rfl (of_eff (op_field_pe rfl Try.underlying40 rfl ti3 rfl rfl rfl) rfl)) ?_
          refine rg_sto (nw := [(101, .tr 40 5 ((((((exl l t k).map oDp))).set k [.dv (.fl (.string ((ix l k).key))), .dv (.fl (.int .i64 ((ix l k).time))), .dv (.fl (.int .i64 ((ix l k).cents))), .dv (.fl (.int .i64 2)), .ow 9 1 (List.map rS ((ix l k).proofs))])))]) rfl (og rfl (of_eff (op_store_pe rfl rfl ti3 rfl rfl (exl_at (by omega)) rfl (.d rfl) rfl rfl rfl) rfl)) ?_
          refine rg_done rfl ?_
          refine a_region ?_
          have hcq := hc k (by omega)
          refine rg_put (d := 40) (v := .d (.fl (.int .i64 (exs l t k)))) rfl (og rfl (op_move rfl rfl rfl)) ?_
          refine rg_put (d := 41) (v := .ow 101) rfl (og rfl (op_move rfl rfl rfl)) ?_
          refine rg_put (d := 42) (v := .d (.fl (.int .i64 (k : Int)))) rfl (og rfl (op_move rfl rfl rfl)) ?_
          refine rg_put (d := 43) (v := .pe 101 5 k 0) rfl (og rfl (op_index_tr rfl Try.underlying22 ti40 rfl rfl rfl (get_lt (set_get (exl_at (by omega)))) rfl)) ?_
          refine rg_put (d := 44) (v := .pe 101 5 k 2) rfl (og rfl (of_eff (op_field_pe rfl Try.underlying40 rfl ti3 rfl rfl rfl) rfl)) ?_
          refine rg_put (d := 45) (v := .d (.fl (.int .i64 ((ix l k).cents)))) rfl (og rfl (of_eff (op_load_pe rfl Try.underlying3 rfl rfl rfl (set_get (exl_at (by omega))) rfl rfl) rfl)) ?_
          refine rg_put (d := 46) (v := .d (.fl (.int .i64 (((exs l t k) + (ix l k).cents))))) rfl (og rfl (op_bin rfl rfl rfl (fun x y w => b_add64 _ _ _ x y w (by omega)) rfl)) ?_
          refine rg_put (d := 7) (v := .d (.fl (.int .i64 (((exs l t k) + (ix l k).cents))))) rfl (og rfl (op_assign rfl rfl rfl)) ?_
          refine rg_done rfl ?_
          show A _ _ _ _ _ _ _
          refine a_region ?_
          refine rg_put (d := 47) (v := .d (.fl (.int .i64 (((k : Int) + 1))))) rfl (og rfl (op_bin rfl rfl rfl (fun x y w => b_add64 _ _ _ x y w (by omega)) rfl)) ?_
          refine rg_put (d := 13) (v := .d (.fl (.int .i64 (((k : Int) + 1))))) rfl (og rfl (op_move rfl rfl rfl)) ?_
          refine rg_done rfl ?_
          have hxp : xp t (ix l k) = true := by
            unfold xp; simp only [h1, h3, h4, h7]; rfl
          show ∃ i, _ ∧ _ ∧ Imp _ _ _ _ _
          refine ⟨k + 1, (by omega), by omega, imp_forget rfl ⟨rfl, rfl, rfl, rfl, rfl, rfl, (by first | rfl | exact ci (by omega) | exact ci (by simp) | exact cd (by simp) | simp), (ci (exs_yes hxp).symm), trivial⟩ ⟨(congrArg (Ob.tr 40 5) (exl_yes (by omega) hxp)), trivial⟩⟩
        · skip
          have h9 := f_dec h7
          refine a_skip ?_
          show A _ _ _ _ _ _ _
          refine a_region ?_
          refine rg_put (d := 47) (v := .d (.fl (.int .i64 (((k : Int) + 1))))) rfl (og rfl (op_bin rfl rfl rfl (fun x y w => b_add64 _ _ _ x y w (by omega)) rfl)) ?_
          refine rg_put (d := 13) (v := .d (.fl (.int .i64 (((k : Int) + 1))))) rfl (og rfl (op_move rfl rfl rfl)) ?_
          refine rg_done rfl ?_
          have hxp : xp t (ix l k) = false := by
            unfold xp; simp only [h1, h3, h4, h7]; rfl
          show ∃ i, _ ∧ _ ∧ Imp _ _ _ _ _
          refine ⟨k + 1, (by omega), by omega, imp_forget rfl ⟨rfl, rfl, rfl, rfl, rfl, rfl, (by first | rfl | exact ci (by omega) | exact ci (by simp) | exact cd (by simp) | simp), (ci (exs_no hxp).symm), trivial⟩ ⟨(congrArg (Ob.tr 40 5) (exl_no (by omega) hxp)), trivial⟩⟩
  · skip
    have h10 := f_dec h1
    refine a_exit ?_
    show A _ _ _ _ _ _ _
    refine a_rseq ?_
    refine rg_imp (imp_leakE 6 101 (rows' := List.map eDp (exl l t k)) rfl rfl map_ok map_rd) ?_
    refine rg_put (d := 48) (v := .d (.sl 5 (List.map eDp (exl l t k)))) rfl (og rfl (op_move rfl rfl rfl)) ?_
    refine rg_put (d := 49) (v := .d (.fl (.int .i64 (exs l t k)))) rfl (og rfl (op_move rfl rfl rfl)) ?_
    refine rg_put (d := 4) (v := .d (.sl 5 (List.map eDp (exl l t k)))) rfl (og rfl (op_assign rfl rfl rfl)) ?_
    refine rg_put (d := 5) (v := .d (.fl (.int .i64 (exs l t k)))) rfl (og rfl (op_assign rfl rfl rfl)) ?_
    refine rg_done rfl ?_
    refine a_ret ?_
    show ∃ ds, ResL _ _ _ ds ∧ RV.of ds = _
    refine ⟨[.sl 5 (List.map eDp (exl l t k)), .fl (.int .i64 (exs l t k))], (.cons (.tmp rfl (.d _)) (.cons (.tmp rfl (.d _)) .nil)), ?_⟩
    have hkk : k = l.length := by omega
    subst hkk
    rfl
end Go.Proofs.Ytocjbombpggmeaa.Wk
