/- The law of sorted lists. No condition. -/
import Derived.Test.YtakmjlpciicaiaaGreatDoorAl
import Derived.Test.YtakmjlpciicaiaaGreatDoorB2
set_option linter.unusedSimpArgs false
set_option linter.unusedVariables false
namespace Go.Proofs.YtakmjlpciicaiaaGreatDoor.Wk
open Go Go.RowKit Go.Proofs.YtakmjlpciicaiaaGreatDoor.Av
def ct (p : Nat → Bool) : Nat → Int
  | 0 => 0
  | k + 1 => bif p k then ct p k + 1 else ct p k
theorem ct_y {p : Nat → Bool} {k : Nat} (h : p k = true) : ct p (k + 1) = ct p k + 1 := by simp only [ct, h, cond_true]
theorem ct_n {p : Nat → Bool} {k : Nat} (h : p k = false) : ct p (k + 1) = ct p k := by simp only [ct, h, cond_false]
theorem ct_in (p : Nat → Bool) : ∀ k, 0 ≤ ct p k ∧ ct p k ≤ (k : Int)
  | 0 => by simp [ct]
  | k + 1 => by
    have := ct_in p k
    simp only [ct]
    cases p k <;> simp only [cond_true, cond_false] <;> omega
theorem ct_count {α : Type} [Inhabited α] (P : α → Bool) (l : List α) : ∀ k, k ≤ l.length → ct (fun q => P (ix l q)) k = ((l.take k).countP P : Nat)
  | 0, _ => by simp [ct]
  | k + 1, h => by
    have ih := ct_count P l k (by omega)
    rw [take_ix (by omega : k < l.length), List.countP_append]
    cases hb : P (ix l k) with
    | true => rw [ct_y (p := fun q => P (ix l q)) hb, ih]; simp [hb]
    | false => rw [ct_n (p := fun q => P (ix l q)) hb, ih]; simp [hb]
theorem ct_perm {α : Type} [Inhabited α] (P : α → Bool) {l m : List α} (h : l.Perm m) : ct (fun q => P (ix l q)) l.length = ct (fun q => P (ix m q)) l.length := by
  rw [ct_count P l _ (Nat.le_refl _), ct_count P m _ (Nat.le_of_eq h.length_eq), List.take_of_length_le (Nat.le_refl _), List.take_of_length_le (Nat.le_of_eq h.length_eq.symm), h.countP_eq]
def P1 (x : Psg) (l : List Psg) (q : Nat) : Bool := cp x (ix l q) == 0
theorem P1_perm (x : Psg) {l m : List Psg} (h : l.Perm m) : ct (P1 x l) l.length = ct (P1 x m) l.length := ct_perm (fun y => cp x y == 0) h

set_option maxHeartbeats 4000000 in
set_option maxRecDepth 100000 in
theorem law7 (l : List Psg) (hl9 : l.length ≤ 9223372036854775807) (hm9 : ∀ x ∈ l, x.src.length ≤ 9223372036854775807) : Ctr Tryz.prog 7 [.sl 8 (List.map ePsg l)] (.d (.fl (.bool true))) := by
  refine ctr (n := 74) (rs := #[.tmp 2]) (L := [(0, .d (.sl 8 (List.map ePsg l)))]) Tryz.func7 rfl rfl rfl rfl rfl (fun w0 U0 => ?_)
  refine a_rseq ?_
  refine rg_put (d := 2) (v := .d (.fl (.bool false))) rfl (og rfl (op_assign rfl rfl rfl)) ?_
  refine rg_done rfl ?_
  refine a_seq ?_
  refine a_rseq ?_
  refine rg_put (d := 8) (v := .d (.sl 8 (List.map ePsg l))) rfl (og rfl (op_move rfl rfl rfl)) ?_
  refine rg_put (d := 9) (v := .d (.fl (.bool (fewP l)))) rfl (og rfl (op_call rfl Tryz.func19 nm19 rfl (.cons rfl (.d _) .nil) (fewC l hl9 hm9) rfl)) ?_
  refine rg_put (d := 10) (v := .d (.fl (.bool ((!(fewP l)))))) rfl (og rfl (op_un rfl rfl (u_not _) rfl)) ?_
  refine rg_done rfl ?_
  refine a_cond rfl (fun h1 => ?_) (fun h1 => ?_)
  · skip
    have h2 := t_not h1
    refine a_rseq ?_
    refine rg_put (d := 11) (v := .d (.fl (.bool true))) rfl (og rfl (op_call rfl Tryz.func12 nm12 rfl .nil aliveT rfl)) ?_
    refine rg_put (d := 2) (v := .d (.fl (.bool true))) rfl (og rfl (op_assign rfl rfl rfl)) ?_
    refine rg_done rfl ?_
    refine a_ret ?_
    show ∃ ds, ResL _ _ _ ds ∧ RV.of ds = _
    refine ⟨[.fl (.bool true)], (.cons (.tmp rfl (.d _)) .nil), ?_⟩
    rfl
  · skip
    have h3 := f_not h1
    refine a_skip ?_
    show A _ _ _ _ _ _ _
    refine a_rseq ?_
    obtain ⟨hl40, hsz⟩ := few_t h3
    have hsl := hsz
    have hss : ∀ x ∈ srt l, szP x := fun x hx => hsz x ((srt_perm l).subset hx)
    have hsn := srt_len l
    have hso : ∀ a b, a < b → b < (srt l).length → cp (ix (srt l) a) (ix (srt l) b) ≤ 0 := fun a b h1 h2 => by have := List.pairwise_iff_getElem.1 (srt_pw l) a b (by omega) h2 h1; rw [ix_eq (by omega), ix_eq h2] at this; exact this
    refine rg_put (d := 12) (v := .d (.sl 8 (List.map ePsg l))) rfl (og rfl (op_move rfl rfl rfl)) ?_
    refine rg_put (d := 13) (v := .d (.sl 8 (List.map ePsg (srt l)))) rfl (og rfl (op_call rfl Tryz.func21 nm21 rfl (.cons rfl (.d _) .nil) (sortC l (by omega) (fun x hx => (hsz x hx).n)) rfl)) ?_
    refine rg_put (d := 3) (v := .d (.sl 8 (List.map ePsg (srt l)))) rfl (og rfl (op_assign rfl rfl rfl)) ?_
    refine rg_done rfl ?_
    refine a_seq ?_
    refine a_rseq ?_
    refine rg_put (d := 14) (v := .d (.sl 8 (List.map ePsg (srt l)))) rfl (og rfl (op_move rfl rfl rfl)) ?_
    refine rg_put (d := 15) (v := .d (.fl (.int .i64 (((srt l).length : Int))))) rfl (og rfl (s_len rfl Tryz.underlying38 rfl rfl)) ?_
    refine rg_put (d := 16) (v := .d (.sl 8 (List.map ePsg l))) rfl (og rfl (op_move rfl rfl rfl)) ?_
    refine rg_put (d := 17) (v := .d (.fl (.int .i64 (l.length : Int)))) rfl (og rfl (s_len rfl Tryz.underlying38 rfl rfl)) ?_
    refine rg_put (d := 18) (v := .d (.fl (.bool ((((srt l).length : Int) != (l.length : Int)))))) rfl (og rfl (op_bin rfl rfl rfl (b_neq _ _ _ _) rfl)) ?_
    refine rg_done rfl ?_
    refine a_condF rfl (by rw [bne_eq_false_iff_eq]; omega) ?_
    refine a_skip ?_
    show A _ _ _ _ _ _ _
    refine a_seq ?_
    refine a_rseq ?_
    refine rg_put (d := 4) (v := .d (.fl (.int .i64 0))) rfl (og rfl (op_assign rfl rfl rfl)) ?_
    refine rg_done rfl ?_
    refine a_block ?_
    refine a_loop (ι := Nat) (fun i => SS [(0, .d (.sl 8 (List.map ePsg l))), (3, .d (.sl 8 (List.map ePsg (srt l)))), (10, .d (.fl (.bool ((!(fewP l)))))), (18, .d (.fl (.bool ((((srt l).length : Int) != (l.length : Int)))))), (4, .d (.fl (.int .i64 (i : Int))))] []) (fun i => i ≤ l.length) (fun i => l.length - i) 0 (by omega) (imp_forget rfl ⟨rfl, rfl, rfl, rfl, (by first | rfl | exact ci (by omega) | exact ci (by simp) | exact cd (by simp) | simp), trivial⟩ trivial) (fun i hok => ?_)
    have hi := hok
    refine a_seq ?_
    refine a_rseq ?_
    refine rg_put (d := 19) (v := .d (.fl (.int .i64 (i : Int)))) rfl (og rfl (op_move rfl rfl rfl)) ?_
    refine rg_put (d := 20) (v := .d (.sl 8 (List.map ePsg l))) rfl (og rfl (op_move rfl rfl rfl)) ?_
    refine rg_put (d := 21) (v := .d (.fl (.int .i64 (l.length : Int)))) rfl (og rfl (s_len rfl Tryz.underlying38 rfl rfl)) ?_
    refine rg_put (d := 22) (v := .d (.fl (.bool ((decide ((i : Int) < (l.length : Int))))))) rfl (og rfl (op_bin rfl rfl rfl (b_lss _ _ _ _) rfl)) ?_
    refine rg_done rfl ?_
    refine a_cond rfl (fun h4 => ?_) (fun h4 => ?_)
    · skip
      have h5 := t_dec h4
      refine a_skip ?_
      show A _ _ _ _ _ _ _
      refine a_seq ?_
      refine a_block ?_
      refine a_rseq ?_
      refine rg_put (d := 5) (v := .d (.fl (.int .i64 0))) rfl (og rfl (op_assign rfl rfl rfl)) ?_
      refine rg_put (d := 6) (v := .d (.fl (.int .i64 0))) rfl (og rfl (op_assign rfl rfl rfl)) ?_
      refine rg_done rfl ?_
      refine a_seq ?_
      refine a_rseq ?_
      refine rg_put (d := 7) (v := .d (.fl (.int .i64 0))) rfl (og rfl (op_assign rfl rfl rfl)) ?_
      refine rg_done rfl ?_
      refine a_block ?_
      refine a_loop (ι := Nat) (fun k => SS [(0, .d (.sl 8 (List.map ePsg l))), (3, .d (.sl 8 (List.map ePsg (srt l)))), (4, .d (.fl (.int .i64 (i : Int)))), (10, .d (.fl (.bool ((!(fewP l)))))), (18, .d (.fl (.bool ((((srt l).length : Int) != (l.length : Int)))))), (22, .d (.fl (.bool ((decide ((i : Int) < (l.length : Int))))))), (7, .d (.fl (.int .i64 (k : Int)))), (5, .d (.fl (.int .i64 ((ct (P1 (ix l i) l) k))))), (6, .d (.fl (.int .i64 ((ct (P1 (ix l i) (srt l)) k)))))] []) (fun k => k ≤ l.length) (fun k => l.length - k) 0 (by omega) (imp_forget rfl ⟨rfl, rfl, rfl, rfl, rfl, rfl, (by first | rfl | exact ci (by omega) | exact ci (by simp) | exact cd (by simp) | simp), rfl, rfl, trivial⟩ trivial) (fun k hok => ?_)
      have hk := hok
      have hb1 := ct_in (P1 (ix l i) l) k
      have hb2 := ct_in (P1 (ix l i) (srt l)) k
      refine a_seq ?_
      refine a_rseq ?_
      refine rg_put (d := 25) (v := .d (.fl (.int .i64 (k : Int)))) rfl (og rfl (op_move rfl rfl rfl)) ?_
      refine rg_put (d := 26) (v := .d (.sl 8 (List.map ePsg l))) rfl (og rfl (op_move rfl rfl rfl)) ?_
      refine rg_put (d := 27) (v := .d (.fl (.int .i64 (l.length : Int)))) rfl (og rfl (s_len rfl Tryz.underlying38 rfl rfl)) ?_
      refine rg_put (d := 28) (v := .d (.fl (.bool ((decide ((k : Int) < (l.length : Int))))))) rfl (og rfl (op_bin rfl rfl rfl (b_lss _ _ _ _) rfl)) ?_
      refine rg_done rfl ?_
      refine a_cond rfl (fun h6 => ?_) (fun h6 => ?_)
      · skip
        have h7 := t_dec h6
        refine a_skip ?_
        show A _ _ _ _ _ _ _
        refine a_seq ?_
        refine a_block ?_
        refine a_seq ?_
        refine a_dseq (by kernel_rfl) ?_
        refine dr_put (d := 31) (v := .d (.sl 8 (List.map ePsg l))) rfl (og rfl (op_move rfl rfl rfl)) ?_
        refine dr_put (d := 32) (v := .d (.fl (.int .i64 (i : Int)))) rfl (og rfl (op_move rfl rfl rfl)) ?_
        refine dr_put (d := 33) (v := .el ((ePsg (ix l i)))) rfl (og rfl (s_index rfl Tryz.underlying38 ti24 rfl rfl (by omega) (row_at (by omega)) rfl)) ?_
        refine dr_put (d := 34) (v := .d (.ag (ePsg (ix l i)))) rfl (og rfl (of_eff (s_load_els rfl Tryz.underlying24 rfl ti24 rfl rfl rfl) rfl)) ?_
        refine dr_put (d := 35) (v := .d (.sl 8 (List.map ePsg l))) rfl (og rfl (op_move rfl rfl rfl)) ?_
        refine dr_put (d := 36) (v := .d (.fl (.int .i64 (k : Int)))) rfl (og rfl (op_move rfl rfl rfl)) ?_
        refine dr_put (d := 37) (v := .el ((ePsg (ix l k)))) rfl (og rfl (s_index rfl Tryz.underlying38 ti24 rfl rfl (by omega) (row_at (by omega)) rfl)) ?_
        refine dr_put (d := 38) (v := .d (.ag (ePsg (ix l k)))) rfl (og rfl (of_eff (s_load_els rfl Tryz.underlying24 rfl ti24 rfl rfl rfl) rfl)) ?_
        refine dr_put (d := 39) (v := .d (.fl (.bool ((cp (ix l i) (ix l k) == 0))))) rfl (og rfl (op_call rfl Tryz.func30 nm30 rfl (.cons rfl (.d _) (.cons rfl (.d _) .nil)) (oneR (ix l i) (ix l k) (hsl _ (ix_mem (by omega))) (hsl _ (ix_mem (by omega)))) rfl)) ?_
        refine dr_done rfl (by kernel_rfl) (by kernel_rfl) ?_
        refine a_cond rfl (fun h8 => ?_) (fun h8 => ?_)
        · skip
          have h9 := t_beq h8
          refine a_region ?_
          refine rg_put (d := 40) (v := .d (.fl (.int .i64 ((ct (P1 (ix l i) l) k))))) rfl (og rfl (op_move rfl rfl rfl)) ?_
          refine rg_put (d := 41) (v := .d (.fl (.int .i64 (((ct (P1 (ix l i) l) k) + 1))))) rfl (og rfl (op_bin rfl rfl rfl (fun x y w => b_add64 _ _ _ x y w (by omega)) rfl)) ?_
          refine rg_put (d := 5) (v := .d (.fl (.int .i64 (((ct (P1 (ix l i) l) k) + 1))))) rfl (og rfl (op_assign rfl rfl rfl)) ?_
          refine rg_done rfl ?_
          show A _ _ _ _ _ _ _
          refine a_dseq (by kernel_rfl) ?_
          refine dr_put (d := 42) (v := .d (.sl 8 (List.map ePsg l))) rfl (og rfl (op_move rfl rfl rfl)) ?_
          refine dr_put (d := 43) (v := .d (.fl (.int .i64 (i : Int)))) rfl (og rfl (op_move rfl rfl rfl)) ?_
          refine dr_put (d := 44) (v := .el ((ePsg (ix l i)))) rfl (og rfl (s_index rfl Tryz.underlying38 ti24 rfl rfl (by omega) (row_at (by omega)) rfl)) ?_
          refine dr_put (d := 45) (v := .d (.ag (ePsg (ix l i)))) rfl (og rfl (of_eff (s_load_els rfl Tryz.underlying24 rfl ti24 rfl rfl rfl) rfl)) ?_
          refine dr_put (d := 46) (v := .d (.sl 8 (List.map ePsg (srt l)))) rfl (og rfl (op_move rfl rfl rfl)) ?_
          refine dr_put (d := 47) (v := .d (.fl (.int .i64 (k : Int)))) rfl (og rfl (op_move rfl rfl rfl)) ?_
          refine dr_put (d := 48) (v := .el ((ePsg ((ix (srt l) k))))) rfl (og rfl (s_index rfl Tryz.underlying38 ti24 rfl rfl (by omega) (row_at (by omega)) rfl)) ?_
          refine dr_put (d := 49) (v := .d (.ag (ePsg (((ix (srt l) k)))))) rfl (og rfl (of_eff (s_load_els rfl Tryz.underlying24 rfl ti24 rfl rfl rfl) rfl)) ?_
          refine dr_put (d := 50) (v := .d (.fl (.bool ((cp (ix l i) (((ix (srt l) k))) == 0))))) rfl (og rfl (op_call rfl Tryz.func30 nm30 rfl (.cons rfl (.d _) (.cons rfl (.d _) .nil)) (oneR (ix l i) (((ix (srt l) k))) (hsl _ (ix_mem (by omega))) (hss _ (ix_mem (by omega)))) rfl)) ?_
          refine dr_done rfl (by kernel_rfl) (by kernel_rfl) ?_
          refine a_cond rfl (fun h10 => ?_) (fun h10 => ?_)
          · skip
            have h11 := t_beq h10
            refine a_region ?_
            refine rg_put (d := 51) (v := .d (.fl (.int .i64 ((ct (P1 (ix l i) (srt l)) k))))) rfl (og rfl (op_move rfl rfl rfl)) ?_
            refine rg_put (d := 52) (v := .d (.fl (.int .i64 (((ct (P1 (ix l i) (srt l)) k) + 1))))) rfl (og rfl (op_bin rfl rfl rfl (fun x y w => b_add64 _ _ _ x y w (by omega)) rfl)) ?_
            refine rg_put (d := 6) (v := .d (.fl (.int .i64 (((ct (P1 (ix l i) (srt l)) k) + 1))))) rfl (og rfl (op_assign rfl rfl rfl)) ?_
            refine rg_done rfl ?_
            show A _ _ _ _ _ _ _
            refine a_region ?_
            refine rg_put (d := 29) (v := .d (.fl (.int .i64 (k : Int)))) rfl (og rfl (op_move rfl rfl rfl)) ?_
            refine rg_put (d := 30) (v := .d (.fl (.int .i64 (((k : Int) + 1))))) rfl (og rfl (op_bin rfl rfl rfl (fun x y w => b_add64 _ _ _ x y w (by omega)) rfl)) ?_
            refine rg_put (d := 7) (v := .d (.fl (.int .i64 (((k : Int) + 1))))) rfl (og rfl (op_assign rfl rfl rfl)) ?_
            refine rg_done rfl ?_
            have hc1 := ct_y (p := P1 (ix l i) l) (k := k) h8
            have hc2 := ct_y (p := P1 (ix l i) (srt l)) (k := k) h10
            show ∃ i, _ ∧ _ ∧ Imp _ _ _ _ _
            refine ⟨k + 1, (by omega), by omega, imp_forget rfl ⟨rfl, rfl, rfl, rfl, rfl, rfl, (by first | rfl | exact ci (by omega) | exact ci (by simp) | exact cd (by simp) | simp), (ci (by omega)), (ci (by omega)), trivial⟩ trivial⟩
          · skip
            have h12 := f_beq h10
            refine a_skip ?_
            show A _ _ _ _ _ _ _
            refine a_region ?_
            refine rg_put (d := 29) (v := .d (.fl (.int .i64 (k : Int)))) rfl (og rfl (op_move rfl rfl rfl)) ?_
            refine rg_put (d := 30) (v := .d (.fl (.int .i64 (((k : Int) + 1))))) rfl (og rfl (op_bin rfl rfl rfl (fun x y w => b_add64 _ _ _ x y w (by omega)) rfl)) ?_
            refine rg_put (d := 7) (v := .d (.fl (.int .i64 (((k : Int) + 1))))) rfl (og rfl (op_assign rfl rfl rfl)) ?_
            refine rg_done rfl ?_
            have hc1 := ct_y (p := P1 (ix l i) l) (k := k) h8
            have hc2 := ct_n (p := P1 (ix l i) (srt l)) (k := k) h10
            show ∃ i, _ ∧ _ ∧ Imp _ _ _ _ _
            refine ⟨k + 1, (by omega), by omega, imp_forget rfl ⟨rfl, rfl, rfl, rfl, rfl, rfl, (by first | rfl | exact ci (by omega) | exact ci (by simp) | exact cd (by simp) | simp), (ci (by omega)), (ci (by omega)), trivial⟩ trivial⟩
        · skip
          have h13 := f_beq h8
          refine a_skip ?_
          show A _ _ _ _ _ _ _
          refine a_dseq (by kernel_rfl) ?_
          refine dr_put (d := 42) (v := .d (.sl 8 (List.map ePsg l))) rfl (og rfl (op_move rfl rfl rfl)) ?_
          refine dr_put (d := 43) (v := .d (.fl (.int .i64 (i : Int)))) rfl (og rfl (op_move rfl rfl rfl)) ?_
          refine dr_put (d := 44) (v := .el ((ePsg (ix l i)))) rfl (og rfl (s_index rfl Tryz.underlying38 ti24 rfl rfl (by omega) (row_at (by omega)) rfl)) ?_
          refine dr_put (d := 45) (v := .d (.ag (ePsg (ix l i)))) rfl (og rfl (of_eff (s_load_els rfl Tryz.underlying24 rfl ti24 rfl rfl rfl) rfl)) ?_
          refine dr_put (d := 46) (v := .d (.sl 8 (List.map ePsg (srt l)))) rfl (og rfl (op_move rfl rfl rfl)) ?_
          refine dr_put (d := 47) (v := .d (.fl (.int .i64 (k : Int)))) rfl (og rfl (op_move rfl rfl rfl)) ?_
          refine dr_put (d := 48) (v := .el ((ePsg ((ix (srt l) k))))) rfl (og rfl (s_index rfl Tryz.underlying38 ti24 rfl rfl (by omega) (row_at (by omega)) rfl)) ?_
          refine dr_put (d := 49) (v := .d (.ag (ePsg (((ix (srt l) k)))))) rfl (og rfl (of_eff (s_load_els rfl Tryz.underlying24 rfl ti24 rfl rfl rfl) rfl)) ?_
          refine dr_put (d := 50) (v := .d (.fl (.bool ((cp (ix l i) (((ix (srt l) k))) == 0))))) rfl (og rfl (op_call rfl Tryz.func30 nm30 rfl (.cons rfl (.d _) (.cons rfl (.d _) .nil)) (oneR (ix l i) (((ix (srt l) k))) (hsl _ (ix_mem (by omega))) (hss _ (ix_mem (by omega)))) rfl)) ?_
          refine dr_done rfl (by kernel_rfl) (by kernel_rfl) ?_
          refine a_cond rfl (fun h14 => ?_) (fun h14 => ?_)
          · skip
            have h15 := t_beq h14
            refine a_region ?_
            refine rg_put (d := 51) (v := .d (.fl (.int .i64 ((ct (P1 (ix l i) (srt l)) k))))) rfl (og rfl (op_move rfl rfl rfl)) ?_
            refine rg_put (d := 52) (v := .d (.fl (.int .i64 (((ct (P1 (ix l i) (srt l)) k) + 1))))) rfl (og rfl (op_bin rfl rfl rfl (fun x y w => b_add64 _ _ _ x y w (by omega)) rfl)) ?_
            refine rg_put (d := 6) (v := .d (.fl (.int .i64 (((ct (P1 (ix l i) (srt l)) k) + 1))))) rfl (og rfl (op_assign rfl rfl rfl)) ?_
            refine rg_done rfl ?_
            show A _ _ _ _ _ _ _
            refine a_region ?_
            refine rg_put (d := 29) (v := .d (.fl (.int .i64 (k : Int)))) rfl (og rfl (op_move rfl rfl rfl)) ?_
            refine rg_put (d := 30) (v := .d (.fl (.int .i64 (((k : Int) + 1))))) rfl (og rfl (op_bin rfl rfl rfl (fun x y w => b_add64 _ _ _ x y w (by omega)) rfl)) ?_
            refine rg_put (d := 7) (v := .d (.fl (.int .i64 (((k : Int) + 1))))) rfl (og rfl (op_assign rfl rfl rfl)) ?_
            refine rg_done rfl ?_
            have hc1 := ct_n (p := P1 (ix l i) l) (k := k) h8
            have hc2 := ct_y (p := P1 (ix l i) (srt l)) (k := k) h14
            show ∃ i, _ ∧ _ ∧ Imp _ _ _ _ _
            refine ⟨k + 1, (by omega), by omega, imp_forget rfl ⟨rfl, rfl, rfl, rfl, rfl, rfl, (by first | rfl | exact ci (by omega) | exact ci (by simp) | exact cd (by simp) | simp), (ci (by omega)), (ci (by omega)), trivial⟩ trivial⟩
          · skip
            have h16 := f_beq h14
            refine a_skip ?_
            show A _ _ _ _ _ _ _
            refine a_region ?_
            refine rg_put (d := 29) (v := .d (.fl (.int .i64 (k : Int)))) rfl (og rfl (op_move rfl rfl rfl)) ?_
            refine rg_put (d := 30) (v := .d (.fl (.int .i64 (((k : Int) + 1))))) rfl (og rfl (op_bin rfl rfl rfl (fun x y w => b_add64 _ _ _ x y w (by omega)) rfl)) ?_
            refine rg_put (d := 7) (v := .d (.fl (.int .i64 (((k : Int) + 1))))) rfl (og rfl (op_assign rfl rfl rfl)) ?_
            refine rg_done rfl ?_
            have hc1 := ct_n (p := P1 (ix l i) l) (k := k) h8
            have hc2 := ct_n (p := P1 (ix l i) (srt l)) (k := k) h14
            show ∃ i, _ ∧ _ ∧ Imp _ _ _ _ _
            refine ⟨k + 1, (by omega), by omega, imp_forget rfl ⟨rfl, rfl, rfl, rfl, rfl, rfl, (by first | rfl | exact ci (by omega) | exact ci (by simp) | exact cd (by simp) | simp), (ci (by omega)), (ci (by omega)), trivial⟩ trivial⟩
      · skip
        have h17 := f_dec h6
        refine a_exit ?_
        show A _ _ _ _ _ _ _
        refine a_dseq (by kernel_rfl) ?_
        have hkl : k = l.length := by omega
        rw [show (ct (P1 (ix l i) (srt l)) k) = (ct (P1 (ix l i) l) k) from (by rw [hkl]; exact (P1_perm (ix l i) (srt_perm l).symm).symm)]
        refine dr_put (d := 53) (v := .d (.fl (.int .i64 ((ct (P1 (ix l i) l) k))))) rfl (og rfl (op_move rfl rfl rfl)) ?_
        refine dr_put (d := 54) (v := .d (.fl (.int .i64 ((ct (P1 (ix l i) l) k))))) rfl (og rfl (op_move rfl rfl rfl)) ?_
        refine dr_put (d := 55) (v := .d (.fl (.bool (((ct (P1 (ix l i) l) k) != (ct (P1 (ix l i) l) k)))))) rfl (og rfl (op_bin rfl rfl rfl (b_neq _ _ _ _) rfl)) ?_
        refine dr_put (d := 56) (v := .d (.fl (.bool (((ct (P1 (ix l i) l) k) != (ct (P1 (ix l i) l) k)))))) rfl (og rfl (op_move rfl rfl rfl)) ?_
        refine dr_put (d := 57) (v := .d (.fl (.int .i64 (i : Int)))) rfl (oy rfl rfl rfl (ne_self_b _) (op_move rfl rfl rfl)) ?_
        refine dr_put (d := 58) (v := .d (.fl (.bool ((decide (0 < (i : Int))))))) rfl (oy rfl rfl rfl (ne_self_b _) (op_bin rfl rfl rfl (b_gtr _ _ _ _) rfl)) ?_
        refine dr_put (d := 59) (v := .d (.fl (.bool ((decide (0 < (i : Int))))))) rfl (oy rfl rfl rfl (ne_self_b _) (op_move rfl rfl rfl)) ?_
        rcases fot ((decide (0 < (i : Int)))) with h18 | h18
        · skip
          have h19 := f_dec h18
          refine dr_put (d := 60) (v := .d (.fl undef)) rfl (on rfl rfl rfl h18) ?_
          refine dr_put (d := 61) (v := .d (.fl undef)) rfl (on rfl rfl rfl h18) ?_
          refine dr_put (d := 62) (v := .d (.fl undef)) rfl (on rfl rfl rfl h18) ?_
          refine dr_put (d := 63) (v := .d (.fl undef)) rfl (on rfl rfl rfl h18) ?_
          refine dr_put (d := 64) (v := .d (.fl undef)) rfl (on rfl rfl rfl h18) ?_
          refine dr_put (d := 65) (v := .d (.fl undef)) rfl (on rfl rfl rfl h18) ?_
          refine dr_put (d := 66) (v := .d (.fl undef)) rfl (on rfl rfl rfl h18) ?_
          refine dr_put (d := 67) (v := .d (.fl undef)) rfl (on rfl rfl rfl h18) ?_
          refine dr_put (d := 68) (v := .d (.fl undef)) rfl (on rfl rfl rfl h18) ?_
          refine dr_put (d := 69) (v := .d (.fl undef)) rfl (on rfl rfl rfl h18) ?_
          refine dr_put (d := 70) (v := .d (.fl undef)) rfl (on rfl rfl rfl h18) ?_
          refine dr_put (d := 71) (v := .d (.fl (.bool false))) rfl (oy rfl rfl rfl (ne_self_b _) (op_pick rfl rfl (by rw [h18]; rfl) rfl)) ?_
          refine dr_put (d := 72) (v := .d (.fl (.bool false))) rfl (og rfl (op_pick rfl rfl (by rw [(ne_self_b _)]; rfl) rfl)) ?_
          refine dr_done rfl (sepB_of [0, 0, 3, 7, 15, 31, 63, 127, 127, 383, 1023, 2047, 127, 127, 12415, 28799, 65535, 131071, 262143, 524287] (by kernel_rfl)) (by kernel_rfl) ?_
          refine a_condF rfl rfl ?_
          refine a_skip ?_
          show A _ _ _ _ _ _ _
          refine a_region ?_
          refine rg_put (d := 23) (v := .d (.fl (.int .i64 (i : Int)))) rfl (og rfl (op_move rfl rfl rfl)) ?_
          refine rg_put (d := 24) (v := .d (.fl (.int .i64 (((i : Int) + 1))))) rfl (og rfl (op_bin rfl rfl rfl (fun x y w => b_add64 _ _ _ x y w (by omega)) rfl)) ?_
          refine rg_put (d := 4) (v := .d (.fl (.int .i64 (((i : Int) + 1))))) rfl (og rfl (op_assign rfl rfl rfl)) ?_
          refine rg_done rfl ?_
          show ∃ i, _ ∧ _ ∧ Imp _ _ _ _ _
          refine ⟨i + 1, (by omega), by omega, imp_forget rfl ⟨rfl, rfl, rfl, rfl, (by first | rfl | exact ci (by omega) | exact ci (by simp) | exact cd (by simp) | simp), trivial⟩ trivial⟩
        · skip
          have h20 := t_dec h18
          refine dr_put (d := 60) (v := .d (.sl 8 (List.map ePsg (srt l)))) rfl (oy rfl rfl rfl h18 (op_move rfl rfl rfl)) ?_
          refine dr_put (d := 61) (v := .d (.fl (.int .i64 (i : Int)))) rfl (oy rfl rfl rfl h18 (op_move rfl rfl rfl)) ?_
          refine dr_put (d := 62) (v := .d (.fl (.int .i64 (((i : Int) - 1))))) rfl (oy rfl rfl rfl h18 (op_bin rfl rfl rfl (fun x y w => b_sub64 _ _ _ x y w (by omega)) rfl)) ?_
          refine dr_put (d := 63) (v := .el ((ePsg ((ix (srt l) (((i : Int) - 1)).toNat))))) rfl (oy rfl rfl rfl h18 (s_index rfl Tryz.underlying38 ti24 rfl rfl (by omega) (row_atI (by omega) (by omega)) rfl)) ?_
          refine dr_put (d := 64) (v := .d (.ag (ePsg (((ix (srt l) (((i : Int) - 1)).toNat)))))) rfl (oy rfl rfl rfl h18 (of_eff (s_load_els rfl Tryz.underlying24 rfl ti24 rfl rfl rfl) rfl)) ?_
          refine dr_put (d := 65) (v := .d (.sl 8 (List.map ePsg (srt l)))) rfl (oy rfl rfl rfl h18 (op_move rfl rfl rfl)) ?_
          refine dr_put (d := 66) (v := .d (.fl (.int .i64 (i : Int)))) rfl (oy rfl rfl rfl h18 (op_move rfl rfl rfl)) ?_
          refine dr_put (d := 67) (v := .el ((ePsg ((ix (srt l) i))))) rfl (oy rfl rfl rfl h18 (s_index rfl Tryz.underlying38 ti24 rfl rfl (by omega) (row_at (by omega)) rfl)) ?_
          refine dr_put (d := 68) (v := .d (.ag (ePsg (((ix (srt l) i)))))) rfl (oy rfl rfl rfl h18 (of_eff (s_load_els rfl Tryz.underlying24 rfl ti24 rfl rfl rfl) rfl)) ?_
          refine dr_put (d := 69) (v := .d (.fl (.int .i64 ((cp (((ix (srt l) (((i : Int) - 1)).toNat))) (((ix (srt l) i)))))))) rfl (oy rfl rfl rfl h18 (op_call rfl Tryz.func31 nm31 rfl (.cons rfl (.d _) (.cons rfl (.d _) .nil)) (cpR (((ix (srt l) (((i : Int) - 1)).toNat))) (((ix (srt l) i))) (hss _ (ix_mem (by omega))) (hss _ (ix_mem (by omega)))) rfl)) ?_
          refine dr_put (d := 70) (v := .d (.fl (.bool ((decide (0 < (cp (((ix (srt l) (((i : Int) - 1)).toNat))) (((ix (srt l) i)))))))))) rfl (oy rfl rfl rfl h18 (op_bin rfl rfl rfl (b_gtr _ _ _ _) rfl)) ?_
          refine dr_put (d := 71) (v := .d (.fl (.bool ((decide (0 < (cp (((ix (srt l) (((i : Int) - 1)).toNat))) (((ix (srt l) i)))))))))) rfl (oy rfl rfl rfl (ne_self_b _) (op_pick rfl rfl (by rw [h18]; rfl) rfl)) ?_
          refine dr_put (d := 72) (v := .d (.fl (.bool ((decide (0 < (cp (((ix (srt l) (((i : Int) - 1)).toNat))) (((ix (srt l) i)))))))))) rfl (og rfl (op_pick rfl rfl (by rw [(ne_self_b _)]; rfl) rfl)) ?_
          refine dr_done rfl (sepB_of [0, 0, 3, 7, 15, 31, 63, 127, 127, 383, 1023, 2047, 127, 127, 12415, 28799, 65535, 131071, 262143, 524287] (by kernel_rfl)) (by kernel_rfl) ?_
          refine a_condF rfl (decide_eq_false (by have := hso ((i : Int) - 1).toNat i (by omega) (by omega); omega)) ?_
          refine a_skip ?_
          show A _ _ _ _ _ _ _
          refine a_region ?_
          refine rg_put (d := 23) (v := .d (.fl (.int .i64 (i : Int)))) rfl (og rfl (op_move rfl rfl rfl)) ?_
          refine rg_put (d := 24) (v := .d (.fl (.int .i64 (((i : Int) + 1))))) rfl (og rfl (op_bin rfl rfl rfl (fun x y w => b_add64 _ _ _ x y w (by omega)) rfl)) ?_
          refine rg_put (d := 4) (v := .d (.fl (.int .i64 (((i : Int) + 1))))) rfl (og rfl (op_assign rfl rfl rfl)) ?_
          refine rg_done rfl ?_
          show ∃ i, _ ∧ _ ∧ Imp _ _ _ _ _
          refine ⟨i + 1, (by omega), by omega, imp_forget rfl ⟨rfl, rfl, rfl, rfl, (by first | rfl | exact ci (by omega) | exact ci (by simp) | exact cd (by simp) | simp), trivial⟩ trivial⟩
    · skip
      have h21 := f_dec h4
      refine a_exit ?_
      show A _ _ _ _ _ _ _
      refine a_rseq ?_
      refine rg_put (d := 73) (v := .d (.fl (.bool true))) rfl (og rfl (op_call rfl Tryz.func12 nm12 rfl .nil aliveT rfl)) ?_
      refine rg_put (d := 2) (v := .d (.fl (.bool true))) rfl (og rfl (op_assign rfl rfl rfl)) ?_
      refine rg_done rfl ?_
      refine a_ret ?_
      show ∃ ds, ResL _ _ _ ds ∧ RV.of ds = _
      refine ⟨[.fl (.bool true)], (.cons (.tmp rfl (.d _)) .nil), ?_⟩
      rfl
end Go.Proofs.YtakmjlpciicaiaaGreatDoor.Wk
