/- The sorts of events, both sides. Conditions: as each theorem names them. -/
import Derived.Test.YtafookkclkgmlaaGreatDoorAvW
import Derived.Test.YtafookkclkgmlaaGreatDoorD1
set_option linter.unusedSimpArgs false
set_option linter.unusedVariables false
namespace Go.Proofs.YtafookkclkgmlaaGreatDoor.Wk
open Go Go.RowKit Go.Sort Go.Shelf Go.Lib Go.Proofs.YtafookkclkgmlaaGreatDoor.Av
set_option maxHeartbeats 4000000 in
set_option maxRecDepth 100000 in
theorem cloP (l : List Prk) (hl : l.length ≤ 1000) : CtrO Tryz.prog 36 [.sl 5 (List.map ePrk l)] (.tr 23 5 (tD ePrk l)) := by
  refine ctrO (n := 8) (rs := #[.tmp 2]) (L := [(0, .d (.sl 5 (List.map ePrk l)))]) Tryz.func36 rfl rfl rfl rfl rfl (fun w0 U0 => ?_)
  refine a_rseq ?_
  refine rg_put (d := 2) (v := .d (.fl (.slice none 0 0))) rfl (og rfl (op_assign rfl rfl rfl)) ?_
  refine rg_done rfl ?_
  refine a_seq ?_
  refine a_rseq ?_
  refine rg_put (d := 3) (v := .d (.sl 5 (List.map ePrk l))) rfl (og rfl (op_move rfl rfl rfl)) ?_
  refine rg_isnil rfl rfl rfl Tryz.underlying33 rfl rfl rfl (fun bh1 nh1 => ?_)
  refine rg_done rfl ?_
  refine a_cond rfl (fun h2 => ?_) (fun h2 => ?_)
  · skip
    refine a_rseq ?_
    refine rg_put (d := 2) (v := .d (.fl (.slice none 0 0))) rfl (og rfl (op_assign rfl rfl rfl)) ?_
    refine rg_done rfl ?_
    have hnil : l = [] := by simpa using nh1 h2
    subst hnil
    refine a_imp (imp_nilT 2 101 23 5 rfl rfl) ?_
    refine a_ret ?_
    show ∃ rv, _ = #[rv] ∧ ResO _ _ rv _
    exact ⟨_, rfl, .tmp rfl rfl⟩
  · skip
    refine a_skip ?_
    show A _ _ _ _ _ _ _
    refine a_rseq ?_
    refine rg_nam (d := 5) (v := .ow 102) (m := 102) (nw := [(102, .tr 23 5 (tD ePrk []))]) rfl (og rfl (of_eff (op_slice0 102 rfl Tryz.underlying33 ti23 rfl) rfl)) rfl ?_
    refine rg_put (d := 6) (v := .d (.sl 5 (List.map ePrk l))) rfl (og rfl (op_move rfl rfl rfl)) ?_
    refine rg_nam (d := 7) (v := .ow 103) (m := 103) (nw := [(103, .tr 23 5 (tD ePrk ([] ++ l))), (102, .no)]) rfl (og rfl (of_eff (s_append_td 103 rfl Tryz.underlying33 ti23 rfl rfl rfl rfl rfl (.d _) (by simp only [List.length_nil]; omega) rfl) rfl)) rfl ?_
    refine rg_put (d := 2) (v := .ow 103) rfl (og rfl (op_assign rfl rfl rfl)) ?_
    refine rg_done rfl ?_
    refine a_ret ?_
    show ∃ rv, _ = #[rv] ∧ ResO _ _ rv _
    exact ⟨_, rfl, .tmp rfl rfl⟩
set_option maxHeartbeats 4000000 in
set_option maxRecDepth 100000 in
theorem cptT (l : List Prk) (hl : l.length ≤ 1000) : CtrT Tryz.prog 42 23 5 (tD ePrk l) [] (tD ePrk (dd l l.length)) := by
  refine ctrT (n := 61) (t := 2) (L := []) Tryz.func42 rfl rfl rfl rfl rfl (fun w0 U0 H0 V0 Q0 => ?_)
  refine a_rseq ?_
  refine rg_put (d := 2) (v := .d (.fl (.slice none 0 0))) rfl (og rfl (op_assign rfl rfl rfl)) ?_
  refine rg_done rfl ?_
  refine a_seq ?_
  refine a_rseq ?_
  refine rg_put (d := 6) (v := .ow 0) rfl (og rfl (op_move rfl rfl rfl)) ?_
  refine rg_put (d := 7) (v := .d (.fl (.int .i64 (((l).length : Int))))) rfl (og rfl (op_len_tr rfl Tryz.underlying33 rfl rfl tD_len rfl)) ?_
  refine rg_put (d := 8) (v := .d (.fl (.bool ((decide (((l).length : Int) < 2)))))) rfl (og rfl (op_bin rfl rfl rfl (b_lss _ _ _ _) rfl)) ?_
  refine rg_done rfl ?_
  refine a_cond rfl (fun h1 => ?_) (fun h1 => ?_)
  · skip
    have h2 := t_dec h1
    refine a_rseq ?_
    refine rg_put (d := 9) (v := .ow 0) rfl (og rfl (op_move rfl rfl rfl)) ?_
    refine rg_put (d := 2) (v := .ow 0) rfl (og rfl (op_assign rfl rfl rfl)) ?_
    refine rg_done rfl ?_
    refine a_ret ?_
    show ∃ m, _ ∧ _ ∧ _ ∧ _
    rw [show dd l l.length = l from (dd_all l.length (Nat.le_refl _) (fun q h1 h2 => by omega)).trans (List.take_of_length_le (Nat.le_refl _))]
    exact ⟨0, by decide, rfl, rfl, rfl⟩
  · skip
    have h3 := f_dec h1
    refine a_skip ?_
    show A _ _ _ _ _ _ _
    refine a_seq ?_
    refine a_rseq ?_
    refine rg_put (d := 3) (v := .d (.fl (.int .i64 1))) rfl (og rfl (op_assign rfl rfl rfl)) ?_
    refine rg_done rfl ?_
    refine a_block ?_
    refine a_loop (ι := Nat) (fun k => SS [(0, .ow 0), (8, .d (.fl (.bool ((decide (((l).length : Int) < 2)))))), (3, .d (.fl (.int .i64 (k : Int))))] [(0, .tr 23 5 (tD ePrk l)), (1, .pin H0 V0 Q0)]) (fun k => 1 ≤ k ∧ k ≤ l.length ∧ ∀ q, 1 ≤ q → q < k → (cp (ix l q) (ix l (q - 1)) == 0) = false) (fun k => l.length - k) 1 (⟨by omega, by omega, fun q h1 h2 => by omega⟩) (imp_forget rfl ⟨rfl, rfl, rfl, trivial⟩ ⟨rfl, rfl, trivial⟩) (fun k hok => ?_)
    obtain ⟨hk1, hk, hq⟩ := hok
    refine a_seq ?_
    refine a_rseq ?_
    refine rg_put (d := 10) (v := .d (.fl (.int .i64 (k : Int)))) rfl (og rfl (op_move rfl rfl rfl)) ?_
    refine rg_put (d := 11) (v := .ow 0) rfl (og rfl (op_move rfl rfl rfl)) ?_
    refine rg_put (d := 12) (v := .d (.fl (.int .i64 (((l).length : Int))))) rfl (og rfl (op_len_tr rfl Tryz.underlying33 rfl rfl tD_len rfl)) ?_
    refine rg_put (d := 13) (v := .d (.fl (.bool ((decide ((k : Int) < ((l).length : Int))))))) rfl (og rfl (op_bin rfl rfl rfl (b_lss _ _ _ _) rfl)) ?_
    refine rg_done rfl ?_
    refine a_cond rfl (fun h4 => ?_) (fun h4 => ?_)
    · skip
      have h5 := t_dec h4
      refine a_skip ?_
      show A _ _ _ _ _ _ _
      refine a_seq ?_
      refine a_block ?_
      refine a_dseq (by kernel_rfl) ?_
      refine dr_put (d := 16) (v := .ow 0) rfl (og rfl (op_move rfl rfl rfl)) ?_
      refine dr_put (d := 17) (v := .d (.fl (.int .i64 (k : Int)))) rfl (og rfl (op_move rfl rfl rfl)) ?_
      refine dr_put (d := 18) (v := .pe 0 5 k 0) rfl (og rfl (op_index_tr rfl Tryz.underlying33 ti23 rfl rfl rfl (get_lt (tD_at (by omega))) rfl)) ?_
      refine dr_put (d := 19) (v := .d (.ag (ePrk (ix l k)))) rfl (og rfl (of_eff (op_load_pes rfl Tryz.underlying23 rfl ti23 rfl rfl (tD_at (by omega)) rfl rfl rfl) rfl)) ?_
      refine dr_put (d := 20) (v := .ow 0) rfl (og rfl (op_move rfl rfl rfl)) ?_
      refine dr_put (d := 21) (v := .d (.fl (.int .i64 (k : Int)))) rfl (og rfl (op_move rfl rfl rfl)) ?_
      refine dr_put (d := 22) (v := .d (.fl (.int .i64 (((k : Int) - 1))))) rfl (og rfl (op_bin rfl rfl rfl (fun x y w => b_sub64 _ _ _ x y w (by omega)) rfl)) ?_
      refine dr_put (d := 23) (v := .pe 0 5 ((((k : Int) - 1)).toNat) 0) rfl (og rfl (op_index_trI rfl Tryz.underlying33 ti23 rfl rfl rfl (by omega) (get_lt (tD_at (by omega))) rfl)) ?_
      refine dr_put (d := 24) (v := .d (.ag (ePrk ((Prk.mk (((ix l ((((k : Int) - 1)).toNat))).kind) (((ix l ((((k : Int) - 1)).toNat))).zone) (((ix l ((((k : Int) - 1)).toNat))).plate) (((ix l ((((k : Int) - 1)).toNat))).time) (((ix l ((((k : Int) - 1)).toNat))).till)))))) rfl (og rfl (of_eff (op_load_pes rfl Tryz.underlying23 rfl ti23 rfl rfl (tD_at (by omega)) rfl rfl rfl) rfl)) ?_
      refine dr_put (d := 25) (v := .d (.fl (.bool ((cp (ix l k) ((ix l ((((k : Int) - 1)).toNat))) == 0))))) rfl (og rfl (op_eqS [.int .i64 ((ix l k).kind), .string ((ix l k).zone), .string ((ix l k).plate), .int .i64 ((ix l k).time), .int .i64 ((ix l k).till)] [.int .i64 (((Prk.mk (((ix l ((((k : Int) - 1)).toNat))).kind) (((ix l ((((k : Int) - 1)).toNat))).zone) (((ix l ((((k : Int) - 1)).toNat))).plate) (((ix l ((((k : Int) - 1)).toNat))).time) (((ix l ((((k : Int) - 1)).toNat))).till))).kind), .string (((Prk.mk (((ix l ((((k : Int) - 1)).toNat))).kind) (((ix l ((((k : Int) - 1)).toNat))).zone) (((ix l ((((k : Int) - 1)).toNat))).plate) (((ix l ((((k : Int) - 1)).toNat))).time) (((ix l ((((k : Int) - 1)).toNat))).till))).zone), .string (((Prk.mk (((ix l ((((k : Int) - 1)).toNat))).kind) (((ix l ((((k : Int) - 1)).toNat))).zone) (((ix l ((((k : Int) - 1)).toNat))).plate) (((ix l ((((k : Int) - 1)).toNat))).time) (((ix l ((((k : Int) - 1)).toNat))).till))).plate), .int .i64 (((Prk.mk (((ix l ((((k : Int) - 1)).toNat))).kind) (((ix l ((((k : Int) - 1)).toNat))).zone) (((ix l ((((k : Int) - 1)).toNat))).plate) (((ix l ((((k : Int) - 1)).toNat))).time) (((ix l ((((k : Int) - 1)).toNat))).till))).time), .int .i64 (((Prk.mk (((ix l ((((k : Int) - 1)).toNat))).kind) (((ix l ((((k : Int) - 1)).toNat))).zone) (((ix l ((((k : Int) - 1)).toNat))).plate) (((ix l ((((k : Int) - 1)).toNat))).time) (((ix l ((((k : Int) - 1)).toNat))).till))).till)] rfl rfl rfl (b := (cp (ix l k) ((ix l ((((k : Int) - 1)).toNat))) == 0)) (fun ww => eqlC (ix l k) ((ix l ((((k : Int) - 1)).toNat))) _ _ ww) rfl)) ?_
      refine dr_done rfl (by kernel_rfl) (by kernel_rfl) ?_
      refine a_cond rfl (fun h6 => ?_) (fun h6 => ?_)
      · skip
        have h7 := t_beq h6
        refine a_rseq ?_
        refine rg_put (d := 26) (v := .ow 0) rfl (og rfl (op_move rfl rfl rfl)) ?_
        refine rg_put (d := 27) (v := .d (.fl (.int .i64 (k : Int)))) rfl (og rfl (op_move rfl rfl rfl)) ?_
        refine rg_put (d := 28) (v := .wn 0 k 5) rfl (og rfl (op_winD rfl Tryz.underlying33 ti23 rfl rfl rfl (k := k) (by omega) (by omega) rfl)) ?_
        refine rg_put (d := 4) (v := .wn 0 k 5) rfl (og rfl (op_assign rfl rfl rfl)) ?_
        refine rg_done rfl ?_
        refine a_seq ?_
        refine a_rseq ?_
        refine rg_put (d := 5) (v := .d (.fl (.int .i64 1))) rfl (og rfl (op_assign rfl rfl rfl)) ?_
        refine rg_done rfl ?_
        refine a_block ?_
        have hxk : (cp (ix l k) (ix l (k - 1)) == 0) = true := by have h := h6; rwa [show ((k : Int) - 1).toNat = k - 1 by omega] at h
        obtain ⟨hr1, hr2⟩ := rwD_start hk1 (by omega) hq hxk
        refine a_loop (ι := Nat) (fun j => SS [(0, .ow 0), (4, .wn 0 k 5), (8, .d (.fl (.bool ((decide (((l).length : Int) < 2)))))), (13, .d (.fl (.bool ((decide ((k : Int) < ((l).length : Int))))))), (25, .d (.fl (.bool ((cp (ix l k) ((ix l ((((k : Int) - 1)).toNat))) == 0))))), (5, .d (.fl (.int .i64 (j : Int)))), (3, .d (.fl (.int .i64 (((dd l (k + j)).length : Int)))))] [(1, .pin H0 V0 Q0), (0, .tr 23 5 (tD ePrk ((rwD l (k + j)))))]) (fun j => 1 ≤ j ∧ k + j ≤ l.length ∧ (dd l (k + j)).length + 1 ≤ k + j) (fun j => l.length - (k + j)) 1 (⟨by omega, by omega, by omega⟩) (imp_forget rfl ⟨rfl, rfl, rfl, rfl, rfl, rfl, (ci (by omega)), trivial⟩ ⟨rfl, (congrArg (fun z => Ob.tr 23 5 (tD ePrk z)) hr1.symm), trivial⟩) (fun j hok => ?_)
        obtain ⟨hj1, hjl, hdl0⟩ := hok
        have hrl := rwD_len hjl
        have hp := dd_pos l (k + j) (by omega)
        refine a_seq ?_
        refine a_rseq ?_
        refine rg_put (d := 29) (v := .d (.fl (.int .i64 (j : Int)))) rfl (og rfl (op_move rfl rfl rfl)) ?_
        refine rg_put (d := 30) (v := .wn 0 k 5) rfl (og rfl (op_move rfl rfl rfl)) ?_
        refine rg_put (d := 31) (v := .d (.fl (.int .i64 (((((rwD l (k + j))).length : Int) - (k : Int)))))) rfl (og rfl (op_len_wnD rfl Tryz.underlying33 rfl rfl (by omega) rfl)) ?_
        refine rg_put (d := 32) (v := .d (.fl (.bool ((decide ((j : Int) < ((((rwD l (k + j))).length : Int) - (k : Int)))))))) rfl (og rfl (op_bin rfl rfl rfl (b_lss _ _ _ _) rfl)) ?_
        refine rg_done rfl ?_
        refine a_cond rfl (fun h8 => ?_) (fun h8 => ?_)
        · skip
          have h9 := t_dec h8
          refine a_skip ?_
          show A _ _ _ _ _ _ _
          refine a_seq ?_
          refine a_block ?_
          refine a_dseq (by kernel_rfl) ?_
          refine dr_put (d := 35) (v := .wn 0 k 5) rfl (og rfl (op_move rfl rfl rfl)) ?_
          refine dr_put (d := 36) (v := .d (.fl (.int .i64 (j : Int)))) rfl (og rfl (op_move rfl rfl rfl)) ?_
          refine dr_put (d := 37) (v := .pe 0 5 (k + j) 0) rfl (og rfl (op_index_wnD rfl Tryz.underlying33 ti23 rfl rfl rfl (j := j) (by omega) (by omega) rfl)) ?_
          refine dr_put (d := 38) (v := .d (.ag (ePrk ((Prk.mk (((ix ((rwD l (k + j))) (k + j))).kind) (((ix ((rwD l (k + j))) (k + j))).zone) (((ix ((rwD l (k + j))) (k + j))).plate) (((ix ((rwD l (k + j))) (k + j))).time) (((ix ((rwD l (k + j))) (k + j))).till)))))) rfl (og rfl (of_eff (op_load_pes rfl Tryz.underlying23 rfl ti23 rfl rfl (tD_at (by omega)) rfl rfl rfl) rfl)) ?_
          refine dr_put (d := 39) (v := .wn 0 k 5) rfl (og rfl (op_move rfl rfl rfl)) ?_
          refine dr_put (d := 40) (v := .d (.fl (.int .i64 (j : Int)))) rfl (og rfl (op_move rfl rfl rfl)) ?_
          refine dr_put (d := 41) (v := .d (.fl (.int .i64 (((j : Int) - 1))))) rfl (og rfl (op_bin rfl rfl rfl (fun x y w => b_sub64 _ _ _ x y w (by omega)) rfl)) ?_
          refine dr_put (d := 42) (v := .pe 0 5 ((k + (((j : Int) - 1)).toNat)) 0) rfl (og rfl (op_index_wnD rfl Tryz.underlying33 ti23 rfl rfl rfl (j := (((j : Int) - 1)).toNat) (by omega) (by omega) rfl)) ?_
          refine dr_put (d := 43) (v := .d (.ag (ePrk ((Prk.mk (((ix ((rwD l (k + j))) ((k + (((j : Int) - 1)).toNat)))).kind) (((ix ((rwD l (k + j))) ((k + (((j : Int) - 1)).toNat)))).zone) (((ix ((rwD l (k + j))) ((k + (((j : Int) - 1)).toNat)))).plate) (((ix ((rwD l (k + j))) ((k + (((j : Int) - 1)).toNat)))).time) (((ix ((rwD l (k + j))) ((k + (((j : Int) - 1)).toNat)))).till)))))) rfl (og rfl (of_eff (op_load_pes rfl Tryz.underlying23 rfl ti23 rfl rfl (tD_at (by omega)) rfl rfl rfl) rfl)) ?_
          refine dr_put (d := 44) (v := .d (.fl (.bool ((!(cp ((ix ((rwD l (k + j))) (k + j))) ((ix ((rwD l (k + j))) ((k + (((j : Int) - 1)).toNat)))) == 0)))))) rfl (og rfl (op_eqS [.int .i64 (((Prk.mk (((ix ((rwD l (k + j))) (k + j))).kind) (((ix ((rwD l (k + j))) (k + j))).zone) (((ix ((rwD l (k + j))) (k + j))).plate) (((ix ((rwD l (k + j))) (k + j))).time) (((ix ((rwD l (k + j))) (k + j))).till))).kind), .string (((Prk.mk (((ix ((rwD l (k + j))) (k + j))).kind) (((ix ((rwD l (k + j))) (k + j))).zone) (((ix ((rwD l (k + j))) (k + j))).plate) (((ix ((rwD l (k + j))) (k + j))).time) (((ix ((rwD l (k + j))) (k + j))).till))).zone), .string (((Prk.mk (((ix ((rwD l (k + j))) (k + j))).kind) (((ix ((rwD l (k + j))) (k + j))).zone) (((ix ((rwD l (k + j))) (k + j))).plate) (((ix ((rwD l (k + j))) (k + j))).time) (((ix ((rwD l (k + j))) (k + j))).till))).plate), .int .i64 (((Prk.mk (((ix ((rwD l (k + j))) (k + j))).kind) (((ix ((rwD l (k + j))) (k + j))).zone) (((ix ((rwD l (k + j))) (k + j))).plate) (((ix ((rwD l (k + j))) (k + j))).time) (((ix ((rwD l (k + j))) (k + j))).till))).time), .int .i64 (((Prk.mk (((ix ((rwD l (k + j))) (k + j))).kind) (((ix ((rwD l (k + j))) (k + j))).zone) (((ix ((rwD l (k + j))) (k + j))).plate) (((ix ((rwD l (k + j))) (k + j))).time) (((ix ((rwD l (k + j))) (k + j))).till))).till)] [.int .i64 (((Prk.mk (((ix ((rwD l (k + j))) ((k + (((j : Int) - 1)).toNat)))).kind) (((ix ((rwD l (k + j))) ((k + (((j : Int) - 1)).toNat)))).zone) (((ix ((rwD l (k + j))) ((k + (((j : Int) - 1)).toNat)))).plate) (((ix ((rwD l (k + j))) ((k + (((j : Int) - 1)).toNat)))).time) (((ix ((rwD l (k + j))) ((k + (((j : Int) - 1)).toNat)))).till))).kind), .string (((Prk.mk (((ix ((rwD l (k + j))) ((k + (((j : Int) - 1)).toNat)))).kind) (((ix ((rwD l (k + j))) ((k + (((j : Int) - 1)).toNat)))).zone) (((ix ((rwD l (k + j))) ((k + (((j : Int) - 1)).toNat)))).plate) (((ix ((rwD l (k + j))) ((k + (((j : Int) - 1)).toNat)))).time) (((ix ((rwD l (k + j))) ((k + (((j : Int) - 1)).toNat)))).till))).zone), .string (((Prk.mk (((ix ((rwD l (k + j))) ((k + (((j : Int) - 1)).toNat)))).kind) (((ix ((rwD l (k + j))) ((k + (((j : Int) - 1)).toNat)))).zone) (((ix ((rwD l (k + j))) ((k + (((j : Int) - 1)).toNat)))).plate) (((ix ((rwD l (k + j))) ((k + (((j : Int) - 1)).toNat)))).time) (((ix ((rwD l (k + j))) ((k + (((j : Int) - 1)).toNat)))).till))).plate), .int .i64 (((Prk.mk (((ix ((rwD l (k + j))) ((k + (((j : Int) - 1)).toNat)))).kind) (((ix ((rwD l (k + j))) ((k + (((j : Int) - 1)).toNat)))).zone) (((ix ((rwD l (k + j))) ((k + (((j : Int) - 1)).toNat)))).plate) (((ix ((rwD l (k + j))) ((k + (((j : Int) - 1)).toNat)))).time) (((ix ((rwD l (k + j))) ((k + (((j : Int) - 1)).toNat)))).till))).time), .int .i64 (((Prk.mk (((ix ((rwD l (k + j))) ((k + (((j : Int) - 1)).toNat)))).kind) (((ix ((rwD l (k + j))) ((k + (((j : Int) - 1)).toNat)))).zone) (((ix ((rwD l (k + j))) ((k + (((j : Int) - 1)).toNat)))).plate) (((ix ((rwD l (k + j))) ((k + (((j : Int) - 1)).toNat)))).time) (((ix ((rwD l (k + j))) ((k + (((j : Int) - 1)).toNat)))).till))).till)] rfl rfl rfl (b := (!(cp ((ix ((rwD l (k + j))) (k + j))) ((ix ((rwD l (k + j))) ((k + (((j : Int) - 1)).toNat)))) == 0))) (fun ww => neqC ((ix ((rwD l (k + j))) (k + j))) ((ix ((rwD l (k + j))) ((k + (((j : Int) - 1)).toNat)))) _ _ ww) rfl)) ?_
          refine dr_done rfl (by kernel_rfl) (by kernel_rfl) ?_
          refine a_cond rfl (fun h10 => ?_) (fun h10 => ?_)
          · skip
            have h11 := t_not h10
            have h12 := f_beq h11
            refine a_rseq ?_
            refine rg_put (d := 45) (v := .ow 0) rfl (og rfl (op_move rfl rfl rfl)) ?_
            refine rg_put (d := 46) (v := .d (.fl (.int .i64 (((dd l (k + j)).length : Int))))) rfl (og rfl (op_move rfl rfl rfl)) ?_
            refine rg_put (d := 47) (v := .wn 0 k 5) rfl (og rfl (op_move rfl rfl rfl)) ?_
            refine rg_put (d := 48) (v := .d (.fl (.int .i64 (j : Int)))) rfl (og rfl (op_move rfl rfl rfl)) ?_
            refine rg_put (d := 49) (v := .pe 0 5 (k + j) 0) rfl (og rfl (op_index_wnD rfl Tryz.underlying33 ti23 rfl rfl rfl (j := j) (by omega) (by omega) rfl)) ?_
            refine rg_put (d := 50) (v := .d (.ag (ePrk ((Prk.mk (((ix ((rwD l (k + j))) (k + j))).kind) (((ix ((rwD l (k + j))) (k + j))).zone) (((ix ((rwD l (k + j))) (k + j))).plate) (((ix ((rwD l (k + j))) (k + j))).time) (((ix ((rwD l (k + j))) (k + j))).till)))))) rfl (og rfl (of_eff (op_load_pes rfl Tryz.underlying23 rfl ti23 rfl rfl (tD_at (by omega)) rfl rfl rfl) rfl)) ?_
            refine rg_put (d := 51) (v := .pe 0 5 ((dd l (k + j)).length) 0) rfl (og rfl (op_index_tr rfl Tryz.underlying33 ti23 rfl rfl rfl (get_lt (tD_at (by omega))) rfl)) ?_
            refine rg_sto (nw := [(0, .tr 23 5 ((((tD ePrk ((rwD l (k + j))))).set ((dd l (k + j)).length) [.dv (.fl (.int .i64 (((Prk.mk (((ix ((rwD l (k + j))) (k + j))).kind) (((ix ((rwD l (k + j))) (k + j))).zone) (((ix ((rwD l (k + j))) (k + j))).plate) (((ix ((rwD l (k + j))) (k + j))).time) (((ix ((rwD l (k + j))) (k + j))).till))).kind))), .dv (.fl (.string (((Prk.mk (((ix ((rwD l (k + j))) (k + j))).kind) (((ix ((rwD l (k + j))) (k + j))).zone) (((ix ((rwD l (k + j))) (k + j))).plate) (((ix ((rwD l (k + j))) (k + j))).time) (((ix ((rwD l (k + j))) (k + j))).till))).zone))), .dv (.fl (.string (((Prk.mk (((ix ((rwD l (k + j))) (k + j))).kind) (((ix ((rwD l (k + j))) (k + j))).zone) (((ix ((rwD l (k + j))) (k + j))).plate) (((ix ((rwD l (k + j))) (k + j))).time) (((ix ((rwD l (k + j))) (k + j))).till))).plate))), .dv (.fl (.int .i64 (((Prk.mk (((ix ((rwD l (k + j))) (k + j))).kind) (((ix ((rwD l (k + j))) (k + j))).zone) (((ix ((rwD l (k + j))) (k + j))).plate) (((ix ((rwD l (k + j))) (k + j))).time) (((ix ((rwD l (k + j))) (k + j))).till))).time))), .dv (.fl (.int .i64 (((Prk.mk (((ix ((rwD l (k + j))) (k + j))).kind) (((ix ((rwD l (k + j))) (k + j))).zone) (((ix ((rwD l (k + j))) (k + j))).plate) (((ix ((rwD l (k + j))) (k + j))).time) (((ix ((rwD l (k + j))) (k + j))).till))).till)))])))]) rfl (og rfl (of_eff (op_store_pe rfl rfl ti23 rfl rfl (tD_at (by omega)) rfl (.d rfl) rfl rfl rfl) rfl)) ?_
            refine rg_done rfl ?_
            refine a_region ?_
            refine rg_put (d := 52) (v := .d (.fl (.int .i64 (((dd l (k + j)).length : Int))))) rfl (og rfl (op_move rfl rfl rfl)) ?_
            refine rg_put (d := 53) (v := .d (.fl (.int .i64 ((((dd l (k + j)).length : Int) + 1))))) rfl (og rfl (op_bin rfl rfl rfl (fun x y w => b_add64 _ _ _ x y w (by omega)) rfl)) ?_
            refine rg_put (d := 3) (v := .d (.fl (.int .i64 ((((dd l (k + j)).length : Int) + 1))))) rfl (og rfl (op_assign rfl rfl rfl)) ?_
            refine rg_done rfl ?_
            show A _ _ _ _ _ _ _
            refine a_region ?_
            refine rg_put (d := 33) (v := .d (.fl (.int .i64 (j : Int)))) rfl (og rfl (op_move rfl rfl rfl)) ?_
            refine rg_put (d := 34) (v := .d (.fl (.int .i64 (((j : Int) + 1))))) rfl (og rfl (op_bin rfl rfl rfl (fun x y w => b_add64 _ _ _ x y w (by omega)) rfl)) ?_
            refine rg_put (d := 5) (v := .d (.fl (.int .i64 (((j : Int) + 1))))) rfl (og rfl (op_assign rfl rfl rfl)) ?_
            refine rg_done rfl ?_
            have hc := h11
            rw [rwD_ix (by omega), rwD_ix (by omega), show k + ((j : Int) - 1).toNat = k + j - 1 by omega] at hc
            have hd := dd_new (.inr hc)
            have hdl : (dd l (k + (j + 1))).length = (dd l (k + j)).length + 1 := (congrArg List.length hd).trans (by rw [List.length_append]; rfl)
            have hst : (((tD ePrk ((rwD l (k + j))))).set ((dd l (k + j)).length) [.dv (.fl (.int .i64 (((Prk.mk (((ix ((rwD l (k + j))) (k + j))).kind) (((ix ((rwD l (k + j))) (k + j))).zone) (((ix ((rwD l (k + j))) (k + j))).plate) (((ix ((rwD l (k + j))) (k + j))).time) (((ix ((rwD l (k + j))) (k + j))).till))).kind))), .dv (.fl (.string (((Prk.mk (((ix ((rwD l (k + j))) (k + j))).kind) (((ix ((rwD l (k + j))) (k + j))).zone) (((ix ((rwD l (k + j))) (k + j))).plate) (((ix ((rwD l (k + j))) (k + j))).time) (((ix ((rwD l (k + j))) (k + j))).till))).zone))), .dv (.fl (.string (((Prk.mk (((ix ((rwD l (k + j))) (k + j))).kind) (((ix ((rwD l (k + j))) (k + j))).zone) (((ix ((rwD l (k + j))) (k + j))).plate) (((ix ((rwD l (k + j))) (k + j))).time) (((ix ((rwD l (k + j))) (k + j))).till))).plate))), .dv (.fl (.int .i64 (((Prk.mk (((ix ((rwD l (k + j))) (k + j))).kind) (((ix ((rwD l (k + j))) (k + j))).zone) (((ix ((rwD l (k + j))) (k + j))).plate) (((ix ((rwD l (k + j))) (k + j))).time) (((ix ((rwD l (k + j))) (k + j))).till))).time))), .dv (.fl (.int .i64 (((Prk.mk (((ix ((rwD l (k + j))) (k + j))).kind) (((ix ((rwD l (k + j))) (k + j))).zone) (((ix ((rwD l (k + j))) (k + j))).plate) (((ix ((rwD l (k + j))) (k + j))).time) (((ix ((rwD l (k + j))) (k + j))).till))).till)))]) = tD ePrk (rwD l (k + (j + 1))) := (tD_set (x := ix (rwD l (k + j)) (k + j)) rfl).trans (by rw [rwD_ix (q := k + j) (by omega)]; exact congrArg (tD ePrk) (rwD_set (by omega) (by omega) hc))
            show ∃ i, _ ∧ _ ∧ Imp _ _ _ _ _
            refine ⟨j + 1, ⟨by omega, by omega, by omega⟩, by omega, imp_forget rfl ⟨rfl, rfl, rfl, rfl, rfl, (ci (by omega)), (ci (by omega)), trivial⟩ ⟨rfl, (congrArg (fun z => Ob.tr 23 5 z) hst), trivial⟩⟩
          · skip
            have h13 := f_not h10
            have h14 := t_beq h13
            refine a_skip ?_
            show A _ _ _ _ _ _ _
            refine a_region ?_
            refine rg_put (d := 33) (v := .d (.fl (.int .i64 (j : Int)))) rfl (og rfl (op_move rfl rfl rfl)) ?_
            refine rg_put (d := 34) (v := .d (.fl (.int .i64 (((j : Int) + 1))))) rfl (og rfl (op_bin rfl rfl rfl (fun x y w => b_add64 _ _ _ x y w (by omega)) rfl)) ?_
            refine rg_put (d := 5) (v := .d (.fl (.int .i64 (((j : Int) + 1))))) rfl (og rfl (op_assign rfl rfl rfl)) ?_
            refine rg_done rfl ?_
            have hc := h13
            rw [rwD_ix (by omega), rwD_ix (by omega), show k + ((j : Int) - 1).toNat = k + j - 1 by omega] at hc
            have hd := dd_old (by omega) hc
            have hdl : (dd l (k + (j + 1))).length = (dd l (k + j)).length := congrArg List.length hd
            have hst : tD ePrk (rwD l (k + j)) = tD ePrk (rwD l (k + (j + 1))) := by unfold rwD; rw [show dd l (k + (j + 1)) = dd l (k + j) from hd]
            show ∃ i, _ ∧ _ ∧ Imp _ _ _ _ _
            refine ⟨j + 1, ⟨by omega, by omega, by omega⟩, by omega, imp_forget rfl ⟨rfl, rfl, rfl, rfl, rfl, (ci (by omega)), (ci (by omega)), trivial⟩ ⟨rfl, (congrArg (fun z => Ob.tr 23 5 z) hst), trivial⟩⟩
        · skip
          have h15 := f_dec h8
          refine a_exit ?_
          show A _ _ _ _ _ _ _
          refine a_rseq ?_
          have hkj : k + j = l.length := by omega
          rw [show (k + j) = l.length from hkj]
          rw [hkj] at hrl hp hdl0
          refine rg_put (d := 54) (v := .ow 0) rfl (og rfl (op_move rfl rfl rfl)) ?_
          refine rg_put (d := 55) (v := .d (.fl (.int .i64 (((dd l l.length).length : Int))))) rfl (og rfl (op_move rfl rfl rfl)) ?_
          refine rg_put (d := 56) (v := .wn 0 ((dd l l.length).length) 5) rfl (og rfl (op_winD rfl Tryz.underlying33 ti23 rfl rfl rfl (k := (dd l l.length).length) (by omega) (by omega) rfl)) ?_
          refine rg_sto (nw := [(0, .tr 23 5 (tD ePrk (((rwD l l.length).take ((dd l l.length).length))) ++ List.replicate ((rwD l l.length).length - ((dd l l.length).length)) (List.replicate 5 OC.un)))]) rfl (og rfl (of_eff (op_clear_wn rfl Tryz.underlying33 ti23 rfl (by kernel_rfl) (enc := ePrk) (fun _ => rfl) rfl rfl (by omega) rfl) rfl)) ?_
          refine rg_done rfl ?_
          refine a_rseq ?_
          have htk : ((rwD l l.length).take (dd l l.length).length).length = (dd l l.length).length := by rw [rwD_end]
          refine rg_put (d := 57) (v := .ow 0) rfl (og rfl (op_move rfl rfl rfl)) ?_
          refine rg_put (d := 58) (v := .d (.fl (.int .i64 (((dd l l.length).length : Int))))) rfl (og rfl (op_move rfl rfl rfl)) ?_
          refine rg_nam (d := 59) (v := .ow 101) (m := 101) (nw := [(101, .tr 23 5 (tD ePrk (((rwD l l.length).take ((dd l l.length).length))))), (0, .no)]) rfl (og rfl (of_eff (op_sliceOwnZ 101 rfl Tryz.underlying33 ti23 (enc := ePrk) (A := ((rwD l l.length).take ((dd l l.length).length))) (fun _ => rfl) rfl rfl rfl (by omega) (by omega) rfl) rfl)) rfl ?_
          refine rg_put (d := 2) (v := .ow 101) rfl (og rfl (op_assign rfl rfl rfl)) ?_
          refine rg_done rfl ?_
          refine a_ret ?_
          show ∃ m, _ ∧ _ ∧ _ ∧ _
          rw [rwD_end]
          exact ⟨101, by decide, rfl, rfl, rfl⟩
      · skip
        have h16 := f_beq h6
        refine a_skip ?_
        show A _ _ _ _ _ _ _
        refine a_region ?_
        refine rg_put (d := 14) (v := .d (.fl (.int .i64 (k : Int)))) rfl (og rfl (op_move rfl rfl rfl)) ?_
        refine rg_put (d := 15) (v := .d (.fl (.int .i64 (((k : Int) + 1))))) rfl (og rfl (op_bin rfl rfl rfl (fun x y w => b_add64 _ _ _ x y w (by omega)) rfl)) ?_
        refine rg_put (d := 3) (v := .d (.fl (.int .i64 (((k : Int) + 1))))) rfl (og rfl (op_assign rfl rfl rfl)) ?_
        refine rg_done rfl ?_
        have hx : (cp (ix l k) (ix l (k - 1)) == 0) = false := by have h := h6; rwa [show ((k : Int) - 1).toNat = k - 1 by omega] at h
        show ∃ i, _ ∧ _ ∧ Imp _ _ _ _ _
        refine ⟨k + 1, ⟨by omega, by omega, fun q h1 h2 => (Nat.lt_succ_iff_lt_or_eq.1 h2).elim (hq q h1) (fun e => by rw [e]; exact hx)⟩, by omega, imp_forget rfl ⟨rfl, rfl, (ci (by omega)), trivial⟩ ⟨rfl, rfl, trivial⟩⟩
    · skip
      have h17 := f_dec h4
      refine a_exit ?_
      show A _ _ _ _ _ _ _
      refine a_rseq ?_
      refine rg_put (d := 60) (v := .ow 0) rfl (og rfl (op_move rfl rfl rfl)) ?_
      refine rg_put (d := 2) (v := .ow 0) rfl (og rfl (op_assign rfl rfl rfl)) ?_
      refine rg_done rfl ?_
      refine a_ret ?_
      show ∃ m, _ ∧ _ ∧ _ ∧ _
      rw [show dd l l.length = l from (dd_all l.length (Nat.le_refl _) (fun q h1 h2 => hq q h1 (by omega))).trans (List.take_of_length_le (Nat.le_refl _))]
      exact ⟨0, by decide, rfl, rfl, rfl⟩
set_option maxHeartbeats 4000000 in
set_option maxRecDepth 100000 in
theorem sesC (l : List Prk) (hl : l.length ≤ 1000) : Ctr Tryz.prog 16 [.sl 5 (List.map ePrk l)] (.d (.sl 5 (List.map ePrk (dfl l)))) := by
  refine ctr (n := 10) (rs := #[.tmp 2]) (L := [(0, .d (.sl 5 (List.map ePrk l)))]) Tryz.func16 rfl rfl rfl rfl rfl (fun w0 U0 => ?_)
  refine a_rseq ?_
  refine rg_put (d := 2) (v := .d (.fl (.slice none 0 0))) rfl (og rfl (op_assign rfl rfl rfl)) ?_
  refine rg_done rfl ?_
  refine a_rseq ?_
  refine rg_put (d := 4) (v := .d (.sl 5 (List.map ePrk l))) rfl (og rfl (op_move rfl rfl rfl)) ?_
  refine rg_nam (d := 5) (v := .ow 101) (m := 101) (nw := [(101, .tr 23 5 (tD ePrk l))]) rfl (og rfl (of_eff (op_callO 101 rfl Tryz.func36 nm36 rfl (.cons rfl (.d _) .nil) (cloP l hl) rfl) rfl)) rfl ?_
  refine rg_put (d := 3) (v := .ow 101) rfl (og rfl (op_assign rfl rfl rfl)) ?_
  refine rg_done rfl ?_
  refine a_rseq ?_
  refine rg_put (d := 6) (v := .ow 101) rfl (og rfl (op_move rfl rfl rfl)) ?_
  refine rg_sortE rfl rfl rfl rfl (by rfl) Tryz.func37 nm37 rfl rfl rfl rfl (fun _ => rfl) (p := fun _ => True) (fun _ _ => trivial) sortD (by omega) (fun l' hp hs => ?_)
  have hl' : l' = srt l := srt_eq hp (hs.imp (fun h => le_of_sorted cp_neg h))
  rw [show l' = (srt l) from hl']
  refine rg_done rfl ?_
  refine a_rseq ?_
  refine rg_put (d := 8) (v := .ow 101) rfl (og rfl (op_move rfl rfl rfl)) ?_
  refine rg_nam (d := 9) (v := .ow 102) (m := 102) (nw := [(102, .tr 23 5 (tD ePrk ((dd (srt l) (srt l).length)))), (101, .no)]) rfl (og rfl (of_eff (op_callT 102 rfl Tryz.func42 nm42 rfl rfl rfl rfl .nil (cptT (srt l) (by rw [srt_len]; exact hl)) rfl) rfl)) rfl ?_
  refine rg_put (d := 2) (v := .ow 102) rfl (og rfl (op_assign rfl rfl rfl)) ?_
  refine rg_done rfl ?_
  refine a_imp (imp_leakT 2 102 rfl rfl) ?_
  refine a_ret ?_
  show ∃ ds, ResL _ _ _ ds ∧ RV.of ds = _
  refine ⟨[.sl 5 (List.map ePrk ((dd (srt l) (srt l).length)))], (.cons (.tmp rfl (.d _)) .nil), ?_⟩
  rfl
set_option maxHeartbeats 4000000 in
set_option maxRecDepth 100000 in
theorem sortR (l : List Prk) (hl : l.length ≤ 1000) (hz : ∀ x ∈ l, szP x) : Ctr Tryz.prog 17 [.sl 5 (List.map ePrk l)] (.d (.sl 5 (List.map ePrk (rsP l l.length)))) := by
  refine ctr (n := 65) (rs := #[.tmp 2]) (L := [(0, .d (.sl 5 (List.map ePrk l)))]) Tryz.func17 rfl rfl rfl rfl rfl (fun w0 U0 => ?_)
  refine a_rseq ?_
  refine rg_put (d := 2) (v := .d (.fl (.slice none 0 0))) rfl (og rfl (op_assign rfl rfl rfl)) ?_
  refine rg_done rfl ?_
  refine a_rseq ?_
  refine rg_put (d := 3) (v := .d (.fl (.slice none 0 0))) rfl (og rfl (op_assign rfl rfl rfl)) ?_
  refine rg_done rfl ?_
  refine a_seq ?_
  refine a_rseq ?_
  refine rg_imp (imp_nilT 3 101 23 5 rfl rfl) ?_
  refine rg_imp (imp_leakT 3 101 (f := ePrk) (l := []) rfl rfl) ?_
  refine rg_put (d := 4) (v := .d (.fl (.int .i64 0))) rfl (og rfl (op_assign rfl rfl rfl)) ?_
  refine rg_done rfl ?_
  refine a_block ?_
  refine a_loop (ι := Nat) (fun k => SS [(0, .d (.sl 5 (List.map ePrk l))), (2, .d (.fl (.slice none 0 0))), (4, .d (.fl (.int .i64 (k : Int)))), (3, .d (.sl 5 (List.map ePrk (rsP l k))))] []) (fun k => k ≤ l.length) (fun k => l.length - k) 0 (by omega) (imp_forget rfl ⟨rfl, rfl, (by first | rfl | exact ci (by omega) | exact ci (by simp) | exact cd (by simp) | simp), rfl, trivial⟩ trivial) (fun k hok => ?_)
  have hk := hok
  have hsu : ∀ x ∈ rsP l k, szP x := fun x hx => by obtain ⟨q, h1, h2⟩ := (rsP_mem k).1 hx; rw [← h2]; exact hz _ (ix_mem (by omega))
  have hlu := rsP_len l k
  refine a_seq ?_
  refine a_rseq ?_
  refine rg_put (d := 7) (v := .d (.fl (.int .i64 (k : Int)))) rfl (og rfl (op_move rfl rfl rfl)) ?_
  refine rg_put (d := 8) (v := .d (.sl 5 (List.map ePrk l))) rfl (og rfl (op_move rfl rfl rfl)) ?_
  refine rg_put (d := 9) (v := .d (.fl (.int .i64 (l.length : Int)))) rfl (og rfl (s_len rfl Tryz.underlying33 rfl rfl)) ?_
  refine rg_put (d := 10) (v := .d (.fl (.bool ((decide ((k : Int) < (l.length : Int))))))) rfl (og rfl (op_bin rfl rfl rfl (b_lss _ _ _ _) rfl)) ?_
  refine rg_done rfl ?_
  refine a_cond rfl (fun h1 => ?_) (fun h1 => ?_)
  · skip
    have h2 := t_dec h1
    refine a_skip ?_
    show A _ _ _ _ _ _ _
    refine a_seq ?_
    refine a_block ?_
    refine a_rseq ?_
    refine rg_put (d := 5) (v := .d (.fl (.int .i64 0))) rfl (og rfl (op_assign rfl rfl rfl)) ?_
    refine rg_done rfl ?_
    refine a_seq ?_
    refine a_block ?_
    refine a_loop (ι := Nat) (fun j => SS [(0, .d (.sl 5 (List.map ePrk l))), (2, .d (.fl (.slice none 0 0))), (3, .d (.sl 5 (List.map ePrk (rsP l k)))), (4, .d (.fl (.int .i64 (k : Int)))), (10, .d (.fl (.bool ((decide ((k : Int) < (l.length : Int))))))), (5, .d (.fl (.int .i64 (j : Int))))] []) (fun j => j ≤ (rsP l k).length ∧ ∀ q, q < j → cp (ix (rsP l k) q) (ix l k) < 0) (fun j => (rsP l k).length - j) 0 (⟨by omega, fun q h => absurd h (by omega)⟩) (imp_forget rfl ⟨rfl, rfl, rfl, rfl, rfl, (by first | rfl | exact ci (by omega) | exact ci (by simp) | exact cd (by simp) | simp), trivial⟩ trivial) (fun j hok => ?_)
    obtain ⟨hj, hq⟩ := hok
    refine a_seq ?_
    refine a_dseq (by kernel_rfl) ?_
    refine dr_put (d := 13) (v := .d (.fl (.int .i64 (j : Int)))) rfl (og rfl (op_move rfl rfl rfl)) ?_
    refine dr_put (d := 14) (v := .d (.sl 5 (List.map ePrk (rsP l k)))) rfl (og rfl (op_move rfl rfl rfl)) ?_
    refine dr_put (d := 15) (v := .d (.fl (.int .i64 (((rsP l k).length : Int))))) rfl (og rfl (s_len rfl Tryz.underlying33 rfl rfl)) ?_
    refine dr_put (d := 16) (v := .d (.fl (.bool ((decide ((j : Int) < ((rsP l k).length : Int))))))) rfl (og rfl (op_bin rfl rfl rfl (b_lss _ _ _ _) rfl)) ?_
    refine dr_put (d := 17) (v := .d (.fl (.bool ((decide ((j : Int) < ((rsP l k).length : Int))))))) rfl (og rfl (op_move rfl rfl rfl)) ?_
    rcases fot ((decide ((j : Int) < ((rsP l k).length : Int)))) with h3 | h3
    · skip
      have h4 := f_dec h3
      refine dr_put (d := 18) (v := .d (.fl undef)) rfl (on rfl rfl rfl h3) ?_
      refine dr_put (d := 19) (v := .d (.fl undef)) rfl (on rfl rfl rfl h3) ?_
      refine dr_put (d := 20) (v := .d (.fl undef)) rfl (on rfl rfl rfl h3) ?_
      refine dr_put (d := 21) (v := .d (.fl undef)) rfl (on rfl rfl rfl h3) ?_
      refine dr_put (d := 22) (v := .d (.fl undef)) rfl (on rfl rfl rfl h3) ?_
      refine dr_put (d := 23) (v := .d (.fl undef)) rfl (on rfl rfl rfl h3) ?_
      refine dr_put (d := 24) (v := .d (.fl undef)) rfl (on rfl rfl rfl h3) ?_
      refine dr_put (d := 25) (v := .d (.fl undef)) rfl (on rfl rfl rfl h3) ?_
      refine dr_put (d := 26) (v := .d (.fl undef)) rfl (on rfl rfl rfl h3) ?_
      refine dr_put (d := 27) (v := .d (.fl undef)) rfl (on rfl rfl rfl h3) ?_
      refine dr_put (d := 28) (v := .d (.fl (.bool false))) rfl (og rfl (op_pick rfl rfl (by rw [h3]; rfl) rfl)) ?_
      refine dr_done rfl (sepB_of [0, 0, 2, 7, 15, 31, 31, 127, 255, 31, 31, 1567, 3615, 8191, 16383, 32767] (by kernel_rfl)) (by kernel_rfl) ?_
      refine a_condF rfl rfl ?_
      refine a_exit ?_
      show A _ _ _ _ _ _ _
      refine a_seq ?_
      refine a_dseq (by kernel_rfl) ?_
      refine dr_put (d := 31) (v := .d (.fl (.int .i64 (j : Int)))) rfl (og rfl (op_move rfl rfl rfl)) ?_
      refine dr_put (d := 32) (v := .d (.sl 5 (List.map ePrk (rsP l k)))) rfl (og rfl (op_move rfl rfl rfl)) ?_
      refine dr_put (d := 33) (v := .d (.fl (.int .i64 (((rsP l k).length : Int))))) rfl (og rfl (s_len rfl Tryz.underlying33 rfl rfl)) ?_
      refine dr_put (d := 34) (v := .d (.fl (.bool ((decide ((j : Int) < ((rsP l k).length : Int))))))) rfl (og rfl (op_bin rfl rfl rfl (b_lss _ _ _ _) rfl)) ?_
      refine dr_put (d := 35) (v := .d (.fl (.bool ((decide ((j : Int) < ((rsP l k).length : Int))))))) rfl (og rfl (op_move rfl rfl rfl)) ?_
      refine dr_put (d := 36) (v := .d (.fl undef)) rfl (on rfl rfl rfl h3) ?_
      refine dr_put (d := 37) (v := .d (.fl undef)) rfl (on rfl rfl rfl h3) ?_
      refine dr_put (d := 38) (v := .d (.fl undef)) rfl (on rfl rfl rfl h3) ?_
      refine dr_put (d := 39) (v := .d (.fl undef)) rfl (on rfl rfl rfl h3) ?_
      refine dr_put (d := 40) (v := .d (.fl undef)) rfl (on rfl rfl rfl h3) ?_
      refine dr_put (d := 41) (v := .d (.fl undef)) rfl (on rfl rfl rfl h3) ?_
      refine dr_put (d := 42) (v := .d (.fl undef)) rfl (on rfl rfl rfl h3) ?_
      refine dr_put (d := 43) (v := .d (.fl undef)) rfl (on rfl rfl rfl h3) ?_
      refine dr_put (d := 44) (v := .d (.fl undef)) rfl (on rfl rfl rfl h3) ?_
      refine dr_put (d := 45) (v := .d (.fl undef)) rfl (on rfl rfl rfl h3) ?_
      refine dr_put (d := 46) (v := .d (.fl (.bool false))) rfl (og rfl (op_pick rfl rfl (by rw [h3]; rfl) rfl)) ?_
      refine dr_done rfl (sepB_of [0, 0, 2, 7, 15, 31, 31, 127, 255, 31, 31, 1567, 3615, 8191, 16383, 32767] (by kernel_rfl)) (by kernel_rfl) ?_
      refine a_condF rfl rfl ?_
      refine a_skip ?_
      show A _ _ _ _ _ _ _
      refine a_rseq ?_
      refine rg_put (d := 6) (v := .d (.fl (.slice none 0 0))) rfl (og rfl (op_assign rfl rfl rfl)) ?_
      refine rg_done rfl ?_
      refine a_rseq ?_
      refine rg_put (d := 47) (v := .d (.fl (.slice none 0 0))) rfl (og rfl (op_move rfl rfl rfl)) ?_
      refine rg_put (d := 48) (v := .d (.sl 5 (List.map ePrk (rsP l k)))) rfl (og rfl (op_move rfl rfl rfl)) ?_
      refine rg_put (d := 49) (v := .d (.fl (.int .i64 (j : Int)))) rfl (og rfl (op_move rfl rfl rfl)) ?_
      refine rg_put (d := 50) (v := .d (.sl 5 (List.map ePrk ((((rsP l k).drop 0).take (j - 0)))))) rfl (og rfl (s_slice rfl Tryz.underlying33 ti23 rfl (.no _) (.so (n := j) _ rfl (by omega)) (by omega) (by omega) rfl)) ?_
      refine rg_nam (d := 51) (v := .ow 102) (m := 102) (nw := [(102, .tr 23 5 (tD ePrk ((((rsP l k).drop 0).take (j - 0)))))]) rfl (og rfl (of_eff (s_append_nilT 102 rfl Tryz.underlying33 ti23 rfl rfl rfl rfl (.d _) (by simp only [List.length_append, List.length_cons, List.length_nil, List.length_take, List.length_drop]; omega) rfl) rfl)) rfl ?_
      refine rg_put (d := 6) (v := .ow 102) rfl (og rfl (op_assign rfl rfl rfl)) ?_
      refine rg_done rfl ?_
      refine a_rseq ?_
      refine rg_put (d := 52) (v := .ow 102) rfl (og rfl (op_move rfl rfl rfl)) ?_
      refine rg_put (d := 53) (v := .d (.sl 5 (List.map ePrk l))) rfl (og rfl (op_move rfl rfl rfl)) ?_
      refine rg_put (d := 54) (v := .d (.fl (.int .i64 (k : Int)))) rfl (og rfl (op_move rfl rfl rfl)) ?_
      refine rg_put (d := 55) (v := .el ((ePrk (ix l k)))) rfl (og rfl (s_index rfl Tryz.underlying33 ti23 rfl rfl (by omega) (row_at (by omega)) rfl)) ?_
      refine rg_put (d := 56) (v := .d (.ag (ePrk (ix l k)))) rfl (og rfl (of_eff (s_load_els rfl Tryz.underlying23 rfl ti23 rfl rfl rfl) rfl)) ?_
      refine rg_put (d := 57) (v := .d (.sl 5 (List.map ePrk [(ix l k)]))) rfl (og rfl (of_eff (op_slices rfl Tryz.underlying33 ti23 rfl rfl rfl (by kernel_rfl) (xs := [.ag (ePrk (ix l k))]) rfl rfl (.cons rfl rfl (.d _) rfl rfl rfl .nil) rfl) rfl)) ?_
      refine rg_nam (d := 58) (v := .ow 103) (m := 103) (nw := [(103, .tr 23 5 (tD ePrk (((((rsP l k).drop 0).take (j - 0)) ++ [(ix l k)])))), (102, .no)]) rfl (og rfl (of_eff (s_append_td 103 rfl Tryz.underlying33 ti23 rfl rfl rfl rfl rfl (.d _) (by simp only [List.length_append, List.length_cons, List.length_nil, List.length_take, List.length_drop]; omega) rfl) rfl)) rfl ?_
      refine rg_put (d := 6) (v := .ow 103) rfl (og rfl (op_assign rfl rfl rfl)) ?_
      refine rg_done rfl ?_
      refine a_region ?_
      refine rg_put (d := 59) (v := .ow 103) rfl (og rfl (op_move rfl rfl rfl)) ?_
      refine rg_put (d := 60) (v := .d (.sl 5 (List.map ePrk (rsP l k)))) rfl (og rfl (op_move rfl rfl rfl)) ?_
      refine rg_put (d := 61) (v := .d (.fl (.int .i64 (j : Int)))) rfl (og rfl (op_move rfl rfl rfl)) ?_
      refine rg_put (d := 62) (v := .d (.sl 5 (List.map ePrk (((rsP l k).drop j))))) rfl (og rfl (s_sliceTail rfl Tryz.underlying33 ti23 rfl (.so (n := j) _ rfl (by omega)) (by omega) rfl)) ?_
      refine rg_nam (d := 63) (v := .ow 104) (m := 104) (nw := [(104, .tr 23 5 (tD ePrk ((((((rsP l k).drop 0).take (j - 0)) ++ [(ix l k)]) ++ ((rsP l k).drop j))))), (103, .no)]) rfl (og rfl (of_eff (s_append_td 104 rfl Tryz.underlying33 ti23 rfl rfl rfl rfl rfl (.d _) (by simp only [List.length_append, List.length_cons, List.length_nil, List.length_take, List.length_drop]; omega) rfl) rfl)) rfl ?_
      refine rg_put (d := 3) (v := .ow 104) rfl (og rfl (op_assign rfl rfl rfl)) ?_
      refine rg_done rfl ?_
      show A _ _ _ _ _ _ _
      refine a_region ?_
      rw [show (((((rsP l k).drop 0).take (j - 0)) ++ [(ix l k)]) ++ ((rsP l k).drop j)) = (rsP l (k + 1)) from (((insD_at (x := ix l k) (by omega) hq (fun h => absurd h (by omega))).trans (if_neg (fun q => absurd q.1 (by omega)))).symm)]
      refine rg_imp (imp_leakT 3 104 rfl rfl) ?_
      refine rg_put (d := 11) (v := .d (.fl (.int .i64 (k : Int)))) rfl (og rfl (op_move rfl rfl rfl)) ?_
      refine rg_put (d := 12) (v := .d (.fl (.int .i64 (((k : Int) + 1))))) rfl (og rfl (op_bin rfl rfl rfl (fun x y w => b_add64 _ _ _ x y w (by omega)) rfl)) ?_
      refine rg_put (d := 4) (v := .d (.fl (.int .i64 (((k : Int) + 1))))) rfl (og rfl (op_assign rfl rfl rfl)) ?_
      refine rg_done rfl ?_
      have hst : (rsP l (k + 1)) = rsP l (k + 1) := rfl
      show ∃ i, _ ∧ _ ∧ Imp _ _ _ _ _
      refine ⟨k + 1, (by omega), by omega, imp_forget rfl ⟨rfl, rfl, (ci (by omega)), (cd (congrArg (fun z => DV.sl 5 (List.map ePrk z)) hst)), trivial⟩ trivial⟩
    · skip
      have h5 := t_dec h3
      refine dr_put (d := 18) (v := .d (.sl 5 (List.map ePrk (rsP l k)))) rfl (oy rfl rfl rfl h3 (op_move rfl rfl rfl)) ?_
      refine dr_put (d := 19) (v := .d (.fl (.int .i64 (j : Int)))) rfl (oy rfl rfl rfl h3 (op_move rfl rfl rfl)) ?_
      refine dr_put (d := 20) (v := .el ((ePrk ((ix (rsP l k) j))))) rfl (oy rfl rfl rfl h3 (s_index rfl Tryz.underlying33 ti23 rfl rfl (by omega) (row_at (by omega)) rfl)) ?_
      refine dr_put (d := 21) (v := .d (.ag (ePrk (((ix (rsP l k) j)))))) rfl (oy rfl rfl rfl h3 (of_eff (s_load_els rfl Tryz.underlying23 rfl ti23 rfl rfl rfl) rfl)) ?_
      refine dr_put (d := 22) (v := .d (.sl 5 (List.map ePrk l))) rfl (oy rfl rfl rfl h3 (op_move rfl rfl rfl)) ?_
      refine dr_put (d := 23) (v := .d (.fl (.int .i64 (k : Int)))) rfl (oy rfl rfl rfl h3 (op_move rfl rfl rfl)) ?_
      refine dr_put (d := 24) (v := .el ((ePrk (ix l k)))) rfl (oy rfl rfl rfl h3 (s_index rfl Tryz.underlying33 ti23 rfl rfl (by omega) (row_at (by omega)) rfl)) ?_
      refine dr_put (d := 25) (v := .d (.ag (ePrk (ix l k)))) rfl (oy rfl rfl rfl h3 (of_eff (s_load_els rfl Tryz.underlying23 rfl ti23 rfl rfl rfl) rfl)) ?_
      refine dr_put (d := 26) (v := .d (.fl (.int .i64 ((cp (((ix (rsP l k) j))) (ix l k)))))) rfl (oy rfl rfl rfl h3 (op_call rfl Tryz.func35 nm35 rfl (.cons rfl (.d _) (.cons rfl (.d _) .nil)) (cpR (((ix (rsP l k) j))) (ix l k) (hsu _ (ix_mem (by omega))) (hz _ (ix_mem (by omega)))) rfl)) ?_
      refine dr_put (d := 27) (v := .d (.fl (.bool ((decide ((cp (((ix (rsP l k) j))) (ix l k)) < 0)))))) rfl (oy rfl rfl rfl h3 (op_bin rfl rfl rfl (b_lss _ _ _ _) rfl)) ?_
      refine dr_put (d := 28) (v := .d (.fl (.bool ((decide ((cp (((ix (rsP l k) j))) (ix l k)) < 0)))))) rfl (og rfl (op_pick rfl rfl (by rw [h3]; rfl) rfl)) ?_
      refine dr_done rfl (sepB_of [0, 0, 2, 7, 15, 31, 31, 127, 255, 31, 31, 1567, 3615, 8191, 16383, 32767] (by kernel_rfl)) (by kernel_rfl) ?_
      refine a_cond rfl (fun h6 => ?_) (fun h6 => ?_)
      · skip
        have h7 := t_dec h6
        refine a_skip ?_
        show A _ _ _ _ _ _ _
        refine a_block ?_
        refine a_region ?_
        refine rg_put (d := 29) (v := .d (.fl (.int .i64 (j : Int)))) rfl (og rfl (op_move rfl rfl rfl)) ?_
        refine rg_put (d := 30) (v := .d (.fl (.int .i64 (((j : Int) + 1))))) rfl (og rfl (op_bin rfl rfl rfl (fun x y w => b_add64 _ _ _ x y w (by omega)) rfl)) ?_
        refine rg_put (d := 5) (v := .d (.fl (.int .i64 (((j : Int) + 1))))) rfl (og rfl (op_assign rfl rfl rfl)) ?_
        refine rg_done rfl ?_
        have hcj := of_decide_eq_true h6
        show ∃ i, _ ∧ _ ∧ Imp _ _ _ _ _
        refine ⟨j + 1, ⟨by omega, fun q h => by rcases Nat.lt_succ_iff_lt_or_eq.1 h with h | h <;> first | exact hq q h | (subst h; exact hcj)⟩, by omega, imp_forget rfl ⟨rfl, rfl, rfl, rfl, rfl, (ci (by omega)), trivial⟩ trivial⟩
      · skip
        have h8 := f_dec h6
        refine a_exit ?_
        show A _ _ _ _ _ _ _
        refine a_seq ?_
        refine a_dseq (by kernel_rfl) ?_
        refine dr_put (d := 31) (v := .d (.fl (.int .i64 (j : Int)))) rfl (og rfl (op_move rfl rfl rfl)) ?_
        refine dr_put (d := 32) (v := .d (.sl 5 (List.map ePrk (rsP l k)))) rfl (og rfl (op_move rfl rfl rfl)) ?_
        refine dr_put (d := 33) (v := .d (.fl (.int .i64 (((rsP l k).length : Int))))) rfl (og rfl (s_len rfl Tryz.underlying33 rfl rfl)) ?_
        refine dr_put (d := 34) (v := .d (.fl (.bool ((decide ((j : Int) < ((rsP l k).length : Int))))))) rfl (og rfl (op_bin rfl rfl rfl (b_lss _ _ _ _) rfl)) ?_
        refine dr_put (d := 35) (v := .d (.fl (.bool ((decide ((j : Int) < ((rsP l k).length : Int))))))) rfl (og rfl (op_move rfl rfl rfl)) ?_
        refine dr_put (d := 36) (v := .d (.sl 5 (List.map ePrk (rsP l k)))) rfl (oy rfl rfl rfl h3 (op_move rfl rfl rfl)) ?_
        refine dr_put (d := 37) (v := .d (.fl (.int .i64 (j : Int)))) rfl (oy rfl rfl rfl h3 (op_move rfl rfl rfl)) ?_
        refine dr_put (d := 38) (v := .el ((ePrk ((ix (rsP l k) j))))) rfl (oy rfl rfl rfl h3 (s_index rfl Tryz.underlying33 ti23 rfl rfl (by omega) (row_at (by omega)) rfl)) ?_
        refine dr_put (d := 39) (v := .d (.ag (ePrk (((ix (rsP l k) j)))))) rfl (oy rfl rfl rfl h3 (of_eff (s_load_els rfl Tryz.underlying23 rfl ti23 rfl rfl rfl) rfl)) ?_
        refine dr_put (d := 40) (v := .d (.sl 5 (List.map ePrk l))) rfl (oy rfl rfl rfl h3 (op_move rfl rfl rfl)) ?_
        refine dr_put (d := 41) (v := .d (.fl (.int .i64 (k : Int)))) rfl (oy rfl rfl rfl h3 (op_move rfl rfl rfl)) ?_
        refine dr_put (d := 42) (v := .el ((ePrk (ix l k)))) rfl (oy rfl rfl rfl h3 (s_index rfl Tryz.underlying33 ti23 rfl rfl (by omega) (row_at (by omega)) rfl)) ?_
        refine dr_put (d := 43) (v := .d (.ag (ePrk (ix l k)))) rfl (oy rfl rfl rfl h3 (of_eff (s_load_els rfl Tryz.underlying23 rfl ti23 rfl rfl rfl) rfl)) ?_
        refine dr_put (d := 44) (v := .d (.fl (.int .i64 ((cp (((ix (rsP l k) j))) (ix l k)))))) rfl (oy rfl rfl rfl h3 (op_call rfl Tryz.func35 nm35 rfl (.cons rfl (.d _) (.cons rfl (.d _) .nil)) (cpR (((ix (rsP l k) j))) (ix l k) (hsu _ (ix_mem (by omega))) (hz _ (ix_mem (by omega)))) rfl)) ?_
        refine dr_put (d := 45) (v := .d (.fl (.bool (((cp (((ix (rsP l k) j))) (ix l k)) == 0))))) rfl (oy rfl rfl rfl h3 (op_bin rfl rfl rfl (b_eql _ _ _ _) rfl)) ?_
        refine dr_put (d := 46) (v := .d (.fl (.bool (((cp (((ix (rsP l k) j))) (ix l k)) == 0))))) rfl (og rfl (op_pick rfl rfl (by rw [h3]; rfl) rfl)) ?_
        refine dr_done rfl (sepB_of [0, 0, 2, 7, 15, 31, 31, 127, 255, 31, 31, 1567, 3615, 8191, 16383, 32767] (by kernel_rfl)) (by kernel_rfl) ?_
        refine a_cond rfl (fun h9 => ?_) (fun h9 => ?_)
        · skip
          have h10 := t_beq h9
          refine a_exit ?_
          show A _ _ _ _ _ _ _
          refine a_region ?_
          refine rg_put (d := 11) (v := .d (.fl (.int .i64 (k : Int)))) rfl (og rfl (op_move rfl rfl rfl)) ?_
          refine rg_put (d := 12) (v := .d (.fl (.int .i64 (((k : Int) + 1))))) rfl (og rfl (op_bin rfl rfl rfl (fun x y w => b_add64 _ _ _ x y w (by omega)) rfl)) ?_
          refine rg_put (d := 4) (v := .d (.fl (.int .i64 (((k : Int) + 1))))) rfl (og rfl (op_assign rfl rfl rfl)) ?_
          refine rg_done rfl ?_
          have hst : (rsP l k) = rsP l (k + 1) := ((insD_at (by omega) hq (fun _ => of_decide_eq_false h6)).trans (if_pos ⟨by omega, by simpa using h9⟩)).symm
          show ∃ i, _ ∧ _ ∧ Imp _ _ _ _ _
          refine ⟨k + 1, (by omega), by omega, imp_forget rfl ⟨rfl, rfl, (ci (by omega)), (cd (congrArg (fun z => DV.sl 5 (List.map ePrk z)) hst)), trivial⟩ trivial⟩
        · skip
          have h11 := f_beq h9
          refine a_skip ?_
          show A _ _ _ _ _ _ _
          refine a_rseq ?_
          refine rg_put (d := 6) (v := .d (.fl (.slice none 0 0))) rfl (og rfl (op_assign rfl rfl rfl)) ?_
          refine rg_done rfl ?_
          refine a_rseq ?_
          refine rg_put (d := 47) (v := .d (.fl (.slice none 0 0))) rfl (og rfl (op_move rfl rfl rfl)) ?_
          refine rg_put (d := 48) (v := .d (.sl 5 (List.map ePrk (rsP l k)))) rfl (og rfl (op_move rfl rfl rfl)) ?_
          refine rg_put (d := 49) (v := .d (.fl (.int .i64 (j : Int)))) rfl (og rfl (op_move rfl rfl rfl)) ?_
          refine rg_put (d := 50) (v := .d (.sl 5 (List.map ePrk ((((rsP l k).drop 0).take (j - 0)))))) rfl (og rfl (s_slice rfl Tryz.underlying33 ti23 rfl (.no _) (.so (n := j) _ rfl (by omega)) (by omega) (by omega) rfl)) ?_
          refine rg_nam (d := 51) (v := .ow 105) (m := 105) (nw := [(105, .tr 23 5 (tD ePrk ((((rsP l k).drop 0).take (j - 0)))))]) rfl (og rfl (of_eff (s_append_nilT 105 rfl Tryz.underlying33 ti23 rfl rfl rfl rfl (.d _) (by simp only [List.length_append, List.length_cons, List.length_nil, List.length_take, List.length_drop]; omega) rfl) rfl)) rfl ?_
          refine rg_put (d := 6) (v := .ow 105) rfl (og rfl (op_assign rfl rfl rfl)) ?_
          refine rg_done rfl ?_
          refine a_rseq ?_
          refine rg_put (d := 52) (v := .ow 105) rfl (og rfl (op_move rfl rfl rfl)) ?_
          refine rg_put (d := 53) (v := .d (.sl 5 (List.map ePrk l))) rfl (og rfl (op_move rfl rfl rfl)) ?_
          refine rg_put (d := 54) (v := .d (.fl (.int .i64 (k : Int)))) rfl (og rfl (op_move rfl rfl rfl)) ?_
          refine rg_put (d := 55) (v := .el ((ePrk (ix l k)))) rfl (og rfl (s_index rfl Tryz.underlying33 ti23 rfl rfl (by omega) (row_at (by omega)) rfl)) ?_
          refine rg_put (d := 56) (v := .d (.ag (ePrk (ix l k)))) rfl (og rfl (of_eff (s_load_els rfl Tryz.underlying23 rfl ti23 rfl rfl rfl) rfl)) ?_
          refine rg_put (d := 57) (v := .d (.sl 5 (List.map ePrk [(ix l k)]))) rfl (og rfl (of_eff (op_slices rfl Tryz.underlying33 ti23 rfl rfl rfl (by kernel_rfl) (xs := [.ag (ePrk (ix l k))]) rfl rfl (.cons rfl rfl (.d _) rfl rfl rfl .nil) rfl) rfl)) ?_
          refine rg_nam (d := 58) (v := .ow 106) (m := 106) (nw := [(106, .tr 23 5 (tD ePrk (((((rsP l k).drop 0).take (j - 0)) ++ [(ix l k)])))), (105, .no)]) rfl (og rfl (of_eff (s_append_td 106 rfl Tryz.underlying33 ti23 rfl rfl rfl rfl rfl (.d _) (by simp only [List.length_append, List.length_cons, List.length_nil, List.length_take, List.length_drop]; omega) rfl) rfl)) rfl ?_
          refine rg_put (d := 6) (v := .ow 106) rfl (og rfl (op_assign rfl rfl rfl)) ?_
          refine rg_done rfl ?_
          refine a_region ?_
          refine rg_put (d := 59) (v := .ow 106) rfl (og rfl (op_move rfl rfl rfl)) ?_
          refine rg_put (d := 60) (v := .d (.sl 5 (List.map ePrk (rsP l k)))) rfl (og rfl (op_move rfl rfl rfl)) ?_
          refine rg_put (d := 61) (v := .d (.fl (.int .i64 (j : Int)))) rfl (og rfl (op_move rfl rfl rfl)) ?_
          refine rg_put (d := 62) (v := .d (.sl 5 (List.map ePrk (((rsP l k).drop j))))) rfl (og rfl (s_sliceTail rfl Tryz.underlying33 ti23 rfl (.so (n := j) _ rfl (by omega)) (by omega) rfl)) ?_
          refine rg_nam (d := 63) (v := .ow 107) (m := 107) (nw := [(107, .tr 23 5 (tD ePrk ((((((rsP l k).drop 0).take (j - 0)) ++ [(ix l k)]) ++ ((rsP l k).drop j))))), (106, .no)]) rfl (og rfl (of_eff (s_append_td 107 rfl Tryz.underlying33 ti23 rfl rfl rfl rfl rfl (.d _) (by simp only [List.length_append, List.length_cons, List.length_nil, List.length_take, List.length_drop]; omega) rfl) rfl)) rfl ?_
          refine rg_put (d := 3) (v := .ow 107) rfl (og rfl (op_assign rfl rfl rfl)) ?_
          refine rg_done rfl ?_
          show A _ _ _ _ _ _ _
          refine a_region ?_
          rw [show (((((rsP l k).drop 0).take (j - 0)) ++ [(ix l k)]) ++ ((rsP l k).drop j)) = (rsP l (k + 1)) from (((insD_at (x := ix l k) (by omega) hq (fun _ => of_decide_eq_false h6)).trans (if_neg (fun q => absurd q.2 (by simpa using h9)))).symm)]
          refine rg_imp (imp_leakT 3 107 rfl rfl) ?_
          refine rg_put (d := 11) (v := .d (.fl (.int .i64 (k : Int)))) rfl (og rfl (op_move rfl rfl rfl)) ?_
          refine rg_put (d := 12) (v := .d (.fl (.int .i64 (((k : Int) + 1))))) rfl (og rfl (op_bin rfl rfl rfl (fun x y w => b_add64 _ _ _ x y w (by omega)) rfl)) ?_
          refine rg_put (d := 4) (v := .d (.fl (.int .i64 (((k : Int) + 1))))) rfl (og rfl (op_assign rfl rfl rfl)) ?_
          refine rg_done rfl ?_
          have hst : (rsP l (k + 1)) = rsP l (k + 1) := rfl
          show ∃ i, _ ∧ _ ∧ Imp _ _ _ _ _
          refine ⟨k + 1, (by omega), by omega, imp_forget rfl ⟨rfl, rfl, (ci (by omega)), (cd (congrArg (fun z => DV.sl 5 (List.map ePrk z)) hst)), trivial⟩ trivial⟩
  · skip
    have h12 := f_dec h1
    refine a_exit ?_
    show A _ _ _ _ _ _ _
    refine a_rseq ?_
    rw [show (rsP l k) = (rsP l l.length) from (by rw [show k = l.length by omega])]
    refine rg_put (d := 64) (v := .d (.sl 5 (List.map ePrk (rsP l l.length)))) rfl (og rfl (op_move rfl rfl rfl)) ?_
    refine rg_put (d := 2) (v := .d (.sl 5 (List.map ePrk (rsP l l.length)))) rfl (og rfl (op_assign rfl rfl rfl)) ?_
    refine rg_done rfl ?_
    refine a_ret ?_
    show ∃ ds, ResL _ _ _ ds ∧ RV.of ds = _
    refine ⟨[.sl 5 (List.map ePrk (rsP l l.length))], (.cons (.tmp rfl (.d _)) .nil), ?_⟩
    rfl
set_option maxHeartbeats 4000000 in
set_option maxRecDepth 100000 in
theorem sameC (l : List Prk) (hl : l.length ≤ 1000) (hz : ∀ x ∈ l, szP x) : Ctr Tryz.prog 15 [.sl 5 (List.map ePrk l), .sl 5 (List.map ePrk l)] (.d (.fl (.bool (true)))) := by
  refine ctr (n := 27) (rs := #[.tmp 4]) (L := [(0, .d (.sl 5 (List.map ePrk l))), (1, .d (.sl 5 (List.map ePrk l)))]) Tryz.func15 rfl rfl rfl rfl rfl (fun w0 U0 => ?_)
  refine a_rseq ?_
  refine rg_put (d := 4) (v := .d (.fl (.bool false))) rfl (og rfl (op_assign rfl rfl rfl)) ?_
  refine rg_done rfl ?_
  refine a_seq ?_
  refine a_rseq ?_
  refine rg_put (d := 6) (v := .d (.sl 5 (List.map ePrk l))) rfl (og rfl (op_move rfl rfl rfl)) ?_
  refine rg_put (d := 7) (v := .d (.fl (.int .i64 (l.length : Int)))) rfl (og rfl (s_len rfl Tryz.underlying33 rfl rfl)) ?_
  refine rg_put (d := 8) (v := .d (.sl 5 (List.map ePrk l))) rfl (og rfl (op_move rfl rfl rfl)) ?_
  refine rg_put (d := 9) (v := .d (.fl (.int .i64 (l.length : Int)))) rfl (og rfl (s_len rfl Tryz.underlying33 rfl rfl)) ?_
  refine rg_put (d := 10) (v := .d (.fl (.bool (((l.length : Int) != (l.length : Int)))))) rfl (og rfl (op_bin rfl rfl rfl (b_neq _ _ _ _) rfl)) ?_
  refine rg_done rfl ?_
  refine a_condF rfl (ne_self_b _) ?_
  refine a_skip ?_
  show A _ _ _ _ _ _ _
  refine a_seq ?_
  refine a_rseq ?_
  refine rg_put (d := 5) (v := .d (.fl (.int .i64 0))) rfl (og rfl (op_assign rfl rfl rfl)) ?_
  refine rg_done rfl ?_
  refine a_block ?_
  refine a_loop (ι := Nat) (fun k => SS [(0, .d (.sl 5 (List.map ePrk l))), (1, .d (.sl 5 (List.map ePrk l))), (10, .d (.fl (.bool (((l.length : Int) != (l.length : Int)))))), (5, .d (.fl (.int .i64 (k : Int))))] []) (fun k => k ≤ l.length) (fun k => l.length - k) 0 (by omega) (imp_forget rfl ⟨rfl, rfl, rfl, (by first | rfl | exact ci (by omega) | exact ci (by simp) | exact cd (by simp) | simp), trivial⟩ trivial) (fun k hok => ?_)
  have hk := hok
  refine a_seq ?_
  refine a_rseq ?_
  refine rg_put (d := 11) (v := .d (.fl (.int .i64 (k : Int)))) rfl (og rfl (op_move rfl rfl rfl)) ?_
  refine rg_put (d := 12) (v := .d (.sl 5 (List.map ePrk l))) rfl (og rfl (op_move rfl rfl rfl)) ?_
  refine rg_put (d := 13) (v := .d (.fl (.int .i64 (l.length : Int)))) rfl (og rfl (s_len rfl Tryz.underlying33 rfl rfl)) ?_
  refine rg_put (d := 14) (v := .d (.fl (.bool ((decide ((k : Int) < (l.length : Int))))))) rfl (og rfl (op_bin rfl rfl rfl (b_lss _ _ _ _) rfl)) ?_
  refine rg_done rfl ?_
  refine a_cond rfl (fun h1 => ?_) (fun h1 => ?_)
  · skip
    have h2 := t_dec h1
    refine a_skip ?_
    show A _ _ _ _ _ _ _
    refine a_seq ?_
    refine a_block ?_
    refine a_dseq (by kernel_rfl) ?_
    refine dr_put (d := 17) (v := .d (.sl 5 (List.map ePrk l))) rfl (og rfl (op_move rfl rfl rfl)) ?_
    refine dr_put (d := 18) (v := .d (.fl (.int .i64 (k : Int)))) rfl (og rfl (op_move rfl rfl rfl)) ?_
    refine dr_put (d := 19) (v := .el ((ePrk (ix l k)))) rfl (og rfl (s_index rfl Tryz.underlying33 ti23 rfl rfl (by omega) (row_at (by omega)) rfl)) ?_
    refine dr_put (d := 20) (v := .d (.ag (ePrk (ix l k)))) rfl (og rfl (of_eff (s_load_els rfl Tryz.underlying23 rfl ti23 rfl rfl rfl) rfl)) ?_
    refine dr_put (d := 21) (v := .d (.sl 5 (List.map ePrk l))) rfl (og rfl (op_move rfl rfl rfl)) ?_
    refine dr_put (d := 22) (v := .d (.fl (.int .i64 (k : Int)))) rfl (og rfl (op_move rfl rfl rfl)) ?_
    refine dr_put (d := 23) (v := .el ((ePrk (ix l k)))) rfl (og rfl (s_index rfl Tryz.underlying33 ti23 rfl rfl (by omega) (row_at (by omega)) rfl)) ?_
    refine dr_put (d := 24) (v := .d (.ag (ePrk (ix l k)))) rfl (og rfl (of_eff (s_load_els rfl Tryz.underlying23 rfl ti23 rfl rfl rfl) rfl)) ?_
    refine dr_put (d := 25) (v := .d (.fl (.int .i64 ((cp (ix l k) (ix l k)))))) rfl (og rfl (op_call rfl Tryz.func35 nm35 rfl (.cons rfl (.d _) (.cons rfl (.d _) .nil)) (cpR (ix l k) (ix l k) (hz _ (ix_mem (by omega))) (hz _ (ix_mem (by omega)))) rfl)) ?_
    refine dr_put (d := 26) (v := .d (.fl (.bool (((cp (ix l k) (ix l k)) != 0))))) rfl (og rfl (op_bin rfl rfl rfl (b_neq _ _ _ _) rfl)) ?_
    refine dr_done rfl (by kernel_rfl) (by kernel_rfl) ?_
    refine a_condF rfl (by rw [cp_self]; rfl) ?_
    refine a_skip ?_
    show A _ _ _ _ _ _ _
    refine a_region ?_
    refine rg_put (d := 15) (v := .d (.fl (.int .i64 (k : Int)))) rfl (og rfl (op_move rfl rfl rfl)) ?_
    refine rg_put (d := 16) (v := .d (.fl (.int .i64 (((k : Int) + 1))))) rfl (og rfl (op_bin rfl rfl rfl (fun x y w => b_add64 _ _ _ x y w (by omega)) rfl)) ?_
    refine rg_put (d := 5) (v := .d (.fl (.int .i64 (((k : Int) + 1))))) rfl (og rfl (op_assign rfl rfl rfl)) ?_
    refine rg_done rfl ?_
    show ∃ i, _ ∧ _ ∧ Imp _ _ _ _ _
    refine ⟨k + 1, (by omega), by omega, imp_forget rfl ⟨rfl, rfl, rfl, (by first | rfl | exact ci (by omega) | exact ci (by simp) | exact cd (by simp) | simp), trivial⟩ trivial⟩
  · skip
    have h3 := f_dec h1
    refine a_exit ?_
    show A _ _ _ _ _ _ _
    refine a_rseq ?_
    refine rg_put (d := 4) (v := .d (.fl (.bool true))) rfl (og rfl (op_assign rfl rfl rfl)) ?_
    refine rg_done rfl ?_
    refine a_ret ?_
    show ∃ ds, ResL _ _ _ ds ∧ RV.of ds = _
    refine ⟨[.fl (.bool true)], (.cons (.tmp rfl (.d _)) .nil), ?_⟩
    rfl
end Go.Proofs.YtafookkclkgmlaaGreatDoor.Wk
