/- What is sent, what arrives, what is acknowledged. Conditions: as each theorem names them. -/
import Derived.Test.YtijjnbabdlllkaaB1
set_option linter.unusedSimpArgs false
set_option linter.unusedVariables false
namespace Go.Proofs.Ytijjnbabdlllkaa.Wk
open Go Go.RowKit Go.Proofs.Ytijjnbabdlllkaa.Av
set_option maxHeartbeats 4000000 in
set_option maxRecDepth 100000 in
theorem pdC (x : Fil) (seq : Int) : Ctr Try.prog 22 [.ag (eFil x), .el [.fl (.int .i64 seq)]] (.d (.fl (.bool (pd seq x)))) := by
  refine ctr (n := 8) (rs := #[.tmp 3]) (L := [(0, .d (.ag (eFil x))), (1, .el [.fl (.int .i64 seq)])]) Try.func22 rfl rfl rfl rfl rfl (fun w0 U0 => ?_)
  refine a_rseq ?_
  refine rg_nam (d := 2) (v := .pt 101 0) (m := 101) (nw := [(101, .bx 34 (eFil x))]) rfl (og rfl (of_eff (op_box 101 rfl rfl rfl rfl) rfl)) rfl ?_
  refine rg_put (d := 3) (v := .d (.fl (.bool false))) rfl (og rfl (op_assign rfl rfl rfl)) ?_
  refine rg_done rfl ?_
  refine a_rseq ?_
  refine rg_put (d := 4) (v := .pt 101 2) rfl (og rfl (of_eff (s_field_pt rfl Try.underlying34 rfl ti3 rfl rfl rfl) rfl)) ?_
  refine rg_put (d := 5) (v := .d (.fl (.int .i64 x.seq))) rfl (og rfl (op_load_pt rfl Try.underlying3 rfl rfl rfl rfl rfl)) ?_
  refine rg_put (d := 6) (v := .d (.fl (.int .i64 seq))) rfl (og rfl (op_load_el rfl Try.underlying3 rfl rfl rfl rfl)) ?_
  refine rg_put (d := 7) (v := .d (.fl (.bool ((decide (x.seq ≤ seq)))))) rfl (og rfl (op_bin rfl rfl rfl (b_leq _ _ _ _) rfl)) ?_
  refine rg_put (d := 3) (v := .d (.fl (.bool ((decide (x.seq ≤ seq)))))) rfl (og rfl (op_assign rfl rfl rfl)) ?_
  refine rg_done rfl ?_
  refine a_ret ?_
  show ∃ ds, ResL _ _ _ ds ∧ RV.of ds = _
  refine ⟨[.fl (.bool ((decide (x.seq ≤ seq))))], (.cons (.tmp rfl (.d _)) .nil), ?_⟩
  rfl
set_option maxHeartbeats 4000000 in
set_option maxRecDepth 100000 in
theorem ixC (l : List Fil) (seq : Int) (hl : l.length ≤ 1000) : CtrM Try.prog 30 .r (.tr 34 4 (tD eFil l)) [.fn 22 [.el [.fl (.int .i64 seq)]]] (.tr 34 4 (tD eFil l)) (.d (.fl (.int .i64 (iF seq l)))) := by
  refine ctrM (n := 19) (rs := #[.tmp 4]) (L := [(1, .d (.fn 22 [.el [.fl (.int .i64 seq)]]))]) Try.func30 rfl rfl rfl rfl rfl rfl rfl (fun w0 U0 v0 H0 V0 Q0 => ?_)
  refine a_rseq ?_
  refine rg_put (d := 4) (v := .d (.fl (.int .i64 0))) rfl (og rfl (op_assign rfl rfl rfl)) ?_
  refine rg_done rfl ?_
  refine a_seq ?_
  refine a_rseq ?_
  refine rg_put (d := 6) (v := .ow 0) rfl (og rfl (op_move_pw rfl rfl rfl)) ?_
  refine rg_put (d := 7) (v := .d (.fl (.int .i64 (((l).length : Int))))) rfl (og rfl (op_len_tr rfl Try.underlying25 rfl rfl tD_len rfl)) ?_
  refine rg_put (d := 8) (v := .d (.fl (.int .i64 0))) rfl (og rfl (op_move rfl rfl rfl)) ?_
  refine rg_done rfl ?_
  refine a_block ?_
  refine a_loop (ι := Nat) (fun k => SS [(0, .pw 0 v0), (1, .d (.fn 22 [.el [.fl (.int .i64 seq)]])), (7, .d (.fl (.int .i64 (((l).length : Int))))), (8, .d (.fl (.int .i64 (k : Int))))] [(0, .tr 34 4 (tD eFil l)), (1, .pin H0 V0 Q0)]) (fun k => k ≤ l.length ∧ ∀ q, q < k → (pd seq (ix l q)) = false) (fun k => l.length - k) 0 (⟨by omega, fun q h => by omega⟩) (imp_forget rfl ⟨rfl, rfl, rfl, (by first | rfl | exact ci (by omega) | exact ci (by simp) | exact cd (by simp) | simp), trivial⟩ ⟨rfl, rfl, trivial⟩) (fun k hok => ?_)
  obtain ⟨hkk, hq⟩ := hok
  refine a_rseq ?_
  refine rg_put (d := 9) (v := .d (.fl (.bool ((decide ((k : Int) < ((l).length : Int))))))) rfl (og rfl (op_bin rfl rfl rfl (b_lss _ _ _ _) rfl)) ?_
  refine rg_done rfl ?_
  refine a_seq ?_
  refine a_cond rfl (fun h1 => ?_) (fun h1 => ?_)
  · skip
    have h2 := t_dec h1
    refine a_skip ?_
    show A _ _ _ _ _ _ _
    refine a_seq ?_
    refine a_block ?_
    refine a_rseq ?_
    refine rg_put (d := 10) (v := .d (.fl (.int .i64 (k : Int)))) rfl (og rfl (op_move rfl rfl rfl)) ?_
    refine rg_put (d := 5) (v := .d (.fl (.int .i64 (k : Int)))) rfl (og rfl (op_assign rfl rfl rfl)) ?_
    refine rg_done rfl ?_
    refine a_rseq ?_
    refine rg_put (d := 11) (v := .d (.fn 22 [.el [.fl (.int .i64 seq)]])) rfl (og rfl (op_move rfl rfl rfl)) ?_
    refine rg_put (d := 12) (v := .ow 0) rfl (og rfl (op_move_pw rfl rfl rfl)) ?_
    refine rg_put (d := 13) (v := .d (.fl (.int .i64 (k : Int)))) rfl (og rfl (op_move rfl rfl rfl)) ?_
    refine rg_put (d := 14) (v := .pe 0 4 k 0) rfl (og rfl (op_index_tr rfl Try.underlying25 ti34 rfl rfl rfl (get_lt (tD_at (by omega))) rfl)) ?_
    refine rg_put (d := 15) (v := .d (.ag (eFil (ix l k)))) rfl (og rfl (of_eff (op_load_pes rfl Try.underlying34 rfl ti34 rfl rfl (tD_at (by omega)) rfl rfl rfl) rfl)) ?_
    refine rg_put (d := 16) (v := .d (.fl (.bool ((pd seq (ix l k)))))) rfl (og rfl (op_callV rfl rfl ⟨_, Try.func22, nm22, rfl⟩ (.cons rfl (.d _) .nil) (pdC (ix l k) seq) rfl)) ?_
    refine rg_done rfl ?_
    refine a_cond rfl (fun h3 => ?_) (fun h3 => ?_)
    · skip
      refine a_rseq ?_
      refine rg_put (d := 17) (v := .d (.fl (.int .i64 (k : Int)))) rfl (og rfl (op_move rfl rfl rfl)) ?_
      refine rg_put (d := 4) (v := .d (.fl (.int .i64 (k : Int)))) rfl (og rfl (op_assign rfl rfl rfl)) ?_
      refine rg_done rfl ?_
      refine a_ret ?_
      show (∃ ds, ResL _ _ _ ds ∧ RV.of ds = _) ∧ _ = _ ∧ _ = _ ∧ _ = _
      refine ⟨⟨[.fl (.int .i64 (k : Int))], (.cons (.tmp rfl (.d _)) .nil), ?_⟩, rfl, ?_, rfl⟩
      rw [iF_at (by omega) hq h3]; rfl
      all_goals rfl
    · skip
      refine a_skip ?_
      show A _ _ _ _ _ _ _
      refine a_region ?_
      refine rg_put (d := 18) (v := .d (.fl (.int .i64 (((k : Int) + 1))))) rfl (og rfl (op_bin rfl rfl rfl (fun x y w => b_add64 _ _ _ x y w (by omega)) rfl)) ?_
      refine rg_put (d := 8) (v := .d (.fl (.int .i64 (((k : Int) + 1))))) rfl (og rfl (op_move rfl rfl rfl)) ?_
      refine rg_done rfl ?_
      have hx : (pd seq (ix l k)) = false := h3
      show ∃ i, _ ∧ _ ∧ Imp _ _ _ _ _
      refine ⟨k + 1, ⟨by omega, fun q h => (Nat.lt_succ_iff_lt_or_eq.1 h).elim (hq q) (fun e => by rw [e]; exact hx)⟩, by omega, imp_forget rfl ⟨rfl, rfl, rfl, (by first | rfl | exact ci (by omega) | exact ci (by simp) | exact cd (by simp) | simp), trivial⟩ ⟨rfl, rfl, trivial⟩⟩
  · skip
    have h4 := f_dec h1
    refine a_exit ?_
    show A _ _ _ _ _ _ _
    refine a_rseq ?_
    refine rg_put (d := 4) (v := .d (.fl (.int .i64 (-1)))) rfl (og rfl (op_assign rfl rfl rfl)) ?_
    refine rg_done rfl ?_
    refine a_ret ?_
    show (∃ ds, ResL _ _ _ ds ∧ RV.of ds = _) ∧ _ = _ ∧ _ = _ ∧ _ = _
    refine ⟨⟨[.fl (.int .i64 (-1))], (.cons (.tmp rfl (.d _)) .nil), ?_⟩, rfl, ?_, rfl⟩
    rw [iF_no (fun q h => hq q (by omega))]; rfl
    all_goals rfl
set_option maxHeartbeats 4000000 in
set_option maxRecDepth 100000 in
theorem delC (l : List Fil) (seq : Int) (hl : l.length ≤ 1000) : CtrT Try.prog 21 34 4 (tD eFil l) [.fn 22 [.el [.fl (.int .i64 seq)]]] (tD eFil (dlF seq l l.length)) := by
  refine ctrT (n := 42) (t := 4) (L := [(1, .d (.fn 22 [.el [.fl (.int .i64 seq)]]))]) Try.func21 rfl rfl rfl rfl rfl (fun w0 U0 H0 V0 Q0 => ?_)
  refine a_rseq ?_
  refine rg_put (d := 4) (v := .d (.fl (.slice none 0 0))) rfl (og rfl (op_assign rfl rfl rfl)) ?_
  refine rg_done rfl ?_
  refine a_rseq ?_
  refine rg_put (d := 8) (v := .ow 0) rfl (og rfl (op_move rfl rfl rfl)) ?_
  refine rg_put (d := 9) (v := .d (.fn 22 [.el [.fl (.int .i64 seq)]])) rfl (og rfl (op_move rfl rfl rfl)) ?_
  refine rg_upd (d := 10) (v := .d (.fl (.int .i64 (iF seq l)))) (nw := [(0, .tr 34 4 (tD eFil l))]) rfl (og rfl (of_eff (op_callM .r (m := 0) (ob := .tr 34 4 (tD eFil l)) (ob' := .tr 34 4 (tD eFil l)) (r := .d (.fl (.int .i64 (iF seq l)))) rfl Try.func30 nm30 rfl rfl rfl rfl rfl rfl (.cons rfl (.d _) .nil) (ixC l seq hl) rfl) rfl)) ?_
  refine rg_put (d := 5) (v := .d (.fl (.int .i64 (iF seq l)))) rfl (og rfl (op_assign rfl rfl rfl)) ?_
  refine rg_done rfl ?_
  refine a_seq ?_
  refine a_rseq ?_
  refine rg_put (d := 11) (v := .d (.fl (.int .i64 (iF seq l)))) rfl (og rfl (op_move rfl rfl rfl)) ?_
  refine rg_put (d := 12) (v := .d (.fl (.bool (((iF seq l) == (-1)))))) rfl (og rfl (op_bin rfl rfl rfl (b_eql _ _ _ _) rfl)) ?_
  refine rg_done rfl ?_
  refine a_cond rfl (fun h1 => ?_) (fun h1 => ?_)
  · skip
    have h2 := t_beq h1
    refine a_rseq ?_
    refine rg_put (d := 13) (v := .ow 0) rfl (og rfl (op_move rfl rfl rfl)) ?_
    refine rg_put (d := 4) (v := .ow 0) rfl (og rfl (op_assign rfl rfl rfl)) ?_
    refine rg_done rfl ?_
    refine a_ret ?_
    show ∃ m, _ ∧ _ ∧ _ ∧ _
    rw [iF_none h1]
    exact ⟨0, by decide, rfl, rfl, rfl⟩
  · skip
    have h3 := f_beq h1
    refine a_skip ?_
    show A _ _ _ _ _ _ _
    refine a_seq ?_
    refine a_rseq ?_
    obtain ⟨k, hik, hk, hq, hpk⟩ := iF_some h1
    rw [show (iF seq l) = (k : Int) from hik]
    refine rg_put (d := 14) (v := .d (.fl (.int .i64 (k : Int)))) rfl (og rfl (op_move rfl rfl rfl)) ?_
    refine rg_put (d := 15) (v := .d (.fl (.int .i64 (((k : Int) + 1))))) rfl (og rfl (op_bin rfl rfl rfl (fun x y w => b_add64 _ _ _ x y w (by omega)) rfl)) ?_
    refine rg_put (d := 6) (v := .d (.fl (.int .i64 (((k : Int) + 1))))) rfl (og rfl (op_assign rfl rfl rfl)) ?_
    refine rg_done rfl ?_
    refine a_block ?_
    obtain ⟨hr1, hr2⟩ := rwF_start hk hq hpk
    refine a_loop (ι := Nat) (fun j => SS [(0, .ow 0), (1, .d (.fn 22 [.el [.fl (.int .i64 seq)]])), (4, .d (.fl (.slice none 0 0))), (12, .d (.fl (.bool (((k : Int) == (-1)))))), (6, .d (.fl (.int .i64 (j : Int)))), (5, .d (.fl (.int .i64 (((dlF seq l j).length : Int)))))] [(1, .pin H0 V0 Q0), (0, .tr 34 4 (tD eFil (rwF seq l j)))]) (fun j => k + 1 ≤ j ∧ j ≤ l.length ∧ (dlF seq l j).length + 1 ≤ j) (fun j => l.length - j) (k + 1) (⟨by omega, by omega, by omega⟩) (imp_forget rfl ⟨rfl, rfl, rfl, rfl, (ci (by omega)), (ci (by omega)), trivial⟩ ⟨rfl, (congrArg (fun z => Ob.tr 34 4 (tD eFil z)) hr1.symm), trivial⟩) (fun j hok => ?_)
    obtain ⟨hj1, hjl, hdl0⟩ := hok
    have hrl := rwF_len (seq := seq) hjl
    refine a_seq ?_
    refine a_rseq ?_
    refine rg_put (d := 16) (v := .d (.fl (.int .i64 (j : Int)))) rfl (og rfl (op_move rfl rfl rfl)) ?_
    refine rg_put (d := 17) (v := .ow 0) rfl (og rfl (op_move rfl rfl rfl)) ?_
    refine rg_put (d := 18) (v := .d (.fl (.int .i64 ((((rwF seq l j)).length : Int))))) rfl (og rfl (op_len_tr rfl Try.underlying25 rfl rfl tD_len rfl)) ?_
    refine rg_put (d := 19) (v := .d (.fl (.bool ((decide ((j : Int) < (((rwF seq l j)).length : Int))))))) rfl (og rfl (op_bin rfl rfl rfl (b_lss _ _ _ _) rfl)) ?_
    refine rg_done rfl ?_
    refine a_cond rfl (fun h4 => ?_) (fun h4 => ?_)
    · skip
      have h5 := t_dec h4
      refine a_skip ?_
      show A _ _ _ _ _ _ _
      refine a_seq ?_
      refine a_block ?_
      refine a_rseq ?_
      refine rg_put (d := 22) (v := .ow 0) rfl (og rfl (op_move rfl rfl rfl)) ?_
      refine rg_put (d := 23) (v := .d (.fl (.int .i64 (j : Int)))) rfl (og rfl (op_move rfl rfl rfl)) ?_
      refine rg_put (d := 24) (v := .pe 0 4 j 0) rfl (og rfl (op_index_tr rfl Try.underlying25 ti34 rfl rfl rfl (get_lt (tD_at (by omega))) rfl)) ?_
      refine rg_put (d := 25) (v := .d (.ag (eFil ((Fil.mk (((ix (rwF seq l j) j)).fr) (((ix (rwF seq l j) j)).to) (((ix (rwF seq l j) j)).seq) (((ix (rwF seq l j) j)).recs)))))) rfl (og rfl (of_eff (op_load_pes rfl Try.underlying34 rfl ti34 rfl rfl (tD_at (by omega)) rfl rfl rfl) rfl)) ?_
      refine rg_nam (d := 7) (v := .pt 101 0) (m := 101) (nw := [(101, .bx 34 ([.fl (.string (⟨#[]⟩)), .fl (.string (⟨#[]⟩)), .fl (.int .i64 0), .fl (.slice none 0 0)]))]) rfl (og rfl (of_eff (s_alloc 101 rfl ti34 (by kernel_rfl) rfl) rfl)) rfl ?_
      refine rg_sto (nw := [(101, .bx 34 ((eFil ((Fil.mk (((ix (rwF seq l j) j)).fr) (((ix (rwF seq l j) j)).to) (((ix (rwF seq l j) j)).seq) (((ix (rwF seq l j) j)).recs))))))]) rfl (og rfl (of_eff (s_store rfl rfl ti34 rfl rfl rfl rfl rfl rfl) rfl)) ?_
      refine rg_done rfl ?_
      refine a_rseq ?_
      refine rg_put (d := 26) (v := .d (.fn 22 [.el [.fl (.int .i64 seq)]])) rfl (og rfl (op_move rfl rfl rfl)) ?_
      refine rg_put (d := 27) (v := .d (.ag (eFil (((Fil.mk (((ix (rwF seq l j) j)).fr) (((ix (rwF seq l j) j)).to) (((ix (rwF seq l j) j)).seq) (((ix (rwF seq l j) j)).recs))))))) rfl (og rfl (of_eff (s_load_pts rfl Try.underlying34 rfl ti34 rfl rfl rfl rfl) rfl)) ?_
      refine rg_put (d := 28) (v := .d (.fl (.bool ((pd seq ((ix (rwF seq l j) j))))))) rfl (og rfl (op_callV rfl rfl ⟨_, Try.func22, nm22, rfl⟩ (.cons rfl (.d _) .nil) (pdC ((ix (rwF seq l j) j)) seq) rfl)) ?_
      refine rg_put (d := 29) (v := .d (.fl (.bool ((!((pd seq ((ix (rwF seq l j) j))))))))) rfl (og rfl (op_un rfl rfl (u_not _) rfl)) ?_
      refine rg_done rfl ?_
      refine a_cond rfl (fun h6 => ?_) (fun h6 => ?_)
      · skip
        have h7 := t_not h6
        refine a_rseq ?_
        refine rg_put (d := 30) (v := .ow 0) rfl (og rfl (op_move rfl rfl rfl)) ?_
        refine rg_put (d := 31) (v := .d (.fl (.int .i64 (((dlF seq l j).length : Int))))) rfl (og rfl (op_move rfl rfl rfl)) ?_
        refine rg_put (d := 32) (v := .d (.ag (eFil (((Fil.mk (((ix (rwF seq l j) j)).fr) (((ix (rwF seq l j) j)).to) (((ix (rwF seq l j) j)).seq) (((ix (rwF seq l j) j)).recs))))))) rfl (og rfl (of_eff (s_load_pts rfl Try.underlying34 rfl ti34 rfl rfl rfl rfl) rfl)) ?_
        refine rg_put (d := 33) (v := .pe 0 4 ((dlF seq l j).length) 0) rfl (og rfl (op_index_tr rfl Try.underlying25 ti34 rfl rfl rfl (get_lt (tD_at (by omega))) rfl)) ?_
        refine rg_sto (nw := [(0, .tr 34 4 ((((tD eFil (rwF seq l j))).set ((dlF seq l j).length) [.dv (.fl (.string ((((Fil.mk (((ix (rwF seq l j) j)).fr) (((ix (rwF seq l j) j)).to) (((ix (rwF seq l j) j)).seq) (((ix (rwF seq l j) j)).recs)))).fr))), .dv (.fl (.string ((((Fil.mk (((ix (rwF seq l j) j)).fr) (((ix (rwF seq l j) j)).to) (((ix (rwF seq l j) j)).seq) (((ix (rwF seq l j) j)).recs)))).to))), .dv (.fl (.int .i64 ((((Fil.mk (((ix (rwF seq l j) j)).fr) (((ix (rwF seq l j) j)).to) (((ix (rwF seq l j) j)).seq) (((ix (rwF seq l j) j)).recs)))).seq))), .dv (.sl 5 (List.map eRec ((((Fil.mk (((ix (rwF seq l j) j)).fr) (((ix (rwF seq l j) j)).to) (((ix (rwF seq l j) j)).seq) (((ix (rwF seq l j) j)).recs)))).recs)))])))]) rfl (og rfl (of_eff (op_store_pe rfl rfl ti34 rfl rfl (tD_at (by omega)) rfl (.d rfl) rfl rfl rfl) rfl)) ?_
        refine rg_done rfl ?_
        refine a_region ?_
        refine rg_put (d := 34) (v := .d (.fl (.int .i64 (((dlF seq l j).length : Int))))) rfl (og rfl (op_move rfl rfl rfl)) ?_
        refine rg_put (d := 35) (v := .d (.fl (.int .i64 ((((dlF seq l j).length : Int) + 1))))) rfl (og rfl (op_bin rfl rfl rfl (fun x y w => b_add64 _ _ _ x y w (by omega)) rfl)) ?_
        refine rg_put (d := 5) (v := .d (.fl (.int .i64 ((((dlF seq l j).length : Int) + 1))))) rfl (og rfl (op_assign rfl rfl rfl)) ?_
        refine rg_done rfl ?_
        show A _ _ _ _ _ _ _
        refine a_region ?_
        refine rg_put (d := 20) (v := .d (.fl (.int .i64 (j : Int)))) rfl (og rfl (op_move rfl rfl rfl)) ?_
        refine rg_put (d := 21) (v := .d (.fl (.int .i64 (((j : Int) + 1))))) rfl (og rfl (op_bin rfl rfl rfl (fun x y w => b_add64 _ _ _ x y w (by omega)) rfl)) ?_
        refine rg_put (d := 6) (v := .d (.fl (.int .i64 (((j : Int) + 1))))) rfl (og rfl (op_assign rfl rfl rfl)) ?_
        refine rg_done rfl ?_
        have hc : pd seq (ix l j) = false := by have h := h7; rwa [rwF_ix (by omega)] at h
        have hd := dlF_n (by omega) hc
        have hdl : (dlF seq l (j + 1)).length = (dlF seq l j).length + 1 := (congrArg List.length hd).trans (by rw [List.length_append]; rfl)
        have hst : (((tD eFil (rwF seq l j))).set ((dlF seq l j).length) [.dv (.fl (.string ((((Fil.mk (((ix (rwF seq l j) j)).fr) (((ix (rwF seq l j) j)).to) (((ix (rwF seq l j) j)).seq) (((ix (rwF seq l j) j)).recs)))).fr))), .dv (.fl (.string ((((Fil.mk (((ix (rwF seq l j) j)).fr) (((ix (rwF seq l j) j)).to) (((ix (rwF seq l j) j)).seq) (((ix (rwF seq l j) j)).recs)))).to))), .dv (.fl (.int .i64 ((((Fil.mk (((ix (rwF seq l j) j)).fr) (((ix (rwF seq l j) j)).to) (((ix (rwF seq l j) j)).seq) (((ix (rwF seq l j) j)).recs)))).seq))), .dv (.sl 5 (List.map eRec ((((Fil.mk (((ix (rwF seq l j) j)).fr) (((ix (rwF seq l j) j)).to) (((ix (rwF seq l j) j)).seq) (((ix (rwF seq l j) j)).recs)))).recs)))]) = tD eFil (rwF seq l (j + 1)) := (tD_set (x := ix (rwF seq l j) j) rfl).trans (by rw [rwF_ix (q := j) (by omega)]; exact congrArg (tD eFil) (rwF_set (by omega) (by omega) hc))
        show ∃ i, _ ∧ _ ∧ Imp _ _ _ _ _
        refine ⟨j + 1, ⟨by omega, by omega, by omega⟩, by omega, imp_forget rfl ⟨rfl, rfl, rfl, rfl, (ci (by omega)), (ci (by omega)), trivial⟩ ⟨rfl, (congrArg (fun z => Ob.tr 34 4 z) hst), trivial⟩⟩
      · skip
        have h8 := f_not h6
        refine a_skip ?_
        show A _ _ _ _ _ _ _
        refine a_region ?_
        refine rg_put (d := 20) (v := .d (.fl (.int .i64 (j : Int)))) rfl (og rfl (op_move rfl rfl rfl)) ?_
        refine rg_put (d := 21) (v := .d (.fl (.int .i64 (((j : Int) + 1))))) rfl (og rfl (op_bin rfl rfl rfl (fun x y w => b_add64 _ _ _ x y w (by omega)) rfl)) ?_
        refine rg_put (d := 6) (v := .d (.fl (.int .i64 (((j : Int) + 1))))) rfl (og rfl (op_assign rfl rfl rfl)) ?_
        refine rg_done rfl ?_
        have hc : pd seq (ix l j) = true := by have h := h8; rwa [rwF_ix (by omega)] at h
        have hd := dlF_y (by omega) hc
        have hdl : (dlF seq l (j + 1)).length = (dlF seq l j).length := congrArg List.length hd
        have hst : tD eFil (rwF seq l j) = tD eFil (rwF seq l (j + 1)) := by unfold rwF; rw [hd]
        show ∃ i, _ ∧ _ ∧ Imp _ _ _ _ _
        refine ⟨j + 1, ⟨by omega, by omega, by omega⟩, by omega, imp_forget rfl ⟨rfl, rfl, rfl, rfl, (ci (by omega)), (ci (by omega)), trivial⟩ ⟨rfl, (congrArg (fun z => Ob.tr 34 4 z) hst), trivial⟩⟩
    · skip
      have h9 := f_dec h4
      refine a_exit ?_
      show A _ _ _ _ _ _ _
      refine a_rseq ?_
      have hjl2 : j = l.length := by omega
      rw [show (rwF seq l j) = (rwF seq l l.length) from (by rw [hjl2])]
      rw [show (dlF seq l j) = (dlF seq l l.length) from (by rw [hjl2])]
      rw [hjl2] at hrl hdl0
      refine rg_put (d := 36) (v := .ow 0) rfl (og rfl (op_move rfl rfl rfl)) ?_
      refine rg_put (d := 37) (v := .d (.fl (.int .i64 (((dlF seq l l.length).length : Int))))) rfl (og rfl (op_move rfl rfl rfl)) ?_
      refine rg_put (d := 38) (v := .wn 0 ((dlF seq l l.length).length) 4) rfl (og rfl (op_winD rfl Try.underlying25 ti34 rfl rfl rfl (k := (dlF seq l l.length).length) (by omega) (by omega) rfl)) ?_
      refine rg_sto (nw := [(0, .tr 34 4 (tD eFil (((rwF seq l l.length).take ((dlF seq l l.length).length))) ++ List.replicate ((rwF seq l l.length).length - ((dlF seq l l.length).length)) (List.replicate 4 OC.un)))]) rfl (og rfl (of_eff (op_clear_wn rfl Try.underlying25 ti34 rfl (by kernel_rfl) (enc := eFil) (fun _ => rfl) rfl rfl (by omega) rfl) rfl)) ?_
      refine rg_done rfl ?_
      refine a_rseq ?_
      have htk : ((rwF seq l l.length).take (dlF seq l l.length).length).length = (dlF seq l l.length).length := by rw [rwF_end]
      refine rg_put (d := 39) (v := .ow 0) rfl (og rfl (op_move rfl rfl rfl)) ?_
      refine rg_put (d := 40) (v := .d (.fl (.int .i64 (((dlF seq l l.length).length : Int))))) rfl (og rfl (op_move rfl rfl rfl)) ?_
      refine rg_nam (d := 41) (v := .ow 102) (m := 102) (nw := [(102, .tr 34 4 (tD eFil (((rwF seq l l.length).take ((dlF seq l l.length).length))))), (0, .no)]) rfl (og rfl (of_eff (op_sliceOwnZ 102 rfl Try.underlying25 ti34 (enc := eFil) (A := ((rwF seq l l.length).take ((dlF seq l l.length).length))) (fun _ => rfl) rfl rfl rfl (by omega) (by have h1 := htk; have h2 := hrl; simp only [List.length_replicate]; omega) rfl) rfl)) rfl ?_
      refine rg_put (d := 4) (v := .ow 102) rfl (og rfl (op_assign rfl rfl rfl)) ?_
      refine rg_done rfl ?_
      refine a_ret ?_
      show ∃ m, _ ∧ _ ∧ _ ∧ _
      rw [rwF_end]
      exact ⟨102, by decide, rfl, rfl, rfl⟩
set_option maxHeartbeats 4000000 in
set_option maxRecDepth 100000 in
theorem ackC (p : Ptn) (seq : Int) (hp : okP p) : Ctr Try.prog 13 [.ag (ePt p), .fl (.int .i64 seq)] (.tu [.ag (ePt (akP p seq)), .fl (.int .i64 (akE p seq))]) := by
  refine ctr (n := 24) (rs := #[.cell 4 28, .tmp 5]) (L := [(0, .d (.ag (ePt p))), (1, .d (.fl (.int .i64 seq)))]) Try.func13 rfl rfl rfl rfl rfl (fun w0 U0 => ?_)
  refine a_rseq ?_
  refine rg_nam (d := 2) (v := .pt 101 0) (m := 101) (nw := [(101, .bx 28 (ePt p))]) rfl (og rfl (of_eff (op_box 101 rfl rfl rfl rfl) rfl)) rfl ?_
  refine rg_nam (d := 3) (v := .pt 102 0) (m := 102) (nw := [(102, .bx 3 [.fl (.int .i64 seq)])]) rfl (og rfl (of_eff (op_box 102 rfl rfl rfl rfl) rfl)) rfl ?_
  refine rg_nam (d := 4) (v := .pt 103 0) (m := 103) (nw := [(103, .bx 28 ([.fl (.string (⟨#[]⟩)), .fl (.int .i64 0), .fl (.int .i64 0), .fl (.slice none 0 0), .fl (.slice none 0 0), .fl (.slice none 0 0)]))]) rfl (og rfl (of_eff (s_alloc 103 rfl ti28 (by kernel_rfl) rfl) rfl)) rfl ?_
  refine rg_put (d := 5) (v := .d (.fl (.int .i64 0))) rfl (og rfl (op_assign rfl rfl rfl)) ?_
  refine rg_done rfl ?_
  refine a_seq ?_
  refine a_rseq ?_
  refine rg_imp (imp_freeze 3 102 rfl rfl) ?_
  refine rg_put (d := 7) (v := .d (.fl (.int .i64 seq))) rfl (og rfl (op_load_el rfl Try.underlying3 rfl rfl rfl rfl)) ?_
  refine rg_put (d := 8) (v := .d (.fl (.bool ((decide (seq < 0)))))) rfl (og rfl (op_bin rfl rfl rfl (b_lss _ _ _ _) rfl)) ?_
  refine rg_put (d := 9) (v := .d (.fl (.bool ((decide (seq < 0)))))) rfl (og rfl (op_move rfl rfl rfl)) ?_
  rcases fot ((decide (seq < 0))) with h1 | h1
  · skip
    have h2 := f_dec h1
    refine rg_put (d := 10) (v := .d (.fl (.int .i64 seq))) rfl (oy rfl rfl rfl h1 (op_load_el rfl Try.underlying3 rfl rfl rfl rfl)) ?_
    refine rg_put (d := 11) (v := .pt 101 1) rfl (oy rfl rfl rfl h1 (of_eff (s_field_pt rfl Try.underlying28 rfl ti3 rfl rfl rfl) rfl)) ?_
    refine rg_put (d := 12) (v := .d (.fl (.int .i64 p.out))) rfl (oy rfl rfl rfl h1 (op_load_pt rfl Try.underlying3 rfl rfl rfl rfl rfl)) ?_
    refine rg_put (d := 13) (v := .d (.fl (.bool ((decide (p.out ≤ seq)))))) rfl (oy rfl rfl rfl h1 (op_bin rfl rfl rfl (b_geq _ _ _ _) rfl)) ?_
    refine rg_put (d := 14) (v := .d (.fl (.bool ((decide (p.out ≤ seq)))))) rfl (og rfl (op_pick rfl rfl (by rw [h1]; rfl) rfl)) ?_
    refine rg_done rfl ?_
    refine a_cond rfl (fun h3 => ?_) (fun h3 => ?_)
    · skip
      have h4 := t_dec h3
      refine a_rseq ?_
      refine rg_put (d := 15) (v := .d (.ag (ePt p))) rfl (og rfl (of_eff (s_load_pts rfl Try.underlying28 rfl ti28 rfl rfl rfl rfl) rfl)) ?_
      refine rg_sto (nw := [(103, .bx 28 (ePt p))]) rfl (og rfl (of_eff (s_store rfl rfl ti28 rfl rfl rfl rfl rfl rfl) rfl)) ?_
      refine rg_put (d := 5) (v := .d (.fl (.int .i64 31))) rfl (og rfl (op_assign rfl rfl rfl)) ?_
      refine rg_done rfl ?_
      refine a_ret ?_
      show ∃ ds, ResL _ _ _ ds ∧ RV.of ds = _
      refine ⟨[.ag [.fl (.string p.name), .fl (.int .i64 p.out), .fl (.int .i64 p.inn), .sl 4 (List.map eFil p.wait), .sl 5 (List.map eRec p.ours), .sl 5 (List.map eRec p.theirs)], .fl (.int .i64 31)], (.cons (.cellT rfl rfl Try.underlying28 rfl ti28 rfl (Cv.ag (xs := [.fl (.string p.name), .fl (.int .i64 p.out), .fl (.int .i64 p.inn), .sl 4 (List.map eFil p.wait), .sl 5 (List.map eRec p.ours), .sl 5 (List.map eRec p.theirs)]) (ys := [.fl (.string p.name), .fl (.int .i64 p.out), .fl (.int .i64 p.inn), .sl 4 (List.map eFil p.wait), .sl 5 (List.map eRec p.ours), .sl 5 (List.map eRec p.theirs)]) ⟨Cv.refl _, Cv.refl _, Cv.refl _, Cv.refl _, Cv.refl _, Cv.refl _, trivial⟩)) (.cons (.tmp rfl (.d _)) .nil)), ?_⟩
      have hcd : (decide (seq < 0) || decide (p.out ≤ seq)) = true := by simp only [h1, h3, Bool.true_or, Bool.false_or, Bool.or_true, Bool.or_false, Bool.not_true, Bool.not_false, cond_true, cond_false, Bool.true_and, Bool.false_and, Bool.and_true, Bool.and_false] <;> rfl
      obtain ⟨hk1, hk2⟩ := ak_bad hcd
      rw [hk1, hk2]; rfl
    · skip
      have h5 := f_dec h3
      refine a_skip ?_
      show A _ _ _ _ _ _ _
      refine a_rseq ?_
      refine rg_put (d := 16) (v := .d (.ag (ePt p))) rfl (og rfl (of_eff (s_load_pts rfl Try.underlying28 rfl ti28 rfl rfl rfl rfl) rfl)) ?_
      refine rg_nam (d := 17) (v := .ow 104) (m := 104) (nw := [(104, .sv [.dv (.fl (.string p.name)), .dv (.fl (.int .i64 p.out)), .dv (.fl (.int .i64 p.inn)), .ow 34 4 (List.map eFil p.wait), .ow 43 5 (List.map eRec p.ours), .ow 43 5 (List.map eRec p.theirs)])]) rfl (og rfl (of_eff (op_callO 104 rfl Try.func19 nm19 rfl (.cons rfl (.d _) .nil) (freshP p hp) rfl) rfl)) rfl ?_
      refine rg_nam (d := 6) (v := .pt 105 0) (m := 105) (nw := [(105, .bx 28 ([.fl (.string (⟨#[]⟩)), .fl (.int .i64 0), .fl (.int .i64 0), .fl (.slice none 0 0), .fl (.slice none 0 0), .fl (.slice none 0 0)]))]) rfl (og rfl (of_eff (s_alloc 105 rfl ti28 (by kernel_rfl) rfl) rfl)) rfl ?_
      refine rg_imp (imp_bt 105 rfl) ?_
      refine rg_sto (nw := [(105, .bt 28 [.dv (.fl (.string p.name)), .dv (.fl (.int .i64 p.out)), .dv (.fl (.int .i64 p.inn)), .ow 34 4 (List.map eFil p.wait), .ow 43 5 (List.map eRec p.ours), .ow 43 5 (List.map eRec p.theirs)]), (104, .no)]) rfl (og rfl (of_eff (op_store_bt rfl rfl ti28 rfl rfl rfl (.sv rfl) rfl rfl rfl) rfl)) ?_
      refine rg_done rfl ?_
      refine a_rseq ?_
      refine rg_put (d := 18) (v := .pt 105 3) rfl (og rfl (of_eff (s_field_pt rfl Try.underlying28 rfl ti25 rfl rfl rfl) rfl)) ?_
      refine rg_nam (d := 19) (v := .ow 106) (m := 106) (nw := [(106, .tr 34 4 (tD eFil p.wait)), (105, .bt 28 [.dv (.fl (.string p.name)), .dv (.fl (.int .i64 p.out)), .dv (.fl (.int .i64 p.inn)), .un, .ow 43 5 (List.map eRec p.ours), .ow 43 5 (List.map eRec p.theirs)])]) rfl (og rfl (of_eff (op_takeBt 106 rfl Try.underlying25 rfl rfl rfl rfl rfl rfl) rfl)) rfl ?_
      refine rg_put (d := 20) (v := .d (.fn 22 [.el [.fl (.int .i64 seq)]])) rfl (og rfl (op_mkfn rfl (.cons rfl .nil) rfl)) ?_
      refine rg_nam (d := 21) (v := .ow 107) (m := 107) (nw := [(107, .tr 34 4 (tD eFil (dlF seq p.wait p.wait.length))), (106, .no)]) rfl (og rfl (of_eff (op_callT 107 rfl Try.func21 nm21 rfl rfl rfl rfl (.cons rfl (.d _) .nil) (delC p.wait seq (by have := hp.w; omega)) rfl) rfl)) rfl ?_
      refine rg_put (d := 22) (v := .pt 105 3) rfl (og rfl (of_eff (s_field_pt rfl Try.underlying28 rfl ti25 rfl rfl rfl) rfl)) ?_
      refine rg_sto (nw := [(105, .bt 28 [.dv (.fl (.string p.name)), .dv (.fl (.int .i64 p.out)), .dv (.fl (.int .i64 p.inn)), .ow 34 4 (List.map eFil (dlF seq p.wait p.wait.length)), .ow 43 5 (List.map eRec p.ours), .ow 43 5 (List.map eRec p.theirs)]), (107, .no)]) rfl (og rfl (of_eff (op_store_bt rfl rfl ti25 rfl rfl rfl (.tr rfl) rfl rfl rfl) rfl)) ?_
      refine rg_done rfl ?_
      refine a_rseq ?_
      refine rg_imp (imp_leakBt 105 (ds := [.fl (.string p.name), .fl (.int .i64 p.out), .fl (.int .i64 p.inn), .sl 4 (List.map eFil (dlF seq p.wait p.wait.length)), .sl 5 (List.map eRec p.ours), .sl 5 (List.map eRec p.theirs)]) rfl rfl rfl) ?_
      refine rg_put (d := 23) (v := .d (.ag (ePt ((Ptn.mk p.name p.out p.inn (dlF seq p.wait p.wait.length) p.ours p.theirs))))) rfl (og rfl (of_eff (s_load_pts rfl Try.underlying28 rfl ti28 rfl rfl rfl rfl) rfl)) ?_
      refine rg_sto (nw := [(103, .bx 28 ((ePt ((Ptn.mk p.name p.out p.inn (dlF seq p.wait p.wait.length) p.ours p.theirs)))))]) rfl (og rfl (of_eff (s_store rfl rfl ti28 rfl rfl rfl rfl rfl rfl) rfl)) ?_
      refine rg_put (d := 5) (v := .d (.fl (.int .i64 0))) rfl (og rfl (op_assign rfl rfl rfl)) ?_
      refine rg_done rfl ?_
      refine a_ret ?_
      show ∃ ds, ResL _ _ _ ds ∧ RV.of ds = _
      refine ⟨[.ag [.fl (.string ((Ptn.mk p.name p.out p.inn (dlF seq p.wait p.wait.length) p.ours p.theirs).name)), .fl (.int .i64 ((Ptn.mk p.name p.out p.inn (dlF seq p.wait p.wait.length) p.ours p.theirs).out)), .fl (.int .i64 ((Ptn.mk p.name p.out p.inn (dlF seq p.wait p.wait.length) p.ours p.theirs).inn)), .sl 4 (List.map eFil ((Ptn.mk p.name p.out p.inn (dlF seq p.wait p.wait.length) p.ours p.theirs).wait)), .sl 5 (List.map eRec ((Ptn.mk p.name p.out p.inn (dlF seq p.wait p.wait.length) p.ours p.theirs).ours)), .sl 5 (List.map eRec ((Ptn.mk p.name p.out p.inn (dlF seq p.wait p.wait.length) p.ours p.theirs).theirs))], .fl (.int .i64 0)], (.cons (.cellT rfl rfl Try.underlying28 rfl ti28 rfl (Cv.ag (xs := [.fl (.string ((Ptn.mk p.name p.out p.inn (dlF seq p.wait p.wait.length) p.ours p.theirs).name)), .fl (.int .i64 ((Ptn.mk p.name p.out p.inn (dlF seq p.wait p.wait.length) p.ours p.theirs).out)), .fl (.int .i64 ((Ptn.mk p.name p.out p.inn (dlF seq p.wait p.wait.length) p.ours p.theirs).inn)), .sl 4 (List.map eFil ((Ptn.mk p.name p.out p.inn (dlF seq p.wait p.wait.length) p.ours p.theirs).wait)), .sl 5 (List.map eRec ((Ptn.mk p.name p.out p.inn (dlF seq p.wait p.wait.length) p.ours p.theirs).ours)), .sl 5 (List.map eRec ((Ptn.mk p.name p.out p.inn (dlF seq p.wait p.wait.length) p.ours p.theirs).theirs))]) (ys := [.fl (.string ((Ptn.mk p.name p.out p.inn (dlF seq p.wait p.wait.length) p.ours p.theirs).name)), .fl (.int .i64 ((Ptn.mk p.name p.out p.inn (dlF seq p.wait p.wait.length) p.ours p.theirs).out)), .fl (.int .i64 ((Ptn.mk p.name p.out p.inn (dlF seq p.wait p.wait.length) p.ours p.theirs).inn)), .sl 4 (List.map eFil ((Ptn.mk p.name p.out p.inn (dlF seq p.wait p.wait.length) p.ours p.theirs).wait)), .sl 5 (List.map eRec ((Ptn.mk p.name p.out p.inn (dlF seq p.wait p.wait.length) p.ours p.theirs).ours)), .sl 5 (List.map eRec ((Ptn.mk p.name p.out p.inn (dlF seq p.wait p.wait.length) p.ours p.theirs).theirs))]) ⟨Cv.refl _, Cv.refl _, Cv.refl _, Cv.refl _, Cv.refl _, Cv.refl _, trivial⟩)) (.cons (.tmp rfl (.d _)) .nil)), ?_⟩
      have hcd : (decide (seq < 0) || decide (p.out ≤ seq)) = false := by simp only [h1, h3, Bool.true_or, Bool.false_or, Bool.or_true, Bool.or_false, Bool.not_true, Bool.not_false, cond_true, cond_false, Bool.true_and, Bool.false_and, Bool.and_true, Bool.and_false] <;> rfl
      obtain ⟨hk1, hk2⟩ := ak_ok hcd
      rw [hk1, hk2]; rfl
  · skip
    have h6 := t_dec h1
    refine rg_put (d := 10) (v := .d (.fl undef)) rfl (on rfl rfl rfl h1) ?_
    refine rg_put (d := 11) (v := .d (.fl undef)) rfl (on rfl rfl rfl h1) ?_
    refine rg_put (d := 12) (v := .d (.fl undef)) rfl (on rfl rfl rfl h1) ?_
    refine rg_put (d := 13) (v := .d (.fl undef)) rfl (on rfl rfl rfl h1) ?_
    refine rg_put (d := 14) (v := .d (.fl (.bool true))) rfl (og rfl (op_pick rfl rfl (by rw [h1]; rfl) rfl)) ?_
    refine rg_done rfl ?_
    refine a_condK rfl rfl ?_
    refine a_rseq ?_
    refine rg_put (d := 15) (v := .d (.ag (ePt p))) rfl (og rfl (of_eff (s_load_pts rfl Try.underlying28 rfl ti28 rfl rfl rfl rfl) rfl)) ?_
    refine rg_sto (nw := [(103, .bx 28 (ePt p))]) rfl (og rfl (of_eff (s_store rfl rfl ti28 rfl rfl rfl rfl rfl rfl) rfl)) ?_
    refine rg_put (d := 5) (v := .d (.fl (.int .i64 31))) rfl (og rfl (op_assign rfl rfl rfl)) ?_
    refine rg_done rfl ?_
    refine a_ret ?_
    show ∃ ds, ResL _ _ _ ds ∧ RV.of ds = _
    refine ⟨[.ag [.fl (.string p.name), .fl (.int .i64 p.out), .fl (.int .i64 p.inn), .sl 4 (List.map eFil p.wait), .sl 5 (List.map eRec p.ours), .sl 5 (List.map eRec p.theirs)], .fl (.int .i64 31)], (.cons (.cellT rfl rfl Try.underlying28 rfl ti28 rfl (Cv.ag (xs := [.fl (.string p.name), .fl (.int .i64 p.out), .fl (.int .i64 p.inn), .sl 4 (List.map eFil p.wait), .sl 5 (List.map eRec p.ours), .sl 5 (List.map eRec p.theirs)]) (ys := [.fl (.string p.name), .fl (.int .i64 p.out), .fl (.int .i64 p.inn), .sl 4 (List.map eFil p.wait), .sl 5 (List.map eRec p.ours), .sl 5 (List.map eRec p.theirs)]) ⟨Cv.refl _, Cv.refl _, Cv.refl _, Cv.refl _, Cv.refl _, Cv.refl _, trivial⟩)) (.cons (.tmp rfl (.d _)) .nil)), ?_⟩
    have hcd : (decide (seq < 0) || decide (p.out ≤ seq)) = true := by simp only [h1, Bool.true_or, Bool.false_or, Bool.or_true, Bool.or_false, Bool.not_true, Bool.not_false, cond_true, cond_false, Bool.true_and, Bool.false_and, Bool.and_true, Bool.and_false] <;> rfl
    obtain ⟨hk1, hk2⟩ := ak_bad hcd
    rw [hk1, hk2]; rfl
def tkE (a b : ByteArray) (s t : Int) : Bool := sEq a b && (s == t)
theorem eqG54 (a b : Tkt) (w : World) : (Op.equalIn 10000 54 (.agg (([.string a.from_, .int .i64 a.seq] : List Value).toArray)) (.agg (([.string b.from_, .int .i64 b.seq] : List Value).toArray))).run Try.prog w = .ok (sEq a.from_ b.from_ && (a.seq == b.seq)) w := by
  have hS : Try.prog.underlying 54 = some (.struct (Try.prog.fieldsOf 54)) := by kernel_rfl
  have hp : Try.prog.stoodInHeld 54 = false := by kernel_rfl
  rw [show (10000 : Nat) = 9999 + 1 from rfl, run_equalIn_agg w 9999 54 _ _ hS hp]
  simp only [Program.fieldsOf, Try.underlying54]
  simp only [← toList_sEq]
  by_cases h1 : a.from_.toList == b.from_.toList <;> by_cases h2 : a.seq == b.seq <;> simp only [h1, h2] <;> go_simp
theorem eqlT (a b : Tkt) (x y : Operand) (w : World) : (do eqGuard .eql 54 x y (.agg (([.string a.from_, .int .i64 a.seq] : List Value).toArray)) (.agg (([.string b.from_, .int .i64 b.seq] : List Value).toArray)); binOp .eql 54 (.agg (([.string a.from_, .int .i64 a.seq] : List Value).toArray)) (.agg (([.string b.from_, .int .i64 b.seq] : List Value).toArray)) : Sem Value).run Try.prog w = .ok (.bool (sEq a.from_ b.from_ && (a.seq == b.seq))) w := by
  have hm : Try.prog.eqGuardType Try.prog.depth 54 = false := by kernel_rfl
  rw [Sem.run_bind, run_eqGuard_agg w .eql 54 x y _ _ hm, Result.andThen_ok, run_eql_struct, eqG54]
  rfl
theorem neqT (a b : Tkt) (x y : Operand) (w : World) : (do eqGuard .neq 54 x y (.agg (([.string a.from_, .int .i64 a.seq] : List Value).toArray)) (.agg (([.string b.from_, .int .i64 b.seq] : List Value).toArray)); binOp .neq 54 (.agg (([.string a.from_, .int .i64 a.seq] : List Value).toArray)) (.agg (([.string b.from_, .int .i64 b.seq] : List Value).toArray)) : Sem Value).run Try.prog w = .ok (.bool (!(sEq a.from_ b.from_ && (a.seq == b.seq)))) w := by
  have hm : Try.prog.eqGuardType Try.prog.depth 54 = false := by kernel_rfl
  rw [Sem.run_bind, run_eqGuard_agg w .neq 54 x y _ _ hm, Result.andThen_ok, run_neq_struct, eqG54]
  rfl

set_option maxHeartbeats 4000000 in
set_option maxRecDepth 100000 in
theorem rvC (p : Ptn) (f : Fil) (hp : okP p) (hkk : ∀ x ∈ f.recs, x.key.size ≤ 300) (hfl : f.recs.length ≤ 1100) : Ctr Try.prog 9 [.ag (ePt p), .ag (eFil f)] (.tu [.ag (ePt (rvP p f)), .fl (.int .i64 (rvE p f))]) := by
  refine ctr (n := 60) (rs := #[.cell 4 28, .tmp 5]) (L := [(0, .d (.ag (ePt p))), (1, .d (.ag (eFil f)))]) Try.func9 rfl rfl rfl rfl rfl (fun w0 U0 => ?_)
  refine a_rseq ?_
  refine rg_nam (d := 2) (v := .pt 101 0) (m := 101) (nw := [(101, .bx 28 (ePt p))]) rfl (og rfl (of_eff (op_box 101 rfl rfl rfl rfl) rfl)) rfl ?_
  refine rg_nam (d := 3) (v := .pt 102 0) (m := 102) (nw := [(102, .bx 34 (eFil f))]) rfl (og rfl (of_eff (op_box 102 rfl rfl rfl rfl) rfl)) rfl ?_
  refine rg_nam (d := 4) (v := .pt 103 0) (m := 103) (nw := [(103, .bx 28 ([.fl (.string (⟨#[]⟩)), .fl (.int .i64 0), .fl (.int .i64 0), .fl (.slice none 0 0), .fl (.slice none 0 0), .fl (.slice none 0 0)]))]) rfl (og rfl (of_eff (s_alloc 103 rfl ti28 (by kernel_rfl) rfl) rfl)) rfl ?_
  refine rg_put (d := 5) (v := .d (.fl (.int .i64 0))) rfl (og rfl (op_assign rfl rfl rfl)) ?_
  refine rg_done rfl ?_
  refine a_seq ?_
  refine a_rseq ?_
  refine rg_put (d := 8) (v := .d (.ag (eFil f))) rfl (og rfl (of_eff (s_load_pts rfl Try.underlying34 rfl ti34 rfl rfl rfl rfl) rfl)) ?_
  refine rg_put (d := 9) (v := .d (.fl (.int .i64 (ckF f)))) rfl (og rfl (op_call rfl Try.func18 nm18 rfl (.cons rfl (.d _) .nil) (ckP f hkk) rfl)) ?_
  refine rg_put (d := 6) (v := .d (.fl (.int .i64 (ckF f)))) rfl (og rfl (op_assign rfl rfl rfl)) ?_
  refine rg_done rfl ?_
  refine a_rseq ?_
  refine rg_put (d := 10) (v := .d (.fl (.int .i64 (ckF f)))) rfl (og rfl (op_move rfl rfl rfl)) ?_
  refine rg_put (d := 11) (v := .d (.fl (.bool (((ckF f) != 0))))) rfl (og rfl (op_bin rfl rfl rfl (b_neq _ _ _ _) rfl)) ?_
  refine rg_done rfl ?_
  refine a_cond rfl (fun h1 => ?_) (fun h1 => ?_)
  · skip
    have h2 := t_bne h1
    refine a_rseq ?_
    refine rg_put (d := 12) (v := .d (.ag (ePt p))) rfl (og rfl (of_eff (s_load_pts rfl Try.underlying28 rfl ti28 rfl rfl rfl rfl) rfl)) ?_
    refine rg_put (d := 13) (v := .d (.fl (.int .i64 (ckF f)))) rfl (og rfl (op_move rfl rfl rfl)) ?_
    refine rg_sto (nw := [(103, .bx 28 (ePt p))]) rfl (og rfl (of_eff (s_store rfl rfl ti28 rfl rfl rfl rfl rfl rfl) rfl)) ?_
    refine rg_put (d := 5) (v := .d (.fl (.int .i64 (ckF f)))) rfl (og rfl (op_assign rfl rfl rfl)) ?_
    refine rg_done rfl ?_
    refine a_ret ?_
    show ∃ ds, ResL _ _ _ ds ∧ RV.of ds = _
    refine ⟨[.ag [.fl (.string p.name), .fl (.int .i64 p.out), .fl (.int .i64 p.inn), .sl 4 (List.map eFil p.wait), .sl 5 (List.map eRec p.ours), .sl 5 (List.map eRec p.theirs)], .fl (.int .i64 (ckF f))], (.cons (.cellT rfl rfl Try.underlying28 rfl ti28 rfl (Cv.ag (xs := [.fl (.string p.name), .fl (.int .i64 p.out), .fl (.int .i64 p.inn), .sl 4 (List.map eFil p.wait), .sl 5 (List.map eRec p.ours), .sl 5 (List.map eRec p.theirs)]) (ys := [.fl (.string p.name), .fl (.int .i64 p.out), .fl (.int .i64 p.inn), .sl 4 (List.map eFil p.wait), .sl 5 (List.map eRec p.ours), .sl 5 (List.map eRec p.theirs)]) ⟨Cv.refl _, Cv.refl _, Cv.refl _, Cv.refl _, Cv.refl _, Cv.refl _, trivial⟩)) (.cons (.tmp rfl (.d _)) .nil)), ?_⟩
    have hu1 : rvP p f = p := by unfold rvP; simp only [h1, Bool.true_or, Bool.false_or, Bool.or_true, Bool.or_false, Bool.not_true, Bool.not_false, cond_true, cond_false, Bool.true_and, Bool.false_and, Bool.and_true, Bool.and_false] <;> rfl
    have hu2 : rvE p f = (ckF f) := by unfold rvE; simp only [h1, Bool.true_or, Bool.false_or, Bool.or_true, Bool.or_false, Bool.not_true, Bool.not_false, cond_true, cond_false, Bool.true_and, Bool.false_and, Bool.and_true, Bool.and_false] <;> rfl
    rw [hu1, hu2]; rfl
  · skip
    have h3 := f_bne h1
    refine a_skip ?_
    show A _ _ _ _ _ _ _
    refine a_seq ?_
    refine a_rseq ?_
    refine rg_put (d := 14) (v := .pt 102 0) rfl (og rfl (of_eff (s_field_pt rfl Try.underlying34 rfl ti9 rfl rfl rfl) rfl)) ?_
    refine rg_put (d := 15) (v := .d (.fl (.string f.fr))) rfl (og rfl (op_load_pt rfl Try.underlying9 rfl rfl rfl rfl rfl)) ?_
    refine rg_put (d := 16) (v := .pt 101 0) rfl (og rfl (of_eff (s_field_pt rfl Try.underlying28 rfl ti9 rfl rfl rfl) rfl)) ?_
    refine rg_put (d := 17) (v := .d (.fl (.string p.name))) rfl (og rfl (op_load_pt rfl Try.underlying9 rfl rfl rfl rfl rfl)) ?_
    refine rg_put (d := 18) (v := .d (.fl (.bool ((!(sEq f.fr p.name)))))) rfl (og rfl (op_bin rfl rfl rfl (b_sne _ _ _) rfl)) ?_
    refine rg_done rfl ?_
    refine a_cond rfl (fun h4 => ?_) (fun h4 => ?_)
    · skip
      have h5 := t_not h4
      refine a_rseq ?_
      refine rg_put (d := 19) (v := .d (.ag (ePt p))) rfl (og rfl (of_eff (s_load_pts rfl Try.underlying28 rfl ti28 rfl rfl rfl rfl) rfl)) ?_
      refine rg_sto (nw := [(103, .bx 28 (ePt p))]) rfl (og rfl (of_eff (s_store rfl rfl ti28 rfl rfl rfl rfl rfl rfl) rfl)) ?_
      refine rg_put (d := 5) (v := .d (.fl (.int .i64 30))) rfl (og rfl (op_assign rfl rfl rfl)) ?_
      refine rg_done rfl ?_
      refine a_ret ?_
      show ∃ ds, ResL _ _ _ ds ∧ RV.of ds = _
      refine ⟨[.ag [.fl (.string p.name), .fl (.int .i64 p.out), .fl (.int .i64 p.inn), .sl 4 (List.map eFil p.wait), .sl 5 (List.map eRec p.ours), .sl 5 (List.map eRec p.theirs)], .fl (.int .i64 30)], (.cons (.cellT rfl rfl Try.underlying28 rfl ti28 rfl (Cv.ag (xs := [.fl (.string p.name), .fl (.int .i64 p.out), .fl (.int .i64 p.inn), .sl 4 (List.map eFil p.wait), .sl 5 (List.map eRec p.ours), .sl 5 (List.map eRec p.theirs)]) (ys := [.fl (.string p.name), .fl (.int .i64 p.out), .fl (.int .i64 p.inn), .sl 4 (List.map eFil p.wait), .sl 5 (List.map eRec p.ours), .sl 5 (List.map eRec p.theirs)]) ⟨Cv.refl _, Cv.refl _, Cv.refl _, Cv.refl _, Cv.refl _, Cv.refl _, trivial⟩)) (.cons (.tmp rfl (.d _)) .nil)), ?_⟩
      have hu1 : rvP p f = p := by unfold rvP; simp only [h1, h4, h5, Bool.true_or, Bool.false_or, Bool.or_true, Bool.or_false, Bool.not_true, Bool.not_false, cond_true, cond_false, Bool.true_and, Bool.false_and, Bool.and_true, Bool.and_false] <;> rfl
      have hu2 : rvE p f = 30 := by unfold rvE; simp only [h1, h4, h5, Bool.true_or, Bool.false_or, Bool.or_true, Bool.or_false, Bool.not_true, Bool.not_false, cond_true, cond_false, Bool.true_and, Bool.false_and, Bool.and_true, Bool.and_false] <;> rfl
      rw [hu1, hu2]; rfl
    · skip
      have h6 := f_not h4
      refine a_skip ?_
      show A _ _ _ _ _ _ _
      refine a_seq ?_
      refine a_rseq ?_
      refine rg_put (d := 20) (v := .pt 102 2) rfl (og rfl (of_eff (s_field_pt rfl Try.underlying34 rfl ti3 rfl rfl rfl) rfl)) ?_
      refine rg_put (d := 21) (v := .d (.fl (.int .i64 f.seq))) rfl (og rfl (op_load_pt rfl Try.underlying3 rfl rfl rfl rfl rfl)) ?_
      refine rg_put (d := 22) (v := .pt 101 2) rfl (og rfl (of_eff (s_field_pt rfl Try.underlying28 rfl ti3 rfl rfl rfl) rfl)) ?_
      refine rg_put (d := 23) (v := .d (.fl (.int .i64 p.inn))) rfl (og rfl (op_load_pt rfl Try.underlying3 rfl rfl rfl rfl rfl)) ?_
      refine rg_put (d := 24) (v := .d (.fl (.bool ((decide (p.inn < f.seq)))))) rfl (og rfl (op_bin rfl rfl rfl (b_gtr _ _ _ _) rfl)) ?_
      refine rg_done rfl ?_
      refine a_cond rfl (fun h7 => ?_) (fun h7 => ?_)
      · skip
        have h8 := t_dec h7
        refine a_rseq ?_
        refine rg_put (d := 25) (v := .d (.ag (ePt p))) rfl (og rfl (of_eff (s_load_pts rfl Try.underlying28 rfl ti28 rfl rfl rfl rfl) rfl)) ?_
        refine rg_sto (nw := [(103, .bx 28 (ePt p))]) rfl (og rfl (of_eff (s_store rfl rfl ti28 rfl rfl rfl rfl rfl rfl) rfl)) ?_
        refine rg_put (d := 5) (v := .d (.fl (.int .i64 31))) rfl (og rfl (op_assign rfl rfl rfl)) ?_
        refine rg_done rfl ?_
        refine a_ret ?_
        show ∃ ds, ResL _ _ _ ds ∧ RV.of ds = _
        refine ⟨[.ag [.fl (.string p.name), .fl (.int .i64 p.out), .fl (.int .i64 p.inn), .sl 4 (List.map eFil p.wait), .sl 5 (List.map eRec p.ours), .sl 5 (List.map eRec p.theirs)], .fl (.int .i64 31)], (.cons (.cellT rfl rfl Try.underlying28 rfl ti28 rfl (Cv.ag (xs := [.fl (.string p.name), .fl (.int .i64 p.out), .fl (.int .i64 p.inn), .sl 4 (List.map eFil p.wait), .sl 5 (List.map eRec p.ours), .sl 5 (List.map eRec p.theirs)]) (ys := [.fl (.string p.name), .fl (.int .i64 p.out), .fl (.int .i64 p.inn), .sl 4 (List.map eFil p.wait), .sl 5 (List.map eRec p.ours), .sl 5 (List.map eRec p.theirs)]) ⟨Cv.refl _, Cv.refl _, Cv.refl _, Cv.refl _, Cv.refl _, Cv.refl _, trivial⟩)) (.cons (.tmp rfl (.d _)) .nil)), ?_⟩
        have hu1 : rvP p f = p := by unfold rvP; simp only [h1, h4, h6, h7, Bool.true_or, Bool.false_or, Bool.or_true, Bool.or_false, Bool.not_true, Bool.not_false, cond_true, cond_false, Bool.true_and, Bool.false_and, Bool.and_true, Bool.and_false] <;> rfl
        have hu2 : rvE p f = 31 := by unfold rvE; simp only [h1, h4, h6, h7, Bool.true_or, Bool.false_or, Bool.or_true, Bool.or_false, Bool.not_true, Bool.not_false, cond_true, cond_false, Bool.true_and, Bool.false_and, Bool.and_true, Bool.and_false] <;> rfl
        rw [hu1, hu2]; rfl
      · skip
        have h9 := f_dec h7
        refine a_skip ?_
        show A _ _ _ _ _ _ _
        refine a_seq ?_
        refine a_rseq ?_
        refine rg_put (d := 26) (v := .pt 102 0) rfl (og rfl (of_eff (s_field_pt rfl Try.underlying34 rfl ti9 rfl rfl rfl) rfl)) ?_
        refine rg_put (d := 27) (v := .d (.fl (.string f.fr))) rfl (og rfl (op_load_pt rfl Try.underlying9 rfl rfl rfl rfl rfl)) ?_
        refine rg_put (d := 28) (v := .pt 102 2) rfl (og rfl (of_eff (s_field_pt rfl Try.underlying34 rfl ti3 rfl rfl rfl) rfl)) ?_
        refine rg_put (d := 29) (v := .d (.fl (.int .i64 f.seq))) rfl (og rfl (op_load_pt rfl Try.underlying3 rfl rfl rfl rfl rfl)) ?_
        refine rg_put (d := 30) (v := .d (.ag (eTkt (Tkt.mk f.fr f.seq)))) rfl (og rfl (of_eff (op_build rfl Try.underlying54 ti54 rfl (by kernel_rfl) (by kernel_rfl) (pl := #[(0, 1), (1, 1)]) (by kernel_rfl) (.cons rfl rfl (.d _) rfl rfl rfl (.cons rfl rfl (.d _) rfl rfl rfl .nil)) rfl) rfl)) ?_
        refine rg_put (d := 31) (v := .pt 101 0) rfl (og rfl (of_eff (s_field_pt rfl Try.underlying28 rfl ti9 rfl rfl rfl) rfl)) ?_
        refine rg_put (d := 32) (v := .d (.fl (.string p.name))) rfl (og rfl (op_load_pt rfl Try.underlying9 rfl rfl rfl rfl rfl)) ?_
        refine rg_put (d := 33) (v := .pt 101 2) rfl (og rfl (of_eff (s_field_pt rfl Try.underlying28 rfl ti3 rfl rfl rfl) rfl)) ?_
        refine rg_put (d := 34) (v := .d (.fl (.int .i64 p.inn))) rfl (og rfl (op_load_pt rfl Try.underlying3 rfl rfl rfl rfl rfl)) ?_
        refine rg_put (d := 35) (v := .d (.ag (eTkt (Tkt.mk p.name p.inn)))) rfl (og rfl (of_eff (op_build rfl Try.underlying54 ti54 rfl (by kernel_rfl) (by kernel_rfl) (pl := #[(0, 1), (1, 1)]) (by kernel_rfl) (.cons rfl rfl (.d _) rfl rfl rfl (.cons rfl rfl (.d _) rfl rfl rfl .nil)) rfl) rfl)) ?_
        refine rg_put (d := 36) (v := .d (.fl (.bool ((!(tkE f.fr p.name f.seq p.inn)))))) rfl (og rfl (op_eqS [.string ((Tkt.mk f.fr f.seq).from_), .int .i64 ((Tkt.mk f.fr f.seq).seq)] [.string ((Tkt.mk p.name p.inn).from_), .int .i64 ((Tkt.mk p.name p.inn).seq)] rfl rfl rfl (b := (!(tkE f.fr p.name f.seq p.inn))) (fun ww => neqT (Tkt.mk f.fr f.seq) (Tkt.mk p.name p.inn) _ _ ww) rfl)) ?_
        refine rg_done rfl ?_
        refine a_cond rfl (fun h10 => ?_) (fun h10 => ?_)
        · skip
          have h11 := t_not h10
          refine a_rseq ?_
          refine rg_put (d := 37) (v := .d (.ag (ePt p))) rfl (og rfl (of_eff (s_load_pts rfl Try.underlying28 rfl ti28 rfl rfl rfl rfl) rfl)) ?_
          refine rg_sto (nw := [(103, .bx 28 (ePt p))]) rfl (og rfl (of_eff (s_store rfl rfl ti28 rfl rfl rfl rfl rfl rfl) rfl)) ?_
          refine rg_put (d := 5) (v := .d (.fl (.int .i64 0))) rfl (og rfl (op_assign rfl rfl rfl)) ?_
          refine rg_done rfl ?_
          refine a_ret ?_
          show ∃ ds, ResL _ _ _ ds ∧ RV.of ds = _
          refine ⟨[.ag [.fl (.string p.name), .fl (.int .i64 p.out), .fl (.int .i64 p.inn), .sl 4 (List.map eFil p.wait), .sl 5 (List.map eRec p.ours), .sl 5 (List.map eRec p.theirs)], .fl (.int .i64 0)], (.cons (.cellT rfl rfl Try.underlying28 rfl ti28 rfl (Cv.ag (xs := [.fl (.string p.name), .fl (.int .i64 p.out), .fl (.int .i64 p.inn), .sl 4 (List.map eFil p.wait), .sl 5 (List.map eRec p.ours), .sl 5 (List.map eRec p.theirs)]) (ys := [.fl (.string p.name), .fl (.int .i64 p.out), .fl (.int .i64 p.inn), .sl 4 (List.map eFil p.wait), .sl 5 (List.map eRec p.ours), .sl 5 (List.map eRec p.theirs)]) ⟨Cv.refl _, Cv.refl _, Cv.refl _, Cv.refl _, Cv.refl _, Cv.refl _, trivial⟩)) (.cons (.tmp rfl (.d _)) .nil)), ?_⟩
          have hsq : (f.seq == p.inn) = false := by have h := h11; unfold tkE at h; rwa [h6, Bool.true_and] at h
          have hu1 : rvP p f = p := by unfold rvP; simp only [hsq, h1, h4, h6, h7, h10, h11, Bool.true_or, Bool.false_or, Bool.or_true, Bool.or_false, Bool.not_true, Bool.not_false, cond_true, cond_false, Bool.true_and, Bool.false_and, Bool.and_true, Bool.and_false] <;> rfl
          have hu2 : rvE p f = 0 := by unfold rvE; simp only [hsq, h1, h4, h6, h7, h10, h11, Bool.true_or, Bool.false_or, Bool.or_true, Bool.or_false, Bool.not_true, Bool.not_false, cond_true, cond_false, Bool.true_and, Bool.false_and, Bool.and_true, Bool.and_false] <;> rfl
          rw [hu1, hu2]; rfl
        · skip
          have h12 := f_not h10
          refine a_skip ?_
          show A _ _ _ _ _ _ _
          refine a_seq ?_
          refine a_rseq ?_
          have hpt := hp.t
          refine rg_put (d := 38) (v := .pt 101 5) rfl (og rfl (of_eff (s_field_pt rfl Try.underlying28 rfl ti26 rfl rfl rfl) rfl)) ?_
          refine rg_put (d := 39) (v := .d (.sl 5 (List.map eRec p.theirs))) rfl (og rfl (op_load_pt rfl Try.underlying26 rfl rfl rfl rfl rfl)) ?_
          refine rg_put (d := 40) (v := .d (.fl (.int .i64 (p.theirs.length : Int)))) rfl (og rfl (s_len rfl Try.underlying26 rfl rfl)) ?_
          refine rg_put (d := 41) (v := .pt 102 3) rfl (og rfl (of_eff (s_field_pt rfl Try.underlying34 rfl ti26 rfl rfl rfl) rfl)) ?_
          refine rg_put (d := 42) (v := .d (.sl 5 (List.map eRec f.recs))) rfl (og rfl (op_load_pt rfl Try.underlying26 rfl rfl rfl rfl rfl)) ?_
          refine rg_put (d := 43) (v := .d (.fl (.int .i64 (f.recs.length : Int)))) rfl (og rfl (s_len rfl Try.underlying26 rfl rfl)) ?_
          refine rg_put (d := 44) (v := .d (.fl (.int .i64 (((p.theirs.length : Int) + (f.recs.length : Int)))))) rfl (og rfl (op_bin rfl rfl rfl (fun x y w => b_add64 _ _ _ x y w (by omega)) rfl)) ?_
          refine rg_put (d := 45) (v := .d (.fl (.bool ((decide (1024 < ((p.theirs.length : Int) + (f.recs.length : Int)))))))) rfl (og rfl (op_bin rfl rfl rfl (b_gtr _ _ _ _) rfl)) ?_
          refine rg_done rfl ?_
          refine a_cond rfl (fun h13 => ?_) (fun h13 => ?_)
          · skip
            have h14 := t_dec h13
            refine a_rseq ?_
            refine rg_put (d := 46) (v := .d (.ag (ePt p))) rfl (og rfl (of_eff (s_load_pts rfl Try.underlying28 rfl ti28 rfl rfl rfl rfl) rfl)) ?_
            refine rg_sto (nw := [(103, .bx 28 (ePt p))]) rfl (og rfl (of_eff (s_store rfl rfl ti28 rfl rfl rfl rfl rfl rfl) rfl)) ?_
            refine rg_put (d := 5) (v := .d (.fl (.int .i64 3))) rfl (og rfl (op_assign rfl rfl rfl)) ?_
            refine rg_done rfl ?_
            refine a_ret ?_
            show ∃ ds, ResL _ _ _ ds ∧ RV.of ds = _
            refine ⟨[.ag [.fl (.string p.name), .fl (.int .i64 p.out), .fl (.int .i64 p.inn), .sl 4 (List.map eFil p.wait), .sl 5 (List.map eRec p.ours), .sl 5 (List.map eRec p.theirs)], .fl (.int .i64 3)], (.cons (.cellT rfl rfl Try.underlying28 rfl ti28 rfl (Cv.ag (xs := [.fl (.string p.name), .fl (.int .i64 p.out), .fl (.int .i64 p.inn), .sl 4 (List.map eFil p.wait), .sl 5 (List.map eRec p.ours), .sl 5 (List.map eRec p.theirs)]) (ys := [.fl (.string p.name), .fl (.int .i64 p.out), .fl (.int .i64 p.inn), .sl 4 (List.map eFil p.wait), .sl 5 (List.map eRec p.ours), .sl 5 (List.map eRec p.theirs)]) ⟨Cv.refl _, Cv.refl _, Cv.refl _, Cv.refl _, Cv.refl _, Cv.refl _, trivial⟩)) (.cons (.tmp rfl (.d _)) .nil)), ?_⟩
            have hsq : (f.seq == p.inn) = true := by have h := h12; unfold tkE at h; rwa [h6, Bool.true_and] at h
            have hu1 : rvP p f = p := by unfold rvP; simp only [hsq, h1, h4, h6, h7, h10, h12, h13, Bool.true_or, Bool.false_or, Bool.or_true, Bool.or_false, Bool.not_true, Bool.not_false, cond_true, cond_false, Bool.true_and, Bool.false_and, Bool.and_true, Bool.and_false] <;> rfl
            have hu2 : rvE p f = 3 := by unfold rvE; simp only [hsq, h1, h4, h6, h7, h10, h12, h13, Bool.true_or, Bool.false_or, Bool.or_true, Bool.or_false, Bool.not_true, Bool.not_false, cond_true, cond_false, Bool.true_and, Bool.false_and, Bool.and_true, Bool.and_false] <;> rfl
            rw [hu1, hu2]; rfl
          · skip
            have h15 := f_dec h13
            refine a_skip ?_
            show A _ _ _ _ _ _ _
            refine a_rseq ?_
            refine rg_put (d := 47) (v := .d (.ag (ePt p))) rfl (og rfl (of_eff (s_load_pts rfl Try.underlying28 rfl ti28 rfl rfl rfl rfl) rfl)) ?_
            refine rg_nam (d := 48) (v := .ow 104) (m := 104) (nw := [(104, .sv [.dv (.fl (.string p.name)), .dv (.fl (.int .i64 p.out)), .dv (.fl (.int .i64 p.inn)), .ow 34 4 (List.map eFil p.wait), .ow 43 5 (List.map eRec p.ours), .ow 43 5 (List.map eRec p.theirs)])]) rfl (og rfl (of_eff (op_callO 104 rfl Try.func19 nm19 rfl (.cons rfl (.d _) .nil) (freshP p hp) rfl) rfl)) rfl ?_
            refine rg_nam (d := 7) (v := .pt 105 0) (m := 105) (nw := [(105, .bx 28 ([.fl (.string (⟨#[]⟩)), .fl (.int .i64 0), .fl (.int .i64 0), .fl (.slice none 0 0), .fl (.slice none 0 0), .fl (.slice none 0 0)]))]) rfl (og rfl (of_eff (s_alloc 105 rfl ti28 (by kernel_rfl) rfl) rfl)) rfl ?_
            refine rg_imp (imp_bt 105 rfl) ?_
            refine rg_sto (nw := [(105, .bt 28 [.dv (.fl (.string p.name)), .dv (.fl (.int .i64 p.out)), .dv (.fl (.int .i64 p.inn)), .ow 34 4 (List.map eFil p.wait), .ow 43 5 (List.map eRec p.ours), .ow 43 5 (List.map eRec p.theirs)]), (104, .no)]) rfl (og rfl (of_eff (op_store_bt rfl rfl ti28 rfl rfl rfl (.sv rfl) rfl rfl rfl) rfl)) ?_
            refine rg_done rfl ?_
            refine a_rseq ?_
            obtain ⟨hs1, hs2⟩ := ck_0 (f := f) (f_bne h1)
            have hsq9 : f.seq = p.inn := by have h := h12; unfold tkE at h; simp only [Bool.and_eq_true, beq_iff_eq] at h; exact h.2
            have hpt := hp.t
            refine rg_put (d := 49) (v := .pt 105 2) rfl (og rfl (of_eff (s_field_pt rfl Try.underlying28 rfl ti3 rfl rfl rfl) rfl)) ?_
            refine rg_put (d := 50) (v := .d (.fl (.int .i64 p.inn))) rfl (og rfl (op_load_bt rfl Try.underlying3 rfl rfl rfl rfl rfl)) ?_
            refine rg_put (d := 51) (v := .d (.fl (.int .i64 (p.inn + 1)))) rfl (og rfl (op_bin rfl rfl rfl (fun x y w => b_add64 _ _ _ x y w (by omega)) rfl)) ?_
            refine rg_put (d := 52) (v := .pt 105 2) rfl (og rfl (of_eff (s_field_pt rfl Try.underlying28 rfl ti3 rfl rfl rfl) rfl)) ?_
            refine rg_sto (nw := [(105, .bt 28 [.dv (.fl (.string p.name)), .dv (.fl (.int .i64 p.out)), .dv (.fl (.int .i64 (p.inn + 1))), .ow 34 4 (List.map eFil p.wait), .ow 43 5 (List.map eRec p.ours), .ow 43 5 (List.map eRec p.theirs)])]) rfl (og rfl (of_eff (op_store_bt rfl rfl ti3 rfl rfl rfl (.d rfl) rfl rfl rfl) rfl)) ?_
            refine rg_done rfl ?_
            refine a_rseq ?_
            refine rg_put (d := 53) (v := .pt 105 5) rfl (og rfl (of_eff (s_field_pt rfl Try.underlying28 rfl ti26 rfl rfl rfl) rfl)) ?_
            refine rg_nam (d := 54) (v := .ow 106) (m := 106) (nw := [(106, .tr 43 5 (tD eRec p.theirs)), (105, .bt 28 [.dv (.fl (.string p.name)), .dv (.fl (.int .i64 p.out)), .dv (.fl (.int .i64 (p.inn + 1))), .ow 34 4 (List.map eFil p.wait), .ow 43 5 (List.map eRec p.ours), .un])]) rfl (og rfl (of_eff (op_takeBt 106 rfl Try.underlying26 rfl rfl rfl rfl rfl rfl) rfl)) rfl ?_
            refine rg_put (d := 55) (v := .pt 102 3) rfl (og rfl (of_eff (s_field_pt rfl Try.underlying34 rfl ti26 rfl rfl rfl) rfl)) ?_
            refine rg_put (d := 56) (v := .d (.sl 5 (List.map eRec f.recs))) rfl (og rfl (op_load_pt rfl Try.underlying26 rfl rfl rfl rfl rfl)) ?_
            refine rg_nam (d := 57) (v := .ow 107) (m := 107) (nw := [(107, .tr 43 5 (tD eRec (p.theirs ++ f.recs))), (106, .no)]) rfl (og rfl (of_eff (s_append_td 107 rfl Try.underlying26 ti43 rfl rfl rfl rfl rfl (.d _) (by first | omega | (simp only [List.length_append, List.length_cons, List.length_nil]; omega) | (simp only [List.length_take, List.length_drop]; omega)) rfl) rfl)) rfl ?_
            refine rg_put (d := 58) (v := .pt 105 5) rfl (og rfl (of_eff (s_field_pt rfl Try.underlying28 rfl ti26 rfl rfl rfl) rfl)) ?_
            refine rg_sto (nw := [(105, .bt 28 [.dv (.fl (.string p.name)), .dv (.fl (.int .i64 p.out)), .dv (.fl (.int .i64 (p.inn + 1))), .ow 34 4 (List.map eFil p.wait), .ow 43 5 (List.map eRec p.ours), .ow 43 5 (List.map eRec (p.theirs ++ f.recs))]), (107, .no)]) rfl (og rfl (of_eff (op_store_bt rfl rfl ti26 rfl rfl rfl (.tr rfl) rfl rfl rfl) rfl)) ?_
            refine rg_done rfl ?_
            refine a_rseq ?_
            refine rg_imp (imp_leakBt 105 (ds := [.fl (.string p.name), .fl (.int .i64 p.out), .fl (.int .i64 (p.inn + 1)), .sl 4 (List.map eFil p.wait), .sl 5 (List.map eRec p.ours), .sl 5 (List.map eRec (p.theirs ++ f.recs))]) rfl rfl rfl) ?_
            refine rg_put (d := 59) (v := .d (.ag (ePt ((Ptn.mk p.name p.out (p.inn + 1) p.wait p.ours (p.theirs ++ f.recs)))))) rfl (og rfl (of_eff (s_load_pts rfl Try.underlying28 rfl ti28 rfl rfl rfl rfl) rfl)) ?_
            refine rg_sto (nw := [(103, .bx 28 ((ePt ((Ptn.mk p.name p.out (p.inn + 1) p.wait p.ours (p.theirs ++ f.recs))))))]) rfl (og rfl (of_eff (s_store rfl rfl ti28 rfl rfl rfl rfl rfl rfl) rfl)) ?_
            refine rg_put (d := 5) (v := .d (.fl (.int .i64 0))) rfl (og rfl (op_assign rfl rfl rfl)) ?_
            refine rg_done rfl ?_
            refine a_ret ?_
            show ∃ ds, ResL _ _ _ ds ∧ RV.of ds = _
            refine ⟨[.ag [.fl (.string ((Ptn.mk p.name p.out (p.inn + 1) p.wait p.ours (p.theirs ++ f.recs)).name)), .fl (.int .i64 ((Ptn.mk p.name p.out (p.inn + 1) p.wait p.ours (p.theirs ++ f.recs)).out)), .fl (.int .i64 ((Ptn.mk p.name p.out (p.inn + 1) p.wait p.ours (p.theirs ++ f.recs)).inn)), .sl 4 (List.map eFil ((Ptn.mk p.name p.out (p.inn + 1) p.wait p.ours (p.theirs ++ f.recs)).wait)), .sl 5 (List.map eRec ((Ptn.mk p.name p.out (p.inn + 1) p.wait p.ours (p.theirs ++ f.recs)).ours)), .sl 5 (List.map eRec ((Ptn.mk p.name p.out (p.inn + 1) p.wait p.ours (p.theirs ++ f.recs)).theirs))], .fl (.int .i64 0)], (.cons (.cellT rfl rfl Try.underlying28 rfl ti28 rfl (Cv.ag (xs := [.fl (.string ((Ptn.mk p.name p.out (p.inn + 1) p.wait p.ours (p.theirs ++ f.recs)).name)), .fl (.int .i64 ((Ptn.mk p.name p.out (p.inn + 1) p.wait p.ours (p.theirs ++ f.recs)).out)), .fl (.int .i64 ((Ptn.mk p.name p.out (p.inn + 1) p.wait p.ours (p.theirs ++ f.recs)).inn)), .sl 4 (List.map eFil ((Ptn.mk p.name p.out (p.inn + 1) p.wait p.ours (p.theirs ++ f.recs)).wait)), .sl 5 (List.map eRec ((Ptn.mk p.name p.out (p.inn + 1) p.wait p.ours (p.theirs ++ f.recs)).ours)), .sl 5 (List.map eRec ((Ptn.mk p.name p.out (p.inn + 1) p.wait p.ours (p.theirs ++ f.recs)).theirs))]) (ys := [.fl (.string ((Ptn.mk p.name p.out (p.inn + 1) p.wait p.ours (p.theirs ++ f.recs)).name)), .fl (.int .i64 ((Ptn.mk p.name p.out (p.inn + 1) p.wait p.ours (p.theirs ++ f.recs)).out)), .fl (.int .i64 ((Ptn.mk p.name p.out (p.inn + 1) p.wait p.ours (p.theirs ++ f.recs)).inn)), .sl 4 (List.map eFil ((Ptn.mk p.name p.out (p.inn + 1) p.wait p.ours (p.theirs ++ f.recs)).wait)), .sl 5 (List.map eRec ((Ptn.mk p.name p.out (p.inn + 1) p.wait p.ours (p.theirs ++ f.recs)).ours)), .sl 5 (List.map eRec ((Ptn.mk p.name p.out (p.inn + 1) p.wait p.ours (p.theirs ++ f.recs)).theirs))]) ⟨Cv.refl _, Cv.refl _, Cv.refl _, Cv.refl _, Cv.refl _, Cv.refl _, trivial⟩)) (.cons (.tmp rfl (.d _)) .nil)), ?_⟩
            have hsq : (f.seq == p.inn) = true := by have h := h12; unfold tkE at h; rwa [h6, Bool.true_and] at h
            have hu1 : rvP p f = (⟨p.name, p.out, p.inn + 1, p.wait, p.ours, p.theirs ++ f.recs⟩ : Ptn) := by unfold rvP; simp only [hsq, h1, h4, h6, h7, h10, h12, h13, Bool.true_or, Bool.false_or, Bool.or_true, Bool.or_false, Bool.not_true, Bool.not_false, cond_true, cond_false, Bool.true_and, Bool.false_and, Bool.and_true, Bool.and_false] <;> rfl
            have hu2 : rvE p f = 0 := by unfold rvE; simp only [hsq, h1, h4, h6, h7, h10, h12, h13, Bool.true_or, Bool.false_or, Bool.or_true, Bool.or_false, Bool.not_true, Bool.not_false, cond_true, cond_false, Bool.true_and, Bool.false_and, Bool.and_true, Bool.and_false] <;> rfl
            rw [hu1, hu2]; rfl
structure okQ (p : Ptn) : Prop where
  o : p.ours.length ≤ 3000
  t : p.theirs.length ≤ 3000
  w : p.wait.length ≤ 50
  r : ∀ x ∈ p.wait, x.recs.length ≤ 1100

def zF : Fil := ⟨⟨#[]⟩, ⟨#[]⟩, 0, []⟩
def f0 (p : Ptn) (fr : ByteArray) (l : List Rec) : Fil := ⟨fr, p.name, p.out, l⟩
def tooB (p : Ptn) (l : List Rec) : Bool := decide (1024 ≤ (p.wait.length : Int)) || decide (1024 < (p.ours.length : Int) + (l.length : Int))
noncomputable def sdP (p : Ptn) (fr : ByteArray) (l : List Rec) : Ptn := bif ckF (f0 p fr l) != 0 then p else bif tooB p l then p else ⟨p.name, p.out + 1, p.inn, p.wait ++ [f0 p fr l], p.ours ++ l, p.theirs⟩
noncomputable def sdF (p : Ptn) (fr : ByteArray) (l : List Rec) : Fil := bif ckF (f0 p fr l) != 0 then zF else bif tooB p l then zF else f0 p fr l
noncomputable def sdE (p : Ptn) (fr : ByteArray) (l : List Rec) : Int := bif ckF (f0 p fr l) != 0 then ckF (f0 p fr l) else bif tooB p l then 3 else 0
theorem sd_a {p : Ptn} {fr : ByteArray} {l : List Rec} (h : (ckF (f0 p fr l) != 0) = true) : sdP p fr l = p ∧ sdF p fr l = zF ∧ sdE p fr l = ckF (f0 p fr l) := by unfold sdP sdF sdE; rw [h]; exact ⟨rfl, rfl, rfl⟩
theorem sd_b {p : Ptn} {fr : ByteArray} {l : List Rec} (h : (ckF (f0 p fr l) != 0) = false) (h2 : tooB p l = true) : sdP p fr l = p ∧ sdF p fr l = zF ∧ sdE p fr l = 3 := by unfold sdP sdF sdE; rw [h, h2]; exact ⟨rfl, rfl, rfl⟩
theorem sd_c {p : Ptn} {fr : ByteArray} {l : List Rec} (h : (ckF (f0 p fr l) != 0) = false) (h2 : tooB p l = false) : sdP p fr l = ⟨p.name, p.out + 1, p.inn, p.wait ++ [f0 p fr l], p.ours ++ l, p.theirs⟩ ∧ sdF p fr l = f0 p fr l ∧ sdE p fr l = 0 := by unfold sdP sdF sdE; rw [h, h2]; exact ⟨rfl, rfl, rfl⟩
def zP : Ptn := ⟨⟨#[]⟩, 0, 0, [], [], []⟩
noncomputable def nwP (s : ByteArray) : Ptn := bif Nm.nmB s then ⟨s, 1, 1, [], [], []⟩ else zP
noncomputable def nwE (s : ByteArray) : Int := bif Nm.nmB s then 0 else 6
theorem nw_t {s : ByteArray} (h : Nm.nmB s = true) : nwP s = ⟨s, 1, 1, [], [], []⟩ ∧ nwE s = 0 := by unfold nwP nwE; rw [h]; exact ⟨rfl, rfl⟩
theorem nw_f {s : ByteArray} (h : Nm.nmB s = false) : nwP s = zP ∧ nwE s = 6 := by unfold nwP nwE; rw [h]; exact ⟨rfl, rfl⟩
theorem sdP_ok {p : Ptn} {fr : ByteArray} {l : List Rec} (hp : okP p) (hl : l.length ≤ 1100) : okQ (sdP p fr l) := by
  have h0 : okQ p := ⟨by have := hp.o; omega, by have := hp.t; omega, by have := hp.w; omega, hp.r⟩
  cases h : (ckF (f0 p fr l) != 0) with
  | true => rw [(sd_a h).1]; exact h0
  | false =>
    cases h2 : tooB p l with
    | true => rw [(sd_b h h2).1]; exact h0
    | false =>
      rw [(sd_c h h2).1]
      refine ⟨?_, h0.t, ?_, fun x hx => ?_⟩
      · show (p.ours ++ l).length ≤ 3000
        rw [List.length_append]; have := hp.o; omega
      · show (p.wait ++ [f0 p fr l]).length ≤ 50
        rw [List.length_append]; have := hp.w; simp only [List.length_cons, List.length_nil]; omega
      · have hx : x ∈ p.wait ++ [f0 p fr l] := hx
        rcases List.mem_append.1 hx with h | h
        · exact hp.r x h
        · rw [List.mem_singleton] at h; rw [h]; exact hl
theorem sdF_r {p : Ptn} {fr : ByteArray} {l : List Rec} (hl : l.length ≤ 1100) : (sdF p fr l).recs.length ≤ 1100 := by
  unfold sdF
  cases (ckF (f0 p fr l) != 0) <;> cases (tooB p l) <;> first | (show (0 : Nat) ≤ 1100; omega) | exact hl
theorem nwP_ok (s : ByteArray) : okQ (nwP s) := by
  cases h : Nm.nmB s with
  | true => rw [(nw_t h).1]; exact ⟨by show (0 : Nat) ≤ 3000; omega, by show (0 : Nat) ≤ 3000; omega, by show (0 : Nat) ≤ 50; omega, fun x hx => by cases hx⟩
  | false => rw [(nw_f h).1]; exact ⟨by show (0 : Nat) ≤ 3000; omega, by show (0 : Nat) ≤ 3000; omega, by show (0 : Nat) ≤ 50; omega, fun x hx => by cases hx⟩

set_option maxHeartbeats 4000000 in
set_option maxRecDepth 100000 in
theorem sdC (p : Ptn) (fr : ByteArray) (l : List Rec) (hp : okP p) (hkk : ∀ x ∈ l, x.key.size ≤ 300) (hl : l.length ≤ 1100) : Ctr Try.prog 7 [.ag (ePt p), .fl (.string fr), .sl 5 (List.map eRec l)] (.tu [.ag (ePt (sdP p fr l)), .ag (eFil (sdF p fr l)), .fl (.int .i64 (sdE p fr l))]) := by
  refine ctr (n := 62) (rs := #[.cell 6 28, .cell 7 34, .tmp 8]) (L := [(0, .d (.ag (ePt p))), (1, .d (.fl (.string fr))), (2, .d (.sl 5 (List.map eRec l)))]) Try.func7 rfl rfl rfl rfl rfl (fun w0 U0 => ?_)
  refine a_rseq ?_
  refine rg_nam (d := 3) (v := .pt 101 0) (m := 101) (nw := [(101, .bx 28 (ePt p))]) rfl (og rfl (of_eff (op_box 101 rfl rfl rfl rfl) rfl)) rfl ?_
  refine rg_nam (d := 6) (v := .pt 102 0) (m := 102) (nw := [(102, .bx 28 ([.fl (.string (⟨#[]⟩)), .fl (.int .i64 0), .fl (.int .i64 0), .fl (.slice none 0 0), .fl (.slice none 0 0), .fl (.slice none 0 0)]))]) rfl (og rfl (of_eff (s_alloc 102 rfl ti28 (by kernel_rfl) rfl) rfl)) rfl ?_
  refine rg_nam (d := 7) (v := .pt 103 0) (m := 103) (nw := [(103, .bx 34 ([.fl (.string (⟨#[]⟩)), .fl (.string (⟨#[]⟩)), .fl (.int .i64 0), .fl (.slice none 0 0)]))]) rfl (og rfl (of_eff (s_alloc 103 rfl ti34 (by kernel_rfl) rfl) rfl)) rfl ?_
  refine rg_put (d := 8) (v := .d (.fl (.int .i64 0))) rfl (og rfl (op_assign rfl rfl rfl)) ?_
  refine rg_done rfl ?_
  refine a_rseq ?_
  refine rg_put (d := 12) (v := .d (.fl (.string fr))) rfl (og rfl (op_move rfl rfl rfl)) ?_
  refine rg_put (d := 13) (v := .pt 101 0) rfl (og rfl (of_eff (s_field_pt rfl Try.underlying28 rfl ti9 rfl rfl rfl) rfl)) ?_
  refine rg_put (d := 14) (v := .d (.fl (.string p.name))) rfl (og rfl (op_load_pt rfl Try.underlying9 rfl rfl rfl rfl rfl)) ?_
  refine rg_put (d := 15) (v := .pt 101 1) rfl (og rfl (of_eff (s_field_pt rfl Try.underlying28 rfl ti3 rfl rfl rfl) rfl)) ?_
  refine rg_put (d := 16) (v := .d (.fl (.int .i64 p.out))) rfl (og rfl (op_load_pt rfl Try.underlying3 rfl rfl rfl rfl rfl)) ?_
  refine rg_put (d := 17) (v := .d (.sl 5 (List.map eRec l))) rfl (og rfl (op_move rfl rfl rfl)) ?_
  refine rg_put (d := 18) (v := .d (.ag (eFil (Fil.mk fr p.name p.out l)))) rfl (og rfl (of_eff (op_build rfl Try.underlying34 ti34 rfl (by kernel_rfl) (by kernel_rfl) (pl := #[(0, 1), (1, 1), (2, 1), (3, 1)]) (by kernel_rfl) (.cons rfl rfl (.d _) rfl rfl rfl (.cons rfl rfl (.d _) rfl rfl rfl (.cons rfl rfl (.d _) rfl rfl rfl (.cons rfl rfl (.d _) rfl rfl rfl .nil)))) rfl) rfl)) ?_
  refine rg_put (d := 19) (v := .d (.ag (eFil (f0 p fr l)))) rfl (og rfl (op_call rfl Try.func17 nm17 rfl (.cons rfl (.d _) .nil) (copyF (f0 p fr l) hl) rfl)) ?_
  refine rg_nam (d := 9) (v := .pt 104 0) (m := 104) (nw := [(104, .bx 34 ([.fl (.string (⟨#[]⟩)), .fl (.string (⟨#[]⟩)), .fl (.int .i64 0), .fl (.slice none 0 0)]))]) rfl (og rfl (of_eff (s_alloc 104 rfl ti34 (by kernel_rfl) rfl) rfl)) rfl ?_
  refine rg_sto (nw := [(104, .bx 34 ((eFil (f0 p fr l))))]) rfl (og rfl (of_eff (s_store rfl rfl ti34 rfl rfl rfl rfl rfl rfl) rfl)) ?_
  refine rg_done rfl ?_
  refine a_seq ?_
  refine a_rseq ?_
  refine rg_put (d := 20) (v := .d (.ag (eFil (f0 p fr l)))) rfl (og rfl (of_eff (s_load_pts rfl Try.underlying34 rfl ti34 rfl rfl rfl rfl) rfl)) ?_
  refine rg_put (d := 21) (v := .d (.fl (.int .i64 ((ckF (f0 p fr l)))))) rfl (og rfl (op_call rfl Try.func18 nm18 rfl (.cons rfl (.d _) .nil) (ckP (f0 p fr l) hkk) rfl)) ?_
  refine rg_put (d := 10) (v := .d (.fl (.int .i64 ((ckF (f0 p fr l)))))) rfl (og rfl (op_assign rfl rfl rfl)) ?_
  refine rg_done rfl ?_
  refine a_rseq ?_
  refine rg_put (d := 22) (v := .d (.fl (.int .i64 ((ckF (f0 p fr l)))))) rfl (og rfl (op_move rfl rfl rfl)) ?_
  refine rg_put (d := 23) (v := .d (.fl (.bool (((ckF (f0 p fr l)) != 0))))) rfl (og rfl (op_bin rfl rfl rfl (b_neq _ _ _ _) rfl)) ?_
  refine rg_done rfl ?_
  refine a_cond rfl (fun h1 => ?_) (fun h1 => ?_)
  · skip
    have h2 := t_bne h1
    refine a_rseq ?_
    refine rg_put (d := 24) (v := .d (.ag (ePt p))) rfl (og rfl (of_eff (s_load_pts rfl Try.underlying28 rfl ti28 rfl rfl rfl rfl) rfl)) ?_
    refine rg_put (d := 25) (v := .d (.ag [.fl (.string (⟨#[]⟩)), .fl (.string (⟨#[]⟩)), .fl (.int .i64 0), .fl (.slice none 0 0)])) rfl (og rfl (of_eff (op_build rfl Try.underlying34 ti34 rfl (by kernel_rfl) (by kernel_rfl) (pl := #[(0, 1), (1, 1), (2, 1), (3, 1)]) (by kernel_rfl) .nil rfl) rfl)) ?_
    refine rg_put (d := 26) (v := .d (.fl (.int .i64 ((ckF (f0 p fr l)))))) rfl (og rfl (op_move rfl rfl rfl)) ?_
    refine rg_sto (nw := [(102, .bx 28 (ePt p))]) rfl (og rfl (of_eff (s_store rfl rfl ti28 rfl rfl rfl rfl rfl rfl) rfl)) ?_
    refine rg_sto (nw := [(103, .bx 34 ([.fl (.string (⟨#[]⟩)), .fl (.string (⟨#[]⟩)), .fl (.int .i64 0), .fl (.slice none 0 0)]))]) rfl (og rfl (of_eff (s_store rfl rfl ti34 rfl rfl rfl rfl rfl rfl) rfl)) ?_
    refine rg_put (d := 8) (v := .d (.fl (.int .i64 ((ckF (f0 p fr l)))))) rfl (og rfl (op_assign rfl rfl rfl)) ?_
    refine rg_done rfl ?_
    refine a_ret ?_
    show ∃ ds, ResL _ _ _ ds ∧ RV.of ds = _
    refine ⟨[.ag [.fl (.string p.name), .fl (.int .i64 p.out), .fl (.int .i64 p.inn), .sl 4 (List.map eFil p.wait), .sl 5 (List.map eRec p.ours), .sl 5 (List.map eRec p.theirs)], .ag [.fl (.string (⟨#[]⟩)), .fl (.string (⟨#[]⟩)), .fl (.int .i64 0), .sl 5 (List.map eRec [])], .fl (.int .i64 ((ckF (f0 p fr l))))], (.cons (.cellT rfl rfl Try.underlying28 rfl ti28 rfl (Cv.ag (xs := [.fl (.string p.name), .fl (.int .i64 p.out), .fl (.int .i64 p.inn), .sl 4 (List.map eFil p.wait), .sl 5 (List.map eRec p.ours), .sl 5 (List.map eRec p.theirs)]) (ys := [.fl (.string p.name), .fl (.int .i64 p.out), .fl (.int .i64 p.inn), .sl 4 (List.map eFil p.wait), .sl 5 (List.map eRec p.ours), .sl 5 (List.map eRec p.theirs)]) ⟨Cv.refl _, Cv.refl _, Cv.refl _, Cv.refl _, Cv.refl _, Cv.refl _, trivial⟩)) (.cons (.cellT rfl rfl Try.underlying34 rfl ti34 rfl (Cv.ag (xs := [.fl (.string (⟨#[]⟩)), .fl (.string (⟨#[]⟩)), .fl (.int .i64 0), .fl (.slice none 0 0)]) (ys := [.fl (.string (⟨#[]⟩)), .fl (.string (⟨#[]⟩)), .fl (.int .i64 0), .sl 5 (List.map eRec [])]) ⟨Cv.refl _, Cv.refl _, Cv.refl _, Cv.nil _, trivial⟩)) (.cons (.tmp rfl (.d _)) .nil))), ?_⟩
    obtain ⟨hu1, hu2, hu3⟩ := sd_a h1
    rw [hu1, hu2, hu3]; rfl
  · skip
    have h3 := f_bne h1
    refine a_skip ?_
    show A _ _ _ _ _ _ _
    refine a_seq ?_
    refine a_rseq ?_
    have hpw := hp.w
    have hpo := hp.o
    refine rg_put (d := 27) (v := .pt 101 3) rfl (og rfl (of_eff (s_field_pt rfl Try.underlying28 rfl ti25 rfl rfl rfl) rfl)) ?_
    refine rg_put (d := 28) (v := .d (.sl 4 (List.map eFil p.wait))) rfl (og rfl (op_load_pt rfl Try.underlying25 rfl rfl rfl rfl rfl)) ?_
    refine rg_put (d := 29) (v := .d (.fl (.int .i64 (p.wait.length : Int)))) rfl (og rfl (s_len rfl Try.underlying25 rfl rfl)) ?_
    refine rg_put (d := 30) (v := .d (.fl (.bool ((decide (1024 ≤ (p.wait.length : Int))))))) rfl (og rfl (op_bin rfl rfl rfl (b_geq _ _ _ _) rfl)) ?_
    refine rg_put (d := 31) (v := .d (.fl (.bool ((decide (1024 ≤ (p.wait.length : Int))))))) rfl (og rfl (op_move rfl rfl rfl)) ?_
    rcases fot ((decide (1024 ≤ (p.wait.length : Int)))) with h4 | h4
    · skip
      have h5 := f_dec h4
      refine rg_put (d := 32) (v := .pt 101 4) rfl (oy rfl rfl rfl h4 (of_eff (s_field_pt rfl Try.underlying28 rfl ti26 rfl rfl rfl) rfl)) ?_
      refine rg_put (d := 33) (v := .d (.sl 5 (List.map eRec p.ours))) rfl (oy rfl rfl rfl h4 (op_load_pt rfl Try.underlying26 rfl rfl rfl rfl rfl)) ?_
      refine rg_put (d := 34) (v := .d (.fl (.int .i64 (p.ours.length : Int)))) rfl (oy rfl rfl rfl h4 (s_len rfl Try.underlying26 rfl rfl)) ?_
      refine rg_put (d := 35) (v := .d (.sl 5 (List.map eRec l))) rfl (oy rfl rfl rfl h4 (op_move rfl rfl rfl)) ?_
      refine rg_put (d := 36) (v := .d (.fl (.int .i64 (l.length : Int)))) rfl (oy rfl rfl rfl h4 (s_len rfl Try.underlying26 rfl rfl)) ?_
      refine rg_put (d := 37) (v := .d (.fl (.int .i64 (((p.ours.length : Int) + (l.length : Int)))))) rfl (oy rfl rfl rfl h4 (op_bin rfl rfl rfl (fun x y w => b_add64 _ _ _ x y w (by omega)) rfl)) ?_
      refine rg_put (d := 38) (v := .d (.fl (.bool ((decide (1024 < ((p.ours.length : Int) + (l.length : Int)))))))) rfl (oy rfl rfl rfl h4 (op_bin rfl rfl rfl (b_gtr _ _ _ _) rfl)) ?_
      refine rg_put (d := 39) (v := .d (.fl (.bool ((decide (1024 < ((p.ours.length : Int) + (l.length : Int)))))))) rfl (og rfl (op_pick rfl rfl (by rw [h4]; rfl) rfl)) ?_
      refine rg_done rfl ?_
      refine a_cond rfl (fun h6 => ?_) (fun h6 => ?_)
      · skip
        have h7 := t_dec h6
        refine a_rseq ?_
        refine rg_put (d := 40) (v := .d (.ag (ePt p))) rfl (og rfl (of_eff (s_load_pts rfl Try.underlying28 rfl ti28 rfl rfl rfl rfl) rfl)) ?_
        refine rg_put (d := 41) (v := .d (.ag [.fl (.string (⟨#[]⟩)), .fl (.string (⟨#[]⟩)), .fl (.int .i64 0), .fl (.slice none 0 0)])) rfl (og rfl (of_eff (op_build rfl Try.underlying34 ti34 rfl (by kernel_rfl) (by kernel_rfl) (pl := #[(0, 1), (1, 1), (2, 1), (3, 1)]) (by kernel_rfl) .nil rfl) rfl)) ?_
        refine rg_sto (nw := [(102, .bx 28 (ePt p))]) rfl (og rfl (of_eff (s_store rfl rfl ti28 rfl rfl rfl rfl rfl rfl) rfl)) ?_
        refine rg_sto (nw := [(103, .bx 34 ([.fl (.string (⟨#[]⟩)), .fl (.string (⟨#[]⟩)), .fl (.int .i64 0), .fl (.slice none 0 0)]))]) rfl (og rfl (of_eff (s_store rfl rfl ti34 rfl rfl rfl rfl rfl rfl) rfl)) ?_
        refine rg_put (d := 8) (v := .d (.fl (.int .i64 3))) rfl (og rfl (op_assign rfl rfl rfl)) ?_
        refine rg_done rfl ?_
        refine a_ret ?_
        show ∃ ds, ResL _ _ _ ds ∧ RV.of ds = _
        refine ⟨[.ag [.fl (.string p.name), .fl (.int .i64 p.out), .fl (.int .i64 p.inn), .sl 4 (List.map eFil p.wait), .sl 5 (List.map eRec p.ours), .sl 5 (List.map eRec p.theirs)], .ag [.fl (.string (⟨#[]⟩)), .fl (.string (⟨#[]⟩)), .fl (.int .i64 0), .sl 5 (List.map eRec [])], .fl (.int .i64 3)], (.cons (.cellT rfl rfl Try.underlying28 rfl ti28 rfl (Cv.ag (xs := [.fl (.string p.name), .fl (.int .i64 p.out), .fl (.int .i64 p.inn), .sl 4 (List.map eFil p.wait), .sl 5 (List.map eRec p.ours), .sl 5 (List.map eRec p.theirs)]) (ys := [.fl (.string p.name), .fl (.int .i64 p.out), .fl (.int .i64 p.inn), .sl 4 (List.map eFil p.wait), .sl 5 (List.map eRec p.ours), .sl 5 (List.map eRec p.theirs)]) ⟨Cv.refl _, Cv.refl _, Cv.refl _, Cv.refl _, Cv.refl _, Cv.refl _, trivial⟩)) (.cons (.cellT rfl rfl Try.underlying34 rfl ti34 rfl (Cv.ag (xs := [.fl (.string (⟨#[]⟩)), .fl (.string (⟨#[]⟩)), .fl (.int .i64 0), .fl (.slice none 0 0)]) (ys := [.fl (.string (⟨#[]⟩)), .fl (.string (⟨#[]⟩)), .fl (.int .i64 0), .sl 5 (List.map eRec [])]) ⟨Cv.refl _, Cv.refl _, Cv.refl _, Cv.nil _, trivial⟩)) (.cons (.tmp rfl (.d _)) .nil))), ?_⟩
        have htb : tooB p l = true := by unfold tooB; simp only [h1, h4, h6, Bool.true_or, Bool.false_or, Bool.or_true, Bool.or_false, Bool.not_true, Bool.not_false, cond_true, cond_false, Bool.true_and, Bool.false_and, Bool.and_true, Bool.and_false] <;> rfl
        obtain ⟨hu1, hu2, hu3⟩ := sd_b h1 htb
        rw [hu1, hu2, hu3]; rfl
      · skip
        have h8 := f_dec h6
        refine a_skip ?_
        show A _ _ _ _ _ _ _
        refine a_rseq ?_
        refine rg_put (d := 42) (v := .d (.ag (ePt p))) rfl (og rfl (of_eff (s_load_pts rfl Try.underlying28 rfl ti28 rfl rfl rfl rfl) rfl)) ?_
        refine rg_nam (d := 43) (v := .ow 105) (m := 105) (nw := [(105, .sv [.dv (.fl (.string p.name)), .dv (.fl (.int .i64 p.out)), .dv (.fl (.int .i64 p.inn)), .ow 34 4 (List.map eFil p.wait), .ow 43 5 (List.map eRec p.ours), .ow 43 5 (List.map eRec p.theirs)])]) rfl (og rfl (of_eff (op_callO 105 rfl Try.func19 nm19 rfl (.cons rfl (.d _) .nil) (freshP p hp) rfl) rfl)) rfl ?_
        refine rg_nam (d := 11) (v := .pt 106 0) (m := 106) (nw := [(106, .bx 28 ([.fl (.string (⟨#[]⟩)), .fl (.int .i64 0), .fl (.int .i64 0), .fl (.slice none 0 0), .fl (.slice none 0 0), .fl (.slice none 0 0)]))]) rfl (og rfl (of_eff (s_alloc 106 rfl ti28 (by kernel_rfl) rfl) rfl)) rfl ?_
        refine rg_imp (imp_bt 106 rfl) ?_
        refine rg_sto (nw := [(106, .bt 28 [.dv (.fl (.string p.name)), .dv (.fl (.int .i64 p.out)), .dv (.fl (.int .i64 p.inn)), .ow 34 4 (List.map eFil p.wait), .ow 43 5 (List.map eRec p.ours), .ow 43 5 (List.map eRec p.theirs)]), (105, .no)]) rfl (og rfl (of_eff (op_store_bt rfl rfl ti28 rfl rfl rfl (.sv rfl) rfl rfl rfl) rfl)) ?_
        refine rg_done rfl ?_
        refine a_rseq ?_
        obtain ⟨⟨hs1, hs2⟩, hs3⟩ := ck_0 (f := f0 p fr l) (f_bne h1)
        have hs1 : 1 ≤ p.out := hs1
        have hs2 : p.out ≤ 2147483648 := hs2
        refine rg_put (d := 44) (v := .pt 106 1) rfl (og rfl (of_eff (s_field_pt rfl Try.underlying28 rfl ti3 rfl rfl rfl) rfl)) ?_
        refine rg_put (d := 45) (v := .d (.fl (.int .i64 p.out))) rfl (og rfl (op_load_bt rfl Try.underlying3 rfl rfl rfl rfl rfl)) ?_
        refine rg_put (d := 46) (v := .d (.fl (.int .i64 (p.out + 1)))) rfl (og rfl (op_bin rfl rfl rfl (fun x y w => b_add64 _ _ _ x y w (by omega)) rfl)) ?_
        refine rg_put (d := 47) (v := .pt 106 1) rfl (og rfl (of_eff (s_field_pt rfl Try.underlying28 rfl ti3 rfl rfl rfl) rfl)) ?_
        refine rg_sto (nw := [(106, .bt 28 [.dv (.fl (.string p.name)), .dv (.fl (.int .i64 (p.out + 1))), .dv (.fl (.int .i64 p.inn)), .ow 34 4 (List.map eFil p.wait), .ow 43 5 (List.map eRec p.ours), .ow 43 5 (List.map eRec p.theirs)])]) rfl (og rfl (of_eff (op_store_bt rfl rfl ti3 rfl rfl rfl (.d rfl) rfl rfl rfl) rfl)) ?_
        refine rg_done rfl ?_
        refine a_dseq (by kernel_rfl) ?_
        refine dr_put (d := 48) (v := .pt 106 3) rfl (og rfl (of_eff (s_field_pt rfl Try.underlying28 rfl ti25 rfl rfl rfl) rfl)) ?_
        refine dr_nam (d := 49) (v := .ow 107) (m := 107) (nw := [(107, .tr 34 4 (tD eFil p.wait)), (106, .bt 28 [.dv (.fl (.string p.name)), .dv (.fl (.int .i64 (p.out + 1))), .dv (.fl (.int .i64 p.inn)), .un, .ow 43 5 (List.map eRec p.ours), .ow 43 5 (List.map eRec p.theirs)])]) rfl (og rfl (of_eff (op_takeBt 107 rfl Try.underlying25 rfl rfl rfl rfl rfl rfl) rfl)) ?_
        refine dr_put (d := 50) (v := .d (.ag (eFil (f0 p fr l)))) rfl (og rfl (of_eff (s_load_pts rfl Try.underlying34 rfl ti34 rfl rfl rfl rfl) rfl)) ?_
        refine dr_put (d := 51) (v := .d (.ag (eFil (f0 p fr l)))) rfl (og rfl (op_call rfl Try.func17 nm17 rfl (.cons rfl (.d _) .nil) (copyF (f0 p fr l) hl) rfl)) ?_
        refine dr_put (d := 52) (v := .d (.sl 4 (List.map eFil [(f0 p fr l)]))) rfl (og rfl (of_eff (op_slices rfl Try.underlying25 ti34 rfl rfl rfl (by kernel_rfl) (xs := [.ag (eFil (f0 p fr l))]) rfl rfl (.cons rfl rfl (.d _) rfl rfl rfl .nil) rfl) rfl)) ?_
        refine dr_nam (d := 53) (v := .ow 108) (m := 108) (nw := [(108, .tr 34 4 (tD eFil ((p.wait ++ [(f0 p fr l)])))), (107, .no)]) rfl (og rfl (of_eff (s_append_td 108 rfl Try.underlying25 ti34 rfl rfl rfl rfl rfl (.d _) (by first | omega | (simp only [List.length_append, List.length_cons, List.length_nil]; omega) | (simp only [List.length_take, List.length_drop]; omega)) rfl) rfl)) ?_
        refine dr_put (d := 54) (v := .pt 106 3) rfl (og rfl (of_eff (s_field_pt rfl Try.underlying28 rfl ti25 rfl rfl rfl) rfl)) ?_
        refine dr_sto (nw := [(106, .bt 28 [.dv (.fl (.string p.name)), .dv (.fl (.int .i64 (p.out + 1))), .dv (.fl (.int .i64 p.inn)), .ow 34 4 (List.map eFil ((p.wait ++ [(f0 p fr l)]))), .ow 43 5 (List.map eRec p.ours), .ow 43 5 (List.map eRec p.theirs)]), (108, .no)]) rfl (og rfl (of_eff (op_store_bt rfl rfl ti25 rfl rfl rfl (.tr rfl) rfl rfl rfl) rfl)) ?_
        refine dr_done rfl (by kernel_rfl) (by kernel_rfl) ?_
        refine a_rseq ?_
        refine rg_put (d := 55) (v := .pt 106 4) rfl (og rfl (of_eff (s_field_pt rfl Try.underlying28 rfl ti26 rfl rfl rfl) rfl)) ?_
        refine rg_nam (d := 56) (v := .ow 109) (m := 109) (nw := [(109, .tr 43 5 (tD eRec p.ours)), (106, .bt 28 [.dv (.fl (.string p.name)), .dv (.fl (.int .i64 (p.out + 1))), .dv (.fl (.int .i64 p.inn)), .ow 34 4 (List.map eFil ((p.wait ++ [(f0 p fr l)]))), .un, .ow 43 5 (List.map eRec p.theirs)])]) rfl (og rfl (of_eff (op_takeBt 109 rfl Try.underlying26 rfl rfl rfl rfl rfl rfl) rfl)) rfl ?_
        refine rg_put (d := 57) (v := .d (.sl 5 (List.map eRec l))) rfl (og rfl (op_move rfl rfl rfl)) ?_
        refine rg_nam (d := 58) (v := .ow 110) (m := 110) (nw := [(110, .tr 43 5 (tD eRec (p.ours ++ l))), (109, .no)]) rfl (og rfl (of_eff (s_append_td 110 rfl Try.underlying26 ti43 rfl rfl rfl rfl rfl (.d _) (by first | omega | (simp only [List.length_append, List.length_cons, List.length_nil]; omega) | (simp only [List.length_take, List.length_drop]; omega)) rfl) rfl)) rfl ?_
        refine rg_put (d := 59) (v := .pt 106 4) rfl (og rfl (of_eff (s_field_pt rfl Try.underlying28 rfl ti26 rfl rfl rfl) rfl)) ?_
        refine rg_sto (nw := [(106, .bt 28 [.dv (.fl (.string p.name)), .dv (.fl (.int .i64 (p.out + 1))), .dv (.fl (.int .i64 p.inn)), .ow 34 4 (List.map eFil ((p.wait ++ [(f0 p fr l)]))), .ow 43 5 (List.map eRec (p.ours ++ l)), .ow 43 5 (List.map eRec p.theirs)]), (110, .no)]) rfl (og rfl (of_eff (op_store_bt rfl rfl ti26 rfl rfl rfl (.tr rfl) rfl rfl rfl) rfl)) ?_
        refine rg_imp (imp_leakBt 106 (ds := [.fl (.string p.name), .fl (.int .i64 (p.out + 1)), .fl (.int .i64 p.inn), .sl 4 (List.map eFil ((p.wait ++ [(f0 p fr l)]))), .sl 5 (List.map eRec (p.ours ++ l)), .sl 5 (List.map eRec p.theirs)]) rfl rfl rfl) ?_
        refine rg_done rfl ?_
        refine a_dseq (by kernel_rfl) ?_
        refine dr_put (d := 60) (v := .d (.ag (ePt ((Ptn.mk p.name (p.out + 1) p.inn ((p.wait ++ [(f0 p fr l)])) (p.ours ++ l) p.theirs))))) rfl (og rfl (of_eff (s_load_pts rfl Try.underlying28 rfl ti28 rfl rfl rfl rfl) rfl)) ?_
        refine dr_put (d := 61) (v := .d (.ag (eFil (f0 p fr l)))) rfl (og rfl (of_eff (s_load_pts rfl Try.underlying34 rfl ti34 rfl rfl rfl rfl) rfl)) ?_
        refine dr_sto (nw := [(102, .bx 28 ((ePt ((Ptn.mk p.name (p.out + 1) p.inn ((p.wait ++ [(f0 p fr l)])) (p.ours ++ l) p.theirs)))))]) rfl (og rfl (of_eff (s_store rfl rfl ti28 rfl rfl rfl rfl rfl rfl) rfl)) ?_
        refine dr_sto (nw := [(103, .bx 34 ((eFil (f0 p fr l))))]) rfl (og rfl (of_eff (s_store rfl rfl ti34 rfl rfl rfl rfl rfl rfl) rfl)) ?_
        refine dr_put (d := 8) (v := .d (.fl (.int .i64 0))) rfl (og rfl (op_assign rfl rfl rfl)) ?_
        refine dr_done rfl (by kernel_rfl) (by kernel_rfl) ?_
        refine a_ret ?_
        show ∃ ds, ResL _ _ _ ds ∧ RV.of ds = _
        refine ⟨[.ag [.fl (.string ((Ptn.mk p.name (p.out + 1) p.inn (p.wait ++ [(f0 p fr l)]) (p.ours ++ l) p.theirs).name)), .fl (.int .i64 ((Ptn.mk p.name (p.out + 1) p.inn (p.wait ++ [(f0 p fr l)]) (p.ours ++ l) p.theirs).out)), .fl (.int .i64 ((Ptn.mk p.name (p.out + 1) p.inn (p.wait ++ [(f0 p fr l)]) (p.ours ++ l) p.theirs).inn)), .sl 4 (List.map eFil ((Ptn.mk p.name (p.out + 1) p.inn (p.wait ++ [(f0 p fr l)]) (p.ours ++ l) p.theirs).wait)), .sl 5 (List.map eRec ((Ptn.mk p.name (p.out + 1) p.inn (p.wait ++ [(f0 p fr l)]) (p.ours ++ l) p.theirs).ours)), .sl 5 (List.map eRec ((Ptn.mk p.name (p.out + 1) p.inn (p.wait ++ [(f0 p fr l)]) (p.ours ++ l) p.theirs).theirs))], .ag [.fl (.string ((f0 p fr l).fr)), .fl (.string ((f0 p fr l).to)), .fl (.int .i64 ((f0 p fr l).seq)), .sl 5 (List.map eRec ((f0 p fr l).recs))], .fl (.int .i64 0)], (.cons (.cellT rfl rfl Try.underlying28 rfl ti28 rfl (Cv.ag (xs := [.fl (.string ((Ptn.mk p.name (p.out + 1) p.inn (p.wait ++ [(f0 p fr l)]) (p.ours ++ l) p.theirs).name)), .fl (.int .i64 ((Ptn.mk p.name (p.out + 1) p.inn (p.wait ++ [(f0 p fr l)]) (p.ours ++ l) p.theirs).out)), .fl (.int .i64 ((Ptn.mk p.name (p.out + 1) p.inn (p.wait ++ [(f0 p fr l)]) (p.ours ++ l) p.theirs).inn)), .sl 4 (List.map eFil ((Ptn.mk p.name (p.out + 1) p.inn (p.wait ++ [(f0 p fr l)]) (p.ours ++ l) p.theirs).wait)), .sl 5 (List.map eRec ((Ptn.mk p.name (p.out + 1) p.inn (p.wait ++ [(f0 p fr l)]) (p.ours ++ l) p.theirs).ours)), .sl 5 (List.map eRec ((Ptn.mk p.name (p.out + 1) p.inn (p.wait ++ [(f0 p fr l)]) (p.ours ++ l) p.theirs).theirs))]) (ys := [.fl (.string ((Ptn.mk p.name (p.out + 1) p.inn (p.wait ++ [(f0 p fr l)]) (p.ours ++ l) p.theirs).name)), .fl (.int .i64 ((Ptn.mk p.name (p.out + 1) p.inn (p.wait ++ [(f0 p fr l)]) (p.ours ++ l) p.theirs).out)), .fl (.int .i64 ((Ptn.mk p.name (p.out + 1) p.inn (p.wait ++ [(f0 p fr l)]) (p.ours ++ l) p.theirs).inn)), .sl 4 (List.map eFil ((Ptn.mk p.name (p.out + 1) p.inn (p.wait ++ [(f0 p fr l)]) (p.ours ++ l) p.theirs).wait)), .sl 5 (List.map eRec ((Ptn.mk p.name (p.out + 1) p.inn (p.wait ++ [(f0 p fr l)]) (p.ours ++ l) p.theirs).ours)), .sl 5 (List.map eRec ((Ptn.mk p.name (p.out + 1) p.inn (p.wait ++ [(f0 p fr l)]) (p.ours ++ l) p.theirs).theirs))]) ⟨Cv.refl _, Cv.refl _, Cv.refl _, Cv.refl _, Cv.refl _, Cv.refl _, trivial⟩)) (.cons (.cellT rfl rfl Try.underlying34 rfl ti34 rfl (Cv.ag (xs := [.fl (.string ((f0 p fr l).fr)), .fl (.string ((f0 p fr l).to)), .fl (.int .i64 ((f0 p fr l).seq)), .sl 5 (List.map eRec ((f0 p fr l).recs))]) (ys := [.fl (.string ((f0 p fr l).fr)), .fl (.string ((f0 p fr l).to)), .fl (.int .i64 ((f0 p fr l).seq)), .sl 5 (List.map eRec ((f0 p fr l).recs))]) ⟨Cv.refl _, Cv.refl _, Cv.refl _, Cv.refl _, trivial⟩)) (.cons (.tmp rfl (.d _)) .nil))), ?_⟩
        have htb : tooB p l = false := by unfold tooB; simp only [h1, h4, h6, Bool.true_or, Bool.false_or, Bool.or_true, Bool.or_false, Bool.not_true, Bool.not_false, cond_true, cond_false, Bool.true_and, Bool.false_and, Bool.and_true, Bool.and_false] <;> rfl
        obtain ⟨hu1, hu2, hu3⟩ := sd_c h1 htb
        rw [hu1, hu2, hu3]; rfl
    · skip
      have h9 := t_dec h4
      refine rg_put (d := 32) (v := .d (.fl undef)) rfl (on rfl rfl rfl h4) ?_
      refine rg_put (d := 33) (v := .d (.fl undef)) rfl (on rfl rfl rfl h4) ?_
      refine rg_put (d := 34) (v := .d (.fl undef)) rfl (on rfl rfl rfl h4) ?_
      refine rg_put (d := 35) (v := .d (.fl undef)) rfl (on rfl rfl rfl h4) ?_
      refine rg_put (d := 36) (v := .d (.fl undef)) rfl (on rfl rfl rfl h4) ?_
      refine rg_put (d := 37) (v := .d (.fl undef)) rfl (on rfl rfl rfl h4) ?_
      refine rg_put (d := 38) (v := .d (.fl undef)) rfl (on rfl rfl rfl h4) ?_
      refine rg_put (d := 39) (v := .d (.fl (.bool true))) rfl (og rfl (op_pick rfl rfl (by rw [h4]; rfl) rfl)) ?_
      refine rg_done rfl ?_
      refine a_condK rfl rfl ?_
      refine a_rseq ?_
      refine rg_put (d := 40) (v := .d (.ag (ePt p))) rfl (og rfl (of_eff (s_load_pts rfl Try.underlying28 rfl ti28 rfl rfl rfl rfl) rfl)) ?_
      refine rg_put (d := 41) (v := .d (.ag [.fl (.string (⟨#[]⟩)), .fl (.string (⟨#[]⟩)), .fl (.int .i64 0), .fl (.slice none 0 0)])) rfl (og rfl (of_eff (op_build rfl Try.underlying34 ti34 rfl (by kernel_rfl) (by kernel_rfl) (pl := #[(0, 1), (1, 1), (2, 1), (3, 1)]) (by kernel_rfl) .nil rfl) rfl)) ?_
      refine rg_sto (nw := [(102, .bx 28 (ePt p))]) rfl (og rfl (of_eff (s_store rfl rfl ti28 rfl rfl rfl rfl rfl rfl) rfl)) ?_
      refine rg_sto (nw := [(103, .bx 34 ([.fl (.string (⟨#[]⟩)), .fl (.string (⟨#[]⟩)), .fl (.int .i64 0), .fl (.slice none 0 0)]))]) rfl (og rfl (of_eff (s_store rfl rfl ti34 rfl rfl rfl rfl rfl rfl) rfl)) ?_
      refine rg_put (d := 8) (v := .d (.fl (.int .i64 3))) rfl (og rfl (op_assign rfl rfl rfl)) ?_
      refine rg_done rfl ?_
      refine a_ret ?_
      show ∃ ds, ResL _ _ _ ds ∧ RV.of ds = _
      refine ⟨[.ag [.fl (.string p.name), .fl (.int .i64 p.out), .fl (.int .i64 p.inn), .sl 4 (List.map eFil p.wait), .sl 5 (List.map eRec p.ours), .sl 5 (List.map eRec p.theirs)], .ag [.fl (.string (⟨#[]⟩)), .fl (.string (⟨#[]⟩)), .fl (.int .i64 0), .sl 5 (List.map eRec [])], .fl (.int .i64 3)], (.cons (.cellT rfl rfl Try.underlying28 rfl ti28 rfl (Cv.ag (xs := [.fl (.string p.name), .fl (.int .i64 p.out), .fl (.int .i64 p.inn), .sl 4 (List.map eFil p.wait), .sl 5 (List.map eRec p.ours), .sl 5 (List.map eRec p.theirs)]) (ys := [.fl (.string p.name), .fl (.int .i64 p.out), .fl (.int .i64 p.inn), .sl 4 (List.map eFil p.wait), .sl 5 (List.map eRec p.ours), .sl 5 (List.map eRec p.theirs)]) ⟨Cv.refl _, Cv.refl _, Cv.refl _, Cv.refl _, Cv.refl _, Cv.refl _, trivial⟩)) (.cons (.cellT rfl rfl Try.underlying34 rfl ti34 rfl (Cv.ag (xs := [.fl (.string (⟨#[]⟩)), .fl (.string (⟨#[]⟩)), .fl (.int .i64 0), .fl (.slice none 0 0)]) (ys := [.fl (.string (⟨#[]⟩)), .fl (.string (⟨#[]⟩)), .fl (.int .i64 0), .sl 5 (List.map eRec [])]) ⟨Cv.refl _, Cv.refl _, Cv.refl _, Cv.nil _, trivial⟩)) (.cons (.tmp rfl (.d _)) .nil))), ?_⟩
      have htb : tooB p l = true := by unfold tooB; simp only [h1, h4, Bool.true_or, Bool.false_or, Bool.or_true, Bool.or_false, Bool.not_true, Bool.not_false, cond_true, cond_false, Bool.true_and, Bool.false_and, Bool.and_true, Bool.and_false] <;> rfl
      obtain ⟨hu1, hu2, hu3⟩ := sd_b h1 htb
      rw [hu1, hu2, hu3]; rfl
set_option maxHeartbeats 4000000 in
set_option maxRecDepth 100000 in
theorem nwC (fr : ByteArray) : Ctr Try.prog 5 [.fl (.string fr)] (.tu [.ag (ePt (nwP fr)), .fl (.int .i64 (nwE fr))]) := by
  refine ctr (n := 10) (rs := #[.cell 2 28, .tmp 3]) (L := [(0, .d (.fl (.string fr)))]) Try.func5 rfl rfl rfl rfl rfl (fun w0 U0 => ?_)
  refine a_rseq ?_
  refine rg_nam (d := 2) (v := .pt 101 0) (m := 101) (nw := [(101, .bx 28 ([.fl (.string (⟨#[]⟩)), .fl (.int .i64 0), .fl (.int .i64 0), .fl (.slice none 0 0), .fl (.slice none 0 0), .fl (.slice none 0 0)]))]) rfl (og rfl (of_eff (s_alloc 101 rfl ti28 (by kernel_rfl) rfl) rfl)) rfl ?_
  refine rg_put (d := 3) (v := .d (.fl (.int .i64 0))) rfl (og rfl (op_assign rfl rfl rfl)) ?_
  refine rg_done rfl ?_
  refine a_seq ?_
  refine a_rseq ?_
  refine rg_put (d := 4) (v := .d (.fl (.string fr))) rfl (og rfl (op_move rfl rfl rfl)) ?_
  refine rg_put (d := 5) (v := .d (.fl (.bool (Nm.nmB fr)))) rfl (og rfl (op_call rfl Try.func16 nm16 rfl (.cons rfl (.d _) .nil) (namP fr) rfl)) ?_
  refine rg_put (d := 6) (v := .d (.fl (.bool ((!(Nm.nmB fr)))))) rfl (og rfl (op_un rfl rfl (u_not _) rfl)) ?_
  refine rg_done rfl ?_
  refine a_cond rfl (fun h1 => ?_) (fun h1 => ?_)
  · skip
    have h2 := t_not h1
    refine a_rseq ?_
    refine rg_put (d := 7) (v := .d (.ag [.fl (.string (⟨#[]⟩)), .fl (.int .i64 0), .fl (.int .i64 0), .fl (.slice none 0 0), .fl (.slice none 0 0), .fl (.slice none 0 0)])) rfl (og rfl (of_eff (op_build rfl Try.underlying28 ti28 rfl (by kernel_rfl) (by kernel_rfl) (pl := #[(0, 1), (1, 1), (2, 1), (3, 1), (4, 1), (5, 1)]) (by kernel_rfl) .nil rfl) rfl)) ?_
    refine rg_sto (nw := [(101, .bx 28 ([.fl (.string (⟨#[]⟩)), .fl (.int .i64 0), .fl (.int .i64 0), .fl (.slice none 0 0), .fl (.slice none 0 0), .fl (.slice none 0 0)]))]) rfl (og rfl (of_eff (s_store rfl rfl ti28 rfl rfl rfl rfl rfl rfl) rfl)) ?_
    refine rg_put (d := 3) (v := .d (.fl (.int .i64 6))) rfl (og rfl (op_assign rfl rfl rfl)) ?_
    refine rg_done rfl ?_
    refine a_ret ?_
    show ∃ ds, ResL _ _ _ ds ∧ RV.of ds = _
    refine ⟨[.ag [.fl (.string (⟨#[]⟩)), .fl (.int .i64 0), .fl (.int .i64 0), .sl 4 (List.map eFil []), .sl 5 (List.map eRec []), .sl 5 (List.map eRec [])], .fl (.int .i64 6)], (.cons (.cellT rfl rfl Try.underlying28 rfl ti28 rfl (Cv.ag (xs := [.fl (.string (⟨#[]⟩)), .fl (.int .i64 0), .fl (.int .i64 0), .fl (.slice none 0 0), .fl (.slice none 0 0), .fl (.slice none 0 0)]) (ys := [.fl (.string (⟨#[]⟩)), .fl (.int .i64 0), .fl (.int .i64 0), .sl 4 (List.map eFil []), .sl 5 (List.map eRec []), .sl 5 (List.map eRec [])]) ⟨Cv.refl _, Cv.refl _, Cv.refl _, Cv.nil _, Cv.nil _, Cv.nil _, trivial⟩)) (.cons (.tmp rfl (.d _)) .nil)), ?_⟩
    obtain ⟨hu1, hu2⟩ := nw_f h2
    rw [hu1, hu2]; rfl
  · skip
    have h3 := f_not h1
    refine a_skip ?_
    show A _ _ _ _ _ _ _
    refine a_rseq ?_
    refine rg_put (d := 8) (v := .d (.fl (.string fr))) rfl (og rfl (op_move rfl rfl rfl)) ?_
    refine rg_put (d := 9) (v := .d (.ag [.fl (.string fr), .fl (.int .i64 1), .fl (.int .i64 1), .fl (.slice none 0 0), .fl (.slice none 0 0), .fl (.slice none 0 0)])) rfl (og rfl (of_eff (op_build rfl Try.underlying28 ti28 rfl (by kernel_rfl) (by kernel_rfl) (pl := #[(0, 1), (1, 1), (2, 1), (3, 1), (4, 1), (5, 1)]) (by kernel_rfl) (.cons rfl rfl (.d _) rfl rfl rfl (.cons rfl rfl (.d _) rfl rfl rfl (.cons rfl rfl (.d _) rfl rfl rfl .nil))) rfl) rfl)) ?_
    refine rg_sto (nw := [(101, .bx 28 [.fl (.string fr), .fl (.int .i64 1), .fl (.int .i64 1), .fl (.slice none 0 0), .fl (.slice none 0 0), .fl (.slice none 0 0)])]) rfl (og rfl (of_eff (s_store rfl rfl ti28 rfl rfl rfl rfl rfl rfl) rfl)) ?_
    refine rg_put (d := 3) (v := .d (.fl (.int .i64 0))) rfl (og rfl (op_assign rfl rfl rfl)) ?_
    refine rg_done rfl ?_
    refine a_ret ?_
    show ∃ ds, ResL _ _ _ ds ∧ RV.of ds = _
    refine ⟨[.ag [.fl (.string fr), .fl (.int .i64 1), .fl (.int .i64 1), .sl 4 (List.map eFil []), .sl 5 (List.map eRec []), .sl 5 (List.map eRec [])], .fl (.int .i64 0)], (.cons (.cellT rfl rfl Try.underlying28 rfl ti28 rfl (Cv.ag (xs := [.fl (.string fr), .fl (.int .i64 1), .fl (.int .i64 1), .fl (.slice none 0 0), .fl (.slice none 0 0), .fl (.slice none 0 0)]) (ys := [.fl (.string fr), .fl (.int .i64 1), .fl (.int .i64 1), .sl 4 (List.map eFil []), .sl 5 (List.map eRec []), .sl 5 (List.map eRec [])]) ⟨Cv.refl _, Cv.refl _, Cv.refl _, Cv.nil _, Cv.nil _, Cv.nil _, trivial⟩)) (.cons (.tmp rfl (.d _)) .nil)), ?_⟩
    obtain ⟨hu1, hu2⟩ := nw_t h3
    rw [hu1, hu2]; rfl
theorem eqI43 (a : Rec) (w : World) : (Op.equalIn 10000 43 (.agg (([.int .i64 a.kind, .string a.key, .int .i64 a.time, .int .i64 a.cents, .int .i64 a.why] : List Value).toArray)) (.agg (([.int .i64 a.kind, .string a.key, .int .i64 a.time, .int .i64 a.cents, .int .i64 a.why] : List Value).toArray))).run Try.prog w = .ok true w := by
  have hS : Try.prog.underlying 43 = some (.struct (Try.prog.fieldsOf 43)) := by kernel_rfl
  have hp : Try.prog.stoodInHeld 43 = false := by kernel_rfl
  rw [show (10000 : Nat) = 9999 + 1 from rfl, run_equalIn_agg w 9999 43 _ _ hS hp]
  simp only [Program.fieldsOf, Try.underlying43]
  go_simp

theorem eql43 (a : Rec) (x y : Operand) (w : World) : (do eqGuard .eql 43 x y (.agg (([.int .i64 a.kind, .string a.key, .int .i64 a.time, .int .i64 a.cents, .int .i64 a.why] : List Value).toArray)) (.agg (([.int .i64 a.kind, .string a.key, .int .i64 a.time, .int .i64 a.cents, .int .i64 a.why] : List Value).toArray)); binOp .eql 43 (.agg (([.int .i64 a.kind, .string a.key, .int .i64 a.time, .int .i64 a.cents, .int .i64 a.why] : List Value).toArray)) (.agg (([.int .i64 a.kind, .string a.key, .int .i64 a.time, .int .i64 a.cents, .int .i64 a.why] : List Value).toArray)) : Sem Value).run Try.prog w = .ok (.bool true) w := by
  have hm : Try.prog.eqGuardType Try.prog.depth 43 = false := by kernel_rfl
  rw [Sem.run_bind, run_eqGuard_agg w .eql 43 x y _ _ hm, Result.andThen_ok, run_eql_struct, eqI43]
  rfl

theorem neq43 (a : Rec) (x y : Operand) (w : World) : (do eqGuard .neq 43 x y (.agg (([.int .i64 a.kind, .string a.key, .int .i64 a.time, .int .i64 a.cents, .int .i64 a.why] : List Value).toArray)) (.agg (([.int .i64 a.kind, .string a.key, .int .i64 a.time, .int .i64 a.cents, .int .i64 a.why] : List Value).toArray)); binOp .neq 43 (.agg (([.int .i64 a.kind, .string a.key, .int .i64 a.time, .int .i64 a.cents, .int .i64 a.why] : List Value).toArray)) (.agg (([.int .i64 a.kind, .string a.key, .int .i64 a.time, .int .i64 a.cents, .int .i64 a.why] : List Value).toArray)) : Sem Value).run Try.prog w = .ok (.bool false) w := by
  have hm : Try.prog.eqGuardType Try.prog.depth 43 = false := by kernel_rfl
  rw [Sem.run_bind, run_eqGuard_agg w .neq 43 x y _ _ hm, Result.andThen_ok, run_neq_struct, eqI43]
  rfl

set_option maxHeartbeats 4000000 in
set_option maxRecDepth 100000 in
theorem sarC (l : List Rec) (hl : l.length ≤ 4000) : Ctr Try.prog 11 [.sl 5 (List.map eRec l), .sl 5 (List.map eRec l)] (.d (.fl (.bool (true)))) := by
  refine ctr (n := 26) (rs := #[.tmp 4]) (L := [(0, .d (.sl 5 (List.map eRec l))), (1, .d (.sl 5 (List.map eRec l)))]) Try.func11 rfl rfl rfl rfl rfl (fun w0 U0 => ?_)
  refine a_rseq ?_
  refine rg_put (d := 4) (v := .d (.fl (.bool false))) rfl (og rfl (op_assign rfl rfl rfl)) ?_
  refine rg_done rfl ?_
  refine a_seq ?_
  refine a_rseq ?_
  refine rg_put (d := 6) (v := .d (.sl 5 (List.map eRec l))) rfl (og rfl (op_move rfl rfl rfl)) ?_
  refine rg_put (d := 7) (v := .d (.fl (.int .i64 (l.length : Int)))) rfl (og rfl (s_len rfl Try.underlying26 rfl rfl)) ?_
  refine rg_put (d := 8) (v := .d (.sl 5 (List.map eRec l))) rfl (og rfl (op_move rfl rfl rfl)) ?_
  refine rg_put (d := 9) (v := .d (.fl (.int .i64 (l.length : Int)))) rfl (og rfl (s_len rfl Try.underlying26 rfl rfl)) ?_
  refine rg_put (d := 10) (v := .d (.fl (.bool (((l.length : Int) != (l.length : Int)))))) rfl (og rfl (op_bin rfl rfl rfl (b_neq _ _ _ _) rfl)) ?_
  refine rg_done rfl ?_
  refine a_condF rfl (ne_self_b _) ?_
  refine a_skip ?_
  show A _ _ _ _ _ _ _
  refine a_seq ?_
  refine a_rseq ?_
  refine rg_put (d := 5) (v := .d (.fl (.int .i64 0))) rfl (og rfl (op_assign rfl rfl rfl)) ?_
  refine rg_done rfl ?_
  refine a_block ?_
  refine a_loop (ι := Nat) (fun k => SS [(0, .d (.sl 5 (List.map eRec l))), (1, .d (.sl 5 (List.map eRec l))), (10, .d (.fl (.bool (((l.length : Int) != (l.length : Int)))))), (5, .d (.fl (.int .i64 (k : Int))))] []) (fun k => k ≤ l.length) (fun k => l.length - k) 0 (by omega) (imp_forget rfl ⟨rfl, rfl, rfl, (by first | rfl | exact ci (by omega) | exact ci (by simp) | exact cd (by simp) | simp), trivial⟩ trivial) (fun k hok => ?_)
  have hk := hok
  refine a_seq ?_
  refine a_rseq ?_
  refine rg_put (d := 11) (v := .d (.fl (.int .i64 (k : Int)))) rfl (og rfl (op_move rfl rfl rfl)) ?_
  refine rg_put (d := 12) (v := .d (.sl 5 (List.map eRec l))) rfl (og rfl (op_move rfl rfl rfl)) ?_
  refine rg_put (d := 13) (v := .d (.fl (.int .i64 (l.length : Int)))) rfl (og rfl (s_len rfl Try.underlying26 rfl rfl)) ?_
  refine rg_put (d := 14) (v := .d (.fl (.bool ((decide ((k : Int) < (l.length : Int))))))) rfl (og rfl (op_bin rfl rfl rfl (b_lss _ _ _ _) rfl)) ?_
  refine rg_done rfl ?_
  refine a_cond rfl (fun h1 => ?_) (fun h1 => ?_)
  · skip
    have h2 := t_dec h1
    refine a_skip ?_
    show A _ _ _ _ _ _ _
    refine a_seq ?_
    refine a_block ?_
    refine a_dseq (by kernel_rfl) ?_
    refine dr_put (d := 17) (v := .d (.sl 5 (List.map eRec l))) rfl (og rfl (op_move rfl rfl rfl)) ?_
    refine dr_put (d := 18) (v := .d (.fl (.int .i64 (k : Int)))) rfl (og rfl (op_move rfl rfl rfl)) ?_
    refine dr_put (d := 19) (v := .el ((eRec (ix l k)))) rfl (og rfl (s_index rfl Try.underlying26 ti43 rfl rfl (by omega) (row_at (by omega)) rfl)) ?_
    refine dr_put (d := 20) (v := .d (.ag (eRec (ix l k)))) rfl (og rfl (of_eff (s_load_els rfl Try.underlying43 rfl ti43 rfl rfl rfl) rfl)) ?_
    refine dr_put (d := 21) (v := .d (.sl 5 (List.map eRec l))) rfl (og rfl (op_move rfl rfl rfl)) ?_
    refine dr_put (d := 22) (v := .d (.fl (.int .i64 (k : Int)))) rfl (og rfl (op_move rfl rfl rfl)) ?_
    refine dr_put (d := 23) (v := .el ((eRec (ix l k)))) rfl (og rfl (s_index rfl Try.underlying26 ti43 rfl rfl (by omega) (row_at (by omega)) rfl)) ?_
    refine dr_put (d := 24) (v := .d (.ag (eRec (ix l k)))) rfl (og rfl (of_eff (s_load_els rfl Try.underlying43 rfl ti43 rfl rfl rfl) rfl)) ?_
    refine dr_put (d := 25) (v := .d (.fl (.bool false))) rfl (og rfl (op_eqS [.int .i64 ((ix l k).kind), .string ((ix l k).key), .int .i64 ((ix l k).time), .int .i64 ((ix l k).cents), .int .i64 ((ix l k).why)] [.int .i64 ((ix l k).kind), .string ((ix l k).key), .int .i64 ((ix l k).time), .int .i64 ((ix l k).cents), .int .i64 ((ix l k).why)] rfl rfl rfl (b := false) (fun ww => neq43 (ix l k) _ _ ww) rfl)) ?_
    refine dr_done rfl (by kernel_rfl) (by kernel_rfl) ?_
    refine a_condF rfl rfl ?_
    refine a_skip ?_
    show A _ _ _ _ _ _ _
    refine a_region ?_
    refine rg_put (d := 15) (v := .d (.fl (.int .i64 (k : Int)))) rfl (og rfl (op_move rfl rfl rfl)) ?_
    refine rg_put (d := 16) (v := .d (.fl (.int .i64 (((k : Int) + 1))))) rfl (og rfl (op_bin rfl rfl rfl (fun x y w => b_add64 _ _ _ x y w (by omega)) rfl)) ?_
    refine rg_put (d := 5) (v := .d (.fl (.int .i64 (((k : Int) + 1))))) rfl (og rfl (op_assign rfl rfl rfl)) ?_
    refine rg_done rfl ?_
    show ∃ i, _ ∧ _ ∧ Imp _ _ _ _ _
    refine ⟨k + 1, (by omega), by omega, imp_forget rfl ⟨rfl, rfl, rfl, (by first | rfl | exact ci (by omega) | exact ci (by simp) | exact cd (by simp) | simp), trivial⟩ trivial⟩
  · skip
    have h3 := f_dec h1
    refine a_exit ?_
    show A _ _ _ _ _ _ _
    refine a_rseq ?_
    refine rg_put (d := 4) (v := .d (.fl (.bool true))) rfl (og rfl (op_assign rfl rfl rfl)) ?_
    refine rg_done rfl ?_
    refine a_ret ?_
    show ∃ ds, ResL _ _ _ ds ∧ RV.of ds = _
    refine ⟨[.fl (.bool true)], (.cons (.tmp rfl (.d _)) .nil), ?_⟩
    rfl
set_option maxHeartbeats 4000000 in
set_option maxRecDepth 100000 in
theorem safC (l : List Fil) (hl : l.length ≤ 1000) (hz : ∀ x ∈ l, x.recs.length ≤ 1100) : Ctr Try.prog 23 [.sl 4 (List.map eFil l), .sl 4 (List.map eFil l)] (.d (.fl (.bool (true)))) := by
  refine ctr (n := 68) (rs := #[.tmp 4]) (L := [(0, .d (.sl 4 (List.map eFil l))), (1, .d (.sl 4 (List.map eFil l)))]) Try.func23 rfl rfl rfl rfl rfl (fun w0 U0 => ?_)
  refine a_rseq ?_
  refine rg_put (d := 4) (v := .d (.fl (.bool false))) rfl (og rfl (op_assign rfl rfl rfl)) ?_
  refine rg_done rfl ?_
  refine a_seq ?_
  refine a_rseq ?_
  refine rg_put (d := 6) (v := .d (.sl 4 (List.map eFil l))) rfl (og rfl (op_move rfl rfl rfl)) ?_
  refine rg_put (d := 7) (v := .d (.fl (.int .i64 (l.length : Int)))) rfl (og rfl (s_len rfl Try.underlying25 rfl rfl)) ?_
  refine rg_put (d := 8) (v := .d (.sl 4 (List.map eFil l))) rfl (og rfl (op_move rfl rfl rfl)) ?_
  refine rg_put (d := 9) (v := .d (.fl (.int .i64 (l.length : Int)))) rfl (og rfl (s_len rfl Try.underlying25 rfl rfl)) ?_
  refine rg_put (d := 10) (v := .d (.fl (.bool (((l.length : Int) != (l.length : Int)))))) rfl (og rfl (op_bin rfl rfl rfl (b_neq _ _ _ _) rfl)) ?_
  refine rg_done rfl ?_
  refine a_condF rfl (bne_self_eq_false _) ?_
  refine a_skip ?_
  show A _ _ _ _ _ _ _
  refine a_seq ?_
  refine a_rseq ?_
  refine rg_put (d := 5) (v := .d (.fl (.int .i64 0))) rfl (og rfl (op_assign rfl rfl rfl)) ?_
  refine rg_done rfl ?_
  refine a_block ?_
  refine a_loop (ι := Nat) (fun k => SS [(0, .d (.sl 4 (List.map eFil l))), (1, .d (.sl 4 (List.map eFil l))), (10, .d (.fl (.bool (((l.length : Int) != (l.length : Int)))))), (5, .d (.fl (.int .i64 (k : Int))))] []) (fun k => k ≤ l.length) (fun k => l.length - k) 0 (by omega) (imp_forget rfl ⟨rfl, rfl, rfl, (by first | rfl | exact ci (by omega) | exact ci (by simp) | exact cd (by simp) | simp), trivial⟩ trivial) (fun k hok => ?_)
  have hk := hok
  refine a_seq ?_
  refine a_rseq ?_
  refine rg_put (d := 11) (v := .d (.fl (.int .i64 (k : Int)))) rfl (og rfl (op_move rfl rfl rfl)) ?_
  refine rg_put (d := 12) (v := .d (.sl 4 (List.map eFil l))) rfl (og rfl (op_move rfl rfl rfl)) ?_
  refine rg_put (d := 13) (v := .d (.fl (.int .i64 (l.length : Int)))) rfl (og rfl (s_len rfl Try.underlying25 rfl rfl)) ?_
  refine rg_put (d := 14) (v := .d (.fl (.bool ((decide ((k : Int) < (l.length : Int))))))) rfl (og rfl (op_bin rfl rfl rfl (b_lss _ _ _ _) rfl)) ?_
  refine rg_done rfl ?_
  refine a_cond rfl (fun h1 => ?_) (fun h1 => ?_)
  · skip
    have h2 := t_dec h1
    refine a_skip ?_
    show A _ _ _ _ _ _ _
    refine a_seq ?_
    refine a_block ?_
    refine a_dseq (by kernel_rfl) ?_
    refine dr_put (d := 17) (v := .d (.sl 4 (List.map eFil l))) rfl (og rfl (op_move rfl rfl rfl)) ?_
    refine dr_put (d := 18) (v := .d (.fl (.int .i64 (k : Int)))) rfl (og rfl (op_move rfl rfl rfl)) ?_
    refine dr_put (d := 19) (v := .el ((eFil (ix l k)))) rfl (og rfl (s_index rfl Try.underlying25 ti34 rfl rfl (by omega) (row_at (by omega)) rfl)) ?_
    refine dr_put (d := 20) (v := .el ((List.drop 0 ((eFil (ix l k)))))) rfl (og rfl (of_eff (s_field_el rfl Try.underlying34 rfl ti9 rfl rfl rfl) rfl)) ?_
    refine dr_put (d := 21) (v := .d (.fl (.string ((ix l k).fr)))) rfl (og rfl (op_load_el rfl Try.underlying9 rfl rfl rfl rfl)) ?_
    refine dr_put (d := 22) (v := .d (.sl 4 (List.map eFil l))) rfl (og rfl (op_move rfl rfl rfl)) ?_
    refine dr_put (d := 23) (v := .d (.fl (.int .i64 (k : Int)))) rfl (og rfl (op_move rfl rfl rfl)) ?_
    refine dr_put (d := 24) (v := .el ((eFil (ix l k)))) rfl (og rfl (s_index rfl Try.underlying25 ti34 rfl rfl (by omega) (row_at (by omega)) rfl)) ?_
    refine dr_put (d := 25) (v := .el ((List.drop 0 ((eFil (ix l k)))))) rfl (og rfl (of_eff (s_field_el rfl Try.underlying34 rfl ti9 rfl rfl rfl) rfl)) ?_
    refine dr_put (d := 26) (v := .d (.fl (.string ((ix l k).fr)))) rfl (og rfl (op_load_el rfl Try.underlying9 rfl rfl rfl rfl)) ?_
    refine dr_put (d := 27) (v := .d (.fl (.bool ((!(sEq ((ix l k).fr) ((ix l k).fr))))))) rfl (og rfl (op_bin rfl rfl rfl (b_sne _ _ _) rfl)) ?_
    refine dr_put (d := 28) (v := .d (.fl (.bool ((!(sEq ((ix l k).fr) ((ix l k).fr))))))) rfl (og rfl (op_move rfl rfl rfl)) ?_
    refine dr_put (d := 29) (v := .d (.sl 4 (List.map eFil l))) rfl (oy rfl rfl rfl (not_f (eq_self_s _)) (op_move rfl rfl rfl)) ?_
    refine dr_put (d := 30) (v := .d (.fl (.int .i64 (k : Int)))) rfl (oy rfl rfl rfl (not_f (eq_self_s _)) (op_move rfl rfl rfl)) ?_
    refine dr_put (d := 31) (v := .el ((eFil (ix l k)))) rfl (oy rfl rfl rfl (not_f (eq_self_s _)) (s_index rfl Try.underlying25 ti34 rfl rfl (by omega) (row_at (by omega)) rfl)) ?_
    refine dr_put (d := 32) (v := .el ((List.drop 1 ((eFil (ix l k)))))) rfl (oy rfl rfl rfl (not_f (eq_self_s _)) (of_eff (s_field_el rfl Try.underlying34 rfl ti9 rfl rfl rfl) rfl)) ?_
    refine dr_put (d := 33) (v := .d (.fl (.string ((ix l k).to)))) rfl (oy rfl rfl rfl (not_f (eq_self_s _)) (op_load_el rfl Try.underlying9 rfl rfl rfl rfl)) ?_
    refine dr_put (d := 34) (v := .d (.sl 4 (List.map eFil l))) rfl (oy rfl rfl rfl (not_f (eq_self_s _)) (op_move rfl rfl rfl)) ?_
    refine dr_put (d := 35) (v := .d (.fl (.int .i64 (k : Int)))) rfl (oy rfl rfl rfl (not_f (eq_self_s _)) (op_move rfl rfl rfl)) ?_
    refine dr_put (d := 36) (v := .el ((eFil (ix l k)))) rfl (oy rfl rfl rfl (not_f (eq_self_s _)) (s_index rfl Try.underlying25 ti34 rfl rfl (by omega) (row_at (by omega)) rfl)) ?_
    refine dr_put (d := 37) (v := .el ((List.drop 1 ((eFil (ix l k)))))) rfl (oy rfl rfl rfl (not_f (eq_self_s _)) (of_eff (s_field_el rfl Try.underlying34 rfl ti9 rfl rfl rfl) rfl)) ?_
    refine dr_put (d := 38) (v := .d (.fl (.string ((ix l k).to)))) rfl (oy rfl rfl rfl (not_f (eq_self_s _)) (op_load_el rfl Try.underlying9 rfl rfl rfl rfl)) ?_
    refine dr_put (d := 39) (v := .d (.fl (.bool ((!(sEq ((ix l k).to) ((ix l k).to))))))) rfl (oy rfl rfl rfl (not_f (eq_self_s _)) (op_bin rfl rfl rfl (b_sne _ _ _) rfl)) ?_
    refine dr_put (d := 40) (v := .d (.fl (.bool ((!(sEq ((ix l k).to) ((ix l k).to))))))) rfl (og rfl (op_pick rfl rfl (by rw [(not_f (eq_self_s _))]; rfl) rfl)) ?_
    refine dr_put (d := 41) (v := .d (.fl (.bool ((!(sEq ((ix l k).to) ((ix l k).to))))))) rfl (og rfl (op_move rfl rfl rfl)) ?_
    refine dr_put (d := 42) (v := .d (.sl 4 (List.map eFil l))) rfl (oy rfl rfl rfl (not_f (eq_self_s _)) (op_move rfl rfl rfl)) ?_
    refine dr_put (d := 43) (v := .d (.fl (.int .i64 (k : Int)))) rfl (oy rfl rfl rfl (not_f (eq_self_s _)) (op_move rfl rfl rfl)) ?_
    refine dr_put (d := 44) (v := .el ((eFil (ix l k)))) rfl (oy rfl rfl rfl (not_f (eq_self_s _)) (s_index rfl Try.underlying25 ti34 rfl rfl (by omega) (row_at (by omega)) rfl)) ?_
    refine dr_put (d := 45) (v := .el ((List.drop 2 ((eFil (ix l k)))))) rfl (oy rfl rfl rfl (not_f (eq_self_s _)) (of_eff (s_field_el rfl Try.underlying34 rfl ti3 rfl rfl rfl) rfl)) ?_
    refine dr_put (d := 46) (v := .d (.fl (.int .i64 ((ix l k).seq)))) rfl (oy rfl rfl rfl (not_f (eq_self_s _)) (op_load_el rfl Try.underlying3 rfl rfl rfl rfl)) ?_
    refine dr_put (d := 47) (v := .d (.sl 4 (List.map eFil l))) rfl (oy rfl rfl rfl (not_f (eq_self_s _)) (op_move rfl rfl rfl)) ?_
    refine dr_put (d := 48) (v := .d (.fl (.int .i64 (k : Int)))) rfl (oy rfl rfl rfl (not_f (eq_self_s _)) (op_move rfl rfl rfl)) ?_
    refine dr_put (d := 49) (v := .el ((eFil (ix l k)))) rfl (oy rfl rfl rfl (not_f (eq_self_s _)) (s_index rfl Try.underlying25 ti34 rfl rfl (by omega) (row_at (by omega)) rfl)) ?_
    refine dr_put (d := 50) (v := .el ((List.drop 2 ((eFil (ix l k)))))) rfl (oy rfl rfl rfl (not_f (eq_self_s _)) (of_eff (s_field_el rfl Try.underlying34 rfl ti3 rfl rfl rfl) rfl)) ?_
    refine dr_put (d := 51) (v := .d (.fl (.int .i64 ((ix l k).seq)))) rfl (oy rfl rfl rfl (not_f (eq_self_s _)) (op_load_el rfl Try.underlying3 rfl rfl rfl rfl)) ?_
    refine dr_put (d := 52) (v := .d (.fl (.bool (((ix l k).seq != (ix l k).seq))))) rfl (oy rfl rfl rfl (not_f (eq_self_s _)) (op_bin rfl rfl rfl (b_neq _ _ _ _) rfl)) ?_
    refine dr_put (d := 53) (v := .d (.fl (.bool (((ix l k).seq != (ix l k).seq))))) rfl (og rfl (op_pick rfl rfl (by rw [(not_f (eq_self_s _))]; rfl) rfl)) ?_
    refine dr_put (d := 54) (v := .d (.fl (.bool (((ix l k).seq != (ix l k).seq))))) rfl (og rfl (op_move rfl rfl rfl)) ?_
    refine dr_put (d := 55) (v := .d (.sl 4 (List.map eFil l))) rfl (oy rfl rfl rfl (bne_self_eq_false _) (op_move rfl rfl rfl)) ?_
    refine dr_put (d := 56) (v := .d (.fl (.int .i64 (k : Int)))) rfl (oy rfl rfl rfl (bne_self_eq_false _) (op_move rfl rfl rfl)) ?_
    refine dr_put (d := 57) (v := .el ((eFil (ix l k)))) rfl (oy rfl rfl rfl (bne_self_eq_false _) (s_index rfl Try.underlying25 ti34 rfl rfl (by omega) (row_at (by omega)) rfl)) ?_
    refine dr_put (d := 58) (v := .el ((List.drop 3 ((eFil (ix l k)))))) rfl (oy rfl rfl rfl (bne_self_eq_false _) (of_eff (s_field_el rfl Try.underlying34 rfl ti26 rfl rfl rfl) rfl)) ?_
    refine dr_put (d := 59) (v := .d (.sl 5 (List.map eRec ((ix l k).recs)))) rfl (oy rfl rfl rfl (bne_self_eq_false _) (op_load_el rfl Try.underlying26 rfl rfl rfl rfl)) ?_
    refine dr_put (d := 60) (v := .d (.sl 4 (List.map eFil l))) rfl (oy rfl rfl rfl (bne_self_eq_false _) (op_move rfl rfl rfl)) ?_
    refine dr_put (d := 61) (v := .d (.fl (.int .i64 (k : Int)))) rfl (oy rfl rfl rfl (bne_self_eq_false _) (op_move rfl rfl rfl)) ?_
    refine dr_put (d := 62) (v := .el ((eFil (ix l k)))) rfl (oy rfl rfl rfl (bne_self_eq_false _) (s_index rfl Try.underlying25 ti34 rfl rfl (by omega) (row_at (by omega)) rfl)) ?_
    refine dr_put (d := 63) (v := .el ((List.drop 3 ((eFil (ix l k)))))) rfl (oy rfl rfl rfl (bne_self_eq_false _) (of_eff (s_field_el rfl Try.underlying34 rfl ti26 rfl rfl rfl) rfl)) ?_
    refine dr_put (d := 64) (v := .d (.sl 5 (List.map eRec ((ix l k).recs)))) rfl (oy rfl rfl rfl (bne_self_eq_false _) (op_load_el rfl Try.underlying26 rfl rfl rfl rfl)) ?_
    refine dr_put (d := 65) (v := .d (.fl (.bool true))) rfl (oy rfl rfl rfl (bne_self_eq_false _) (op_call rfl Try.func11 nm11 rfl (.cons rfl (.d _) (.cons rfl (.d _) .nil)) (sarC ((ix l k).recs) (by have := hz _ (ix_mem (by omega : k < l.length)); omega)) rfl)) ?_
    refine dr_put (d := 66) (v := .d (.fl (.bool (!true)))) rfl (oy rfl rfl rfl (bne_self_eq_false _) (op_un rfl rfl (u_not _) rfl)) ?_
    refine dr_put (d := 67) (v := .d (.fl (.bool (!true)))) rfl (og rfl (op_pick rfl rfl (by rw [(bne_self_eq_false _)]; rfl) rfl)) ?_
    refine dr_done rfl (sepB_of [0, 0, 3, 7, 15, 0, 0, 96, 224, 480, 1023, 2047, 4095, 4095, 16383, 32767, 65535, 4095, 4095, 397311, 921599, 1970175, 4194303, 8388607, 16777215, 33554431, 33554431, 134217727, 268435455, 536870911, 33554431, 33554431, 3254779903, 7549747199, 16139681791, 34359738367, 68719476735, 137438953471, 274877906943, 274877906943, 1099511627775, 2199023255551, 4398046511103, 274877906943, 274877906943, 26663156973567, 61847529062399, 132216273240063, 281474976710655, 562949953421311, 1125899906842623] (by kernel_rfl)) (by kernel_rfl) ?_
    refine a_condF rfl rfl ?_
    refine a_skip ?_
    show A _ _ _ _ _ _ _
    refine a_region ?_
    refine rg_put (d := 15) (v := .d (.fl (.int .i64 (k : Int)))) rfl (og rfl (op_move rfl rfl rfl)) ?_
    refine rg_put (d := 16) (v := .d (.fl (.int .i64 (((k : Int) + 1))))) rfl (og rfl (op_bin rfl rfl rfl (fun x y w => b_add64 _ _ _ x y w (by omega)) rfl)) ?_
    refine rg_put (d := 5) (v := .d (.fl (.int .i64 (((k : Int) + 1))))) rfl (og rfl (op_assign rfl rfl rfl)) ?_
    refine rg_done rfl ?_
    show ∃ i, _ ∧ _ ∧ Imp _ _ _ _ _
    refine ⟨k + 1, (by omega), by omega, imp_forget rfl ⟨rfl, rfl, rfl, (by first | rfl | exact ci (by omega) | exact ci (by simp) | exact cd (by simp) | simp), trivial⟩ trivial⟩
  · skip
    have h3 := f_dec h1
    refine a_exit ?_
    show A _ _ _ _ _ _ _
    refine a_rseq ?_
    refine rg_put (d := 4) (v := .d (.fl (.bool true))) rfl (og rfl (op_assign rfl rfl rfl)) ?_
    refine rg_done rfl ?_
    refine a_ret ?_
    show ∃ ds, ResL _ _ _ ds ∧ RV.of ds = _
    refine ⟨[.fl (.bool true)], (.cons (.tmp rfl (.d _)) .nil), ?_⟩
    rfl
set_option maxHeartbeats 4000000 in
set_option maxRecDepth 100000 in
theorem hvC (l : List Rec) : Ctr Try.prog 6 [.sl 5 (List.map eRec l)] (.d (.fl (.bool (hvB l)))) := by
  refine ctr (n := 19) (rs := #[.tmp 2]) (L := [(0, .d (.sl 5 (List.map eRec l)))]) Try.func6 rfl rfl rfl rfl rfl (fun w0 U0 => ?_)
  refine a_rseq ?_
  refine rg_put (d := 2) (v := .d (.fl (.bool false))) rfl (og rfl (op_assign rfl rfl rfl)) ?_
  refine rg_done rfl ?_
  refine a_seq ?_
  refine a_rseq ?_
  refine rg_put (d := 5) (v := .d (.sl 5 (List.map eRec l))) rfl (og rfl (op_move rfl rfl rfl)) ?_
  refine rg_put (d := 6) (v := .d (.fl (.int .i64 (l.length : Int)))) rfl (og rfl (s_len rfl Try.underlying26 rfl rfl)) ?_
  refine rg_put (d := 7) (v := .d (.fl (.bool ((decide (1100 < (l.length : Int))))))) rfl (og rfl (op_bin rfl rfl rfl (b_gtr _ _ _ _) rfl)) ?_
  refine rg_done rfl ?_
  refine a_cond rfl (fun h1 => ?_) (fun h1 => ?_)
  · skip
    have h2 := t_dec h1
    refine a_rseq ?_
    refine rg_put (d := 2) (v := .d (.fl (.bool true))) rfl (og rfl (op_assign rfl rfl rfl)) ?_
    refine rg_done rfl ?_
    refine a_ret ?_
    show ∃ ds, ResL _ _ _ ds ∧ RV.of ds = _
    refine ⟨[.fl (.bool true)], (.cons (.tmp rfl (.d _)) .nil), ?_⟩
    rw [show hvB l = true from by unfold hvB; rw [h1]; rfl]; rfl
  · skip
    have h3 := f_dec h1
    refine a_skip ?_
    show A _ _ _ _ _ _ _
    refine a_seq ?_
    refine a_rseq ?_
    refine rg_put (d := 8) (v := .d (.sl 5 (List.map eRec l))) rfl (og rfl (op_move rfl rfl rfl)) ?_
    refine rg_put (d := 9) (v := .d (.fl (.int .i64 (l.length : Int)))) rfl (og rfl (s_len rfl Try.underlying26 rfl rfl)) ?_
    refine rg_put (d := 10) (v := .d (.fl (.int .i64 0))) rfl (og rfl (op_move rfl rfl rfl)) ?_
    refine rg_done rfl ?_
    refine a_block ?_
    refine a_loop (ι := Nat) (fun k => SS [(0, .d (.sl 5 (List.map eRec l))), (7, .d (.fl (.bool ((decide (1100 < (l.length : Int))))))), (8, .d (.sl 5 (List.map eRec l))), (9, .d (.fl (.int .i64 (l.length : Int)))), (10, .d (.fl (.int .i64 (k : Int))))] []) (fun k => k ≤ l.length ∧ ∀ q, q < k → (decide (300 < ((ix l q).key.size : Int))) = false) (fun k => l.length - k) 0 (⟨by omega, fun q h => by omega⟩) (imp_forget rfl ⟨rfl, rfl, rfl, rfl, (by first | rfl | exact ci (by omega) | exact ci (by simp) | exact cd (by simp) | simp), trivial⟩ trivial) (fun k hok => ?_)
    obtain ⟨hkk, hq⟩ := hok
    refine a_rseq ?_
    refine rg_put (d := 11) (v := .d (.fl (.bool ((decide ((k : Int) < (l.length : Int))))))) rfl (og rfl (op_bin rfl rfl rfl (b_lss _ _ _ _) rfl)) ?_
    refine rg_done rfl ?_
    refine a_seq ?_
    refine a_cond rfl (fun h4 => ?_) (fun h4 => ?_)
    · skip
      have h5 := t_dec h4
      refine a_skip ?_
      show A _ _ _ _ _ _ _
      refine a_seq ?_
      refine a_block ?_
      refine a_rseq ?_
      refine rg_put (d := 12) (v := .el ((eRec (ix l k)))) rfl (og rfl (s_index rfl Try.underlying26 ti43 rfl rfl (by omega) (row_at (by omega)) rfl)) ?_
      refine rg_put (d := 13) (v := .d (.ag (eRec (ix l k)))) rfl (og rfl (of_eff (s_load_els rfl Try.underlying43 rfl ti43 rfl rfl rfl) rfl)) ?_
      refine rg_nam (d := 4) (v := .pt 101 0) (m := 101) (nw := [(101, .bx 43 ([.fl (.int .i64 0), .fl (.string (⟨#[]⟩)), .fl (.int .i64 0), .fl (.int .i64 0), .fl (.int .i64 0)]))]) rfl (og rfl (of_eff (s_alloc 101 rfl ti43 (by kernel_rfl) rfl) rfl)) rfl ?_
      refine rg_sto (nw := [(101, .bx 43 ((eRec (ix l k))))]) rfl (og rfl (of_eff (s_store rfl rfl ti43 rfl rfl rfl rfl rfl rfl) rfl)) ?_
      refine rg_done rfl ?_
      refine a_rseq ?_
      refine rg_put (d := 14) (v := .pt 101 1) rfl (og rfl (of_eff (s_field_pt rfl Try.underlying43 rfl ti9 rfl rfl rfl) rfl)) ?_
      refine rg_put (d := 15) (v := .d (.fl (.string ((ix l k).key)))) rfl (og rfl (op_load_pt rfl Try.underlying9 rfl rfl rfl rfl rfl)) ?_
      refine rg_put (d := 16) (v := .d (.fl (.int .i64 ((((ix l k).key).size : Int))))) rfl (og rfl (op_len_str rfl Try.underlying9 rfl rfl)) ?_
      refine rg_put (d := 17) (v := .d (.fl (.bool ((decide (300 < (((ix l k).key).size : Int))))))) rfl (og rfl (op_bin rfl rfl rfl (b_gtr _ _ _ _) rfl)) ?_
      refine rg_done rfl ?_
      refine a_cond rfl (fun h6 => ?_) (fun h6 => ?_)
      · skip
        have h7 := t_dec h6
        refine a_rseq ?_
        refine rg_put (d := 2) (v := .d (.fl (.bool true))) rfl (og rfl (op_assign rfl rfl rfl)) ?_
        refine rg_done rfl ?_
        refine a_ret ?_
        show ∃ ds, ResL _ _ _ ds ∧ RV.of ds = _
        refine ⟨[.fl (.bool true)], (.cons (.tmp rfl (.d _)) .nil), ?_⟩
        rw [show hvB l = true from by unfold hvB; rw [any_at (p := fun x : Rec => decide (300 < (x.key.size : Int))) (by omega) h6]; simp]; rfl
      · skip
        have h8 := f_dec h6
        refine a_skip ?_
        show A _ _ _ _ _ _ _
        refine a_region ?_
        refine rg_put (d := 18) (v := .d (.fl (.int .i64 (((k : Int) + 1))))) rfl (og rfl (op_bin rfl rfl rfl (fun x y w => b_add64 _ _ _ x y w (by omega)) rfl)) ?_
        refine rg_put (d := 10) (v := .d (.fl (.int .i64 (((k : Int) + 1))))) rfl (og rfl (op_move rfl rfl rfl)) ?_
        refine rg_done rfl ?_
        have hx : (decide (300 < ((ix l k).key.size : Int))) = false := h6
        show ∃ i, _ ∧ _ ∧ Imp _ _ _ _ _
        refine ⟨k + 1, ⟨by omega, fun q h => (Nat.lt_succ_iff_lt_or_eq.1 h).elim (hq q) (fun e => by rw [e]; exact hx)⟩, by omega, imp_forget rfl ⟨rfl, rfl, rfl, rfl, (by first | rfl | exact ci (by omega) | exact ci (by simp) | exact cd (by simp) | simp), trivial⟩ trivial⟩
    · skip
      have h9 := f_dec h4
      refine a_exit ?_
      show A _ _ _ _ _ _ _
      refine a_rseq ?_
      refine rg_put (d := 2) (v := .d (.fl (.bool false))) rfl (og rfl (op_assign rfl rfl rfl)) ?_
      refine rg_done rfl ?_
      refine a_ret ?_
      show ∃ ds, ResL _ _ _ ds ∧ RV.of ds = _
      refine ⟨[.fl (.bool false)], (.cons (.tmp rfl (.d _)) .nil), ?_⟩
      rw [show hvB l = false from by unfold hvB; rw [h1, any_no (p := fun x : Rec => decide (300 < (x.key.size : Int))) (fun q h => hq q (by omega))]; rfl]; rfl
end Go.Proofs.Ytijjnbabdlllkaa.Wk
