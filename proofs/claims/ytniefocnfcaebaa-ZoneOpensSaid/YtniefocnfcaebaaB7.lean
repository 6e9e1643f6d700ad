/- The times at which a fee is due. Conditions: as each theorem names them. -/
import Derived.Test.YtniefocnfcaebaaAvS
import Derived.Test.YtniefocnfcaebaaAvN
import Derived.Test.YtniefocnfcaebaaB6
set_option linter.unusedSimpArgs false
set_option linter.unusedVariables false
namespace Go.Proofs.Ytniefocnfcaebaa.Wk
open Go Go.RowKit Go.Proofs.Ytniefocnfcaebaa.Av
theorem cat_no {l : List Wd} {i : Ivl} (he : spE i ≠ 0) : ∀ k, cat l i k = []
  | 0 => rfl
  | k + 1 => by
    rw [cat_s, cat_no he k]
    unfold spL
    rw [if_neg (fun h => he h.1)]; rfl
theorem nrm_nil : nrm [] = [] := by
  have := nrm_len []
  exact List.length_eq_zero_iff.1 (by simpa using this)
theorem enf_no {z : Zn} {i : Ivl} (he : spE i ≠ 0) : enf z i = [] := by unfold enf; rw [cat_no he, nrm_nil]
theorem catH {z : Zn} (hl : z.hours.length ≤ 60) (i : Ivl) {k : Nat} (hk : k ≤ (vws (hrs z)).length) : (cat (vws (hrs z)) i k).length ≤ 21960 := by
  have h2 := cat_len (vws (hrs z)) i k
  have h3 := vws_le (hrs z)
  have h4 := hrs_le z hl
  omega

set_option maxHeartbeats 4000000 in
set_option maxRecDepth 100000 in
theorem enf15 (z : Zn) (i : Ivl) (hl : z.hours.length ≤ 60) : Ctr Try.prog 15 [.ag (eZn z), .ag (eIv i)] (.tu [.sl 2 (List.map eIv (enf z i)), .fl (.int .i64 (spE i))]) := by
  refine ctrN (n := 35) (rs := #[.tmp 4, .tmp 5]) (L := [(0, .d (.ag (eZn z))), (1, .d (.ag (eIv i)))]) Try.func15 rfl rfl rfl rfl rfl (fun w0 U0 => ?_)
  refine b_rseq ?_
  refine rg_nam (d := 2) (v := .pt 101 0) (m := 101) (nw := [(101, .bx 25 (eZn z))]) rfl (og rfl (of_eff (op_box 101 rfl rfl rfl rfl) rfl)) rfl ?_
  refine rg_nam (d := 3) (v := .pt 102 0) (m := 102) (nw := [(102, .bx 32 (eIv i))]) rfl (og rfl (of_eff (op_box 102 rfl rfl rfl rfl) rfl)) rfl ?_
  refine rg_put (d := 4) (v := .d (.fl (.slice none 0 0))) rfl (og rfl (op_assign rfl rfl rfl)) ?_
  refine rg_put (d := 5) (v := .d (.fl (.int .i64 0))) rfl (og rfl (op_assign rfl rfl rfl)) ?_
  refine rg_done rfl ?_
  refine b_seqA ?_
  refine a_rseq ?_
  refine rg_put (d := 13) (v := .d (.ag (eWd (Wd.mk 0 0 0)))) rfl (og rfl (of_eff (op_build rfl Try.underlying48 ti48 rfl (by kernel_rfl) (by kernel_rfl) (pl := #[(0, 1), (1, 1), (2, 1)]) (by kernel_rfl) .nil rfl) rfl)) ?_
  refine rg_put (d := 14) (v := .d (.ag (eIv i))) rfl (og rfl (of_eff (s_load_pts rfl Try.underlying32 rfl ti32 rfl rfl rfl rfl) rfl)) ?_
  refine rg_put (d := 15) (v := .tu [.sl 2 (List.map eIv ((spL (Wd.mk 0 0 0) i))), .fl (.int .i64 (spE i))]) rfl (og rfl (op_call rfl Try.func29 nm29 rfl (.cons rfl (.d _) (.cons rfl (.d _) .nil)) (spans29 (Wd.mk 0 0 0) i) rfl)) ?_
  refine rg_put (d := 12) (v := .tu [.sl 2 (List.map eIv ((spL (Wd.mk 0 0 0) i))), .fl (.int .i64 (spE i))]) rfl (og rfl (op_move rfl rfl rfl)) ?_
  refine rg_put (d := 16) (v := .d (.sl 2 (List.map eIv ((spL (Wd.mk 0 0 0) i))))) rfl (og rfl (op_extract rfl rfl rfl rfl)) ?_
  refine rg_put (d := 17) (v := .d (.fl (.int .i64 (spE i)))) rfl (og rfl (op_extract rfl rfl rfl rfl)) ?_
  refine rg_put (d := 6) (v := .d (.sl 2 (List.map eIv ((spL (Wd.mk 0 0 0) i))))) rfl (og rfl (op_assign rfl rfl rfl)) ?_
  refine rg_put (d := 7) (v := .d (.fl (.int .i64 (spE i)))) rfl (og rfl (op_assign rfl rfl rfl)) ?_
  refine rg_done rfl ?_
  refine a_rseq ?_
  refine rg_put (d := 18) (v := .d (.fl (.int .i64 (spE i)))) rfl (og rfl (op_move rfl rfl rfl)) ?_
  refine rg_put (d := 19) (v := .d (.fl (.bool (((spE i) != 0))))) rfl (og rfl (op_bin rfl rfl rfl (b_neq _ _ _ _) rfl)) ?_
  refine rg_done rfl ?_
  refine a_cond rfl (fun h1 => ?_) (fun h1 => ?_)
  · skip
    have h2 := t_bne h1
    refine a_rseq ?_
    refine rg_put (d := 20) (v := .d (.fl (.int .i64 (spE i)))) rfl (og rfl (op_move rfl rfl rfl)) ?_
    refine rg_put (d := 4) (v := .d (.fl (.slice none 0 0))) rfl (og rfl (op_assign rfl rfl rfl)) ?_
    refine rg_put (d := 5) (v := .d (.fl (.int .i64 (spE i)))) rfl (og rfl (op_assign rfl rfl rfl)) ?_
    refine rg_done rfl ?_
    refine a_ret ?_
    show ∃ ds, ResL _ _ _ ds ∧ RV.of ds = _
    refine ⟨[.sl 2 (List.map eIv []), .fl (.int .i64 (spE i))], (.cons (.tmp rfl (.cv (Cv.nil _))) (.cons (.tmp rfl (.d _)) .nil)), ?_⟩
    have hE : spE i ≠ 0 := by simpa using h1
    rw [enf_no hE]; rfl
  · skip
    have h3 := f_bne h1
    refine a_skip ?_
    show B _ _ _ _ _ _ _
    refine b_rseq ?_
    refine rg_nam (d := 8) (v := .pt 103 0) (m := 103) (nw := [(103, .bx 34 [.fl (.slice none 0 0)])]) rfl (og rfl (of_eff (s_alloc 103 rfl ti34 (by kernel_rfl) rfl) rfl)) rfl ?_
    refine rg_done rfl ?_
    refine b_seqB ?_
    refine b_rseq ?_
    refine rg_imp (imp_bt 103 rfl) ?_
    refine rg_imp (imp_btnil 103 0 32 2 rfl rfl) ?_
    have hE : spE i = 0 := by first | exact eq_of_beq (by assumption) | exact (f_bne (by assumption))
    refine rg_put (d := 21) (v := .d (.ag (eZn z))) rfl (og rfl (of_eff (s_load_pts rfl Try.underlying25 rfl ti25 rfl rfl rfl rfl) rfl)) ?_
    refine rg_put (d := 22) (v := .d (.fn 37 [.el [.sl 3 (List.map eWd (hrs z))]])) rfl (og rfl (op_call rfl Try.func24 nm24 rfl (.cons rfl (.d _) .nil) (hours24 z hl) rfl)) ?_
    refine rg_done rfl ?_
    refine b_block ?_
    refine b_name 2 101 rfl (fun vn2 => ?_)
    refine b_name 3 102 rfl (fun vn3 => ?_)
    refine b_name 8 103 rfl (fun vn8 => ?_)
    refine b_imp (τ := SS [(0, .d (.ag (eZn z))), (1, .d (.ag (eIv i))), (2, .pv 101 vn2), (3, .pv 102 vn3), (4, .d (.fl (.slice none 0 0))), (5, .d (.fl (.int .i64 0))), (7, .d (.fl (.int .i64 (spE i)))), (8, .pv 103 vn8), (19, .d (.fl (.bool (((spE i) != 0))))), (22, .d (.fn 37 [.el [.sl 3 (List.map eWd (hrs z))]]))] [(101, .bx 25 (eZn z)), (102, .bx 32 (eIv i)), (103, .bt 34 [.ow 32 2 (List.map eIv ((cat (vws (hrs z)) i 0)))])]) (imp_forget rfl ⟨rfl, rfl, rfl, rfl, rfl, rfl, rfl, rfl, rfl, rfl, trivial⟩ ⟨rfl, rfl, (by first | rfl | simp), trivial⟩) ?_
    refine b_range (L := [(0, .d (.ag (eZn z))), (1, .d (.ag (eIv i))), (2, .pv 101 vn2), (3, .pv 102 vn3), (4, .d (.fl (.slice none 0 0))), (5, .d (.fl (.int .i64 0))), (7, .d (.fl (.int .i64 (spE i)))), (8, .pv 103 vn8), (19, .d (.fl (.bool (((spE i) != 0))))), (22, .d (.fn 37 [.el [.sl 3 (List.map eWd (hrs z))]]))]) (xs := List.map (fun x => .ag (eWd x)) ((vws (hrs z)))) (fun _ => false) (fun k => [(101, .bx 25 (eZn z)), (102, .bx 32 (eIv i)), (103, .bt 34 [.ow 32 2 (List.map eIv ((cat (vws (hrs z)) i k)))])]) rfl Try.func37 nm37 rfl (seqH (hrs z) (hrs_le z hl)) rfl rfl (fun k => rfl) (fun k => rfl) (fun k x hx hst H0 V0 Q0 => ?_) (fun hst H0 V0 Q0 => ?_)
    · skip
      obtain ⟨hkk, rfl⟩ := mapget hx
      have hcl := catH hl i (Nat.le_of_lt hkk)
      have hsl := spL_len (ix (vws (hrs z)) k) i
      refine a_region ?_
      refine rg_nam (d := 9) (v := .pt 104 0) (m := 104) (nw := [(104, .bx 48 [.fl (.int .i64 0), .fl (.int .i64 0), .fl (.int .i64 0)])]) rfl (og rfl (of_eff (s_alloc 104 rfl ti48 (by kernel_rfl) rfl) rfl)) rfl ?_
      refine rg_sto (nw := [(104, .bx 48 ((eWd ((ix ((vws (hrs z))) k)))))]) rfl (og rfl (of_eff (s_store rfl rfl ti48 rfl rfl rfl rfl rfl rfl) rfl)) ?_
      refine rg_done rfl ?_
      show ∃ L1 M1, _ ∧ _ ∧ _
      refine ⟨_, _, rfl, rfl, fun H0 V0 Q0 => ?_⟩
      show A _ _ _ _ _ _ (SS _ _)
      refine a_block ?_
      refine a_rseq ?_
      refine rg_put (d := 25) (v := .d (.ag (eWd (((ix ((vws (hrs z))) k)))))) rfl (og rfl (of_eff (s_load_pts rfl Try.underlying48 rfl ti48 rfl rfl rfl rfl) rfl)) ?_
      refine rg_put (d := 26) (v := .d (.ag (eIv i))) rfl (og rfl (of_eff (s_load_pts rfl Try.underlying32 rfl ti32 rfl rfl rfl rfl) rfl)) ?_
      refine rg_put (d := 27) (v := .tu [.sl 2 (List.map eIv ((spL (((ix ((vws (hrs z))) k))) i))), .fl (.int .i64 (spE i))]) rfl (og rfl (op_call rfl Try.func29 nm29 rfl (.cons rfl (.d _) (.cons rfl (.d _) .nil)) (spans29 (((ix ((vws (hrs z))) k))) i) rfl)) ?_
      refine rg_put (d := 24) (v := .tu [.sl 2 (List.map eIv ((spL (((ix ((vws (hrs z))) k))) i))), .fl (.int .i64 (spE i))]) rfl (og rfl (op_move rfl rfl rfl)) ?_
      refine rg_put (d := 28) (v := .d (.sl 2 (List.map eIv ((spL (((ix ((vws (hrs z))) k))) i))))) rfl (og rfl (op_extract rfl rfl rfl rfl)) ?_
      refine rg_put (d := 29) (v := .d (.fl (.int .i64 (spE i)))) rfl (og rfl (op_extract rfl rfl rfl rfl)) ?_
      refine rg_put (d := 10) (v := .d (.sl 2 (List.map eIv ((spL (((ix ((vws (hrs z))) k))) i))))) rfl (og rfl (op_assign rfl rfl rfl)) ?_
      refine rg_put (d := 11) (v := .d (.fl (.int .i64 (spE i)))) rfl (og rfl (op_assign rfl rfl rfl)) ?_
      refine rg_done rfl ?_
      refine a_region ?_
      refine rg_nam (d := 30) (v := .ow 105) (m := 105) (nw := [(105, .tr 32 2 (tD eIv ((cat (vws (hrs z)) i k)))), (103, .bt 34 [.un])]) rfl (og rfl (of_eff (op_takeBt 105 rfl Try.underlying34 rfl rfl rfl rfl rfl rfl) rfl)) rfl ?_
      refine rg_put (d := 31) (v := .d (.sl 2 (List.map eIv ((spL (((ix ((vws (hrs z))) k))) i))))) rfl (og rfl (op_move rfl rfl rfl)) ?_
      refine rg_nam (d := 32) (v := .ow 106) (m := 106) (nw := [(106, .tr 32 2 (tD eIv (((cat (vws (hrs z)) i k) ++ (spL (((ix ((vws (hrs z))) k))) i))))), (105, .no)]) rfl (og rfl (of_eff (s_append_td 106 rfl Try.underlying34 ti32 rfl rfl rfl rfl rfl (.d _) (by omega) rfl) rfl)) rfl ?_
      refine rg_sto (nw := [(103, .bt 34 [.ow 32 2 (List.map eIv (((cat (vws (hrs z)) i k) ++ (spL (((ix ((vws (hrs z))) k))) i))))]), (106, .no)]) rfl (og rfl (of_eff (op_store_bt rfl rfl ti34 rfl rfl rfl (.tr rfl) rfl rfl rfl) rfl)) ?_
      refine rg_done rfl ?_
      show (_ ∧ _ ∧ _) ∨ _
      refine .inl ⟨rfl, rfl, ?_⟩
      exact imp_forget rfl ⟨rfl, rfl, rfl, rfl, rfl, rfl, rfl, rfl, rfl, rfl, trivial⟩ ⟨rfl, rfl, rfl, (by first | rfl | simp), trivial⟩
    · skip
      rw [List.length_map]
      show A _ _ _ _ _ _ _
      refine a_rseq ?_
      refine rg_nam (d := 33) (v := .ow 107) (m := 107) (nw := [(107, .tr 32 2 (tD eIv ((cat (vws (hrs z)) i (vws (hrs z)).length)))), (103, .bt 34 [.un])]) rfl (og rfl (of_eff (op_takeBt 107 rfl Try.underlying34 rfl rfl rfl rfl rfl rfl) rfl)) rfl ?_
      refine rg_imp (imp_leakT 33 107 rfl rfl) ?_
      refine rg_put (d := 34) (v := .d (.sl 2 (List.map eIv ((nrm ((cat (vws (hrs z)) i (vws (hrs z)).length))))))) rfl (og rfl (op_call rfl Try.func30 nm30 rfl (.cons rfl (.d _) .nil) (norm30 ((cat (vws (hrs z)) i (vws (hrs z)).length)) (Nat.le_trans (catH hl i (Nat.le_refl _)) (by omega))) rfl)) ?_
      refine rg_put (d := 4) (v := .d (.sl 2 (List.map eIv ((nrm ((cat (vws (hrs z)) i (vws (hrs z)).length))))))) rfl (og rfl (op_assign rfl rfl rfl)) ?_
      refine rg_put (d := 5) (v := .d (.fl (.int .i64 0))) rfl (og rfl (op_assign rfl rfl rfl)) ?_
      refine rg_done rfl ?_
      refine a_ret ?_
      show _ ∧ _
      refine ⟨?_, rfl⟩
      show ∃ ds, ResL _ _ _ ds ∧ RV.of ds = _
      refine ⟨[.sl 2 (List.map eIv ((nrm ((cat (vws (hrs z)) i (vws (hrs z)).length))))), .fl (.int .i64 0)], (.cons (.tmp rfl (.d _)) (.cons (.tmp rfl (.d _)) .nil)), ?_⟩
      rw [hE]; rfl
end Go.Proofs.Ytniefocnfcaebaa.Wk
