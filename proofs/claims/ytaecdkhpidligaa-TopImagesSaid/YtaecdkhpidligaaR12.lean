/- A hold laid on an image. Condition: lists of at most a thousand. -/
import Derived.Test.YtaecdkhpidligaaR11
set_option linter.unusedSimpArgs false
set_option linter.unusedVariables false
namespace Go.Proofs.Ytaecdkhpidligaa.Wr
open Go Go.RowKit Go.Proofs.Ytaecdkhpidligaa.Av Go.Proofs.Ytaecdkhpidligaa.Wk
def addR (x : Im) (r : ByteArray) : Im := { x with hold := x.hold ++ [r] }
def hld (l : List Im) (id reason : ByteArray) : List Im × Int :=
  if (!isN reason) = true then (l, 6) else if (decide (ifind l id < 0)) = true then (l, 10) else if has reason (ix l (ifind l id).toNat).hold = true then (l, 9) else
  if (decide ((16 : Int) ≤ ((ix l (ifind l id).toNat).hold.length : Int))) = true then (l, 3) else (l.set (ifind l id).toNat (addR (ix l (ifind l id).toNat) reason), 0)
theorem idx_lt {α : Type} {p : α → Bool} {l : List α} : idx p l < (l.length : Int) := by
  unfold idx
  split
  · rename_i i h
    have := (List.findIdx?_eq_some_iff_getElem.1 h).1
    omega
  · omega
theorem ifind_lt (l : List Im) (id : ByteArray) : ifind l id < (l.length : Int) := idx_lt
theorem oIm_ok (y : Im) : ∀ c ∈ oIm y, c.ok = true := by
  intro c hc
  simp [oIm] at hc
  rcases hc with rfl | rfl | rfl | rfl | rfl <;> rfl
theorem set_ok {l : List Im} {i : Nat} {u : List OC} {y : Im} : ∀ r ∈ ((l.map oIm).set i u).set i (oIm y), ∀ c ∈ r, c.ok = true := by
  intro r hr
  rw [List.set_set] at hr
  rcases List.mem_or_eq_of_mem_set hr with h | h
  · obtain ⟨x, _, rfl⟩ := List.mem_map.1 h
    exact oIm_ok x
  · rw [h]; exact oIm_ok y
theorem set_rd {l : List Im} {i : Nat} {u : List OC} {y : Im} : (((l.map oIm).set i u).set i (oIm y)).map (·.map OC.rd) = List.map eIm (l.set i y) := by
  rw [List.set_set, List.map_set, List.map_set, List.map_map]
  rfl

set_option maxHeartbeats 4000000 in
set_option maxRecDepth 100000 in
theorem ret_hold (l : List Im) (id reason : ByteArray) (hl : l.length ≤ 1000) (hb : ∀ q, q < l.length → (ix l q).hold.length ≤ 1000) : Ctr Try.prog 8 [.sl 5 (List.map eIm l), .fl (.string id), .fl (.string reason)] (.tu [.sl 5 (List.map eIm (hld l id reason).1), .fl (.int .i64 (hld l id reason).2)]) := by
  refine ctr (n := 54) (rs := #[.tmp 6, .tmp 7]) (L := [(0, .d (.sl 5 (List.map eIm l))), (1, .d (.fl (.string id))), (2, .d (.fl (.string reason)))]) Try.func8 rfl rfl rfl rfl rfl (fun w0 U0 => ?_)
  refine a_rseq ?_
  refine rg_put (d := 6) (v := .d (.fl (.slice none 0 0))) rfl (og rfl (op_assign rfl rfl rfl)) ?_
  refine rg_put (d := 7) (v := .d (.fl (.int .i64 0))) rfl (og rfl (op_assign rfl rfl rfl)) ?_
  refine rg_done rfl ?_
  refine a_seq ?_
  refine a_rseq ?_
  refine rg_put (d := 10) (v := .d (.fl (.string reason))) rfl (og rfl (op_move rfl rfl rfl)) ?_
  refine rg_put (d := 11) (v := .d (.fl (.bool (isN reason)))) rfl (og rfl (op_call rfl Try.func19 nm19 rfl (.cons rfl (.d _) .nil) (ret_name reason) rfl)) ?_
  refine rg_put (d := 12) (v := .d (.fl (.bool ((!(isN reason)))))) rfl (og rfl (op_un rfl rfl (u_not _) rfl)) ?_
  refine rg_done rfl ?_
  refine a_cond rfl (fun h1 => ?_) (fun h1 => ?_)
  · skip
    have h2 := t_not h1
    refine a_rseq ?_
    refine rg_put (d := 13) (v := .d (.sl 5 (List.map eIm l))) rfl (og rfl (op_move rfl rfl rfl)) ?_
    refine rg_put (d := 6) (v := .d (.sl 5 (List.map eIm l))) rfl (og rfl (op_assign rfl rfl rfl)) ?_
    refine rg_put (d := 7) (v := .d (.fl (.int .i64 6))) rfl (og rfl (op_assign rfl rfl rfl)) ?_
    refine rg_done rfl ?_
    refine a_ret ?_
    show ∃ ds, ResL _ _ _ ds ∧ RV.of ds = _
    refine ⟨[.sl 5 (List.map eIm l), .fl (.int .i64 6)], (.cons (.tmp rfl (.d _)) (.cons (.tmp rfl (.d _)) .nil)), ?_⟩
    have hu : hld l id reason = (l, 6) := by
      unfold hld; simp only [h1, h2]; rfl
    rw [hu]; rfl
  · skip
    have h3 := f_not h1
    refine a_skip ?_
    show A _ _ _ _ _ _ _
    refine a_rseq ?_
    refine rg_put (d := 14) (v := .d (.sl 5 (List.map eIm l))) rfl (og rfl (op_move rfl rfl rfl)) ?_
    refine rg_put (d := 15) (v := .d (.fl (.string id))) rfl (og rfl (op_move rfl rfl rfl)) ?_
    refine rg_put (d := 16) (v := .d (.fl (.int .i64 (ifind l id)))) rfl (og rfl (op_call rfl Try.func20 nm20 rfl (.cons rfl (.d _) (.cons rfl (.d _) .nil)) (ret_index l id (by omega)) rfl)) ?_
    refine rg_put (d := 8) (v := .d (.fl (.int .i64 (ifind l id)))) rfl (og rfl (op_assign rfl rfl rfl)) ?_
    refine rg_done rfl ?_
    refine a_seq ?_
    refine a_block ?_
    refine a_rseq ?_
    refine rg_put (d := 18) (v := .d (.fl (.int .i64 (ifind l id)))) rfl (og rfl (op_move rfl rfl rfl)) ?_
    refine rg_put (d := 19) (v := .d (.fl (.bool ((decide ((ifind l id) < 0)))))) rfl (og rfl (op_bin rfl rfl rfl (b_lss _ _ _ _) rfl)) ?_
    refine rg_put (d := 17) (v := .d (.fl (.bool ((decide ((ifind l id) < 0)))))) rfl (og rfl (op_assign rfl rfl rfl)) ?_
    refine rg_done rfl ?_
    refine a_cond rfl (fun h4 => ?_) (fun h4 => ?_)
    · skip
      have h5 := t_dec h4
      refine a_rseq ?_
      refine rg_put (d := 20) (v := .d (.sl 5 (List.map eIm l))) rfl (og rfl (op_move rfl rfl rfl)) ?_
      refine rg_put (d := 6) (v := .d (.sl 5 (List.map eIm l))) rfl (og rfl (op_assign rfl rfl rfl)) ?_
      refine rg_put (d := 7) (v := .d (.fl (.int .i64 10))) rfl (og rfl (op_assign rfl rfl rfl)) ?_
      refine rg_done rfl ?_
      refine a_ret ?_
      show ∃ ds, ResL _ _ _ ds ∧ RV.of ds = _
      refine ⟨[.sl 5 (List.map eIm l), .fl (.int .i64 10)], (.cons (.tmp rfl (.d _)) (.cons (.tmp rfl (.d _)) .nil)), ?_⟩
      have hu : hld l id reason = (l, 10) := by
        unfold hld; simp only [h1, h3, h4]; rfl
      rw [hu]; rfl
    · skip
      have h6 := f_dec h4
      refine a_rseq ?_
      have hi := ifind_lt l id
      have hbi := hb (ifind l id).toNat (by omega)
      refine rg_put (d := 22) (v := .d (.sl 5 (List.map eIm l))) rfl (og rfl (op_move rfl rfl rfl)) ?_
      refine rg_put (d := 23) (v := .d (.fl (.int .i64 (ifind l id)))) rfl (og rfl (op_move rfl rfl rfl)) ?_
      refine rg_put (d := 24) (v := .el ((eIm ((ix l ((ifind l id)).toNat))))) rfl (og rfl (s_index rfl Try.underlying23 ti40 rfl rfl (by omega) (row_atI (by omega) (by omega)) rfl)) ?_
      refine rg_put (d := 25) (v := .el ((List.drop 3 ((eIm ((ix l ((ifind l id)).toNat))))))) rfl (og rfl (of_eff (s_field_el rfl Try.underlying40 rfl ti33 rfl rfl rfl) rfl)) ?_
      refine rg_put (d := 26) (v := .d (.sl 1 (List.map rS (((ix l ((ifind l id)).toNat)).hold)))) rfl (og rfl (op_load_el rfl Try.underlying33 rfl rfl rfl rfl)) ?_
      refine rg_put (d := 27) (v := .d (.fl (.string reason))) rfl (og rfl (op_move rfl rfl rfl)) ?_
      refine rg_put (d := 28) (v := .d (.fl (.bool ((has reason (((ix l ((ifind l id)).toNat)).hold)))))) rfl (og rfl (op_call rfl Try.func21 nm21 rfl (.cons rfl (.d _) (.cons rfl (.d _) .nil)) (str_has (((ix l ((ifind l id)).toNat)).hold) reason (by omega)) rfl)) ?_
      refine rg_put (d := 21) (v := .d (.fl (.bool ((has reason (((ix l ((ifind l id)).toNat)).hold)))))) rfl (og rfl (op_assign rfl rfl rfl)) ?_
      refine rg_done rfl ?_
      refine a_cond rfl (fun h7 => ?_) (fun h7 => ?_)
      · skip
        refine a_rseq ?_
        refine rg_put (d := 29) (v := .d (.sl 5 (List.map eIm l))) rfl (og rfl (op_move rfl rfl rfl)) ?_
        refine rg_put (d := 6) (v := .d (.sl 5 (List.map eIm l))) rfl (og rfl (op_assign rfl rfl rfl)) ?_
        refine rg_put (d := 7) (v := .d (.fl (.int .i64 9))) rfl (og rfl (op_assign rfl rfl rfl)) ?_
        refine rg_done rfl ?_
        refine a_ret ?_
        show ∃ ds, ResL _ _ _ ds ∧ RV.of ds = _
        refine ⟨[.sl 5 (List.map eIm l), .fl (.int .i64 9)], (.cons (.tmp rfl (.d _)) (.cons (.tmp rfl (.d _)) .nil)), ?_⟩
        have hu : hld l id reason = (l, 9) := by
          unfold hld; simp only [h1, h3, h4, h7]; rfl
        rw [hu]; rfl
      · skip
        refine a_rseq ?_
        refine rg_put (d := 31) (v := .d (.sl 5 (List.map eIm l))) rfl (og rfl (op_move rfl rfl rfl)) ?_
        refine rg_put (d := 32) (v := .d (.fl (.int .i64 (ifind l id)))) rfl (og rfl (op_move rfl rfl rfl)) ?_
        refine rg_put (d := 33) (v := .el ((eIm ((ix l ((ifind l id)).toNat))))) rfl (og rfl (s_index rfl Try.underlying23 ti40 rfl rfl (by omega) (row_atI (by omega) (by omega)) rfl)) ?_
        refine rg_put (d := 34) (v := .el ((List.drop 3 ((eIm ((ix l ((ifind l id)).toNat))))))) rfl (og rfl (of_eff (s_field_el rfl Try.underlying40 rfl ti33 rfl rfl rfl) rfl)) ?_
        refine rg_put (d := 35) (v := .d (.sl 1 (List.map rS (((ix l ((ifind l id)).toNat)).hold)))) rfl (og rfl (op_load_el rfl Try.underlying33 rfl rfl rfl rfl)) ?_
        refine rg_put (d := 36) (v := .d (.fl (.int .i64 (((((ix l ((ifind l id)).toNat)).hold).length : Int))))) rfl (og rfl (s_len rfl Try.underlying33 rfl rfl)) ?_
        refine rg_put (d := 37) (v := .d (.fl (.bool ((decide (16 ≤ ((((ix l ((ifind l id)).toNat)).hold).length : Int))))))) rfl (og rfl (op_bin rfl rfl rfl (b_geq _ _ _ _) rfl)) ?_
        refine rg_put (d := 30) (v := .d (.fl (.bool ((decide (16 ≤ ((((ix l ((ifind l id)).toNat)).hold).length : Int))))))) rfl (og rfl (op_assign rfl rfl rfl)) ?_
        refine rg_done rfl ?_
        refine a_cond rfl (fun h8 => ?_) (fun h8 => ?_)
        · skip
          have h9 := t_dec h8
          refine a_rseq ?_
          refine rg_put (d := 38) (v := .d (.sl 5 (List.map eIm l))) rfl (og rfl (op_move rfl rfl rfl)) ?_
          refine rg_put (d := 6) (v := .d (.sl 5 (List.map eIm l))) rfl (og rfl (op_assign rfl rfl rfl)) ?_
          refine rg_put (d := 7) (v := .d (.fl (.int .i64 3))) rfl (og rfl (op_assign rfl rfl rfl)) ?_
          refine rg_done rfl ?_
          refine a_ret ?_
          show ∃ ds, ResL _ _ _ ds ∧ RV.of ds = _
          refine ⟨[.sl 5 (List.map eIm l), .fl (.int .i64 3)], (.cons (.tmp rfl (.d _)) (.cons (.tmp rfl (.d _)) .nil)), ?_⟩
          have hu : hld l id reason = (l, 3) := by
            unfold hld; simp only [h1, h3, h4, h7, h8]; rfl
          rw [hu]; rfl
        · skip
          have h10 := f_dec h8
          refine a_skip ?_
          show A _ _ _ _ _ _ _
          refine a_rseq ?_
          refine rg_put (d := 39) (v := .d (.sl 5 (List.map eIm l))) rfl (og rfl (op_move rfl rfl rfl)) ?_
          refine rg_nam (d := 40) (v := .ow 101) (m := 101) (nw := [(101, .tr 40 5 (l.map oIm))]) rfl (og rfl (of_eff (op_callO 101 rfl Try.func13 nm13 rfl (.cons rfl (.d _) .nil) (images_copy l (by omega) (fun q h => by have := hb q h; omega)) rfl) rfl)) rfl ?_
          refine rg_put (d := 9) (v := .ow 101) rfl (og rfl (op_assign rfl rfl rfl)) ?_
          refine rg_done rfl ?_
          refine a_rseq ?_
          refine rg_put (d := 41) (v := .ow 101) rfl (og rfl (op_move rfl rfl rfl)) ?_
          refine rg_put (d := 42) (v := .d (.fl (.int .i64 (ifind l id)))) rfl (og rfl (op_move rfl rfl rfl)) ?_
          refine rg_put (d := 43) (v := .ow 101) rfl (og rfl (op_move rfl rfl rfl)) ?_
          refine rg_put (d := 44) (v := .d (.fl (.int .i64 (ifind l id)))) rfl (og rfl (op_move rfl rfl rfl)) ?_
          refine rg_put (d := 45) (v := .pe 101 5 (((ifind l id)).toNat) 0) rfl (og rfl (op_index_trI rfl Try.underlying23 ti40 rfl rfl rfl (by omega) (get_lt (map_at (by omega))) rfl)) ?_
          refine rg_put (d := 46) (v := .pe 101 5 (((ifind l id)).toNat) 3) rfl (og rfl (of_eff (op_field_pe rfl Try.underlying40 rfl ti33 rfl rfl rfl) rfl)) ?_
          refine rg_nam (d := 47) (v := .ow 102) (m := 102) (nw := [(102, .tr 9 1 (tD rS ((ix l (((ifind l id)).toNat)).hold))), (101, .tr 40 5 (((l.map oIm).set (((ifind l id)).toNat) [.dv (.fl (.string ((ix l (((ifind l id)).toNat)).id))), .dv (.fl (.int .i64 ((ix l (((ifind l id)).toNat)).time))), .dv (.fl (.int .i64 ((ix l (((ifind l id)).toNat)).purpose))), .un, .dv (.fl (.int .u64 ((ix l (((ifind l id)).toNat)).dig)))])))]) rfl (og rfl (of_eff (op_take 102 rfl Try.underlying33 rfl rfl rfl (map_at (by omega)) rfl rfl rfl) rfl)) rfl ?_
          refine rg_put (d := 48) (v := .d (.fl (.string reason))) rfl (og rfl (op_move rfl rfl rfl)) ?_
          refine rg_put (d := 49) (v := .d (.sl 1 (List.map rS [reason]))) rfl (og rfl (of_eff (op_slices rfl Try.underlying33 ti9 rfl rfl rfl (by kernel_rfl) (xs := [.fl (.string reason)]) rfl rfl (.cons rfl rfl (.d _) rfl rfl rfl .nil) rfl) rfl)) ?_
          refine rg_nam (d := 50) (v := .ow 103) (m := 103) (nw := [(103, .tr 9 1 (tD rS (((ix l (((ifind l id)).toNat)).hold ++ [reason])))), (102, .no)]) rfl (og rfl (of_eff (s_append_td 103 rfl Try.underlying33 ti9 rfl rfl rfl rfl rfl (.d _) (by simp only [List.length_cons, List.length_nil]; omega) rfl) rfl)) rfl ?_
          refine rg_put (d := 51) (v := .pe 101 5 (((ifind l id)).toNat) 0) rfl (og rfl (op_index_trI rfl Try.underlying23 ti40 rfl rfl rfl (by omega) (get_lt (set_get (map_at (by omega)))) rfl)) ?_
          refine rg_put (d := 52) (v := .pe 101 5 (((ifind l id)).toNat) 3) rfl (og rfl (of_eff (op_field_pe rfl Try.underlying40 rfl ti33 rfl rfl rfl) rfl)) ?_
          refine rg_sto (nw := [(101, .tr 40 5 ((((((l.map oIm).set (((ifind l id)).toNat) [.dv (.fl (.string ((ix l (((ifind l id)).toNat)).id))), .dv (.fl (.int .i64 ((ix l (((ifind l id)).toNat)).time))), .dv (.fl (.int .i64 ((ix l (((ifind l id)).toNat)).purpose))), .un, .dv (.fl (.int .u64 ((ix l (((ifind l id)).toNat)).dig)))]))).set (((ifind l id)).toNat) [.dv (.fl (.string ((ix l (((ifind l id)).toNat)).id))), .dv (.fl (.int .i64 ((ix l (((ifind l id)).toNat)).time))), .dv (.fl (.int .i64 ((ix l (((ifind l id)).toNat)).purpose))), .ow 9 1 (List.map rS (((ix l (((ifind l id)).toNat)).hold ++ [reason]))), .dv (.fl (.int .u64 ((ix l (((ifind l id)).toNat)).dig)))]))), (103, .no)]) rfl (og rfl (of_eff (op_store_pe rfl rfl ti33 rfl rfl (set_get (map_at (by omega))) rfl (.tr rfl) rfl rfl rfl) rfl)) ?_
          refine rg_done rfl ?_
          refine a_rseq ?_
          refine rg_imp (imp_leakE 9 101 (rows' := List.map eIm (l.set (ifind l id).toNat (addR (ix l (ifind l id).toNat) reason))) rfl rfl (set_ok (y := (addR (ix l (ifind l id).toNat) reason))) (set_rd (y := (addR (ix l (ifind l id).toNat) reason)))) ?_
          refine rg_put (d := 53) (v := .d (.sl 5 (List.map eIm ((l.set (ifind l id).toNat (addR (ix l (ifind l id).toNat) reason)))))) rfl (og rfl (op_move rfl rfl rfl)) ?_
          refine rg_put (d := 6) (v := .d (.sl 5 (List.map eIm ((l.set (ifind l id).toNat (addR (ix l (ifind l id).toNat) reason)))))) rfl (og rfl (op_assign rfl rfl rfl)) ?_
          refine rg_put (d := 7) (v := .d (.fl (.int .i64 0))) rfl (og rfl (op_assign rfl rfl rfl)) ?_
          refine rg_done rfl ?_
          refine a_ret ?_
          show ∃ ds, ResL _ _ _ ds ∧ RV.of ds = _
          refine ⟨[.sl 5 (List.map eIm ((l.set (ifind l id).toNat (addR (ix l (ifind l id).toNat) reason)))), .fl (.int .i64 0)], (.cons (.tmp rfl (.d _)) (.cons (.tmp rfl (.d _)) .nil)), ?_⟩
          have hu : hld l id reason = ((l.set (ifind l id).toNat (addR (ix l (ifind l id).toNat) reason)), 0) := by
            unfold hld; simp only [h1, h3, h4, h7, h8]; rfl
          rw [hu]; rfl
end Go.Proofs.Ytaecdkhpidligaa.Wr
