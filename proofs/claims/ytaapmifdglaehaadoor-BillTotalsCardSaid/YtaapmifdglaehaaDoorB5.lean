/- The charges of an account. Conditions: as each theorem names them. -/
import Derived.Test.YtaapmifdglaehaaDoorB4
set_option linter.unusedSimpArgs false
set_option linter.unusedVariables false
namespace Go.Proofs.YtaapmifdglaehaaDoor.Wk
open Go Go.RowKit Go.Proofs.YtaapmifdglaehaaDoor.Av
def cf (b : Bil) : Cfg := ⟨(.slice none 0 0), (.slice none 0 0), (.slice none 0 0), (.slice none 0 0), (.slice none 0 0), (.slice none 0 0), (.int .i64 0), (.int .i64 0), (.slice none 0 0), (.int .i64 0), (.slice none 0 0), (.slice none 0 0), (.slice none 0 0), (.slice none 0 0), b.caps, (.slice none 0 0), (.slice none 0 0), b.acc, (.slice none 0 0), (.slice none 0 0), (.slice none 0 0), (.slice none 0 0), (.int .i64 0), (.slice none 0 0), (.string ⟨#[]⟩)⟩
theorem ofl_z {l : List Ac} {n : ByteArray} {c : List Chg} (hz : ∀ q, q < c.length → (ix c q).lines.length ≤ 8) : ∀ q, q < (ofl l n c).length → (ix (ofl l n c) q).lines.length ≤ 8 := by
  intro q hq
  have h1 := ix_mem hq
  obtain ⟨i, hi, he⟩ := List.mem_iff_getElem.1 (List.mem_filter.1 (show ix (ofl l n c) q ∈ c.filter _ from h1)).1
  have h3 := ix_get hi
  rw [List.getElem?_eq_getElem hi, he] at h3
  injection h3 with h3
  rw [h3]; exact hz i hi
set_option maxHeartbeats 4000000 in
set_option maxRecDepth 100000 in
theorem cf16 (b : Bil) : Ctr Tryd.prog 7 [.ag (eBil b)] (.d (.ag (eCfg (cf b)))) := by
  refine ctr (n := 8) (rs := #[.cell 2 56]) (L := [(0, .d (.ag (eBil b)))]) Tryd.func7 rfl rfl rfl rfl rfl (fun w0 U0 => ?_)
  refine a_rseq ?_
  refine rg_nam (d := 1) (v := .pt 101 0) (m := 101) (nw := [(101, .bx 26 (eBil b))]) rfl (og rfl (of_eff (op_box 101 rfl rfl rfl rfl) rfl)) rfl ?_
  refine rg_nam (d := 2) (v := .pt 102 0) (m := 102) (nw := [(102, .bx 56 ([.fl (.slice none 0 0), .fl (.slice none 0 0), .fl (.slice none 0 0), .fl (.slice none 0 0), .fl (.slice none 0 0), .fl (.slice none 0 0), .fl (.int .i64 0), .fl (.int .i64 0), .fl (.slice none 0 0), .fl (.int .i64 0), .fl (.slice none 0 0), .fl (.slice none 0 0), .fl (.slice none 0 0), .fl (.slice none 0 0), .fl (.slice none 0 0), .fl (.slice none 0 0), .fl (.slice none 0 0), .fl (.slice none 0 0), .fl (.slice none 0 0), .fl (.slice none 0 0), .fl (.slice none 0 0), .fl (.slice none 0 0), .fl (.int .i64 0), .fl (.slice none 0 0), .fl (.string (⟨#[]⟩))]))]) rfl (og rfl (of_eff (s_alloc 102 rfl ti56 (by kernel_rfl) rfl) rfl)) rfl ?_
  refine rg_done rfl ?_
  refine a_rseq ?_
  refine rg_put (d := 3) (v := .pt 101 0) rfl (og rfl (of_eff (s_field_pt rfl Tryd.underlying26 rfl ti22 rfl rfl rfl) rfl)) ?_
  refine rg_put (d := 4) (v := .d (.sl 9 (List.map eAc b.acc))) rfl (og rfl (op_load_pt rfl Tryd.underlying22 rfl rfl rfl rfl rfl)) ?_
  refine rg_put (d := 5) (v := .pt 101 1) rfl (og rfl (of_eff (s_field_pt rfl Tryd.underlying26 rfl ti23 rfl rfl rfl) rfl)) ?_
  refine rg_put (d := 6) (v := .d (.sl 4 (List.map eCa b.caps))) rfl (og rfl (op_load_pt rfl Tryd.underlying23 rfl rfl rfl rfl rfl)) ?_
  refine rg_put (d := 7) (v := .d (.ag [.fl (.slice none 0 0), .fl (.slice none 0 0), .fl (.slice none 0 0), .fl (.slice none 0 0), .fl (.slice none 0 0), .fl (.slice none 0 0), .fl (.int .i64 0), .fl (.int .i64 0), .fl (.slice none 0 0), .fl (.int .i64 0), .fl (.slice none 0 0), .fl (.slice none 0 0), .fl (.slice none 0 0), .fl (.slice none 0 0), .sl 4 (List.map eCa b.caps), .fl (.slice none 0 0), .fl (.slice none 0 0), .sl 9 (List.map eAc b.acc), .fl (.slice none 0 0), .fl (.slice none 0 0), .fl (.slice none 0 0), .fl (.slice none 0 0), .fl (.int .i64 0), .fl (.slice none 0 0), .fl (.string (⟨#[]⟩))])) rfl (og rfl (of_eff (op_build rfl Tryd.underlying56 ti56 rfl (by kernel_rfl) (by kernel_rfl) (pl := #[(0, 3), (3, 1), (4, 1), (5, 1), (6, 1), (7, 1), (8, 1), (9, 4), (13, 1), (14, 1), (15, 1), (16, 1), (17, 1), (18, 1), (19, 1), (20, 3), (23, 1), (24, 1)]) (by kernel_rfl) (.cons rfl rfl (.d _) rfl rfl rfl (.cons rfl rfl (.d _) rfl rfl rfl .nil)) rfl) rfl)) ?_
  refine rg_sto (nw := [(102, .bx 56 ([.fl (.slice none 0 0), .fl (.slice none 0 0), .fl (.slice none 0 0), .fl (.slice none 0 0), .fl (.slice none 0 0), .fl (.slice none 0 0), .fl (.int .i64 0), .fl (.int .i64 0), .fl (.slice none 0 0), .fl (.int .i64 0), .fl (.slice none 0 0), .fl (.slice none 0 0), .fl (.slice none 0 0), .fl (.slice none 0 0), .sl 4 (List.map eCa b.caps), .fl (.slice none 0 0), .fl (.slice none 0 0), .sl 9 (List.map eAc b.acc), .fl (.slice none 0 0), .fl (.slice none 0 0), .fl (.slice none 0 0), .fl (.slice none 0 0), .fl (.int .i64 0), .fl (.slice none 0 0), .fl (.string (⟨#[]⟩))]))]) rfl (og rfl (of_eff (s_store rfl rfl ti56 rfl rfl rfl rfl rfl rfl) rfl)) ?_
  refine rg_done rfl ?_
  refine a_ret ?_
  show ∃ ds, ResL _ _ _ ds ∧ RV.of ds = _
  refine ⟨[.ag [.fl (.slice none 0 0), .fl (.slice none 0 0), .fl (.slice none 0 0), .fl (.slice none 0 0), .fl (.slice none 0 0), .fl (.slice none 0 0), .fl (.int .i64 0), .fl (.int .i64 0), .fl (.slice none 0 0), .fl (.int .i64 0), .fl (.slice none 0 0), .fl (.slice none 0 0), .fl (.slice none 0 0), .fl (.slice none 0 0), .sl 4 (List.map eCa b.caps), .fl (.slice none 0 0), .fl (.slice none 0 0), .sl 9 (List.map eAc b.acc), .fl (.slice none 0 0), .fl (.slice none 0 0), .fl (.slice none 0 0), .fl (.slice none 0 0), .fl (.int .i64 0), .fl (.slice none 0 0), .fl (.string (⟨#[]⟩))]], (.cons (.cellT rfl rfl Tryd.underlying56 rfl ti56 rfl (Cv.ag (xs := [.fl (.slice none 0 0), .fl (.slice none 0 0), .fl (.slice none 0 0), .fl (.slice none 0 0), .fl (.slice none 0 0), .fl (.slice none 0 0), .fl (.int .i64 0), .fl (.int .i64 0), .fl (.slice none 0 0), .fl (.int .i64 0), .fl (.slice none 0 0), .fl (.slice none 0 0), .fl (.slice none 0 0), .fl (.slice none 0 0), .sl 4 (List.map eCa b.caps), .fl (.slice none 0 0), .fl (.slice none 0 0), .sl 9 (List.map eAc b.acc), .fl (.slice none 0 0), .fl (.slice none 0 0), .fl (.slice none 0 0), .fl (.slice none 0 0), .fl (.int .i64 0), .fl (.slice none 0 0), .fl (.string (⟨#[]⟩))]) (ys := [.fl (.slice none 0 0), .fl (.slice none 0 0), .fl (.slice none 0 0), .fl (.slice none 0 0), .fl (.slice none 0 0), .fl (.slice none 0 0), .fl (.int .i64 0), .fl (.int .i64 0), .fl (.slice none 0 0), .fl (.int .i64 0), .fl (.slice none 0 0), .fl (.slice none 0 0), .fl (.slice none 0 0), .fl (.slice none 0 0), .sl 4 (List.map eCa b.caps), .fl (.slice none 0 0), .fl (.slice none 0 0), .sl 9 (List.map eAc b.acc), .fl (.slice none 0 0), .fl (.slice none 0 0), .fl (.slice none 0 0), .fl (.slice none 0 0), .fl (.int .i64 0), .fl (.slice none 0 0), .fl (.string (⟨#[]⟩))]) ⟨Cv.refl _, Cv.refl _, Cv.refl _, Cv.refl _, Cv.refl _, Cv.refl _, Cv.refl _, Cv.refl _, Cv.refl _, Cv.refl _, Cv.refl _, Cv.refl _, Cv.refl _, Cv.refl _, Cv.refl _, Cv.refl _, Cv.refl _, Cv.refl _, Cv.refl _, Cv.refl _, Cv.refl _, Cv.refl _, Cv.refl _, Cv.refl _, Cv.refl _, trivial⟩)) .nil), ?_⟩
  rfl
set_option maxHeartbeats 4000000 in
set_option maxRecDepth 100000 in
theorem of15 (c : Cfg) (n : ByteArray) (l : List Chg) (hc : c.c17.length ≤ 8) (ha : ∀ q, q < c.c17.length → (ix c.c17 q).owned.length ≤ 80) (hl : l.length ≤ 30) (hz : ∀ q, q < l.length → (ix l q).lines.length ≤ 8) : Ctr Tryd.prog 10 [.ag (eCfg c), .fl (.string n), .sl 7 (List.map eChg l)] (.d (.sl 7 (List.map eChg (ofl c.c17 n l)))) := by
  refine ctr (n := 41) (rs := #[.tmp 6]) (L := [(0, .d (.ag (eCfg c))), (1, .d (.fl (.string n))), (2, .d (.sl 7 (List.map eChg l)))]) Tryd.func10 rfl rfl rfl rfl rfl (fun w0 U0 => ?_)
  refine a_rseq ?_
  refine rg_nam (d := 3) (v := .pt 101 0) (m := 101) (nw := [(101, .bx 56 (eCfg c))]) rfl (og rfl (of_eff (op_box 101 rfl rfl rfl rfl) rfl)) rfl ?_
  refine rg_put (d := 6) (v := .d (.fl (.slice none 0 0))) rfl (og rfl (op_assign rfl rfl rfl)) ?_
  refine rg_done rfl ?_
  refine a_rseq ?_
  refine rg_put (d := 7) (v := .d (.fl (.slice none 0 0))) rfl (og rfl (op_assign rfl rfl rfl)) ?_
  refine rg_done rfl ?_
  refine a_seq ?_
  refine a_rseq ?_
  refine rg_put (d := 12) (v := .d (.sl 7 (List.map eChg l))) rfl (og rfl (op_move rfl rfl rfl)) ?_
  refine rg_put (d := 13) (v := .d (.fl (.int .i64 (l.length : Int)))) rfl (og rfl (s_len rfl Tryd.underlying24 rfl rfl)) ?_
  refine rg_put (d := 14) (v := .d (.fl (.int .i64 0))) rfl (og rfl (op_move rfl rfl rfl)) ?_
  refine rg_done rfl ?_
  refine a_block ?_
  refine a_loop (ι := Nat) (fun k => SS [(0, .d (.ag (eCfg c))), (1, .d (.fl (.string n))), (2, .d (.sl 7 (List.map eChg l))), (3, .pt 101 0), (6, .d (.fl (.slice none 0 0))), (12, .d (.sl 7 (List.map eChg l))), (13, .d (.fl (.int .i64 (l.length : Int)))), (14, .d (.fl (.int .i64 (k : Int)))), (7, .ow 700)] [(101, .bx 56 (eCfg c)), (700, .tr 74 7 (tD eChg ((ofl c.c17 n (l.take k)))))]) (fun k => k ≤ l.length) (fun k => l.length - k) 0 (by omega) (Imp.trans (imp_nilT 7 700 74 7 rfl rfl) (imp_forget rfl ⟨rfl, rfl, rfl, rfl, rfl, rfl, rfl, (by first | rfl | exact ci (by omega) | exact ci (by simp) | exact cd (by simp) | simp), (by first | rfl | exact ci (by omega) | exact ci (by simp) | exact cd (by simp) | simp), trivial⟩ ⟨rfl, (by first | rfl | simp), trivial⟩)) (fun k hok => ?_)
  have hk := hok
  refine a_rseq ?_
  refine rg_put (d := 15) (v := .d (.fl (.bool ((decide ((k : Int) < (l.length : Int))))))) rfl (og rfl (op_bin rfl rfl rfl (b_lss _ _ _ _) rfl)) ?_
  refine rg_done rfl ?_
  refine a_seq ?_
  refine a_cond rfl (fun h1 => ?_) (fun h1 => ?_)
  · skip
    have h2 := t_dec h1
    refine a_skip ?_
    show A _ _ _ _ _ _ _
    refine a_seq ?_
    refine a_block ?_
    refine a_rseq ?_
    refine rg_put (d := 16) (v := .el ((eChg (ix l k)))) rfl (og rfl (s_index rfl Tryd.underlying24 ti74 rfl rfl (by omega) (row_at (by omega)) rfl)) ?_
    refine rg_put (d := 17) (v := .d (.ag (eChg (ix l k)))) rfl (og rfl (of_eff (s_load_els rfl Tryd.underlying74 rfl ti74 rfl rfl rfl) rfl)) ?_
    refine rg_nam (d := 9) (v := .pt 102 0) (m := 102) (nw := [(102, .bx 74 ([.fl (.string (⟨#[]⟩)), .fl (.string (⟨#[]⟩)), .fl (.string (⟨#[]⟩)), .fl (.int .i64 0), .fl (.int .i64 0), .fl (.slice none 0 0), .fl (.int .i64 0)]))]) rfl (og rfl (of_eff (s_alloc 102 rfl ti74 (by kernel_rfl) rfl) rfl)) rfl ?_
    refine rg_sto (nw := [(102, .bx 74 ((eChg (ix l k))))]) rfl (og rfl (of_eff (s_store rfl rfl ti74 rfl rfl rfl rfl rfl rfl) rfl)) ?_
    refine rg_done rfl ?_
    refine a_rseq ?_
    refine rg_put (d := 19) (v := .pt 101 17) rfl (og rfl (of_eff (s_field_pt rfl Tryd.underlying56 rfl ti22 rfl rfl rfl) rfl)) ?_
    refine rg_put (d := 20) (v := .d (.sl 9 (List.map eAc c.c17))) rfl (og rfl (op_load_pt rfl Tryd.underlying22 rfl rfl rfl rfl rfl)) ?_
    refine rg_put (d := 21) (v := .pt 102 1) rfl (og rfl (of_eff (s_field_pt rfl Tryd.underlying74 rfl ti9 rfl rfl rfl) rfl)) ?_
    refine rg_put (d := 22) (v := .d (.fl (.string ((ix l k).veh)))) rfl (og rfl (op_load_pt rfl Tryd.underlying9 rfl rfl rfl rfl rfl)) ?_
    refine rg_put (d := 23) (v := .pt 102 4) rfl (og rfl (of_eff (s_field_pt rfl Tryd.underlying74 rfl ti3 rfl rfl rfl) rfl)) ?_
    refine rg_put (d := 24) (v := .d (.fl (.int .i64 ((ix l k).time)))) rfl (og rfl (op_load_pt rfl Tryd.underlying3 rfl rfl rfl rfl rfl)) ?_
    refine rg_put (d := 25) (v := .tu [.fl (.string ((own c.c17 ((ix l k).veh) ((ix l k).time)).1)), .fl (.bool ((own c.c17 ((ix l k).veh) ((ix l k).time)).2))]) rfl (og rfl (op_call rfl Tryd.func25 nm25 rfl (.cons rfl (.d _) (.cons rfl (.d _) (.cons rfl (.d _) .nil))) (owP c.c17 ((ix l k).veh) ((ix l k).time) (by omega) ha) rfl)) ?_
    refine rg_put (d := 18) (v := .tu [.fl (.string ((own c.c17 ((ix l k).veh) ((ix l k).time)).1)), .fl (.bool ((own c.c17 ((ix l k).veh) ((ix l k).time)).2))]) rfl (og rfl (op_move rfl rfl rfl)) ?_
    refine rg_put (d := 26) (v := .d (.fl (.string ((own c.c17 ((ix l k).veh) ((ix l k).time)).1)))) rfl (og rfl (op_extract rfl rfl rfl rfl)) ?_
    refine rg_put (d := 27) (v := .d (.fl (.bool ((own c.c17 ((ix l k).veh) ((ix l k).time)).2)))) rfl (og rfl (op_extract rfl rfl rfl rfl)) ?_
    refine rg_put (d := 10) (v := .d (.fl (.string ((own c.c17 ((ix l k).veh) ((ix l k).time)).1)))) rfl (og rfl (op_assign rfl rfl rfl)) ?_
    refine rg_put (d := 11) (v := .d (.fl (.bool ((own c.c17 ((ix l k).veh) ((ix l k).time)).2)))) rfl (og rfl (op_assign rfl rfl rfl)) ?_
    refine rg_done rfl ?_
    refine a_rseq ?_
    refine rg_put (d := 28) (v := .d (.fl (.bool ((own c.c17 ((ix l k).veh) ((ix l k).time)).2)))) rfl (og rfl (op_move rfl rfl rfl)) ?_
    refine rg_put (d := 29) (v := .d (.fl (.bool ((own c.c17 ((ix l k).veh) ((ix l k).time)).2)))) rfl (og rfl (op_move rfl rfl rfl)) ?_
    rcases fot ((own c.c17 ((ix l k).veh) ((ix l k).time)).2) with h3 | h3
    · skip
      refine rg_put (d := 30) (v := .d (.fl undef)) rfl (on rfl rfl rfl h3) ?_
      refine rg_put (d := 31) (v := .d (.fl undef)) rfl (on rfl rfl rfl h3) ?_
      refine rg_put (d := 32) (v := .d (.fl undef)) rfl (on rfl rfl rfl h3) ?_
      refine rg_put (d := 33) (v := .d (.fl (.bool false))) rfl (og rfl (op_pick rfl rfl (by rw [h3]; rfl) rfl)) ?_
      refine rg_done rfl ?_
      refine a_condF rfl rfl ?_
      refine a_skip ?_
      show A _ _ _ _ _ _ _
      refine a_region ?_
      refine rg_put (d := 38) (v := .d (.fl (.int .i64 (((k : Int) + 1))))) rfl (og rfl (op_bin rfl rfl rfl (fun x y w => b_add64 _ _ _ x y w (by omega)) rfl)) ?_
      refine rg_put (d := 14) (v := .d (.fl (.int .i64 (((k : Int) + 1))))) rfl (og rfl (op_move rfl rfl rfl)) ?_
      refine rg_done rfl ?_
      show ∃ i, _ ∧ _ ∧ Imp _ _ _ _ _
      refine ⟨k + 1, (by omega), by omega, imp_forget rfl ⟨rfl, rfl, rfl, rfl, rfl, rfl, rfl, (by first | rfl | exact ci (by omega) | exact ci (by simp) | exact cd (by simp) | simp), rfl, trivial⟩ ⟨rfl, (congrArg (fun z => Ob.tr 74 7 (tD eChg z)) (ofl_n (by omega) (by unfold isO o2 o1; simp only [h1, h3, Bool.true_or, Bool.false_or, Bool.or_true, Bool.or_false, Bool.not_true, Bool.not_false, cond_true, cond_false, Bool.true_and, Bool.false_and, Bool.and_true, Bool.and_false] <;> rfl))), trivial⟩⟩
    · skip
      refine rg_put (d := 30) (v := .d (.fl (.string ((own c.c17 ((ix l k).veh) ((ix l k).time)).1)))) rfl (oy rfl rfl rfl h3 (op_move rfl rfl rfl)) ?_
      refine rg_put (d := 31) (v := .d (.fl (.string n))) rfl (oy rfl rfl rfl h3 (op_move rfl rfl rfl)) ?_
      refine rg_put (d := 32) (v := .d (.fl (.bool ((sEq ((own c.c17 ((ix l k).veh) ((ix l k).time)).1) n))))) rfl (oy rfl rfl rfl h3 (op_bin rfl rfl rfl (b_seq _ _ _) rfl)) ?_
      refine rg_put (d := 33) (v := .d (.fl (.bool ((sEq ((own c.c17 ((ix l k).veh) ((ix l k).time)).1) n))))) rfl (og rfl (op_pick rfl rfl (by rw [h3]; rfl) rfl)) ?_
      refine rg_done rfl ?_
      refine a_cond rfl (fun h4 => ?_) (fun h4 => ?_)
      · skip
        refine a_region ?_
        refine rg_put (d := 34) (v := .ow 700) rfl (og rfl (op_move rfl rfl rfl)) ?_
        refine rg_put (d := 35) (v := .d (.ag (eChg (ix l k)))) rfl (og rfl (of_eff (s_load_pts rfl Tryd.underlying74 rfl ti74 rfl rfl rfl rfl) rfl)) ?_
        refine rg_put (d := 36) (v := .d (.sl 7 (List.map eChg [(ix l k)]))) rfl (og rfl (of_eff (op_slices rfl Tryd.underlying24 ti74 rfl rfl rfl (by kernel_rfl) (xs := [.ag (eChg (ix l k))]) rfl rfl (.cons rfl rfl (.d _) rfl rfl rfl .nil) rfl) rfl)) ?_
        refine rg_nam (d := 37) (v := .ow 103) (m := 103) (nw := [(103, .tr 74 7 (tD eChg (((ofl c.c17 n (l.take k)) ++ [(ix l k)])))), (700, .no)]) rfl (og rfl (of_eff (s_append_td 103 rfl Tryd.underlying24 ti74 rfl rfl rfl rfl rfl (.d _) (by simp only [List.length_append, List.length_cons, List.length_nil]; have := ofl_tk c.c17 n l k; omega) rfl) rfl)) rfl ?_
        refine rg_put (d := 7) (v := .ow 103) rfl (og rfl (op_assign rfl rfl rfl)) ?_
        refine rg_done rfl ?_
        show A _ _ _ _ _ _ _
        refine a_region ?_
        refine rg_put (d := 38) (v := .d (.fl (.int .i64 (((k : Int) + 1))))) rfl (og rfl (op_bin rfl rfl rfl (fun x y w => b_add64 _ _ _ x y w (by omega)) rfl)) ?_
        refine rg_put (d := 14) (v := .d (.fl (.int .i64 (((k : Int) + 1))))) rfl (og rfl (op_move rfl rfl rfl)) ?_
        refine rg_done rfl ?_
        show ∃ i, _ ∧ _ ∧ Imp _ _ _ _ _
        refine ⟨k + 1, (by omega), by omega, imp_ren (fun m => bif Nat.beq m 700 then 103 else m) rfl ⟨rfl, rfl, rfl, rfl, rfl, rfl, rfl, (by first | rfl | exact ci (by omega) | exact ci (by simp) | exact cd (by simp) | simp), rfl, trivial⟩ ⟨rfl, (congrArg (fun z => Ob.tr 74 7 (tD eChg z)) (ofl_y (by omega) (by unfold isO o2 o1; simp only [h1, h3, h4, Bool.true_or, Bool.false_or, Bool.or_true, Bool.or_false, Bool.not_true, Bool.not_false, cond_true, cond_false, Bool.true_and, Bool.false_and, Bool.and_true, Bool.and_false] <;> rfl))), trivial⟩⟩
      · skip
        refine a_skip ?_
        show A _ _ _ _ _ _ _
        refine a_region ?_
        refine rg_put (d := 38) (v := .d (.fl (.int .i64 (((k : Int) + 1))))) rfl (og rfl (op_bin rfl rfl rfl (fun x y w => b_add64 _ _ _ x y w (by omega)) rfl)) ?_
        refine rg_put (d := 14) (v := .d (.fl (.int .i64 (((k : Int) + 1))))) rfl (og rfl (op_move rfl rfl rfl)) ?_
        refine rg_done rfl ?_
        show ∃ i, _ ∧ _ ∧ Imp _ _ _ _ _
        refine ⟨k + 1, (by omega), by omega, imp_forget rfl ⟨rfl, rfl, rfl, rfl, rfl, rfl, rfl, (by first | rfl | exact ci (by omega) | exact ci (by simp) | exact cd (by simp) | simp), rfl, trivial⟩ ⟨rfl, (congrArg (fun z => Ob.tr 74 7 (tD eChg z)) (ofl_n (by omega) (by unfold isO o2 o1; simp only [h1, h3, h4, Bool.true_or, Bool.false_or, Bool.or_true, Bool.or_false, Bool.not_true, Bool.not_false, cond_true, cond_false, Bool.true_and, Bool.false_and, Bool.and_true, Bool.and_false] <;> rfl))), trivial⟩⟩
  · skip
    have h5 := f_dec h1
    refine a_exit ?_
    show A _ _ _ _ _ _ _
    refine a_rseq ?_
    have hkl : k = l.length := by omega
    rw [show (ofl c.c17 n (l.take k)) = (ofl c.c17 n l) from by rw [hkl, List.take_length]]
    refine rg_put (d := 39) (v := .ow 700) rfl (og rfl (op_move rfl rfl rfl)) ?_
    refine rg_imp (imp_leakT 39 700 rfl rfl) ?_
    refine rg_put (d := 40) (v := .d (.sl 7 (List.map eChg (ofl c.c17 n l)))) rfl (og rfl (op_call rfl Tryd.func26 nm26 rfl (.cons rfl (.d _) .nil) (chsX (ofl c.c17 n l) (by have := ofl_len c.c17 n l; omega) (ofl_z hz)) rfl)) ?_
    refine rg_put (d := 6) (v := .d (.sl 7 (List.map eChg (ofl c.c17 n l)))) rfl (og rfl (op_assign rfl rfl rfl)) ?_
    refine rg_done rfl ?_
    refine a_ret ?_
    show ∃ ds, ResL _ _ _ ds ∧ RV.of ds = _
    refine ⟨[.sl 7 (List.map eChg (ofl c.c17 n l))], (.cons (.tmp rfl (.d _)) .nil), ?_⟩
    rfl
end Go.Proofs.YtaapmifdglaehaaDoor.Wk
