/- The rules read into a map. No condition. -/
import Derived.Test.YtaecdkhpidligaaR3
set_option linter.unusedSimpArgs false
set_option linter.unusedVariables false
namespace Go.Proofs.Ytaecdkhpidligaa.Wr
open Go Go.RowKit Go.Proofs.Ytaecdkhpidligaa.Av Go.Proofs.Ytaecdkhpidligaa.Wk
theorem ents_take {l : List Kp} {k : Nat} (h : k < l.length) : ents (l.take k) ++ [(Value.int .i64 (ix l k).purpose, .ag (eKp (ix l k)))] = ents (l.take (k + 1)) := by
  rw [take_ix h]; unfold ents; rw [List.map_append]; rfl
set_option maxHeartbeats 4000000 in
set_option maxRecDepth 100000 in
theorem read_all (l : List Kp) : Ctr Try.prog 15 [.sl 3 (List.map eKp l)] (.tu [rd l, .fl (.int .i64 (ck l))]) := by
  refine ctr (n := 54) (rs := #[.tmp 2, .tmp 3]) (L := [(0, .d (.sl 3 (List.map eKp l)))]) Try.func15 rfl rfl rfl rfl rfl (fun w0 U0 => ?_)
  refine a_rseq ?_
  refine rg_put (d := 2) (v := .d (.fl (.map none))) rfl (og rfl (op_assign rfl rfl rfl)) ?_
  refine rg_put (d := 3) (v := .d (.fl (.int .i64 0))) rfl (og rfl (op_assign rfl rfl rfl)) ?_
  refine rg_done rfl ?_
  refine a_seq ?_
  refine a_rseq ?_
  refine rg_put (d := 9) (v := .d (.sl 3 (List.map eKp l))) rfl (og rfl (op_move rfl rfl rfl)) ?_
  refine rg_put (d := 10) (v := .d (.fl (.int .i64 (l.length : Int)))) rfl (og rfl (s_len rfl Try.underlying22 rfl rfl)) ?_
  refine rg_put (d := 11) (v := .d (.fl (.bool ((decide (4 < (l.length : Int))))))) rfl (og rfl (op_bin rfl rfl rfl (b_gtr _ _ _ _) rfl)) ?_
  refine rg_done rfl ?_
  refine a_cond rfl (fun h1 => ?_) (fun h1 => ?_)
  · skip
    have h2 := t_dec h1
    refine a_rseq ?_
    refine rg_put (d := 2) (v := .d (.fl (.map none))) rfl (og rfl (op_assign rfl rfl rfl)) ?_
    refine rg_put (d := 3) (v := .d (.fl (.int .i64 3))) rfl (og rfl (op_assign rfl rfl rfl)) ?_
    refine rg_done rfl ?_
    refine a_ret ?_
    show ∃ ds, ResL _ _ _ ds ∧ RV.of ds = _
    refine ⟨[.fl (.map none), .fl (.int .i64 3)], (.cons (.tmp rfl (.d _)) (.cons (.tmp rfl (.d _)) .nil)), ?_⟩
    have hc : ck l = 3 := by unfold ck; rw [h1]; rfl
    exact congrArg RV.tu (by unfold rd; rw [hc]; rfl)
  · skip
    have h3 := f_dec h1
    refine a_skip ?_
    show A _ _ _ _ _ _ _
    refine a_rseq ?_
    refine rg_nam (d := 12) (v := .ow 101) (m := 101) (nw := [(101, .mp [])]) rfl (og rfl (op_makeMap 101 rfl rfl)) rfl ?_
    refine rg_put (d := 4) (v := .ow 101) rfl (og rfl (op_assign rfl rfl rfl)) ?_
    refine rg_done rfl ?_
    refine a_seq ?_
    refine a_rseq ?_
    refine rg_put (d := 13) (v := .d (.sl 3 (List.map eKp l))) rfl (og rfl (op_move rfl rfl rfl)) ?_
    refine rg_put (d := 14) (v := .d (.fl (.int .i64 (l.length : Int)))) rfl (og rfl (s_len rfl Try.underlying22 rfl rfl)) ?_
    refine rg_put (d := 15) (v := .d (.fl (.int .i64 0))) rfl (og rfl (op_move rfl rfl rfl)) ?_
    refine rg_done rfl ?_
    refine a_block ?_
    refine a_loop (ι := Nat) (fun k => SS [(0, .d (.sl 3 (List.map eKp l))), (4, .ow 101), (11, .d (.fl (.bool ((decide (4 < (l.length : Int))))))), (13, .d (.sl 3 (List.map eKp l))), (14, .d (.fl (.int .i64 (l.length : Int)))), (15, .d (.fl (.int .i64 (k : Int))))] [(101, .mp ((ents (l.take k))))]) (fun k => k ≤ l.length ∧ ck l = fe (bad l) k (l.length - k)) (fun k => l.length - k) 0 (⟨by omega, ck_go h1⟩) (imp_forget rfl ⟨rfl, rfl, rfl, rfl, rfl, (by first | rfl | exact ci (by omega) | exact ci (by simp) | exact cd (by simp) | simp), trivial⟩ ⟨(by first | rfl | simp), trivial⟩) (fun k hok => ?_)
    obtain ⟨hk, hc⟩ := hok
    refine a_rseq ?_
    refine rg_put (d := 16) (v := .d (.fl (.bool ((decide ((k : Int) < (l.length : Int))))))) rfl (og rfl (op_bin rfl rfl rfl (b_lss _ _ _ _) rfl)) ?_
    refine rg_done rfl ?_
    refine a_seq ?_
    refine a_cond rfl (fun h4 => ?_) (fun h4 => ?_)
    · skip
      have h5 := t_dec h4
      refine a_skip ?_
      show A _ _ _ _ _ _ _
      refine a_seq ?_
      refine a_block ?_
      refine a_rseq ?_
      refine rg_put (d := 17) (v := .el ((eKp (ix l k)))) rfl (og rfl (s_index rfl Try.underlying22 ti44 rfl rfl (by omega) (row_at (by omega)) rfl)) ?_
      refine rg_put (d := 18) (v := .d (.ag (eKp (ix l k)))) rfl (og rfl (of_eff (s_load_els rfl Try.underlying44 rfl ti44 rfl rfl rfl) rfl)) ?_
      refine rg_nam (d := 6) (v := .pt 102 0) (m := 102) (nw := [(102, .bx 44 [.fl (.int .i64 0), .fl (.int .i64 0), .fl (.int .i64 0)])]) rfl (og rfl (of_eff (s_alloc 102 rfl ti44 (by kernel_rfl) rfl) rfl)) rfl ?_
      refine rg_sto (nw := [(102, .bx 44 ((eKp (ix l k))))]) rfl (og rfl (of_eff (s_store rfl rfl ti44 rfl rfl rfl rfl rfl rfl) rfl)) ?_
      refine rg_done rfl ?_
      refine a_rseq ?_
      refine rg_put (d := 20) (v := .ow 101) rfl (og rfl (op_move rfl rfl rfl)) ?_
      refine rg_put (d := 21) (v := .pt 102 0) rfl (og rfl (of_eff (s_field_pt rfl Try.underlying44 rfl ti3 rfl rfl rfl) rfl)) ?_
      refine rg_put (d := 22) (v := .d (.fl (.int .i64 ((ix l k).purpose)))) rfl (og rfl (op_load_pt rfl Try.underlying3 rfl rfl rfl rfl rfl)) ?_
      rcases h6 : rule (l.take k) ((ix l k).purpose) with _ | qh6
      · skip
        refine rg_put (d := 23) (v := .tu [.ag (eKp (Kp.mk 0 0 0)), .fl (.bool false)]) rfl (og rfl (op_lookup rfl Try.underlying51 Try.underlying3 rfl ti44 rfl rfl (.ow rfl) rfl (r := none) ((mfind_map .i64 Kp.purpose (fun x => .ag (eKp x)) _ _).trans (congrArg (fun o => some (Option.map (fun x => DV.ag (eKp x)) o)) h6)) rfl)) ?_
        refine rg_put (d := 19) (v := .tu [.ag (eKp (Kp.mk 0 0 0)), .fl (.bool false)]) rfl (og rfl (op_move rfl rfl rfl)) ?_
        refine rg_put (d := 24) (v := .d (.ag (eKp (Kp.mk 0 0 0)))) rfl (og rfl (op_extract rfl rfl rfl rfl)) ?_
        refine rg_put (d := 25) (v := .d (.fl (.bool false))) rfl (og rfl (op_extract rfl rfl rfl rfl)) ?_
        refine rg_nam (d := 7) (v := .pt 103 0) (m := 103) (nw := [(103, .bx 44 [.fl (.int .i64 0), .fl (.int .i64 0), .fl (.int .i64 0)])]) rfl (og rfl (of_eff (s_alloc 103 rfl ti44 (by kernel_rfl) rfl) rfl)) rfl ?_
        refine rg_sto (nw := [(103, .bx 44 ((eKp (Kp.mk 0 0 0))))]) rfl (og rfl (of_eff (s_store rfl rfl ti44 rfl rfl rfl rfl rfl rfl) rfl)) ?_
        refine rg_put (d := 8) (v := .d (.fl (.bool false))) rfl (og rfl (op_assign rfl rfl rfl)) ?_
        refine rg_done rfl ?_
        refine a_seq ?_
        refine a_block ?_
        refine a_rseq ?_
        refine rg_put (d := 27) (v := .pt 102 0) rfl (og rfl (of_eff (s_field_pt rfl Try.underlying44 rfl ti3 rfl rfl rfl) rfl)) ?_
        refine rg_put (d := 28) (v := .d (.fl (.int .i64 ((ix l k).purpose)))) rfl (og rfl (op_load_pt rfl Try.underlying3 rfl rfl rfl rfl rfl)) ?_
        refine rg_put (d := 29) (v := .d (.fl (.bool ((decide ((ix l k).purpose < 1)))))) rfl (og rfl (op_bin rfl rfl rfl (b_lss _ _ _ _) rfl)) ?_
        refine rg_put (d := 30) (v := .d (.fl (.bool ((decide ((ix l k).purpose < 1)))))) rfl (og rfl (op_move rfl rfl rfl)) ?_
        rcases fot ((decide ((ix l k).purpose < 1))) with h7 | h7
        · skip
          have h8 := f_dec h7
          refine rg_put (d := 31) (v := .pt 102 0) rfl (oy rfl rfl rfl h7 (of_eff (s_field_pt rfl Try.underlying44 rfl ti3 rfl rfl rfl) rfl)) ?_
          refine rg_put (d := 32) (v := .d (.fl (.int .i64 ((ix l k).purpose)))) rfl (oy rfl rfl rfl h7 (op_load_pt rfl Try.underlying3 rfl rfl rfl rfl rfl)) ?_
          refine rg_put (d := 33) (v := .d (.fl (.bool ((decide (4 < (ix l k).purpose)))))) rfl (oy rfl rfl rfl h7 (op_bin rfl rfl rfl (b_gtr _ _ _ _) rfl)) ?_
          refine rg_put (d := 34) (v := .d (.fl (.bool ((decide (4 < (ix l k).purpose)))))) rfl (og rfl (op_pick rfl rfl (by rw [h7]; rfl) rfl)) ?_
          refine rg_put (d := 26) (v := .d (.fl (.bool ((decide (4 < (ix l k).purpose)))))) rfl (og rfl (op_assign rfl rfl rfl)) ?_
          refine rg_done rfl ?_
          refine a_cond rfl (fun h9 => ?_) (fun h9 => ?_)
          · skip
            have h10 := t_dec h9
            refine a_rseq ?_
            refine rg_put (d := 2) (v := .d (.fl (.map none))) rfl (og rfl (op_assign rfl rfl rfl)) ?_
            refine rg_put (d := 3) (v := .d (.fl (.int .i64 1))) rfl (og rfl (op_assign rfl rfl rfl)) ?_
            refine rg_done rfl ?_
            refine a_ret ?_
            show ∃ ds, ResL _ _ _ ds ∧ RV.of ds = _
            refine ⟨[.fl (.map none), .fl (.int .i64 1)], (.cons (.tmp rfl (.d _)) (.cons (.tmp rfl (.d _)) .nil)), ?_⟩
            have hr : (rule (l.take k) (ix l k).purpose).isSome = false := by rw [h6]; rfl
            have hb : bad l k = 1 := by
              unfold bad; simp only [h1, h4, h7, h9, hr]; rfl
            have hc := fe_yes (by omega) hc hb (by decide)
            exact congrArg RV.tu (by unfold rd; rw [hc]; rfl)
          · skip
            have h11 := f_dec h9
            refine a_rseq ?_
            refine rg_put (d := 36) (v := .d (.fl (.bool false))) rfl (og rfl (op_move rfl rfl rfl)) ?_
            refine rg_put (d := 35) (v := .d (.fl (.bool false))) rfl (og rfl (op_assign rfl rfl rfl)) ?_
            refine rg_done rfl ?_
            refine a_condF rfl rfl ?_
            refine a_rseq ?_
            refine rg_put (d := 38) (v := .pt 102 1) rfl (og rfl (of_eff (s_field_pt rfl Try.underlying44 rfl ti3 rfl rfl rfl) rfl)) ?_
            refine rg_put (d := 39) (v := .d (.fl (.int .i64 ((ix l k).seconds)))) rfl (og rfl (op_load_pt rfl Try.underlying3 rfl rfl rfl rfl rfl)) ?_
            refine rg_put (d := 40) (v := .d (.fl (.bool ((isD ((ix l k).seconds)))))) rfl (og rfl (op_call rfl Try.func30 nm30 rfl (.cons rfl (.d _) .nil) (isDur ((ix l k).seconds)) rfl)) ?_
            refine rg_put (d := 41) (v := .d (.fl (.bool ((!((isD ((ix l k).seconds)))))))) rfl (og rfl (op_un rfl rfl (u_not _) rfl)) ?_
            refine rg_put (d := 42) (v := .d (.fl (.bool ((!((isD ((ix l k).seconds)))))))) rfl (og rfl (op_move rfl rfl rfl)) ?_
            rcases fot ((!((isD ((ix l k).seconds))))) with h12 | h12
            · skip
              have h13 := f_not h12
              refine rg_put (d := 43) (v := .pt 102 2) rfl (oy rfl rfl rfl h12 (of_eff (s_field_pt rfl Try.underlying44 rfl ti3 rfl rfl rfl) rfl)) ?_
              refine rg_put (d := 44) (v := .d (.fl (.int .i64 ((ix l k).least)))) rfl (oy rfl rfl rfl h12 (op_load_pt rfl Try.underlying3 rfl rfl rfl rfl rfl)) ?_
              refine rg_put (d := 45) (v := .d (.fl (.bool ((isD ((ix l k).least)))))) rfl (oy rfl rfl rfl h12 (op_call rfl Try.func30 nm30 rfl (.cons rfl (.d _) .nil) (isDur ((ix l k).least)) rfl)) ?_
              refine rg_put (d := 46) (v := .d (.fl (.bool ((!((isD ((ix l k).least)))))))) rfl (oy rfl rfl rfl h12 (op_un rfl rfl (u_not _) rfl)) ?_
              refine rg_put (d := 47) (v := .d (.fl (.bool ((!((isD ((ix l k).least)))))))) rfl (og rfl (op_pick rfl rfl (by rw [h12]; rfl) rfl)) ?_
              refine rg_put (d := 37) (v := .d (.fl (.bool ((!((isD ((ix l k).least)))))))) rfl (og rfl (op_assign rfl rfl rfl)) ?_
              refine rg_done rfl ?_
              refine a_cond rfl (fun h14 => ?_) (fun h14 => ?_)
              · skip
                have h15 := t_not h14
                refine a_rseq ?_
                refine rg_put (d := 2) (v := .d (.fl (.map none))) rfl (og rfl (op_assign rfl rfl rfl)) ?_
                refine rg_put (d := 3) (v := .d (.fl (.int .i64 12))) rfl (og rfl (op_assign rfl rfl rfl)) ?_
                refine rg_done rfl ?_
                refine a_ret ?_
                show ∃ ds, ResL _ _ _ ds ∧ RV.of ds = _
                refine ⟨[.fl (.map none), .fl (.int .i64 12)], (.cons (.tmp rfl (.d _)) (.cons (.tmp rfl (.d _)) .nil)), ?_⟩
                have hr : (rule (l.take k) (ix l k).purpose).isSome = false := by rw [h6]; rfl
                have hb : bad l k = 12 := by
                  unfold bad; simp only [h1, h4, h7, h9, h12, h13, h14, h15, hr]; rfl
                have hc := fe_yes (by omega) hc hb (by decide)
                exact congrArg RV.tu (by unfold rd; rw [hc]; rfl)
              · skip
                have h16 := f_not h14
                refine a_skip ?_
                show A _ _ _ _ _ _ _
                refine a_region ?_
                refine rg_put (d := 48) (v := .ow 101) rfl (og rfl (op_move rfl rfl rfl)) ?_
                refine rg_put (d := 49) (v := .pt 102 0) rfl (og rfl (of_eff (s_field_pt rfl Try.underlying44 rfl ti3 rfl rfl rfl) rfl)) ?_
                refine rg_put (d := 50) (v := .d (.fl (.int .i64 ((ix l k).purpose)))) rfl (og rfl (op_load_pt rfl Try.underlying3 rfl rfl rfl rfl rfl)) ?_
                refine rg_put (d := 51) (v := .d (.ag (eKp (ix l k)))) rfl (og rfl (of_eff (s_load_pts rfl Try.underlying44 rfl ti44 rfl rfl rfl rfl) rfl)) ?_
                refine rg_sto (nw := [(101, .mp ((ents (l.take k)) ++ [((.int .i64 ((ix l k).purpose)), .ag (eKp (ix l k)))]))]) rfl (og rfl (op_mapPush rfl rfl Try.underlying51 Try.underlying3 rfl rfl rfl rfl ((mfind_map .i64 Kp.purpose (fun x => .ag (eKp x)) _ _).trans (congrArg (fun o => some (Option.map (fun x => DV.ag (eKp x)) o)) h6)) rfl)) ?_
                refine rg_done rfl ?_
                show A _ _ _ _ _ _ _
                refine a_region ?_
                refine rg_put (d := 52) (v := .d (.fl (.int .i64 (((k : Int) + 1))))) rfl (og rfl (op_bin rfl rfl rfl (fun x y w => b_add64 _ _ _ x y w (by omega)) rfl)) ?_
                refine rg_put (d := 15) (v := .d (.fl (.int .i64 (((k : Int) + 1))))) rfl (og rfl (op_move rfl rfl rfl)) ?_
                refine rg_done rfl ?_
                have hr : (rule (l.take k) (ix l k).purpose).isSome = false := by rw [h6]; rfl
                have hb : bad l k = 0 := by
                  unfold bad; simp only [h1, h4, h7, h9, h12, h13, h14, h16, hr]; rfl
                show ∃ i, _ ∧ _ ∧ Imp _ _ _ _ _
                refine ⟨k + 1, ⟨by omega, fe_no (by omega) hc hb⟩, by omega, imp_forget rfl ⟨rfl, rfl, rfl, rfl, rfl, (by first | rfl | exact ci (by omega) | exact ci (by simp) | exact cd (by simp) | simp), trivial⟩ ⟨(congrArg Ob.mp (ents_take (by omega))), trivial⟩⟩
            · skip
              have h17 := t_not h12
              refine rg_put (d := 43) (v := .d (.fl undef)) rfl (on rfl rfl rfl h12) ?_
              refine rg_put (d := 44) (v := .d (.fl undef)) rfl (on rfl rfl rfl h12) ?_
              refine rg_put (d := 45) (v := .d (.fl undef)) rfl (on rfl rfl rfl h12) ?_
              refine rg_put (d := 46) (v := .d (.fl undef)) rfl (on rfl rfl rfl h12) ?_
              refine rg_put (d := 47) (v := .d (.fl (.bool true))) rfl (og rfl (op_pick rfl rfl (by rw [h12]; rfl) rfl)) ?_
              refine rg_put (d := 37) (v := .d (.fl (.bool true))) rfl (og rfl (op_assign rfl rfl rfl)) ?_
              refine rg_done rfl ?_
              refine a_condK rfl rfl ?_
              refine a_rseq ?_
              refine rg_put (d := 2) (v := .d (.fl (.map none))) rfl (og rfl (op_assign rfl rfl rfl)) ?_
              refine rg_put (d := 3) (v := .d (.fl (.int .i64 12))) rfl (og rfl (op_assign rfl rfl rfl)) ?_
              refine rg_done rfl ?_
              refine a_ret ?_
              show ∃ ds, ResL _ _ _ ds ∧ RV.of ds = _
              refine ⟨[.fl (.map none), .fl (.int .i64 12)], (.cons (.tmp rfl (.d _)) (.cons (.tmp rfl (.d _)) .nil)), ?_⟩
              have hr : (rule (l.take k) (ix l k).purpose).isSome = false := by rw [h6]; rfl
              have hb : bad l k = 12 := by
                unfold bad; simp only [h1, h4, h7, h9, h12, h17, hr]; rfl
              have hc := fe_yes (by omega) hc hb (by decide)
              exact congrArg RV.tu (by unfold rd; rw [hc]; rfl)
        · skip
          have h18 := t_dec h7
          refine rg_put (d := 31) (v := .d (.fl undef)) rfl (on rfl rfl rfl h7) ?_
          refine rg_put (d := 32) (v := .d (.fl undef)) rfl (on rfl rfl rfl h7) ?_
          refine rg_put (d := 33) (v := .d (.fl undef)) rfl (on rfl rfl rfl h7) ?_
          refine rg_put (d := 34) (v := .d (.fl (.bool true))) rfl (og rfl (op_pick rfl rfl (by rw [h7]; rfl) rfl)) ?_
          refine rg_put (d := 26) (v := .d (.fl (.bool true))) rfl (og rfl (op_assign rfl rfl rfl)) ?_
          refine rg_done rfl ?_
          refine a_condK rfl rfl ?_
          refine a_rseq ?_
          refine rg_put (d := 2) (v := .d (.fl (.map none))) rfl (og rfl (op_assign rfl rfl rfl)) ?_
          refine rg_put (d := 3) (v := .d (.fl (.int .i64 1))) rfl (og rfl (op_assign rfl rfl rfl)) ?_
          refine rg_done rfl ?_
          refine a_ret ?_
          show ∃ ds, ResL _ _ _ ds ∧ RV.of ds = _
          refine ⟨[.fl (.map none), .fl (.int .i64 1)], (.cons (.tmp rfl (.d _)) (.cons (.tmp rfl (.d _)) .nil)), ?_⟩
          have hr : (rule (l.take k) (ix l k).purpose).isSome = false := by rw [h6]; rfl
          have hb : bad l k = 1 := by
            unfold bad; simp only [h1, h4, h7, hr]; rfl
          have hc := fe_yes (by omega) hc hb (by decide)
          exact congrArg RV.tu (by unfold rd; rw [hc]; rfl)
      · skip
        refine rg_put (d := 23) (v := .tu [.ag (eKp qh6), .fl (.bool true)]) rfl (og rfl (op_lookup rfl Try.underlying51 Try.underlying3 rfl ti44 rfl rfl (.ow rfl) rfl (r := (some (.ag (eKp qh6)))) ((mfind_map .i64 Kp.purpose (fun x => .ag (eKp x)) _ _).trans (congrArg (fun o => some (Option.map (fun x => DV.ag (eKp x)) o)) h6)) rfl)) ?_
        refine rg_put (d := 19) (v := .tu [.ag (eKp qh6), .fl (.bool true)]) rfl (og rfl (op_move rfl rfl rfl)) ?_
        refine rg_put (d := 24) (v := .d (.ag (eKp qh6))) rfl (og rfl (op_extract rfl rfl rfl rfl)) ?_
        refine rg_put (d := 25) (v := .d (.fl (.bool true))) rfl (og rfl (op_extract rfl rfl rfl rfl)) ?_
        refine rg_nam (d := 7) (v := .pt 104 0) (m := 104) (nw := [(104, .bx 44 [.fl (.int .i64 0), .fl (.int .i64 0), .fl (.int .i64 0)])]) rfl (og rfl (of_eff (s_alloc 104 rfl ti44 (by kernel_rfl) rfl) rfl)) rfl ?_
        refine rg_sto (nw := [(104, .bx 44 (eKp qh6))]) rfl (og rfl (of_eff (s_store rfl rfl ti44 rfl rfl rfl rfl rfl rfl) rfl)) ?_
        refine rg_put (d := 8) (v := .d (.fl (.bool true))) rfl (og rfl (op_assign rfl rfl rfl)) ?_
        refine rg_done rfl ?_
        refine a_seq ?_
        refine a_block ?_
        refine a_rseq ?_
        refine rg_put (d := 27) (v := .pt 102 0) rfl (og rfl (of_eff (s_field_pt rfl Try.underlying44 rfl ti3 rfl rfl rfl) rfl)) ?_
        refine rg_put (d := 28) (v := .d (.fl (.int .i64 ((ix l k).purpose)))) rfl (og rfl (op_load_pt rfl Try.underlying3 rfl rfl rfl rfl rfl)) ?_
        refine rg_put (d := 29) (v := .d (.fl (.bool ((decide ((ix l k).purpose < 1)))))) rfl (og rfl (op_bin rfl rfl rfl (b_lss _ _ _ _) rfl)) ?_
        refine rg_put (d := 30) (v := .d (.fl (.bool ((decide ((ix l k).purpose < 1)))))) rfl (og rfl (op_move rfl rfl rfl)) ?_
        rcases fot ((decide ((ix l k).purpose < 1))) with h19 | h19
        · skip
          have h20 := f_dec h19
          refine rg_put (d := 31) (v := .pt 102 0) rfl (oy rfl rfl rfl h19 (of_eff (s_field_pt rfl Try.underlying44 rfl ti3 rfl rfl rfl) rfl)) ?_
          refine rg_put (d := 32) (v := .d (.fl (.int .i64 ((ix l k).purpose)))) rfl (oy rfl rfl rfl h19 (op_load_pt rfl Try.underlying3 rfl rfl rfl rfl rfl)) ?_
          refine rg_put (d := 33) (v := .d (.fl (.bool ((decide (4 < (ix l k).purpose)))))) rfl (oy rfl rfl rfl h19 (op_bin rfl rfl rfl (b_gtr _ _ _ _) rfl)) ?_
          refine rg_put (d := 34) (v := .d (.fl (.bool ((decide (4 < (ix l k).purpose)))))) rfl (og rfl (op_pick rfl rfl (by rw [h19]; rfl) rfl)) ?_
          refine rg_put (d := 26) (v := .d (.fl (.bool ((decide (4 < (ix l k).purpose)))))) rfl (og rfl (op_assign rfl rfl rfl)) ?_
          refine rg_done rfl ?_
          refine a_cond rfl (fun h21 => ?_) (fun h21 => ?_)
          · skip
            have h22 := t_dec h21
            refine a_rseq ?_
            refine rg_put (d := 2) (v := .d (.fl (.map none))) rfl (og rfl (op_assign rfl rfl rfl)) ?_
            refine rg_put (d := 3) (v := .d (.fl (.int .i64 1))) rfl (og rfl (op_assign rfl rfl rfl)) ?_
            refine rg_done rfl ?_
            refine a_ret ?_
            show ∃ ds, ResL _ _ _ ds ∧ RV.of ds = _
            refine ⟨[.fl (.map none), .fl (.int .i64 1)], (.cons (.tmp rfl (.d _)) (.cons (.tmp rfl (.d _)) .nil)), ?_⟩
            have hr : (rule (l.take k) (ix l k).purpose).isSome = true := by rw [h6]; rfl
            have hb : bad l k = 1 := by
              unfold bad; simp only [h1, h4, h19, h21, hr]; rfl
            have hc := fe_yes (by omega) hc hb (by decide)
            exact congrArg RV.tu (by unfold rd; rw [hc]; rfl)
          · skip
            have h23 := f_dec h21
            refine a_rseq ?_
            refine rg_put (d := 36) (v := .d (.fl (.bool true))) rfl (og rfl (op_move rfl rfl rfl)) ?_
            refine rg_put (d := 35) (v := .d (.fl (.bool true))) rfl (og rfl (op_assign rfl rfl rfl)) ?_
            refine rg_done rfl ?_
            refine a_condK rfl rfl ?_
            refine a_rseq ?_
            refine rg_put (d := 2) (v := .d (.fl (.map none))) rfl (og rfl (op_assign rfl rfl rfl)) ?_
            refine rg_put (d := 3) (v := .d (.fl (.int .i64 9))) rfl (og rfl (op_assign rfl rfl rfl)) ?_
            refine rg_done rfl ?_
            refine a_ret ?_
            show ∃ ds, ResL _ _ _ ds ∧ RV.of ds = _
            refine ⟨[.fl (.map none), .fl (.int .i64 9)], (.cons (.tmp rfl (.d _)) (.cons (.tmp rfl (.d _)) .nil)), ?_⟩
            have hr : (rule (l.take k) (ix l k).purpose).isSome = true := by rw [h6]; rfl
            have hb : bad l k = 9 := by
              unfold bad; simp only [h1, h4, h19, h21, hr]; rfl
            have hc := fe_yes (by omega) hc hb (by decide)
            exact congrArg RV.tu (by unfold rd; rw [hc]; rfl)
        · skip
          have h24 := t_dec h19
          refine rg_put (d := 31) (v := .d (.fl undef)) rfl (on rfl rfl rfl h19) ?_
          refine rg_put (d := 32) (v := .d (.fl undef)) rfl (on rfl rfl rfl h19) ?_
          refine rg_put (d := 33) (v := .d (.fl undef)) rfl (on rfl rfl rfl h19) ?_
          refine rg_put (d := 34) (v := .d (.fl (.bool true))) rfl (og rfl (op_pick rfl rfl (by rw [h19]; rfl) rfl)) ?_
          refine rg_put (d := 26) (v := .d (.fl (.bool true))) rfl (og rfl (op_assign rfl rfl rfl)) ?_
          refine rg_done rfl ?_
          refine a_condK rfl rfl ?_
          refine a_rseq ?_
          refine rg_put (d := 2) (v := .d (.fl (.map none))) rfl (og rfl (op_assign rfl rfl rfl)) ?_
          refine rg_put (d := 3) (v := .d (.fl (.int .i64 1))) rfl (og rfl (op_assign rfl rfl rfl)) ?_
          refine rg_done rfl ?_
          refine a_ret ?_
          show ∃ ds, ResL _ _ _ ds ∧ RV.of ds = _
          refine ⟨[.fl (.map none), .fl (.int .i64 1)], (.cons (.tmp rfl (.d _)) (.cons (.tmp rfl (.d _)) .nil)), ?_⟩
          have hr : (rule (l.take k) (ix l k).purpose).isSome = true := by rw [h6]; rfl
          have hb : bad l k = 1 := by
            unfold bad; simp only [h1, h4, h19, hr]; rfl
          have hc := fe_yes (by omega) hc hb (by decide)
          exact congrArg RV.tu (by unfold rd; rw [hc]; rfl)
    · skip
      have h25 := f_dec h4
      refine a_exit ?_
      show A _ _ _ _ _ _ _
      refine a_rseq ?_
      refine rg_imp (imp_mp 4 101 rfl rfl) ?_
      refine rg_put (d := 53) (v := .d (.mp (ents (l.take k)))) rfl (og rfl (op_move rfl rfl rfl)) ?_
      refine rg_put (d := 2) (v := .d (.mp (ents (l.take k)))) rfl (og rfl (op_assign rfl rfl rfl)) ?_
      refine rg_put (d := 3) (v := .d (.fl (.int .i64 0))) rfl (og rfl (op_assign rfl rfl rfl)) ?_
      refine rg_done rfl ?_
      refine a_ret ?_
      show ∃ ds, ResL _ _ _ ds ∧ RV.of ds = _
      refine ⟨[.mp (ents (l.take k)), .fl (.int .i64 0)], (.cons (.tmp rfl (.d _)) (.cons (.tmp rfl (.d _)) .nil)), ?_⟩
      rw [fe_end (by omega)] at hc
      rw [List.take_of_length_le (by omega)]
      exact congrArg RV.tu (by unfold rd; rw [hc]; rfl)
end Go.Proofs.Ytaecdkhpidligaa.Wr
