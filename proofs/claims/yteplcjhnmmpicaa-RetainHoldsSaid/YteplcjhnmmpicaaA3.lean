/- The rules of keeping held against each other. No condition. -/
import Derived.Test.YteplcjhnmmpicaaA2
set_option linter.unusedSimpArgs false
set_option linter.unusedVariables false
namespace Go.Proofs.Yteplcjhnmmpicaa.Wk
open Go Go.RowKit Go.Proofs.Yteplcjhnmmpicaa.Av
theorem rule_some {l : List Kp} {k j : Nat} (hj : j < k) (hk : k < l.length) (h : (ix l j).purpose = (ix l k).purpose) : (rule (l.take k) (ix l k).purpose).isSome = true := by
  unfold rule
  rw [List.find?_isSome]
  refine ⟨ix l j, ?_, by simp [h]⟩
  have := ix_get (l := l) (i := j) (by omega)
  exact List.mem_of_getElem? (by rw [List.getElem?_take, if_pos hj]; exact this)
theorem rule_none {l : List Kp} {k : Nat} (hk : k ≤ l.length) (h : ∀ q, q < k → (ix l q).purpose ≠ (ix l k).purpose) : (rule (l.take k) (ix l k).purpose).isSome = false := by
  unfold rule
  rw [Option.isSome_eq_false_iff, Option.isNone_iff_eq_none, List.find?_eq_none]
  intro x hx
  obtain ⟨j, hj, he⟩ := List.mem_iff_getElem.1 hx
  have hjk : j < k := by simp at hj; omega
  have h2 := ix_get (l := l) (i := j) (by omega)
  have h3 : x = ix l j := by
    have : (l.take k)[j]? = some x := by rw [List.getElem?_eq_getElem hj, he]
    rw [List.getElem?_take, if_pos hjk, h2] at this
    injection this with this
    exact this.symm
  rw [h3]
  simp
  exact fun e => h j hjk e.symm
theorem fe_no {f : Nat → Int} {k n : Nat} {c : Int} (h : k < n) (hc : c = fe f k (n - k)) (hb : f k = 0) : c = fe f (k + 1) (n - (k + 1)) := by rw [hc, fe_at h, if_pos hb]
theorem fe_yes {f : Nat → Int} {k n : Nat} {c e : Int} (h : k < n) (hc : c = fe f k (n - k)) (hb : f k = e) (he : e ≠ 0) : c = e := by rw [hc, fe_at h, hb, if_neg he]

set_option maxHeartbeats 4000000 in
set_option maxRecDepth 100000 in
theorem ref_check (l : List Kp) : Ctr Try.prog 13 [.sl 3 (List.map eKp l)] (.d (.fl (.int .i64 (ck l)))) := by
  refine ctr (n := 74) (rs := #[.tmp 2]) (L := [(0, .d (.sl 3 (List.map eKp l)))]) Try.func13 rfl rfl rfl rfl rfl (fun w0 U0 => ?_)
  refine a_rseq ?_
  refine rg_put (d := 2) (v := .d (.fl (.int .i64 0))) rfl (og rfl (op_assign rfl rfl rfl)) ?_
  refine rg_done rfl ?_
  refine a_seq ?_
  refine a_rseq ?_
  refine rg_put (d := 5) (v := .d (.sl 3 (List.map eKp l))) rfl (og rfl (op_move rfl rfl rfl)) ?_
  refine rg_put (d := 6) (v := .d (.fl (.int .i64 (l.length : Int)))) rfl (og rfl (s_len rfl Try.underlying22 rfl rfl)) ?_
  refine rg_put (d := 7) (v := .d (.fl (.bool ((decide (4 < (l.length : Int))))))) rfl (og rfl (op_bin rfl rfl rfl (b_gtr _ _ _ _) rfl)) ?_
  refine rg_done rfl ?_
  refine a_cond rfl (fun h1 => ?_) (fun h1 => ?_)
  · skip
    have h2 := t_dec h1
    refine a_rseq ?_
    refine rg_put (d := 2) (v := .d (.fl (.int .i64 3))) rfl (og rfl (op_assign rfl rfl rfl)) ?_
    refine rg_done rfl ?_
    refine a_ret ?_
    show ∃ ds, ResL _ _ _ ds ∧ RV.of ds = _
    refine ⟨[.fl (.int .i64 3)], (.cons (.tmp rfl (.d _)) .nil), ?_⟩
    have hc : ck l = 3 := by unfold ck; rw [h1]; rfl
    rw [hc]; rfl
  · skip
    have h3 := f_dec h1
    refine a_skip ?_
    show A _ _ _ _ _ _ _
    refine a_seq ?_
    refine a_rseq ?_
    refine rg_put (d := 3) (v := .d (.fl (.int .i64 0))) rfl (og rfl (op_assign rfl rfl rfl)) ?_
    refine rg_done rfl ?_
    refine a_block ?_
    refine a_loop (ι := Nat) (fun k => SS [(0, .d (.sl 3 (List.map eKp l))), (7, .d (.fl (.bool ((decide (4 < (l.length : Int))))))), (3, .d (.fl (.int .i64 (k : Int))))] []) (fun k => k ≤ l.length ∧ ck l = fe (bad l) k (l.length - k)) (fun k => l.length - k) 0 (⟨by omega, ck_go h1⟩) (imp_forget rfl ⟨rfl, rfl, (by first | rfl | exact ci (by omega) | exact ci (by simp) | exact cd (by simp) | simp), trivial⟩ trivial) (fun k hok => ?_)
    obtain ⟨hk, hc⟩ := hok
    refine a_seq ?_
    refine a_rseq ?_
    refine rg_put (d := 8) (v := .d (.fl (.int .i64 (k : Int)))) rfl (og rfl (op_move rfl rfl rfl)) ?_
    refine rg_put (d := 9) (v := .d (.sl 3 (List.map eKp l))) rfl (og rfl (op_move rfl rfl rfl)) ?_
    refine rg_put (d := 10) (v := .d (.fl (.int .i64 (l.length : Int)))) rfl (og rfl (s_len rfl Try.underlying22 rfl rfl)) ?_
    refine rg_put (d := 11) (v := .d (.fl (.bool ((decide ((k : Int) < (l.length : Int))))))) rfl (og rfl (op_bin rfl rfl rfl (b_lss _ _ _ _) rfl)) ?_
    refine rg_done rfl ?_
    refine a_cond rfl (fun h4 => ?_) (fun h4 => ?_)
    · skip
      have h5 := t_dec h4
      refine a_skip ?_
      show A _ _ _ _ _ _ _
      refine a_seq ?_
      refine a_block ?_
      refine a_seq ?_
      refine a_rseq ?_
      refine rg_put (d := 14) (v := .d (.sl 3 (List.map eKp l))) rfl (og rfl (op_move rfl rfl rfl)) ?_
      refine rg_put (d := 15) (v := .d (.fl (.int .i64 (k : Int)))) rfl (og rfl (op_move rfl rfl rfl)) ?_
      refine rg_put (d := 16) (v := .el ((eKp (ix l k)))) rfl (og rfl (s_index rfl Try.underlying22 ti57 rfl rfl (by omega) (row_at (by omega)) rfl)) ?_
      refine rg_put (d := 17) (v := .el ((List.drop 0 ((eKp (ix l k)))))) rfl (og rfl (of_eff (s_field_el rfl Try.underlying57 rfl ti3 rfl rfl rfl) rfl)) ?_
      refine rg_put (d := 18) (v := .d (.fl (.int .i64 ((ix l k).purpose)))) rfl (og rfl (op_load_el rfl Try.underlying3 rfl rfl rfl rfl)) ?_
      refine rg_put (d := 19) (v := .d (.fl (.bool ((decide ((ix l k).purpose < 1)))))) rfl (og rfl (op_bin rfl rfl rfl (b_lss _ _ _ _) rfl)) ?_
      refine rg_put (d := 20) (v := .d (.fl (.bool ((decide ((ix l k).purpose < 1)))))) rfl (og rfl (op_move rfl rfl rfl)) ?_
      rcases fot ((decide ((ix l k).purpose < 1))) with h6 | h6
      · skip
        have h7 := f_dec h6
        refine rg_put (d := 21) (v := .d (.sl 3 (List.map eKp l))) rfl (oy rfl rfl rfl h6 (op_move rfl rfl rfl)) ?_
        refine rg_put (d := 22) (v := .d (.fl (.int .i64 (k : Int)))) rfl (oy rfl rfl rfl h6 (op_move rfl rfl rfl)) ?_
        refine rg_put (d := 23) (v := .el ((eKp (ix l k)))) rfl (oy rfl rfl rfl h6 (s_index rfl Try.underlying22 ti57 rfl rfl (by omega) (row_at (by omega)) rfl)) ?_
        refine rg_put (d := 24) (v := .el ((List.drop 0 ((eKp (ix l k)))))) rfl (oy rfl rfl rfl h6 (of_eff (s_field_el rfl Try.underlying57 rfl ti3 rfl rfl rfl) rfl)) ?_
        refine rg_put (d := 25) (v := .d (.fl (.int .i64 ((ix l k).purpose)))) rfl (oy rfl rfl rfl h6 (op_load_el rfl Try.underlying3 rfl rfl rfl rfl)) ?_
        refine rg_put (d := 26) (v := .d (.fl (.bool ((decide (4 < (ix l k).purpose)))))) rfl (oy rfl rfl rfl h6 (op_bin rfl rfl rfl (b_gtr _ _ _ _) rfl)) ?_
        refine rg_put (d := 27) (v := .d (.fl (.bool ((decide (4 < (ix l k).purpose)))))) rfl (og rfl (op_pick rfl rfl (by rw [h6]; rfl) rfl)) ?_
        refine rg_done rfl ?_
        refine a_cond rfl (fun h8 => ?_) (fun h8 => ?_)
        · skip
          have h9 := t_dec h8
          refine a_rseq ?_
          refine rg_put (d := 2) (v := .d (.fl (.int .i64 1))) rfl (og rfl (op_assign rfl rfl rfl)) ?_
          refine rg_done rfl ?_
          refine a_ret ?_
          show ∃ ds, ResL _ _ _ ds ∧ RV.of ds = _
          refine ⟨[.fl (.int .i64 1)], (.cons (.tmp rfl (.d _)) .nil), ?_⟩
          have hb : bad l k = 1 := by
            unfold bad isD; simp only [h1, h4, h6, h8]; rfl
          rw [fe_yes (by omega) hc hb (by decide)]; rfl
        · skip
          have h10 := f_dec h8
          refine a_skip ?_
          show A _ _ _ _ _ _ _
          refine a_seq ?_
          refine a_rseq ?_
          refine rg_put (d := 4) (v := .d (.fl (.int .i64 0))) rfl (og rfl (op_assign rfl rfl rfl)) ?_
          refine rg_done rfl ?_
          refine a_block ?_
          refine a_loop (ι := Nat) (fun j => SS [(0, .d (.sl 3 (List.map eKp l))), (3, .d (.fl (.int .i64 (k : Int)))), (7, .d (.fl (.bool ((decide (4 < (l.length : Int))))))), (11, .d (.fl (.bool ((decide ((k : Int) < (l.length : Int))))))), (27, .d (.fl (.bool ((decide (4 < (ix l k).purpose)))))), (4, .d (.fl (.int .i64 (j : Int))))] []) (fun j => j ≤ k ∧ ∀ q, q < j → (ix l q).purpose ≠ (ix l k).purpose) (fun j => k - j) 0 (⟨by omega, fun q h => by omega⟩) (imp_forget rfl ⟨rfl, rfl, rfl, rfl, rfl, (by first | rfl | exact ci (by omega) | exact ci (by simp) | exact cd (by simp) | simp), trivial⟩ trivial) (fun j hok => ?_)
          obtain ⟨hj, hq⟩ := hok
          refine a_seq ?_
          refine a_rseq ?_
          refine rg_put (d := 28) (v := .d (.fl (.int .i64 (j : Int)))) rfl (og rfl (op_move rfl rfl rfl)) ?_
          refine rg_put (d := 29) (v := .d (.fl (.int .i64 (k : Int)))) rfl (og rfl (op_move rfl rfl rfl)) ?_
          refine rg_put (d := 30) (v := .d (.fl (.bool ((decide ((j : Int) < (k : Int))))))) rfl (og rfl (op_bin rfl rfl rfl (b_lss _ _ _ _) rfl)) ?_
          refine rg_done rfl ?_
          refine a_cond rfl (fun h11 => ?_) (fun h11 => ?_)
          · skip
            have h12 := t_dec h11
            refine a_skip ?_
            show A _ _ _ _ _ _ _
            refine a_seq ?_
            refine a_block ?_
            refine a_dseq (by kernel_rfl) ?_
            refine dr_put (d := 33) (v := .d (.sl 3 (List.map eKp l))) rfl (og rfl (op_move rfl rfl rfl)) ?_
            refine dr_put (d := 34) (v := .d (.fl (.int .i64 (j : Int)))) rfl (og rfl (op_move rfl rfl rfl)) ?_
            refine dr_put (d := 35) (v := .el ((eKp (ix l j)))) rfl (og rfl (s_index rfl Try.underlying22 ti57 rfl rfl (by omega) (row_at (by omega)) rfl)) ?_
            refine dr_put (d := 36) (v := .el ((List.drop 0 ((eKp (ix l j)))))) rfl (og rfl (of_eff (s_field_el rfl Try.underlying57 rfl ti3 rfl rfl rfl) rfl)) ?_
            refine dr_put (d := 37) (v := .d (.fl (.int .i64 ((ix l j).purpose)))) rfl (og rfl (op_load_el rfl Try.underlying3 rfl rfl rfl rfl)) ?_
            refine dr_put (d := 38) (v := .d (.sl 3 (List.map eKp l))) rfl (og rfl (op_move rfl rfl rfl)) ?_
            refine dr_put (d := 39) (v := .d (.fl (.int .i64 (k : Int)))) rfl (og rfl (op_move rfl rfl rfl)) ?_
            refine dr_put (d := 40) (v := .el ((eKp (ix l k)))) rfl (og rfl (s_index rfl Try.underlying22 ti57 rfl rfl (by omega) (row_at (by omega)) rfl)) ?_
            refine dr_put (d := 41) (v := .el ((List.drop 0 ((eKp (ix l k)))))) rfl (og rfl (of_eff (s_field_el rfl Try.underlying57 rfl ti3 rfl rfl rfl) rfl)) ?_
            refine dr_put (d := 42) (v := .d (.fl (.int .i64 ((ix l k).purpose)))) rfl (og rfl (op_load_el rfl Try.underlying3 rfl rfl rfl rfl)) ?_
            refine dr_put (d := 43) (v := .d (.fl (.bool (((ix l j).purpose == (ix l k).purpose))))) rfl (og rfl (op_bin rfl rfl rfl (b_eql _ _ _ _) rfl)) ?_
            refine dr_done rfl (by kernel_rfl) (by kernel_rfl) ?_
            refine a_cond rfl (fun h13 => ?_) (fun h13 => ?_)
            · skip
              have h14 := t_beq h13
              refine a_rseq ?_
              refine rg_put (d := 2) (v := .d (.fl (.int .i64 9))) rfl (og rfl (op_assign rfl rfl rfl)) ?_
              refine rg_done rfl ?_
              refine a_ret ?_
              show ∃ ds, ResL _ _ _ ds ∧ RV.of ds = _
              refine ⟨[.fl (.int .i64 9)], (.cons (.tmp rfl (.d _)) .nil), ?_⟩
              have hr := rule_some (l := l) (k := k) (j := j) (by omega) (by omega) (t_beq h13)
              have hb : bad l k = 9 := by
                unfold bad isD; simp only [h1, h4, h6, h8, h11, h13, hr]; rfl
              rw [fe_yes (by omega) hc hb (by decide)]; rfl
            · skip
              have h15 := f_beq h13
              refine a_skip ?_
              show A _ _ _ _ _ _ _
              refine a_region ?_
              refine rg_put (d := 31) (v := .d (.fl (.int .i64 (j : Int)))) rfl (og rfl (op_move rfl rfl rfl)) ?_
              refine rg_put (d := 32) (v := .d (.fl (.int .i64 (((j : Int) + 1))))) rfl (og rfl (op_bin rfl rfl rfl (fun x y w => b_add64 _ _ _ x y w (by omega)) rfl)) ?_
              refine rg_put (d := 4) (v := .d (.fl (.int .i64 (((j : Int) + 1))))) rfl (og rfl (op_assign rfl rfl rfl)) ?_
              refine rg_done rfl ?_
              show ∃ i, _ ∧ _ ∧ Imp _ _ _ _ _
              refine ⟨j + 1, ⟨by omega, fun q h => by
                rcases Nat.lt_succ_iff_lt_or_eq.1 h with h | h
                · exact hq q h
                · subst h; exact f_beq h13⟩, by omega, imp_forget rfl ⟨rfl, rfl, rfl, rfl, rfl, (by first | rfl | exact ci (by omega) | exact ci (by simp) | exact cd (by simp) | simp), trivial⟩ trivial⟩
          · skip
            have h16 := f_dec h11
            refine a_exit ?_
            show A _ _ _ _ _ _ _
            refine a_rseq ?_
            have hr := rule_none (l := l) (k := k) (by omega) (fun q h => hq q (by omega))
            refine rg_put (d := 44) (v := .d (.sl 3 (List.map eKp l))) rfl (og rfl (op_move rfl rfl rfl)) ?_
            refine rg_put (d := 45) (v := .d (.fl (.int .i64 (k : Int)))) rfl (og rfl (op_move rfl rfl rfl)) ?_
            refine rg_put (d := 46) (v := .el ((eKp (ix l k)))) rfl (og rfl (s_index rfl Try.underlying22 ti57 rfl rfl (by omega) (row_at (by omega)) rfl)) ?_
            refine rg_put (d := 47) (v := .el ((List.drop 1 ((eKp (ix l k)))))) rfl (og rfl (of_eff (s_field_el rfl Try.underlying57 rfl ti3 rfl rfl rfl) rfl)) ?_
            refine rg_put (d := 48) (v := .d (.fl (.int .i64 ((ix l k).seconds)))) rfl (og rfl (op_load_el rfl Try.underlying3 rfl rfl rfl rfl)) ?_
            refine rg_put (d := 49) (v := .d (.fl (.bool ((decide ((ix l k).seconds < 0)))))) rfl (og rfl (op_bin rfl rfl rfl (b_lss _ _ _ _) rfl)) ?_
            refine rg_put (d := 50) (v := .d (.fl (.bool ((decide ((ix l k).seconds < 0)))))) rfl (og rfl (op_move rfl rfl rfl)) ?_
            rcases fot ((decide ((ix l k).seconds < 0))) with h17 | h17
            · skip
              have h18 := f_dec h17
              refine rg_put (d := 51) (v := .d (.sl 3 (List.map eKp l))) rfl (oy rfl rfl rfl h17 (op_move rfl rfl rfl)) ?_
              refine rg_put (d := 52) (v := .d (.fl (.int .i64 (k : Int)))) rfl (oy rfl rfl rfl h17 (op_move rfl rfl rfl)) ?_
              refine rg_put (d := 53) (v := .el ((eKp (ix l k)))) rfl (oy rfl rfl rfl h17 (s_index rfl Try.underlying22 ti57 rfl rfl (by omega) (row_at (by omega)) rfl)) ?_
              refine rg_put (d := 54) (v := .el ((List.drop 1 ((eKp (ix l k)))))) rfl (oy rfl rfl rfl h17 (of_eff (s_field_el rfl Try.underlying57 rfl ti3 rfl rfl rfl) rfl)) ?_
              refine rg_put (d := 55) (v := .d (.fl (.int .i64 ((ix l k).seconds)))) rfl (oy rfl rfl rfl h17 (op_load_el rfl Try.underlying3 rfl rfl rfl rfl)) ?_
              refine rg_put (d := 56) (v := .d (.fl (.bool ((decide (68719476736 < (ix l k).seconds)))))) rfl (oy rfl rfl rfl h17 (op_bin rfl rfl rfl (b_gtr _ _ _ _) rfl)) ?_
              refine rg_put (d := 57) (v := .d (.fl (.bool ((decide (68719476736 < (ix l k).seconds)))))) rfl (og rfl (op_pick rfl rfl (by rw [h17]; rfl) rfl)) ?_
              refine rg_put (d := 58) (v := .d (.fl (.bool ((decide (68719476736 < (ix l k).seconds)))))) rfl (og rfl (op_move rfl rfl rfl)) ?_
              rcases fot ((decide (68719476736 < (ix l k).seconds))) with h19 | h19
              · skip
                have h20 := f_dec h19
                refine rg_put (d := 59) (v := .d (.sl 3 (List.map eKp l))) rfl (oy rfl rfl rfl h19 (op_move rfl rfl rfl)) ?_
                refine rg_put (d := 60) (v := .d (.fl (.int .i64 (k : Int)))) rfl (oy rfl rfl rfl h19 (op_move rfl rfl rfl)) ?_
                refine rg_put (d := 61) (v := .el ((eKp (ix l k)))) rfl (oy rfl rfl rfl h19 (s_index rfl Try.underlying22 ti57 rfl rfl (by omega) (row_at (by omega)) rfl)) ?_
                refine rg_put (d := 62) (v := .el ((List.drop 2 ((eKp (ix l k)))))) rfl (oy rfl rfl rfl h19 (of_eff (s_field_el rfl Try.underlying57 rfl ti3 rfl rfl rfl) rfl)) ?_
                refine rg_put (d := 63) (v := .d (.fl (.int .i64 ((ix l k).least)))) rfl (oy rfl rfl rfl h19 (op_load_el rfl Try.underlying3 rfl rfl rfl rfl)) ?_
                refine rg_put (d := 64) (v := .d (.fl (.bool ((decide ((ix l k).least < 0)))))) rfl (oy rfl rfl rfl h19 (op_bin rfl rfl rfl (b_lss _ _ _ _) rfl)) ?_
                refine rg_put (d := 65) (v := .d (.fl (.bool ((decide ((ix l k).least < 0)))))) rfl (og rfl (op_pick rfl rfl (by rw [h19]; rfl) rfl)) ?_
                refine rg_put (d := 66) (v := .d (.fl (.bool ((decide ((ix l k).least < 0)))))) rfl (og rfl (op_move rfl rfl rfl)) ?_
                rcases fot ((decide ((ix l k).least < 0))) with h21 | h21
                · skip
                  have h22 := f_dec h21
                  refine rg_put (d := 67) (v := .d (.sl 3 (List.map eKp l))) rfl (oy rfl rfl rfl h21 (op_move rfl rfl rfl)) ?_
                  refine rg_put (d := 68) (v := .d (.fl (.int .i64 (k : Int)))) rfl (oy rfl rfl rfl h21 (op_move rfl rfl rfl)) ?_
                  refine rg_put (d := 69) (v := .el ((eKp (ix l k)))) rfl (oy rfl rfl rfl h21 (s_index rfl Try.underlying22 ti57 rfl rfl (by omega) (row_at (by omega)) rfl)) ?_
                  refine rg_put (d := 70) (v := .el ((List.drop 2 ((eKp (ix l k)))))) rfl (oy rfl rfl rfl h21 (of_eff (s_field_el rfl Try.underlying57 rfl ti3 rfl rfl rfl) rfl)) ?_
                  refine rg_put (d := 71) (v := .d (.fl (.int .i64 ((ix l k).least)))) rfl (oy rfl rfl rfl h21 (op_load_el rfl Try.underlying3 rfl rfl rfl rfl)) ?_
                  refine rg_put (d := 72) (v := .d (.fl (.bool ((decide (68719476736 < (ix l k).least)))))) rfl (oy rfl rfl rfl h21 (op_bin rfl rfl rfl (b_gtr _ _ _ _) rfl)) ?_
                  refine rg_put (d := 73) (v := .d (.fl (.bool ((decide (68719476736 < (ix l k).least)))))) rfl (og rfl (op_pick rfl rfl (by rw [h21]; rfl) rfl)) ?_
                  refine rg_done rfl ?_
                  refine a_cond rfl (fun h23 => ?_) (fun h23 => ?_)
                  · skip
                    have h24 := t_dec h23
                    refine a_rseq ?_
                    refine rg_put (d := 2) (v := .d (.fl (.int .i64 12))) rfl (og rfl (op_assign rfl rfl rfl)) ?_
                    refine rg_done rfl ?_
                    refine a_ret ?_
                    show ∃ ds, ResL _ _ _ ds ∧ RV.of ds = _
                    refine ⟨[.fl (.int .i64 12)], (.cons (.tmp rfl (.d _)) .nil), ?_⟩
                    have hb : bad l k = 12 := by
                      unfold bad isD; simp only [h1, h4, h6, h8, h11, h17, h19, h21, h23, hr]; rfl
                    rw [fe_yes (by omega) hc hb (by decide)]; rfl
                  · skip
                    have h25 := f_dec h23
                    refine a_skip ?_
                    show A _ _ _ _ _ _ _
                    refine a_region ?_
                    refine rg_put (d := 12) (v := .d (.fl (.int .i64 (k : Int)))) rfl (og rfl (op_move rfl rfl rfl)) ?_
                    refine rg_put (d := 13) (v := .d (.fl (.int .i64 (((k : Int) + 1))))) rfl (og rfl (op_bin rfl rfl rfl (fun x y w => b_add64 _ _ _ x y w (by omega)) rfl)) ?_
                    refine rg_put (d := 3) (v := .d (.fl (.int .i64 (((k : Int) + 1))))) rfl (og rfl (op_assign rfl rfl rfl)) ?_
                    refine rg_done rfl ?_
                    have hb : bad l k = 0 := by
                      unfold bad isD; simp only [h1, h4, h6, h8, h11, h17, h19, h21, h23, hr]; rfl
                    show ∃ i, _ ∧ _ ∧ Imp _ _ _ _ _
                    refine ⟨k + 1, ⟨by omega, fe_no (by omega) hc hb⟩, by omega, imp_forget rfl ⟨rfl, rfl, (by first | rfl | exact ci (by omega) | exact ci (by simp) | exact cd (by simp) | simp), trivial⟩ trivial⟩
                · skip
                  have h26 := t_dec h21
                  refine rg_put (d := 67) (v := .d (.fl undef)) rfl (on rfl rfl rfl h21) ?_
                  refine rg_put (d := 68) (v := .d (.fl undef)) rfl (on rfl rfl rfl h21) ?_
                  refine rg_put (d := 69) (v := .d (.fl undef)) rfl (on rfl rfl rfl h21) ?_
                  refine rg_put (d := 70) (v := .d (.fl undef)) rfl (on rfl rfl rfl h21) ?_
                  refine rg_put (d := 71) (v := .d (.fl undef)) rfl (on rfl rfl rfl h21) ?_
                  refine rg_put (d := 72) (v := .d (.fl undef)) rfl (on rfl rfl rfl h21) ?_
                  refine rg_put (d := 73) (v := .d (.fl (.bool true))) rfl (og rfl (op_pick rfl rfl (by rw [h21]; rfl) rfl)) ?_
                  refine rg_done rfl ?_
                  refine a_condK rfl rfl ?_
                  refine a_rseq ?_
                  refine rg_put (d := 2) (v := .d (.fl (.int .i64 12))) rfl (og rfl (op_assign rfl rfl rfl)) ?_
                  refine rg_done rfl ?_
                  refine a_ret ?_
                  show ∃ ds, ResL _ _ _ ds ∧ RV.of ds = _
                  refine ⟨[.fl (.int .i64 12)], (.cons (.tmp rfl (.d _)) .nil), ?_⟩
                  have hb : bad l k = 12 := by
                    unfold bad isD; simp only [h1, h4, h6, h8, h11, h17, h19, h21, hr]; rfl
                  rw [fe_yes (by omega) hc hb (by decide)]; rfl
              · skip
                have h27 := t_dec h19
                refine rg_put (d := 59) (v := .d (.fl undef)) rfl (on rfl rfl rfl h19) ?_
                refine rg_put (d := 60) (v := .d (.fl undef)) rfl (on rfl rfl rfl h19) ?_
                refine rg_put (d := 61) (v := .d (.fl undef)) rfl (on rfl rfl rfl h19) ?_
                refine rg_put (d := 62) (v := .d (.fl undef)) rfl (on rfl rfl rfl h19) ?_
                refine rg_put (d := 63) (v := .d (.fl undef)) rfl (on rfl rfl rfl h19) ?_
                refine rg_put (d := 64) (v := .d (.fl undef)) rfl (on rfl rfl rfl h19) ?_
                refine rg_put (d := 65) (v := .d (.fl (.bool true))) rfl (og rfl (op_pick rfl rfl (by rw [h19]; rfl) rfl)) ?_
                refine rg_put (d := 66) (v := .d (.fl (.bool true))) rfl (og rfl (op_move rfl rfl rfl)) ?_
                refine rg_put (d := 67) (v := .d (.fl undef)) rfl (on rfl rfl rfl rfl) ?_
                refine rg_put (d := 68) (v := .d (.fl undef)) rfl (on rfl rfl rfl rfl) ?_
                refine rg_put (d := 69) (v := .d (.fl undef)) rfl (on rfl rfl rfl rfl) ?_
                refine rg_put (d := 70) (v := .d (.fl undef)) rfl (on rfl rfl rfl rfl) ?_
                refine rg_put (d := 71) (v := .d (.fl undef)) rfl (on rfl rfl rfl rfl) ?_
                refine rg_put (d := 72) (v := .d (.fl undef)) rfl (on rfl rfl rfl rfl) ?_
                refine rg_put (d := 73) (v := .d (.fl (.bool true))) rfl (og rfl (op_pick rfl rfl rfl rfl)) ?_
                refine rg_done rfl ?_
                refine a_condK rfl rfl ?_
                refine a_rseq ?_
                refine rg_put (d := 2) (v := .d (.fl (.int .i64 12))) rfl (og rfl (op_assign rfl rfl rfl)) ?_
                refine rg_done rfl ?_
                refine a_ret ?_
                show ∃ ds, ResL _ _ _ ds ∧ RV.of ds = _
                refine ⟨[.fl (.int .i64 12)], (.cons (.tmp rfl (.d _)) .nil), ?_⟩
                have hb : bad l k = 12 := by
                  unfold bad isD; simp only [h1, h4, h6, h8, h11, h17, h19, hr]; rfl
                rw [fe_yes (by omega) hc hb (by decide)]; rfl
            · skip
              have h28 := t_dec h17
              refine rg_put (d := 51) (v := .d (.fl undef)) rfl (on rfl rfl rfl h17) ?_
              refine rg_put (d := 52) (v := .d (.fl undef)) rfl (on rfl rfl rfl h17) ?_
              refine rg_put (d := 53) (v := .d (.fl undef)) rfl (on rfl rfl rfl h17) ?_
              refine rg_put (d := 54) (v := .d (.fl undef)) rfl (on rfl rfl rfl h17) ?_
              refine rg_put (d := 55) (v := .d (.fl undef)) rfl (on rfl rfl rfl h17) ?_
              refine rg_put (d := 56) (v := .d (.fl undef)) rfl (on rfl rfl rfl h17) ?_
              refine rg_put (d := 57) (v := .d (.fl (.bool true))) rfl (og rfl (op_pick rfl rfl (by rw [h17]; rfl) rfl)) ?_
              refine rg_put (d := 58) (v := .d (.fl (.bool true))) rfl (og rfl (op_move rfl rfl rfl)) ?_
              refine rg_put (d := 59) (v := .d (.fl undef)) rfl (on rfl rfl rfl rfl) ?_
              refine rg_put (d := 60) (v := .d (.fl undef)) rfl (on rfl rfl rfl rfl) ?_
              refine rg_put (d := 61) (v := .d (.fl undef)) rfl (on rfl rfl rfl rfl) ?_
              refine rg_put (d := 62) (v := .d (.fl undef)) rfl (on rfl rfl rfl rfl) ?_
              refine rg_put (d := 63) (v := .d (.fl undef)) rfl (on rfl rfl rfl rfl) ?_
              refine rg_put (d := 64) (v := .d (.fl undef)) rfl (on rfl rfl rfl rfl) ?_
              refine rg_put (d := 65) (v := .d (.fl (.bool true))) rfl (og rfl (op_pick rfl rfl rfl rfl)) ?_
              refine rg_put (d := 66) (v := .d (.fl (.bool true))) rfl (og rfl (op_move rfl rfl rfl)) ?_
              refine rg_put (d := 67) (v := .d (.fl undef)) rfl (on rfl rfl rfl rfl) ?_
              refine rg_put (d := 68) (v := .d (.fl undef)) rfl (on rfl rfl rfl rfl) ?_
              refine rg_put (d := 69) (v := .d (.fl undef)) rfl (on rfl rfl rfl rfl) ?_
              refine rg_put (d := 70) (v := .d (.fl undef)) rfl (on rfl rfl rfl rfl) ?_
              refine rg_put (d := 71) (v := .d (.fl undef)) rfl (on rfl rfl rfl rfl) ?_
              refine rg_put (d := 72) (v := .d (.fl undef)) rfl (on rfl rfl rfl rfl) ?_
              refine rg_put (d := 73) (v := .d (.fl (.bool true))) rfl (og rfl (op_pick rfl rfl rfl rfl)) ?_
              refine rg_done rfl ?_
              refine a_condK rfl rfl ?_
              refine a_rseq ?_
              refine rg_put (d := 2) (v := .d (.fl (.int .i64 12))) rfl (og rfl (op_assign rfl rfl rfl)) ?_
              refine rg_done rfl ?_
              refine a_ret ?_
              show ∃ ds, ResL _ _ _ ds ∧ RV.of ds = _
              refine ⟨[.fl (.int .i64 12)], (.cons (.tmp rfl (.d _)) .nil), ?_⟩
              have hb : bad l k = 12 := by
                unfold bad isD; simp only [h1, h4, h6, h8, h11, h17, hr]; rfl
              rw [fe_yes (by omega) hc hb (by decide)]; rfl
      · skip
        have h29 := t_dec h6
        refine rg_put (d := 21) (v := .d (.fl undef)) rfl (on rfl rfl rfl h6) ?_
        refine rg_put (d := 22) (v := .d (.fl undef)) rfl (on rfl rfl rfl h6) ?_
        refine rg_put (d := 23) (v := .d (.fl undef)) rfl (on rfl rfl rfl h6) ?_
        refine rg_put (d := 24) (v := .d (.fl undef)) rfl (on rfl rfl rfl h6) ?_
        refine rg_put (d := 25) (v := .d (.fl undef)) rfl (on rfl rfl rfl h6) ?_
        refine rg_put (d := 26) (v := .d (.fl undef)) rfl (on rfl rfl rfl h6) ?_
        refine rg_put (d := 27) (v := .d (.fl (.bool true))) rfl (og rfl (op_pick rfl rfl (by rw [h6]; rfl) rfl)) ?_
        refine rg_done rfl ?_
        refine a_condK rfl rfl ?_
        refine a_rseq ?_
        refine rg_put (d := 2) (v := .d (.fl (.int .i64 1))) rfl (og rfl (op_assign rfl rfl rfl)) ?_
        refine rg_done rfl ?_
        refine a_ret ?_
        show ∃ ds, ResL _ _ _ ds ∧ RV.of ds = _
        refine ⟨[.fl (.int .i64 1)], (.cons (.tmp rfl (.d _)) .nil), ?_⟩
        have hb : bad l k = 1 := by
          unfold bad isD; simp only [h1, h4, h6]; rfl
        rw [fe_yes (by omega) hc hb (by decide)]; rfl
    · skip
      have h30 := f_dec h4
      refine a_exit ?_
      show A _ _ _ _ _ _ _
      refine a_rseq ?_
      refine rg_put (d := 2) (v := .d (.fl (.int .i64 0))) rfl (og rfl (op_assign rfl rfl rfl)) ?_
      refine rg_done rfl ?_
      refine a_ret ?_
      show ∃ ds, ResL _ _ _ ds ∧ RV.of ds = _
      refine ⟨[.fl (.int .i64 0)], (.cons (.tmp rfl (.d _)) .nil), ?_⟩
      rw [fe_end (by omega)] at hc
      rw [hc]; rfl
end Go.Proofs.Yteplcjhnmmpicaa.Wk
