/- How long an image is kept. No condition. -/
import Derived.Test.YteplcjhnmmpicaaA4
set_option linter.unusedSimpArgs false
set_option linter.unusedVariables false
namespace Go.Proofs.Yteplcjhnmmpicaa.Wk
open Go Go.RowKit Go.Proofs.Yteplcjhnmmpicaa.Av
def unt (l : List Kp) (im : Im) (c : Int) : Int × Int :=
  if (ck l != 0) = true then (0, ck l) else if (!isT im.time || (!isT c && c != -1)) = true then (0, 12) else
  match rule l im.purpose with
  | none => (0, 10)
  | some q => if (decide ((0 : Int) < (im.hold.length : Int))) = true then (0, 32) else if (c == -1) = true then (0, 11) else (max (im.time + q.seconds) (c + q.least), 0)
theorem isT_t {t : Int} (h : isT t = true) : 0 ≤ t ∧ t < 68719476736 := by simpa [isT] using h
theorem bad_zero {l : List Kp} {i : Nat} (h : bad l i = 0) : (1 ≤ (ix l i).purpose ∧ (ix l i).purpose ≤ 4) ∧ (rule (l.take i) (ix l i).purpose).isSome = false ∧ (0 ≤ (ix l i).seconds ∧ (ix l i).seconds ≤ 68719476736) ∧ 0 ≤ (ix l i).least ∧ (ix l i).least ≤ 68719476736 := by
  unfold bad at h
  split at h
  · cases h
  · rename_i h1
    split at h
    · cases h
    · rename_i h2
      split at h
      · cases h
      · rename_i h3
        simp [isD] at h1 h2 h3
        exact ⟨by omega, by simpa using h2, by omega, by omega⟩
theorem fe_zero {f : Nat → Int} : ∀ (n i : Nat), fe f i n = 0 → ∀ j, i ≤ j → j < i + n → f j = 0
  | 0, i, h, j, h1, h2 => by omega
  | n + 1, i, h, j, h1, h2 => by
    unfold fe at h
    split at h
    · rename_i hz
      by_cases e : j = i
      · rw [e]; exact hz
      · exact fe_zero n (i + 1) h j (by omega) (by omega)
    · rename_i hz; exact absurd h hz
theorem ck_zero {l : List Kp} (h : ck l = 0) : l.length ≤ 4 ∧ ∀ i, i < l.length → bad l i = 0 := by
  unfold ck at h
  split at h
  · cases h
  · rename_i h1
    simp at h1
    exact ⟨by omega, fun i hi => fe_zero _ _ h i (by omega) (by omega)⟩
theorem rule_no {l : List Kp} {p : Int} (h : ∀ q, q < l.length → (ix l q).purpose ≠ p) : rule l p = none := by
  unfold rule
  rw [List.find?_eq_none]
  intro x hx
  obtain ⟨j, hj, he⟩ := List.mem_iff_getElem.1 hx
  have h2 := ix_get hj
  rw [List.getElem?_eq_getElem hj, he] at h2
  injection h2 with h2
  rw [h2]; simp
  exact fun e => h j hj e.symm
theorem rule_at {l : List Kp} {k : Nat} {p : Int} (hk : k < l.length) (h : ∀ q, q < k → (ix l q).purpose ≠ p) (he : (ix l k).purpose = p) : rule l p = some (ix l k) := by
  have h1 : rule (l.take k) p = none := by
    refine rule_no fun q hq => ?_
    have hq' : q < k := by simp at hq; omega
    have : ix (l.take k) q = ix l q := by
      unfold ix; simp [List.getD, List.getElem?_take, hq']
    rw [this]; exact h q hq'
  have h2 : l.find? (fun q => p == q.purpose) = (l.take k ++ l.drop k).find? (fun q => p == q.purpose) := by rw [List.take_append_drop]
  unfold rule at h1 ⊢
  rw [h2, List.find?_append, h1, drop_ix hk]
  simp [he]
theorem rule_mem {l : List Kp} {p : Int} {q : Kp} (h : rule l p = some q) : ∃ i, i < l.length ∧ ix l i = q ∧ q.purpose = p := by
  unfold rule at h
  have h1 := List.mem_of_find?_eq_some h
  have h2 := List.find?_some h
  obtain ⟨i, hi, he⟩ := List.mem_iff_getElem.1 h1
  have h3 := ix_get hi
  rw [List.getElem?_eq_getElem hi, he] at h3
  injection h3 with h3
  exact ⟨i, hi, h3.symm, by simpa using (by simpa using h2 : p = q.purpose).symm⟩
theorem rule_bound {l : List Kp} (h : ck l = 0) {p : Int} {q : Kp} (hr : rule l p = some q) : (0 ≤ q.seconds ∧ q.seconds ≤ 68719476736) ∧ (0 ≤ q.least ∧ q.least ≤ 68719476736) := by
  obtain ⟨i, h1, h2, _⟩ := rule_mem hr
  have := bad_zero ((ck_zero h).2 i h1)
  rw [h2] at this
  exact this.2.2
theorem read_ok (l : List Kp) (h : ck l = 0) : Ctr Try.prog 25 [.sl 3 (List.map eKp l)] (.tu [.mp (ents l), .fl (.int .i64 (ck l))]) := by
  have := read_all l
  unfold rd at this
  rwa [if_pos h] at this

set_option maxHeartbeats 4000000 in
set_option maxRecDepth 100000 in
theorem ret_check (l : List Kp) : Ctr Try.prog 12 [.sl 3 (List.map eKp l)] (.d (.fl (.int .i64 (ck l)))) := by
  refine ctr (n := 11) (rs := #[.tmp 2]) (L := [(0, .d (.sl 3 (List.map eKp l)))]) Try.func12 rfl rfl rfl rfl rfl (fun w0 U0 => ?_)
  refine a_rseq ?_
  refine rg_put (d := 2) (v := .d (.fl (.int .i64 0))) rfl (og rfl (op_assign rfl rfl rfl)) ?_
  refine rg_done rfl ?_
  refine a_rseq ?_
  refine rg_put (d := 6) (v := .d (.sl 3 (List.map eKp l))) rfl (og rfl (op_move rfl rfl rfl)) ?_
  refine rg_put (d := 7) (v := .tu [rd l, .fl (.int .i64 (ck l))]) rfl (og rfl (op_call rfl Try.func25 nm25 rfl (.cons rfl (.d _) .nil) (read_all l) rfl)) ?_
  refine rg_put (d := 5) (v := .tu [rd l, .fl (.int .i64 (ck l))]) rfl (og rfl (op_move rfl rfl rfl)) ?_
  refine rg_put (d := 8) (v := .d (rd l)) rfl (og rfl (op_extract rfl rfl rfl rfl)) ?_
  refine rg_put (d := 9) (v := .d (.fl (.int .i64 (ck l)))) rfl (og rfl (op_extract rfl rfl rfl rfl)) ?_
  refine rg_put (d := 3) (v := .d (rd l)) rfl (og rfl (op_assign rfl rfl rfl)) ?_
  refine rg_put (d := 4) (v := .d (.fl (.int .i64 (ck l)))) rfl (og rfl (op_assign rfl rfl rfl)) ?_
  refine rg_done rfl ?_
  refine a_rseq ?_
  refine rg_put (d := 10) (v := .d (.fl (.int .i64 (ck l)))) rfl (og rfl (op_move rfl rfl rfl)) ?_
  refine rg_put (d := 2) (v := .d (.fl (.int .i64 (ck l)))) rfl (og rfl (op_assign rfl rfl rfl)) ?_
  refine rg_done rfl ?_
  refine a_ret ?_
  show ∃ ds, ResL _ _ _ ds ∧ RV.of ds = _
  refine ⟨[.fl (.int .i64 (ck l))], (.cons (.tmp rfl (.d _)) .nil), ?_⟩
  rfl
set_option maxHeartbeats 4000000 in
set_option maxRecDepth 100000 in
theorem ref_until (l : List Kp) (im : Im) (c : Int) : Ctr Try.prog 11 [.sl 3 (List.map eKp l), .ag (eIm im), .fl (.int .i64 c)] (.tu [.fl (.int .i64 (unt l im c).1), .fl (.int .i64 (unt l im c).2)]) := by
  refine ctr (n := 79) (rs := #[.tmp 6, .tmp 7]) (L := [(0, .d (.sl 3 (List.map eKp l))), (1, .d (.ag (eIm im))), (2, .d (.fl (.int .i64 c)))]) Try.func11 rfl rfl rfl rfl rfl (fun w0 U0 => ?_)
  refine a_rseq ?_
  refine rg_nam (d := 4) (v := .pt 101 0) (m := 101) (nw := [(101, .bx 26 (eIm im))]) rfl (og rfl (of_eff (op_box 101 rfl rfl rfl rfl) rfl)) rfl ?_
  refine rg_put (d := 6) (v := .d (.fl (.int .i64 0))) rfl (og rfl (op_assign rfl rfl rfl)) ?_
  refine rg_put (d := 7) (v := .d (.fl (.int .i64 0))) rfl (og rfl (op_assign rfl rfl rfl)) ?_
  refine rg_done rfl ?_
  refine a_rseq ?_
  refine rg_put (d := 10) (v := .d (.sl 3 (List.map eKp l))) rfl (og rfl (op_move rfl rfl rfl)) ?_
  refine rg_put (d := 11) (v := .d (.fl (.int .i64 (ck l)))) rfl (og rfl (op_call rfl Try.func13 nm13 rfl (.cons rfl (.d _) .nil) (ref_check l) rfl)) ?_
  refine rg_put (d := 8) (v := .d (.fl (.int .i64 (ck l)))) rfl (og rfl (op_assign rfl rfl rfl)) ?_
  refine rg_done rfl ?_
  refine a_seq ?_
  refine a_rseq ?_
  refine rg_put (d := 12) (v := .d (.fl (.int .i64 (ck l)))) rfl (og rfl (op_move rfl rfl rfl)) ?_
  refine rg_put (d := 13) (v := .d (.fl (.bool (((ck l) != 0))))) rfl (og rfl (op_bin rfl rfl rfl (b_neq _ _ _ _) rfl)) ?_
  refine rg_done rfl ?_
  refine a_cond rfl (fun h1 => ?_) (fun h1 => ?_)
  · skip
    have h2 := t_bne h1
    refine a_rseq ?_
    refine rg_put (d := 14) (v := .d (.fl (.int .i64 (ck l)))) rfl (og rfl (op_move rfl rfl rfl)) ?_
    refine rg_put (d := 6) (v := .d (.fl (.int .i64 0))) rfl (og rfl (op_assign rfl rfl rfl)) ?_
    refine rg_put (d := 7) (v := .d (.fl (.int .i64 (ck l)))) rfl (og rfl (op_assign rfl rfl rfl)) ?_
    refine rg_done rfl ?_
    refine a_ret ?_
    show ∃ ds, ResL _ _ _ ds ∧ RV.of ds = _
    refine ⟨[.fl (.int .i64 0), .fl (.int .i64 (ck l))], (.cons (.tmp rfl (.d _)) (.cons (.tmp rfl (.d _)) .nil)), ?_⟩
    have hu : unt l im c = (0, (ck l)) := by
      unfold unt; simp only [h1]; rfl
    rw [hu]; rfl
  · skip
    have h3 := f_bne h1
    refine a_skip ?_
    show A _ _ _ _ _ _ _
    refine a_seq ?_
    refine a_rseq ?_
    refine rg_put (d := 15) (v := .pt 101 1) rfl (og rfl (of_eff (s_field_pt rfl Try.underlying26 rfl ti3 rfl rfl rfl) rfl)) ?_
    refine rg_put (d := 16) (v := .d (.fl (.int .i64 im.time))) rfl (og rfl (op_load_pt rfl Try.underlying3 rfl rfl rfl rfl rfl)) ?_
    refine rg_put (d := 17) (v := .d (.fl (.bool (isT im.time)))) rfl (og rfl (op_call rfl Try.func27 nm27 rfl (.cons rfl (.d _) .nil) (isTime27 im.time) rfl)) ?_
    refine rg_put (d := 18) (v := .d (.fl (.bool ((!(isT im.time)))))) rfl (og rfl (op_un rfl rfl (u_not _) rfl)) ?_
    refine rg_put (d := 19) (v := .d (.fl (.bool ((!(isT im.time)))))) rfl (og rfl (op_move rfl rfl rfl)) ?_
    rcases fot ((!(isT im.time))) with h4 | h4
    · skip
      have h5 := f_not h4
      have := isT_t h5
      refine rg_put (d := 20) (v := .d (.fl (.int .i64 c))) rfl (oy rfl rfl rfl h4 (op_move rfl rfl rfl)) ?_
      refine rg_put (d := 21) (v := .d (.fl (.bool (isT c)))) rfl (oy rfl rfl rfl h4 (op_call rfl Try.func27 nm27 rfl (.cons rfl (.d _) .nil) (isTime27 c) rfl)) ?_
      refine rg_put (d := 22) (v := .d (.fl (.bool ((!(isT c)))))) rfl (oy rfl rfl rfl h4 (op_un rfl rfl (u_not _) rfl)) ?_
      refine rg_put (d := 23) (v := .d (.fl (.bool ((!(isT c)))))) rfl (oy rfl rfl rfl h4 (op_move rfl rfl rfl)) ?_
      rcases fot ((!(isT c))) with h6 | h6
      · skip
        have h7 := f_not h6
        have := isT_t h7
        refine rg_put (d := 24) (v := .d (.fl undef)) rfl (on rfl rfl rfl h6) ?_
        refine rg_put (d := 25) (v := .d (.fl undef)) rfl (on rfl rfl rfl h6) ?_
        refine rg_put (d := 26) (v := .d (.fl (.bool false))) rfl (oy rfl rfl rfl h4 (op_pick rfl rfl (by rw [h6]; rfl) rfl)) ?_
        refine rg_put (d := 27) (v := .d (.fl (.bool false))) rfl (og rfl (op_pick rfl rfl (by rw [h4]; rfl) rfl)) ?_
        refine rg_done rfl ?_
        refine a_condF rfl rfl ?_
        refine a_skip ?_
        show A _ _ _ _ _ _ _
        refine a_seq ?_
        refine a_rseq ?_
        have hz := ck_zero (f_bne h1)
        refine rg_put (d := 9) (v := .d (.fl (.int .i64 0))) rfl (og rfl (op_assign rfl rfl rfl)) ?_
        refine rg_done rfl ?_
        refine a_block ?_
        refine a_loop (ι := Nat) (fun k => SS [(0, .d (.sl 3 (List.map eKp l))), (1, .d (.ag (eIm im))), (2, .d (.fl (.int .i64 c))), (4, .pt 101 0), (8, .d (.fl (.int .i64 (ck l)))), (13, .d (.fl (.bool (((ck l) != 0))))), (27, .d (.fl (.bool false))), (9, .d (.fl (.int .i64 (k : Int))))] [(101, .bx 26 (eIm im))]) (fun k => k ≤ l.length ∧ ∀ q, q < k → (ix l q).purpose ≠ im.purpose) (fun k => l.length - k) 0 (⟨by omega, fun q h => by omega⟩) (imp_forget rfl ⟨rfl, rfl, rfl, rfl, rfl, rfl, rfl, (by first | rfl | exact ci (by omega) | exact ci (by simp) | exact cd (by simp) | simp), trivial⟩ ⟨rfl, trivial⟩) (fun k hok => ?_)
        obtain ⟨hk, hq⟩ := hok
        have hb1 := fun h : k < l.length => bad_zero (hz.2 k h)
        refine a_seq ?_
        refine a_rseq ?_
        refine rg_put (d := 28) (v := .d (.fl (.int .i64 (k : Int)))) rfl (og rfl (op_move rfl rfl rfl)) ?_
        refine rg_put (d := 29) (v := .d (.sl 3 (List.map eKp l))) rfl (og rfl (op_move rfl rfl rfl)) ?_
        refine rg_put (d := 30) (v := .d (.fl (.int .i64 (l.length : Int)))) rfl (og rfl (s_len rfl Try.underlying22 rfl rfl)) ?_
        refine rg_put (d := 31) (v := .d (.fl (.bool ((decide ((k : Int) < (l.length : Int))))))) rfl (og rfl (op_bin rfl rfl rfl (b_lss _ _ _ _) rfl)) ?_
        refine rg_done rfl ?_
        refine a_cond rfl (fun h8 => ?_) (fun h8 => ?_)
        · skip
          have h9 := t_dec h8
          refine a_skip ?_
          show A _ _ _ _ _ _ _
          refine a_seq ?_
          refine a_block ?_
          refine a_seq ?_
          refine a_dseq (by kernel_rfl) ?_
          refine dr_put (d := 34) (v := .d (.sl 3 (List.map eKp l))) rfl (og rfl (op_move rfl rfl rfl)) ?_
          refine dr_put (d := 35) (v := .d (.fl (.int .i64 (k : Int)))) rfl (og rfl (op_move rfl rfl rfl)) ?_
          refine dr_put (d := 36) (v := .el ((eKp (ix l k)))) rfl (og rfl (s_index rfl Try.underlying22 ti57 rfl rfl (by omega) (row_at (by omega)) rfl)) ?_
          refine dr_put (d := 37) (v := .el ((List.drop 0 ((eKp (ix l k)))))) rfl (og rfl (of_eff (s_field_el rfl Try.underlying57 rfl ti3 rfl rfl rfl) rfl)) ?_
          refine dr_put (d := 38) (v := .d (.fl (.int .i64 ((ix l k).purpose)))) rfl (og rfl (op_load_el rfl Try.underlying3 rfl rfl rfl rfl)) ?_
          refine dr_put (d := 39) (v := .pt 101 2) rfl (og rfl (of_eff (s_field_pt rfl Try.underlying26 rfl ti3 rfl rfl rfl) rfl)) ?_
          refine dr_put (d := 40) (v := .d (.fl (.int .i64 im.purpose))) rfl (og rfl (op_load_pt rfl Try.underlying3 rfl rfl rfl rfl rfl)) ?_
          refine dr_put (d := 41) (v := .d (.fl (.bool (((ix l k).purpose != im.purpose))))) rfl (og rfl (op_bin rfl rfl rfl (b_neq _ _ _ _) rfl)) ?_
          refine dr_done rfl (by kernel_rfl) (by kernel_rfl) ?_
          refine a_cond rfl (fun h10 => ?_) (fun h10 => ?_)
          · skip
            have h11 := t_bne h10
            refine a_exit ?_
            show A _ _ _ _ _ _ _
            refine a_region ?_
            refine rg_put (d := 32) (v := .d (.fl (.int .i64 (k : Int)))) rfl (og rfl (op_move rfl rfl rfl)) ?_
            refine rg_put (d := 33) (v := .d (.fl (.int .i64 (((k : Int) + 1))))) rfl (og rfl (op_bin rfl rfl rfl (fun x y w => b_add64 _ _ _ x y w (by omega)) rfl)) ?_
            refine rg_put (d := 9) (v := .d (.fl (.int .i64 (((k : Int) + 1))))) rfl (og rfl (op_assign rfl rfl rfl)) ?_
            refine rg_done rfl ?_
            show ∃ i, _ ∧ _ ∧ Imp _ _ _ _ _
            refine ⟨k + 1, ⟨by omega, fun q h => by
              rcases Nat.lt_succ_iff_lt_or_eq.1 h with h | h
              · exact hq q h
              · subst h; exact t_bne h10⟩, by omega, imp_forget rfl ⟨rfl, rfl, rfl, rfl, rfl, rfl, rfl, (by first | rfl | exact ci (by omega) | exact ci (by simp) | exact cd (by simp) | simp), trivial⟩ ⟨rfl, trivial⟩⟩
          · skip
            have h12 := f_bne h10
            refine a_skip ?_
            show A _ _ _ _ _ _ _
            refine a_seq ?_
            refine a_rseq ?_
            refine rg_put (d := 42) (v := .pt 101 3) rfl (og rfl (of_eff (s_field_pt rfl Try.underlying26 rfl ti23 rfl rfl rfl) rfl)) ?_
            refine rg_put (d := 43) (v := .d (.sl 1 (List.map rS im.hold))) rfl (og rfl (op_load_pt rfl Try.underlying23 rfl rfl rfl rfl rfl)) ?_
            refine rg_put (d := 44) (v := .d (.fl (.int .i64 (im.hold.length : Int)))) rfl (og rfl (s_len rfl Try.underlying23 rfl rfl)) ?_
            refine rg_put (d := 45) (v := .d (.fl (.bool ((decide (0 < (im.hold.length : Int))))))) rfl (og rfl (op_bin rfl rfl rfl (b_gtr _ _ _ _) rfl)) ?_
            refine rg_done rfl ?_
            refine a_cond rfl (fun h13 => ?_) (fun h13 => ?_)
            · skip
              have h14 := t_dec h13
              refine a_rseq ?_
              refine rg_put (d := 6) (v := .d (.fl (.int .i64 0))) rfl (og rfl (op_assign rfl rfl rfl)) ?_
              refine rg_put (d := 7) (v := .d (.fl (.int .i64 32))) rfl (og rfl (op_assign rfl rfl rfl)) ?_
              refine rg_done rfl ?_
              refine a_ret ?_
              show ∃ ds, ResL _ _ _ ds ∧ RV.of ds = _
              refine ⟨[.fl (.int .i64 0), .fl (.int .i64 32)], (.cons (.tmp rfl (.d _)) (.cons (.tmp rfl (.d _)) .nil)), ?_⟩
              have hr := rule_at (by omega) hq (f_bne h10)
              have hu : unt l im c = (0, 32) := by
                unfold unt; simp only [h1, h4, h5, h6, h7, h8, h10, h13, hr]; rfl
              rw [hu]; rfl
            · skip
              have h15 := f_dec h13
              refine a_skip ?_
              show A _ _ _ _ _ _ _
              refine a_seq ?_
              refine a_rseq ?_
              refine rg_put (d := 46) (v := .d (.fl (.int .i64 c))) rfl (og rfl (op_move rfl rfl rfl)) ?_
              refine rg_put (d := 47) (v := .d (.fl (.bool ((c == (-1)))))) rfl (og rfl (op_bin rfl rfl rfl (b_eql _ _ _ _) rfl)) ?_
              refine rg_done rfl ?_
              refine a_cond rfl (fun h16 => ?_) (fun h16 => ?_)
              · skip
                have h17 := t_beq h16
                refine a_rseq ?_
                refine rg_put (d := 6) (v := .d (.fl (.int .i64 0))) rfl (og rfl (op_assign rfl rfl rfl)) ?_
                refine rg_put (d := 7) (v := .d (.fl (.int .i64 11))) rfl (og rfl (op_assign rfl rfl rfl)) ?_
                refine rg_done rfl ?_
                refine a_ret ?_
                show ∃ ds, ResL _ _ _ ds ∧ RV.of ds = _
                refine ⟨[.fl (.int .i64 0), .fl (.int .i64 11)], (.cons (.tmp rfl (.d _)) (.cons (.tmp rfl (.d _)) .nil)), ?_⟩
                have hr := rule_at (by omega) hq (f_bne h10)
                have hu : unt l im c = (0, 11) := by
                  unfold unt; simp only [h1, h4, h5, h6, h7, h8, h10, h13, h16, hr]; rfl
                rw [hu]; rfl
              · skip
                have h18 := f_beq h16
                refine a_skip ?_
                show A _ _ _ _ _ _ _
                refine a_seq ?_
                refine a_dseq (by kernel_rfl) ?_
                have hb2 := hb1 (by omega)
                refine dr_put (d := 48) (v := .d (.fl (.int .i64 c))) rfl (og rfl (op_move rfl rfl rfl)) ?_
                refine dr_put (d := 49) (v := .d (.sl 3 (List.map eKp l))) rfl (og rfl (op_move rfl rfl rfl)) ?_
                refine dr_put (d := 50) (v := .d (.fl (.int .i64 (k : Int)))) rfl (og rfl (op_move rfl rfl rfl)) ?_
                refine dr_put (d := 51) (v := .el ((eKp (ix l k)))) rfl (og rfl (s_index rfl Try.underlying22 ti57 rfl rfl (by omega) (row_at (by omega)) rfl)) ?_
                refine dr_put (d := 52) (v := .el ((List.drop 2 ((eKp (ix l k)))))) rfl (og rfl (of_eff (s_field_el rfl Try.underlying57 rfl ti3 rfl rfl rfl) rfl)) ?_
                refine dr_put (d := 53) (v := .d (.fl (.int .i64 ((ix l k).least)))) rfl (og rfl (op_load_el rfl Try.underlying3 rfl rfl rfl rfl)) ?_
                refine dr_put (d := 54) (v := .d (.fl (.int .i64 ((c + (ix l k).least))))) rfl (og rfl (op_bin rfl rfl rfl (fun x y w => b_add64 _ _ _ x y w (by omega)) rfl)) ?_
                refine dr_put (d := 55) (v := .pt 101 1) rfl (og rfl (of_eff (s_field_pt rfl Try.underlying26 rfl ti3 rfl rfl rfl) rfl)) ?_
                refine dr_put (d := 56) (v := .d (.fl (.int .i64 im.time))) rfl (og rfl (op_load_pt rfl Try.underlying3 rfl rfl rfl rfl rfl)) ?_
                refine dr_put (d := 57) (v := .d (.sl 3 (List.map eKp l))) rfl (og rfl (op_move rfl rfl rfl)) ?_
                refine dr_put (d := 58) (v := .d (.fl (.int .i64 (k : Int)))) rfl (og rfl (op_move rfl rfl rfl)) ?_
                refine dr_put (d := 59) (v := .el ((eKp (ix l k)))) rfl (og rfl (s_index rfl Try.underlying22 ti57 rfl rfl (by omega) (row_at (by omega)) rfl)) ?_
                refine dr_put (d := 60) (v := .el ((List.drop 1 ((eKp (ix l k)))))) rfl (og rfl (of_eff (s_field_el rfl Try.underlying57 rfl ti3 rfl rfl rfl) rfl)) ?_
                refine dr_put (d := 61) (v := .d (.fl (.int .i64 ((ix l k).seconds)))) rfl (og rfl (op_load_el rfl Try.underlying3 rfl rfl rfl rfl)) ?_
                refine dr_put (d := 62) (v := .d (.fl (.int .i64 ((im.time + (ix l k).seconds))))) rfl (og rfl (op_bin rfl rfl rfl (fun x y w => b_add64 _ _ _ x y w (by omega)) rfl)) ?_
                refine dr_put (d := 63) (v := .d (.fl (.bool ((decide ((im.time + (ix l k).seconds) < (c + (ix l k).least))))))) rfl (og rfl (op_bin rfl rfl rfl (b_gtr _ _ _ _) rfl)) ?_
                refine dr_done rfl (by kernel_rfl) (by kernel_rfl) ?_
                refine a_cond rfl (fun h19 => ?_) (fun h19 => ?_)
                · skip
                  have h20 := t_dec h19
                  refine a_rseq ?_
                  refine rg_put (d := 64) (v := .d (.fl (.int .i64 c))) rfl (og rfl (op_move rfl rfl rfl)) ?_
                  refine rg_put (d := 65) (v := .d (.sl 3 (List.map eKp l))) rfl (og rfl (op_move rfl rfl rfl)) ?_
                  refine rg_put (d := 66) (v := .d (.fl (.int .i64 (k : Int)))) rfl (og rfl (op_move rfl rfl rfl)) ?_
                  refine rg_put (d := 67) (v := .el ((eKp (ix l k)))) rfl (og rfl (s_index rfl Try.underlying22 ti57 rfl rfl (by omega) (row_at (by omega)) rfl)) ?_
                  refine rg_put (d := 68) (v := .el ((List.drop 2 ((eKp (ix l k)))))) rfl (og rfl (of_eff (s_field_el rfl Try.underlying57 rfl ti3 rfl rfl rfl) rfl)) ?_
                  refine rg_put (d := 69) (v := .d (.fl (.int .i64 ((ix l k).least)))) rfl (og rfl (op_load_el rfl Try.underlying3 rfl rfl rfl rfl)) ?_
                  refine rg_put (d := 70) (v := .d (.fl (.int .i64 ((c + (ix l k).least))))) rfl (og rfl (op_bin rfl rfl rfl (fun x y w => b_add64 _ _ _ x y w (by omega)) rfl)) ?_
                  refine rg_put (d := 6) (v := .d (.fl (.int .i64 ((c + (ix l k).least))))) rfl (og rfl (op_assign rfl rfl rfl)) ?_
                  refine rg_put (d := 7) (v := .d (.fl (.int .i64 0))) rfl (og rfl (op_assign rfl rfl rfl)) ?_
                  refine rg_done rfl ?_
                  refine a_ret ?_
                  show ∃ ds, ResL _ _ _ ds ∧ RV.of ds = _
                  refine ⟨[.fl (.int .i64 ((c + (ix l k).least))), .fl (.int .i64 0)], (.cons (.tmp rfl (.d _)) (.cons (.tmp rfl (.d _)) .nil)), ?_⟩
                  have hr := rule_at (by omega) hq (f_bne h10)
                  have hu : unt l im c = (max (im.time + (ix l k).seconds) (c + (ix l k).least), 0) := by
                    unfold unt; simp only [h1, h4, h5, h6, h7, h8, h10, h13, h16, h19, hr]; rfl
                  have hm : max (im.time + (ix l k).seconds) (c + (ix l k).least) = (c + (ix l k).least) := by omega
                  rw [hu, hm]; rfl
                · skip
                  have h21 := f_dec h19
                  refine a_skip ?_
                  show A _ _ _ _ _ _ _
                  refine a_dseq (by kernel_rfl) ?_
                  refine dr_put (d := 71) (v := .pt 101 1) rfl (og rfl (of_eff (s_field_pt rfl Try.underlying26 rfl ti3 rfl rfl rfl) rfl)) ?_
                  refine dr_put (d := 72) (v := .d (.fl (.int .i64 im.time))) rfl (og rfl (op_load_pt rfl Try.underlying3 rfl rfl rfl rfl rfl)) ?_
                  refine dr_put (d := 73) (v := .d (.sl 3 (List.map eKp l))) rfl (og rfl (op_move rfl rfl rfl)) ?_
                  refine dr_put (d := 74) (v := .d (.fl (.int .i64 (k : Int)))) rfl (og rfl (op_move rfl rfl rfl)) ?_
                  refine dr_put (d := 75) (v := .el ((eKp (ix l k)))) rfl (og rfl (s_index rfl Try.underlying22 ti57 rfl rfl (by omega) (row_at (by omega)) rfl)) ?_
                  refine dr_put (d := 76) (v := .el ((List.drop 1 ((eKp (ix l k)))))) rfl (og rfl (of_eff (s_field_el rfl Try.underlying57 rfl ti3 rfl rfl rfl) rfl)) ?_
                  refine dr_put (d := 77) (v := .d (.fl (.int .i64 ((ix l k).seconds)))) rfl (og rfl (op_load_el rfl Try.underlying3 rfl rfl rfl rfl)) ?_
                  refine dr_put (d := 78) (v := .d (.fl (.int .i64 ((im.time + (ix l k).seconds))))) rfl (og rfl (op_bin rfl rfl rfl (fun x y w => b_add64 _ _ _ x y w (by omega)) rfl)) ?_
                  refine dr_put (d := 6) (v := .d (.fl (.int .i64 ((im.time + (ix l k).seconds))))) rfl (og rfl (op_assign rfl rfl rfl)) ?_
                  refine dr_put (d := 7) (v := .d (.fl (.int .i64 0))) rfl (og rfl (op_assign rfl rfl rfl)) ?_
                  refine dr_done rfl (by kernel_rfl) (by kernel_rfl) ?_
                  refine a_ret ?_
                  show ∃ ds, ResL _ _ _ ds ∧ RV.of ds = _
                  refine ⟨[.fl (.int .i64 ((im.time + (ix l k).seconds))), .fl (.int .i64 0)], (.cons (.tmp rfl (.d _)) (.cons (.tmp rfl (.d _)) .nil)), ?_⟩
                  have hr := rule_at (by omega) hq (f_bne h10)
                  have hu : unt l im c = (max (im.time + (ix l k).seconds) (c + (ix l k).least), 0) := by
                    unfold unt; simp only [h1, h4, h5, h6, h7, h8, h10, h13, h16, h19, hr]; rfl
                  have hm : max (im.time + (ix l k).seconds) (c + (ix l k).least) = (im.time + (ix l k).seconds) := by omega
                  rw [hu, hm]; rfl
        · skip
          have h22 := f_dec h8
          refine a_exit ?_
          show A _ _ _ _ _ _ _
          refine a_rseq ?_
          refine rg_put (d := 6) (v := .d (.fl (.int .i64 0))) rfl (og rfl (op_assign rfl rfl rfl)) ?_
          refine rg_put (d := 7) (v := .d (.fl (.int .i64 10))) rfl (og rfl (op_assign rfl rfl rfl)) ?_
          refine rg_done rfl ?_
          refine a_ret ?_
          show ∃ ds, ResL _ _ _ ds ∧ RV.of ds = _
          refine ⟨[.fl (.int .i64 0), .fl (.int .i64 10)], (.cons (.tmp rfl (.d _)) (.cons (.tmp rfl (.d _)) .nil)), ?_⟩
          have hr := rule_no (l := l) (p := im.purpose) (fun q h => hq q (by omega))
          have hu : unt l im c = (0, 10) := by
            unfold unt; simp only [h1, h4, h5, h6, h7, h8, hr]; rfl
          rw [hu]; rfl
      · skip
        have h23 := t_not h6
        refine rg_put (d := 24) (v := .d (.fl (.int .i64 c))) rfl (oy rfl rfl rfl h6 (op_move rfl rfl rfl)) ?_
        refine rg_put (d := 25) (v := .d (.fl (.bool ((c != (-1)))))) rfl (oy rfl rfl rfl h6 (op_bin rfl rfl rfl (b_neq _ _ _ _) rfl)) ?_
        refine rg_put (d := 26) (v := .d (.fl (.bool ((c != (-1)))))) rfl (oy rfl rfl rfl h4 (op_pick rfl rfl (by rw [h6]; rfl) rfl)) ?_
        refine rg_put (d := 27) (v := .d (.fl (.bool ((c != (-1)))))) rfl (og rfl (op_pick rfl rfl (by rw [h4]; rfl) rfl)) ?_
        refine rg_done rfl ?_
        refine a_cond rfl (fun h24 => ?_) (fun h24 => ?_)
        · skip
          have h25 := t_bne h24
          refine a_rseq ?_
          refine rg_put (d := 6) (v := .d (.fl (.int .i64 0))) rfl (og rfl (op_assign rfl rfl rfl)) ?_
          refine rg_put (d := 7) (v := .d (.fl (.int .i64 12))) rfl (og rfl (op_assign rfl rfl rfl)) ?_
          refine rg_done rfl ?_
          refine a_ret ?_
          show ∃ ds, ResL _ _ _ ds ∧ RV.of ds = _
          refine ⟨[.fl (.int .i64 0), .fl (.int .i64 12)], (.cons (.tmp rfl (.d _)) (.cons (.tmp rfl (.d _)) .nil)), ?_⟩
          have hu : unt l im c = (0, 12) := by
            unfold unt; simp only [h1, h4, h5, h6, h23, h24]; rfl
          rw [hu]; rfl
        · skip
          have h26 := f_bne h24
          refine a_skip ?_
          show A _ _ _ _ _ _ _
          refine a_seq ?_
          refine a_rseq ?_
          have hz := ck_zero (f_bne h1)
          refine rg_put (d := 9) (v := .d (.fl (.int .i64 0))) rfl (og rfl (op_assign rfl rfl rfl)) ?_
          refine rg_done rfl ?_
          refine a_block ?_
          refine a_loop (ι := Nat) (fun k => SS [(0, .d (.sl 3 (List.map eKp l))), (1, .d (.ag (eIm im))), (2, .d (.fl (.int .i64 c))), (4, .pt 101 0), (8, .d (.fl (.int .i64 (ck l)))), (13, .d (.fl (.bool (((ck l) != 0))))), (27, .d (.fl (.bool ((c != (-1)))))), (9, .d (.fl (.int .i64 (k : Int))))] [(101, .bx 26 (eIm im))]) (fun k => k ≤ l.length ∧ ∀ q, q < k → (ix l q).purpose ≠ im.purpose) (fun k => l.length - k) 0 (⟨by omega, fun q h => by omega⟩) (imp_forget rfl ⟨rfl, rfl, rfl, rfl, rfl, rfl, rfl, (by first | rfl | exact ci (by omega) | exact ci (by simp) | exact cd (by simp) | simp), trivial⟩ ⟨rfl, trivial⟩) (fun k hok => ?_)
          obtain ⟨hk, hq⟩ := hok
          have hb1 := fun h : k < l.length => bad_zero (hz.2 k h)
          refine a_seq ?_
          refine a_rseq ?_
          refine rg_put (d := 28) (v := .d (.fl (.int .i64 (k : Int)))) rfl (og rfl (op_move rfl rfl rfl)) ?_
          refine rg_put (d := 29) (v := .d (.sl 3 (List.map eKp l))) rfl (og rfl (op_move rfl rfl rfl)) ?_
          refine rg_put (d := 30) (v := .d (.fl (.int .i64 (l.length : Int)))) rfl (og rfl (s_len rfl Try.underlying22 rfl rfl)) ?_
          refine rg_put (d := 31) (v := .d (.fl (.bool ((decide ((k : Int) < (l.length : Int))))))) rfl (og rfl (op_bin rfl rfl rfl (b_lss _ _ _ _) rfl)) ?_
          refine rg_done rfl ?_
          refine a_cond rfl (fun h27 => ?_) (fun h27 => ?_)
          · skip
            have h28 := t_dec h27
            refine a_skip ?_
            show A _ _ _ _ _ _ _
            refine a_seq ?_
            refine a_block ?_
            refine a_seq ?_
            refine a_dseq (by kernel_rfl) ?_
            refine dr_put (d := 34) (v := .d (.sl 3 (List.map eKp l))) rfl (og rfl (op_move rfl rfl rfl)) ?_
            refine dr_put (d := 35) (v := .d (.fl (.int .i64 (k : Int)))) rfl (og rfl (op_move rfl rfl rfl)) ?_
            refine dr_put (d := 36) (v := .el ((eKp (ix l k)))) rfl (og rfl (s_index rfl Try.underlying22 ti57 rfl rfl (by omega) (row_at (by omega)) rfl)) ?_
            refine dr_put (d := 37) (v := .el ((List.drop 0 ((eKp (ix l k)))))) rfl (og rfl (of_eff (s_field_el rfl Try.underlying57 rfl ti3 rfl rfl rfl) rfl)) ?_
            refine dr_put (d := 38) (v := .d (.fl (.int .i64 ((ix l k).purpose)))) rfl (og rfl (op_load_el rfl Try.underlying3 rfl rfl rfl rfl)) ?_
            refine dr_put (d := 39) (v := .pt 101 2) rfl (og rfl (of_eff (s_field_pt rfl Try.underlying26 rfl ti3 rfl rfl rfl) rfl)) ?_
            refine dr_put (d := 40) (v := .d (.fl (.int .i64 im.purpose))) rfl (og rfl (op_load_pt rfl Try.underlying3 rfl rfl rfl rfl rfl)) ?_
            refine dr_put (d := 41) (v := .d (.fl (.bool (((ix l k).purpose != im.purpose))))) rfl (og rfl (op_bin rfl rfl rfl (b_neq _ _ _ _) rfl)) ?_
            refine dr_done rfl (by kernel_rfl) (by kernel_rfl) ?_
            refine a_cond rfl (fun h29 => ?_) (fun h29 => ?_)
            · skip
              have h30 := t_bne h29
              refine a_exit ?_
              show A _ _ _ _ _ _ _
              refine a_region ?_
              refine rg_put (d := 32) (v := .d (.fl (.int .i64 (k : Int)))) rfl (og rfl (op_move rfl rfl rfl)) ?_
              refine rg_put (d := 33) (v := .d (.fl (.int .i64 (((k : Int) + 1))))) rfl (og rfl (op_bin rfl rfl rfl (fun x y w => b_add64 _ _ _ x y w (by omega)) rfl)) ?_
              refine rg_put (d := 9) (v := .d (.fl (.int .i64 (((k : Int) + 1))))) rfl (og rfl (op_assign rfl rfl rfl)) ?_
              refine rg_done rfl ?_
              show ∃ i, _ ∧ _ ∧ Imp _ _ _ _ _
              refine ⟨k + 1, ⟨by omega, fun q h => by
                rcases Nat.lt_succ_iff_lt_or_eq.1 h with h | h
                · exact hq q h
                · subst h; exact t_bne h29⟩, by omega, imp_forget rfl ⟨rfl, rfl, rfl, rfl, rfl, rfl, rfl, (by first | rfl | exact ci (by omega) | exact ci (by simp) | exact cd (by simp) | simp), trivial⟩ ⟨rfl, trivial⟩⟩
            · skip
              have h31 := f_bne h29
              refine a_skip ?_
              show A _ _ _ _ _ _ _
              refine a_seq ?_
              refine a_rseq ?_
              refine rg_put (d := 42) (v := .pt 101 3) rfl (og rfl (of_eff (s_field_pt rfl Try.underlying26 rfl ti23 rfl rfl rfl) rfl)) ?_
              refine rg_put (d := 43) (v := .d (.sl 1 (List.map rS im.hold))) rfl (og rfl (op_load_pt rfl Try.underlying23 rfl rfl rfl rfl rfl)) ?_
              refine rg_put (d := 44) (v := .d (.fl (.int .i64 (im.hold.length : Int)))) rfl (og rfl (s_len rfl Try.underlying23 rfl rfl)) ?_
              refine rg_put (d := 45) (v := .d (.fl (.bool ((decide (0 < (im.hold.length : Int))))))) rfl (og rfl (op_bin rfl rfl rfl (b_gtr _ _ _ _) rfl)) ?_
              refine rg_done rfl ?_
              refine a_cond rfl (fun h32 => ?_) (fun h32 => ?_)
              · skip
                have h33 := t_dec h32
                refine a_rseq ?_
                refine rg_put (d := 6) (v := .d (.fl (.int .i64 0))) rfl (og rfl (op_assign rfl rfl rfl)) ?_
                refine rg_put (d := 7) (v := .d (.fl (.int .i64 32))) rfl (og rfl (op_assign rfl rfl rfl)) ?_
                refine rg_done rfl ?_
                refine a_ret ?_
                show ∃ ds, ResL _ _ _ ds ∧ RV.of ds = _
                refine ⟨[.fl (.int .i64 0), .fl (.int .i64 32)], (.cons (.tmp rfl (.d _)) (.cons (.tmp rfl (.d _)) .nil)), ?_⟩
                have hr := rule_at (by omega) hq (f_bne h29)
                have hu : unt l im c = (0, 32) := by
                  unfold unt; simp only [h1, h4, h5, h6, h23, h24, h27, h29, h32, hr]; rfl
                rw [hu]; rfl
              · skip
                have h34 := f_dec h32
                refine a_skip ?_
                show A _ _ _ _ _ _ _
                refine a_seq ?_
                refine a_rseq ?_
                refine rg_put (d := 46) (v := .d (.fl (.int .i64 c))) rfl (og rfl (op_move rfl rfl rfl)) ?_
                refine rg_put (d := 47) (v := .d (.fl (.bool ((c == (-1)))))) rfl (og rfl (op_bin rfl rfl rfl (b_eql _ _ _ _) rfl)) ?_
                refine rg_done rfl ?_
                refine a_cond rfl (fun h35 => ?_) (fun h35 => ?_)
                · skip
                  have h36 := t_beq h35
                  refine a_rseq ?_
                  refine rg_put (d := 6) (v := .d (.fl (.int .i64 0))) rfl (og rfl (op_assign rfl rfl rfl)) ?_
                  refine rg_put (d := 7) (v := .d (.fl (.int .i64 11))) rfl (og rfl (op_assign rfl rfl rfl)) ?_
                  refine rg_done rfl ?_
                  refine a_ret ?_
                  show ∃ ds, ResL _ _ _ ds ∧ RV.of ds = _
                  refine ⟨[.fl (.int .i64 0), .fl (.int .i64 11)], (.cons (.tmp rfl (.d _)) (.cons (.tmp rfl (.d _)) .nil)), ?_⟩
                  have hr := rule_at (by omega) hq (f_bne h29)
                  have hu : unt l im c = (0, 11) := by
                    unfold unt; simp only [h1, h4, h5, h6, h23, h24, h27, h29, h32, h35, hr]; rfl
                  rw [hu]; rfl
                · skip
                  have h37 := f_beq h35
                  refine a_skip ?_
                  show A _ _ _ _ _ _ _
                  refine a_seq ?_
                  refine a_dseq (by kernel_rfl) ?_
                  have hb2 := hb1 (by omega)
                  refine dr_put (d := 48) (v := .d (.fl (.int .i64 c))) rfl (og rfl (op_move rfl rfl rfl)) ?_
                  refine dr_put (d := 49) (v := .d (.sl 3 (List.map eKp l))) rfl (og rfl (op_move rfl rfl rfl)) ?_
                  refine dr_put (d := 50) (v := .d (.fl (.int .i64 (k : Int)))) rfl (og rfl (op_move rfl rfl rfl)) ?_
                  refine dr_put (d := 51) (v := .el ((eKp (ix l k)))) rfl (og rfl (s_index rfl Try.underlying22 ti57 rfl rfl (by omega) (row_at (by omega)) rfl)) ?_
                  refine dr_put (d := 52) (v := .el ((List.drop 2 ((eKp (ix l k)))))) rfl (og rfl (of_eff (s_field_el rfl Try.underlying57 rfl ti3 rfl rfl rfl) rfl)) ?_
                  refine dr_put (d := 53) (v := .d (.fl (.int .i64 ((ix l k).least)))) rfl (og rfl (op_load_el rfl Try.underlying3 rfl rfl rfl rfl)) ?_
                  refine dr_put (d := 54) (v := .d (.fl (.int .i64 ((c + (ix l k).least))))) rfl (og rfl (op_bin rfl rfl rfl (fun x y w => b_add64 _ _ _ x y w (by omega)) rfl)) ?_
                  refine dr_put (d := 55) (v := .pt 101 1) rfl (og rfl (of_eff (s_field_pt rfl Try.underlying26 rfl ti3 rfl rfl rfl) rfl)) ?_
                  refine dr_put (d := 56) (v := .d (.fl (.int .i64 im.time))) rfl (og rfl (op_load_pt rfl Try.underlying3 rfl rfl rfl rfl rfl)) ?_
                  refine dr_put (d := 57) (v := .d (.sl 3 (List.map eKp l))) rfl (og rfl (op_move rfl rfl rfl)) ?_
                  refine dr_put (d := 58) (v := .d (.fl (.int .i64 (k : Int)))) rfl (og rfl (op_move rfl rfl rfl)) ?_
                  refine dr_put (d := 59) (v := .el ((eKp (ix l k)))) rfl (og rfl (s_index rfl Try.underlying22 ti57 rfl rfl (by omega) (row_at (by omega)) rfl)) ?_
                  refine dr_put (d := 60) (v := .el ((List.drop 1 ((eKp (ix l k)))))) rfl (og rfl (of_eff (s_field_el rfl Try.underlying57 rfl ti3 rfl rfl rfl) rfl)) ?_
                  refine dr_put (d := 61) (v := .d (.fl (.int .i64 ((ix l k).seconds)))) rfl (og rfl (op_load_el rfl Try.underlying3 rfl rfl rfl rfl)) ?_
                  refine dr_put (d := 62) (v := .d (.fl (.int .i64 ((im.time + (ix l k).seconds))))) rfl (og rfl (op_bin rfl rfl rfl (fun x y w => b_add64 _ _ _ x y w (by omega)) rfl)) ?_
                  refine dr_put (d := 63) (v := .d (.fl (.bool ((decide ((im.time + (ix l k).seconds) < (c + (ix l k).least))))))) rfl (og rfl (op_bin rfl rfl rfl (b_gtr _ _ _ _) rfl)) ?_
                  refine dr_done rfl (by kernel_rfl) (by kernel_rfl) ?_
                  refine a_cond rfl (fun h38 => ?_) (fun h38 => ?_)
                  · skip
                    have h39 := t_dec h38
                    refine a_rseq ?_
                    refine rg_put (d := 64) (v := .d (.fl (.int .i64 c))) rfl (og rfl (op_move rfl rfl rfl)) ?_
                    refine rg_put (d := 65) (v := .d (.sl 3 (List.map eKp l))) rfl (og rfl (op_move rfl rfl rfl)) ?_
                    refine rg_put (d := 66) (v := .d (.fl (.int .i64 (k : Int)))) rfl (og rfl (op_move rfl rfl rfl)) ?_
                    refine rg_put (d := 67) (v := .el ((eKp (ix l k)))) rfl (og rfl (s_index rfl Try.underlying22 ti57 rfl rfl (by omega) (row_at (by omega)) rfl)) ?_
                    refine rg_put (d := 68) (v := .el ((List.drop 2 ((eKp (ix l k)))))) rfl (og rfl (of_eff (s_field_el rfl Try.underlying57 rfl ti3 rfl rfl rfl) rfl)) ?_
                    refine rg_put (d := 69) (v := .d (.fl (.int .i64 ((ix l k).least)))) rfl (og rfl (op_load_el rfl Try.underlying3 rfl rfl rfl rfl)) ?_
                    refine rg_put (d := 70) (v := .d (.fl (.int .i64 ((c + (ix l k).least))))) rfl (og rfl (op_bin rfl rfl rfl (fun x y w => b_add64 _ _ _ x y w (by omega)) rfl)) ?_
                    refine rg_put (d := 6) (v := .d (.fl (.int .i64 ((c + (ix l k).least))))) rfl (og rfl (op_assign rfl rfl rfl)) ?_
                    refine rg_put (d := 7) (v := .d (.fl (.int .i64 0))) rfl (og rfl (op_assign rfl rfl rfl)) ?_
                    refine rg_done rfl ?_
                    refine a_ret ?_
                    show ∃ ds, ResL _ _ _ ds ∧ RV.of ds = _
                    refine ⟨[.fl (.int .i64 ((c + (ix l k).least))), .fl (.int .i64 0)], (.cons (.tmp rfl (.d _)) (.cons (.tmp rfl (.d _)) .nil)), ?_⟩
                    have hr := rule_at (by omega) hq (f_bne h29)
                    have hu : unt l im c = (max (im.time + (ix l k).seconds) (c + (ix l k).least), 0) := by
                      unfold unt; simp only [h1, h4, h5, h6, h23, h24, h27, h29, h32, h35, h38, hr]; rfl
                    have hm : max (im.time + (ix l k).seconds) (c + (ix l k).least) = (c + (ix l k).least) := by omega
                    rw [hu, hm]; rfl
                  · skip
                    have h40 := f_dec h38
                    refine a_skip ?_
                    show A _ _ _ _ _ _ _
                    refine a_dseq (by kernel_rfl) ?_
                    refine dr_put (d := 71) (v := .pt 101 1) rfl (og rfl (of_eff (s_field_pt rfl Try.underlying26 rfl ti3 rfl rfl rfl) rfl)) ?_
                    refine dr_put (d := 72) (v := .d (.fl (.int .i64 im.time))) rfl (og rfl (op_load_pt rfl Try.underlying3 rfl rfl rfl rfl rfl)) ?_
                    refine dr_put (d := 73) (v := .d (.sl 3 (List.map eKp l))) rfl (og rfl (op_move rfl rfl rfl)) ?_
                    refine dr_put (d := 74) (v := .d (.fl (.int .i64 (k : Int)))) rfl (og rfl (op_move rfl rfl rfl)) ?_
                    refine dr_put (d := 75) (v := .el ((eKp (ix l k)))) rfl (og rfl (s_index rfl Try.underlying22 ti57 rfl rfl (by omega) (row_at (by omega)) rfl)) ?_
                    refine dr_put (d := 76) (v := .el ((List.drop 1 ((eKp (ix l k)))))) rfl (og rfl (of_eff (s_field_el rfl Try.underlying57 rfl ti3 rfl rfl rfl) rfl)) ?_
                    refine dr_put (d := 77) (v := .d (.fl (.int .i64 ((ix l k).seconds)))) rfl (og rfl (op_load_el rfl Try.underlying3 rfl rfl rfl rfl)) ?_
                    refine dr_put (d := 78) (v := .d (.fl (.int .i64 ((im.time + (ix l k).seconds))))) rfl (og rfl (op_bin rfl rfl rfl (fun x y w => b_add64 _ _ _ x y w (by omega)) rfl)) ?_
                    refine dr_put (d := 6) (v := .d (.fl (.int .i64 ((im.time + (ix l k).seconds))))) rfl (og rfl (op_assign rfl rfl rfl)) ?_
                    refine dr_put (d := 7) (v := .d (.fl (.int .i64 0))) rfl (og rfl (op_assign rfl rfl rfl)) ?_
                    refine dr_done rfl (by kernel_rfl) (by kernel_rfl) ?_
                    refine a_ret ?_
                    show ∃ ds, ResL _ _ _ ds ∧ RV.of ds = _
                    refine ⟨[.fl (.int .i64 ((im.time + (ix l k).seconds))), .fl (.int .i64 0)], (.cons (.tmp rfl (.d _)) (.cons (.tmp rfl (.d _)) .nil)), ?_⟩
                    have hr := rule_at (by omega) hq (f_bne h29)
                    have hu : unt l im c = (max (im.time + (ix l k).seconds) (c + (ix l k).least), 0) := by
                      unfold unt; simp only [h1, h4, h5, h6, h23, h24, h27, h29, h32, h35, h38, hr]; rfl
                    have hm : max (im.time + (ix l k).seconds) (c + (ix l k).least) = (im.time + (ix l k).seconds) := by omega
                    rw [hu, hm]; rfl
          · skip
            have h41 := f_dec h27
            refine a_exit ?_
            show A _ _ _ _ _ _ _
            refine a_rseq ?_
            refine rg_put (d := 6) (v := .d (.fl (.int .i64 0))) rfl (og rfl (op_assign rfl rfl rfl)) ?_
            refine rg_put (d := 7) (v := .d (.fl (.int .i64 10))) rfl (og rfl (op_assign rfl rfl rfl)) ?_
            refine rg_done rfl ?_
            refine a_ret ?_
            show ∃ ds, ResL _ _ _ ds ∧ RV.of ds = _
            refine ⟨[.fl (.int .i64 0), .fl (.int .i64 10)], (.cons (.tmp rfl (.d _)) (.cons (.tmp rfl (.d _)) .nil)), ?_⟩
            have hr := rule_no (l := l) (p := im.purpose) (fun q h => hq q (by omega))
            have hu : unt l im c = (0, 10) := by
              unfold unt; simp only [h1, h4, h5, h6, h23, h24, h27, hr]; rfl
            rw [hu]; rfl
    · skip
      have h42 := t_not h4
      refine rg_put (d := 20) (v := .d (.fl undef)) rfl (on rfl rfl rfl h4) ?_
      refine rg_put (d := 21) (v := .d (.fl undef)) rfl (on rfl rfl rfl h4) ?_
      refine rg_put (d := 22) (v := .d (.fl undef)) rfl (on rfl rfl rfl h4) ?_
      refine rg_put (d := 23) (v := .d (.fl undef)) rfl (on rfl rfl rfl h4) ?_
      refine rg_put (d := 24) (v := .d (.fl undef)) rfl (ou rfl rfl rfl) ?_
      refine rg_put (d := 25) (v := .d (.fl undef)) rfl (ou rfl rfl rfl) ?_
      refine rg_put (d := 26) (v := .d (.fl undef)) rfl (on rfl rfl rfl h4) ?_
      refine rg_put (d := 27) (v := .d (.fl (.bool true))) rfl (og rfl (op_pick rfl rfl (by rw [h4]; rfl) rfl)) ?_
      refine rg_done rfl ?_
      refine a_condK rfl rfl ?_
      refine a_rseq ?_
      refine rg_put (d := 6) (v := .d (.fl (.int .i64 0))) rfl (og rfl (op_assign rfl rfl rfl)) ?_
      refine rg_put (d := 7) (v := .d (.fl (.int .i64 12))) rfl (og rfl (op_assign rfl rfl rfl)) ?_
      refine rg_done rfl ?_
      refine a_ret ?_
      show ∃ ds, ResL _ _ _ ds ∧ RV.of ds = _
      refine ⟨[.fl (.int .i64 0), .fl (.int .i64 12)], (.cons (.tmp rfl (.d _)) (.cons (.tmp rfl (.d _)) .nil)), ?_⟩
      have hu : unt l im c = (0, 12) := by
        unfold unt; simp only [h1, h4, h42]; rfl
      rw [hu]; rfl
end Go.Proofs.Yteplcjhnmmpicaa.Wk
