/- The laws against the reference. No condition. -/
import Derived.Test.YtniefocnfcaebaaAvS
import Derived.Test.YtniefocnfcaebaaAvN
import Derived.Test.YtniefocnfcaebaaB7
import Derived.Test.YtniefocnfcaebaaAl
import Derived.Test.YtniefocnfcaebaaGr
import Derived.Test.YtniefocnfcaebaaB9
set_option linter.unusedSimpArgs false
set_option linter.unusedVariables false
namespace Go.Proofs.Ytniefocnfcaebaa.Wk
open Go Go.RowKit Go.Proofs.Ytniefocnfcaebaa.Av
theorem enf_R {z : Zn} {i : Ivl} (he : spE i = 0) : ∀ t, Mem (enf z i) t ↔ (i.fr ≤ t ∧ t < i.to) ∧ inH z.hours t = true := fun t => by
  have h := spE_0 he
  rw [(enf_ok he).2]
  constructor
  · rintro ⟨a, b⟩; exact ⟨a, by rw [← opn_H (by omega) (by omega)]; exact b⟩
  · rintro ⟨a, b⟩; exact ⟨a, by rw [opn_H (by omega) (by omega)]; exact b⟩
theorem opn_isT {z : Zn} {t : Int} : opn z t = (isT t && inH z.hours t) := by
  cases h : isT t with
  | true => rw [opn_H (isT_t h).1 (isT_t h).2]; rfl
  | false =>
    cases ho : opn z t with
    | false => rfl
    | true =>
      obtain ⟨i, _, hw⟩ := opn_ex.1 ho
      obtain ⟨_, a, b, _⟩ := inW_p.1 hw
      rw [isT_of ⟨a, b⟩] at h; cases h
/-- the next time is the first of the times from t on -/
theorem nxt_ref {z : Zn} {t : Int} (ht : isT t = true) {to : Int} (hto : to = min (t + 691200) 68719476736) : spE ⟨t, to⟩ = 0 ∧ nxv z t = (if (enf z ⟨t, to⟩).length = 0 then (0, false) else ((ix (enf z ⟨t, to⟩) 0).fr, true)) := by
  have h01 := isT_t ht
  have he : spE ⟨t, to⟩ = 0 := spE_ok (by refine ⟨h01.1, ?_, ?_, ?_⟩ <;> first | (show t < to; omega) | (show to ≤ 68719476736; omega) | (show (to - 1) / 86400 - t / 86400 < 366; omega))
  refine ⟨he, ?_⟩
  obtain ⟨g1, g2⟩ := enf_ok (z := z) he
  by_cases h0 : (enf z ⟨t, to⟩).length = 0
  · rw [if_pos h0]
    have hno : ∀ x, t ≤ x → x < to → opn z x = false := fun x h1 h2 => by
      cases ho : opn z x with
      | false => rfl
      | true =>
        have := (g2 x).2 ⟨⟨h1, h2⟩, ho⟩
        rw [List.length_eq_zero_iff.1 h0] at this
        exact absurd this Mem.nil
    unfold nxv
    have hot := hno t (Int.le_refl _) (by omega)
    rw [if_neg (by omega), if_neg (by rw [hot]; decide)]
    by_cases hf : fst z t = 68719476736
    · rw [if_pos hf]
    · exfalso
      obtain ⟨a, b, c⟩ := fst_yes h01.1 hot hf
      obtain ⟨i, hi, hw⟩ := opn_ex.1 b
      have hlt := (inW_p.1 hw).2.2.1
      by_cases h8 : t < 68718785536
      · have := (fst_week h01.1 h8 hot (by omega)).2
        have h9 := hno _ (Int.le_of_lt a) (by omega)
        rw [b] at h9; cases h9
      · have h9 := hno _ (Int.le_of_lt a) (by omega)
        rw [b] at h9; cases h9
  · rw [if_neg h0]
    have hx := ix_mem (show 0 < (enf z ⟨t, to⟩).length by omega)
    obtain ⟨i1, i2, i3⟩ := enf_in he hx
    have i1 : t ≤ (ix (enf z ⟨t, to⟩) 0).fr := i1
    have i3 : (ix (enf z ⟨t, to⟩) 0).to ≤ to := i3
    have ho := ((g2 _).1 (mem_lo hx i2).1).2
    have hlow : ∀ x, t ≤ x → x < (ix (enf z ⟨t, to⟩) 0).fr → opn z x = false := fun x h1 h2 => by
      cases hc : opn z x with
      | false => rfl
      | true =>
        exfalso
        obtain ⟨s, hs, h3, h4⟩ := (g2 x).2 ⟨⟨h1, by show x < to; omega⟩, hc⟩
        obtain ⟨j, hj, hje⟩ := mem_ix hs
        rcases Nat.eq_zero_or_pos j with hz | hz
        · subst hz; rw [hje] at h2; omega
        · have h6 := List.pairwise_iff_getElem.1 g1.p 0 j (by omega) hj hz
          rw [ix_eq (by omega), ix_eq hj, hje] at h6
          omega
    unfold nxv
    rw [if_neg (by omega)]
    by_cases hot : opn z t = true
    · rw [if_pos hot]
      have : t = (ix (enf z ⟨t, to⟩) 0).fr := by
        rcases Int.lt_or_le t (ix (enf z ⟨t, to⟩) 0).fr with h5 | h5
        · have := hlow t (Int.le_refl _) h5
          rw [hot] at this; cases this
        · omega
      rw [← this]
    · have hot : opn z t = false := by simpa using hot
      rw [if_neg (by rw [hot]; decide)]
      have htx : t < (ix (enf z ⟨t, to⟩) 0).fr := by
        rcases Int.lt_or_le t (ix (enf z ⟨t, to⟩) 0).fr with h5 | h5
        · exact h5
        · have : t = (ix (enf z ⟨t, to⟩) 0).fr := by omega
          rw [← this, hot] at ho; cases ho
      have hf : fst z t ≠ 68719476736 := fun hf => by
        have := fst_no h01.1 hot hf _ (Int.le_of_lt htx)
        rw [ho] at this; cases this
      obtain ⟨a, b, c⟩ := fst_yes h01.1 hot hf
      rw [if_neg hf]
      have e : fst z t = (ix (enf z ⟨t, to⟩) 0).fr := by
        rcases Int.lt_trichotomy (fst z t) (ix (enf z ⟨t, to⟩) 0).fr with h5 | h5 | h5
        · have := hlow _ (Int.le_of_lt a) h5
          rw [b] at this; cases this
        · exact h5
        · have := c _ (Int.le_of_lt htx) h5
          rw [ho] at this; cases this
      rw [e]

theorem eqI32 (a : Ivl) (w : World) : (Op.equalIn 10000 32 (.agg (([.int .i64 a.fr, .int .i64 a.to] : List Value).toArray)) (.agg (([.int .i64 a.fr, .int .i64 a.to] : List Value).toArray))).run Try.prog w = .ok true w := by
  have hS : Try.prog.underlying 32 = some (.struct (Try.prog.fieldsOf 32)) := by kernel_rfl
  have hp : Try.prog.stoodInHeld 32 = false := by kernel_rfl
  rw [show (10000 : Nat) = 9999 + 1 from rfl, run_equalIn_agg w 9999 32 _ _ hS hp]
  simp only [Program.fieldsOf, Try.underlying32]
  go_simp

theorem eql32 (a : Ivl) (x y : Operand) (w : World) : (do eqGuard .eql 32 x y (.agg (([.int .i64 a.fr, .int .i64 a.to] : List Value).toArray)) (.agg (([.int .i64 a.fr, .int .i64 a.to] : List Value).toArray)); binOp .eql 32 (.agg (([.int .i64 a.fr, .int .i64 a.to] : List Value).toArray)) (.agg (([.int .i64 a.fr, .int .i64 a.to] : List Value).toArray)) : Sem Value).run Try.prog w = .ok (.bool true) w := by
  have hm : Try.prog.eqGuardType Try.prog.depth 32 = false := by kernel_rfl
  rw [Sem.run_bind, run_eqGuard_agg w .eql 32 x y _ _ hm, Result.andThen_ok, run_eql_struct, eqI32]
  rfl

theorem neq32 (a : Ivl) (x y : Operand) (w : World) : (do eqGuard .neq 32 x y (.agg (([.int .i64 a.fr, .int .i64 a.to] : List Value).toArray)) (.agg (([.int .i64 a.fr, .int .i64 a.to] : List Value).toArray)); binOp .neq 32 (.agg (([.int .i64 a.fr, .int .i64 a.to] : List Value).toArray)) (.agg (([.int .i64 a.fr, .int .i64 a.to] : List Value).toArray)) : Sem Value).run Try.prog w = .ok (.bool false) w := by
  have hm : Try.prog.eqGuardType Try.prog.depth 32 = false := by kernel_rfl
  rw [Sem.run_bind, run_eqGuard_agg w .neq 32 x y _ _ hm, Result.andThen_ok, run_neq_struct, eqI32]
  rfl

set_option maxHeartbeats 4000000 in
set_option maxRecDepth 100000 in
theorem enfR16 (z : Zn) (i : Ivl) (hl : z.hours.length ≤ 60) (hd : spE i = 0 → i.to - i.fr ≤ 1728000) : Ctr Try.prog 16 [.ag (eZn z), .ag (eIv i)] (.tu [.sl 2 (List.map eIv (enf z i)), .fl (.int .i64 (spE i))]) := by
  refine ctr (n := 16) (rs := #[.tmp 4, .tmp 5]) (L := [(0, .d (.ag (eZn z))), (1, .d (.ag (eIv i)))]) Try.func16 rfl rfl rfl rfl rfl (fun w0 U0 => ?_)
  refine a_rseq ?_
  refine rg_nam (d := 2) (v := .pt 101 0) (m := 101) (nw := [(101, .bx 25 (eZn z))]) rfl (og rfl (of_eff (op_box 101 rfl rfl rfl rfl) rfl)) rfl ?_
  refine rg_nam (d := 3) (v := .pt 102 0) (m := 102) (nw := [(102, .bx 32 (eIv i))]) rfl (og rfl (of_eff (op_box 102 rfl rfl rfl rfl) rfl)) rfl ?_
  refine rg_put (d := 4) (v := .d (.fl (.slice none 0 0))) rfl (og rfl (op_assign rfl rfl rfl)) ?_
  refine rg_put (d := 5) (v := .d (.fl (.int .i64 0))) rfl (og rfl (op_assign rfl rfl rfl)) ?_
  refine rg_done rfl ?_
  refine a_rseq ?_
  refine rg_put (d := 7) (v := .d (.ag (eIv i))) rfl (og rfl (of_eff (s_load_pts rfl Try.underlying32 rfl ti32 rfl rfl rfl rfl) rfl)) ?_
  refine rg_put (d := 8) (v := .d (.fl (.int .i64 (spE i)))) rfl (og rfl (op_call rfl Try.func31 nm31 rfl (.cons rfl (.d _) .nil) (days31 i) rfl)) ?_
  refine rg_put (d := 6) (v := .d (.fl (.int .i64 (spE i)))) rfl (og rfl (op_assign rfl rfl rfl)) ?_
  refine rg_done rfl ?_
  refine a_seq ?_
  refine a_rseq ?_
  refine rg_put (d := 9) (v := .d (.fl (.int .i64 (spE i)))) rfl (og rfl (op_move rfl rfl rfl)) ?_
  refine rg_put (d := 10) (v := .d (.fl (.bool (((spE i) != 0))))) rfl (og rfl (op_bin rfl rfl rfl (b_neq _ _ _ _) rfl)) ?_
  refine rg_done rfl ?_
  refine a_cond rfl (fun h1 => ?_) (fun h1 => ?_)
  · skip
    have h2 := t_bne h1
    refine a_rseq ?_
    refine rg_put (d := 11) (v := .d (.fl (.int .i64 (spE i)))) rfl (og rfl (op_move rfl rfl rfl)) ?_
    refine rg_put (d := 4) (v := .d (.fl (.slice none 0 0))) rfl (og rfl (op_assign rfl rfl rfl)) ?_
    refine rg_put (d := 5) (v := .d (.fl (.int .i64 (spE i)))) rfl (og rfl (op_assign rfl rfl rfl)) ?_
    refine rg_done rfl ?_
    refine a_ret ?_
    show ∃ ds, ResL _ _ _ ds ∧ RV.of ds = _
    refine ⟨[.sl 2 (List.map eIv []), .fl (.int .i64 (spE i))], (.cons (.tmp rfl (.cv (Cv.nil _))) (.cons (.tmp rfl (.d _)) .nil)), ?_⟩
    have he : spE i ≠ 0 := by simpa using h1
    rw [enf_no he]; rfl
  · skip
    have h3 := f_bne h1
    refine a_skip ?_
    show A _ _ _ _ _ _ _
    refine a_rseq ?_
    have he : spE i = 0 := by first | exact eq_of_beq (by assumption) | exact (f_bne (by assumption))
    refine rg_put (d := 12) (v := .pt 101 1) rfl (og rfl (of_eff (s_field_pt rfl Try.underlying25 rfl ti22 rfl rfl rfl) rfl)) ?_
    refine rg_put (d := 13) (v := .d (.sl 3 (List.map eWd z.hours))) rfl (og rfl (op_load_pt rfl Try.underlying22 rfl rfl rfl rfl rfl)) ?_
    refine rg_put (d := 14) (v := .d (.ag (eIv i))) rfl (og rfl (of_eff (s_load_pts rfl Try.underlying32 rfl ti32 rfl rfl rfl rfl) rfl)) ?_
    refine rg_put (d := 15) (v := .d (.sl 2 (List.map eIv (enf z i)))) rfl (og rfl (op_call rfl Try.func27 nm27 rfl (.cons rfl (.d _) (.cons rfl (.d _) .nil)) (within27 z.hours i (enf z i) (by omega) ⟨(spE_0 he).1, (spE_0 he).2.1, (spE_0 he).2.2.1⟩ (by first | exact hd he | (dsimp only; omega)) (enf_ok he).1 (enf_R he)) rfl)) ?_
    refine rg_put (d := 4) (v := .d (.sl 2 (List.map eIv (enf z i)))) rfl (og rfl (op_assign rfl rfl rfl)) ?_
    refine rg_put (d := 5) (v := .d (.fl (.int .i64 0))) rfl (og rfl (op_assign rfl rfl rfl)) ?_
    refine rg_done rfl ?_
    refine a_ret ?_
    show ∃ ds, ResL _ _ _ ds ∧ RV.of ds = _
    refine ⟨[.sl 2 (List.map eIv (enf z i)), .fl (.int .i64 0)], (.cons (.tmp rfl (.d _)) (.cons (.tmp rfl (.d _)) .nil)), ?_⟩
    rw [he]; rfl
set_option maxHeartbeats 4000000 in
set_option maxRecDepth 100000 in
theorem openR13 (z : Zn) (t : Int) (hl : z.hours.length ≤ 60) : Ctr Try.prog 13 [.ag (eZn z), .fl (.int .i64 t)] (.d (.fl (.bool (opn z t)))) := by
  refine ctr (n := 13) (rs := #[.tmp 4]) (L := [(0, .d (.ag (eZn z))), (1, .d (.fl (.int .i64 t)))]) Try.func13 rfl rfl rfl rfl rfl (fun w0 U0 => ?_)
  refine a_rseq ?_
  refine rg_nam (d := 2) (v := .pt 101 0) (m := 101) (nw := [(101, .bx 25 (eZn z))]) rfl (og rfl (of_eff (op_box 101 rfl rfl rfl rfl) rfl)) rfl ?_
  refine rg_put (d := 4) (v := .d (.fl (.bool false))) rfl (og rfl (op_assign rfl rfl rfl)) ?_
  refine rg_done rfl ?_
  refine a_rseq ?_
  refine rg_put (d := 5) (v := .d (.fl (.int .i64 t))) rfl (og rfl (op_move rfl rfl rfl)) ?_
  refine rg_put (d := 6) (v := .d (.fl (.bool (isT t)))) rfl (og rfl (op_call rfl Try.func26 nm26 rfl (.cons rfl (.d _) .nil) (isT26 t) rfl)) ?_
  refine rg_put (d := 7) (v := .d (.fl (.bool (isT t)))) rfl (og rfl (op_move rfl rfl rfl)) ?_
  rcases fot (isT t) with h1 | h1
  · skip
    refine rg_put (d := 8) (v := .d (.fl undef)) rfl (on rfl rfl rfl h1) ?_
    refine rg_put (d := 9) (v := .d (.fl undef)) rfl (on rfl rfl rfl h1) ?_
    refine rg_put (d := 10) (v := .d (.fl undef)) rfl (on rfl rfl rfl h1) ?_
    refine rg_put (d := 11) (v := .d (.fl undef)) rfl (on rfl rfl rfl h1) ?_
    refine rg_put (d := 12) (v := .d (.fl (.bool false))) rfl (og rfl (op_pick rfl rfl (by rw [h1]; rfl) rfl)) ?_
    refine rg_put (d := 4) (v := .d (.fl (.bool false))) rfl (og rfl (op_assign rfl rfl rfl)) ?_
    refine rg_done rfl ?_
    refine a_ret ?_
    show ∃ ds, ResL _ _ _ ds ∧ RV.of ds = _
    refine ⟨[.fl (.bool false)], (.cons (.tmp rfl (.d _)) .nil), ?_⟩
    rw [opn_isT]
    simp only [h1, Bool.true_or, Bool.false_or, Bool.or_true, Bool.or_false, Bool.not_true, Bool.not_false, cond_true, cond_false, Bool.true_and, Bool.false_and, Bool.and_true, Bool.and_false] <;> rfl
  · skip
    refine rg_put (d := 8) (v := .pt 101 1) rfl (oy rfl rfl rfl h1 (of_eff (s_field_pt rfl Try.underlying25 rfl ti22 rfl rfl rfl) rfl)) ?_
    refine rg_put (d := 9) (v := .d (.sl 3 (List.map eWd z.hours))) rfl (oy rfl rfl rfl h1 (op_load_pt rfl Try.underlying22 rfl rfl rfl rfl rfl)) ?_
    refine rg_put (d := 10) (v := .d (.fl (.int .i64 t))) rfl (oy rfl rfl rfl h1 (op_move rfl rfl rfl)) ?_
    refine rg_put (d := 11) (v := .d (.fl (.bool (inH z.hours t)))) rfl (oy rfl rfl rfl h1 (op_call rfl Try.func28 nm28 rfl (.cons rfl (.d _) (.cons rfl (.d _) .nil)) (inH28 z.hours t (by omega) (by have := isT_t h1; omega)) rfl)) ?_
    refine rg_put (d := 12) (v := .d (.fl (.bool (inH z.hours t)))) rfl (og rfl (op_pick rfl rfl (by rw [h1]; rfl) rfl)) ?_
    refine rg_put (d := 4) (v := .d (.fl (.bool (inH z.hours t)))) rfl (og rfl (op_assign rfl rfl rfl)) ?_
    refine rg_done rfl ?_
    refine a_ret ?_
    show ∃ ds, ResL _ _ _ ds ∧ RV.of ds = _
    refine ⟨[.fl (.bool (inH z.hours t))], (.cons (.tmp rfl (.d _)) .nil), ?_⟩
    rw [opn_isT]
    simp only [h1, Bool.true_or, Bool.false_or, Bool.or_true, Bool.or_false, Bool.not_true, Bool.not_false, cond_true, cond_false, Bool.true_and, Bool.false_and, Bool.and_true, Bool.and_false] <;> rfl
set_option maxHeartbeats 4000000 in
set_option maxRecDepth 100000 in
theorem nextR11 (z : Zn) (t : Int) (hl : z.hours.length ≤ 60) : Ctr Try.prog 11 [.ag (eZn z), .fl (.int .i64 t)] (.tu [.fl (.int .i64 (nxv z t).1), .fl (.bool (nxv z t).2)]) := by
  refine ctr (n := 28) (rs := #[.tmp 4, .tmp 5]) (L := [(0, .d (.ag (eZn z))), (1, .d (.fl (.int .i64 t)))]) Try.func11 rfl rfl rfl rfl rfl (fun w0 U0 => ?_)
  refine a_rseq ?_
  refine rg_nam (d := 2) (v := .pt 101 0) (m := 101) (nw := [(101, .bx 25 (eZn z))]) rfl (og rfl (of_eff (op_box 101 rfl rfl rfl rfl) rfl)) rfl ?_
  refine rg_put (d := 4) (v := .d (.fl (.int .i64 0))) rfl (og rfl (op_assign rfl rfl rfl)) ?_
  refine rg_put (d := 5) (v := .d (.fl (.bool false))) rfl (og rfl (op_assign rfl rfl rfl)) ?_
  refine rg_done rfl ?_
  refine a_seq ?_
  refine a_rseq ?_
  refine rg_put (d := 8) (v := .d (.fl (.int .i64 t))) rfl (og rfl (op_move rfl rfl rfl)) ?_
  refine rg_put (d := 9) (v := .d (.fl (.bool (isT t)))) rfl (og rfl (op_call rfl Try.func26 nm26 rfl (.cons rfl (.d _) .nil) (isT26 t) rfl)) ?_
  refine rg_put (d := 10) (v := .d (.fl (.bool ((!(isT t)))))) rfl (og rfl (op_un rfl rfl (u_not _) rfl)) ?_
  refine rg_done rfl ?_
  refine a_cond rfl (fun h1 => ?_) (fun h1 => ?_)
  · skip
    have h2 := t_not h1
    refine a_rseq ?_
    refine rg_put (d := 4) (v := .d (.fl (.int .i64 0))) rfl (og rfl (op_assign rfl rfl rfl)) ?_
    refine rg_put (d := 5) (v := .d (.fl (.bool false))) rfl (og rfl (op_assign rfl rfl rfl)) ?_
    refine rg_done rfl ?_
    refine a_ret ?_
    show ∃ ds, ResL _ _ _ ds ∧ RV.of ds = _
    refine ⟨[.fl (.int .i64 0), .fl (.bool false)], (.cons (.tmp rfl (.d _)) (.cons (.tmp rfl (.d _)) .nil)), ?_⟩
    have hno : ¬ (0 ≤ t ∧ t < 68719476736) := fun h => by rw [isT_of h] at h2; cases h2
    unfold nxv; rw [if_pos (by omega)]; rfl
  · skip
    have h3 := f_not h1
    refine a_skip ?_
    show A _ _ _ _ _ _ _
    refine a_rseq ?_
    have htt := isT_t h3
    refine rg_put (d := 11) (v := .d (.fl (.int .i64 t))) rfl (og rfl (op_move rfl rfl rfl)) ?_
    refine rg_put (d := 12) (v := .d (.fl (.int .i64 (t + 691200)))) rfl (og rfl (op_bin rfl rfl rfl (fun x y w => b_add64 _ _ _ x y w (by first | omega | (have hel := enf_len (z := z) hl ⟨t, (t + 691200)⟩; have hel2 := enf_len (z := z) hl ⟨t, 68719476736⟩; omega))) rfl)) ?_
    refine rg_put (d := 6) (v := .d (.fl (.int .i64 (t + 691200)))) rfl (og rfl (op_assign rfl rfl rfl)) ?_
    refine rg_done rfl ?_
    refine a_seq ?_
    refine a_rseq ?_
    refine rg_put (d := 13) (v := .d (.fl (.int .i64 (t + 691200)))) rfl (og rfl (op_move rfl rfl rfl)) ?_
    refine rg_put (d := 14) (v := .d (.fl (.bool ((decide (68719476736 < (t + 691200))))))) rfl (og rfl (op_bin rfl rfl rfl (b_gtr _ _ _ _) rfl)) ?_
    refine rg_done rfl ?_
    refine a_cond rfl (fun h4 => ?_) (fun h4 => ?_)
    · skip
      have h5 := t_dec h4
      refine a_region ?_
      refine rg_put (d := 6) (v := .d (.fl (.int .i64 68719476736))) rfl (og rfl (op_assign rfl rfl rfl)) ?_
      refine rg_done rfl ?_
      show A _ _ _ _ _ _ _
      refine a_rseq ?_
      have hnr := nxt_ref (z := z) h3 (to := 68719476736) (by omega)
      have he := hnr.1
      refine rg_put (d := 15) (v := .pt 101 1) rfl (og rfl (of_eff (s_field_pt rfl Try.underlying25 rfl ti22 rfl rfl rfl) rfl)) ?_
      refine rg_put (d := 16) (v := .d (.sl 3 (List.map eWd z.hours))) rfl (og rfl (op_load_pt rfl Try.underlying22 rfl rfl rfl rfl rfl)) ?_
      refine rg_put (d := 17) (v := .d (.fl (.int .i64 t))) rfl (og rfl (op_move rfl rfl rfl)) ?_
      refine rg_put (d := 18) (v := .d (.fl (.int .i64 68719476736))) rfl (og rfl (op_move rfl rfl rfl)) ?_
      refine rg_put (d := 19) (v := .d (.ag (eIv (Ivl.mk t 68719476736)))) rfl (og rfl (of_eff (op_build rfl Try.underlying32 ti32 rfl (by kernel_rfl) (by kernel_rfl) (pl := #[(0, 1), (1, 1)]) (by kernel_rfl) (.cons rfl rfl (.d _) rfl rfl rfl (.cons rfl rfl (.d _) rfl rfl rfl .nil)) rfl) rfl)) ?_
      refine rg_put (d := 20) (v := .d (.sl 2 (List.map eIv ((enf z (Ivl.mk t 68719476736)))))) rfl (og rfl (op_call rfl Try.func27 nm27 rfl (.cons rfl (.d _) (.cons rfl (.d _) .nil)) (within27 z.hours (Ivl.mk t 68719476736) (enf z (Ivl.mk t 68719476736)) (by omega) ⟨(spE_0 he).1, (spE_0 he).2.1, (spE_0 he).2.2.1⟩ (by first | exact hd he | (dsimp only; omega)) (enf_ok he).1 (enf_R he)) rfl)) ?_
      refine rg_put (d := 7) (v := .d (.sl 2 (List.map eIv ((enf z (Ivl.mk t 68719476736)))))) rfl (og rfl (op_assign rfl rfl rfl)) ?_
      refine rg_done rfl ?_
      refine a_seq ?_
      refine a_rseq ?_
      refine rg_put (d := 21) (v := .d (.sl 2 (List.map eIv ((enf z (Ivl.mk t 68719476736)))))) rfl (og rfl (op_move rfl rfl rfl)) ?_
      refine rg_put (d := 22) (v := .d (.fl (.int .i64 ((((enf z (Ivl.mk t 68719476736))).length : Int))))) rfl (og rfl (s_len rfl Try.underlying34 rfl rfl)) ?_
      refine rg_put (d := 23) (v := .d (.fl (.bool (((((enf z (Ivl.mk t 68719476736))).length : Int) == 0))))) rfl (og rfl (op_bin rfl rfl rfl (b_eql _ _ _ _) rfl)) ?_
      refine rg_done rfl ?_
      refine a_cond rfl (fun h6 => ?_) (fun h6 => ?_)
      · skip
        have h7 := t_beq h6
        refine a_rseq ?_
        refine rg_put (d := 4) (v := .d (.fl (.int .i64 0))) rfl (og rfl (op_assign rfl rfl rfl)) ?_
        refine rg_put (d := 5) (v := .d (.fl (.bool false))) rfl (og rfl (op_assign rfl rfl rfl)) ?_
        refine rg_done rfl ?_
        refine a_ret ?_
        show ∃ ds, ResL _ _ _ ds ∧ RV.of ds = _
        refine ⟨[.fl (.int .i64 0), .fl (.bool false)], (.cons (.tmp rfl (.d _)) (.cons (.tmp rfl (.d _)) .nil)), ?_⟩
        have hen := hnr.2
        rw [if_pos (by omega)] at hen
        rw [hen]; rfl
      · skip
        have h8 := f_beq h6
        refine a_skip ?_
        show A _ _ _ _ _ _ _
        refine a_rseq ?_
        refine rg_put (d := 24) (v := .d (.sl 2 (List.map eIv ((enf z (Ivl.mk t 68719476736)))))) rfl (og rfl (op_move rfl rfl rfl)) ?_
        refine rg_put (d := 25) (v := .el ((eIv ((ix ((enf z (Ivl.mk t 68719476736))) 0))))) rfl (og rfl (s_index rfl Try.underlying34 ti32 rfl rfl (by first | omega | (have hel := enf_len (z := z) hl ⟨t, (t + 691200)⟩; have hel2 := enf_len (z := z) hl ⟨t, 68719476736⟩; omega)) (row_at (by first | omega | (have hel := enf_len (z := z) hl ⟨t, (t + 691200)⟩; have hel2 := enf_len (z := z) hl ⟨t, 68719476736⟩; omega))) rfl)) ?_
        refine rg_put (d := 26) (v := .el ((List.drop 0 ((eIv ((ix ((enf z (Ivl.mk t 68719476736))) 0))))))) rfl (og rfl (of_eff (s_field_el rfl Try.underlying32 rfl ti3 rfl rfl rfl) rfl)) ?_
        refine rg_put (d := 27) (v := .d (.fl (.int .i64 (((ix ((enf z (Ivl.mk t 68719476736))) 0)).fr)))) rfl (og rfl (op_load_el rfl Try.underlying3 rfl rfl rfl rfl)) ?_
        refine rg_put (d := 4) (v := .d (.fl (.int .i64 (((ix ((enf z (Ivl.mk t 68719476736))) 0)).fr)))) rfl (og rfl (op_assign rfl rfl rfl)) ?_
        refine rg_put (d := 5) (v := .d (.fl (.bool true))) rfl (og rfl (op_assign rfl rfl rfl)) ?_
        refine rg_done rfl ?_
        refine a_ret ?_
        show ∃ ds, ResL _ _ _ ds ∧ RV.of ds = _
        refine ⟨[.fl (.int .i64 (((ix ((enf z (Ivl.mk t 68719476736))) 0)).fr)), .fl (.bool true)], (.cons (.tmp rfl (.d _)) (.cons (.tmp rfl (.d _)) .nil)), ?_⟩
        have hen := hnr.2
        rw [if_neg (by omega)] at hen
        rw [hen]; rfl
    · skip
      have h9 := f_dec h4
      refine a_skip ?_
      show A _ _ _ _ _ _ _
      refine a_rseq ?_
      have hnr := nxt_ref (z := z) h3 (to := (t + 691200)) (by omega)
      have he := hnr.1
      refine rg_put (d := 15) (v := .pt 101 1) rfl (og rfl (of_eff (s_field_pt rfl Try.underlying25 rfl ti22 rfl rfl rfl) rfl)) ?_
      refine rg_put (d := 16) (v := .d (.sl 3 (List.map eWd z.hours))) rfl (og rfl (op_load_pt rfl Try.underlying22 rfl rfl rfl rfl rfl)) ?_
      refine rg_put (d := 17) (v := .d (.fl (.int .i64 t))) rfl (og rfl (op_move rfl rfl rfl)) ?_
      refine rg_put (d := 18) (v := .d (.fl (.int .i64 (t + 691200)))) rfl (og rfl (op_move rfl rfl rfl)) ?_
      refine rg_put (d := 19) (v := .d (.ag (eIv ((Ivl.mk t (t + 691200)))))) rfl (og rfl (of_eff (op_build rfl Try.underlying32 ti32 rfl (by kernel_rfl) (by kernel_rfl) (pl := #[(0, 1), (1, 1)]) (by kernel_rfl) (.cons rfl rfl (.d _) rfl rfl rfl (.cons rfl rfl (.d _) rfl rfl rfl .nil)) rfl) rfl)) ?_
      refine rg_put (d := 20) (v := .d (.sl 2 (List.map eIv ((enf z ((Ivl.mk t (t + 691200)))))))) rfl (og rfl (op_call rfl Try.func27 nm27 rfl (.cons rfl (.d _) (.cons rfl (.d _) .nil)) (within27 z.hours ((Ivl.mk t (t + 691200))) (enf z ((Ivl.mk t (t + 691200)))) (by omega) ⟨(spE_0 he).1, (spE_0 he).2.1, (spE_0 he).2.2.1⟩ (by first | exact hd he | (dsimp only; omega)) (enf_ok he).1 (enf_R he)) rfl)) ?_
      refine rg_put (d := 7) (v := .d (.sl 2 (List.map eIv ((enf z ((Ivl.mk t (t + 691200)))))))) rfl (og rfl (op_assign rfl rfl rfl)) ?_
      refine rg_done rfl ?_
      refine a_seq ?_
      refine a_rseq ?_
      refine rg_put (d := 21) (v := .d (.sl 2 (List.map eIv ((enf z ((Ivl.mk t (t + 691200)))))))) rfl (og rfl (op_move rfl rfl rfl)) ?_
      refine rg_put (d := 22) (v := .d (.fl (.int .i64 ((((enf z ((Ivl.mk t (t + 691200))))).length : Int))))) rfl (og rfl (s_len rfl Try.underlying34 rfl rfl)) ?_
      refine rg_put (d := 23) (v := .d (.fl (.bool (((((enf z ((Ivl.mk t (t + 691200))))).length : Int) == 0))))) rfl (og rfl (op_bin rfl rfl rfl (b_eql _ _ _ _) rfl)) ?_
      refine rg_done rfl ?_
      refine a_cond rfl (fun h10 => ?_) (fun h10 => ?_)
      · skip
        have h11 := t_beq h10
        refine a_rseq ?_
        refine rg_put (d := 4) (v := .d (.fl (.int .i64 0))) rfl (og rfl (op_assign rfl rfl rfl)) ?_
        refine rg_put (d := 5) (v := .d (.fl (.bool false))) rfl (og rfl (op_assign rfl rfl rfl)) ?_
        refine rg_done rfl ?_
        refine a_ret ?_
        show ∃ ds, ResL _ _ _ ds ∧ RV.of ds = _
        refine ⟨[.fl (.int .i64 0), .fl (.bool false)], (.cons (.tmp rfl (.d _)) (.cons (.tmp rfl (.d _)) .nil)), ?_⟩
        have hen := hnr.2
        rw [if_pos (by omega)] at hen
        rw [hen]; rfl
      · skip
        have h12 := f_beq h10
        refine a_skip ?_
        show A _ _ _ _ _ _ _
        refine a_rseq ?_
        refine rg_put (d := 24) (v := .d (.sl 2 (List.map eIv ((enf z ((Ivl.mk t (t + 691200)))))))) rfl (og rfl (op_move rfl rfl rfl)) ?_
        refine rg_put (d := 25) (v := .el ((eIv ((ix ((enf z ((Ivl.mk t (t + 691200))))) 0))))) rfl (og rfl (s_index rfl Try.underlying34 ti32 rfl rfl (by first | omega | (have hel := enf_len (z := z) hl ⟨t, (t + 691200)⟩; have hel2 := enf_len (z := z) hl ⟨t, 68719476736⟩; omega)) (row_at (by first | omega | (have hel := enf_len (z := z) hl ⟨t, (t + 691200)⟩; have hel2 := enf_len (z := z) hl ⟨t, 68719476736⟩; omega))) rfl)) ?_
        refine rg_put (d := 26) (v := .el ((List.drop 0 ((eIv ((ix ((enf z ((Ivl.mk t (t + 691200))))) 0))))))) rfl (og rfl (of_eff (s_field_el rfl Try.underlying32 rfl ti3 rfl rfl rfl) rfl)) ?_
        refine rg_put (d := 27) (v := .d (.fl (.int .i64 (((ix ((enf z ((Ivl.mk t (t + 691200))))) 0)).fr)))) rfl (og rfl (op_load_el rfl Try.underlying3 rfl rfl rfl rfl)) ?_
        refine rg_put (d := 4) (v := .d (.fl (.int .i64 (((ix ((enf z ((Ivl.mk t (t + 691200))))) 0)).fr)))) rfl (og rfl (op_assign rfl rfl rfl)) ?_
        refine rg_put (d := 5) (v := .d (.fl (.bool true))) rfl (og rfl (op_assign rfl rfl rfl)) ?_
        refine rg_done rfl ?_
        refine a_ret ?_
        show ∃ ds, ResL _ _ _ ds ∧ RV.of ds = _
        refine ⟨[.fl (.int .i64 (((ix ((enf z ((Ivl.mk t (t + 691200))))) 0)).fr)), .fl (.bool true)], (.cons (.tmp rfl (.d _)) (.cons (.tmp rfl (.d _)) .nil)), ?_⟩
        have hen := hnr.2
        rw [if_neg (by omega)] at hen
        rw [hen]; rfl
set_option maxHeartbeats 4000000 in
set_option maxRecDepth 100000 in
theorem same17 (l : List Ivl) (hl : l.length ≤ 1000000) : Ctr Try.prog 17 [.sl 2 (List.map eIv l), .sl 2 (List.map eIv l)] (.d (.fl (.bool (true)))) := by
  refine ctr (n := 26) (rs := #[.tmp 4]) (L := [(0, .d (.sl 2 (List.map eIv l))), (1, .d (.sl 2 (List.map eIv l)))]) Try.func17 rfl rfl rfl rfl rfl (fun w0 U0 => ?_)
  refine a_rseq ?_
  refine rg_put (d := 4) (v := .d (.fl (.bool false))) rfl (og rfl (op_assign rfl rfl rfl)) ?_
  refine rg_done rfl ?_
  refine a_seq ?_
  refine a_rseq ?_
  refine rg_put (d := 6) (v := .d (.sl 2 (List.map eIv l))) rfl (og rfl (op_move rfl rfl rfl)) ?_
  refine rg_put (d := 7) (v := .d (.fl (.int .i64 (l.length : Int)))) rfl (og rfl (s_len rfl Try.underlying34 rfl rfl)) ?_
  refine rg_put (d := 8) (v := .d (.sl 2 (List.map eIv l))) rfl (og rfl (op_move rfl rfl rfl)) ?_
  refine rg_put (d := 9) (v := .d (.fl (.int .i64 (l.length : Int)))) rfl (og rfl (s_len rfl Try.underlying34 rfl rfl)) ?_
  refine rg_put (d := 10) (v := .d (.fl (.bool (((l.length : Int) != (l.length : Int)))))) rfl (og rfl (op_bin rfl rfl rfl (b_neq _ _ _ _) rfl)) ?_
  refine rg_done rfl ?_
  refine a_condF rfl (ne_self_b _) ?_
  refine a_skip ?_
  show A _ _ _ _ _ _ _
  refine a_seq ?_
  refine a_rseq ?_
  refine rg_put (d := 11) (v := .d (.sl 2 (List.map eIv l))) rfl (og rfl (op_move rfl rfl rfl)) ?_
  refine rg_put (d := 12) (v := .d (.fl (.int .i64 (l.length : Int)))) rfl (og rfl (s_len rfl Try.underlying34 rfl rfl)) ?_
  refine rg_put (d := 13) (v := .d (.fl (.int .i64 0))) rfl (og rfl (op_move rfl rfl rfl)) ?_
  refine rg_done rfl ?_
  refine a_block ?_
  refine a_loop (ι := Nat) (fun k => SS [(0, .d (.sl 2 (List.map eIv l))), (1, .d (.sl 2 (List.map eIv l))), (10, .d (.fl (.bool (((l.length : Int) != (l.length : Int)))))), (12, .d (.fl (.int .i64 (l.length : Int)))), (13, .d (.fl (.int .i64 (k : Int))))] []) (fun k => k ≤ l.length) (fun k => l.length - k) 0 (by omega) (imp_forget rfl ⟨rfl, rfl, rfl, rfl, rfl, trivial⟩ trivial) (fun k hok => ?_)
  have hk := hok
  refine a_rseq ?_
  refine rg_put (d := 14) (v := .d (.fl (.bool ((decide ((k : Int) < (l.length : Int))))))) rfl (og rfl (op_bin rfl rfl rfl (b_lss _ _ _ _) rfl)) ?_
  refine rg_done rfl ?_
  refine a_seq ?_
  refine a_cond rfl (fun h1 => ?_) (fun h1 => ?_)
  · skip
    have h2 := t_dec h1
    refine a_skip ?_
    show A _ _ _ _ _ _ _
    refine a_seq ?_
    refine a_block ?_
    refine a_rseq ?_
    refine rg_put (d := 15) (v := .d (.fl (.int .i64 (k : Int)))) rfl (og rfl (op_move rfl rfl rfl)) ?_
    refine rg_put (d := 5) (v := .d (.fl (.int .i64 (k : Int)))) rfl (og rfl (op_assign rfl rfl rfl)) ?_
    refine rg_done rfl ?_
    refine a_dseq (by kernel_rfl) ?_
    refine dr_put (d := 16) (v := .d (.sl 2 (List.map eIv l))) rfl (og rfl (op_move rfl rfl rfl)) ?_
    refine dr_put (d := 17) (v := .d (.fl (.int .i64 (k : Int)))) rfl (og rfl (op_move rfl rfl rfl)) ?_
    refine dr_put (d := 18) (v := .el ((eIv (ix l k)))) rfl (og rfl (s_index rfl Try.underlying34 ti32 rfl rfl (by omega) (row_at (by omega)) rfl)) ?_
    refine dr_put (d := 19) (v := .d (.ag (eIv (ix l k)))) rfl (og rfl (of_eff (s_load_els rfl Try.underlying32 rfl ti32 rfl rfl rfl) rfl)) ?_
    refine dr_put (d := 20) (v := .d (.sl 2 (List.map eIv l))) rfl (og rfl (op_move rfl rfl rfl)) ?_
    refine dr_put (d := 21) (v := .d (.fl (.int .i64 (k : Int)))) rfl (og rfl (op_move rfl rfl rfl)) ?_
    refine dr_put (d := 22) (v := .el ((eIv (ix l k)))) rfl (og rfl (s_index rfl Try.underlying34 ti32 rfl rfl (by omega) (row_at (by omega)) rfl)) ?_
    refine dr_put (d := 23) (v := .d (.ag (eIv (ix l k)))) rfl (og rfl (of_eff (s_load_els rfl Try.underlying32 rfl ti32 rfl rfl rfl) rfl)) ?_
    refine dr_put (d := 24) (v := .d (.fl (.bool false))) rfl (og rfl (op_eqS [.int .i64 ((ix l k).fr), .int .i64 ((ix l k).to)] [.int .i64 ((ix l k).fr), .int .i64 ((ix l k).to)] rfl rfl rfl (b := false) (fun ww => neq32 (ix l k) _ _ ww) rfl)) ?_
    refine dr_done rfl (by kernel_rfl) (by kernel_rfl) ?_
    refine a_condF rfl rfl ?_
    refine a_skip ?_
    show A _ _ _ _ _ _ _
    refine a_region ?_
    refine rg_put (d := 25) (v := .d (.fl (.int .i64 (((k : Int) + 1))))) rfl (og rfl (op_bin rfl rfl rfl (fun x y w => b_add64 _ _ _ x y w (by omega)) rfl)) ?_
    refine rg_put (d := 13) (v := .d (.fl (.int .i64 (((k : Int) + 1))))) rfl (og rfl (op_move rfl rfl rfl)) ?_
    refine rg_done rfl ?_
    show ∃ i, _ ∧ _ ∧ Imp _ _ _ _ _
    refine ⟨k + 1, (by omega), by omega, imp_forget rfl ⟨rfl, rfl, rfl, rfl, (ci (by omega)), trivial⟩ trivial⟩
  · skip
    have h3 := f_dec h1
    refine a_exit ?_
    show A _ _ _ _ _ _ _
    refine a_rseq ?_
    refine rg_put (d := 4) (v := .d (.fl (.bool true))) rfl (og rfl (op_assign rfl rfl rfl)) ?_
    refine rg_done rfl ?_
    refine a_ret ?_
    show ∃ ds, ResL _ _ _ ds ∧ RV.of ds = _
    refine ⟨[.fl (.bool true)], (.cons (.tmp rfl (.d _)) .nil), ?_⟩
    rfl
set_option maxHeartbeats 4000000 in
set_option maxRecDepth 100000 in
theorem law4 (z : Zn) (i : Ivl) : Ctr Try.prog 4 [.ag (eZn z), .ag (eIv i)] (.d (.fl (.bool (true)))) := by
  refine ctr (n := 55) (rs := #[.tmp 4]) (L := [(0, .d (.ag (eZn z))), (1, .d (.ag (eIv i)))]) Try.func4 rfl rfl rfl rfl rfl (fun w0 U0 => ?_)
  refine a_rseq ?_
  refine rg_nam (d := 2) (v := .pt 101 0) (m := 101) (nw := [(101, .bx 25 (eZn z))]) rfl (og rfl (of_eff (op_box 101 rfl rfl rfl rfl) rfl)) rfl ?_
  refine rg_nam (d := 3) (v := .pt 102 0) (m := 102) (nw := [(102, .bx 32 (eIv i))]) rfl (og rfl (of_eff (op_box 102 rfl rfl rfl rfl) rfl)) rfl ?_
  refine rg_put (d := 4) (v := .d (.fl (.bool false))) rfl (og rfl (op_assign rfl rfl rfl)) ?_
  refine rg_done rfl ?_
  refine a_seq ?_
  refine a_rseq ?_
  refine rg_put (d := 9) (v := .d (.ag (eZn z))) rfl (og rfl (of_eff (s_load_pts rfl Try.underlying25 rfl ti25 rfl rfl rfl rfl) rfl)) ?_
  refine rg_put (d := 10) (v := .d (.fl (.bool (grt z)))) rfl (og rfl (op_call rfl Try.func8 nm8 rfl (.cons rfl (.d _) .nil) (grt6 z) rfl)) ?_
  refine rg_put (d := 11) (v := .d (.fl (.bool (grt z)))) rfl (og rfl (op_move rfl rfl rfl)) ?_
  rcases fot (grt z) with h1 | h1
  · skip
    refine rg_put (d := 12) (v := .d (.ag (eIv i))) rfl (oy rfl rfl rfl h1 (of_eff (s_load_pts rfl Try.underlying32 rfl ti32 rfl rfl rfl rfl) rfl)) ?_
    refine rg_put (d := 13) (v := .d (.fl (.bool (okI i)))) rfl (oy rfl rfl rfl h1 (op_call rfl Try.func14 nm14 rfl (.cons rfl (.d _) .nil) (okI14 i) rfl)) ?_
    refine rg_put (d := 14) (v := .d (.fl (.bool (okI i)))) rfl (oy rfl rfl rfl h1 (op_move rfl rfl rfl)) ?_
    rcases fot (okI i) with h2 | h2
    · skip
      refine rg_put (d := 15) (v := .d (.fl undef)) rfl (on rfl rfl rfl h2) ?_
      refine rg_put (d := 16) (v := .d (.fl undef)) rfl (on rfl rfl rfl h2) ?_
      refine rg_put (d := 17) (v := .d (.fl undef)) rfl (on rfl rfl rfl h2) ?_
      refine rg_put (d := 18) (v := .d (.fl undef)) rfl (on rfl rfl rfl h2) ?_
      refine rg_put (d := 19) (v := .d (.fl undef)) rfl (on rfl rfl rfl h2) ?_
      refine rg_put (d := 20) (v := .d (.fl undef)) rfl (on rfl rfl rfl h2) ?_
      refine rg_put (d := 21) (v := .d (.fl (.bool false))) rfl (oy rfl rfl rfl h1 (op_pick rfl rfl (by rw [h2]; rfl) rfl)) ?_
      refine rg_put (d := 22) (v := .d (.fl (.bool false))) rfl (oy rfl rfl rfl h1 (op_move rfl rfl rfl)) ?_
      refine rg_put (d := 23) (v := .d (.fl undef)) rfl (on rfl rfl rfl rfl) ?_
      refine rg_put (d := 24) (v := .d (.fl undef)) rfl (on rfl rfl rfl rfl) ?_
      refine rg_put (d := 25) (v := .d (.fl undef)) rfl (on rfl rfl rfl rfl) ?_
      refine rg_put (d := 26) (v := .d (.fl undef)) rfl (on rfl rfl rfl rfl) ?_
      refine rg_put (d := 27) (v := .d (.fl undef)) rfl (on rfl rfl rfl rfl) ?_
      refine rg_put (d := 28) (v := .d (.fl undef)) rfl (on rfl rfl rfl rfl) ?_
      refine rg_put (d := 29) (v := .d (.fl (.bool false))) rfl (oy rfl rfl rfl h1 (op_pick rfl rfl rfl rfl)) ?_
      refine rg_put (d := 30) (v := .d (.fl (.bool false))) rfl (og rfl (op_pick rfl rfl (by rw [h1]; rfl) rfl)) ?_
      refine rg_done rfl ?_
      refine a_condF rfl rfl ?_
      refine a_skip ?_
      show A _ _ _ _ _ _ _
      refine a_rseq ?_
      have hd : spE i = 0 → i.to - i.fr ≤ 1728000 := fun he => by have h5 := spE_0 he; rw [okI_p.2 ⟨h5.1, h5.2.1, h5.2.2.1⟩] at h2; cases h2
      refine rg_put (d := 33) (v := .d (.ag (eZn z))) rfl (og rfl (of_eff (s_load_pts rfl Try.underlying25 rfl ti25 rfl rfl rfl rfl) rfl)) ?_
      refine rg_put (d := 34) (v := .d (.ag (eIv i))) rfl (og rfl (of_eff (s_load_pts rfl Try.underlying32 rfl ti32 rfl rfl rfl rfl) rfl)) ?_
      refine rg_put (d := 35) (v := .tu [.sl 2 (List.map eIv (enf z i)), .fl (.int .i64 (spE i))]) rfl (og rfl (op_call rfl Try.func15 nm15 rfl (.cons rfl (.d _) (.cons rfl (.d _) .nil)) (enf15 z i (grt_f h1).1) rfl)) ?_
      refine rg_put (d := 32) (v := .tu [.sl 2 (List.map eIv (enf z i)), .fl (.int .i64 (spE i))]) rfl (og rfl (op_move rfl rfl rfl)) ?_
      refine rg_put (d := 36) (v := .d (.sl 2 (List.map eIv (enf z i)))) rfl (og rfl (op_extract rfl rfl rfl rfl)) ?_
      refine rg_put (d := 37) (v := .d (.fl (.int .i64 (spE i)))) rfl (og rfl (op_extract rfl rfl rfl rfl)) ?_
      refine rg_put (d := 5) (v := .d (.sl 2 (List.map eIv (enf z i)))) rfl (og rfl (op_assign rfl rfl rfl)) ?_
      refine rg_put (d := 6) (v := .d (.fl (.int .i64 (spE i)))) rfl (og rfl (op_assign rfl rfl rfl)) ?_
      refine rg_done rfl ?_
      refine a_rseq ?_
      refine rg_put (d := 39) (v := .d (.ag (eZn z))) rfl (og rfl (of_eff (s_load_pts rfl Try.underlying25 rfl ti25 rfl rfl rfl rfl) rfl)) ?_
      refine rg_put (d := 40) (v := .d (.ag (eIv i))) rfl (og rfl (of_eff (s_load_pts rfl Try.underlying32 rfl ti32 rfl rfl rfl rfl) rfl)) ?_
      refine rg_put (d := 41) (v := .tu [.sl 2 (List.map eIv (enf z i)), .fl (.int .i64 (spE i))]) rfl (og rfl (op_call rfl Try.func16 nm16 rfl (.cons rfl (.d _) (.cons rfl (.d _) .nil)) (enfR16 z i (grt_f h1).1 hd) rfl)) ?_
      refine rg_put (d := 38) (v := .tu [.sl 2 (List.map eIv (enf z i)), .fl (.int .i64 (spE i))]) rfl (og rfl (op_move rfl rfl rfl)) ?_
      refine rg_put (d := 42) (v := .d (.sl 2 (List.map eIv (enf z i)))) rfl (og rfl (op_extract rfl rfl rfl rfl)) ?_
      refine rg_put (d := 43) (v := .d (.fl (.int .i64 (spE i)))) rfl (og rfl (op_extract rfl rfl rfl rfl)) ?_
      refine rg_put (d := 7) (v := .d (.sl 2 (List.map eIv (enf z i)))) rfl (og rfl (op_assign rfl rfl rfl)) ?_
      refine rg_put (d := 8) (v := .d (.fl (.int .i64 (spE i)))) rfl (og rfl (op_assign rfl rfl rfl)) ?_
      refine rg_done rfl ?_
      refine a_rseq ?_
      refine rg_put (d := 44) (v := .d (.sl 2 (List.map eIv (enf z i)))) rfl (og rfl (op_move rfl rfl rfl)) ?_
      refine rg_put (d := 45) (v := .d (.sl 2 (List.map eIv (enf z i)))) rfl (og rfl (op_move rfl rfl rfl)) ?_
      refine rg_put (d := 46) (v := .d (.fl (.bool true))) rfl (og rfl (op_call rfl Try.func17 nm17 rfl (.cons rfl (.d _) (.cons rfl (.d _) .nil)) (same17 (enf z i) (Nat.le_trans (enf_len (grt_f h1).1 _) (by omega))) rfl)) ?_
      refine rg_put (d := 47) (v := .d (.fl (.bool true))) rfl (og rfl (op_move rfl rfl rfl)) ?_
      refine rg_put (d := 48) (v := .d (.fl (.int .i64 (spE i)))) rfl (oy rfl rfl rfl rfl (op_move rfl rfl rfl)) ?_
      refine rg_put (d := 49) (v := .d (.fl (.int .i64 (spE i)))) rfl (oy rfl rfl rfl rfl (op_move rfl rfl rfl)) ?_
      refine rg_put (d := 50) (v := .d (.fl (.bool (((spE i) == (spE i)))))) rfl (oy rfl rfl rfl rfl (op_bin rfl rfl rfl (b_eql _ _ _ _) rfl)) ?_
      refine rg_put (d := 51) (v := .d (.fl (.bool (((spE i) == (spE i)))))) rfl (og rfl (op_pick rfl rfl rfl rfl)) ?_
      refine rg_put (d := 52) (v := .d (.fl (.bool (((spE i) == (spE i)))))) rfl (og rfl (op_move rfl rfl rfl)) ?_
      refine rg_put (d := 53) (v := .d (.fl (.bool true))) rfl (oy rfl rfl rfl (eq_self_b _) (op_call rfl Try.func9 nm9 rfl .nil alive9 rfl)) ?_
      refine rg_put (d := 54) (v := .d (.fl (.bool true))) rfl (og rfl (op_pick rfl rfl (by rw [(eq_self_b _)]; rfl) rfl)) ?_
      refine rg_put (d := 4) (v := .d (.fl (.bool true))) rfl (og rfl (op_assign rfl rfl rfl)) ?_
      refine rg_done rfl ?_
      refine a_ret ?_
      show ∃ ds, ResL _ _ _ ds ∧ RV.of ds = _
      refine ⟨[.fl (.bool true)], (.cons (.tmp rfl (.d _)) .nil), ?_⟩
      rfl
    · skip
      have hok5 := okI_p.1 h2
      refine rg_put (d := 15) (v := .pt 102 1) rfl (oy rfl rfl rfl h2 (of_eff (s_field_pt rfl Try.underlying32 rfl ti3 rfl rfl rfl) rfl)) ?_
      refine rg_put (d := 16) (v := .d (.fl (.int .i64 i.to))) rfl (oy rfl rfl rfl h2 (op_load_pt rfl Try.underlying3 rfl rfl rfl rfl rfl)) ?_
      refine rg_put (d := 17) (v := .pt 102 0) rfl (oy rfl rfl rfl h2 (of_eff (s_field_pt rfl Try.underlying32 rfl ti3 rfl rfl rfl) rfl)) ?_
      refine rg_put (d := 18) (v := .d (.fl (.int .i64 i.fr))) rfl (oy rfl rfl rfl h2 (op_load_pt rfl Try.underlying3 rfl rfl rfl rfl rfl)) ?_
      refine rg_put (d := 19) (v := .d (.fl (.int .i64 (i.to - i.fr)))) rfl (oy rfl rfl rfl h2 (op_bin rfl rfl rfl (fun x y w => b_sub64 _ _ _ x y w (by first | omega | (have h5 := okI_p.1 (by assumption); omega))) rfl)) ?_
      refine rg_put (d := 20) (v := .d (.fl (.bool ((decide (1728000 < (i.to - i.fr))))))) rfl (oy rfl rfl rfl h2 (op_bin rfl rfl rfl (b_gtr _ _ _ _) rfl)) ?_
      refine rg_put (d := 21) (v := .d (.fl (.bool ((decide (1728000 < (i.to - i.fr))))))) rfl (oy rfl rfl rfl h1 (op_pick rfl rfl (by rw [h2]; rfl) rfl)) ?_
      refine rg_put (d := 22) (v := .d (.fl (.bool ((decide (1728000 < (i.to - i.fr))))))) rfl (oy rfl rfl rfl h1 (op_move rfl rfl rfl)) ?_
      rcases fot ((decide (1728000 < (i.to - i.fr)))) with h3 | h3
      · skip
        have h4 := f_dec h3
        refine rg_put (d := 23) (v := .d (.fl undef)) rfl (on rfl rfl rfl h3) ?_
        refine rg_put (d := 24) (v := .d (.fl undef)) rfl (on rfl rfl rfl h3) ?_
        refine rg_put (d := 25) (v := .d (.fl undef)) rfl (on rfl rfl rfl h3) ?_
        refine rg_put (d := 26) (v := .d (.fl undef)) rfl (on rfl rfl rfl h3) ?_
        refine rg_put (d := 27) (v := .d (.fl undef)) rfl (on rfl rfl rfl h3) ?_
        refine rg_put (d := 28) (v := .d (.fl undef)) rfl (on rfl rfl rfl h3) ?_
        refine rg_put (d := 29) (v := .d (.fl (.bool false))) rfl (oy rfl rfl rfl h1 (op_pick rfl rfl (by rw [h3]; rfl) rfl)) ?_
        refine rg_put (d := 30) (v := .d (.fl (.bool false))) rfl (og rfl (op_pick rfl rfl (by rw [h1]; rfl) rfl)) ?_
        refine rg_done rfl ?_
        refine a_condF rfl rfl ?_
        refine a_skip ?_
        show A _ _ _ _ _ _ _
        refine a_rseq ?_
        have hd : spE i = 0 → i.to - i.fr ≤ 1728000 := fun he => by have h5 := spE_0 he; omega
        refine rg_put (d := 33) (v := .d (.ag (eZn z))) rfl (og rfl (of_eff (s_load_pts rfl Try.underlying25 rfl ti25 rfl rfl rfl rfl) rfl)) ?_
        refine rg_put (d := 34) (v := .d (.ag (eIv i))) rfl (og rfl (of_eff (s_load_pts rfl Try.underlying32 rfl ti32 rfl rfl rfl rfl) rfl)) ?_
        refine rg_put (d := 35) (v := .tu [.sl 2 (List.map eIv (enf z i)), .fl (.int .i64 (spE i))]) rfl (og rfl (op_call rfl Try.func15 nm15 rfl (.cons rfl (.d _) (.cons rfl (.d _) .nil)) (enf15 z i (grt_f h1).1) rfl)) ?_
        refine rg_put (d := 32) (v := .tu [.sl 2 (List.map eIv (enf z i)), .fl (.int .i64 (spE i))]) rfl (og rfl (op_move rfl rfl rfl)) ?_
        refine rg_put (d := 36) (v := .d (.sl 2 (List.map eIv (enf z i)))) rfl (og rfl (op_extract rfl rfl rfl rfl)) ?_
        refine rg_put (d := 37) (v := .d (.fl (.int .i64 (spE i)))) rfl (og rfl (op_extract rfl rfl rfl rfl)) ?_
        refine rg_put (d := 5) (v := .d (.sl 2 (List.map eIv (enf z i)))) rfl (og rfl (op_assign rfl rfl rfl)) ?_
        refine rg_put (d := 6) (v := .d (.fl (.int .i64 (spE i)))) rfl (og rfl (op_assign rfl rfl rfl)) ?_
        refine rg_done rfl ?_
        refine a_rseq ?_
        refine rg_put (d := 39) (v := .d (.ag (eZn z))) rfl (og rfl (of_eff (s_load_pts rfl Try.underlying25 rfl ti25 rfl rfl rfl rfl) rfl)) ?_
        refine rg_put (d := 40) (v := .d (.ag (eIv i))) rfl (og rfl (of_eff (s_load_pts rfl Try.underlying32 rfl ti32 rfl rfl rfl rfl) rfl)) ?_
        refine rg_put (d := 41) (v := .tu [.sl 2 (List.map eIv (enf z i)), .fl (.int .i64 (spE i))]) rfl (og rfl (op_call rfl Try.func16 nm16 rfl (.cons rfl (.d _) (.cons rfl (.d _) .nil)) (enfR16 z i (grt_f h1).1 hd) rfl)) ?_
        refine rg_put (d := 38) (v := .tu [.sl 2 (List.map eIv (enf z i)), .fl (.int .i64 (spE i))]) rfl (og rfl (op_move rfl rfl rfl)) ?_
        refine rg_put (d := 42) (v := .d (.sl 2 (List.map eIv (enf z i)))) rfl (og rfl (op_extract rfl rfl rfl rfl)) ?_
        refine rg_put (d := 43) (v := .d (.fl (.int .i64 (spE i)))) rfl (og rfl (op_extract rfl rfl rfl rfl)) ?_
        refine rg_put (d := 7) (v := .d (.sl 2 (List.map eIv (enf z i)))) rfl (og rfl (op_assign rfl rfl rfl)) ?_
        refine rg_put (d := 8) (v := .d (.fl (.int .i64 (spE i)))) rfl (og rfl (op_assign rfl rfl rfl)) ?_
        refine rg_done rfl ?_
        refine a_rseq ?_
        refine rg_put (d := 44) (v := .d (.sl 2 (List.map eIv (enf z i)))) rfl (og rfl (op_move rfl rfl rfl)) ?_
        refine rg_put (d := 45) (v := .d (.sl 2 (List.map eIv (enf z i)))) rfl (og rfl (op_move rfl rfl rfl)) ?_
        refine rg_put (d := 46) (v := .d (.fl (.bool true))) rfl (og rfl (op_call rfl Try.func17 nm17 rfl (.cons rfl (.d _) (.cons rfl (.d _) .nil)) (same17 (enf z i) (Nat.le_trans (enf_len (grt_f h1).1 _) (by omega))) rfl)) ?_
        refine rg_put (d := 47) (v := .d (.fl (.bool true))) rfl (og rfl (op_move rfl rfl rfl)) ?_
        refine rg_put (d := 48) (v := .d (.fl (.int .i64 (spE i)))) rfl (oy rfl rfl rfl rfl (op_move rfl rfl rfl)) ?_
        refine rg_put (d := 49) (v := .d (.fl (.int .i64 (spE i)))) rfl (oy rfl rfl rfl rfl (op_move rfl rfl rfl)) ?_
        refine rg_put (d := 50) (v := .d (.fl (.bool (((spE i) == (spE i)))))) rfl (oy rfl rfl rfl rfl (op_bin rfl rfl rfl (b_eql _ _ _ _) rfl)) ?_
        refine rg_put (d := 51) (v := .d (.fl (.bool (((spE i) == (spE i)))))) rfl (og rfl (op_pick rfl rfl rfl rfl)) ?_
        refine rg_put (d := 52) (v := .d (.fl (.bool (((spE i) == (spE i)))))) rfl (og rfl (op_move rfl rfl rfl)) ?_
        refine rg_put (d := 53) (v := .d (.fl (.bool true))) rfl (oy rfl rfl rfl (eq_self_b _) (op_call rfl Try.func9 nm9 rfl .nil alive9 rfl)) ?_
        refine rg_put (d := 54) (v := .d (.fl (.bool true))) rfl (og rfl (op_pick rfl rfl (by rw [(eq_self_b _)]; rfl) rfl)) ?_
        refine rg_put (d := 4) (v := .d (.fl (.bool true))) rfl (og rfl (op_assign rfl rfl rfl)) ?_
        refine rg_done rfl ?_
        refine a_ret ?_
        show ∃ ds, ResL _ _ _ ds ∧ RV.of ds = _
        refine ⟨[.fl (.bool true)], (.cons (.tmp rfl (.d _)) .nil), ?_⟩
        rfl
      · skip
        have h5 := t_dec h3
        refine rg_put (d := 23) (v := .pt 102 1) rfl (oy rfl rfl rfl h3 (of_eff (s_field_pt rfl Try.underlying32 rfl ti3 rfl rfl rfl) rfl)) ?_
        refine rg_put (d := 24) (v := .d (.fl (.int .i64 i.to))) rfl (oy rfl rfl rfl h3 (op_load_pt rfl Try.underlying3 rfl rfl rfl rfl rfl)) ?_
        refine rg_put (d := 25) (v := .pt 102 0) rfl (oy rfl rfl rfl h3 (of_eff (s_field_pt rfl Try.underlying32 rfl ti3 rfl rfl rfl) rfl)) ?_
        refine rg_put (d := 26) (v := .d (.fl (.int .i64 i.fr))) rfl (oy rfl rfl rfl h3 (op_load_pt rfl Try.underlying3 rfl rfl rfl rfl rfl)) ?_
        refine rg_put (d := 27) (v := .d (.fl (.int .i64 (i.to - i.fr)))) rfl (oy rfl rfl rfl h3 (op_bin rfl rfl rfl (fun x y w => b_sub64 _ _ _ x y w (by first | omega | (have h5 := okI_p.1 (by assumption); omega))) rfl)) ?_
        refine rg_put (d := 28) (v := .d (.fl (.bool ((decide ((i.to - i.fr) ≤ 31708800)))))) rfl (oy rfl rfl rfl h3 (op_bin rfl rfl rfl (b_leq _ _ _ _) rfl)) ?_
        refine rg_put (d := 29) (v := .d (.fl (.bool ((decide ((i.to - i.fr) ≤ 31708800)))))) rfl (oy rfl rfl rfl h1 (op_pick rfl rfl (by rw [h3]; rfl) rfl)) ?_
        refine rg_put (d := 30) (v := .d (.fl (.bool ((decide ((i.to - i.fr) ≤ 31708800)))))) rfl (og rfl (op_pick rfl rfl (by rw [h1]; rfl) rfl)) ?_
        refine rg_done rfl ?_
        refine a_cond rfl (fun h6 => ?_) (fun h6 => ?_)
        · skip
          have h7 := t_dec h6
          refine a_rseq ?_
          refine rg_put (d := 31) (v := .d (.fl (.bool true))) rfl (og rfl (op_call rfl Try.func9 nm9 rfl .nil alive9 rfl)) ?_
          refine rg_put (d := 4) (v := .d (.fl (.bool true))) rfl (og rfl (op_assign rfl rfl rfl)) ?_
          refine rg_done rfl ?_
          refine a_ret ?_
          show ∃ ds, ResL _ _ _ ds ∧ RV.of ds = _
          refine ⟨[.fl (.bool true)], (.cons (.tmp rfl (.d _)) .nil), ?_⟩
          rfl
        · skip
          have h8 := f_dec h6
          refine a_skip ?_
          show A _ _ _ _ _ _ _
          refine a_rseq ?_
          have hd : spE i = 0 → i.to - i.fr ≤ 1728000 := fun he => by have h5 := spE_0 he; omega
          refine rg_put (d := 33) (v := .d (.ag (eZn z))) rfl (og rfl (of_eff (s_load_pts rfl Try.underlying25 rfl ti25 rfl rfl rfl rfl) rfl)) ?_
          refine rg_put (d := 34) (v := .d (.ag (eIv i))) rfl (og rfl (of_eff (s_load_pts rfl Try.underlying32 rfl ti32 rfl rfl rfl rfl) rfl)) ?_
          refine rg_put (d := 35) (v := .tu [.sl 2 (List.map eIv (enf z i)), .fl (.int .i64 (spE i))]) rfl (og rfl (op_call rfl Try.func15 nm15 rfl (.cons rfl (.d _) (.cons rfl (.d _) .nil)) (enf15 z i (grt_f h1).1) rfl)) ?_
          refine rg_put (d := 32) (v := .tu [.sl 2 (List.map eIv (enf z i)), .fl (.int .i64 (spE i))]) rfl (og rfl (op_move rfl rfl rfl)) ?_
          refine rg_put (d := 36) (v := .d (.sl 2 (List.map eIv (enf z i)))) rfl (og rfl (op_extract rfl rfl rfl rfl)) ?_
          refine rg_put (d := 37) (v := .d (.fl (.int .i64 (spE i)))) rfl (og rfl (op_extract rfl rfl rfl rfl)) ?_
          refine rg_put (d := 5) (v := .d (.sl 2 (List.map eIv (enf z i)))) rfl (og rfl (op_assign rfl rfl rfl)) ?_
          refine rg_put (d := 6) (v := .d (.fl (.int .i64 (spE i)))) rfl (og rfl (op_assign rfl rfl rfl)) ?_
          refine rg_done rfl ?_
          refine a_rseq ?_
          refine rg_put (d := 39) (v := .d (.ag (eZn z))) rfl (og rfl (of_eff (s_load_pts rfl Try.underlying25 rfl ti25 rfl rfl rfl rfl) rfl)) ?_
          refine rg_put (d := 40) (v := .d (.ag (eIv i))) rfl (og rfl (of_eff (s_load_pts rfl Try.underlying32 rfl ti32 rfl rfl rfl rfl) rfl)) ?_
          refine rg_put (d := 41) (v := .tu [.sl 2 (List.map eIv (enf z i)), .fl (.int .i64 (spE i))]) rfl (og rfl (op_call rfl Try.func16 nm16 rfl (.cons rfl (.d _) (.cons rfl (.d _) .nil)) (enfR16 z i (grt_f h1).1 hd) rfl)) ?_
          refine rg_put (d := 38) (v := .tu [.sl 2 (List.map eIv (enf z i)), .fl (.int .i64 (spE i))]) rfl (og rfl (op_move rfl rfl rfl)) ?_
          refine rg_put (d := 42) (v := .d (.sl 2 (List.map eIv (enf z i)))) rfl (og rfl (op_extract rfl rfl rfl rfl)) ?_
          refine rg_put (d := 43) (v := .d (.fl (.int .i64 (spE i)))) rfl (og rfl (op_extract rfl rfl rfl rfl)) ?_
          refine rg_put (d := 7) (v := .d (.sl 2 (List.map eIv (enf z i)))) rfl (og rfl (op_assign rfl rfl rfl)) ?_
          refine rg_put (d := 8) (v := .d (.fl (.int .i64 (spE i)))) rfl (og rfl (op_assign rfl rfl rfl)) ?_
          refine rg_done rfl ?_
          refine a_rseq ?_
          refine rg_put (d := 44) (v := .d (.sl 2 (List.map eIv (enf z i)))) rfl (og rfl (op_move rfl rfl rfl)) ?_
          refine rg_put (d := 45) (v := .d (.sl 2 (List.map eIv (enf z i)))) rfl (og rfl (op_move rfl rfl rfl)) ?_
          refine rg_put (d := 46) (v := .d (.fl (.bool true))) rfl (og rfl (op_call rfl Try.func17 nm17 rfl (.cons rfl (.d _) (.cons rfl (.d _) .nil)) (same17 (enf z i) (Nat.le_trans (enf_len (grt_f h1).1 _) (by omega))) rfl)) ?_
          refine rg_put (d := 47) (v := .d (.fl (.bool true))) rfl (og rfl (op_move rfl rfl rfl)) ?_
          refine rg_put (d := 48) (v := .d (.fl (.int .i64 (spE i)))) rfl (oy rfl rfl rfl rfl (op_move rfl rfl rfl)) ?_
          refine rg_put (d := 49) (v := .d (.fl (.int .i64 (spE i)))) rfl (oy rfl rfl rfl rfl (op_move rfl rfl rfl)) ?_
          refine rg_put (d := 50) (v := .d (.fl (.bool (((spE i) == (spE i)))))) rfl (oy rfl rfl rfl rfl (op_bin rfl rfl rfl (b_eql _ _ _ _) rfl)) ?_
          refine rg_put (d := 51) (v := .d (.fl (.bool (((spE i) == (spE i)))))) rfl (og rfl (op_pick rfl rfl rfl rfl)) ?_
          refine rg_put (d := 52) (v := .d (.fl (.bool (((spE i) == (spE i)))))) rfl (og rfl (op_move rfl rfl rfl)) ?_
          refine rg_put (d := 53) (v := .d (.fl (.bool true))) rfl (oy rfl rfl rfl (eq_self_b _) (op_call rfl Try.func9 nm9 rfl .nil alive9 rfl)) ?_
          refine rg_put (d := 54) (v := .d (.fl (.bool true))) rfl (og rfl (op_pick rfl rfl (by rw [(eq_self_b _)]; rfl) rfl)) ?_
          refine rg_put (d := 4) (v := .d (.fl (.bool true))) rfl (og rfl (op_assign rfl rfl rfl)) ?_
          refine rg_done rfl ?_
          refine a_ret ?_
          show ∃ ds, ResL _ _ _ ds ∧ RV.of ds = _
          refine ⟨[.fl (.bool true)], (.cons (.tmp rfl (.d _)) .nil), ?_⟩
          rfl
  · skip
    refine rg_put (d := 12) (v := .d (.fl undef)) rfl (on rfl rfl rfl h1) ?_
    refine rg_put (d := 13) (v := .d (.fl undef)) rfl (on rfl rfl rfl h1) ?_
    refine rg_put (d := 14) (v := .d (.fl undef)) rfl (on rfl rfl rfl h1) ?_
    refine rg_put (d := 15) (v := .d (.fl undef)) rfl (ou rfl rfl rfl) ?_
    refine rg_put (d := 16) (v := .d (.fl undef)) rfl (ou rfl rfl rfl) ?_
    refine rg_put (d := 17) (v := .d (.fl undef)) rfl (ou rfl rfl rfl) ?_
    refine rg_put (d := 18) (v := .d (.fl undef)) rfl (ou rfl rfl rfl) ?_
    refine rg_put (d := 19) (v := .d (.fl undef)) rfl (ou rfl rfl rfl) ?_
    refine rg_put (d := 20) (v := .d (.fl undef)) rfl (ou rfl rfl rfl) ?_
    refine rg_put (d := 21) (v := .d (.fl undef)) rfl (on rfl rfl rfl h1) ?_
    refine rg_put (d := 22) (v := .d (.fl undef)) rfl (on rfl rfl rfl h1) ?_
    refine rg_put (d := 23) (v := .d (.fl undef)) rfl (ou rfl rfl rfl) ?_
    refine rg_put (d := 24) (v := .d (.fl undef)) rfl (ou rfl rfl rfl) ?_
    refine rg_put (d := 25) (v := .d (.fl undef)) rfl (ou rfl rfl rfl) ?_
    refine rg_put (d := 26) (v := .d (.fl undef)) rfl (ou rfl rfl rfl) ?_
    refine rg_put (d := 27) (v := .d (.fl undef)) rfl (ou rfl rfl rfl) ?_
    refine rg_put (d := 28) (v := .d (.fl undef)) rfl (ou rfl rfl rfl) ?_
    refine rg_put (d := 29) (v := .d (.fl undef)) rfl (on rfl rfl rfl h1) ?_
    refine rg_put (d := 30) (v := .d (.fl (.bool true))) rfl (og rfl (op_pick rfl rfl (by rw [h1]; rfl) rfl)) ?_
    refine rg_done rfl ?_
    refine a_condK rfl rfl ?_
    refine a_rseq ?_
    refine rg_put (d := 31) (v := .d (.fl (.bool true))) rfl (og rfl (op_call rfl Try.func9 nm9 rfl .nil alive9 rfl)) ?_
    refine rg_put (d := 4) (v := .d (.fl (.bool true))) rfl (og rfl (op_assign rfl rfl rfl)) ?_
    refine rg_done rfl ?_
    refine a_ret ?_
    show ∃ ds, ResL _ _ _ ds ∧ RV.of ds = _
    refine ⟨[.fl (.bool true)], (.cons (.tmp rfl (.d _)) .nil), ?_⟩
    rfl
set_option maxHeartbeats 4000000 in
set_option maxRecDepth 100000 in
theorem law3 (z : Zn) (t : Int) : Ctr Try.prog 3 [.ag (eZn z), .fl (.int .i64 t)] (.d (.fl (.bool (true)))) := by
  refine ctr (n := 44) (rs := #[.tmp 4]) (L := [(0, .d (.ag (eZn z))), (1, .d (.fl (.int .i64 t)))]) Try.func3 rfl rfl rfl rfl rfl (fun w0 U0 => ?_)
  refine a_rseq ?_
  refine rg_nam (d := 2) (v := .pt 101 0) (m := 101) (nw := [(101, .bx 25 (eZn z))]) rfl (og rfl (of_eff (op_box 101 rfl rfl rfl rfl) rfl)) rfl ?_
  refine rg_put (d := 4) (v := .d (.fl (.bool false))) rfl (og rfl (op_assign rfl rfl rfl)) ?_
  refine rg_done rfl ?_
  refine a_seq ?_
  refine a_rseq ?_
  refine rg_put (d := 9) (v := .d (.ag (eZn z))) rfl (og rfl (of_eff (s_load_pts rfl Try.underlying25 rfl ti25 rfl rfl rfl rfl) rfl)) ?_
  refine rg_put (d := 10) (v := .d (.fl (.bool (grt z)))) rfl (og rfl (op_call rfl Try.func8 nm8 rfl (.cons rfl (.d _) .nil) (grt6 z) rfl)) ?_
  refine rg_done rfl ?_
  refine a_cond rfl (fun h1 => ?_) (fun h1 => ?_)
  · skip
    refine a_rseq ?_
    refine rg_put (d := 11) (v := .d (.fl (.bool true))) rfl (og rfl (op_call rfl Try.func9 nm9 rfl .nil alive9 rfl)) ?_
    refine rg_put (d := 4) (v := .d (.fl (.bool true))) rfl (og rfl (op_assign rfl rfl rfl)) ?_
    refine rg_done rfl ?_
    refine a_ret ?_
    show ∃ ds, ResL _ _ _ ds ∧ RV.of ds = _
    refine ⟨[.fl (.bool true)], (.cons (.tmp rfl (.d _)) .nil), ?_⟩
    rfl
  · skip
    refine a_skip ?_
    show A _ _ _ _ _ _ _
    refine a_rseq ?_
    refine rg_put (d := 13) (v := .d (.ag (eZn z))) rfl (og rfl (of_eff (s_load_pts rfl Try.underlying25 rfl ti25 rfl rfl rfl rfl) rfl)) ?_
    refine rg_put (d := 14) (v := .d (.fl (.int .i64 t))) rfl (og rfl (op_move rfl rfl rfl)) ?_
    refine rg_put (d := 15) (v := .tu [.fl (.int .i64 ((nxv z t).1)), .fl (.bool ((nxv z t).2))]) rfl (og rfl (op_call rfl Try.func10 nm10 rfl (.cons rfl (.d _) (.cons rfl (.d _) .nil)) (next10 z t (grt_f h1).1) rfl)) ?_
    refine rg_put (d := 12) (v := .tu [.fl (.int .i64 ((nxv z t).1)), .fl (.bool ((nxv z t).2))]) rfl (og rfl (op_move rfl rfl rfl)) ?_
    refine rg_put (d := 16) (v := .d (.fl (.int .i64 ((nxv z t).1)))) rfl (og rfl (op_extract rfl rfl rfl rfl)) ?_
    refine rg_put (d := 17) (v := .d (.fl (.bool ((nxv z t).2)))) rfl (og rfl (op_extract rfl rfl rfl rfl)) ?_
    refine rg_put (d := 5) (v := .d (.fl (.int .i64 ((nxv z t).1)))) rfl (og rfl (op_assign rfl rfl rfl)) ?_
    refine rg_put (d := 6) (v := .d (.fl (.bool ((nxv z t).2)))) rfl (og rfl (op_assign rfl rfl rfl)) ?_
    refine rg_done rfl ?_
    refine a_rseq ?_
    refine rg_put (d := 19) (v := .d (.ag (eZn z))) rfl (og rfl (of_eff (s_load_pts rfl Try.underlying25 rfl ti25 rfl rfl rfl rfl) rfl)) ?_
    refine rg_put (d := 20) (v := .d (.fl (.int .i64 t))) rfl (og rfl (op_move rfl rfl rfl)) ?_
    refine rg_put (d := 21) (v := .tu [.fl (.int .i64 ((nxv z t).1)), .fl (.bool ((nxv z t).2))]) rfl (og rfl (op_call rfl Try.func11 nm11 rfl (.cons rfl (.d _) (.cons rfl (.d _) .nil)) (nextR11 z t (grt_f h1).1) rfl)) ?_
    refine rg_put (d := 18) (v := .tu [.fl (.int .i64 ((nxv z t).1)), .fl (.bool ((nxv z t).2))]) rfl (og rfl (op_move rfl rfl rfl)) ?_
    refine rg_put (d := 22) (v := .d (.fl (.int .i64 ((nxv z t).1)))) rfl (og rfl (op_extract rfl rfl rfl rfl)) ?_
    refine rg_put (d := 23) (v := .d (.fl (.bool ((nxv z t).2)))) rfl (og rfl (op_extract rfl rfl rfl rfl)) ?_
    refine rg_put (d := 7) (v := .d (.fl (.int .i64 ((nxv z t).1)))) rfl (og rfl (op_assign rfl rfl rfl)) ?_
    refine rg_put (d := 8) (v := .d (.fl (.bool ((nxv z t).2)))) rfl (og rfl (op_assign rfl rfl rfl)) ?_
    refine rg_done rfl ?_
    refine a_dseq (by kernel_rfl) ?_
    refine dr_put (d := 24) (v := .d (.ag (eZn z))) rfl (og rfl (of_eff (s_load_pts rfl Try.underlying25 rfl ti25 rfl rfl rfl rfl) rfl)) ?_
    refine dr_put (d := 25) (v := .d (.fl (.int .i64 t))) rfl (og rfl (op_move rfl rfl rfl)) ?_
    refine dr_put (d := 26) (v := .d (.fl (.bool (opn z t)))) rfl (og rfl (op_call rfl Try.func12 nm12 rfl (.cons rfl (.d _) (.cons rfl (.d _) .nil)) (open12 z t (grt_f h1).1) rfl)) ?_
    refine dr_put (d := 27) (v := .d (.ag (eZn z))) rfl (og rfl (of_eff (s_load_pts rfl Try.underlying25 rfl ti25 rfl rfl rfl rfl) rfl)) ?_
    refine dr_put (d := 28) (v := .d (.fl (.int .i64 t))) rfl (og rfl (op_move rfl rfl rfl)) ?_
    refine dr_put (d := 29) (v := .d (.fl (.bool (opn z t)))) rfl (og rfl (op_call rfl Try.func13 nm13 rfl (.cons rfl (.d _) (.cons rfl (.d _) .nil)) (openR13 z t (grt_f h1).1) rfl)) ?_
    refine dr_put (d := 30) (v := .d (.fl (.bool (((opn z t) == (opn z t)))))) rfl (og rfl (op_bin rfl rfl rfl (fun x y w => b_beq _ _ _ x y w Try.underlying4) rfl)) ?_
    refine dr_put (d := 31) (v := .d (.fl (.bool (((opn z t) == (opn z t)))))) rfl (og rfl (op_move rfl rfl rfl)) ?_
    refine dr_put (d := 32) (v := .d (.fl (.int .i64 ((nxv z t).1)))) rfl (oy rfl rfl rfl (beq_self_eq_true _) (op_move rfl rfl rfl)) ?_
    refine dr_put (d := 33) (v := .d (.fl (.int .i64 ((nxv z t).1)))) rfl (oy rfl rfl rfl (beq_self_eq_true _) (op_move rfl rfl rfl)) ?_
    refine dr_put (d := 34) (v := .d (.fl (.bool (((nxv z t).1 == (nxv z t).1))))) rfl (oy rfl rfl rfl (beq_self_eq_true _) (op_bin rfl rfl rfl (b_eql _ _ _ _) rfl)) ?_
    refine dr_put (d := 35) (v := .d (.fl (.bool (((nxv z t).1 == (nxv z t).1))))) rfl (og rfl (op_pick rfl rfl (by rw [(beq_self_eq_true _)]; rfl) rfl)) ?_
    refine dr_put (d := 36) (v := .d (.fl (.bool (((nxv z t).1 == (nxv z t).1))))) rfl (og rfl (op_move rfl rfl rfl)) ?_
    refine dr_put (d := 37) (v := .d (.fl (.bool ((nxv z t).2)))) rfl (oy rfl rfl rfl (beq_self_eq_true _) (op_move rfl rfl rfl)) ?_
    refine dr_put (d := 38) (v := .d (.fl (.bool ((nxv z t).2)))) rfl (oy rfl rfl rfl (beq_self_eq_true _) (op_move rfl rfl rfl)) ?_
    refine dr_put (d := 39) (v := .d (.fl (.bool (((nxv z t).2 == (nxv z t).2))))) rfl (oy rfl rfl rfl (beq_self_eq_true _) (op_bin rfl rfl rfl (fun x y w => b_beq _ _ _ x y w Try.underlying4) rfl)) ?_
    refine dr_put (d := 40) (v := .d (.fl (.bool (((nxv z t).2 == (nxv z t).2))))) rfl (og rfl (op_pick rfl rfl (by rw [(beq_self_eq_true _)]; rfl) rfl)) ?_
    refine dr_put (d := 41) (v := .d (.fl (.bool (((nxv z t).2 == (nxv z t).2))))) rfl (og rfl (op_move rfl rfl rfl)) ?_
    refine dr_put (d := 42) (v := .d (.fl (.bool true))) rfl (oy rfl rfl rfl (beq_self_eq_true _) (op_call rfl Try.func9 nm9 rfl .nil alive9 rfl)) ?_
    refine dr_put (d := 43) (v := .d (.fl (.bool true))) rfl (og rfl (op_pick rfl rfl (by rw [(beq_self_eq_true _)]; rfl) rfl)) ?_
    refine dr_put (d := 4) (v := .d (.fl (.bool true))) rfl (og rfl (op_assign rfl rfl rfl)) ?_
    refine dr_done rfl (sepB_of [0, 0, 3, 0, 0, 31, 63, 127, 255, 255, 1023, 2047, 4095, 8191, 8191, 32767, 65535, 131071, 262143, 524287, 1048575] (by kernel_rfl)) (by kernel_rfl) ?_
    refine a_ret ?_
    show ∃ ds, ResL _ _ _ ds ∧ RV.of ds = _
    refine ⟨[.fl (.bool true)], (.cons (.tmp rfl (.d _)) .nil), ?_⟩
    rfl
end Go.Proofs.Ytniefocnfcaebaa.Wk
