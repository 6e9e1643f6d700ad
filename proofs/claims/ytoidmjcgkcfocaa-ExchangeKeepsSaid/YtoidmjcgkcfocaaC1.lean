/- The law of what is kept. No condition. -/
import Derived.Test.YtoidmjcgkcfocaaAl5
import Derived.Test.YtoidmjcgkcfocaaB2
set_option linter.unusedSimpArgs false
set_option linter.unusedVariables false
namespace Go.Proofs.Ytoidmjcgkcfocaa.Wk
open Go Go.RowKit Go.Proofs.Ytoidmjcgkcfocaa.Av
theorem ix_appL {α : Type} [Inhabited α] {l m : List α} {q : Nat} (h : q < l.length) : ix (l ++ m) q = ix l q := by
  unfold ix
  rw [List.getD_eq_getElem?_getD, List.getD_eq_getElem?_getD, List.getElem?_append_left h]
theorem nb_ok : Nm.nmB (⟨#[110, 111, 114, 116, 104]⟩ : ByteArray) = true := by
  refine Nm.nmB_yes ⟨by decide, by decide, fun i hi => ?_⟩
  have hi : i < 5 := hi
  have key : ∀ j : Fin 5, (97 ≤ Nm.bt (⟨#[110, 111, 114, 116, 104]⟩ : ByteArray) j.val ∧ Nm.bt (⟨#[110, 111, 114, 116, 104]⟩ : ByteArray) j.val ≤ 122) := by decide
  exact .inl (key ⟨i, hi⟩)
noncomputable def pS (ls : List (List Rec)) : Nat → Ptn
  | 0 => ⟨(⟨#[110, 111, 114, 116, 104]⟩ : ByteArray), 1, 1, [], [], []⟩
  | k + 1 => sdP (pS ls k) (⟨#[115, 111, 117, 116, 104]⟩ : ByteArray) (ix ls k)
structure I1 (p : Ptn) (k : Nat) : Prop where
  out : p.out = (p.wait.length : Int) + 1
  wl : p.wait.length ≤ k
  ol : p.ours.length ≤ 20 * k
  tl : p.theirs.length = 0
  sq : ∀ i, i < p.wait.length → (ix p.wait i).seq = 1 + (i : Int)
  r : ∀ x ∈ p.wait, x.recs.length ≤ 20
theorem i1_0 (ls : List (List Rec)) : I1 (pS ls 0) 0 := ⟨rfl, Nat.le_refl _, Nat.le_refl _, rfl, fun i hi => absurd hi (Nat.not_lt_zero i), fun x hx => by cases hx⟩
theorem i1_step {p : Ptn} {k : Nat} {fr : ByteArray} {l : List Rec} (h : I1 p k) (hl : l.length ≤ 20) : I1 (sdP p fr l) (k + 1) := by
  have h0 : I1 p (k + 1) := ⟨h.out, by have := h.wl; omega, by have := h.ol; omega, h.tl, h.sq, h.r⟩
  cases hc : (ckF (f0 p fr l) != 0) with
  | true => rw [(sd_a hc).1]; exact h0
  | false =>
    cases h2 : tooB p l with
    | true => rw [(sd_b hc h2).1]; exact h0
    | false =>
      rw [(sd_c hc h2).1]
      refine ⟨?_, ?_, ?_, h.tl, fun i hi => ?_, fun x hx => ?_⟩
      · show p.out + 1 = ((p.wait ++ [f0 p fr l]).length : Int) + 1
        rw [List.length_append, h.out]; simp
      · show (p.wait ++ [f0 p fr l]).length ≤ k + 1
        rw [List.length_append]; have := h.wl; simp only [List.length_cons, List.length_nil]; omega
      · show (p.ours ++ l).length ≤ 20 * (k + 1)
        rw [List.length_append]; have := h.ol; omega
      · show (ix (p.wait ++ [f0 p fr l]) i).seq = 1 + (i : Int)
        have hi : i < (p.wait ++ [f0 p fr l]).length := hi
        rw [List.length_append, List.length_cons, List.length_nil] at hi
        by_cases hlt : i < p.wait.length
        · rw [ix_appL hlt]; exact h.sq i hlt
        · have e : i = p.wait.length := by omega
          subst e
          rw [ix_app (Nat.le_refl _), Nat.sub_self]
          show p.out = _
          rw [h.out]; omega
      · have hx : x ∈ p.wait ++ [f0 p fr l] := hx
        rcases List.mem_append.1 hx with h1 | h1
        · exact h.r x h1
        · rw [List.mem_singleton] at h1; rw [h1]; exact hl
theorem i1_ok {p : Ptn} {k : Nat} (h : I1 p k) (hk : k ≤ 10) : okP p := ⟨by have := h.ol; omega, by have := h.tl; omega, by have := h.wl; omega, fun x hx => by have := h.r x hx; omega⟩
structure I2 (p : Ptn) (m : Int) : Prop where
  m0 : 0 ≤ m
  out : p.out = (p.wait.length : Int) + 1 + m
  ob : p.out ≤ 11
  wl : p.wait.length ≤ 10
  ol : p.ours.length ≤ 200
  tl : p.theirs.length = 0
  sq : ∀ i, i < p.wait.length → (ix p.wait i).seq = (m + 1) + (i : Int)
  r : ∀ x ∈ p.wait, x.recs.length ≤ 20
theorem i2_of {p : Ptn} {k : Nat} (h : I1 p k) (hk : k ≤ 10) : I2 p 0 := ⟨Int.le_refl _, by rw [h.out]; omega, by have := h.out; have := h.wl; omega, by have := h.wl; omega, by have := h.ol; omega, h.tl, fun i hi => by rw [h.sq i hi]; omega, h.r⟩
theorem i2_ok {p : Ptn} {m : Int} (h : I2 p m) : okP p := ⟨by have := h.ol; omega, by have := h.tl; omega, by have := h.wl; omega, fun x hx => by have := h.r x hx; omega⟩
theorem flt_ap (n : Int) : ∀ (l : List Fil) (a : Int), (∀ i, i < l.length → (ix l i).seq = a + (i : Int)) → (l.filter fun x => !(pd n x)) = l.drop (n + 1 - a).toNat
  | [], a, _ => by simp
  | x :: l, a, h => by
    have h0 : x.seq = a := by have := h 0 (by simp); simpa [ix] using this
    have ht : ∀ i, i < l.length → (ix l i).seq = (a + 1) + (i : Int) := fun i hi => by
      have h1 := h (i + 1) (by simp; omega)
      have h2 : ix (x :: l) (i + 1) = ix l i := rfl
      rw [h2] at h1
      rw [h1]; omega
    have ih := flt_ap n l (a + 1) ht
    by_cases hn : a ≤ n
    · have hp : pd n x = true := decide_eq_true (by omega)
      rw [List.filter_cons_of_neg (by rw [hp]; simp), ih, show (n + 1 - a).toNat = (n + 1 - (a + 1)).toNat + 1 by omega, List.drop_succ_cons]
    · have hp : pd n x = false := decide_eq_false (by omega)
      rw [List.filter_cons_of_pos (by rw [hp]; rfl), ih, show (n + 1 - (a + 1)).toNat = 0 by omega, show (n + 1 - a).toNat = 0 by omega, List.drop_zero, List.drop_zero]
theorem dl_ap {n : Int} {l : List Fil} {a : Int} (h : ∀ i, i < l.length → (ix l i).seq = a + (i : Int)) : dlF n l l.length = l.drop (n + 1 - a).toNat := by
  unfold dlF
  rw [List.take_length]; exact flt_ap n l a h
theorem akE_b (p : Ptn) (n : Int) : (akE p n == 0) = (decide (0 ≤ n) && decide (n < p.out)) := by
  unfold akE
  by_cases h1 : n < 0
  · rw [decide_eq_true h1, decide_eq_false (show ¬ 0 ≤ n by omega)]; rfl
  · by_cases h2 : p.out ≤ n
    · rw [decide_eq_true h2, decide_eq_false (show ¬ n < p.out by omega), Bool.or_true, Bool.and_false]; rfl
    · rw [decide_eq_false h1, decide_eq_false h2, decide_eq_true (show 0 ≤ n by omega), decide_eq_true (show n < p.out by omega)]; rfl
theorem ak_31 {p : Ptn} {n : Int} (h : (akE p n != 0) = true) : (akE p n != 31) = false := by
  unfold akE at h ⊢
  cases hc : (decide (n < 0) || decide (p.out ≤ n)) with
  | true => rfl
  | false => rw [hc] at h; cases h
theorem ak_out (p : Ptn) (n : Int) : (akP p n).out = p.out := by unfold akP; cases (decide (n < 0) || decide (p.out ≤ n)) <;> rfl
theorem ak_ours (p : Ptn) (n : Int) : (akP p n).ours = p.ours := by unfold akP; cases (decide (n < 0) || decide (p.out ≤ n)) <;> rfl
theorem ak_cond {p : Ptn} {n : Int} (h : (akE p n == 0) = true) : 0 ≤ n ∧ n < p.out := by
  rw [akE_b] at h
  simpa using h
theorem ak_no {p : Ptn} {n : Int} (h : (akE p n == 0) = false) : akP p n = p := by
  unfold akE at h
  unfold akP
  cases hc : (decide (n < 0) || decide (p.out ≤ n)) with
  | true => rfl
  | false => rw [hc] at h; cases h
theorem i2_step {p : Ptn} {m n : Int} (h : I2 p m) (h1 : 0 ≤ n) (h2 : n < p.out) : I2 (akP p n) (max m n) := by
  have hc : (decide (n < 0) || decide (p.out ≤ n)) = false := by rw [decide_eq_false (show ¬ n < 0 by omega), decide_eq_false (show ¬ p.out ≤ n by omega)]; rfl
  rw [(ak_ok hc).1, dl_ap h.sq]
  have ho := h.out
  have hw := h.wl
  have hm := h.m0
  have hob := h.ob
  have hd : (n + 1 - (m + 1)).toNat ≤ p.wait.length := by omega
  refine ⟨by omega, ?_, hob, ?_, h.ol, h.tl, fun i hi => ?_, fun x hx => h.r x (List.mem_of_mem_drop hx)⟩
  · show p.out = ((p.wait.drop (n + 1 - (m + 1)).toNat).length : Int) + 1 + max m n
    rw [List.length_drop]; omega
  · show (p.wait.drop (n + 1 - (m + 1)).toNat).length ≤ 10
    rw [List.length_drop]; omega
  · show (ix (p.wait.drop (n + 1 - (m + 1)).toNat) i).seq = (max m n + 1) + (i : Int)
    have hi : i < (p.wait.drop (n + 1 - (m + 1)).toNat).length := hi
    rw [List.length_drop] at hi
    rw [ix_drop, h.sq _ (by omega)]; omega
noncomputable def qS (p : Ptn) (ns : List Int) : Nat → Ptn × Int
  | 0 => (p, 0)
  | k + 1 => (akP (qS p ns k).1 (ix ns k), bif akE (qS p ns k).1 (ix ns k) == 0 then max (qS p ns k).2 (ix ns k) else (qS p ns k).2)
theorem q_y {p : Ptn} {ns : List Int} {k : Nat} (h : (akE (qS p ns k).1 (ix ns k) == 0) = true) : (qS p ns (k + 1)).2 = max (qS p ns k).2 (ix ns k) := by simp only [qS, h, cond_true]
theorem q_n {p : Ptn} {ns : List Int} {k : Nat} (h : (akE (qS p ns k).1 (ix ns k) == 0) = false) : (qS p ns (k + 1)).2 = (qS p ns k).2 := by simp only [qS, h, cond_false]
theorem q_1 (p : Ptn) (ns : List Int) (k : Nat) : (qS p ns (k + 1)).1 = akP (qS p ns k).1 (ix ns k) := rfl
theorem q_step {p : Ptn} {ns : List Int} {k : Nat} (h : I2 (qS p ns k).1 (qS p ns k).2) : I2 (qS p ns (k + 1)).1 (qS p ns (k + 1)).2 := by
  rw [q_1]
  cases hc : (akE (qS p ns k).1 (ix ns k) == 0) with
  | true =>
    obtain ⟨h1, h2⟩ := ak_cond hc
    rw [q_y hc]; exact i2_step h h1 h2
  | false => rw [q_n hc, ak_no hc]; exact h
theorem rv_out (p : Ptn) (f : Fil) : (rvP p f).out = p.out := by
  unfold rvP
  cases (ckF f != 0) <;> cases (!(sEq f.fr p.name)) <;> cases (decide (p.inn < f.seq)) <;> cases (!(f.seq == p.inn)) <;> cases (decide (1024 < (p.theirs.length : Int) + (f.recs.length : Int))) <;> rfl
theorem rv_ours (p : Ptn) (f : Fil) : (rvP p f).ours = p.ours := by
  unfold rvP
  cases (ckF f != 0) <;> cases (!(sEq f.fr p.name)) <;> cases (decide (p.inn < f.seq)) <;> cases (!(f.seq == p.inn)) <;> cases (decide (1024 < (p.theirs.length : Int) + (f.recs.length : Int))) <;> rfl
theorem rv_wait (p : Ptn) (f : Fil) : (rvP p f).wait = p.wait := by
  unfold rvP
  cases (ckF f != 0) <;> cases (!(sEq f.fr p.name)) <;> cases (decide (p.inn < f.seq)) <;> cases (!(f.seq == p.inn)) <;> cases (decide (1024 < (p.theirs.length : Int) + (f.recs.length : Int))) <;> rfl
theorem last_e {p : Ptn} {m : Int} (h : I2 p m) : (akE p (p.out - 1) == 0) = true := by
  have := h.out
  have := h.m0
  rw [akE_b, decide_eq_true (show 0 ≤ p.out - 1 by omega), decide_eq_true (show p.out - 1 < p.out by omega)]; rfl
theorem last_w {p : Ptn} {m : Int} (h : I2 p m) : (((akP p (p.out - 1)).wait.length : Int) == 0) = true := by
  have ho := h.out
  have hm := h.m0
  obtain ⟨h1, h2⟩ := ak_cond (last_e h)
  have hn := i2_step h h1 h2
  have h3 := hn.out
  rw [ak_out] at h3
  rw [beq_iff_eq]; omega

theorem sarE (l m : List Rec) (e : m = l) (h : l.length ≤ 4000) : Ctr Try.prog 9 [.sl 5 (List.map eRec l), .sl 5 (List.map eRec m)] (.d (.fl (.bool true))) := by rw [e]; exact sarC l h
theorem sarES (m l : List Rec) (e : m = l) (h : l.length ≤ 4000) : Ctr Try.prog 9 [.sl 5 (List.map eRec m), .sl 5 (List.map eRec l)] (.d (.fl (.bool true))) := by rw [e]; exact sarC l h
theorem safE (l m : List Fil) (e : m = l) (h : l.length ≤ 1000) (hz : ∀ x ∈ l, x.recs.length ≤ 1100) : Ctr Try.prog 11 [.sl 4 (List.map eFil l), .sl 4 (List.map eFil m)] (.d (.fl (.bool true))) := by rw [e]; exact safC l h hz
theorem safES (m l : List Fil) (e : m = l) (h : l.length ≤ 1000) (hz : ∀ x ∈ l, x.recs.length ≤ 1100) : Ctr Try.prog 11 [.sl 4 (List.map eFil m), .sl 4 (List.map eFil l)] (.d (.fl (.bool true))) := by rw [e]; exact safC l h hz

set_option maxHeartbeats 4000000 in
set_option maxRecDepth 100000 in
theorem law1 (ls : List (List Rec)) (ns : List Int) (f : Fil) : Ctr Try.prog 3 [.sl 1 (List.map (rL 5 eRec) ls), .sl 1 (List.map (rI .i64) ns), .ag (eFil f)] (.d (.fl (.bool (true)))) := by
  refine ctr (n := 185) (rs := #[.tmp 6]) (L := [(0, .d (.sl 1 (List.map (rL 5 eRec) ls))), (1, .d (.sl 1 (List.map (rI .i64) ns))), (2, .d (.ag (eFil f)))]) Try.func3 rfl rfl rfl rfl rfl (fun w0 U0 => ?_)
  refine a_rseq ?_
  refine rg_nam (d := 5) (v := .pt 101 0) (m := 101) (nw := [(101, .bx 26 (eFil f))]) rfl (og rfl (of_eff (op_box 101 rfl rfl rfl rfl) rfl)) rfl ?_
  refine rg_put (d := 6) (v := .d (.fl (.bool false))) rfl (og rfl (op_assign rfl rfl rfl)) ?_
  refine rg_done rfl ?_
  refine a_seq ?_
  refine a_rseq ?_
  refine rg_put (d := 21) (v := .d (.sl 1 (List.map (rL 5 eRec) ls))) rfl (og rfl (op_move rfl rfl rfl)) ?_
  refine rg_put (d := 22) (v := .d (.fl (.int .i64 (ls.length : Int)))) rfl (og rfl (s_len rfl Try.underlying22 rfl rfl)) ?_
  refine rg_put (d := 23) (v := .d (.fl (.bool ((decide (10 < (ls.length : Int))))))) rfl (og rfl (op_bin rfl rfl rfl (b_gtr _ _ _ _) rfl)) ?_
  refine rg_put (d := 24) (v := .d (.fl (.bool ((decide (10 < (ls.length : Int))))))) rfl (og rfl (op_move rfl rfl rfl)) ?_
  rcases fot ((decide (10 < (ls.length : Int)))) with h1 | h1
  · skip
    have h2 := f_dec h1
    refine rg_put (d := 25) (v := .d (.sl 1 (List.map (rI .i64) ns))) rfl (oy rfl rfl rfl h1 (op_move rfl rfl rfl)) ?_
    refine rg_put (d := 26) (v := .d (.fl (.int .i64 (ns.length : Int)))) rfl (oy rfl rfl rfl h1 (s_len rfl Try.underlying23 rfl rfl)) ?_
    refine rg_put (d := 27) (v := .d (.fl (.bool ((decide (20 < (ns.length : Int))))))) rfl (oy rfl rfl rfl h1 (op_bin rfl rfl rfl (b_gtr _ _ _ _) rfl)) ?_
    refine rg_put (d := 28) (v := .d (.fl (.bool ((decide (20 < (ns.length : Int))))))) rfl (og rfl (op_pick rfl rfl (by rw [h1]; rfl) rfl)) ?_
    refine rg_put (d := 29) (v := .d (.fl (.bool ((decide (20 < (ns.length : Int))))))) rfl (og rfl (op_move rfl rfl rfl)) ?_
    rcases fot ((decide (20 < (ns.length : Int)))) with h3 | h3
    · skip
      have h4 := f_dec h3
      refine rg_put (d := 30) (v := .pt 101 3) rfl (oy rfl rfl rfl h3 (of_eff (s_field_pt rfl Try.underlying26 rfl ti24 rfl rfl rfl) rfl)) ?_
      refine rg_put (d := 31) (v := .d (.sl 5 (List.map eRec f.recs))) rfl (oy rfl rfl rfl h3 (op_load_pt rfl Try.underlying24 rfl rfl rfl rfl rfl)) ?_
      refine rg_put (d := 32) (v := .d (.fl (.bool (hvB f.recs)))) rfl (oy rfl rfl rfl h3 (op_call rfl Try.func4 nm4 rfl (.cons rfl (.d _) .nil) (hvC f.recs) rfl)) ?_
      refine rg_put (d := 33) (v := .d (.fl (.bool (hvB f.recs)))) rfl (og rfl (op_pick rfl rfl (by rw [h3]; rfl) rfl)) ?_
      refine rg_done rfl ?_
      refine a_cond rfl (fun h5 => ?_) (fun h5 => ?_)
      · skip
        refine a_rseq ?_
        refine rg_put (d := 34) (v := .d (.fl (.bool true))) rfl (og rfl (op_call rfl Try.func5 nm5 rfl .nil alive5 rfl)) ?_
        refine rg_put (d := 6) (v := .d (.fl (.bool true))) rfl (og rfl (op_assign rfl rfl rfl)) ?_
        refine rg_done rfl ?_
        refine a_ret ?_
        show ∃ ds, ResL _ _ _ ds ∧ RV.of ds = _
        refine ⟨[.fl (.bool true)], (.cons (.tmp rfl (.d _)) .nil), ?_⟩
        rfl
      · skip
        refine a_skip ?_
        show A _ _ _ _ _ _ _
        refine a_rseq ?_
        have hkk := hv_k h5
        have hfl := hv_l h5
        refine rg_put (d := 36) (v := .tu [.ag (ePt (pS ls 0)), .fl (.int .i64 0)]) rfl (og rfl (op_call rfl Try.func6 nm6 rfl (.cons rfl (.d _) .nil) ((by have h := nwC (⟨#[110, 111, 114, 116, 104]⟩ : ByteArray); rw [(nw_t nb_ok).1, (nw_t nb_ok).2] at h; exact h)) rfl)) ?_
        refine rg_put (d := 35) (v := .tu [.ag (ePt (pS ls 0)), .fl (.int .i64 0)]) rfl (og rfl (op_move rfl rfl rfl)) ?_
        refine rg_put (d := 37) (v := .d (.ag (ePt (pS ls 0)))) rfl (og rfl (op_extract rfl rfl rfl rfl)) ?_
        refine rg_put (d := 38) (v := .d (.fl (.int .i64 0))) rfl (og rfl (op_extract rfl rfl rfl rfl)) ?_
        refine rg_nam (d := 7) (v := .pt 102 0) (m := 102) (nw := [(102, .bx 31 ([.fl (.string (⟨#[]⟩)), .fl (.int .i64 0), .fl (.int .i64 0), .fl (.slice none 0 0), .fl (.slice none 0 0), .fl (.slice none 0 0)]))]) rfl (og rfl (of_eff (s_alloc 102 rfl ti31 (by kernel_rfl) rfl) rfl)) rfl ?_
        refine rg_sto (nw := [(102, .bx 31 ((ePt (pS ls 0))))]) rfl (og rfl (of_eff (s_store rfl rfl ti31 rfl rfl rfl rfl rfl rfl) rfl)) ?_
        refine rg_put (d := 8) (v := .d (.fl (.int .i64 0))) rfl (og rfl (op_assign rfl rfl rfl)) ?_
        refine rg_done rfl ?_
        refine a_seq ?_
        refine a_rseq ?_
        refine rg_put (d := 39) (v := .d (.sl 1 (List.map (rL 5 eRec) ls))) rfl (og rfl (op_move rfl rfl rfl)) ?_
        refine rg_put (d := 40) (v := .d (.fl (.int .i64 (ls.length : Int)))) rfl (og rfl (s_len rfl Try.underlying22 rfl rfl)) ?_
        refine rg_put (d := 41) (v := .d (.fl (.int .i64 0))) rfl (og rfl (op_move rfl rfl rfl)) ?_
        refine rg_done rfl ?_
        refine a_block ?_
        refine a_loop (ι := Nat) (fun k => SS [(0, .d (.sl 1 (List.map (rL 5 eRec) ls))), (1, .d (.sl 1 (List.map (rI .i64) ns))), (2, .d (.ag (eFil f))), (5, .pt 101 0), (7, .pt 102 0), (33, .d (.fl (.bool (hvB f.recs)))), (39, .d (.sl 1 (List.map (rL 5 eRec) ls))), (40, .d (.fl (.int .i64 (ls.length : Int)))), (41, .d (.fl (.int .i64 (k : Int))))] [(101, .bx 26 (eFil f)), (102, .bx 31 ((ePt (pS ls k))))]) (fun k => k ≤ ls.length ∧ I1 (pS ls k) k) (fun k => ls.length - k) 0 (⟨by omega, i1_0 ls⟩) (imp_forget rfl ⟨rfl, rfl, rfl, rfl, rfl, rfl, rfl, rfl, (by first | rfl | exact ci (by omega) | exact ci (by simp) | exact cd (by simp) | simp), trivial⟩ ⟨rfl, rfl, trivial⟩) (fun k hok => ?_)
        obtain ⟨hk, hi⟩ := hok
        refine a_rseq ?_
        refine rg_put (d := 42) (v := .d (.fl (.bool ((decide ((k : Int) < (ls.length : Int))))))) rfl (og rfl (op_bin rfl rfl rfl (b_lss _ _ _ _) rfl)) ?_
        refine rg_done rfl ?_
        refine a_seq ?_
        refine a_cond rfl (fun h6 => ?_) (fun h6 => ?_)
        · skip
          have h7 := t_dec h6
          refine a_skip ?_
          show A _ _ _ _ _ _ _
          refine a_seq ?_
          refine a_block ?_
          refine a_rseq ?_
          refine rg_put (d := 43) (v := .el (((rL 5 eRec) (ix ls k)))) rfl (og rfl (s_index rfl Try.underlying22 ti24 rfl rfl (by omega) (row_at (by omega)) rfl)) ?_
          refine rg_put (d := 44) (v := .d (.sl 5 (List.map eRec (ix ls k)))) rfl (og rfl (op_load_el rfl Try.underlying24 rfl rfl rfl rfl)) ?_
          refine rg_put (d := 10) (v := .d (.sl 5 (List.map eRec (ix ls k)))) rfl (og rfl (op_assign rfl rfl rfl)) ?_
          refine rg_done rfl ?_
          refine a_seq ?_
          refine a_rseq ?_
          refine rg_put (d := 45) (v := .d (.sl 5 (List.map eRec (ix ls k)))) rfl (og rfl (op_move rfl rfl rfl)) ?_
          refine rg_put (d := 46) (v := .d (.fl (.int .i64 (((ix ls k).length : Int))))) rfl (og rfl (s_len rfl Try.underlying24 rfl rfl)) ?_
          refine rg_put (d := 47) (v := .d (.fl (.bool ((decide (20 < ((ix ls k).length : Int))))))) rfl (og rfl (op_bin rfl rfl rfl (b_gtr _ _ _ _) rfl)) ?_
          refine rg_put (d := 48) (v := .d (.fl (.bool ((decide (20 < ((ix ls k).length : Int))))))) rfl (og rfl (op_move rfl rfl rfl)) ?_
          rcases fot ((decide (20 < ((ix ls k).length : Int)))) with h8 | h8
          · skip
            have h9 := f_dec h8
            refine rg_put (d := 49) (v := .d (.sl 5 (List.map eRec (ix ls k)))) rfl (oy rfl rfl rfl h8 (op_move rfl rfl rfl)) ?_
            refine rg_put (d := 50) (v := .d (.fl (.bool ((hvB (ix ls k)))))) rfl (oy rfl rfl rfl h8 (op_call rfl Try.func4 nm4 rfl (.cons rfl (.d _) .nil) (hvC (ix ls k)) rfl)) ?_
            refine rg_put (d := 51) (v := .d (.fl (.bool ((hvB (ix ls k)))))) rfl (og rfl (op_pick rfl rfl (by rw [h8]; rfl) rfl)) ?_
            refine rg_done rfl ?_
            refine a_cond rfl (fun h10 => ?_) (fun h10 => ?_)
            · skip
              refine a_rseq ?_
              refine rg_put (d := 52) (v := .d (.fl (.bool true))) rfl (og rfl (op_call rfl Try.func5 nm5 rfl .nil alive5 rfl)) ?_
              refine rg_put (d := 6) (v := .d (.fl (.bool true))) rfl (og rfl (op_assign rfl rfl rfl)) ?_
              refine rg_done rfl ?_
              refine a_ret ?_
              show ∃ ds, ResL _ _ _ ds ∧ RV.of ds = _
              refine ⟨[.fl (.bool true)], (.cons (.tmp rfl (.d _)) .nil), ?_⟩
              rfl
            · skip
              refine a_skip ?_
              show A _ _ _ _ _ _ _
              refine a_region ?_
              have hkl := hv_k h10
              refine rg_put (d := 54) (v := .d (.ag (ePt (pS ls k)))) rfl (og rfl (of_eff (s_load_pts rfl Try.underlying31 rfl ti31 rfl rfl rfl rfl) rfl)) ?_
              refine rg_put (d := 55) (v := .d (.sl 5 (List.map eRec (ix ls k)))) rfl (og rfl (op_move rfl rfl rfl)) ?_
              refine rg_put (d := 56) (v := .tu [.ag (ePt ((sdP (pS ls k) (⟨#[115, 111, 117, 116, 104]⟩ : ByteArray) (ix ls k)))), .ag (eFil ((sdF (pS ls k) (⟨#[115, 111, 117, 116, 104]⟩ : ByteArray) (ix ls k)))), .fl (.int .i64 ((sdE (pS ls k) (⟨#[115, 111, 117, 116, 104]⟩ : ByteArray) (ix ls k))))]) rfl (og rfl (op_call rfl Try.func7 nm7 rfl (.cons rfl (.d _) (.cons rfl (.d _) (.cons rfl (.d _) .nil))) (sdC (pS ls k) (⟨#[115, 111, 117, 116, 104]⟩ : ByteArray) (ix ls k) (i1_ok hi (by omega)) hkl (by omega)) rfl)) ?_
              refine rg_put (d := 53) (v := .tu [.ag (ePt ((sdP (pS ls k) (⟨#[115, 111, 117, 116, 104]⟩ : ByteArray) (ix ls k)))), .ag (eFil ((sdF (pS ls k) (⟨#[115, 111, 117, 116, 104]⟩ : ByteArray) (ix ls k)))), .fl (.int .i64 ((sdE (pS ls k) (⟨#[115, 111, 117, 116, 104]⟩ : ByteArray) (ix ls k))))]) rfl (og rfl (op_move rfl rfl rfl)) ?_
              refine rg_put (d := 57) (v := .d (.ag (ePt ((sdP (pS ls k) (⟨#[115, 111, 117, 116, 104]⟩ : ByteArray) (ix ls k)))))) rfl (og rfl (op_extract rfl rfl rfl rfl)) ?_
              refine rg_put (d := 58) (v := .d (.ag (eFil ((sdF (pS ls k) (⟨#[115, 111, 117, 116, 104]⟩ : ByteArray) (ix ls k)))))) rfl (og rfl (op_extract rfl rfl rfl rfl)) ?_
              refine rg_put (d := 59) (v := .d (.fl (.int .i64 ((sdE (pS ls k) (⟨#[115, 111, 117, 116, 104]⟩ : ByteArray) (ix ls k)))))) rfl (og rfl (op_extract rfl rfl rfl rfl)) ?_
              refine rg_sto (nw := [(102, .bx 31 ((ePt ((sdP (pS ls k) (⟨#[115, 111, 117, 116, 104]⟩ : ByteArray) (ix ls k))))))]) rfl (og rfl (of_eff (s_store rfl rfl ti31 rfl rfl rfl rfl rfl rfl) rfl)) ?_
              refine rg_done rfl ?_
              show A _ _ _ _ _ _ _
              refine a_region ?_
              refine rg_put (d := 60) (v := .d (.fl (.int .i64 (((k : Int) + 1))))) rfl (og rfl (op_bin rfl rfl rfl (fun x y w => b_add64 _ _ _ x y w (by omega)) rfl)) ?_
              refine rg_put (d := 41) (v := .d (.fl (.int .i64 (((k : Int) + 1))))) rfl (og rfl (op_move rfl rfl rfl)) ?_
              refine rg_done rfl ?_
              show ∃ i, _ ∧ _ ∧ Imp _ _ _ _ _
              refine ⟨k + 1, ⟨by omega, i1_step hi (by omega)⟩, by omega, imp_forget rfl ⟨rfl, rfl, rfl, rfl, rfl, rfl, rfl, rfl, (by first | rfl | exact ci (by omega) | exact ci (by simp) | exact cd (by simp) | simp), trivial⟩ ⟨rfl, rfl, trivial⟩⟩
          · skip
            have h11 := t_dec h8
            refine rg_put (d := 49) (v := .d (.fl undef)) rfl (on rfl rfl rfl h8) ?_
            refine rg_put (d := 50) (v := .d (.fl undef)) rfl (on rfl rfl rfl h8) ?_
            refine rg_put (d := 51) (v := .d (.fl (.bool true))) rfl (og rfl (op_pick rfl rfl (by rw [h8]; rfl) rfl)) ?_
            refine rg_done rfl ?_
            refine a_condK rfl rfl ?_
            refine a_rseq ?_
            refine rg_put (d := 52) (v := .d (.fl (.bool true))) rfl (og rfl (op_call rfl Try.func5 nm5 rfl .nil alive5 rfl)) ?_
            refine rg_put (d := 6) (v := .d (.fl (.bool true))) rfl (og rfl (op_assign rfl rfl rfl)) ?_
            refine rg_done rfl ?_
            refine a_ret ?_
            show ∃ ds, ResL _ _ _ ds ∧ RV.of ds = _
            refine ⟨[.fl (.bool true)], (.cons (.tmp rfl (.d _)) .nil), ?_⟩
            rfl
        · skip
          have h12 := f_dec h6
          refine a_exit ?_
          show A _ _ _ _ _ _ _
          refine a_rseq ?_
          have hkl0 : k = ls.length := by omega
          have hi0 : I2 (pS ls ls.length) 0 := by rw [hkl0] at hi; exact i2_of hi (by omega)
          rw [show (pS ls k) = (pS ls ls.length) from (by rw [hkl0])]
          refine rg_put (d := 11) (v := .d (.fl (.int .i64 0))) rfl (og rfl (op_assign rfl rfl rfl)) ?_
          refine rg_done rfl ?_
          refine a_seq ?_
          refine a_rseq ?_
          refine rg_put (d := 61) (v := .d (.sl 1 (List.map (rI .i64) ns))) rfl (og rfl (op_move rfl rfl rfl)) ?_
          refine rg_put (d := 62) (v := .d (.fl (.int .i64 (ns.length : Int)))) rfl (og rfl (s_len rfl Try.underlying23 rfl rfl)) ?_
          refine rg_put (d := 63) (v := .d (.fl (.int .i64 0))) rfl (og rfl (op_move rfl rfl rfl)) ?_
          refine rg_done rfl ?_
          refine a_block ?_
          refine a_loop (ι := Nat) (fun j => SS [(0, .d (.sl 1 (List.map (rL 5 eRec) ls))), (1, .d (.sl 1 (List.map (rI .i64) ns))), (2, .d (.ag (eFil f))), (5, .pt 101 0), (7, .pt 102 0), (33, .d (.fl (.bool (hvB f.recs)))), (39, .d (.sl 1 (List.map (rL 5 eRec) ls))), (40, .d (.fl (.int .i64 (ls.length : Int)))), (41, .d (.fl (.int .i64 (k : Int)))), (42, .d (.fl (.bool ((decide ((k : Int) < (ls.length : Int))))))), (61, .d (.sl 1 (List.map (rI .i64) ns))), (62, .d (.fl (.int .i64 (ns.length : Int)))), (63, .d (.fl (.int .i64 (j : Int)))), (11, .d (.fl (.int .i64 ((qS (pS ls ls.length) ns j).2))))] [(101, .bx 26 (eFil f)), (102, .bx 31 ((ePt (qS (pS ls ls.length) ns j).1)))]) (fun j => j ≤ ns.length ∧ I2 (qS (pS ls ls.length) ns j).1 (qS (pS ls ls.length) ns j).2) (fun j => ns.length - j) 0 (⟨by omega, hi0⟩) (imp_forget rfl ⟨rfl, rfl, rfl, rfl, rfl, rfl, rfl, rfl, rfl, rfl, rfl, rfl, rfl, rfl, trivial⟩ ⟨rfl, rfl, trivial⟩) (fun j hok => ?_)
          obtain ⟨hj, hi2⟩ := hok
          refine a_rseq ?_
          refine rg_put (d := 64) (v := .d (.fl (.bool ((decide ((j : Int) < (ns.length : Int))))))) rfl (og rfl (op_bin rfl rfl rfl (b_lss _ _ _ _) rfl)) ?_
          refine rg_done rfl ?_
          refine a_seq ?_
          refine a_cond rfl (fun h13 => ?_) (fun h13 => ?_)
          · skip
            have h14 := t_dec h13
            refine a_skip ?_
            show A _ _ _ _ _ _ _
            refine a_seq ?_
            refine a_block ?_
            refine a_rseq ?_
            refine rg_put (d := 65) (v := .el ((rI .i64 (ix ns j)))) rfl (og rfl (s_index rfl Try.underlying23 ti3 rfl rfl (by omega) (row_at (by omega)) rfl)) ?_
            refine rg_put (d := 66) (v := .d (.fl (.int .i64 (ix ns j)))) rfl (og rfl (op_load_el rfl Try.underlying3 rfl rfl rfl rfl)) ?_
            refine rg_put (d := 13) (v := .d (.fl (.int .i64 (ix ns j)))) rfl (og rfl (op_assign rfl rfl rfl)) ?_
            refine rg_done rfl ?_
            refine a_rseq ?_
            refine rg_put (d := 68) (v := .d (.ag (ePt ((qS (pS ls ls.length) ns j).1)))) rfl (og rfl (of_eff (s_load_pts rfl Try.underlying31 rfl ti31 rfl rfl rfl rfl) rfl)) ?_
            refine rg_put (d := 69) (v := .d (.fl (.int .i64 (ix ns j)))) rfl (og rfl (op_move rfl rfl rfl)) ?_
            refine rg_put (d := 70) (v := .tu [.ag (ePt ((akP (qS (pS ls ls.length) ns j).1 (ix ns j)))), .fl (.int .i64 ((akE (qS (pS ls ls.length) ns j).1 (ix ns j))))]) rfl (og rfl (op_call rfl Try.func8 nm8 rfl (.cons rfl (.d _) (.cons rfl (.d _) .nil)) (ackC (qS (pS ls ls.length) ns j).1 (ix ns j) (i2_ok hi2)) rfl)) ?_
            refine rg_put (d := 67) (v := .tu [.ag (ePt ((akP (qS (pS ls ls.length) ns j).1 (ix ns j)))), .fl (.int .i64 ((akE (qS (pS ls ls.length) ns j).1 (ix ns j))))]) rfl (og rfl (op_move rfl rfl rfl)) ?_
            refine rg_put (d := 71) (v := .d (.ag (ePt ((akP (qS (pS ls ls.length) ns j).1 (ix ns j)))))) rfl (og rfl (op_extract rfl rfl rfl rfl)) ?_
            refine rg_put (d := 72) (v := .d (.fl (.int .i64 ((akE (qS (pS ls ls.length) ns j).1 (ix ns j)))))) rfl (og rfl (op_extract rfl rfl rfl rfl)) ?_
            refine rg_nam (d := 14) (v := .pt 103 0) (m := 103) (nw := [(103, .bx 31 ([.fl (.string (⟨#[]⟩)), .fl (.int .i64 0), .fl (.int .i64 0), .fl (.slice none 0 0), .fl (.slice none 0 0), .fl (.slice none 0 0)]))]) rfl (og rfl (of_eff (s_alloc 103 rfl ti31 (by kernel_rfl) rfl) rfl)) rfl ?_
            refine rg_sto (nw := [(103, .bx 31 ((ePt ((akP (qS (pS ls ls.length) ns j).1 (ix ns j))))))]) rfl (og rfl (of_eff (s_store rfl rfl ti31 rfl rfl rfl rfl rfl rfl) rfl)) ?_
            refine rg_put (d := 15) (v := .d (.fl (.int .i64 ((akE (qS (pS ls ls.length) ns j).1 (ix ns j)))))) rfl (og rfl (op_assign rfl rfl rfl)) ?_
            refine rg_done rfl ?_
            refine a_seq ?_
            refine a_rseq ?_
            refine rg_put (d := 73) (v := .d (.fl (.int .i64 ((akE (qS (pS ls ls.length) ns j).1 (ix ns j)))))) rfl (og rfl (op_move rfl rfl rfl)) ?_
            refine rg_put (d := 74) (v := .d (.fl (.bool (((akE (qS (pS ls ls.length) ns j).1 (ix ns j)) == 0))))) rfl (og rfl (op_bin rfl rfl rfl (b_eql _ _ _ _) rfl)) ?_
            refine rg_put (d := 75) (v := .d (.fl (.int .i64 (ix ns j)))) rfl (og rfl (op_move rfl rfl rfl)) ?_
            refine rg_put (d := 76) (v := .d (.fl (.bool ((decide (0 ≤ (ix ns j))))))) rfl (og rfl (op_bin rfl rfl rfl (b_geq _ _ _ _) rfl)) ?_
            refine rg_put (d := 77) (v := .d (.fl (.bool ((decide (0 ≤ (ix ns j))))))) rfl (og rfl (op_move rfl rfl rfl)) ?_
            rcases fot ((decide (0 ≤ (ix ns j)))) with h15 | h15
            · skip
              have h16 := f_dec h15
              refine rg_put (d := 78) (v := .d (.fl undef)) rfl (on rfl rfl rfl h15) ?_
              refine rg_put (d := 79) (v := .d (.fl undef)) rfl (on rfl rfl rfl h15) ?_
              refine rg_put (d := 80) (v := .d (.fl undef)) rfl (on rfl rfl rfl h15) ?_
              refine rg_put (d := 81) (v := .d (.fl undef)) rfl (on rfl rfl rfl h15) ?_
              refine rg_put (d := 82) (v := .d (.fl (.bool false))) rfl (og rfl (op_pick rfl rfl (by rw [h15]; rfl) rfl)) ?_
              refine rg_put (d := 83) (v := .d (.fl (.bool ((!(((akE (qS (pS ls ls.length) ns j).1 (ix ns j)) == 0) == false)))))) rfl (og rfl (op_bin rfl rfl rfl (fun x y w => b_bne _ _ _ x y w Try.underlying4) rfl)) ?_
              refine rg_put (d := 84) (v := .d (.fl (.bool ((!(((akE (qS (pS ls ls.length) ns j).1 (ix ns j)) == 0) == false)))))) rfl (og rfl (op_move rfl rfl rfl)) ?_
              refine rg_put (d := 85) (v := .d (.fl (.int .i64 ((akE (qS (pS ls ls.length) ns j).1 (ix ns j)))))) rfl (oy rfl rfl rfl (show ((!(((akE (qS (pS ls ls.length) ns j).1 (ix ns j)) == 0) == false))) = false from (by rw [akE_b, show decide (0 ≤ (ix ns j)) = false from by assumption]; rfl)) (op_move rfl rfl rfl)) ?_
              refine rg_put (d := 86) (v := .d (.fl (.bool (((akE (qS (pS ls ls.length) ns j).1 (ix ns j)) != 0))))) rfl (oy rfl rfl rfl (show ((!(((akE (qS (pS ls ls.length) ns j).1 (ix ns j)) == 0) == false))) = false from (by rw [akE_b, show decide (0 ≤ (ix ns j)) = false from by assumption]; rfl)) (op_bin rfl rfl rfl (b_neq _ _ _ _) rfl)) ?_
              refine rg_put (d := 87) (v := .d (.fl (.bool (((akE (qS (pS ls ls.length) ns j).1 (ix ns j)) != 0))))) rfl (oy rfl rfl rfl (show ((!(((akE (qS (pS ls ls.length) ns j).1 (ix ns j)) == 0) == false))) = false from (by rw [akE_b, show decide (0 ≤ (ix ns j)) = false from by assumption]; rfl)) (op_move rfl rfl rfl)) ?_
              rcases fot (((akE (qS (pS ls ls.length) ns j).1 (ix ns j)) != 0)) with h17 | h17
              · skip
                have h18 := f_bne h17
                refine rg_put (d := 88) (v := .d (.fl undef)) rfl (on rfl rfl rfl h17) ?_
                refine rg_put (d := 89) (v := .d (.fl undef)) rfl (on rfl rfl rfl h17) ?_
                refine rg_put (d := 90) (v := .d (.fl (.bool false))) rfl (oy rfl rfl rfl (show ((!(((akE (qS (pS ls ls.length) ns j).1 (ix ns j)) == 0) == false))) = false from (by rw [akE_b, show decide (0 ≤ (ix ns j)) = false from by assumption]; rfl)) (op_pick rfl rfl (by rw [h17]; rfl) rfl)) ?_
                refine rg_put (d := 91) (v := .d (.fl (.bool false))) rfl (og rfl (op_pick rfl rfl (by rw [(show ((!(((akE (qS (pS ls ls.length) ns j).1 (ix ns j)) == 0) == false))) = false from (by rw [akE_b, show decide (0 ≤ (ix ns j)) = false from by assumption]; rfl))]; rfl) rfl)) ?_
                refine rg_put (d := 92) (v := .d (.fl (.bool false))) rfl (og rfl (op_move rfl rfl rfl)) ?_
                refine rg_put (d := 93) (v := .pt 103 1) rfl (oy rfl rfl rfl rfl (of_eff (s_field_pt rfl Try.underlying31 rfl ti3 rfl rfl rfl) rfl)) ?_
                refine rg_put (d := 94) (v := .d (.fl (.int .i64 (((akP (qS (pS ls ls.length) ns j).1 (ix ns j))).out)))) rfl (oy rfl rfl rfl rfl (op_load_pt rfl Try.underlying3 rfl rfl rfl rfl rfl)) ?_
                refine rg_put (d := 95) (v := .pt 102 1) rfl (oy rfl rfl rfl rfl (of_eff (s_field_pt rfl Try.underlying31 rfl ti3 rfl rfl rfl) rfl)) ?_
                refine rg_put (d := 96) (v := .d (.fl (.int .i64 ((qS (pS ls ls.length) ns j).1.out)))) rfl (oy rfl rfl rfl rfl (op_load_pt rfl Try.underlying3 rfl rfl rfl rfl rfl)) ?_
                refine rg_put (d := 97) (v := .d (.fl (.bool ((((akP (qS (pS ls ls.length) ns j).1 (ix ns j))).out != (qS (pS ls ls.length) ns j).1.out))))) rfl (oy rfl rfl rfl rfl (op_bin rfl rfl rfl (b_neq _ _ _ _) rfl)) ?_
                refine rg_put (d := 98) (v := .d (.fl (.bool ((((akP (qS (pS ls ls.length) ns j).1 (ix ns j))).out != (qS (pS ls ls.length) ns j).1.out))))) rfl (og rfl (op_pick rfl rfl rfl rfl)) ?_
                refine rg_put (d := 99) (v := .d (.fl (.bool ((((akP (qS (pS ls ls.length) ns j).1 (ix ns j))).out != (qS (pS ls ls.length) ns j).1.out))))) rfl (og rfl (op_move rfl rfl rfl)) ?_
                refine rg_put (d := 100) (v := .pt 102 4) rfl (oy rfl rfl rfl (show ((((akP (qS (pS ls ls.length) ns j).1 (ix ns j))).out != (qS (pS ls ls.length) ns j).1.out)) = false from (by rw [ak_out]; simp)) (of_eff (s_field_pt rfl Try.underlying31 rfl ti24 rfl rfl rfl) rfl)) ?_
                refine rg_put (d := 101) (v := .d (.sl 5 (List.map eRec ((qS (pS ls ls.length) ns j).1.ours)))) rfl (oy rfl rfl rfl (show ((((akP (qS (pS ls ls.length) ns j).1 (ix ns j))).out != (qS (pS ls ls.length) ns j).1.out)) = false from (by rw [ak_out]; simp)) (op_load_pt rfl Try.underlying24 rfl rfl rfl rfl rfl)) ?_
                refine rg_put (d := 102) (v := .pt 103 4) rfl (oy rfl rfl rfl (show ((((akP (qS (pS ls ls.length) ns j).1 (ix ns j))).out != (qS (pS ls ls.length) ns j).1.out)) = false from (by rw [ak_out]; simp)) (of_eff (s_field_pt rfl Try.underlying31 rfl ti24 rfl rfl rfl) rfl)) ?_
                refine rg_put (d := 103) (v := .d (.sl 5 (List.map eRec (((akP (qS (pS ls ls.length) ns j).1 (ix ns j))).ours)))) rfl (oy rfl rfl rfl (show ((((akP (qS (pS ls ls.length) ns j).1 (ix ns j))).out != (qS (pS ls ls.length) ns j).1.out)) = false from (by rw [ak_out]; simp)) (op_load_pt rfl Try.underlying24 rfl rfl rfl rfl rfl)) ?_
                refine rg_put (d := 104) (v := .d (.fl (.bool true))) rfl (oy rfl rfl rfl (show ((((akP (qS (pS ls ls.length) ns j).1 (ix ns j))).out != (qS (pS ls ls.length) ns j).1.out)) = false from (by rw [ak_out]; simp)) (op_call rfl Try.func9 nm9 rfl (.cons rfl (.d _) (.cons rfl (.d _) .nil)) (sarE ((qS (pS ls ls.length) ns j).1.ours) (((akP (qS (pS ls ls.length) ns j).1 (ix ns j))).ours) (ak_ours _ _) (by have := hi2.ol; omega)) rfl)) ?_
                refine rg_put (d := 105) (v := .d (.fl (.bool (!true)))) rfl (oy rfl rfl rfl (show ((((akP (qS (pS ls ls.length) ns j).1 (ix ns j))).out != (qS (pS ls ls.length) ns j).1.out)) = false from (by rw [ak_out]; simp)) (op_un rfl rfl (u_not _) rfl)) ?_
                refine rg_put (d := 106) (v := .d (.fl (.bool (!true)))) rfl (og rfl (op_pick rfl rfl (by rw [(show ((((akP (qS (pS ls ls.length) ns j).1 (ix ns j))).out != (qS (pS ls ls.length) ns j).1.out)) = false from (by rw [ak_out]; simp))]; rfl) rfl)) ?_
                refine rg_done rfl ?_
                refine a_condF rfl rfl ?_
                refine a_skip ?_
                show A _ _ _ _ _ _ _
                refine a_seq ?_
                refine a_rseq ?_
                refine rg_put (d := 107) (v := .d (.fl (.int .i64 ((akE (qS (pS ls ls.length) ns j).1 (ix ns j)))))) rfl (og rfl (op_move rfl rfl rfl)) ?_
                refine rg_put (d := 108) (v := .d (.fl (.bool (((akE (qS (pS ls ls.length) ns j).1 (ix ns j)) == 0))))) rfl (og rfl (op_bin rfl rfl rfl (b_eql _ _ _ _) rfl)) ?_
                refine rg_done rfl ?_
                refine a_cond rfl (fun h19 => ?_) (fun h19 => ?_)
                · skip
                  have h20 := t_beq h19
                  refine a_region ?_
                  refine rg_put (d := 109) (v := .d (.fl (.int .i64 ((qS (pS ls ls.length) ns j).2)))) rfl (og rfl (op_move rfl rfl rfl)) ?_
                  refine rg_put (d := 110) (v := .d (.fl (.int .i64 (ix ns j)))) rfl (og rfl (op_move rfl rfl rfl)) ?_
                  refine rg_put (d := 111) (v := .d (.fl (.int .i64 ((max ((qS (pS ls ls.length) ns j).2) (ix ns j)))))) rfl (og rfl (op_max rfl rfl rfl rfl)) ?_
                  refine rg_put (d := 11) (v := .d (.fl (.int .i64 ((max ((qS (pS ls ls.length) ns j).2) (ix ns j)))))) rfl (og rfl (op_assign rfl rfl rfl)) ?_
                  refine rg_done rfl ?_
                  show A _ _ _ _ _ _ _
                  refine a_rseq ?_
                  refine rg_put (d := 112) (v := .d (.ag (ePt (((akP (qS (pS ls ls.length) ns j).1 (ix ns j))))))) rfl (og rfl (of_eff (s_load_pts rfl Try.underlying31 rfl ti31 rfl rfl rfl rfl) rfl)) ?_
                  refine rg_sto (nw := [(102, .bx 31 ((ePt (((akP (qS (pS ls ls.length) ns j).1 (ix ns j)))))))]) rfl (og rfl (of_eff (s_store rfl rfl ti31 rfl rfl rfl rfl rfl rfl) rfl)) ?_
                  refine rg_done rfl ?_
                  refine a_seq ?_
                  refine a_rseq ?_
                  have hn := q_step hi2
                  have hT : (qS (pS ls ls.length) ns (j + 1)).2 = (max ((qS (pS ls ls.length) ns j).2) (ix ns j)) := q_y h19
                  have hno : (akP (qS (pS ls ls.length) ns j).1 (ix ns j)).out = ((akP (qS (pS ls ls.length) ns j).1 (ix ns j)).wait.length : Int) + 1 + (max ((qS (pS ls ls.length) ns j).2) (ix ns j)) := by have h := hn.out; rw [hT] at h; exact h
                  have hnb : (akP (qS (pS ls ls.length) ns j).1 (ix ns j)).out ≤ 11 := hn.ob
                  have hnm : 0 ≤ (max ((qS (pS ls ls.length) ns j).2) (ix ns j)) := by have h := hn.m0; rw [hT] at h; exact h
                  have hnw : (akP (qS (pS ls ls.length) ns j).1 (ix ns j)).wait.length ≤ 10 := hn.wl
                  have hsq : ∀ i, i < (akP (qS (pS ls ls.length) ns j).1 (ix ns j)).wait.length → (ix (akP (qS (pS ls ls.length) ns j).1 (ix ns j)).wait i).seq = ((max ((qS (pS ls ls.length) ns j).2) (ix ns j)) + 1) + (i : Int) := by have h := hn.sq; rw [hT] at h; exact h
                  refine rg_put (d := 113) (v := .pt 102 3) rfl (og rfl (of_eff (s_field_pt rfl Try.underlying31 rfl ti29 rfl rfl rfl) rfl)) ?_
                  refine rg_put (d := 114) (v := .d (.sl 4 (List.map eFil ((((akP (qS (pS ls ls.length) ns j).1 (ix ns j)))).wait)))) rfl (og rfl (op_load_pt rfl Try.underlying29 rfl rfl rfl rfl rfl)) ?_
                  refine rg_put (d := 115) (v := .d (.fl (.int .i64 ((((((akP (qS (pS ls ls.length) ns j).1 (ix ns j)))).wait).length : Int))))) rfl (og rfl (s_len rfl Try.underlying29 rfl rfl)) ?_
                  refine rg_put (d := 116) (v := .pt 102 1) rfl (og rfl (of_eff (s_field_pt rfl Try.underlying31 rfl ti3 rfl rfl rfl) rfl)) ?_
                  refine rg_put (d := 117) (v := .d (.fl (.int .i64 ((((akP (qS (pS ls ls.length) ns j).1 (ix ns j)))).out)))) rfl (og rfl (op_load_pt rfl Try.underlying3 rfl rfl rfl rfl rfl)) ?_
                  refine rg_put (d := 118) (v := .d (.fl (.int .i64 (((((akP (qS (pS ls ls.length) ns j).1 (ix ns j)))).out - 1))))) rfl (og rfl (op_bin rfl rfl rfl (fun x y w => b_sub64 _ _ _ x y w (by omega)) rfl)) ?_
                  refine rg_put (d := 119) (v := .d (.fl (.int .i64 ((max ((qS (pS ls ls.length) ns j).2) (ix ns j)))))) rfl (og rfl (op_move rfl rfl rfl)) ?_
                  refine rg_put (d := 120) (v := .d (.fl (.int .i64 ((((((akP (qS (pS ls ls.length) ns j).1 (ix ns j)))).out - 1) - (max ((qS (pS ls ls.length) ns j).2) (ix ns j))))))) rfl (og rfl (op_bin rfl rfl rfl (fun x y w => b_sub64 _ _ _ x y w (by omega)) rfl)) ?_
                  refine rg_put (d := 121) (v := .d (.fl (.bool (((((((akP (qS (pS ls ls.length) ns j).1 (ix ns j)))).wait).length : Int) != (((((akP (qS (pS ls ls.length) ns j).1 (ix ns j)))).out - 1) - (max ((qS (pS ls ls.length) ns j).2) (ix ns j)))))))) rfl (og rfl (op_bin rfl rfl rfl (b_neq _ _ _ _) rfl)) ?_
                  refine rg_done rfl ?_
                  refine a_condF rfl (show (((((((akP (qS (pS ls ls.length) ns j).1 (ix ns j)))).wait).length : Int) != (((((akP (qS (pS ls ls.length) ns j).1 (ix ns j)))).out - 1) - (max ((qS (pS ls ls.length) ns j).2) (ix ns j))))) = false from (by rw [bne_eq_false_iff_eq]; omega)) ?_
                  refine a_skip ?_
                  show A _ _ _ _ _ _ _
                  refine a_rseq ?_
                  refine rg_put (d := 122) (v := .pt 102 3) rfl (og rfl (of_eff (s_field_pt rfl Try.underlying31 rfl ti29 rfl rfl rfl) rfl)) ?_
                  refine rg_put (d := 123) (v := .d (.sl 4 (List.map eFil ((((akP (qS (pS ls ls.length) ns j).1 (ix ns j)))).wait)))) rfl (og rfl (op_load_pt rfl Try.underlying29 rfl rfl rfl rfl rfl)) ?_
                  refine rg_put (d := 124) (v := .d (.fl (.int .i64 ((((((akP (qS (pS ls ls.length) ns j).1 (ix ns j)))).wait).length : Int))))) rfl (og rfl (s_len rfl Try.underlying29 rfl rfl)) ?_
                  refine rg_put (d := 125) (v := .d (.fl (.int .i64 0))) rfl (og rfl (op_move rfl rfl rfl)) ?_
                  refine rg_done rfl ?_
                  refine a_block ?_
                  refine a_loop (ι := Nat) (fun i => SS [(0, .d (.sl 1 (List.map (rL 5 eRec) ls))), (1, .d (.sl 1 (List.map (rI .i64) ns))), (2, .d (.ag (eFil f))), (5, .pt 101 0), (7, .pt 102 0), (11, .d (.fl (.int .i64 ((max ((qS (pS ls ls.length) ns j).2) (ix ns j)))))), (13, .d (.fl (.int .i64 (ix ns j)))), (14, .pt 103 0), (15, .d (.fl (.int .i64 ((akE (qS (pS ls ls.length) ns j).1 (ix ns j)))))), (33, .d (.fl (.bool (hvB f.recs)))), (39, .d (.sl 1 (List.map (rL 5 eRec) ls))), (40, .d (.fl (.int .i64 (ls.length : Int)))), (41, .d (.fl (.int .i64 (k : Int)))), (42, .d (.fl (.bool ((decide ((k : Int) < (ls.length : Int))))))), (61, .d (.sl 1 (List.map (rI .i64) ns))), (62, .d (.fl (.int .i64 (ns.length : Int)))), (63, .d (.fl (.int .i64 (j : Int)))), (64, .d (.fl (.bool ((decide ((j : Int) < (ns.length : Int))))))), (106, .d (.fl (.bool (!true)))), (108, .d (.fl (.bool (((akE (qS (pS ls ls.length) ns j).1 (ix ns j)) == 0))))), (121, .d (.fl (.bool (((((((akP (qS (pS ls ls.length) ns j).1 (ix ns j)))).wait).length : Int) != (((((akP (qS (pS ls ls.length) ns j).1 (ix ns j)))).out - 1) - (max ((qS (pS ls ls.length) ns j).2) (ix ns j)))))))), (123, .d (.sl 4 (List.map eFil ((((akP (qS (pS ls ls.length) ns j).1 (ix ns j)))).wait)))), (124, .d (.fl (.int .i64 ((((((akP (qS (pS ls ls.length) ns j).1 (ix ns j)))).wait).length : Int))))), (125, .d (.fl (.int .i64 (i : Int))))] [(101, .bx 26 (eFil f)), (102, .bx 31 ((ePt (((akP (qS (pS ls ls.length) ns j).1 (ix ns j))))))), (103, .bx 31 ((ePt ((akP (qS (pS ls ls.length) ns j).1 (ix ns j))))))]) (fun i => i ≤ (akP (qS (pS ls ls.length) ns j).1 (ix ns j)).wait.length) (fun i => (akP (qS (pS ls ls.length) ns j).1 (ix ns j)).wait.length - i) 0 (by omega) (imp_forget rfl ⟨rfl, rfl, rfl, rfl, rfl, rfl, rfl, rfl, rfl, rfl, rfl, rfl, rfl, rfl, rfl, rfl, rfl, rfl, rfl, rfl, rfl, rfl, rfl, (by first | rfl | exact ci (by omega) | exact ci (by simp) | exact cd (by simp) | simp), trivial⟩ ⟨rfl, rfl, rfl, trivial⟩) (fun i hok => ?_)
                  have hii := hok
                  refine a_rseq ?_
                  refine rg_put (d := 126) (v := .d (.fl (.bool ((decide ((i : Int) < (((((akP (qS (pS ls ls.length) ns j).1 (ix ns j)))).wait).length : Int))))))) rfl (og rfl (op_bin rfl rfl rfl (b_lss _ _ _ _) rfl)) ?_
                  refine rg_done rfl ?_
                  refine a_seq ?_
                  refine a_cond rfl (fun h21 => ?_) (fun h21 => ?_)
                  · skip
                    have h22 := t_dec h21
                    refine a_skip ?_
                    show A _ _ _ _ _ _ _
                    refine a_seq ?_
                    refine a_block ?_
                    refine a_rseq ?_
                    refine rg_put (d := 127) (v := .d (.fl (.int .i64 (i : Int)))) rfl (og rfl (op_move rfl rfl rfl)) ?_
                    refine rg_put (d := 128) (v := .el ((eFil ((ix ((((akP (qS (pS ls ls.length) ns j).1 (ix ns j)))).wait) i))))) rfl (og rfl (s_index rfl Try.underlying29 ti26 rfl rfl (by omega) (row_at (by omega)) rfl)) ?_
                    refine rg_put (d := 129) (v := .d (.ag (eFil (((ix ((((akP (qS (pS ls ls.length) ns j).1 (ix ns j)))).wait) i)))))) rfl (og rfl (of_eff (s_load_els rfl Try.underlying26 rfl ti26 rfl rfl rfl) rfl)) ?_
                    refine rg_nam (d := 17) (v := .pt 104 0) (m := 104) (nw := [(104, .bx 26 ([.fl (.string (⟨#[]⟩)), .fl (.string (⟨#[]⟩)), .fl (.int .i64 0), .fl (.slice none 0 0)]))]) rfl (og rfl (of_eff (s_alloc 104 rfl ti26 (by kernel_rfl) rfl) rfl)) rfl ?_
                    refine rg_put (d := 16) (v := .d (.fl (.int .i64 (i : Int)))) rfl (og rfl (op_assign rfl rfl rfl)) ?_
                    refine rg_sto (nw := [(104, .bx 26 ((eFil (((ix ((((akP (qS (pS ls ls.length) ns j).1 (ix ns j)))).wait) i))))))]) rfl (og rfl (of_eff (s_store rfl rfl ti26 rfl rfl rfl rfl rfl rfl) rfl)) ?_
                    refine rg_done rfl ?_
                    refine a_rseq ?_
                    refine rg_put (d := 130) (v := .pt 104 2) rfl (og rfl (of_eff (s_field_pt rfl Try.underlying26 rfl ti3 rfl rfl rfl) rfl)) ?_
                    refine rg_put (d := 131) (v := .d (.fl (.int .i64 ((((ix ((((akP (qS (pS ls ls.length) ns j).1 (ix ns j)))).wait) i))).seq)))) rfl (og rfl (op_load_pt rfl Try.underlying3 rfl rfl rfl rfl rfl)) ?_
                    refine rg_put (d := 132) (v := .d (.fl (.int .i64 ((max ((qS (pS ls ls.length) ns j).2) (ix ns j)))))) rfl (og rfl (op_move rfl rfl rfl)) ?_
                    refine rg_put (d := 133) (v := .d (.fl (.int .i64 (((max ((qS (pS ls ls.length) ns j).2) (ix ns j)) + 1))))) rfl (og rfl (op_bin rfl rfl rfl (fun x y w => b_add64 _ _ _ x y w (by omega)) rfl)) ?_
                    refine rg_put (d := 134) (v := .d (.fl (.int .i64 (i : Int)))) rfl (og rfl (op_move rfl rfl rfl)) ?_
                    refine rg_put (d := 135) (v := .d (.fl (.int .i64 ((((max ((qS (pS ls ls.length) ns j).2) (ix ns j)) + 1) + (i : Int)))))) rfl (og rfl (op_bin rfl rfl rfl (fun x y w => b_add64 _ _ _ x y w (by omega)) rfl)) ?_
                    refine rg_put (d := 136) (v := .d (.fl (.bool (((((ix ((((akP (qS (pS ls ls.length) ns j).1 (ix ns j)))).wait) i))).seq != (((max ((qS (pS ls ls.length) ns j).2) (ix ns j)) + 1) + (i : Int))))))) rfl (og rfl (op_bin rfl rfl rfl (b_neq _ _ _ _) rfl)) ?_
                    refine rg_done rfl ?_
                    refine a_condF rfl (show (((((ix ((((akP (qS (pS ls ls.length) ns j).1 (ix ns j)))).wait) i))).seq != (((max ((qS (pS ls ls.length) ns j).2) (ix ns j)) + 1) + (i : Int)))) = false from (by rw [bne_eq_false_iff_eq, hsq i (by omega)])) ?_
                    refine a_skip ?_
                    show A _ _ _ _ _ _ _
                    refine a_region ?_
                    refine rg_put (d := 137) (v := .d (.fl (.int .i64 (((i : Int) + 1))))) rfl (og rfl (op_bin rfl rfl rfl (fun x y w => b_add64 _ _ _ x y w (by omega)) rfl)) ?_
                    refine rg_put (d := 125) (v := .d (.fl (.int .i64 (((i : Int) + 1))))) rfl (og rfl (op_move rfl rfl rfl)) ?_
                    refine rg_done rfl ?_
                    show ∃ i, _ ∧ _ ∧ Imp _ _ _ _ _
                    refine ⟨i + 1, (by omega), by omega, imp_forget rfl ⟨rfl, rfl, rfl, rfl, rfl, rfl, rfl, rfl, rfl, rfl, rfl, rfl, rfl, rfl, rfl, rfl, rfl, rfl, rfl, rfl, rfl, rfl, rfl, (by first | rfl | exact ci (by omega) | exact ci (by simp) | exact cd (by simp) | simp), trivial⟩ ⟨rfl, rfl, rfl, trivial⟩⟩
                  · skip
                    have h23 := f_dec h21
                    refine a_exit ?_
                    show A _ _ _ _ _ _ _
                    refine a_region ?_
                    refine rg_put (d := 138) (v := .d (.fl (.int .i64 (((j : Int) + 1))))) rfl (og rfl (op_bin rfl rfl rfl (fun x y w => b_add64 _ _ _ x y w (by omega)) rfl)) ?_
                    refine rg_put (d := 63) (v := .d (.fl (.int .i64 (((j : Int) + 1))))) rfl (og rfl (op_move rfl rfl rfl)) ?_
                    refine rg_done rfl ?_
                    show ∃ i, _ ∧ _ ∧ Imp _ _ _ _ _
                    refine ⟨j + 1, ⟨by omega, q_step hi2⟩, by omega, imp_forget rfl ⟨rfl, rfl, rfl, rfl, rfl, rfl, rfl, rfl, rfl, rfl, rfl, rfl, (ci (by omega)), (congrArg (fun z => AV.d (.fl (.int .i64 z))) (q_y h19).symm), trivial⟩ ⟨rfl, rfl, trivial⟩⟩
                · skip
                  have h24 := f_beq h19
                  refine a_skip ?_
                  show A _ _ _ _ _ _ _
                  refine a_rseq ?_
                  refine rg_put (d := 112) (v := .d (.ag (ePt (((akP (qS (pS ls ls.length) ns j).1 (ix ns j))))))) rfl (og rfl (of_eff (s_load_pts rfl Try.underlying31 rfl ti31 rfl rfl rfl rfl) rfl)) ?_
                  refine rg_sto (nw := [(102, .bx 31 ((ePt (((akP (qS (pS ls ls.length) ns j).1 (ix ns j)))))))]) rfl (og rfl (of_eff (s_store rfl rfl ti31 rfl rfl rfl rfl rfl rfl) rfl)) ?_
                  refine rg_done rfl ?_
                  refine a_seq ?_
                  refine a_rseq ?_
                  have hn := q_step hi2
                  have hT : (qS (pS ls ls.length) ns (j + 1)).2 = (qS (pS ls ls.length) ns j).2 := q_n h19
                  have hno : (akP (qS (pS ls ls.length) ns j).1 (ix ns j)).out = ((akP (qS (pS ls ls.length) ns j).1 (ix ns j)).wait.length : Int) + 1 + (qS (pS ls ls.length) ns j).2 := by have h := hn.out; rw [hT] at h; exact h
                  have hnb : (akP (qS (pS ls ls.length) ns j).1 (ix ns j)).out ≤ 11 := hn.ob
                  have hnm : 0 ≤ (qS (pS ls ls.length) ns j).2 := by have h := hn.m0; rw [hT] at h; exact h
                  have hnw : (akP (qS (pS ls ls.length) ns j).1 (ix ns j)).wait.length ≤ 10 := hn.wl
                  have hsq : ∀ i, i < (akP (qS (pS ls ls.length) ns j).1 (ix ns j)).wait.length → (ix (akP (qS (pS ls ls.length) ns j).1 (ix ns j)).wait i).seq = ((qS (pS ls ls.length) ns j).2 + 1) + (i : Int) := by have h := hn.sq; rw [hT] at h; exact h
                  refine rg_put (d := 113) (v := .pt 102 3) rfl (og rfl (of_eff (s_field_pt rfl Try.underlying31 rfl ti29 rfl rfl rfl) rfl)) ?_
                  refine rg_put (d := 114) (v := .d (.sl 4 (List.map eFil ((((akP (qS (pS ls ls.length) ns j).1 (ix ns j)))).wait)))) rfl (og rfl (op_load_pt rfl Try.underlying29 rfl rfl rfl rfl rfl)) ?_
                  refine rg_put (d := 115) (v := .d (.fl (.int .i64 ((((((akP (qS (pS ls ls.length) ns j).1 (ix ns j)))).wait).length : Int))))) rfl (og rfl (s_len rfl Try.underlying29 rfl rfl)) ?_
                  refine rg_put (d := 116) (v := .pt 102 1) rfl (og rfl (of_eff (s_field_pt rfl Try.underlying31 rfl ti3 rfl rfl rfl) rfl)) ?_
                  refine rg_put (d := 117) (v := .d (.fl (.int .i64 ((((akP (qS (pS ls ls.length) ns j).1 (ix ns j)))).out)))) rfl (og rfl (op_load_pt rfl Try.underlying3 rfl rfl rfl rfl rfl)) ?_
                  refine rg_put (d := 118) (v := .d (.fl (.int .i64 (((((akP (qS (pS ls ls.length) ns j).1 (ix ns j)))).out - 1))))) rfl (og rfl (op_bin rfl rfl rfl (fun x y w => b_sub64 _ _ _ x y w (by omega)) rfl)) ?_
                  refine rg_put (d := 119) (v := .d (.fl (.int .i64 ((qS (pS ls ls.length) ns j).2)))) rfl (og rfl (op_move rfl rfl rfl)) ?_
                  refine rg_put (d := 120) (v := .d (.fl (.int .i64 ((((((akP (qS (pS ls ls.length) ns j).1 (ix ns j)))).out - 1) - (qS (pS ls ls.length) ns j).2))))) rfl (og rfl (op_bin rfl rfl rfl (fun x y w => b_sub64 _ _ _ x y w (by omega)) rfl)) ?_
                  refine rg_put (d := 121) (v := .d (.fl (.bool (((((((akP (qS (pS ls ls.length) ns j).1 (ix ns j)))).wait).length : Int) != (((((akP (qS (pS ls ls.length) ns j).1 (ix ns j)))).out - 1) - (qS (pS ls ls.length) ns j).2)))))) rfl (og rfl (op_bin rfl rfl rfl (b_neq _ _ _ _) rfl)) ?_
                  refine rg_done rfl ?_
                  refine a_condF rfl (show (((((((akP (qS (pS ls ls.length) ns j).1 (ix ns j)))).wait).length : Int) != (((((akP (qS (pS ls ls.length) ns j).1 (ix ns j)))).out - 1) - (qS (pS ls ls.length) ns j).2))) = false from (by rw [bne_eq_false_iff_eq]; omega)) ?_
                  refine a_skip ?_
                  show A _ _ _ _ _ _ _
                  refine a_rseq ?_
                  refine rg_put (d := 122) (v := .pt 102 3) rfl (og rfl (of_eff (s_field_pt rfl Try.underlying31 rfl ti29 rfl rfl rfl) rfl)) ?_
                  refine rg_put (d := 123) (v := .d (.sl 4 (List.map eFil ((((akP (qS (pS ls ls.length) ns j).1 (ix ns j)))).wait)))) rfl (og rfl (op_load_pt rfl Try.underlying29 rfl rfl rfl rfl rfl)) ?_
                  refine rg_put (d := 124) (v := .d (.fl (.int .i64 ((((((akP (qS (pS ls ls.length) ns j).1 (ix ns j)))).wait).length : Int))))) rfl (og rfl (s_len rfl Try.underlying29 rfl rfl)) ?_
                  refine rg_put (d := 125) (v := .d (.fl (.int .i64 0))) rfl (og rfl (op_move rfl rfl rfl)) ?_
                  refine rg_done rfl ?_
                  refine a_block ?_
                  refine a_loop (ι := Nat) (fun i => SS [(0, .d (.sl 1 (List.map (rL 5 eRec) ls))), (1, .d (.sl 1 (List.map (rI .i64) ns))), (2, .d (.ag (eFil f))), (5, .pt 101 0), (7, .pt 102 0), (11, .d (.fl (.int .i64 ((qS (pS ls ls.length) ns j).2)))), (13, .d (.fl (.int .i64 (ix ns j)))), (14, .pt 103 0), (15, .d (.fl (.int .i64 ((akE (qS (pS ls ls.length) ns j).1 (ix ns j)))))), (33, .d (.fl (.bool (hvB f.recs)))), (39, .d (.sl 1 (List.map (rL 5 eRec) ls))), (40, .d (.fl (.int .i64 (ls.length : Int)))), (41, .d (.fl (.int .i64 (k : Int)))), (42, .d (.fl (.bool ((decide ((k : Int) < (ls.length : Int))))))), (61, .d (.sl 1 (List.map (rI .i64) ns))), (62, .d (.fl (.int .i64 (ns.length : Int)))), (63, .d (.fl (.int .i64 (j : Int)))), (64, .d (.fl (.bool ((decide ((j : Int) < (ns.length : Int))))))), (106, .d (.fl (.bool (!true)))), (108, .d (.fl (.bool (((akE (qS (pS ls ls.length) ns j).1 (ix ns j)) == 0))))), (121, .d (.fl (.bool (((((((akP (qS (pS ls ls.length) ns j).1 (ix ns j)))).wait).length : Int) != (((((akP (qS (pS ls ls.length) ns j).1 (ix ns j)))).out - 1) - (qS (pS ls ls.length) ns j).2)))))), (123, .d (.sl 4 (List.map eFil ((((akP (qS (pS ls ls.length) ns j).1 (ix ns j)))).wait)))), (124, .d (.fl (.int .i64 ((((((akP (qS (pS ls ls.length) ns j).1 (ix ns j)))).wait).length : Int))))), (125, .d (.fl (.int .i64 (i : Int))))] [(101, .bx 26 (eFil f)), (102, .bx 31 ((ePt (((akP (qS (pS ls ls.length) ns j).1 (ix ns j))))))), (103, .bx 31 ((ePt ((akP (qS (pS ls ls.length) ns j).1 (ix ns j))))))]) (fun i => i ≤ (akP (qS (pS ls ls.length) ns j).1 (ix ns j)).wait.length) (fun i => (akP (qS (pS ls ls.length) ns j).1 (ix ns j)).wait.length - i) 0 (by omega) (imp_forget rfl ⟨rfl, rfl, rfl, rfl, rfl, rfl, rfl, rfl, rfl, rfl, rfl, rfl, rfl, rfl, rfl, rfl, rfl, rfl, rfl, rfl, rfl, rfl, rfl, (by first | rfl | exact ci (by omega) | exact ci (by simp) | exact cd (by simp) | simp), trivial⟩ ⟨rfl, rfl, rfl, trivial⟩) (fun i hok => ?_)
                  have hii := hok
                  refine a_rseq ?_
                  refine rg_put (d := 126) (v := .d (.fl (.bool ((decide ((i : Int) < (((((akP (qS (pS ls ls.length) ns j).1 (ix ns j)))).wait).length : Int))))))) rfl (og rfl (op_bin rfl rfl rfl (b_lss _ _ _ _) rfl)) ?_
                  refine rg_done rfl ?_
                  refine a_seq ?_
                  refine a_cond rfl (fun h25 => ?_) (fun h25 => ?_)
                  · skip
                    have h26 := t_dec h25
                    refine a_skip ?_
                    show A _ _ _ _ _ _ _
                    refine a_seq ?_
                    refine a_block ?_
                    refine a_rseq ?_
                    refine rg_put (d := 127) (v := .d (.fl (.int .i64 (i : Int)))) rfl (og rfl (op_move rfl rfl rfl)) ?_
                    refine rg_put (d := 128) (v := .el ((eFil ((ix ((((akP (qS (pS ls ls.length) ns j).1 (ix ns j)))).wait) i))))) rfl (og rfl (s_index rfl Try.underlying29 ti26 rfl rfl (by omega) (row_at (by omega)) rfl)) ?_
                    refine rg_put (d := 129) (v := .d (.ag (eFil (((ix ((((akP (qS (pS ls ls.length) ns j).1 (ix ns j)))).wait) i)))))) rfl (og rfl (of_eff (s_load_els rfl Try.underlying26 rfl ti26 rfl rfl rfl) rfl)) ?_
                    refine rg_nam (d := 17) (v := .pt 105 0) (m := 105) (nw := [(105, .bx 26 ([.fl (.string (⟨#[]⟩)), .fl (.string (⟨#[]⟩)), .fl (.int .i64 0), .fl (.slice none 0 0)]))]) rfl (og rfl (of_eff (s_alloc 105 rfl ti26 (by kernel_rfl) rfl) rfl)) rfl ?_
                    refine rg_put (d := 16) (v := .d (.fl (.int .i64 (i : Int)))) rfl (og rfl (op_assign rfl rfl rfl)) ?_
                    refine rg_sto (nw := [(105, .bx 26 ((eFil (((ix ((((akP (qS (pS ls ls.length) ns j).1 (ix ns j)))).wait) i))))))]) rfl (og rfl (of_eff (s_store rfl rfl ti26 rfl rfl rfl rfl rfl rfl) rfl)) ?_
                    refine rg_done rfl ?_
                    refine a_rseq ?_
                    refine rg_put (d := 130) (v := .pt 105 2) rfl (og rfl (of_eff (s_field_pt rfl Try.underlying26 rfl ti3 rfl rfl rfl) rfl)) ?_
                    refine rg_put (d := 131) (v := .d (.fl (.int .i64 ((((ix ((((akP (qS (pS ls ls.length) ns j).1 (ix ns j)))).wait) i))).seq)))) rfl (og rfl (op_load_pt rfl Try.underlying3 rfl rfl rfl rfl rfl)) ?_
                    refine rg_put (d := 132) (v := .d (.fl (.int .i64 ((qS (pS ls ls.length) ns j).2)))) rfl (og rfl (op_move rfl rfl rfl)) ?_
                    refine rg_put (d := 133) (v := .d (.fl (.int .i64 (((qS (pS ls ls.length) ns j).2 + 1))))) rfl (og rfl (op_bin rfl rfl rfl (fun x y w => b_add64 _ _ _ x y w (by omega)) rfl)) ?_
                    refine rg_put (d := 134) (v := .d (.fl (.int .i64 (i : Int)))) rfl (og rfl (op_move rfl rfl rfl)) ?_
                    refine rg_put (d := 135) (v := .d (.fl (.int .i64 ((((qS (pS ls ls.length) ns j).2 + 1) + (i : Int)))))) rfl (og rfl (op_bin rfl rfl rfl (fun x y w => b_add64 _ _ _ x y w (by omega)) rfl)) ?_
                    refine rg_put (d := 136) (v := .d (.fl (.bool (((((ix ((((akP (qS (pS ls ls.length) ns j).1 (ix ns j)))).wait) i))).seq != (((qS (pS ls ls.length) ns j).2 + 1) + (i : Int))))))) rfl (og rfl (op_bin rfl rfl rfl (b_neq _ _ _ _) rfl)) ?_
                    refine rg_done rfl ?_
                    refine a_condF rfl (show (((((ix ((((akP (qS (pS ls ls.length) ns j).1 (ix ns j)))).wait) i))).seq != (((qS (pS ls ls.length) ns j).2 + 1) + (i : Int)))) = false from (by rw [bne_eq_false_iff_eq, hsq i (by omega)])) ?_
                    refine a_skip ?_
                    show A _ _ _ _ _ _ _
                    refine a_region ?_
                    refine rg_put (d := 137) (v := .d (.fl (.int .i64 (((i : Int) + 1))))) rfl (og rfl (op_bin rfl rfl rfl (fun x y w => b_add64 _ _ _ x y w (by omega)) rfl)) ?_
                    refine rg_put (d := 125) (v := .d (.fl (.int .i64 (((i : Int) + 1))))) rfl (og rfl (op_move rfl rfl rfl)) ?_
                    refine rg_done rfl ?_
                    show ∃ i, _ ∧ _ ∧ Imp _ _ _ _ _
                    refine ⟨i + 1, (by omega), by omega, imp_forget rfl ⟨rfl, rfl, rfl, rfl, rfl, rfl, rfl, rfl, rfl, rfl, rfl, rfl, rfl, rfl, rfl, rfl, rfl, rfl, rfl, rfl, rfl, rfl, rfl, (by first | rfl | exact ci (by omega) | exact ci (by simp) | exact cd (by simp) | simp), trivial⟩ ⟨rfl, rfl, rfl, trivial⟩⟩
                  · skip
                    have h27 := f_dec h25
                    refine a_exit ?_
                    show A _ _ _ _ _ _ _
                    refine a_region ?_
                    refine rg_put (d := 138) (v := .d (.fl (.int .i64 (((j : Int) + 1))))) rfl (og rfl (op_bin rfl rfl rfl (fun x y w => b_add64 _ _ _ x y w (by omega)) rfl)) ?_
                    refine rg_put (d := 63) (v := .d (.fl (.int .i64 (((j : Int) + 1))))) rfl (og rfl (op_move rfl rfl rfl)) ?_
                    refine rg_done rfl ?_
                    show ∃ i, _ ∧ _ ∧ Imp _ _ _ _ _
                    refine ⟨j + 1, ⟨by omega, q_step hi2⟩, by omega, imp_forget rfl ⟨rfl, rfl, rfl, rfl, rfl, rfl, rfl, rfl, rfl, rfl, rfl, rfl, (ci (by omega)), (congrArg (fun z => AV.d (.fl (.int .i64 z))) (q_n h19).symm), trivial⟩ ⟨rfl, rfl, trivial⟩⟩
              · skip
                have h28 := t_bne h17
                refine rg_put (d := 88) (v := .d (.fl (.int .i64 ((akE (qS (pS ls ls.length) ns j).1 (ix ns j)))))) rfl (oy rfl rfl rfl h17 (op_move rfl rfl rfl)) ?_
                refine rg_put (d := 89) (v := .d (.fl (.bool (((akE (qS (pS ls ls.length) ns j).1 (ix ns j)) != 31))))) rfl (oy rfl rfl rfl h17 (op_bin rfl rfl rfl (b_neq _ _ _ _) rfl)) ?_
                refine rg_put (d := 90) (v := .d (.fl (.bool (((akE (qS (pS ls ls.length) ns j).1 (ix ns j)) != 31))))) rfl (oy rfl rfl rfl (show ((!(((akE (qS (pS ls ls.length) ns j).1 (ix ns j)) == 0) == false))) = false from (by rw [akE_b, show decide (0 ≤ (ix ns j)) = false from by assumption]; rfl)) (op_pick rfl rfl (by rw [h17]; rfl) rfl)) ?_
                refine rg_put (d := 91) (v := .d (.fl (.bool (((akE (qS (pS ls ls.length) ns j).1 (ix ns j)) != 31))))) rfl (og rfl (op_pick rfl rfl (by rw [(show ((!(((akE (qS (pS ls ls.length) ns j).1 (ix ns j)) == 0) == false))) = false from (by rw [akE_b, show decide (0 ≤ (ix ns j)) = false from by assumption]; rfl))]; rfl) rfl)) ?_
                refine rg_put (d := 92) (v := .d (.fl (.bool (((akE (qS (pS ls ls.length) ns j).1 (ix ns j)) != 31))))) rfl (og rfl (op_move rfl rfl rfl)) ?_
                refine rg_put (d := 93) (v := .pt 103 1) rfl (oy rfl rfl rfl (show (((akE (qS (pS ls ls.length) ns j).1 (ix ns j)) != 31)) = false from (ak_31 (by assumption))) (of_eff (s_field_pt rfl Try.underlying31 rfl ti3 rfl rfl rfl) rfl)) ?_
                refine rg_put (d := 94) (v := .d (.fl (.int .i64 (((akP (qS (pS ls ls.length) ns j).1 (ix ns j))).out)))) rfl (oy rfl rfl rfl (show (((akE (qS (pS ls ls.length) ns j).1 (ix ns j)) != 31)) = false from (ak_31 (by assumption))) (op_load_pt rfl Try.underlying3 rfl rfl rfl rfl rfl)) ?_
                refine rg_put (d := 95) (v := .pt 102 1) rfl (oy rfl rfl rfl (show (((akE (qS (pS ls ls.length) ns j).1 (ix ns j)) != 31)) = false from (ak_31 (by assumption))) (of_eff (s_field_pt rfl Try.underlying31 rfl ti3 rfl rfl rfl) rfl)) ?_
                refine rg_put (d := 96) (v := .d (.fl (.int .i64 ((qS (pS ls ls.length) ns j).1.out)))) rfl (oy rfl rfl rfl (show (((akE (qS (pS ls ls.length) ns j).1 (ix ns j)) != 31)) = false from (ak_31 (by assumption))) (op_load_pt rfl Try.underlying3 rfl rfl rfl rfl rfl)) ?_
                refine rg_put (d := 97) (v := .d (.fl (.bool ((((akP (qS (pS ls ls.length) ns j).1 (ix ns j))).out != (qS (pS ls ls.length) ns j).1.out))))) rfl (oy rfl rfl rfl (show (((akE (qS (pS ls ls.length) ns j).1 (ix ns j)) != 31)) = false from (ak_31 (by assumption))) (op_bin rfl rfl rfl (b_neq _ _ _ _) rfl)) ?_
                refine rg_put (d := 98) (v := .d (.fl (.bool ((((akP (qS (pS ls ls.length) ns j).1 (ix ns j))).out != (qS (pS ls ls.length) ns j).1.out))))) rfl (og rfl (op_pick rfl rfl (by rw [(show (((akE (qS (pS ls ls.length) ns j).1 (ix ns j)) != 31)) = false from (ak_31 (by assumption)))]; rfl) rfl)) ?_
                refine rg_put (d := 99) (v := .d (.fl (.bool ((((akP (qS (pS ls ls.length) ns j).1 (ix ns j))).out != (qS (pS ls ls.length) ns j).1.out))))) rfl (og rfl (op_move rfl rfl rfl)) ?_
                refine rg_put (d := 100) (v := .pt 102 4) rfl (oy rfl rfl rfl (show ((((akP (qS (pS ls ls.length) ns j).1 (ix ns j))).out != (qS (pS ls ls.length) ns j).1.out)) = false from (by rw [ak_out]; simp)) (of_eff (s_field_pt rfl Try.underlying31 rfl ti24 rfl rfl rfl) rfl)) ?_
                refine rg_put (d := 101) (v := .d (.sl 5 (List.map eRec ((qS (pS ls ls.length) ns j).1.ours)))) rfl (oy rfl rfl rfl (show ((((akP (qS (pS ls ls.length) ns j).1 (ix ns j))).out != (qS (pS ls ls.length) ns j).1.out)) = false from (by rw [ak_out]; simp)) (op_load_pt rfl Try.underlying24 rfl rfl rfl rfl rfl)) ?_
                refine rg_put (d := 102) (v := .pt 103 4) rfl (oy rfl rfl rfl (show ((((akP (qS (pS ls ls.length) ns j).1 (ix ns j))).out != (qS (pS ls ls.length) ns j).1.out)) = false from (by rw [ak_out]; simp)) (of_eff (s_field_pt rfl Try.underlying31 rfl ti24 rfl rfl rfl) rfl)) ?_
                refine rg_put (d := 103) (v := .d (.sl 5 (List.map eRec (((akP (qS (pS ls ls.length) ns j).1 (ix ns j))).ours)))) rfl (oy rfl rfl rfl (show ((((akP (qS (pS ls ls.length) ns j).1 (ix ns j))).out != (qS (pS ls ls.length) ns j).1.out)) = false from (by rw [ak_out]; simp)) (op_load_pt rfl Try.underlying24 rfl rfl rfl rfl rfl)) ?_
                refine rg_put (d := 104) (v := .d (.fl (.bool true))) rfl (oy rfl rfl rfl (show ((((akP (qS (pS ls ls.length) ns j).1 (ix ns j))).out != (qS (pS ls ls.length) ns j).1.out)) = false from (by rw [ak_out]; simp)) (op_call rfl Try.func9 nm9 rfl (.cons rfl (.d _) (.cons rfl (.d _) .nil)) (sarE ((qS (pS ls ls.length) ns j).1.ours) (((akP (qS (pS ls ls.length) ns j).1 (ix ns j))).ours) (ak_ours _ _) (by have := hi2.ol; omega)) rfl)) ?_
                refine rg_put (d := 105) (v := .d (.fl (.bool (!true)))) rfl (oy rfl rfl rfl (show ((((akP (qS (pS ls ls.length) ns j).1 (ix ns j))).out != (qS (pS ls ls.length) ns j).1.out)) = false from (by rw [ak_out]; simp)) (op_un rfl rfl (u_not _) rfl)) ?_
                refine rg_put (d := 106) (v := .d (.fl (.bool (!true)))) rfl (og rfl (op_pick rfl rfl (by rw [(show ((((akP (qS (pS ls ls.length) ns j).1 (ix ns j))).out != (qS (pS ls ls.length) ns j).1.out)) = false from (by rw [ak_out]; simp))]; rfl) rfl)) ?_
                refine rg_done rfl ?_
                refine a_condF rfl rfl ?_
                refine a_skip ?_
                show A _ _ _ _ _ _ _
                refine a_seq ?_
                refine a_rseq ?_
                refine rg_put (d := 107) (v := .d (.fl (.int .i64 ((akE (qS (pS ls ls.length) ns j).1 (ix ns j)))))) rfl (og rfl (op_move rfl rfl rfl)) ?_
                refine rg_put (d := 108) (v := .d (.fl (.bool (((akE (qS (pS ls ls.length) ns j).1 (ix ns j)) == 0))))) rfl (og rfl (op_bin rfl rfl rfl (b_eql _ _ _ _) rfl)) ?_
                refine rg_done rfl ?_
                refine a_cond rfl (fun h29 => ?_) (fun h29 => ?_)
                · skip
                  have h30 := t_beq h29
                  refine a_region ?_
                  refine rg_put (d := 109) (v := .d (.fl (.int .i64 ((qS (pS ls ls.length) ns j).2)))) rfl (og rfl (op_move rfl rfl rfl)) ?_
                  refine rg_put (d := 110) (v := .d (.fl (.int .i64 (ix ns j)))) rfl (og rfl (op_move rfl rfl rfl)) ?_
                  refine rg_put (d := 111) (v := .d (.fl (.int .i64 ((max ((qS (pS ls ls.length) ns j).2) (ix ns j)))))) rfl (og rfl (op_max rfl rfl rfl rfl)) ?_
                  refine rg_put (d := 11) (v := .d (.fl (.int .i64 ((max ((qS (pS ls ls.length) ns j).2) (ix ns j)))))) rfl (og rfl (op_assign rfl rfl rfl)) ?_
                  refine rg_done rfl ?_
                  show A _ _ _ _ _ _ _
                  refine a_rseq ?_
                  refine rg_put (d := 112) (v := .d (.ag (ePt (((akP (qS (pS ls ls.length) ns j).1 (ix ns j))))))) rfl (og rfl (of_eff (s_load_pts rfl Try.underlying31 rfl ti31 rfl rfl rfl rfl) rfl)) ?_
                  refine rg_sto (nw := [(102, .bx 31 ((ePt (((akP (qS (pS ls ls.length) ns j).1 (ix ns j)))))))]) rfl (og rfl (of_eff (s_store rfl rfl ti31 rfl rfl rfl rfl rfl rfl) rfl)) ?_
                  refine rg_done rfl ?_
                  refine a_seq ?_
                  refine a_rseq ?_
                  have hn := q_step hi2
                  have hT : (qS (pS ls ls.length) ns (j + 1)).2 = (max ((qS (pS ls ls.length) ns j).2) (ix ns j)) := q_y h29
                  have hno : (akP (qS (pS ls ls.length) ns j).1 (ix ns j)).out = ((akP (qS (pS ls ls.length) ns j).1 (ix ns j)).wait.length : Int) + 1 + (max ((qS (pS ls ls.length) ns j).2) (ix ns j)) := by have h := hn.out; rw [hT] at h; exact h
                  have hnb : (akP (qS (pS ls ls.length) ns j).1 (ix ns j)).out ≤ 11 := hn.ob
                  have hnm : 0 ≤ (max ((qS (pS ls ls.length) ns j).2) (ix ns j)) := by have h := hn.m0; rw [hT] at h; exact h
                  have hnw : (akP (qS (pS ls ls.length) ns j).1 (ix ns j)).wait.length ≤ 10 := hn.wl
                  have hsq : ∀ i, i < (akP (qS (pS ls ls.length) ns j).1 (ix ns j)).wait.length → (ix (akP (qS (pS ls ls.length) ns j).1 (ix ns j)).wait i).seq = ((max ((qS (pS ls ls.length) ns j).2) (ix ns j)) + 1) + (i : Int) := by have h := hn.sq; rw [hT] at h; exact h
                  refine rg_put (d := 113) (v := .pt 102 3) rfl (og rfl (of_eff (s_field_pt rfl Try.underlying31 rfl ti29 rfl rfl rfl) rfl)) ?_
                  refine rg_put (d := 114) (v := .d (.sl 4 (List.map eFil ((((akP (qS (pS ls ls.length) ns j).1 (ix ns j)))).wait)))) rfl (og rfl (op_load_pt rfl Try.underlying29 rfl rfl rfl rfl rfl)) ?_
                  refine rg_put (d := 115) (v := .d (.fl (.int .i64 ((((((akP (qS (pS ls ls.length) ns j).1 (ix ns j)))).wait).length : Int))))) rfl (og rfl (s_len rfl Try.underlying29 rfl rfl)) ?_
                  refine rg_put (d := 116) (v := .pt 102 1) rfl (og rfl (of_eff (s_field_pt rfl Try.underlying31 rfl ti3 rfl rfl rfl) rfl)) ?_
                  refine rg_put (d := 117) (v := .d (.fl (.int .i64 ((((akP (qS (pS ls ls.length) ns j).1 (ix ns j)))).out)))) rfl (og rfl (op_load_pt rfl Try.underlying3 rfl rfl rfl rfl rfl)) ?_
                  refine rg_put (d := 118) (v := .d (.fl (.int .i64 (((((akP (qS (pS ls ls.length) ns j).1 (ix ns j)))).out - 1))))) rfl (og rfl (op_bin rfl rfl rfl (fun x y w => b_sub64 _ _ _ x y w (by omega)) rfl)) ?_
                  refine rg_put (d := 119) (v := .d (.fl (.int .i64 ((max ((qS (pS ls ls.length) ns j).2) (ix ns j)))))) rfl (og rfl (op_move rfl rfl rfl)) ?_
                  refine rg_put (d := 120) (v := .d (.fl (.int .i64 ((((((akP (qS (pS ls ls.length) ns j).1 (ix ns j)))).out - 1) - (max ((qS (pS ls ls.length) ns j).2) (ix ns j))))))) rfl (og rfl (op_bin rfl rfl rfl (fun x y w => b_sub64 _ _ _ x y w (by omega)) rfl)) ?_
                  refine rg_put (d := 121) (v := .d (.fl (.bool (((((((akP (qS (pS ls ls.length) ns j).1 (ix ns j)))).wait).length : Int) != (((((akP (qS (pS ls ls.length) ns j).1 (ix ns j)))).out - 1) - (max ((qS (pS ls ls.length) ns j).2) (ix ns j)))))))) rfl (og rfl (op_bin rfl rfl rfl (b_neq _ _ _ _) rfl)) ?_
                  refine rg_done rfl ?_
                  refine a_condF rfl (show (((((((akP (qS (pS ls ls.length) ns j).1 (ix ns j)))).wait).length : Int) != (((((akP (qS (pS ls ls.length) ns j).1 (ix ns j)))).out - 1) - (max ((qS (pS ls ls.length) ns j).2) (ix ns j))))) = false from (by rw [bne_eq_false_iff_eq]; omega)) ?_
                  refine a_skip ?_
                  show A _ _ _ _ _ _ _
                  refine a_rseq ?_
                  refine rg_put (d := 122) (v := .pt 102 3) rfl (og rfl (of_eff (s_field_pt rfl Try.underlying31 rfl ti29 rfl rfl rfl) rfl)) ?_
                  refine rg_put (d := 123) (v := .d (.sl 4 (List.map eFil ((((akP (qS (pS ls ls.length) ns j).1 (ix ns j)))).wait)))) rfl (og rfl (op_load_pt rfl Try.underlying29 rfl rfl rfl rfl rfl)) ?_
                  refine rg_put (d := 124) (v := .d (.fl (.int .i64 ((((((akP (qS (pS ls ls.length) ns j).1 (ix ns j)))).wait).length : Int))))) rfl (og rfl (s_len rfl Try.underlying29 rfl rfl)) ?_
                  refine rg_put (d := 125) (v := .d (.fl (.int .i64 0))) rfl (og rfl (op_move rfl rfl rfl)) ?_
                  refine rg_done rfl ?_
                  refine a_block ?_
                  refine a_loop (ι := Nat) (fun i => SS [(0, .d (.sl 1 (List.map (rL 5 eRec) ls))), (1, .d (.sl 1 (List.map (rI .i64) ns))), (2, .d (.ag (eFil f))), (5, .pt 101 0), (7, .pt 102 0), (11, .d (.fl (.int .i64 ((max ((qS (pS ls ls.length) ns j).2) (ix ns j)))))), (13, .d (.fl (.int .i64 (ix ns j)))), (14, .pt 103 0), (15, .d (.fl (.int .i64 ((akE (qS (pS ls ls.length) ns j).1 (ix ns j)))))), (33, .d (.fl (.bool (hvB f.recs)))), (39, .d (.sl 1 (List.map (rL 5 eRec) ls))), (40, .d (.fl (.int .i64 (ls.length : Int)))), (41, .d (.fl (.int .i64 (k : Int)))), (42, .d (.fl (.bool ((decide ((k : Int) < (ls.length : Int))))))), (61, .d (.sl 1 (List.map (rI .i64) ns))), (62, .d (.fl (.int .i64 (ns.length : Int)))), (63, .d (.fl (.int .i64 (j : Int)))), (64, .d (.fl (.bool ((decide ((j : Int) < (ns.length : Int))))))), (106, .d (.fl (.bool (!true)))), (108, .d (.fl (.bool (((akE (qS (pS ls ls.length) ns j).1 (ix ns j)) == 0))))), (121, .d (.fl (.bool (((((((akP (qS (pS ls ls.length) ns j).1 (ix ns j)))).wait).length : Int) != (((((akP (qS (pS ls ls.length) ns j).1 (ix ns j)))).out - 1) - (max ((qS (pS ls ls.length) ns j).2) (ix ns j)))))))), (123, .d (.sl 4 (List.map eFil ((((akP (qS (pS ls ls.length) ns j).1 (ix ns j)))).wait)))), (124, .d (.fl (.int .i64 ((((((akP (qS (pS ls ls.length) ns j).1 (ix ns j)))).wait).length : Int))))), (125, .d (.fl (.int .i64 (i : Int))))] [(101, .bx 26 (eFil f)), (102, .bx 31 ((ePt (((akP (qS (pS ls ls.length) ns j).1 (ix ns j))))))), (103, .bx 31 ((ePt ((akP (qS (pS ls ls.length) ns j).1 (ix ns j))))))]) (fun i => i ≤ (akP (qS (pS ls ls.length) ns j).1 (ix ns j)).wait.length) (fun i => (akP (qS (pS ls ls.length) ns j).1 (ix ns j)).wait.length - i) 0 (by omega) (imp_forget rfl ⟨rfl, rfl, rfl, rfl, rfl, rfl, rfl, rfl, rfl, rfl, rfl, rfl, rfl, rfl, rfl, rfl, rfl, rfl, rfl, rfl, rfl, rfl, rfl, (by first | rfl | exact ci (by omega) | exact ci (by simp) | exact cd (by simp) | simp), trivial⟩ ⟨rfl, rfl, rfl, trivial⟩) (fun i hok => ?_)
                  have hii := hok
                  refine a_rseq ?_
                  refine rg_put (d := 126) (v := .d (.fl (.bool ((decide ((i : Int) < (((((akP (qS (pS ls ls.length) ns j).1 (ix ns j)))).wait).length : Int))))))) rfl (og rfl (op_bin rfl rfl rfl (b_lss _ _ _ _) rfl)) ?_
                  refine rg_done rfl ?_
                  refine a_seq ?_
                  refine a_cond rfl (fun h31 => ?_) (fun h31 => ?_)
                  · skip
                    have h32 := t_dec h31
                    refine a_skip ?_
                    show A _ _ _ _ _ _ _
                    refine a_seq ?_
                    refine a_block ?_
                    refine a_rseq ?_
                    refine rg_put (d := 127) (v := .d (.fl (.int .i64 (i : Int)))) rfl (og rfl (op_move rfl rfl rfl)) ?_
                    refine rg_put (d := 128) (v := .el ((eFil ((ix ((((akP (qS (pS ls ls.length) ns j).1 (ix ns j)))).wait) i))))) rfl (og rfl (s_index rfl Try.underlying29 ti26 rfl rfl (by omega) (row_at (by omega)) rfl)) ?_
                    refine rg_put (d := 129) (v := .d (.ag (eFil (((ix ((((akP (qS (pS ls ls.length) ns j).1 (ix ns j)))).wait) i)))))) rfl (og rfl (of_eff (s_load_els rfl Try.underlying26 rfl ti26 rfl rfl rfl) rfl)) ?_
                    refine rg_nam (d := 17) (v := .pt 106 0) (m := 106) (nw := [(106, .bx 26 ([.fl (.string (⟨#[]⟩)), .fl (.string (⟨#[]⟩)), .fl (.int .i64 0), .fl (.slice none 0 0)]))]) rfl (og rfl (of_eff (s_alloc 106 rfl ti26 (by kernel_rfl) rfl) rfl)) rfl ?_
                    refine rg_put (d := 16) (v := .d (.fl (.int .i64 (i : Int)))) rfl (og rfl (op_assign rfl rfl rfl)) ?_
                    refine rg_sto (nw := [(106, .bx 26 ((eFil (((ix ((((akP (qS (pS ls ls.length) ns j).1 (ix ns j)))).wait) i))))))]) rfl (og rfl (of_eff (s_store rfl rfl ti26 rfl rfl rfl rfl rfl rfl) rfl)) ?_
                    refine rg_done rfl ?_
                    refine a_rseq ?_
                    refine rg_put (d := 130) (v := .pt 106 2) rfl (og rfl (of_eff (s_field_pt rfl Try.underlying26 rfl ti3 rfl rfl rfl) rfl)) ?_
                    refine rg_put (d := 131) (v := .d (.fl (.int .i64 ((((ix ((((akP (qS (pS ls ls.length) ns j).1 (ix ns j)))).wait) i))).seq)))) rfl (og rfl (op_load_pt rfl Try.underlying3 rfl rfl rfl rfl rfl)) ?_
                    refine rg_put (d := 132) (v := .d (.fl (.int .i64 ((max ((qS (pS ls ls.length) ns j).2) (ix ns j)))))) rfl (og rfl (op_move rfl rfl rfl)) ?_
                    refine rg_put (d := 133) (v := .d (.fl (.int .i64 (((max ((qS (pS ls ls.length) ns j).2) (ix ns j)) + 1))))) rfl (og rfl (op_bin rfl rfl rfl (fun x y w => b_add64 _ _ _ x y w (by omega)) rfl)) ?_
                    refine rg_put (d := 134) (v := .d (.fl (.int .i64 (i : Int)))) rfl (og rfl (op_move rfl rfl rfl)) ?_
                    refine rg_put (d := 135) (v := .d (.fl (.int .i64 ((((max ((qS (pS ls ls.length) ns j).2) (ix ns j)) + 1) + (i : Int)))))) rfl (og rfl (op_bin rfl rfl rfl (fun x y w => b_add64 _ _ _ x y w (by omega)) rfl)) ?_
                    refine rg_put (d := 136) (v := .d (.fl (.bool (((((ix ((((akP (qS (pS ls ls.length) ns j).1 (ix ns j)))).wait) i))).seq != (((max ((qS (pS ls ls.length) ns j).2) (ix ns j)) + 1) + (i : Int))))))) rfl (og rfl (op_bin rfl rfl rfl (b_neq _ _ _ _) rfl)) ?_
                    refine rg_done rfl ?_
                    refine a_condF rfl (show (((((ix ((((akP (qS (pS ls ls.length) ns j).1 (ix ns j)))).wait) i))).seq != (((max ((qS (pS ls ls.length) ns j).2) (ix ns j)) + 1) + (i : Int)))) = false from (by rw [bne_eq_false_iff_eq, hsq i (by omega)])) ?_
                    refine a_skip ?_
                    show A _ _ _ _ _ _ _
                    refine a_region ?_
                    refine rg_put (d := 137) (v := .d (.fl (.int .i64 (((i : Int) + 1))))) rfl (og rfl (op_bin rfl rfl rfl (fun x y w => b_add64 _ _ _ x y w (by omega)) rfl)) ?_
                    refine rg_put (d := 125) (v := .d (.fl (.int .i64 (((i : Int) + 1))))) rfl (og rfl (op_move rfl rfl rfl)) ?_
                    refine rg_done rfl ?_
                    show ∃ i, _ ∧ _ ∧ Imp _ _ _ _ _
                    refine ⟨i + 1, (by omega), by omega, imp_forget rfl ⟨rfl, rfl, rfl, rfl, rfl, rfl, rfl, rfl, rfl, rfl, rfl, rfl, rfl, rfl, rfl, rfl, rfl, rfl, rfl, rfl, rfl, rfl, rfl, (by first | rfl | exact ci (by omega) | exact ci (by simp) | exact cd (by simp) | simp), trivial⟩ ⟨rfl, rfl, rfl, trivial⟩⟩
                  · skip
                    have h33 := f_dec h31
                    refine a_exit ?_
                    show A _ _ _ _ _ _ _
                    refine a_region ?_
                    refine rg_put (d := 138) (v := .d (.fl (.int .i64 (((j : Int) + 1))))) rfl (og rfl (op_bin rfl rfl rfl (fun x y w => b_add64 _ _ _ x y w (by omega)) rfl)) ?_
                    refine rg_put (d := 63) (v := .d (.fl (.int .i64 (((j : Int) + 1))))) rfl (og rfl (op_move rfl rfl rfl)) ?_
                    refine rg_done rfl ?_
                    show ∃ i, _ ∧ _ ∧ Imp _ _ _ _ _
                    refine ⟨j + 1, ⟨by omega, q_step hi2⟩, by omega, imp_forget rfl ⟨rfl, rfl, rfl, rfl, rfl, rfl, rfl, rfl, rfl, rfl, rfl, rfl, (ci (by omega)), (congrArg (fun z => AV.d (.fl (.int .i64 z))) (q_y h29).symm), trivial⟩ ⟨rfl, rfl, trivial⟩⟩
                · skip
                  have h34 := f_beq h29
                  refine a_skip ?_
                  show A _ _ _ _ _ _ _
                  refine a_rseq ?_
                  refine rg_put (d := 112) (v := .d (.ag (ePt (((akP (qS (pS ls ls.length) ns j).1 (ix ns j))))))) rfl (og rfl (of_eff (s_load_pts rfl Try.underlying31 rfl ti31 rfl rfl rfl rfl) rfl)) ?_
                  refine rg_sto (nw := [(102, .bx 31 ((ePt (((akP (qS (pS ls ls.length) ns j).1 (ix ns j)))))))]) rfl (og rfl (of_eff (s_store rfl rfl ti31 rfl rfl rfl rfl rfl rfl) rfl)) ?_
                  refine rg_done rfl ?_
                  refine a_seq ?_
                  refine a_rseq ?_
                  have hn := q_step hi2
                  have hT : (qS (pS ls ls.length) ns (j + 1)).2 = (qS (pS ls ls.length) ns j).2 := q_n h29
                  have hno : (akP (qS (pS ls ls.length) ns j).1 (ix ns j)).out = ((akP (qS (pS ls ls.length) ns j).1 (ix ns j)).wait.length : Int) + 1 + (qS (pS ls ls.length) ns j).2 := by have h := hn.out; rw [hT] at h; exact h
                  have hnb : (akP (qS (pS ls ls.length) ns j).1 (ix ns j)).out ≤ 11 := hn.ob
                  have hnm : 0 ≤ (qS (pS ls ls.length) ns j).2 := by have h := hn.m0; rw [hT] at h; exact h
                  have hnw : (akP (qS (pS ls ls.length) ns j).1 (ix ns j)).wait.length ≤ 10 := hn.wl
                  have hsq : ∀ i, i < (akP (qS (pS ls ls.length) ns j).1 (ix ns j)).wait.length → (ix (akP (qS (pS ls ls.length) ns j).1 (ix ns j)).wait i).seq = ((qS (pS ls ls.length) ns j).2 + 1) + (i : Int) := by have h := hn.sq; rw [hT] at h; exact h
                  refine rg_put (d := 113) (v := .pt 102 3) rfl (og rfl (of_eff (s_field_pt rfl Try.underlying31 rfl ti29 rfl rfl rfl) rfl)) ?_
                  refine rg_put (d := 114) (v := .d (.sl 4 (List.map eFil ((((akP (qS (pS ls ls.length) ns j).1 (ix ns j)))).wait)))) rfl (og rfl (op_load_pt rfl Try.underlying29 rfl rfl rfl rfl rfl)) ?_
                  refine rg_put (d := 115) (v := .d (.fl (.int .i64 ((((((akP (qS (pS ls ls.length) ns j).1 (ix ns j)))).wait).length : Int))))) rfl (og rfl (s_len rfl Try.underlying29 rfl rfl)) ?_
                  refine rg_put (d := 116) (v := .pt 102 1) rfl (og rfl (of_eff (s_field_pt rfl Try.underlying31 rfl ti3 rfl rfl rfl) rfl)) ?_
                  refine rg_put (d := 117) (v := .d (.fl (.int .i64 ((((akP (qS (pS ls ls.length) ns j).1 (ix ns j)))).out)))) rfl (og rfl (op_load_pt rfl Try.underlying3 rfl rfl rfl rfl rfl)) ?_
                  refine rg_put (d := 118) (v := .d (.fl (.int .i64 (((((akP (qS (pS ls ls.length) ns j).1 (ix ns j)))).out - 1))))) rfl (og rfl (op_bin rfl rfl rfl (fun x y w => b_sub64 _ _ _ x y w (by omega)) rfl)) ?_
                  refine rg_put (d := 119) (v := .d (.fl (.int .i64 ((qS (pS ls ls.length) ns j).2)))) rfl (og rfl (op_move rfl rfl rfl)) ?_
                  refine rg_put (d := 120) (v := .d (.fl (.int .i64 ((((((akP (qS (pS ls ls.length) ns j).1 (ix ns j)))).out - 1) - (qS (pS ls ls.length) ns j).2))))) rfl (og rfl (op_bin rfl rfl rfl (fun x y w => b_sub64 _ _ _ x y w (by omega)) rfl)) ?_
                  refine rg_put (d := 121) (v := .d (.fl (.bool (((((((akP (qS (pS ls ls.length) ns j).1 (ix ns j)))).wait).length : Int) != (((((akP (qS (pS ls ls.length) ns j).1 (ix ns j)))).out - 1) - (qS (pS ls ls.length) ns j).2)))))) rfl (og rfl (op_bin rfl rfl rfl (b_neq _ _ _ _) rfl)) ?_
                  refine rg_done rfl ?_
                  refine a_condF rfl (show (((((((akP (qS (pS ls ls.length) ns j).1 (ix ns j)))).wait).length : Int) != (((((akP (qS (pS ls ls.length) ns j).1 (ix ns j)))).out - 1) - (qS (pS ls ls.length) ns j).2))) = false from (by rw [bne_eq_false_iff_eq]; omega)) ?_
                  refine a_skip ?_
                  show A _ _ _ _ _ _ _
                  refine a_rseq ?_
                  refine rg_put (d := 122) (v := .pt 102 3) rfl (og rfl (of_eff (s_field_pt rfl Try.underlying31 rfl ti29 rfl rfl rfl) rfl)) ?_
                  refine rg_put (d := 123) (v := .d (.sl 4 (List.map eFil ((((akP (qS (pS ls ls.length) ns j).1 (ix ns j)))).wait)))) rfl (og rfl (op_load_pt rfl Try.underlying29 rfl rfl rfl rfl rfl)) ?_
                  refine rg_put (d := 124) (v := .d (.fl (.int .i64 ((((((akP (qS (pS ls ls.length) ns j).1 (ix ns j)))).wait).length : Int))))) rfl (og rfl (s_len rfl Try.underlying29 rfl rfl)) ?_
                  refine rg_put (d := 125) (v := .d (.fl (.int .i64 0))) rfl (og rfl (op_move rfl rfl rfl)) ?_
                  refine rg_done rfl ?_
                  refine a_block ?_
                  refine a_loop (ι := Nat) (fun i => SS [(0, .d (.sl 1 (List.map (rL 5 eRec) ls))), (1, .d (.sl 1 (List.map (rI .i64) ns))), (2, .d (.ag (eFil f))), (5, .pt 101 0), (7, .pt 102 0), (11, .d (.fl (.int .i64 ((qS (pS ls ls.length) ns j).2)))), (13, .d (.fl (.int .i64 (ix ns j)))), (14, .pt 103 0), (15, .d (.fl (.int .i64 ((akE (qS (pS ls ls.length) ns j).1 (ix ns j)))))), (33, .d (.fl (.bool (hvB f.recs)))), (39, .d (.sl 1 (List.map (rL 5 eRec) ls))), (40, .d (.fl (.int .i64 (ls.length : Int)))), (41, .d (.fl (.int .i64 (k : Int)))), (42, .d (.fl (.bool ((decide ((k : Int) < (ls.length : Int))))))), (61, .d (.sl 1 (List.map (rI .i64) ns))), (62, .d (.fl (.int .i64 (ns.length : Int)))), (63, .d (.fl (.int .i64 (j : Int)))), (64, .d (.fl (.bool ((decide ((j : Int) < (ns.length : Int))))))), (106, .d (.fl (.bool (!true)))), (108, .d (.fl (.bool (((akE (qS (pS ls ls.length) ns j).1 (ix ns j)) == 0))))), (121, .d (.fl (.bool (((((((akP (qS (pS ls ls.length) ns j).1 (ix ns j)))).wait).length : Int) != (((((akP (qS (pS ls ls.length) ns j).1 (ix ns j)))).out - 1) - (qS (pS ls ls.length) ns j).2)))))), (123, .d (.sl 4 (List.map eFil ((((akP (qS (pS ls ls.length) ns j).1 (ix ns j)))).wait)))), (124, .d (.fl (.int .i64 ((((((akP (qS (pS ls ls.length) ns j).1 (ix ns j)))).wait).length : Int))))), (125, .d (.fl (.int .i64 (i : Int))))] [(101, .bx 26 (eFil f)), (102, .bx 31 ((ePt (((akP (qS (pS ls ls.length) ns j).1 (ix ns j))))))), (103, .bx 31 ((ePt ((akP (qS (pS ls ls.length) ns j).1 (ix ns j))))))]) (fun i => i ≤ (akP (qS (pS ls ls.length) ns j).1 (ix ns j)).wait.length) (fun i => (akP (qS (pS ls ls.length) ns j).1 (ix ns j)).wait.length - i) 0 (by omega) (imp_forget rfl ⟨rfl, rfl, rfl, rfl, rfl, rfl, rfl, rfl, rfl, rfl, rfl, rfl, rfl, rfl, rfl, rfl, rfl, rfl, rfl, rfl, rfl, rfl, rfl, (by first | rfl | exact ci (by omega) | exact ci (by simp) | exact cd (by simp) | simp), trivial⟩ ⟨rfl, rfl, rfl, trivial⟩) (fun i hok => ?_)
                  have hii := hok
                  refine a_rseq ?_
                  refine rg_put (d := 126) (v := .d (.fl (.bool ((decide ((i : Int) < (((((akP (qS (pS ls ls.length) ns j).1 (ix ns j)))).wait).length : Int))))))) rfl (og rfl (op_bin rfl rfl rfl (b_lss _ _ _ _) rfl)) ?_
                  refine rg_done rfl ?_
                  refine a_seq ?_
                  refine a_cond rfl (fun h35 => ?_) (fun h35 => ?_)
                  · skip
                    have h36 := t_dec h35
                    refine a_skip ?_
                    show A _ _ _ _ _ _ _
                    refine a_seq ?_
                    refine a_block ?_
                    refine a_rseq ?_
                    refine rg_put (d := 127) (v := .d (.fl (.int .i64 (i : Int)))) rfl (og rfl (op_move rfl rfl rfl)) ?_
                    refine rg_put (d := 128) (v := .el ((eFil ((ix ((((akP (qS (pS ls ls.length) ns j).1 (ix ns j)))).wait) i))))) rfl (og rfl (s_index rfl Try.underlying29 ti26 rfl rfl (by omega) (row_at (by omega)) rfl)) ?_
                    refine rg_put (d := 129) (v := .d (.ag (eFil (((ix ((((akP (qS (pS ls ls.length) ns j).1 (ix ns j)))).wait) i)))))) rfl (og rfl (of_eff (s_load_els rfl Try.underlying26 rfl ti26 rfl rfl rfl) rfl)) ?_
                    refine rg_nam (d := 17) (v := .pt 107 0) (m := 107) (nw := [(107, .bx 26 ([.fl (.string (⟨#[]⟩)), .fl (.string (⟨#[]⟩)), .fl (.int .i64 0), .fl (.slice none 0 0)]))]) rfl (og rfl (of_eff (s_alloc 107 rfl ti26 (by kernel_rfl) rfl) rfl)) rfl ?_
                    refine rg_put (d := 16) (v := .d (.fl (.int .i64 (i : Int)))) rfl (og rfl (op_assign rfl rfl rfl)) ?_
                    refine rg_sto (nw := [(107, .bx 26 ((eFil (((ix ((((akP (qS (pS ls ls.length) ns j).1 (ix ns j)))).wait) i))))))]) rfl (og rfl (of_eff (s_store rfl rfl ti26 rfl rfl rfl rfl rfl rfl) rfl)) ?_
                    refine rg_done rfl ?_
                    refine a_rseq ?_
                    refine rg_put (d := 130) (v := .pt 107 2) rfl (og rfl (of_eff (s_field_pt rfl Try.underlying26 rfl ti3 rfl rfl rfl) rfl)) ?_
                    refine rg_put (d := 131) (v := .d (.fl (.int .i64 ((((ix ((((akP (qS (pS ls ls.length) ns j).1 (ix ns j)))).wait) i))).seq)))) rfl (og rfl (op_load_pt rfl Try.underlying3 rfl rfl rfl rfl rfl)) ?_
                    refine rg_put (d := 132) (v := .d (.fl (.int .i64 ((qS (pS ls ls.length) ns j).2)))) rfl (og rfl (op_move rfl rfl rfl)) ?_
                    refine rg_put (d := 133) (v := .d (.fl (.int .i64 (((qS (pS ls ls.length) ns j).2 + 1))))) rfl (og rfl (op_bin rfl rfl rfl (fun x y w => b_add64 _ _ _ x y w (by omega)) rfl)) ?_
                    refine rg_put (d := 134) (v := .d (.fl (.int .i64 (i : Int)))) rfl (og rfl (op_move rfl rfl rfl)) ?_
                    refine rg_put (d := 135) (v := .d (.fl (.int .i64 ((((qS (pS ls ls.length) ns j).2 + 1) + (i : Int)))))) rfl (og rfl (op_bin rfl rfl rfl (fun x y w => b_add64 _ _ _ x y w (by omega)) rfl)) ?_
                    refine rg_put (d := 136) (v := .d (.fl (.bool (((((ix ((((akP (qS (pS ls ls.length) ns j).1 (ix ns j)))).wait) i))).seq != (((qS (pS ls ls.length) ns j).2 + 1) + (i : Int))))))) rfl (og rfl (op_bin rfl rfl rfl (b_neq _ _ _ _) rfl)) ?_
                    refine rg_done rfl ?_
                    refine a_condF rfl (show (((((ix ((((akP (qS (pS ls ls.length) ns j).1 (ix ns j)))).wait) i))).seq != (((qS (pS ls ls.length) ns j).2 + 1) + (i : Int)))) = false from (by rw [bne_eq_false_iff_eq, hsq i (by omega)])) ?_
                    refine a_skip ?_
                    show A _ _ _ _ _ _ _
                    refine a_region ?_
                    refine rg_put (d := 137) (v := .d (.fl (.int .i64 (((i : Int) + 1))))) rfl (og rfl (op_bin rfl rfl rfl (fun x y w => b_add64 _ _ _ x y w (by omega)) rfl)) ?_
                    refine rg_put (d := 125) (v := .d (.fl (.int .i64 (((i : Int) + 1))))) rfl (og rfl (op_move rfl rfl rfl)) ?_
                    refine rg_done rfl ?_
                    show ∃ i, _ ∧ _ ∧ Imp _ _ _ _ _
                    refine ⟨i + 1, (by omega), by omega, imp_forget rfl ⟨rfl, rfl, rfl, rfl, rfl, rfl, rfl, rfl, rfl, rfl, rfl, rfl, rfl, rfl, rfl, rfl, rfl, rfl, rfl, rfl, rfl, rfl, rfl, (by first | rfl | exact ci (by omega) | exact ci (by simp) | exact cd (by simp) | simp), trivial⟩ ⟨rfl, rfl, rfl, trivial⟩⟩
                  · skip
                    have h37 := f_dec h35
                    refine a_exit ?_
                    show A _ _ _ _ _ _ _
                    refine a_region ?_
                    refine rg_put (d := 138) (v := .d (.fl (.int .i64 (((j : Int) + 1))))) rfl (og rfl (op_bin rfl rfl rfl (fun x y w => b_add64 _ _ _ x y w (by omega)) rfl)) ?_
                    refine rg_put (d := 63) (v := .d (.fl (.int .i64 (((j : Int) + 1))))) rfl (og rfl (op_move rfl rfl rfl)) ?_
                    refine rg_done rfl ?_
                    show ∃ i, _ ∧ _ ∧ Imp _ _ _ _ _
                    refine ⟨j + 1, ⟨by omega, q_step hi2⟩, by omega, imp_forget rfl ⟨rfl, rfl, rfl, rfl, rfl, rfl, rfl, rfl, rfl, rfl, rfl, rfl, (ci (by omega)), (congrArg (fun z => AV.d (.fl (.int .i64 z))) (q_n h29).symm), trivial⟩ ⟨rfl, rfl, trivial⟩⟩
            · skip
              have h38 := t_dec h15
              refine rg_put (d := 78) (v := .d (.fl (.int .i64 (ix ns j)))) rfl (oy rfl rfl rfl h15 (op_move rfl rfl rfl)) ?_
              refine rg_put (d := 79) (v := .pt 102 1) rfl (oy rfl rfl rfl h15 (of_eff (s_field_pt rfl Try.underlying31 rfl ti3 rfl rfl rfl) rfl)) ?_
              refine rg_put (d := 80) (v := .d (.fl (.int .i64 ((qS (pS ls ls.length) ns j).1.out)))) rfl (oy rfl rfl rfl h15 (op_load_pt rfl Try.underlying3 rfl rfl rfl rfl rfl)) ?_
              refine rg_put (d := 81) (v := .d (.fl (.bool ((decide ((ix ns j) < (qS (pS ls ls.length) ns j).1.out)))))) rfl (oy rfl rfl rfl h15 (op_bin rfl rfl rfl (b_lss _ _ _ _) rfl)) ?_
              refine rg_put (d := 82) (v := .d (.fl (.bool ((decide ((ix ns j) < (qS (pS ls ls.length) ns j).1.out)))))) rfl (og rfl (op_pick rfl rfl (by rw [h15]; rfl) rfl)) ?_
              refine rg_put (d := 83) (v := .d (.fl (.bool ((!(((akE (qS (pS ls ls.length) ns j).1 (ix ns j)) == 0) == (decide ((ix ns j) < (qS (pS ls ls.length) ns j).1.out)))))))) rfl (og rfl (op_bin rfl rfl rfl (fun x y w => b_bne _ _ _ x y w Try.underlying4) rfl)) ?_
              refine rg_put (d := 84) (v := .d (.fl (.bool ((!(((akE (qS (pS ls ls.length) ns j).1 (ix ns j)) == 0) == (decide ((ix ns j) < (qS (pS ls ls.length) ns j).1.out)))))))) rfl (og rfl (op_move rfl rfl rfl)) ?_
              refine rg_put (d := 85) (v := .d (.fl (.int .i64 ((akE (qS (pS ls ls.length) ns j).1 (ix ns j)))))) rfl (oy rfl rfl rfl (show ((!(((akE (qS (pS ls ls.length) ns j).1 (ix ns j)) == 0) == (decide ((ix ns j) < (qS (pS ls ls.length) ns j).1.out))))) = false from (by rw [akE_b, show decide (0 ≤ (ix ns j)) = true from by assumption, Bool.true_and]; simp)) (op_move rfl rfl rfl)) ?_
              refine rg_put (d := 86) (v := .d (.fl (.bool (((akE (qS (pS ls ls.length) ns j).1 (ix ns j)) != 0))))) rfl (oy rfl rfl rfl (show ((!(((akE (qS (pS ls ls.length) ns j).1 (ix ns j)) == 0) == (decide ((ix ns j) < (qS (pS ls ls.length) ns j).1.out))))) = false from (by rw [akE_b, show decide (0 ≤ (ix ns j)) = true from by assumption, Bool.true_and]; simp)) (op_bin rfl rfl rfl (b_neq _ _ _ _) rfl)) ?_
              refine rg_put (d := 87) (v := .d (.fl (.bool (((akE (qS (pS ls ls.length) ns j).1 (ix ns j)) != 0))))) rfl (oy rfl rfl rfl (show ((!(((akE (qS (pS ls ls.length) ns j).1 (ix ns j)) == 0) == (decide ((ix ns j) < (qS (pS ls ls.length) ns j).1.out))))) = false from (by rw [akE_b, show decide (0 ≤ (ix ns j)) = true from by assumption, Bool.true_and]; simp)) (op_move rfl rfl rfl)) ?_
              rcases fot (((akE (qS (pS ls ls.length) ns j).1 (ix ns j)) != 0)) with h39 | h39
              · skip
                have h40 := f_bne h39
                refine rg_put (d := 88) (v := .d (.fl undef)) rfl (on rfl rfl rfl h39) ?_
                refine rg_put (d := 89) (v := .d (.fl undef)) rfl (on rfl rfl rfl h39) ?_
                refine rg_put (d := 90) (v := .d (.fl (.bool false))) rfl (oy rfl rfl rfl (show ((!(((akE (qS (pS ls ls.length) ns j).1 (ix ns j)) == 0) == (decide ((ix ns j) < (qS (pS ls ls.length) ns j).1.out))))) = false from (by rw [akE_b, show decide (0 ≤ (ix ns j)) = true from by assumption, Bool.true_and]; simp)) (op_pick rfl rfl (by rw [h39]; rfl) rfl)) ?_
                refine rg_put (d := 91) (v := .d (.fl (.bool false))) rfl (og rfl (op_pick rfl rfl (by rw [(show ((!(((akE (qS (pS ls ls.length) ns j).1 (ix ns j)) == 0) == (decide ((ix ns j) < (qS (pS ls ls.length) ns j).1.out))))) = false from (by rw [akE_b, show decide (0 ≤ (ix ns j)) = true from by assumption, Bool.true_and]; simp))]; rfl) rfl)) ?_
                refine rg_put (d := 92) (v := .d (.fl (.bool false))) rfl (og rfl (op_move rfl rfl rfl)) ?_
                refine rg_put (d := 93) (v := .pt 103 1) rfl (oy rfl rfl rfl rfl (of_eff (s_field_pt rfl Try.underlying31 rfl ti3 rfl rfl rfl) rfl)) ?_
                refine rg_put (d := 94) (v := .d (.fl (.int .i64 (((akP (qS (pS ls ls.length) ns j).1 (ix ns j))).out)))) rfl (oy rfl rfl rfl rfl (op_load_pt rfl Try.underlying3 rfl rfl rfl rfl rfl)) ?_
                refine rg_put (d := 95) (v := .pt 102 1) rfl (oy rfl rfl rfl rfl (of_eff (s_field_pt rfl Try.underlying31 rfl ti3 rfl rfl rfl) rfl)) ?_
                refine rg_put (d := 96) (v := .d (.fl (.int .i64 ((qS (pS ls ls.length) ns j).1.out)))) rfl (oy rfl rfl rfl rfl (op_load_pt rfl Try.underlying3 rfl rfl rfl rfl rfl)) ?_
                refine rg_put (d := 97) (v := .d (.fl (.bool ((((akP (qS (pS ls ls.length) ns j).1 (ix ns j))).out != (qS (pS ls ls.length) ns j).1.out))))) rfl (oy rfl rfl rfl rfl (op_bin rfl rfl rfl (b_neq _ _ _ _) rfl)) ?_
                refine rg_put (d := 98) (v := .d (.fl (.bool ((((akP (qS (pS ls ls.length) ns j).1 (ix ns j))).out != (qS (pS ls ls.length) ns j).1.out))))) rfl (og rfl (op_pick rfl rfl rfl rfl)) ?_
                refine rg_put (d := 99) (v := .d (.fl (.bool ((((akP (qS (pS ls ls.length) ns j).1 (ix ns j))).out != (qS (pS ls ls.length) ns j).1.out))))) rfl (og rfl (op_move rfl rfl rfl)) ?_
                refine rg_put (d := 100) (v := .pt 102 4) rfl (oy rfl rfl rfl (show ((((akP (qS (pS ls ls.length) ns j).1 (ix ns j))).out != (qS (pS ls ls.length) ns j).1.out)) = false from (by rw [ak_out]; simp)) (of_eff (s_field_pt rfl Try.underlying31 rfl ti24 rfl rfl rfl) rfl)) ?_
                refine rg_put (d := 101) (v := .d (.sl 5 (List.map eRec ((qS (pS ls ls.length) ns j).1.ours)))) rfl (oy rfl rfl rfl (show ((((akP (qS (pS ls ls.length) ns j).1 (ix ns j))).out != (qS (pS ls ls.length) ns j).1.out)) = false from (by rw [ak_out]; simp)) (op_load_pt rfl Try.underlying24 rfl rfl rfl rfl rfl)) ?_
                refine rg_put (d := 102) (v := .pt 103 4) rfl (oy rfl rfl rfl (show ((((akP (qS (pS ls ls.length) ns j).1 (ix ns j))).out != (qS (pS ls ls.length) ns j).1.out)) = false from (by rw [ak_out]; simp)) (of_eff (s_field_pt rfl Try.underlying31 rfl ti24 rfl rfl rfl) rfl)) ?_
                refine rg_put (d := 103) (v := .d (.sl 5 (List.map eRec (((akP (qS (pS ls ls.length) ns j).1 (ix ns j))).ours)))) rfl (oy rfl rfl rfl (show ((((akP (qS (pS ls ls.length) ns j).1 (ix ns j))).out != (qS (pS ls ls.length) ns j).1.out)) = false from (by rw [ak_out]; simp)) (op_load_pt rfl Try.underlying24 rfl rfl rfl rfl rfl)) ?_
                refine rg_put (d := 104) (v := .d (.fl (.bool true))) rfl (oy rfl rfl rfl (show ((((akP (qS (pS ls ls.length) ns j).1 (ix ns j))).out != (qS (pS ls ls.length) ns j).1.out)) = false from (by rw [ak_out]; simp)) (op_call rfl Try.func9 nm9 rfl (.cons rfl (.d _) (.cons rfl (.d _) .nil)) (sarE ((qS (pS ls ls.length) ns j).1.ours) (((akP (qS (pS ls ls.length) ns j).1 (ix ns j))).ours) (ak_ours _ _) (by have := hi2.ol; omega)) rfl)) ?_
                refine rg_put (d := 105) (v := .d (.fl (.bool (!true)))) rfl (oy rfl rfl rfl (show ((((akP (qS (pS ls ls.length) ns j).1 (ix ns j))).out != (qS (pS ls ls.length) ns j).1.out)) = false from (by rw [ak_out]; simp)) (op_un rfl rfl (u_not _) rfl)) ?_
                refine rg_put (d := 106) (v := .d (.fl (.bool (!true)))) rfl (og rfl (op_pick rfl rfl (by rw [(show ((((akP (qS (pS ls ls.length) ns j).1 (ix ns j))).out != (qS (pS ls ls.length) ns j).1.out)) = false from (by rw [ak_out]; simp))]; rfl) rfl)) ?_
                refine rg_done rfl ?_
                refine a_condF rfl rfl ?_
                refine a_skip ?_
                show A _ _ _ _ _ _ _
                refine a_seq ?_
                refine a_rseq ?_
                refine rg_put (d := 107) (v := .d (.fl (.int .i64 ((akE (qS (pS ls ls.length) ns j).1 (ix ns j)))))) rfl (og rfl (op_move rfl rfl rfl)) ?_
                refine rg_put (d := 108) (v := .d (.fl (.bool (((akE (qS (pS ls ls.length) ns j).1 (ix ns j)) == 0))))) rfl (og rfl (op_bin rfl rfl rfl (b_eql _ _ _ _) rfl)) ?_
                refine rg_done rfl ?_
                refine a_cond rfl (fun h41 => ?_) (fun h41 => ?_)
                · skip
                  have h42 := t_beq h41
                  refine a_region ?_
                  refine rg_put (d := 109) (v := .d (.fl (.int .i64 ((qS (pS ls ls.length) ns j).2)))) rfl (og rfl (op_move rfl rfl rfl)) ?_
                  refine rg_put (d := 110) (v := .d (.fl (.int .i64 (ix ns j)))) rfl (og rfl (op_move rfl rfl rfl)) ?_
                  refine rg_put (d := 111) (v := .d (.fl (.int .i64 ((max ((qS (pS ls ls.length) ns j).2) (ix ns j)))))) rfl (og rfl (op_max rfl rfl rfl rfl)) ?_
                  refine rg_put (d := 11) (v := .d (.fl (.int .i64 ((max ((qS (pS ls ls.length) ns j).2) (ix ns j)))))) rfl (og rfl (op_assign rfl rfl rfl)) ?_
                  refine rg_done rfl ?_
                  show A _ _ _ _ _ _ _
                  refine a_rseq ?_
                  refine rg_put (d := 112) (v := .d (.ag (ePt (((akP (qS (pS ls ls.length) ns j).1 (ix ns j))))))) rfl (og rfl (of_eff (s_load_pts rfl Try.underlying31 rfl ti31 rfl rfl rfl rfl) rfl)) ?_
                  refine rg_sto (nw := [(102, .bx 31 ((ePt (((akP (qS (pS ls ls.length) ns j).1 (ix ns j)))))))]) rfl (og rfl (of_eff (s_store rfl rfl ti31 rfl rfl rfl rfl rfl rfl) rfl)) ?_
                  refine rg_done rfl ?_
                  refine a_seq ?_
                  refine a_rseq ?_
                  have hn := q_step hi2
                  have hT : (qS (pS ls ls.length) ns (j + 1)).2 = (max ((qS (pS ls ls.length) ns j).2) (ix ns j)) := q_y h41
                  have hno : (akP (qS (pS ls ls.length) ns j).1 (ix ns j)).out = ((akP (qS (pS ls ls.length) ns j).1 (ix ns j)).wait.length : Int) + 1 + (max ((qS (pS ls ls.length) ns j).2) (ix ns j)) := by have h := hn.out; rw [hT] at h; exact h
                  have hnb : (akP (qS (pS ls ls.length) ns j).1 (ix ns j)).out ≤ 11 := hn.ob
                  have hnm : 0 ≤ (max ((qS (pS ls ls.length) ns j).2) (ix ns j)) := by have h := hn.m0; rw [hT] at h; exact h
                  have hnw : (akP (qS (pS ls ls.length) ns j).1 (ix ns j)).wait.length ≤ 10 := hn.wl
                  have hsq : ∀ i, i < (akP (qS (pS ls ls.length) ns j).1 (ix ns j)).wait.length → (ix (akP (qS (pS ls ls.length) ns j).1 (ix ns j)).wait i).seq = ((max ((qS (pS ls ls.length) ns j).2) (ix ns j)) + 1) + (i : Int) := by have h := hn.sq; rw [hT] at h; exact h
                  refine rg_put (d := 113) (v := .pt 102 3) rfl (og rfl (of_eff (s_field_pt rfl Try.underlying31 rfl ti29 rfl rfl rfl) rfl)) ?_
                  refine rg_put (d := 114) (v := .d (.sl 4 (List.map eFil ((((akP (qS (pS ls ls.length) ns j).1 (ix ns j)))).wait)))) rfl (og rfl (op_load_pt rfl Try.underlying29 rfl rfl rfl rfl rfl)) ?_
                  refine rg_put (d := 115) (v := .d (.fl (.int .i64 ((((((akP (qS (pS ls ls.length) ns j).1 (ix ns j)))).wait).length : Int))))) rfl (og rfl (s_len rfl Try.underlying29 rfl rfl)) ?_
                  refine rg_put (d := 116) (v := .pt 102 1) rfl (og rfl (of_eff (s_field_pt rfl Try.underlying31 rfl ti3 rfl rfl rfl) rfl)) ?_
                  refine rg_put (d := 117) (v := .d (.fl (.int .i64 ((((akP (qS (pS ls ls.length) ns j).1 (ix ns j)))).out)))) rfl (og rfl (op_load_pt rfl Try.underlying3 rfl rfl rfl rfl rfl)) ?_
                  refine rg_put (d := 118) (v := .d (.fl (.int .i64 (((((akP (qS (pS ls ls.length) ns j).1 (ix ns j)))).out - 1))))) rfl (og rfl (op_bin rfl rfl rfl (fun x y w => b_sub64 _ _ _ x y w (by omega)) rfl)) ?_
                  refine rg_put (d := 119) (v := .d (.fl (.int .i64 ((max ((qS (pS ls ls.length) ns j).2) (ix ns j)))))) rfl (og rfl (op_move rfl rfl rfl)) ?_
                  refine rg_put (d := 120) (v := .d (.fl (.int .i64 ((((((akP (qS (pS ls ls.length) ns j).1 (ix ns j)))).out - 1) - (max ((qS (pS ls ls.length) ns j).2) (ix ns j))))))) rfl (og rfl (op_bin rfl rfl rfl (fun x y w => b_sub64 _ _ _ x y w (by omega)) rfl)) ?_
                  refine rg_put (d := 121) (v := .d (.fl (.bool (((((((akP (qS (pS ls ls.length) ns j).1 (ix ns j)))).wait).length : Int) != (((((akP (qS (pS ls ls.length) ns j).1 (ix ns j)))).out - 1) - (max ((qS (pS ls ls.length) ns j).2) (ix ns j)))))))) rfl (og rfl (op_bin rfl rfl rfl (b_neq _ _ _ _) rfl)) ?_
                  refine rg_done rfl ?_
                  refine a_condF rfl (show (((((((akP (qS (pS ls ls.length) ns j).1 (ix ns j)))).wait).length : Int) != (((((akP (qS (pS ls ls.length) ns j).1 (ix ns j)))).out - 1) - (max ((qS (pS ls ls.length) ns j).2) (ix ns j))))) = false from (by rw [bne_eq_false_iff_eq]; omega)) ?_
                  refine a_skip ?_
                  show A _ _ _ _ _ _ _
                  refine a_rseq ?_
                  refine rg_put (d := 122) (v := .pt 102 3) rfl (og rfl (of_eff (s_field_pt rfl Try.underlying31 rfl ti29 rfl rfl rfl) rfl)) ?_
                  refine rg_put (d := 123) (v := .d (.sl 4 (List.map eFil ((((akP (qS (pS ls ls.length) ns j).1 (ix ns j)))).wait)))) rfl (og rfl (op_load_pt rfl Try.underlying29 rfl rfl rfl rfl rfl)) ?_
                  refine rg_put (d := 124) (v := .d (.fl (.int .i64 ((((((akP (qS (pS ls ls.length) ns j).1 (ix ns j)))).wait).length : Int))))) rfl (og rfl (s_len rfl Try.underlying29 rfl rfl)) ?_
                  refine rg_put (d := 125) (v := .d (.fl (.int .i64 0))) rfl (og rfl (op_move rfl rfl rfl)) ?_
                  refine rg_done rfl ?_
                  refine a_block ?_
                  refine a_loop (ι := Nat) (fun i => SS [(0, .d (.sl 1 (List.map (rL 5 eRec) ls))), (1, .d (.sl 1 (List.map (rI .i64) ns))), (2, .d (.ag (eFil f))), (5, .pt 101 0), (7, .pt 102 0), (11, .d (.fl (.int .i64 ((max ((qS (pS ls ls.length) ns j).2) (ix ns j)))))), (13, .d (.fl (.int .i64 (ix ns j)))), (14, .pt 103 0), (15, .d (.fl (.int .i64 ((akE (qS (pS ls ls.length) ns j).1 (ix ns j)))))), (33, .d (.fl (.bool (hvB f.recs)))), (39, .d (.sl 1 (List.map (rL 5 eRec) ls))), (40, .d (.fl (.int .i64 (ls.length : Int)))), (41, .d (.fl (.int .i64 (k : Int)))), (42, .d (.fl (.bool ((decide ((k : Int) < (ls.length : Int))))))), (61, .d (.sl 1 (List.map (rI .i64) ns))), (62, .d (.fl (.int .i64 (ns.length : Int)))), (63, .d (.fl (.int .i64 (j : Int)))), (64, .d (.fl (.bool ((decide ((j : Int) < (ns.length : Int))))))), (106, .d (.fl (.bool (!true)))), (108, .d (.fl (.bool (((akE (qS (pS ls ls.length) ns j).1 (ix ns j)) == 0))))), (121, .d (.fl (.bool (((((((akP (qS (pS ls ls.length) ns j).1 (ix ns j)))).wait).length : Int) != (((((akP (qS (pS ls ls.length) ns j).1 (ix ns j)))).out - 1) - (max ((qS (pS ls ls.length) ns j).2) (ix ns j)))))))), (123, .d (.sl 4 (List.map eFil ((((akP (qS (pS ls ls.length) ns j).1 (ix ns j)))).wait)))), (124, .d (.fl (.int .i64 ((((((akP (qS (pS ls ls.length) ns j).1 (ix ns j)))).wait).length : Int))))), (125, .d (.fl (.int .i64 (i : Int))))] [(101, .bx 26 (eFil f)), (102, .bx 31 ((ePt (((akP (qS (pS ls ls.length) ns j).1 (ix ns j))))))), (103, .bx 31 ((ePt ((akP (qS (pS ls ls.length) ns j).1 (ix ns j))))))]) (fun i => i ≤ (akP (qS (pS ls ls.length) ns j).1 (ix ns j)).wait.length) (fun i => (akP (qS (pS ls ls.length) ns j).1 (ix ns j)).wait.length - i) 0 (by omega) (imp_forget rfl ⟨rfl, rfl, rfl, rfl, rfl, rfl, rfl, rfl, rfl, rfl, rfl, rfl, rfl, rfl, rfl, rfl, rfl, rfl, rfl, rfl, rfl, rfl, rfl, (by first | rfl | exact ci (by omega) | exact ci (by simp) | exact cd (by simp) | simp), trivial⟩ ⟨rfl, rfl, rfl, trivial⟩) (fun i hok => ?_)
                  have hii := hok
                  refine a_rseq ?_
                  refine rg_put (d := 126) (v := .d (.fl (.bool ((decide ((i : Int) < (((((akP (qS (pS ls ls.length) ns j).1 (ix ns j)))).wait).length : Int))))))) rfl (og rfl (op_bin rfl rfl rfl (b_lss _ _ _ _) rfl)) ?_
                  refine rg_done rfl ?_
                  refine a_seq ?_
                  refine a_cond rfl (fun h43 => ?_) (fun h43 => ?_)
                  · skip
                    have h44 := t_dec h43
                    refine a_skip ?_
                    show A _ _ _ _ _ _ _
                    refine a_seq ?_
                    refine a_block ?_
                    refine a_rseq ?_
                    refine rg_put (d := 127) (v := .d (.fl (.int .i64 (i : Int)))) rfl (og rfl (op_move rfl rfl rfl)) ?_
                    refine rg_put (d := 128) (v := .el ((eFil ((ix ((((akP (qS (pS ls ls.length) ns j).1 (ix ns j)))).wait) i))))) rfl (og rfl (s_index rfl Try.underlying29 ti26 rfl rfl (by omega) (row_at (by omega)) rfl)) ?_
                    refine rg_put (d := 129) (v := .d (.ag (eFil (((ix ((((akP (qS (pS ls ls.length) ns j).1 (ix ns j)))).wait) i)))))) rfl (og rfl (of_eff (s_load_els rfl Try.underlying26 rfl ti26 rfl rfl rfl) rfl)) ?_
                    refine rg_nam (d := 17) (v := .pt 108 0) (m := 108) (nw := [(108, .bx 26 ([.fl (.string (⟨#[]⟩)), .fl (.string (⟨#[]⟩)), .fl (.int .i64 0), .fl (.slice none 0 0)]))]) rfl (og rfl (of_eff (s_alloc 108 rfl ti26 (by kernel_rfl) rfl) rfl)) rfl ?_
                    refine rg_put (d := 16) (v := .d (.fl (.int .i64 (i : Int)))) rfl (og rfl (op_assign rfl rfl rfl)) ?_
                    refine rg_sto (nw := [(108, .bx 26 ((eFil (((ix ((((akP (qS (pS ls ls.length) ns j).1 (ix ns j)))).wait) i))))))]) rfl (og rfl (of_eff (s_store rfl rfl ti26 rfl rfl rfl rfl rfl rfl) rfl)) ?_
                    refine rg_done rfl ?_
                    refine a_rseq ?_
                    refine rg_put (d := 130) (v := .pt 108 2) rfl (og rfl (of_eff (s_field_pt rfl Try.underlying26 rfl ti3 rfl rfl rfl) rfl)) ?_
                    refine rg_put (d := 131) (v := .d (.fl (.int .i64 ((((ix ((((akP (qS (pS ls ls.length) ns j).1 (ix ns j)))).wait) i))).seq)))) rfl (og rfl (op_load_pt rfl Try.underlying3 rfl rfl rfl rfl rfl)) ?_
                    refine rg_put (d := 132) (v := .d (.fl (.int .i64 ((max ((qS (pS ls ls.length) ns j).2) (ix ns j)))))) rfl (og rfl (op_move rfl rfl rfl)) ?_
                    refine rg_put (d := 133) (v := .d (.fl (.int .i64 (((max ((qS (pS ls ls.length) ns j).2) (ix ns j)) + 1))))) rfl (og rfl (op_bin rfl rfl rfl (fun x y w => b_add64 _ _ _ x y w (by omega)) rfl)) ?_
                    refine rg_put (d := 134) (v := .d (.fl (.int .i64 (i : Int)))) rfl (og rfl (op_move rfl rfl rfl)) ?_
                    refine rg_put (d := 135) (v := .d (.fl (.int .i64 ((((max ((qS (pS ls ls.length) ns j).2) (ix ns j)) + 1) + (i : Int)))))) rfl (og rfl (op_bin rfl rfl rfl (fun x y w => b_add64 _ _ _ x y w (by omega)) rfl)) ?_
                    refine rg_put (d := 136) (v := .d (.fl (.bool (((((ix ((((akP (qS (pS ls ls.length) ns j).1 (ix ns j)))).wait) i))).seq != (((max ((qS (pS ls ls.length) ns j).2) (ix ns j)) + 1) + (i : Int))))))) rfl (og rfl (op_bin rfl rfl rfl (b_neq _ _ _ _) rfl)) ?_
                    refine rg_done rfl ?_
                    refine a_condF rfl (show (((((ix ((((akP (qS (pS ls ls.length) ns j).1 (ix ns j)))).wait) i))).seq != (((max ((qS (pS ls ls.length) ns j).2) (ix ns j)) + 1) + (i : Int)))) = false from (by rw [bne_eq_false_iff_eq, hsq i (by omega)])) ?_
                    refine a_skip ?_
                    show A _ _ _ _ _ _ _
                    refine a_region ?_
                    refine rg_put (d := 137) (v := .d (.fl (.int .i64 (((i : Int) + 1))))) rfl (og rfl (op_bin rfl rfl rfl (fun x y w => b_add64 _ _ _ x y w (by omega)) rfl)) ?_
                    refine rg_put (d := 125) (v := .d (.fl (.int .i64 (((i : Int) + 1))))) rfl (og rfl (op_move rfl rfl rfl)) ?_
                    refine rg_done rfl ?_
                    show ∃ i, _ ∧ _ ∧ Imp _ _ _ _ _
                    refine ⟨i + 1, (by omega), by omega, imp_forget rfl ⟨rfl, rfl, rfl, rfl, rfl, rfl, rfl, rfl, rfl, rfl, rfl, rfl, rfl, rfl, rfl, rfl, rfl, rfl, rfl, rfl, rfl, rfl, rfl, (by first | rfl | exact ci (by omega) | exact ci (by simp) | exact cd (by simp) | simp), trivial⟩ ⟨rfl, rfl, rfl, trivial⟩⟩
                  · skip
                    have h45 := f_dec h43
                    refine a_exit ?_
                    show A _ _ _ _ _ _ _
                    refine a_region ?_
                    refine rg_put (d := 138) (v := .d (.fl (.int .i64 (((j : Int) + 1))))) rfl (og rfl (op_bin rfl rfl rfl (fun x y w => b_add64 _ _ _ x y w (by omega)) rfl)) ?_
                    refine rg_put (d := 63) (v := .d (.fl (.int .i64 (((j : Int) + 1))))) rfl (og rfl (op_move rfl rfl rfl)) ?_
                    refine rg_done rfl ?_
                    show ∃ i, _ ∧ _ ∧ Imp _ _ _ _ _
                    refine ⟨j + 1, ⟨by omega, q_step hi2⟩, by omega, imp_forget rfl ⟨rfl, rfl, rfl, rfl, rfl, rfl, rfl, rfl, rfl, rfl, rfl, rfl, (ci (by omega)), (congrArg (fun z => AV.d (.fl (.int .i64 z))) (q_y h41).symm), trivial⟩ ⟨rfl, rfl, trivial⟩⟩
                · skip
                  have h46 := f_beq h41
                  refine a_skip ?_
                  show A _ _ _ _ _ _ _
                  refine a_rseq ?_
                  refine rg_put (d := 112) (v := .d (.ag (ePt (((akP (qS (pS ls ls.length) ns j).1 (ix ns j))))))) rfl (og rfl (of_eff (s_load_pts rfl Try.underlying31 rfl ti31 rfl rfl rfl rfl) rfl)) ?_
                  refine rg_sto (nw := [(102, .bx 31 ((ePt (((akP (qS (pS ls ls.length) ns j).1 (ix ns j)))))))]) rfl (og rfl (of_eff (s_store rfl rfl ti31 rfl rfl rfl rfl rfl rfl) rfl)) ?_
                  refine rg_done rfl ?_
                  refine a_seq ?_
                  refine a_rseq ?_
                  have hn := q_step hi2
                  have hT : (qS (pS ls ls.length) ns (j + 1)).2 = (qS (pS ls ls.length) ns j).2 := q_n h41
                  have hno : (akP (qS (pS ls ls.length) ns j).1 (ix ns j)).out = ((akP (qS (pS ls ls.length) ns j).1 (ix ns j)).wait.length : Int) + 1 + (qS (pS ls ls.length) ns j).2 := by have h := hn.out; rw [hT] at h; exact h
                  have hnb : (akP (qS (pS ls ls.length) ns j).1 (ix ns j)).out ≤ 11 := hn.ob
                  have hnm : 0 ≤ (qS (pS ls ls.length) ns j).2 := by have h := hn.m0; rw [hT] at h; exact h
                  have hnw : (akP (qS (pS ls ls.length) ns j).1 (ix ns j)).wait.length ≤ 10 := hn.wl
                  have hsq : ∀ i, i < (akP (qS (pS ls ls.length) ns j).1 (ix ns j)).wait.length → (ix (akP (qS (pS ls ls.length) ns j).1 (ix ns j)).wait i).seq = ((qS (pS ls ls.length) ns j).2 + 1) + (i : Int) := by have h := hn.sq; rw [hT] at h; exact h
                  refine rg_put (d := 113) (v := .pt 102 3) rfl (og rfl (of_eff (s_field_pt rfl Try.underlying31 rfl ti29 rfl rfl rfl) rfl)) ?_
                  refine rg_put (d := 114) (v := .d (.sl 4 (List.map eFil ((((akP (qS (pS ls ls.length) ns j).1 (ix ns j)))).wait)))) rfl (og rfl (op_load_pt rfl Try.underlying29 rfl rfl rfl rfl rfl)) ?_
                  refine rg_put (d := 115) (v := .d (.fl (.int .i64 ((((((akP (qS (pS ls ls.length) ns j).1 (ix ns j)))).wait).length : Int))))) rfl (og rfl (s_len rfl Try.underlying29 rfl rfl)) ?_
                  refine rg_put (d := 116) (v := .pt 102 1) rfl (og rfl (of_eff (s_field_pt rfl Try.underlying31 rfl ti3 rfl rfl rfl) rfl)) ?_
                  refine rg_put (d := 117) (v := .d (.fl (.int .i64 ((((akP (qS (pS ls ls.length) ns j).1 (ix ns j)))).out)))) rfl (og rfl (op_load_pt rfl Try.underlying3 rfl rfl rfl rfl rfl)) ?_
                  refine rg_put (d := 118) (v := .d (.fl (.int .i64 (((((akP (qS (pS ls ls.length) ns j).1 (ix ns j)))).out - 1))))) rfl (og rfl (op_bin rfl rfl rfl (fun x y w => b_sub64 _ _ _ x y w (by omega)) rfl)) ?_
                  refine rg_put (d := 119) (v := .d (.fl (.int .i64 ((qS (pS ls ls.length) ns j).2)))) rfl (og rfl (op_move rfl rfl rfl)) ?_
                  refine rg_put (d := 120) (v := .d (.fl (.int .i64 ((((((akP (qS (pS ls ls.length) ns j).1 (ix ns j)))).out - 1) - (qS (pS ls ls.length) ns j).2))))) rfl (og rfl (op_bin rfl rfl rfl (fun x y w => b_sub64 _ _ _ x y w (by omega)) rfl)) ?_
                  refine rg_put (d := 121) (v := .d (.fl (.bool (((((((akP (qS (pS ls ls.length) ns j).1 (ix ns j)))).wait).length : Int) != (((((akP (qS (pS ls ls.length) ns j).1 (ix ns j)))).out - 1) - (qS (pS ls ls.length) ns j).2)))))) rfl (og rfl (op_bin rfl rfl rfl (b_neq _ _ _ _) rfl)) ?_
                  refine rg_done rfl ?_
                  refine a_condF rfl (show (((((((akP (qS (pS ls ls.length) ns j).1 (ix ns j)))).wait).length : Int) != (((((akP (qS (pS ls ls.length) ns j).1 (ix ns j)))).out - 1) - (qS (pS ls ls.length) ns j).2))) = false from (by rw [bne_eq_false_iff_eq]; omega)) ?_
                  refine a_skip ?_
                  show A _ _ _ _ _ _ _
                  refine a_rseq ?_
                  refine rg_put (d := 122) (v := .pt 102 3) rfl (og rfl (of_eff (s_field_pt rfl Try.underlying31 rfl ti29 rfl rfl rfl) rfl)) ?_
                  refine rg_put (d := 123) (v := .d (.sl 4 (List.map eFil ((((akP (qS (pS ls ls.length) ns j).1 (ix ns j)))).wait)))) rfl (og rfl (op_load_pt rfl Try.underlying29 rfl rfl rfl rfl rfl)) ?_
                  refine rg_put (d := 124) (v := .d (.fl (.int .i64 ((((((akP (qS (pS ls ls.length) ns j).1 (ix ns j)))).wait).length : Int))))) rfl (og rfl (s_len rfl Try.underlying29 rfl rfl)) ?_
                  refine rg_put (d := 125) (v := .d (.fl (.int .i64 0))) rfl (og rfl (op_move rfl rfl rfl)) ?_
                  refine rg_done rfl ?_
                  refine a_block ?_
                  refine a_loop (ι := Nat) (fun i => SS [(0, .d (.sl 1 (List.map (rL 5 eRec) ls))), (1, .d (.sl 1 (List.map (rI .i64) ns))), (2, .d (.ag (eFil f))), (5, .pt 101 0), (7, .pt 102 0), (11, .d (.fl (.int .i64 ((qS (pS ls ls.length) ns j).2)))), (13, .d (.fl (.int .i64 (ix ns j)))), (14, .pt 103 0), (15, .d (.fl (.int .i64 ((akE (qS (pS ls ls.length) ns j).1 (ix ns j)))))), (33, .d (.fl (.bool (hvB f.recs)))), (39, .d (.sl 1 (List.map (rL 5 eRec) ls))), (40, .d (.fl (.int .i64 (ls.length : Int)))), (41, .d (.fl (.int .i64 (k : Int)))), (42, .d (.fl (.bool ((decide ((k : Int) < (ls.length : Int))))))), (61, .d (.sl 1 (List.map (rI .i64) ns))), (62, .d (.fl (.int .i64 (ns.length : Int)))), (63, .d (.fl (.int .i64 (j : Int)))), (64, .d (.fl (.bool ((decide ((j : Int) < (ns.length : Int))))))), (106, .d (.fl (.bool (!true)))), (108, .d (.fl (.bool (((akE (qS (pS ls ls.length) ns j).1 (ix ns j)) == 0))))), (121, .d (.fl (.bool (((((((akP (qS (pS ls ls.length) ns j).1 (ix ns j)))).wait).length : Int) != (((((akP (qS (pS ls ls.length) ns j).1 (ix ns j)))).out - 1) - (qS (pS ls ls.length) ns j).2)))))), (123, .d (.sl 4 (List.map eFil ((((akP (qS (pS ls ls.length) ns j).1 (ix ns j)))).wait)))), (124, .d (.fl (.int .i64 ((((((akP (qS (pS ls ls.length) ns j).1 (ix ns j)))).wait).length : Int))))), (125, .d (.fl (.int .i64 (i : Int))))] [(101, .bx 26 (eFil f)), (102, .bx 31 ((ePt (((akP (qS (pS ls ls.length) ns j).1 (ix ns j))))))), (103, .bx 31 ((ePt ((akP (qS (pS ls ls.length) ns j).1 (ix ns j))))))]) (fun i => i ≤ (akP (qS (pS ls ls.length) ns j).1 (ix ns j)).wait.length) (fun i => (akP (qS (pS ls ls.length) ns j).1 (ix ns j)).wait.length - i) 0 (by omega) (imp_forget rfl ⟨rfl, rfl, rfl, rfl, rfl, rfl, rfl, rfl, rfl, rfl, rfl, rfl, rfl, rfl, rfl, rfl, rfl, rfl, rfl, rfl, rfl, rfl, rfl, (by first | rfl | exact ci (by omega) | exact ci (by simp) | exact cd (by simp) | simp), trivial⟩ ⟨rfl, rfl, rfl, trivial⟩) (fun i hok => ?_)
                  have hii := hok
                  refine a_rseq ?_
                  refine rg_put (d := 126) (v := .d (.fl (.bool ((decide ((i : Int) < (((((akP (qS (pS ls ls.length) ns j).1 (ix ns j)))).wait).length : Int))))))) rfl (og rfl (op_bin rfl rfl rfl (b_lss _ _ _ _) rfl)) ?_
                  refine rg_done rfl ?_
                  refine a_seq ?_
                  refine a_cond rfl (fun h47 => ?_) (fun h47 => ?_)
                  · skip
                    have h48 := t_dec h47
                    refine a_skip ?_
                    show A _ _ _ _ _ _ _
                    refine a_seq ?_
                    refine a_block ?_
                    refine a_rseq ?_
                    refine rg_put (d := 127) (v := .d (.fl (.int .i64 (i : Int)))) rfl (og rfl (op_move rfl rfl rfl)) ?_
                    refine rg_put (d := 128) (v := .el ((eFil ((ix ((((akP (qS (pS ls ls.length) ns j).1 (ix ns j)))).wait) i))))) rfl (og rfl (s_index rfl Try.underlying29 ti26 rfl rfl (by omega) (row_at (by omega)) rfl)) ?_
                    refine rg_put (d := 129) (v := .d (.ag (eFil (((ix ((((akP (qS (pS ls ls.length) ns j).1 (ix ns j)))).wait) i)))))) rfl (og rfl (of_eff (s_load_els rfl Try.underlying26 rfl ti26 rfl rfl rfl) rfl)) ?_
                    refine rg_nam (d := 17) (v := .pt 109 0) (m := 109) (nw := [(109, .bx 26 ([.fl (.string (⟨#[]⟩)), .fl (.string (⟨#[]⟩)), .fl (.int .i64 0), .fl (.slice none 0 0)]))]) rfl (og rfl (of_eff (s_alloc 109 rfl ti26 (by kernel_rfl) rfl) rfl)) rfl ?_
                    refine rg_put (d := 16) (v := .d (.fl (.int .i64 (i : Int)))) rfl (og rfl (op_assign rfl rfl rfl)) ?_
                    refine rg_sto (nw := [(109, .bx 26 ((eFil (((ix ((((akP (qS (pS ls ls.length) ns j).1 (ix ns j)))).wait) i))))))]) rfl (og rfl (of_eff (s_store rfl rfl ti26 rfl rfl rfl rfl rfl rfl) rfl)) ?_
                    refine rg_done rfl ?_
                    refine a_rseq ?_
                    refine rg_put (d := 130) (v := .pt 109 2) rfl (og rfl (of_eff (s_field_pt rfl Try.underlying26 rfl ti3 rfl rfl rfl) rfl)) ?_
                    refine rg_put (d := 131) (v := .d (.fl (.int .i64 ((((ix ((((akP (qS (pS ls ls.length) ns j).1 (ix ns j)))).wait) i))).seq)))) rfl (og rfl (op_load_pt rfl Try.underlying3 rfl rfl rfl rfl rfl)) ?_
                    refine rg_put (d := 132) (v := .d (.fl (.int .i64 ((qS (pS ls ls.length) ns j).2)))) rfl (og rfl (op_move rfl rfl rfl)) ?_
                    refine rg_put (d := 133) (v := .d (.fl (.int .i64 (((qS (pS ls ls.length) ns j).2 + 1))))) rfl (og rfl (op_bin rfl rfl rfl (fun x y w => b_add64 _ _ _ x y w (by omega)) rfl)) ?_
                    refine rg_put (d := 134) (v := .d (.fl (.int .i64 (i : Int)))) rfl (og rfl (op_move rfl rfl rfl)) ?_
                    refine rg_put (d := 135) (v := .d (.fl (.int .i64 ((((qS (pS ls ls.length) ns j).2 + 1) + (i : Int)))))) rfl (og rfl (op_bin rfl rfl rfl (fun x y w => b_add64 _ _ _ x y w (by omega)) rfl)) ?_
                    refine rg_put (d := 136) (v := .d (.fl (.bool (((((ix ((((akP (qS (pS ls ls.length) ns j).1 (ix ns j)))).wait) i))).seq != (((qS (pS ls ls.length) ns j).2 + 1) + (i : Int))))))) rfl (og rfl (op_bin rfl rfl rfl (b_neq _ _ _ _) rfl)) ?_
                    refine rg_done rfl ?_
                    refine a_condF rfl (show (((((ix ((((akP (qS (pS ls ls.length) ns j).1 (ix ns j)))).wait) i))).seq != (((qS (pS ls ls.length) ns j).2 + 1) + (i : Int)))) = false from (by rw [bne_eq_false_iff_eq, hsq i (by omega)])) ?_
                    refine a_skip ?_
                    show A _ _ _ _ _ _ _
                    refine a_region ?_
                    refine rg_put (d := 137) (v := .d (.fl (.int .i64 (((i : Int) + 1))))) rfl (og rfl (op_bin rfl rfl rfl (fun x y w => b_add64 _ _ _ x y w (by omega)) rfl)) ?_
                    refine rg_put (d := 125) (v := .d (.fl (.int .i64 (((i : Int) + 1))))) rfl (og rfl (op_move rfl rfl rfl)) ?_
                    refine rg_done rfl ?_
                    show ∃ i, _ ∧ _ ∧ Imp _ _ _ _ _
                    refine ⟨i + 1, (by omega), by omega, imp_forget rfl ⟨rfl, rfl, rfl, rfl, rfl, rfl, rfl, rfl, rfl, rfl, rfl, rfl, rfl, rfl, rfl, rfl, rfl, rfl, rfl, rfl, rfl, rfl, rfl, (by first | rfl | exact ci (by omega) | exact ci (by simp) | exact cd (by simp) | simp), trivial⟩ ⟨rfl, rfl, rfl, trivial⟩⟩
                  · skip
                    have h49 := f_dec h47
                    refine a_exit ?_
                    show A _ _ _ _ _ _ _
                    refine a_region ?_
                    refine rg_put (d := 138) (v := .d (.fl (.int .i64 (((j : Int) + 1))))) rfl (og rfl (op_bin rfl rfl rfl (fun x y w => b_add64 _ _ _ x y w (by omega)) rfl)) ?_
                    refine rg_put (d := 63) (v := .d (.fl (.int .i64 (((j : Int) + 1))))) rfl (og rfl (op_move rfl rfl rfl)) ?_
                    refine rg_done rfl ?_
                    show ∃ i, _ ∧ _ ∧ Imp _ _ _ _ _
                    refine ⟨j + 1, ⟨by omega, q_step hi2⟩, by omega, imp_forget rfl ⟨rfl, rfl, rfl, rfl, rfl, rfl, rfl, rfl, rfl, rfl, rfl, rfl, (ci (by omega)), (congrArg (fun z => AV.d (.fl (.int .i64 z))) (q_n h41).symm), trivial⟩ ⟨rfl, rfl, trivial⟩⟩
              · skip
                have h50 := t_bne h39
                refine rg_put (d := 88) (v := .d (.fl (.int .i64 ((akE (qS (pS ls ls.length) ns j).1 (ix ns j)))))) rfl (oy rfl rfl rfl h39 (op_move rfl rfl rfl)) ?_
                refine rg_put (d := 89) (v := .d (.fl (.bool (((akE (qS (pS ls ls.length) ns j).1 (ix ns j)) != 31))))) rfl (oy rfl rfl rfl h39 (op_bin rfl rfl rfl (b_neq _ _ _ _) rfl)) ?_
                refine rg_put (d := 90) (v := .d (.fl (.bool (((akE (qS (pS ls ls.length) ns j).1 (ix ns j)) != 31))))) rfl (oy rfl rfl rfl (show ((!(((akE (qS (pS ls ls.length) ns j).1 (ix ns j)) == 0) == (decide ((ix ns j) < (qS (pS ls ls.length) ns j).1.out))))) = false from (by rw [akE_b, show decide (0 ≤ (ix ns j)) = true from by assumption, Bool.true_and]; simp)) (op_pick rfl rfl (by rw [h39]; rfl) rfl)) ?_
                refine rg_put (d := 91) (v := .d (.fl (.bool (((akE (qS (pS ls ls.length) ns j).1 (ix ns j)) != 31))))) rfl (og rfl (op_pick rfl rfl (by rw [(show ((!(((akE (qS (pS ls ls.length) ns j).1 (ix ns j)) == 0) == (decide ((ix ns j) < (qS (pS ls ls.length) ns j).1.out))))) = false from (by rw [akE_b, show decide (0 ≤ (ix ns j)) = true from by assumption, Bool.true_and]; simp))]; rfl) rfl)) ?_
                refine rg_put (d := 92) (v := .d (.fl (.bool (((akE (qS (pS ls ls.length) ns j).1 (ix ns j)) != 31))))) rfl (og rfl (op_move rfl rfl rfl)) ?_
                refine rg_put (d := 93) (v := .pt 103 1) rfl (oy rfl rfl rfl (show (((akE (qS (pS ls ls.length) ns j).1 (ix ns j)) != 31)) = false from (ak_31 (by assumption))) (of_eff (s_field_pt rfl Try.underlying31 rfl ti3 rfl rfl rfl) rfl)) ?_
                refine rg_put (d := 94) (v := .d (.fl (.int .i64 (((akP (qS (pS ls ls.length) ns j).1 (ix ns j))).out)))) rfl (oy rfl rfl rfl (show (((akE (qS (pS ls ls.length) ns j).1 (ix ns j)) != 31)) = false from (ak_31 (by assumption))) (op_load_pt rfl Try.underlying3 rfl rfl rfl rfl rfl)) ?_
                refine rg_put (d := 95) (v := .pt 102 1) rfl (oy rfl rfl rfl (show (((akE (qS (pS ls ls.length) ns j).1 (ix ns j)) != 31)) = false from (ak_31 (by assumption))) (of_eff (s_field_pt rfl Try.underlying31 rfl ti3 rfl rfl rfl) rfl)) ?_
                refine rg_put (d := 96) (v := .d (.fl (.int .i64 ((qS (pS ls ls.length) ns j).1.out)))) rfl (oy rfl rfl rfl (show (((akE (qS (pS ls ls.length) ns j).1 (ix ns j)) != 31)) = false from (ak_31 (by assumption))) (op_load_pt rfl Try.underlying3 rfl rfl rfl rfl rfl)) ?_
                refine rg_put (d := 97) (v := .d (.fl (.bool ((((akP (qS (pS ls ls.length) ns j).1 (ix ns j))).out != (qS (pS ls ls.length) ns j).1.out))))) rfl (oy rfl rfl rfl (show (((akE (qS (pS ls ls.length) ns j).1 (ix ns j)) != 31)) = false from (ak_31 (by assumption))) (op_bin rfl rfl rfl (b_neq _ _ _ _) rfl)) ?_
                refine rg_put (d := 98) (v := .d (.fl (.bool ((((akP (qS (pS ls ls.length) ns j).1 (ix ns j))).out != (qS (pS ls ls.length) ns j).1.out))))) rfl (og rfl (op_pick rfl rfl (by rw [(show (((akE (qS (pS ls ls.length) ns j).1 (ix ns j)) != 31)) = false from (ak_31 (by assumption)))]; rfl) rfl)) ?_
                refine rg_put (d := 99) (v := .d (.fl (.bool ((((akP (qS (pS ls ls.length) ns j).1 (ix ns j))).out != (qS (pS ls ls.length) ns j).1.out))))) rfl (og rfl (op_move rfl rfl rfl)) ?_
                refine rg_put (d := 100) (v := .pt 102 4) rfl (oy rfl rfl rfl (show ((((akP (qS (pS ls ls.length) ns j).1 (ix ns j))).out != (qS (pS ls ls.length) ns j).1.out)) = false from (by rw [ak_out]; simp)) (of_eff (s_field_pt rfl Try.underlying31 rfl ti24 rfl rfl rfl) rfl)) ?_
                refine rg_put (d := 101) (v := .d (.sl 5 (List.map eRec ((qS (pS ls ls.length) ns j).1.ours)))) rfl (oy rfl rfl rfl (show ((((akP (qS (pS ls ls.length) ns j).1 (ix ns j))).out != (qS (pS ls ls.length) ns j).1.out)) = false from (by rw [ak_out]; simp)) (op_load_pt rfl Try.underlying24 rfl rfl rfl rfl rfl)) ?_
                refine rg_put (d := 102) (v := .pt 103 4) rfl (oy rfl rfl rfl (show ((((akP (qS (pS ls ls.length) ns j).1 (ix ns j))).out != (qS (pS ls ls.length) ns j).1.out)) = false from (by rw [ak_out]; simp)) (of_eff (s_field_pt rfl Try.underlying31 rfl ti24 rfl rfl rfl) rfl)) ?_
                refine rg_put (d := 103) (v := .d (.sl 5 (List.map eRec (((akP (qS (pS ls ls.length) ns j).1 (ix ns j))).ours)))) rfl (oy rfl rfl rfl (show ((((akP (qS (pS ls ls.length) ns j).1 (ix ns j))).out != (qS (pS ls ls.length) ns j).1.out)) = false from (by rw [ak_out]; simp)) (op_load_pt rfl Try.underlying24 rfl rfl rfl rfl rfl)) ?_
                refine rg_put (d := 104) (v := .d (.fl (.bool true))) rfl (oy rfl rfl rfl (show ((((akP (qS (pS ls ls.length) ns j).1 (ix ns j))).out != (qS (pS ls ls.length) ns j).1.out)) = false from (by rw [ak_out]; simp)) (op_call rfl Try.func9 nm9 rfl (.cons rfl (.d _) (.cons rfl (.d _) .nil)) (sarE ((qS (pS ls ls.length) ns j).1.ours) (((akP (qS (pS ls ls.length) ns j).1 (ix ns j))).ours) (ak_ours _ _) (by have := hi2.ol; omega)) rfl)) ?_
                refine rg_put (d := 105) (v := .d (.fl (.bool (!true)))) rfl (oy rfl rfl rfl (show ((((akP (qS (pS ls ls.length) ns j).1 (ix ns j))).out != (qS (pS ls ls.length) ns j).1.out)) = false from (by rw [ak_out]; simp)) (op_un rfl rfl (u_not _) rfl)) ?_
                refine rg_put (d := 106) (v := .d (.fl (.bool (!true)))) rfl (og rfl (op_pick rfl rfl (by rw [(show ((((akP (qS (pS ls ls.length) ns j).1 (ix ns j))).out != (qS (pS ls ls.length) ns j).1.out)) = false from (by rw [ak_out]; simp))]; rfl) rfl)) ?_
                refine rg_done rfl ?_
                refine a_condF rfl rfl ?_
                refine a_skip ?_
                show A _ _ _ _ _ _ _
                refine a_seq ?_
                refine a_rseq ?_
                refine rg_put (d := 107) (v := .d (.fl (.int .i64 ((akE (qS (pS ls ls.length) ns j).1 (ix ns j)))))) rfl (og rfl (op_move rfl rfl rfl)) ?_
                refine rg_put (d := 108) (v := .d (.fl (.bool (((akE (qS (pS ls ls.length) ns j).1 (ix ns j)) == 0))))) rfl (og rfl (op_bin rfl rfl rfl (b_eql _ _ _ _) rfl)) ?_
                refine rg_done rfl ?_
                refine a_cond rfl (fun h51 => ?_) (fun h51 => ?_)
                · skip
                  have h52 := t_beq h51
                  refine a_region ?_
                  refine rg_put (d := 109) (v := .d (.fl (.int .i64 ((qS (pS ls ls.length) ns j).2)))) rfl (og rfl (op_move rfl rfl rfl)) ?_
                  refine rg_put (d := 110) (v := .d (.fl (.int .i64 (ix ns j)))) rfl (og rfl (op_move rfl rfl rfl)) ?_
                  refine rg_put (d := 111) (v := .d (.fl (.int .i64 ((max ((qS (pS ls ls.length) ns j).2) (ix ns j)))))) rfl (og rfl (op_max rfl rfl rfl rfl)) ?_
                  refine rg_put (d := 11) (v := .d (.fl (.int .i64 ((max ((qS (pS ls ls.length) ns j).2) (ix ns j)))))) rfl (og rfl (op_assign rfl rfl rfl)) ?_
                  refine rg_done rfl ?_
                  show A _ _ _ _ _ _ _
                  refine a_rseq ?_
                  refine rg_put (d := 112) (v := .d (.ag (ePt (((akP (qS (pS ls ls.length) ns j).1 (ix ns j))))))) rfl (og rfl (of_eff (s_load_pts rfl Try.underlying31 rfl ti31 rfl rfl rfl rfl) rfl)) ?_
                  refine rg_sto (nw := [(102, .bx 31 ((ePt (((akP (qS (pS ls ls.length) ns j).1 (ix ns j)))))))]) rfl (og rfl (of_eff (s_store rfl rfl ti31 rfl rfl rfl rfl rfl rfl) rfl)) ?_
                  refine rg_done rfl ?_
                  refine a_seq ?_
                  refine a_rseq ?_
                  have hn := q_step hi2
                  have hT : (qS (pS ls ls.length) ns (j + 1)).2 = (max ((qS (pS ls ls.length) ns j).2) (ix ns j)) := q_y h51
                  have hno : (akP (qS (pS ls ls.length) ns j).1 (ix ns j)).out = ((akP (qS (pS ls ls.length) ns j).1 (ix ns j)).wait.length : Int) + 1 + (max ((qS (pS ls ls.length) ns j).2) (ix ns j)) := by have h := hn.out; rw [hT] at h; exact h
                  have hnb : (akP (qS (pS ls ls.length) ns j).1 (ix ns j)).out ≤ 11 := hn.ob
                  have hnm : 0 ≤ (max ((qS (pS ls ls.length) ns j).2) (ix ns j)) := by have h := hn.m0; rw [hT] at h; exact h
                  have hnw : (akP (qS (pS ls ls.length) ns j).1 (ix ns j)).wait.length ≤ 10 := hn.wl
                  have hsq : ∀ i, i < (akP (qS (pS ls ls.length) ns j).1 (ix ns j)).wait.length → (ix (akP (qS (pS ls ls.length) ns j).1 (ix ns j)).wait i).seq = ((max ((qS (pS ls ls.length) ns j).2) (ix ns j)) + 1) + (i : Int) := by have h := hn.sq; rw [hT] at h; exact h
                  refine rg_put (d := 113) (v := .pt 102 3) rfl (og rfl (of_eff (s_field_pt rfl Try.underlying31 rfl ti29 rfl rfl rfl) rfl)) ?_
                  refine rg_put (d := 114) (v := .d (.sl 4 (List.map eFil ((((akP (qS (pS ls ls.length) ns j).1 (ix ns j)))).wait)))) rfl (og rfl (op_load_pt rfl Try.underlying29 rfl rfl rfl rfl rfl)) ?_
                  refine rg_put (d := 115) (v := .d (.fl (.int .i64 ((((((akP (qS (pS ls ls.length) ns j).1 (ix ns j)))).wait).length : Int))))) rfl (og rfl (s_len rfl Try.underlying29 rfl rfl)) ?_
                  refine rg_put (d := 116) (v := .pt 102 1) rfl (og rfl (of_eff (s_field_pt rfl Try.underlying31 rfl ti3 rfl rfl rfl) rfl)) ?_
                  refine rg_put (d := 117) (v := .d (.fl (.int .i64 ((((akP (qS (pS ls ls.length) ns j).1 (ix ns j)))).out)))) rfl (og rfl (op_load_pt rfl Try.underlying3 rfl rfl rfl rfl rfl)) ?_
                  refine rg_put (d := 118) (v := .d (.fl (.int .i64 (((((akP (qS (pS ls ls.length) ns j).1 (ix ns j)))).out - 1))))) rfl (og rfl (op_bin rfl rfl rfl (fun x y w => b_sub64 _ _ _ x y w (by omega)) rfl)) ?_
                  refine rg_put (d := 119) (v := .d (.fl (.int .i64 ((max ((qS (pS ls ls.length) ns j).2) (ix ns j)))))) rfl (og rfl (op_move rfl rfl rfl)) ?_
                  refine rg_put (d := 120) (v := .d (.fl (.int .i64 ((((((akP (qS (pS ls ls.length) ns j).1 (ix ns j)))).out - 1) - (max ((qS (pS ls ls.length) ns j).2) (ix ns j))))))) rfl (og rfl (op_bin rfl rfl rfl (fun x y w => b_sub64 _ _ _ x y w (by omega)) rfl)) ?_
                  refine rg_put (d := 121) (v := .d (.fl (.bool (((((((akP (qS (pS ls ls.length) ns j).1 (ix ns j)))).wait).length : Int) != (((((akP (qS (pS ls ls.length) ns j).1 (ix ns j)))).out - 1) - (max ((qS (pS ls ls.length) ns j).2) (ix ns j)))))))) rfl (og rfl (op_bin rfl rfl rfl (b_neq _ _ _ _) rfl)) ?_
                  refine rg_done rfl ?_
                  refine a_condF rfl (show (((((((akP (qS (pS ls ls.length) ns j).1 (ix ns j)))).wait).length : Int) != (((((akP (qS (pS ls ls.length) ns j).1 (ix ns j)))).out - 1) - (max ((qS (pS ls ls.length) ns j).2) (ix ns j))))) = false from (by rw [bne_eq_false_iff_eq]; omega)) ?_
                  refine a_skip ?_
                  show A _ _ _ _ _ _ _
                  refine a_rseq ?_
                  refine rg_put (d := 122) (v := .pt 102 3) rfl (og rfl (of_eff (s_field_pt rfl Try.underlying31 rfl ti29 rfl rfl rfl) rfl)) ?_
                  refine rg_put (d := 123) (v := .d (.sl 4 (List.map eFil ((((akP (qS (pS ls ls.length) ns j).1 (ix ns j)))).wait)))) rfl (og rfl (op_load_pt rfl Try.underlying29 rfl rfl rfl rfl rfl)) ?_
                  refine rg_put (d := 124) (v := .d (.fl (.int .i64 ((((((akP (qS (pS ls ls.length) ns j).1 (ix ns j)))).wait).length : Int))))) rfl (og rfl (s_len rfl Try.underlying29 rfl rfl)) ?_
                  refine rg_put (d := 125) (v := .d (.fl (.int .i64 0))) rfl (og rfl (op_move rfl rfl rfl)) ?_
                  refine rg_done rfl ?_
                  refine a_block ?_
                  refine a_loop (ι := Nat) (fun i => SS [(0, .d (.sl 1 (List.map (rL 5 eRec) ls))), (1, .d (.sl 1 (List.map (rI .i64) ns))), (2, .d (.ag (eFil f))), (5, .pt 101 0), (7, .pt 102 0), (11, .d (.fl (.int .i64 ((max ((qS (pS ls ls.length) ns j).2) (ix ns j)))))), (13, .d (.fl (.int .i64 (ix ns j)))), (14, .pt 103 0), (15, .d (.fl (.int .i64 ((akE (qS (pS ls ls.length) ns j).1 (ix ns j)))))), (33, .d (.fl (.bool (hvB f.recs)))), (39, .d (.sl 1 (List.map (rL 5 eRec) ls))), (40, .d (.fl (.int .i64 (ls.length : Int)))), (41, .d (.fl (.int .i64 (k : Int)))), (42, .d (.fl (.bool ((decide ((k : Int) < (ls.length : Int))))))), (61, .d (.sl 1 (List.map (rI .i64) ns))), (62, .d (.fl (.int .i64 (ns.length : Int)))), (63, .d (.fl (.int .i64 (j : Int)))), (64, .d (.fl (.bool ((decide ((j : Int) < (ns.length : Int))))))), (106, .d (.fl (.bool (!true)))), (108, .d (.fl (.bool (((akE (qS (pS ls ls.length) ns j).1 (ix ns j)) == 0))))), (121, .d (.fl (.bool (((((((akP (qS (pS ls ls.length) ns j).1 (ix ns j)))).wait).length : Int) != (((((akP (qS (pS ls ls.length) ns j).1 (ix ns j)))).out - 1) - (max ((qS (pS ls ls.length) ns j).2) (ix ns j)))))))), (123, .d (.sl 4 (List.map eFil ((((akP (qS (pS ls ls.length) ns j).1 (ix ns j)))).wait)))), (124, .d (.fl (.int .i64 ((((((akP (qS (pS ls ls.length) ns j).1 (ix ns j)))).wait).length : Int))))), (125, .d (.fl (.int .i64 (i : Int))))] [(101, .bx 26 (eFil f)), (102, .bx 31 ((ePt (((akP (qS (pS ls ls.length) ns j).1 (ix ns j))))))), (103, .bx 31 ((ePt ((akP (qS (pS ls ls.length) ns j).1 (ix ns j))))))]) (fun i => i ≤ (akP (qS (pS ls ls.length) ns j).1 (ix ns j)).wait.length) (fun i => (akP (qS (pS ls ls.length) ns j).1 (ix ns j)).wait.length - i) 0 (by omega) (imp_forget rfl ⟨rfl, rfl, rfl, rfl, rfl, rfl, rfl, rfl, rfl, rfl, rfl, rfl, rfl, rfl, rfl, rfl, rfl, rfl, rfl, rfl, rfl, rfl, rfl, (by first | rfl | exact ci (by omega) | exact ci (by simp) | exact cd (by simp) | simp), trivial⟩ ⟨rfl, rfl, rfl, trivial⟩) (fun i hok => ?_)
                  have hii := hok
                  refine a_rseq ?_
                  refine rg_put (d := 126) (v := .d (.fl (.bool ((decide ((i : Int) < (((((akP (qS (pS ls ls.length) ns j).1 (ix ns j)))).wait).length : Int))))))) rfl (og rfl (op_bin rfl rfl rfl (b_lss _ _ _ _) rfl)) ?_
                  refine rg_done rfl ?_
                  refine a_seq ?_
                  refine a_cond rfl (fun h53 => ?_) (fun h53 => ?_)
                  · skip
                    have h54 := t_dec h53
                    refine a_skip ?_
                    show A _ _ _ _ _ _ _
                    refine a_seq ?_
                    refine a_block ?_
                    refine a_rseq ?_
                    refine rg_put (d := 127) (v := .d (.fl (.int .i64 (i : Int)))) rfl (og rfl (op_move rfl rfl rfl)) ?_
                    refine rg_put (d := 128) (v := .el ((eFil ((ix ((((akP (qS (pS ls ls.length) ns j).1 (ix ns j)))).wait) i))))) rfl (og rfl (s_index rfl Try.underlying29 ti26 rfl rfl (by omega) (row_at (by omega)) rfl)) ?_
                    refine rg_put (d := 129) (v := .d (.ag (eFil (((ix ((((akP (qS (pS ls ls.length) ns j).1 (ix ns j)))).wait) i)))))) rfl (og rfl (of_eff (s_load_els rfl Try.underlying26 rfl ti26 rfl rfl rfl) rfl)) ?_
                    refine rg_nam (d := 17) (v := .pt 110 0) (m := 110) (nw := [(110, .bx 26 ([.fl (.string (⟨#[]⟩)), .fl (.string (⟨#[]⟩)), .fl (.int .i64 0), .fl (.slice none 0 0)]))]) rfl (og rfl (of_eff (s_alloc 110 rfl ti26 (by kernel_rfl) rfl) rfl)) rfl ?_
                    refine rg_put (d := 16) (v := .d (.fl (.int .i64 (i : Int)))) rfl (og rfl (op_assign rfl rfl rfl)) ?_
                    refine rg_sto (nw := [(110, .bx 26 ((eFil (((ix ((((akP (qS (pS ls ls.length) ns j).1 (ix ns j)))).wait) i))))))]) rfl (og rfl (of_eff (s_store rfl rfl ti26 rfl rfl rfl rfl rfl rfl) rfl)) ?_
                    refine rg_done rfl ?_
                    refine a_rseq ?_
                    refine rg_put (d := 130) (v := .pt 110 2) rfl (og rfl (of_eff (s_field_pt rfl Try.underlying26 rfl ti3 rfl rfl rfl) rfl)) ?_
                    refine rg_put (d := 131) (v := .d (.fl (.int .i64 ((((ix ((((akP (qS (pS ls ls.length) ns j).1 (ix ns j)))).wait) i))).seq)))) rfl (og rfl (op_load_pt rfl Try.underlying3 rfl rfl rfl rfl rfl)) ?_
                    refine rg_put (d := 132) (v := .d (.fl (.int .i64 ((max ((qS (pS ls ls.length) ns j).2) (ix ns j)))))) rfl (og rfl (op_move rfl rfl rfl)) ?_
                    refine rg_put (d := 133) (v := .d (.fl (.int .i64 (((max ((qS (pS ls ls.length) ns j).2) (ix ns j)) + 1))))) rfl (og rfl (op_bin rfl rfl rfl (fun x y w => b_add64 _ _ _ x y w (by omega)) rfl)) ?_
                    refine rg_put (d := 134) (v := .d (.fl (.int .i64 (i : Int)))) rfl (og rfl (op_move rfl rfl rfl)) ?_
                    refine rg_put (d := 135) (v := .d (.fl (.int .i64 ((((max ((qS (pS ls ls.length) ns j).2) (ix ns j)) + 1) + (i : Int)))))) rfl (og rfl (op_bin rfl rfl rfl (fun x y w => b_add64 _ _ _ x y w (by omega)) rfl)) ?_
                    refine rg_put (d := 136) (v := .d (.fl (.bool (((((ix ((((akP (qS (pS ls ls.length) ns j).1 (ix ns j)))).wait) i))).seq != (((max ((qS (pS ls ls.length) ns j).2) (ix ns j)) + 1) + (i : Int))))))) rfl (og rfl (op_bin rfl rfl rfl (b_neq _ _ _ _) rfl)) ?_
                    refine rg_done rfl ?_
                    refine a_condF rfl (show (((((ix ((((akP (qS (pS ls ls.length) ns j).1 (ix ns j)))).wait) i))).seq != (((max ((qS (pS ls ls.length) ns j).2) (ix ns j)) + 1) + (i : Int)))) = false from (by rw [bne_eq_false_iff_eq, hsq i (by omega)])) ?_
                    refine a_skip ?_
                    show A _ _ _ _ _ _ _
                    refine a_region ?_
                    refine rg_put (d := 137) (v := .d (.fl (.int .i64 (((i : Int) + 1))))) rfl (og rfl (op_bin rfl rfl rfl (fun x y w => b_add64 _ _ _ x y w (by omega)) rfl)) ?_
                    refine rg_put (d := 125) (v := .d (.fl (.int .i64 (((i : Int) + 1))))) rfl (og rfl (op_move rfl rfl rfl)) ?_
                    refine rg_done rfl ?_
                    show ∃ i, _ ∧ _ ∧ Imp _ _ _ _ _
                    refine ⟨i + 1, (by omega), by omega, imp_forget rfl ⟨rfl, rfl, rfl, rfl, rfl, rfl, rfl, rfl, rfl, rfl, rfl, rfl, rfl, rfl, rfl, rfl, rfl, rfl, rfl, rfl, rfl, rfl, rfl, (by first | rfl | exact ci (by omega) | exact ci (by simp) | exact cd (by simp) | simp), trivial⟩ ⟨rfl, rfl, rfl, trivial⟩⟩
                  · skip
                    have h55 := f_dec h53
                    refine a_exit ?_
                    show A _ _ _ _ _ _ _
                    refine a_region ?_
                    refine rg_put (d := 138) (v := .d (.fl (.int .i64 (((j : Int) + 1))))) rfl (og rfl (op_bin rfl rfl rfl (fun x y w => b_add64 _ _ _ x y w (by omega)) rfl)) ?_
                    refine rg_put (d := 63) (v := .d (.fl (.int .i64 (((j : Int) + 1))))) rfl (og rfl (op_move rfl rfl rfl)) ?_
                    refine rg_done rfl ?_
                    show ∃ i, _ ∧ _ ∧ Imp _ _ _ _ _
                    refine ⟨j + 1, ⟨by omega, q_step hi2⟩, by omega, imp_forget rfl ⟨rfl, rfl, rfl, rfl, rfl, rfl, rfl, rfl, rfl, rfl, rfl, rfl, (ci (by omega)), (congrArg (fun z => AV.d (.fl (.int .i64 z))) (q_y h51).symm), trivial⟩ ⟨rfl, rfl, trivial⟩⟩
                · skip
                  have h56 := f_beq h51
                  refine a_skip ?_
                  show A _ _ _ _ _ _ _
                  refine a_rseq ?_
                  refine rg_put (d := 112) (v := .d (.ag (ePt (((akP (qS (pS ls ls.length) ns j).1 (ix ns j))))))) rfl (og rfl (of_eff (s_load_pts rfl Try.underlying31 rfl ti31 rfl rfl rfl rfl) rfl)) ?_
                  refine rg_sto (nw := [(102, .bx 31 ((ePt (((akP (qS (pS ls ls.length) ns j).1 (ix ns j)))))))]) rfl (og rfl (of_eff (s_store rfl rfl ti31 rfl rfl rfl rfl rfl rfl) rfl)) ?_
                  refine rg_done rfl ?_
                  refine a_seq ?_
                  refine a_rseq ?_
                  have hn := q_step hi2
                  have hT : (qS (pS ls ls.length) ns (j + 1)).2 = (qS (pS ls ls.length) ns j).2 := q_n h51
                  have hno : (akP (qS (pS ls ls.length) ns j).1 (ix ns j)).out = ((akP (qS (pS ls ls.length) ns j).1 (ix ns j)).wait.length : Int) + 1 + (qS (pS ls ls.length) ns j).2 := by have h := hn.out; rw [hT] at h; exact h
                  have hnb : (akP (qS (pS ls ls.length) ns j).1 (ix ns j)).out ≤ 11 := hn.ob
                  have hnm : 0 ≤ (qS (pS ls ls.length) ns j).2 := by have h := hn.m0; rw [hT] at h; exact h
                  have hnw : (akP (qS (pS ls ls.length) ns j).1 (ix ns j)).wait.length ≤ 10 := hn.wl
                  have hsq : ∀ i, i < (akP (qS (pS ls ls.length) ns j).1 (ix ns j)).wait.length → (ix (akP (qS (pS ls ls.length) ns j).1 (ix ns j)).wait i).seq = ((qS (pS ls ls.length) ns j).2 + 1) + (i : Int) := by have h := hn.sq; rw [hT] at h; exact h
                  refine rg_put (d := 113) (v := .pt 102 3) rfl (og rfl (of_eff (s_field_pt rfl Try.underlying31 rfl ti29 rfl rfl rfl) rfl)) ?_
                  refine rg_put (d := 114) (v := .d (.sl 4 (List.map eFil ((((akP (qS (pS ls ls.length) ns j).1 (ix ns j)))).wait)))) rfl (og rfl (op_load_pt rfl Try.underlying29 rfl rfl rfl rfl rfl)) ?_
                  refine rg_put (d := 115) (v := .d (.fl (.int .i64 ((((((akP (qS (pS ls ls.length) ns j).1 (ix ns j)))).wait).length : Int))))) rfl (og rfl (s_len rfl Try.underlying29 rfl rfl)) ?_
                  refine rg_put (d := 116) (v := .pt 102 1) rfl (og rfl (of_eff (s_field_pt rfl Try.underlying31 rfl ti3 rfl rfl rfl) rfl)) ?_
                  refine rg_put (d := 117) (v := .d (.fl (.int .i64 ((((akP (qS (pS ls ls.length) ns j).1 (ix ns j)))).out)))) rfl (og rfl (op_load_pt rfl Try.underlying3 rfl rfl rfl rfl rfl)) ?_
                  refine rg_put (d := 118) (v := .d (.fl (.int .i64 (((((akP (qS (pS ls ls.length) ns j).1 (ix ns j)))).out - 1))))) rfl (og rfl (op_bin rfl rfl rfl (fun x y w => b_sub64 _ _ _ x y w (by omega)) rfl)) ?_
                  refine rg_put (d := 119) (v := .d (.fl (.int .i64 ((qS (pS ls ls.length) ns j).2)))) rfl (og rfl (op_move rfl rfl rfl)) ?_
                  refine rg_put (d := 120) (v := .d (.fl (.int .i64 ((((((akP (qS (pS ls ls.length) ns j).1 (ix ns j)))).out - 1) - (qS (pS ls ls.length) ns j).2))))) rfl (og rfl (op_bin rfl rfl rfl (fun x y w => b_sub64 _ _ _ x y w (by omega)) rfl)) ?_
                  refine rg_put (d := 121) (v := .d (.fl (.bool (((((((akP (qS (pS ls ls.length) ns j).1 (ix ns j)))).wait).length : Int) != (((((akP (qS (pS ls ls.length) ns j).1 (ix ns j)))).out - 1) - (qS (pS ls ls.length) ns j).2)))))) rfl (og rfl (op_bin rfl rfl rfl (b_neq _ _ _ _) rfl)) ?_
                  refine rg_done rfl ?_
                  refine a_condF rfl (show (((((((akP (qS (pS ls ls.length) ns j).1 (ix ns j)))).wait).length : Int) != (((((akP (qS (pS ls ls.length) ns j).1 (ix ns j)))).out - 1) - (qS (pS ls ls.length) ns j).2))) = false from (by rw [bne_eq_false_iff_eq]; omega)) ?_
                  refine a_skip ?_
                  show A _ _ _ _ _ _ _
                  refine a_rseq ?_
                  refine rg_put (d := 122) (v := .pt 102 3) rfl (og rfl (of_eff (s_field_pt rfl Try.underlying31 rfl ti29 rfl rfl rfl) rfl)) ?_
                  refine rg_put (d := 123) (v := .d (.sl 4 (List.map eFil ((((akP (qS (pS ls ls.length) ns j).1 (ix ns j)))).wait)))) rfl (og rfl (op_load_pt rfl Try.underlying29 rfl rfl rfl rfl rfl)) ?_
                  refine rg_put (d := 124) (v := .d (.fl (.int .i64 ((((((akP (qS (pS ls ls.length) ns j).1 (ix ns j)))).wait).length : Int))))) rfl (og rfl (s_len rfl Try.underlying29 rfl rfl)) ?_
                  refine rg_put (d := 125) (v := .d (.fl (.int .i64 0))) rfl (og rfl (op_move rfl rfl rfl)) ?_
                  refine rg_done rfl ?_
                  refine a_block ?_
                  refine a_loop (ι := Nat) (fun i => SS [(0, .d (.sl 1 (List.map (rL 5 eRec) ls))), (1, .d (.sl 1 (List.map (rI .i64) ns))), (2, .d (.ag (eFil f))), (5, .pt 101 0), (7, .pt 102 0), (11, .d (.fl (.int .i64 ((qS (pS ls ls.length) ns j).2)))), (13, .d (.fl (.int .i64 (ix ns j)))), (14, .pt 103 0), (15, .d (.fl (.int .i64 ((akE (qS (pS ls ls.length) ns j).1 (ix ns j)))))), (33, .d (.fl (.bool (hvB f.recs)))), (39, .d (.sl 1 (List.map (rL 5 eRec) ls))), (40, .d (.fl (.int .i64 (ls.length : Int)))), (41, .d (.fl (.int .i64 (k : Int)))), (42, .d (.fl (.bool ((decide ((k : Int) < (ls.length : Int))))))), (61, .d (.sl 1 (List.map (rI .i64) ns))), (62, .d (.fl (.int .i64 (ns.length : Int)))), (63, .d (.fl (.int .i64 (j : Int)))), (64, .d (.fl (.bool ((decide ((j : Int) < (ns.length : Int))))))), (106, .d (.fl (.bool (!true)))), (108, .d (.fl (.bool (((akE (qS (pS ls ls.length) ns j).1 (ix ns j)) == 0))))), (121, .d (.fl (.bool (((((((akP (qS (pS ls ls.length) ns j).1 (ix ns j)))).wait).length : Int) != (((((akP (qS (pS ls ls.length) ns j).1 (ix ns j)))).out - 1) - (qS (pS ls ls.length) ns j).2)))))), (123, .d (.sl 4 (List.map eFil ((((akP (qS (pS ls ls.length) ns j).1 (ix ns j)))).wait)))), (124, .d (.fl (.int .i64 ((((((akP (qS (pS ls ls.length) ns j).1 (ix ns j)))).wait).length : Int))))), (125, .d (.fl (.int .i64 (i : Int))))] [(101, .bx 26 (eFil f)), (102, .bx 31 ((ePt (((akP (qS (pS ls ls.length) ns j).1 (ix ns j))))))), (103, .bx 31 ((ePt ((akP (qS (pS ls ls.length) ns j).1 (ix ns j))))))]) (fun i => i ≤ (akP (qS (pS ls ls.length) ns j).1 (ix ns j)).wait.length) (fun i => (akP (qS (pS ls ls.length) ns j).1 (ix ns j)).wait.length - i) 0 (by omega) (imp_forget rfl ⟨rfl, rfl, rfl, rfl, rfl, rfl, rfl, rfl, rfl, rfl, rfl, rfl, rfl, rfl, rfl, rfl, rfl, rfl, rfl, rfl, rfl, rfl, rfl, (by first | rfl | exact ci (by omega) | exact ci (by simp) | exact cd (by simp) | simp), trivial⟩ ⟨rfl, rfl, rfl, trivial⟩) (fun i hok => ?_)
                  have hii := hok
                  refine a_rseq ?_
                  refine rg_put (d := 126) (v := .d (.fl (.bool ((decide ((i : Int) < (((((akP (qS (pS ls ls.length) ns j).1 (ix ns j)))).wait).length : Int))))))) rfl (og rfl (op_bin rfl rfl rfl (b_lss _ _ _ _) rfl)) ?_
                  refine rg_done rfl ?_
                  refine a_seq ?_
                  refine a_cond rfl (fun h57 => ?_) (fun h57 => ?_)
                  · skip
                    have h58 := t_dec h57
                    refine a_skip ?_
                    show A _ _ _ _ _ _ _
                    refine a_seq ?_
                    refine a_block ?_
                    refine a_rseq ?_
                    refine rg_put (d := 127) (v := .d (.fl (.int .i64 (i : Int)))) rfl (og rfl (op_move rfl rfl rfl)) ?_
                    refine rg_put (d := 128) (v := .el ((eFil ((ix ((((akP (qS (pS ls ls.length) ns j).1 (ix ns j)))).wait) i))))) rfl (og rfl (s_index rfl Try.underlying29 ti26 rfl rfl (by omega) (row_at (by omega)) rfl)) ?_
                    refine rg_put (d := 129) (v := .d (.ag (eFil (((ix ((((akP (qS (pS ls ls.length) ns j).1 (ix ns j)))).wait) i)))))) rfl (og rfl (of_eff (s_load_els rfl Try.underlying26 rfl ti26 rfl rfl rfl) rfl)) ?_
                    refine rg_nam (d := 17) (v := .pt 111 0) (m := 111) (nw := [(111, .bx 26 ([.fl (.string (⟨#[]⟩)), .fl (.string (⟨#[]⟩)), .fl (.int .i64 0), .fl (.slice none 0 0)]))]) rfl (og rfl (of_eff (s_alloc 111 rfl ti26 (by kernel_rfl) rfl) rfl)) rfl ?_
                    refine rg_put (d := 16) (v := .d (.fl (.int .i64 (i : Int)))) rfl (og rfl (op_assign rfl rfl rfl)) ?_
                    refine rg_sto (nw := [(111, .bx 26 ((eFil (((ix ((((akP (qS (pS ls ls.length) ns j).1 (ix ns j)))).wait) i))))))]) rfl (og rfl (of_eff (s_store rfl rfl ti26 rfl rfl rfl rfl rfl rfl) rfl)) ?_
                    refine rg_done rfl ?_
                    refine a_rseq ?_
                    refine rg_put (d := 130) (v := .pt 111 2) rfl (og rfl (of_eff (s_field_pt rfl Try.underlying26 rfl ti3 rfl rfl rfl) rfl)) ?_
                    refine rg_put (d := 131) (v := .d (.fl (.int .i64 ((((ix ((((akP (qS (pS ls ls.length) ns j).1 (ix ns j)))).wait) i))).seq)))) rfl (og rfl (op_load_pt rfl Try.underlying3 rfl rfl rfl rfl rfl)) ?_
                    refine rg_put (d := 132) (v := .d (.fl (.int .i64 ((qS (pS ls ls.length) ns j).2)))) rfl (og rfl (op_move rfl rfl rfl)) ?_
                    refine rg_put (d := 133) (v := .d (.fl (.int .i64 (((qS (pS ls ls.length) ns j).2 + 1))))) rfl (og rfl (op_bin rfl rfl rfl (fun x y w => b_add64 _ _ _ x y w (by omega)) rfl)) ?_
                    refine rg_put (d := 134) (v := .d (.fl (.int .i64 (i : Int)))) rfl (og rfl (op_move rfl rfl rfl)) ?_
                    refine rg_put (d := 135) (v := .d (.fl (.int .i64 ((((qS (pS ls ls.length) ns j).2 + 1) + (i : Int)))))) rfl (og rfl (op_bin rfl rfl rfl (fun x y w => b_add64 _ _ _ x y w (by omega)) rfl)) ?_
                    refine rg_put (d := 136) (v := .d (.fl (.bool (((((ix ((((akP (qS (pS ls ls.length) ns j).1 (ix ns j)))).wait) i))).seq != (((qS (pS ls ls.length) ns j).2 + 1) + (i : Int))))))) rfl (og rfl (op_bin rfl rfl rfl (b_neq _ _ _ _) rfl)) ?_
                    refine rg_done rfl ?_
                    refine a_condF rfl (show (((((ix ((((akP (qS (pS ls ls.length) ns j).1 (ix ns j)))).wait) i))).seq != (((qS (pS ls ls.length) ns j).2 + 1) + (i : Int)))) = false from (by rw [bne_eq_false_iff_eq, hsq i (by omega)])) ?_
                    refine a_skip ?_
                    show A _ _ _ _ _ _ _
                    refine a_region ?_
                    refine rg_put (d := 137) (v := .d (.fl (.int .i64 (((i : Int) + 1))))) rfl (og rfl (op_bin rfl rfl rfl (fun x y w => b_add64 _ _ _ x y w (by omega)) rfl)) ?_
                    refine rg_put (d := 125) (v := .d (.fl (.int .i64 (((i : Int) + 1))))) rfl (og rfl (op_move rfl rfl rfl)) ?_
                    refine rg_done rfl ?_
                    show ∃ i, _ ∧ _ ∧ Imp _ _ _ _ _
                    refine ⟨i + 1, (by omega), by omega, imp_forget rfl ⟨rfl, rfl, rfl, rfl, rfl, rfl, rfl, rfl, rfl, rfl, rfl, rfl, rfl, rfl, rfl, rfl, rfl, rfl, rfl, rfl, rfl, rfl, rfl, (by first | rfl | exact ci (by omega) | exact ci (by simp) | exact cd (by simp) | simp), trivial⟩ ⟨rfl, rfl, rfl, trivial⟩⟩
                  · skip
                    have h59 := f_dec h57
                    refine a_exit ?_
                    show A _ _ _ _ _ _ _
                    refine a_region ?_
                    refine rg_put (d := 138) (v := .d (.fl (.int .i64 (((j : Int) + 1))))) rfl (og rfl (op_bin rfl rfl rfl (fun x y w => b_add64 _ _ _ x y w (by omega)) rfl)) ?_
                    refine rg_put (d := 63) (v := .d (.fl (.int .i64 (((j : Int) + 1))))) rfl (og rfl (op_move rfl rfl rfl)) ?_
                    refine rg_done rfl ?_
                    show ∃ i, _ ∧ _ ∧ Imp _ _ _ _ _
                    refine ⟨j + 1, ⟨by omega, q_step hi2⟩, by omega, imp_forget rfl ⟨rfl, rfl, rfl, rfl, rfl, rfl, rfl, rfl, rfl, rfl, rfl, rfl, (ci (by omega)), (congrArg (fun z => AV.d (.fl (.int .i64 z))) (q_n h51).symm), trivial⟩ ⟨rfl, rfl, trivial⟩⟩
          · skip
            have h60 := f_dec h13
            refine a_exit ?_
            show A _ _ _ _ _ _ _
            refine a_rseq ?_
            have hjl0 : j = ns.length := by omega
            have hi3 : I2 (qS (pS ls ls.length) ns ns.length).1 (qS (pS ls ls.length) ns ns.length).2 := by rw [hjl0] at hi2; exact hi2
            rw [show (qS (pS ls ls.length) ns j) = (qS (pS ls ls.length) ns ns.length) from (by rw [hjl0])]
            have h3o := hi3.out
            have h3m := hi3.m0
            have h3b := hi3.ob
            refine rg_put (d := 140) (v := .d (.ag (ePt ((qS (pS ls ls.length) ns ns.length).1)))) rfl (og rfl (of_eff (s_load_pts rfl Try.underlying31 rfl ti31 rfl rfl rfl rfl) rfl)) ?_
            refine rg_put (d := 141) (v := .d (.ag (eFil f))) rfl (og rfl (of_eff (s_load_pts rfl Try.underlying26 rfl ti26 rfl rfl rfl rfl) rfl)) ?_
            refine rg_put (d := 142) (v := .tu [.ag (ePt ((rvP (qS (pS ls ls.length) ns ns.length).1 f))), .fl (.int .i64 ((rvE (qS (pS ls ls.length) ns ns.length).1 f)))]) rfl (og rfl (op_call rfl Try.func10 nm10 rfl (.cons rfl (.d _) (.cons rfl (.d _) .nil)) (rvC (qS (pS ls ls.length) ns ns.length).1 f (i2_ok hi3) hkk hfl) rfl)) ?_
            refine rg_put (d := 139) (v := .tu [.ag (ePt ((rvP (qS (pS ls ls.length) ns ns.length).1 f))), .fl (.int .i64 ((rvE (qS (pS ls ls.length) ns ns.length).1 f)))]) rfl (og rfl (op_move rfl rfl rfl)) ?_
            refine rg_put (d := 143) (v := .d (.ag (ePt ((rvP (qS (pS ls ls.length) ns ns.length).1 f))))) rfl (og rfl (op_extract rfl rfl rfl rfl)) ?_
            refine rg_put (d := 144) (v := .d (.fl (.int .i64 ((rvE (qS (pS ls ls.length) ns ns.length).1 f))))) rfl (og rfl (op_extract rfl rfl rfl rfl)) ?_
            refine rg_nam (d := 18) (v := .pt 112 0) (m := 112) (nw := [(112, .bx 31 ([.fl (.string (⟨#[]⟩)), .fl (.int .i64 0), .fl (.int .i64 0), .fl (.slice none 0 0), .fl (.slice none 0 0), .fl (.slice none 0 0)]))]) rfl (og rfl (of_eff (s_alloc 112 rfl ti31 (by kernel_rfl) rfl) rfl)) rfl ?_
            refine rg_sto (nw := [(112, .bx 31 ((ePt ((rvP (qS (pS ls ls.length) ns ns.length).1 f)))))]) rfl (og rfl (of_eff (s_store rfl rfl ti31 rfl rfl rfl rfl rfl rfl) rfl)) ?_
            refine rg_put (d := 19) (v := .d (.fl (.int .i64 ((rvE (qS (pS ls ls.length) ns ns.length).1 f))))) rfl (og rfl (op_assign rfl rfl rfl)) ?_
            refine rg_done rfl ?_
            refine a_seq ?_
            refine a_rseq ?_
            refine rg_put (d := 145) (v := .pt 112 1) rfl (og rfl (of_eff (s_field_pt rfl Try.underlying31 rfl ti3 rfl rfl rfl) rfl)) ?_
            refine rg_put (d := 146) (v := .d (.fl (.int .i64 (((rvP (qS (pS ls ls.length) ns ns.length).1 f)).out)))) rfl (og rfl (op_load_pt rfl Try.underlying3 rfl rfl rfl rfl rfl)) ?_
            refine rg_put (d := 147) (v := .pt 102 1) rfl (og rfl (of_eff (s_field_pt rfl Try.underlying31 rfl ti3 rfl rfl rfl) rfl)) ?_
            refine rg_put (d := 148) (v := .d (.fl (.int .i64 ((qS (pS ls ls.length) ns ns.length).1.out)))) rfl (og rfl (op_load_pt rfl Try.underlying3 rfl rfl rfl rfl rfl)) ?_
            refine rg_put (d := 149) (v := .d (.fl (.bool ((((rvP (qS (pS ls ls.length) ns ns.length).1 f)).out != (qS (pS ls ls.length) ns ns.length).1.out))))) rfl (og rfl (op_bin rfl rfl rfl (b_neq _ _ _ _) rfl)) ?_
            refine rg_put (d := 150) (v := .d (.fl (.bool ((((rvP (qS (pS ls ls.length) ns ns.length).1 f)).out != (qS (pS ls ls.length) ns ns.length).1.out))))) rfl (og rfl (op_move rfl rfl rfl)) ?_
            refine rg_put (d := 151) (v := .pt 102 4) rfl (oy rfl rfl rfl (show ((((rvP (qS (pS ls ls.length) ns ns.length).1 f)).out != (qS (pS ls ls.length) ns ns.length).1.out)) = false from (by rw [rv_out]; simp)) (of_eff (s_field_pt rfl Try.underlying31 rfl ti24 rfl rfl rfl) rfl)) ?_
            refine rg_put (d := 152) (v := .d (.sl 5 (List.map eRec ((qS (pS ls ls.length) ns ns.length).1.ours)))) rfl (oy rfl rfl rfl (show ((((rvP (qS (pS ls ls.length) ns ns.length).1 f)).out != (qS (pS ls ls.length) ns ns.length).1.out)) = false from (by rw [rv_out]; simp)) (op_load_pt rfl Try.underlying24 rfl rfl rfl rfl rfl)) ?_
            refine rg_put (d := 153) (v := .pt 112 4) rfl (oy rfl rfl rfl (show ((((rvP (qS (pS ls ls.length) ns ns.length).1 f)).out != (qS (pS ls ls.length) ns ns.length).1.out)) = false from (by rw [rv_out]; simp)) (of_eff (s_field_pt rfl Try.underlying31 rfl ti24 rfl rfl rfl) rfl)) ?_
            refine rg_put (d := 154) (v := .d (.sl 5 (List.map eRec (((rvP (qS (pS ls ls.length) ns ns.length).1 f)).ours)))) rfl (oy rfl rfl rfl (show ((((rvP (qS (pS ls ls.length) ns ns.length).1 f)).out != (qS (pS ls ls.length) ns ns.length).1.out)) = false from (by rw [rv_out]; simp)) (op_load_pt rfl Try.underlying24 rfl rfl rfl rfl rfl)) ?_
            refine rg_put (d := 155) (v := .d (.fl (.bool true))) rfl (oy rfl rfl rfl (show ((((rvP (qS (pS ls ls.length) ns ns.length).1 f)).out != (qS (pS ls ls.length) ns ns.length).1.out)) = false from (by rw [rv_out]; simp)) (op_call rfl Try.func9 nm9 rfl (.cons rfl (.d _) (.cons rfl (.d _) .nil)) (sarE ((qS (pS ls ls.length) ns ns.length).1.ours) (((rvP (qS (pS ls ls.length) ns ns.length).1 f)).ours) (rv_ours _ _) (by have := hi3.ol; omega)) rfl)) ?_
            refine rg_put (d := 156) (v := .d (.fl (.bool (!true)))) rfl (oy rfl rfl rfl (show ((((rvP (qS (pS ls ls.length) ns ns.length).1 f)).out != (qS (pS ls ls.length) ns ns.length).1.out)) = false from (by rw [rv_out]; simp)) (op_un rfl rfl (u_not _) rfl)) ?_
            refine rg_put (d := 157) (v := .d (.fl (.bool (!true)))) rfl (og rfl (op_pick rfl rfl (by rw [(show ((((rvP (qS (pS ls ls.length) ns ns.length).1 f)).out != (qS (pS ls ls.length) ns ns.length).1.out)) = false from (by rw [rv_out]; simp))]; rfl) rfl)) ?_
            refine rg_put (d := 158) (v := .d (.fl (.bool (!true)))) rfl (og rfl (op_move rfl rfl rfl)) ?_
            refine rg_put (d := 159) (v := .pt 102 3) rfl (oy rfl rfl rfl rfl (of_eff (s_field_pt rfl Try.underlying31 rfl ti29 rfl rfl rfl) rfl)) ?_
            refine rg_put (d := 160) (v := .d (.sl 4 (List.map eFil ((qS (pS ls ls.length) ns ns.length).1.wait)))) rfl (oy rfl rfl rfl rfl (op_load_pt rfl Try.underlying29 rfl rfl rfl rfl rfl)) ?_
            refine rg_put (d := 161) (v := .pt 112 3) rfl (oy rfl rfl rfl rfl (of_eff (s_field_pt rfl Try.underlying31 rfl ti29 rfl rfl rfl) rfl)) ?_
            refine rg_put (d := 162) (v := .d (.sl 4 (List.map eFil (((rvP (qS (pS ls ls.length) ns ns.length).1 f)).wait)))) rfl (oy rfl rfl rfl rfl (op_load_pt rfl Try.underlying29 rfl rfl rfl rfl rfl)) ?_
            refine rg_put (d := 163) (v := .d (.fl (.bool true))) rfl (oy rfl rfl rfl rfl (op_call rfl Try.func11 nm11 rfl (.cons rfl (.d _) (.cons rfl (.d _) .nil)) (safE ((qS (pS ls ls.length) ns ns.length).1.wait) (((rvP (qS (pS ls ls.length) ns ns.length).1 f)).wait) (rv_wait _ _) (by have := hi3.wl; omega) (i2_ok hi3).r) rfl)) ?_
            refine rg_put (d := 164) (v := .d (.fl (.bool (!true)))) rfl (oy rfl rfl rfl rfl (op_un rfl rfl (u_not _) rfl)) ?_
            refine rg_put (d := 165) (v := .d (.fl (.bool (!true)))) rfl (og rfl (op_pick rfl rfl rfl rfl)) ?_
            refine rg_done rfl ?_
            refine a_condF rfl rfl ?_
            refine a_skip ?_
            show A _ _ _ _ _ _ _
            refine a_rseq ?_
            refine rg_put (d := 167) (v := .d (.ag (ePt ((qS (pS ls ls.length) ns ns.length).1)))) rfl (og rfl (of_eff (s_load_pts rfl Try.underlying31 rfl ti31 rfl rfl rfl rfl) rfl)) ?_
            refine rg_put (d := 168) (v := .pt 102 1) rfl (og rfl (of_eff (s_field_pt rfl Try.underlying31 rfl ti3 rfl rfl rfl) rfl)) ?_
            refine rg_put (d := 169) (v := .d (.fl (.int .i64 ((qS (pS ls ls.length) ns ns.length).1.out)))) rfl (og rfl (op_load_pt rfl Try.underlying3 rfl rfl rfl rfl rfl)) ?_
            refine rg_put (d := 170) (v := .d (.fl (.int .i64 (((qS (pS ls ls.length) ns ns.length).1.out - 1))))) rfl (og rfl (op_bin rfl rfl rfl (fun x y w => b_sub64 _ _ _ x y w (by omega)) rfl)) ?_
            refine rg_put (d := 171) (v := .tu [.ag (ePt ((akP (qS (pS ls ls.length) ns ns.length).1 ((qS (pS ls ls.length) ns ns.length).1.out - 1)))), .fl (.int .i64 ((akE (qS (pS ls ls.length) ns ns.length).1 ((qS (pS ls ls.length) ns ns.length).1.out - 1))))]) rfl (og rfl (op_call rfl Try.func8 nm8 rfl (.cons rfl (.d _) (.cons rfl (.d _) .nil)) (ackC (qS (pS ls ls.length) ns ns.length).1 ((qS (pS ls ls.length) ns ns.length).1.out - 1) (i2_ok hi3)) rfl)) ?_
            refine rg_put (d := 166) (v := .tu [.ag (ePt ((akP (qS (pS ls ls.length) ns ns.length).1 ((qS (pS ls ls.length) ns ns.length).1.out - 1)))), .fl (.int .i64 ((akE (qS (pS ls ls.length) ns ns.length).1 ((qS (pS ls ls.length) ns ns.length).1.out - 1))))]) rfl (og rfl (op_move rfl rfl rfl)) ?_
            refine rg_put (d := 172) (v := .d (.ag (ePt ((akP (qS (pS ls ls.length) ns ns.length).1 ((qS (pS ls ls.length) ns ns.length).1.out - 1)))))) rfl (og rfl (op_extract rfl rfl rfl rfl)) ?_
            refine rg_put (d := 173) (v := .d (.fl (.int .i64 ((akE (qS (pS ls ls.length) ns ns.length).1 ((qS (pS ls ls.length) ns ns.length).1.out - 1)))))) rfl (og rfl (op_extract rfl rfl rfl rfl)) ?_
            refine rg_sto (nw := [(112, .bx 31 ((ePt ((akP (qS (pS ls ls.length) ns ns.length).1 ((qS (pS ls ls.length) ns ns.length).1.out - 1))))))]) rfl (og rfl (of_eff (s_store rfl rfl ti31 rfl rfl rfl rfl rfl rfl) rfl)) ?_
            refine rg_put (d := 20) (v := .d (.fl (.int .i64 ((akE (qS (pS ls ls.length) ns ns.length).1 ((qS (pS ls ls.length) ns ns.length).1.out - 1)))))) rfl (og rfl (op_assign rfl rfl rfl)) ?_
            refine rg_done rfl ?_
            refine a_rseq ?_
            refine rg_put (d := 174) (v := .d (.fl (.int .i64 ((akE (qS (pS ls ls.length) ns ns.length).1 ((qS (pS ls ls.length) ns ns.length).1.out - 1)))))) rfl (og rfl (op_move rfl rfl rfl)) ?_
            refine rg_put (d := 175) (v := .d (.fl (.bool (((akE (qS (pS ls ls.length) ns ns.length).1 ((qS (pS ls ls.length) ns ns.length).1.out - 1)) == 0))))) rfl (og rfl (op_bin rfl rfl rfl (b_eql _ _ _ _) rfl)) ?_
            refine rg_put (d := 176) (v := .d (.fl (.bool (((akE (qS (pS ls ls.length) ns ns.length).1 ((qS (pS ls ls.length) ns ns.length).1.out - 1)) == 0))))) rfl (og rfl (op_move rfl rfl rfl)) ?_
            refine rg_put (d := 177) (v := .pt 112 3) rfl (oy rfl rfl rfl (show (((akE (qS (pS ls ls.length) ns ns.length).1 ((qS (pS ls ls.length) ns ns.length).1.out - 1)) == 0)) = true from (last_e hi3)) (of_eff (s_field_pt rfl Try.underlying31 rfl ti29 rfl rfl rfl) rfl)) ?_
            refine rg_put (d := 178) (v := .d (.sl 4 (List.map eFil (((akP (qS (pS ls ls.length) ns ns.length).1 ((qS (pS ls ls.length) ns ns.length).1.out - 1))).wait)))) rfl (oy rfl rfl rfl (show (((akE (qS (pS ls ls.length) ns ns.length).1 ((qS (pS ls ls.length) ns ns.length).1.out - 1)) == 0)) = true from (last_e hi3)) (op_load_pt rfl Try.underlying29 rfl rfl rfl rfl rfl)) ?_
            refine rg_put (d := 179) (v := .d (.fl (.int .i64 (((((akP (qS (pS ls ls.length) ns ns.length).1 ((qS (pS ls ls.length) ns ns.length).1.out - 1))).wait).length : Int))))) rfl (oy rfl rfl rfl (show (((akE (qS (pS ls ls.length) ns ns.length).1 ((qS (pS ls ls.length) ns ns.length).1.out - 1)) == 0)) = true from (last_e hi3)) (s_len rfl Try.underlying29 rfl rfl)) ?_
            refine rg_put (d := 180) (v := .d (.fl (.bool ((((((akP (qS (pS ls ls.length) ns ns.length).1 ((qS (pS ls ls.length) ns ns.length).1.out - 1))).wait).length : Int) == 0))))) rfl (oy rfl rfl rfl (show (((akE (qS (pS ls ls.length) ns ns.length).1 ((qS (pS ls ls.length) ns ns.length).1.out - 1)) == 0)) = true from (last_e hi3)) (op_bin rfl rfl rfl (b_eql _ _ _ _) rfl)) ?_
            refine rg_put (d := 181) (v := .d (.fl (.bool ((((((akP (qS (pS ls ls.length) ns ns.length).1 ((qS (pS ls ls.length) ns ns.length).1.out - 1))).wait).length : Int) == 0))))) rfl (og rfl (op_pick rfl rfl (by rw [(show (((akE (qS (pS ls ls.length) ns ns.length).1 ((qS (pS ls ls.length) ns ns.length).1.out - 1)) == 0)) = true from (last_e hi3))]; rfl) rfl)) ?_
            refine rg_put (d := 182) (v := .d (.fl (.bool ((((((akP (qS (pS ls ls.length) ns ns.length).1 ((qS (pS ls ls.length) ns ns.length).1.out - 1))).wait).length : Int) == 0))))) rfl (og rfl (op_move rfl rfl rfl)) ?_
            refine rg_put (d := 183) (v := .d (.fl (.bool true))) rfl (oy rfl rfl rfl (show ((((((akP (qS (pS ls ls.length) ns ns.length).1 ((qS (pS ls ls.length) ns ns.length).1.out - 1))).wait).length : Int) == 0)) = true from (last_w hi3)) (op_call rfl Try.func5 nm5 rfl .nil alive5 rfl)) ?_
            refine rg_put (d := 184) (v := .d (.fl (.bool true))) rfl (og rfl (op_pick rfl rfl (by rw [(show ((((((akP (qS (pS ls ls.length) ns ns.length).1 ((qS (pS ls ls.length) ns ns.length).1.out - 1))).wait).length : Int) == 0)) = true from (last_w hi3))]; rfl) rfl)) ?_
            refine rg_put (d := 6) (v := .d (.fl (.bool true))) rfl (og rfl (op_assign rfl rfl rfl)) ?_
            refine rg_done rfl ?_
            refine a_ret ?_
            show ∃ ds, ResL _ _ _ ds ∧ RV.of ds = _
            refine ⟨[.fl (.bool true)], (.cons (.tmp rfl (.d _)) .nil), ?_⟩
            rfl
    · skip
      have h61 := t_dec h3
      refine rg_put (d := 30) (v := .d (.fl undef)) rfl (on rfl rfl rfl h3) ?_
      refine rg_put (d := 31) (v := .d (.fl undef)) rfl (on rfl rfl rfl h3) ?_
      refine rg_put (d := 32) (v := .d (.fl undef)) rfl (on rfl rfl rfl h3) ?_
      refine rg_put (d := 33) (v := .d (.fl (.bool true))) rfl (og rfl (op_pick rfl rfl (by rw [h3]; rfl) rfl)) ?_
      refine rg_done rfl ?_
      refine a_condK rfl rfl ?_
      refine a_rseq ?_
      refine rg_put (d := 34) (v := .d (.fl (.bool true))) rfl (og rfl (op_call rfl Try.func5 nm5 rfl .nil alive5 rfl)) ?_
      refine rg_put (d := 6) (v := .d (.fl (.bool true))) rfl (og rfl (op_assign rfl rfl rfl)) ?_
      refine rg_done rfl ?_
      refine a_ret ?_
      show ∃ ds, ResL _ _ _ ds ∧ RV.of ds = _
      refine ⟨[.fl (.bool true)], (.cons (.tmp rfl (.d _)) .nil), ?_⟩
      rfl
  · skip
    have h62 := t_dec h1
    refine rg_put (d := 25) (v := .d (.fl undef)) rfl (on rfl rfl rfl h1) ?_
    refine rg_put (d := 26) (v := .d (.fl undef)) rfl (on rfl rfl rfl h1) ?_
    refine rg_put (d := 27) (v := .d (.fl undef)) rfl (on rfl rfl rfl h1) ?_
    refine rg_put (d := 28) (v := .d (.fl (.bool true))) rfl (og rfl (op_pick rfl rfl (by rw [h1]; rfl) rfl)) ?_
    refine rg_put (d := 29) (v := .d (.fl (.bool true))) rfl (og rfl (op_move rfl rfl rfl)) ?_
    refine rg_put (d := 30) (v := .d (.fl undef)) rfl (on rfl rfl rfl rfl) ?_
    refine rg_put (d := 31) (v := .d (.fl undef)) rfl (on rfl rfl rfl rfl) ?_
    refine rg_put (d := 32) (v := .d (.fl undef)) rfl (on rfl rfl rfl rfl) ?_
    refine rg_put (d := 33) (v := .d (.fl (.bool true))) rfl (og rfl (op_pick rfl rfl rfl rfl)) ?_
    refine rg_done rfl ?_
    refine a_condK rfl rfl ?_
    refine a_rseq ?_
    refine rg_put (d := 34) (v := .d (.fl (.bool true))) rfl (og rfl (op_call rfl Try.func5 nm5 rfl .nil alive5 rfl)) ?_
    refine rg_put (d := 6) (v := .d (.fl (.bool true))) rfl (og rfl (op_assign rfl rfl rfl)) ?_
    refine rg_done rfl ?_
    refine a_ret ?_
    show ∃ ds, ResL _ _ _ ds ∧ RV.of ds = _
    refine ⟨[.fl (.bool true)], (.cons (.tmp rfl (.d _)) .nil), ?_⟩
    rfl
end Go.Proofs.Ytoidmjcgkcfocaa.Wk
