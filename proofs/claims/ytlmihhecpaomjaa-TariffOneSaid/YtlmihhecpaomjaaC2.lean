/- The law of one tariff. No condition. -/
import Derived.Test.YtlmihhecpaomjaaAl
import Derived.Test.YtlmihhecpaomjaaQa
set_option linter.unusedSimpArgs false
set_option linter.unusedVariables false
namespace Go.Proofs.Ytlmihhecpaomjaa.Wk
open Go Go.RowKit Go.Proofs.Ytlmihhecpaomjaa.Av
def inT (i : Iv) (t : Int) : Bool := decide (i.fr ≤ t) && decide (t < i.to)
def cn (l : List Ta) (t : Int) (k : Nat) : Int := ((((l.reverse.take k).filter fun x => inT x.val t).length : Nat) : Int)
theorem rv_ix {l : List Ta} {k : Nat} (h : k < l.length) : ix l.reverse k = ix l ((l.length : Int) - 1 - (k : Int)).toNat := by
  unfold ix
  rw [List.getD_eq_getElem?_getD, List.getD_eq_getElem?_getD, List.getElem?_reverse h, show ((l.length : Int) - 1 - (k : Int)).toNat = l.length - 1 - k by omega]
theorem rv_take {l : List Ta} {k : Nat} (h : k < l.length) : l.reverse.take k ++ [ix l ((l.length : Int) - 1 - (k : Int)).toNat] = l.reverse.take (k + 1) := by
  rw [← rv_ix h, take_ix (by simpa using h)]
theorem cn_succ {l : List Ta} {t : Int} {k : Nat} (h : k < l.length) : cn l t (k + 1) = cn l t k + (if inT (ix l ((l.length : Int) - 1 - (k : Int)).toNat).val t = true then 1 else 0) := by
  unfold cn
  rw [← rv_take h, List.filter_append, List.length_append]
  cases hb : inT (ix l ((l.length : Int) - 1 - (k : Int)).toNat).val t with
  | false => rw [List.filter_cons_of_neg (p := fun x : Ta => inT x.val t) (by rw [hb]; decide)]; simp
  | true => rw [List.filter_cons_of_pos (p := fun x : Ta => inT x.val t) hb]; simp
theorem cn_yes {l : List Ta} {t : Int} {k : Nat} (h : k < l.length) (hb : inT (ix l ((l.length : Int) - 1 - (k : Int)).toNat).val t = true) : cn l t (k + 1) = cn l t k + 1 := by rw [cn_succ h, if_pos hb]
theorem cn_no {l : List Ta} {t : Int} {k : Nat} (h : k < l.length) (hb : inT (ix l ((l.length : Int) - 1 - (k : Int)).toNat).val t = false) : cn l t (k + 1) = cn l t k := by rw [cn_succ h, if_neg (by rw [hb]; decide)]; omega
theorem pw_filter {p : Ta → Bool} : ∀ {l : List Ta}, l.Pairwise (fun x y => ¬(p x = true ∧ p y = true)) → (l.filter p).length ≤ 1
  | [], _ => by simp
  | x :: l, h => by
    rw [List.pairwise_cons] at h
    cases hp : p x with
    | false => rw [List.filter_cons_of_neg (by rw [hp]; decide)]; exact pw_filter h.2
    | true =>
      rw [List.filter_cons_of_pos hp]
      have : l.filter p = [] := by
        rw [List.filter_eq_nil_iff]
        intro y hy hy2
        exact h.1 y hy ⟨hp, hy2⟩
      rw [this]; simp
theorem al_all {p : List Pnt} {l : List Ta} (h : al p l = 0) : ∀ k, k < l.length → al1 p l k = 0 := by
  cases h1 : decide (1024 < (l.length : Int)) with
  | true => rw [al_l h1] at h; cases h
  | false => rw [al_e h1] at h; exact fun k hk => fe_zero h k (by omega) (by omega)
theorem al_len {p : List Pnt} {l : List Ta} (h : al p l = 0) : l.length ≤ 1024 := by
  cases h1 : decide (1024 < (l.length : Int)) with
  | true => rw [al_l h1] at h; cases h
  | false => simp only [decide_eq_false_iff_not] at h1; omega
theorem al_parts {p : List Pnt} {l : List Ta} {k : Nat} (h : al1 p l k = 0) : tk p (ix l k) = 0 ∧ ovl l k = false := by
  cases h1 : (tk p (ix l k) != 0) with
  | true => rw [al_tk h1] at h; rw [h] at h1; cases h1
  | false =>
    refine ⟨by simpa using h1, ?_⟩
    cases h2 : ovl l k with
    | false => rfl
    | true => rw [al_ov h1 h2] at h; cases h
theorem ov_comm (a b : Iv) : ov a b = ov b a := by unfold ov; rw [Int.max_comm, Int.min_comm]
theorem al_pair {p : List Pnt} {l : List Ta} (h : al p l = 0) {j k : Nat} (hk : k < l.length) (hj : j < k) : ov (ix l k).val (ix l j).val = false := by
  have h1 := (al_parts (al_all h k hk)).2
  unfold ovl at h1
  rw [List.any_eq_false] at h1
  have := h1 (ix l j) (by rw [← ix_eq (by omega : j < l.length)]; exact List.mem_take_iff_getElem.2 ⟨j, by omega, rfl⟩)
  simpa using this
theorem inT_ov {a b : Iv} {t : Int} (ha : inT a t = true) (hb : inT b t = true) : ov a b = true := by
  unfold inT at ha hb; unfold ov
  simp only [Bool.and_eq_true, decide_eq_true_eq] at *
  omega
theorem al_pw {p : List Pnt} {l : List Ta} (h : al p l = 0) (t : Int) : l.Pairwise (fun x y => ¬(inT x.val t = true ∧ inT y.val t = true)) := by
  rw [List.pairwise_iff_getElem]
  intro i j hi hj hij hh
  rw [ix_eq hi, ix_eq hj] at hh
  have := al_pair h hj hij
  rw [inT_ov hh.2 hh.1] at this
  cases this
theorem has_inT {p : List Pnt} {l : List Ta} (h : al p l = 0) (t : Int) : ∀ x ∈ l, Wq.hasI x.val t = inT x.val t := by
  intro x hx
  obtain ⟨k, hk, rfl⟩ := mem_ix hx
  have hv := al_v (al_all h k hk)
  show ((vI (ix l k).val && _) && _) = _
  rw [hv]; simp [inT]
theorem cn_all (l : List Ta) (t : Int) : cn l t l.length = (((l.filter fun x => inT x.val t).length : Nat) : Int) := by
  unfold cn
  rw [List.take_of_length_le (by simp), List.filter_reverse, List.length_reverse]
theorem cn_one {p : List Pnt} {l : List Ta} (h : al p l = 0) (t : Int) : cn l t l.length ≤ 1 := by rw [cn_all]; have := pw_filter (p := fun x : Ta => inT x.val t) (al_pw h t); omega
theorem find_f {l : List Ta} {t : Int} : l.find? (fun x => Wq.hasI x.val t) = (l.filter fun x => Wq.hasI x.val t).head? := (List.head?_filter).symm
theorem filt {p : List Pnt} {l : List Ta} (h : al p l = 0) (t : Int) : (l.filter fun x => Wq.hasI x.val t) = l.filter fun x => inT x.val t := List.filter_congr (has_inT h t)
theorem att_rev {p : List Pnt} {l : List Ta} (h : al p l = 0) (t : Int) : Wq.att l.reverse t = Wq.att l t := by
  unfold Wq.att
  rw [find_f, find_f, List.filter_reverse, filt h]
  have hl := pw_filter (p := fun x : Ta => inT x.val t) (al_pw h t)
  generalize l.filter (fun x => inT x.val t) = m at hl
  match m, hl with
  | [], _ => rfl
  | [x], _ => rfl
theorem att_cn {p : List Pnt} {l : List Ta} (h : al p l = 0) (t : Int) : (((Wq.att l t).2 == 0) == (cn l t l.length == 1)) = true := by
  rw [cn_all]
  unfold Wq.att
  rw [find_f, filt h]
  have hl := pw_filter (p := fun x : Ta => inT x.val t) (al_pw h t)
  generalize l.filter (fun x => inT x.val t) = m at hl
  match m, hl with
  | [], _ => rfl
  | [x], _ => rfl
theorem fe_all {f : Nat → Int} : ∀ {n i : Nat}, (∀ k, i ≤ k → k < i + n → f k = 0) → fe f i n = 0
  | 0, _, _ => rfl
  | n + 1, i, h => by
    unfold fe
    rw [if_pos (h i (by omega) (by omega))]
    exact fe_all (fun k h1 h2 => h k (by omega) (by omega))
theorem rv_ix' {l : List Ta} {k : Nat} (h : k < l.length) : ix l.reverse k = ix l (l.length - 1 - k) := by
  rw [rv_ix h, show ((l.length : Int) - 1 - (k : Int)).toNat = l.length - 1 - k by omega]
theorem al_rev {p : List Pnt} {l : List Ta} (h : al p l = 0) : al p l.reverse = 0 := by
  have hl := al_len h
  rw [al_e (by rw [List.length_reverse]; exact decide_eq_false (by omega))]
  refine fe_all (fun k _ hk => ?_)
  have hk' : k < l.length := by simpa using hk
  refine al_0 ?_ (ovl_no (by simpa using hk') (fun q hq => ?_))
  · rw [rv_ix' hk', (al_parts (al_all h _ (by omega))).1]; rfl
  · rw [rv_ix' hk', rv_ix' (by omega), ov_comm]
    exact al_pair h (by omega) (by omega)
theorem att_len' {l : List Ta} {t : Int} (h : ∀ q, q < l.length → (ix l q).bands.length ≤ 1000 ∧ (ix l q).rates.length ≤ 1000) : (Wq.att l t).1.bands.length ≤ 1000 ∧ (Wq.att l t).1.rates.length ≤ 1000 := by
  unfold Wq.att
  split
  · rename_i z hz
    obtain ⟨k, hk, rfl⟩ := mem_ix (List.mem_of_find?_eq_some hz)
    exact h k hk
  · simp [Wq.zTa]
theorem few_len {l : List Ta} (h : fewB l = true) : l.length ≤ 12 ∧ ∀ q, q < l.length → (ix l q).bands.length ≤ 1000 ∧ (ix l q).rates.length ≤ 1000 := by
  unfold fewB at h
  simp only [Bool.and_eq_true, Bool.not_eq_true', decide_eq_false_iff_not, List.all_eq_true] at h
  refine ⟨by omega, fun q hq => ?_⟩
  have := h.2 _ (ix_mem hq)
  unfold shortB at this
  simp only [Bool.and_eq_true, decide_eq_true_eq] at this
  omega
theorem rv_all {l : List Ta} (h : ∀ q, q < l.length → (ix l q).bands.length ≤ 1000 ∧ (ix l q).rates.length ≤ 1000) : ∀ q, q < l.reverse.length → (ix l.reverse q).bands.length ≤ 1000 ∧ (ix l.reverse q).rates.length ≤ 1000 := by
  intro q hq
  rw [List.length_reverse] at hq
  rw [rv_ix' hq]; exact h _ (by omega)

set_option maxHeartbeats 4000000 in
set_option maxRecDepth 100000 in
theorem law5 (l : List Ta) (t : Tpg) (time : Int) : Ctr Try.prog 5 [.sl 4 (List.map eTa l), .ag (eTpg t), .fl (.int .i64 time)] (.d (.fl (.bool true))) := by
  refine ctr (n := 102) (rs := #[.tmp 6]) (L := [(0, .d (.sl 4 (List.map eTa l))), (1, .d (.ag (eTpg t))), (2, .d (.fl (.int .i64 time)))]) Try.func5 rfl rfl rfl rfl rfl (fun w0 U0 => ?_)
  refine a_rseq ?_
  refine rg_nam (d := 4) (v := .pt 101 0) (m := 101) (nw := [(101, .bx 34 (eTpg t))]) rfl (og rfl (of_eff (op_box 101 rfl rfl rfl rfl) rfl)) rfl ?_
  refine rg_put (d := 6) (v := .d (.fl (.bool false))) rfl (og rfl (op_assign rfl rfl rfl)) ?_
  refine rg_done rfl ?_
  refine a_seq ?_
  refine a_rseq ?_
  refine rg_put (d := 14) (v := .d (.sl 4 (List.map eTa l))) rfl (og rfl (op_move rfl rfl rfl)) ?_
  refine rg_put (d := 15) (v := .d (.fl (.bool (fewB l)))) rfl (og rfl (op_call rfl Try.func11 nm11 rfl (.cons rfl (.d _) .nil) (few_c l) rfl)) ?_
  refine rg_put (d := 16) (v := .d (.fl (.bool ((!(fewB l)))))) rfl (og rfl (op_un rfl rfl (u_not _) rfl)) ?_
  refine rg_put (d := 17) (v := .d (.fl (.bool ((!(fewB l)))))) rfl (og rfl (op_move rfl rfl rfl)) ?_
  rcases fot ((!(fewB l))) with h1 | h1
  · skip
    have h2 := f_not h1
    refine rg_put (d := 18) (v := .d (.ag (eTpg t))) rfl (oy rfl rfl rfl h1 (of_eff (s_load_pts rfl Try.underlying34 rfl ti34 rfl rfl rfl rfl) rfl)) ?_
    refine rg_put (d := 19) (v := .d (.fl (.bool (smlT t)))) rfl (oy rfl rfl rfl h1 (op_call rfl Try.func7 nm7 rfl (.cons rfl (.d _) .nil) (small_c t) rfl)) ?_
    refine rg_put (d := 20) (v := .d (.fl (.bool ((!(smlT t)))))) rfl (oy rfl rfl rfl h1 (op_un rfl rfl (u_not _) rfl)) ?_
    refine rg_put (d := 21) (v := .d (.fl (.bool ((!(smlT t)))))) rfl (og rfl (op_pick rfl rfl (by rw [h1]; rfl) rfl)) ?_
    refine rg_put (d := 22) (v := .d (.fl (.bool ((!(smlT t)))))) rfl (og rfl (op_move rfl rfl rfl)) ?_
    rcases fot ((!(smlT t))) with h3 | h3
    · skip
      have h4 := f_not h3
      refine rg_put (d := 23) (v := .d (.sl 4 (List.map eTa l))) rfl (oy rfl rfl rfl h3 (op_move rfl rfl rfl)) ?_
      refine rg_put (d := 24) (v := .d (.ag (eTpg t))) rfl (oy rfl rfl rfl h3 (of_eff (s_load_pts rfl Try.underlying34 rfl ti34 rfl rfl rfl rfl) rfl)) ?_
      refine rg_put (d := 25) (v := .d (.fl (.int .i64 ((al (kn t) l))))) rfl (oy rfl rfl rfl h3 (op_call rfl Try.func12 nm12 rfl (.cons rfl (.d _) (.cons rfl (.d _) .nil)) (al_c l t) rfl)) ?_
      refine rg_put (d := 26) (v := .d (.fl (.bool (((al (kn t) l) != 0))))) rfl (oy rfl rfl rfl h3 (op_bin rfl rfl rfl (b_neq _ _ _ _) rfl)) ?_
      refine rg_put (d := 27) (v := .d (.fl (.bool (((al (kn t) l) != 0))))) rfl (og rfl (op_pick rfl rfl (by rw [h3]; rfl) rfl)) ?_
      refine rg_done rfl ?_
      refine a_cond rfl (fun h5 => ?_) (fun h5 => ?_)
      · skip
        have h6 := t_bne h5
        refine a_rseq ?_
        refine rg_put (d := 6) (v := .d (.fl (.bool true))) rfl (og rfl (op_assign rfl rfl rfl)) ?_
        refine rg_done rfl ?_
        refine a_ret ?_
        show ∃ ds, ResL _ _ _ ds ∧ RV.of ds = _
        refine ⟨[.fl (.bool true)], (.cons (.tmp rfl (.d _)) .nil), ?_⟩
        rfl
      · skip
        have h7 := f_bne h5
        refine a_skip ?_
        show A _ _ _ _ _ _ _
        refine a_rseq ?_
        refine rg_put (d := 7) (v := .d (.fl (.slice none 0 0))) rfl (og rfl (op_assign rfl rfl rfl)) ?_
        refine rg_done rfl ?_
        refine a_rseq ?_
        have hw := few_len h2
        have hal := f_bne h5
        have hwl := hw.1
        refine rg_imp (imp_nilT 7 102 27 4 rfl rfl) ?_
        refine rg_put (d := 8) (v := .d (.fl (.int .i64 0))) rfl (og rfl (op_assign rfl rfl rfl)) ?_
        refine rg_done rfl ?_
        refine a_seq ?_
        refine a_rseq ?_
        refine rg_put (d := 28) (v := .d (.sl 4 (List.map eTa l))) rfl (og rfl (op_move rfl rfl rfl)) ?_
        refine rg_put (d := 29) (v := .d (.fl (.int .i64 (l.length : Int)))) rfl (og rfl (s_len rfl Try.underlying42 rfl rfl)) ?_
        refine rg_put (d := 30) (v := .d (.fl (.int .i64 (((l.length : Int) - 1))))) rfl (og rfl (op_bin rfl rfl rfl (fun x y w => b_sub64 _ _ _ x y w (by omega)) rfl)) ?_
        refine rg_put (d := 9) (v := .d (.fl (.int .i64 (((l.length : Int) - 1))))) rfl (og rfl (op_assign rfl rfl rfl)) ?_
        refine rg_done rfl ?_
        refine a_block ?_
        refine a_loop (ι := Nat) (fun k => SS [(0, .d (.sl 4 (List.map eTa l))), (1, .d (.ag (eTpg t))), (2, .d (.fl (.int .i64 time))), (4, .pt 101 0), (6, .d (.fl (.bool false))), (27, .d (.fl (.bool (((al (kn t) l) != 0))))), (9, .d (.fl (.int .i64 (((l.length : Int) - 1 - (k : Int)))))), (8, .d (.fl (.int .i64 (cn l time k)))), (7, .ow 102)] [(101, .bx 34 (eTpg t)), (102, .tr 27 4 (tD eTa (l.reverse.take k)))]) (fun k => k ≤ l.length ∧ 0 ≤ cn l time k ∧ cn l time k ≤ (k : Int)) (fun k => l.length - k) 0 (⟨by omega, by simp [cn], by simp [cn]⟩) (imp_forget rfl ⟨rfl, rfl, rfl, rfl, rfl, rfl, (by first | rfl | exact ci (by omega) | exact ci (by simp) | exact cd (by simp) | simp), (by first | rfl | exact ci (by simp [cn])), (by first | rfl | exact ci (by omega) | exact ci (by simp) | exact cd (by simp) | simp), trivial⟩ ⟨rfl, rfl, trivial⟩) (fun k hok => ?_)
        obtain ⟨hk, hc0, hc1⟩ := hok
        refine a_seq ?_
        refine a_rseq ?_
        refine rg_put (d := 31) (v := .d (.fl (.int .i64 (((l.length : Int) - 1 - (k : Int)))))) rfl (og rfl (op_move rfl rfl rfl)) ?_
        refine rg_put (d := 32) (v := .d (.fl (.bool ((decide (0 ≤ ((l.length : Int) - 1 - (k : Int)))))))) rfl (og rfl (op_bin rfl rfl rfl (b_geq _ _ _ _) rfl)) ?_
        refine rg_done rfl ?_
        refine a_cond rfl (fun h8 => ?_) (fun h8 => ?_)
        · skip
          have h9 := t_dec h8
          refine a_skip ?_
          show A _ _ _ _ _ _ _
          refine a_seq ?_
          refine a_block ?_
          refine a_rseq ?_
          refine rg_put (d := 35) (v := .ow 102) rfl (og rfl (op_move rfl rfl rfl)) ?_
          refine rg_put (d := 36) (v := .d (.sl 4 (List.map eTa l))) rfl (og rfl (op_move rfl rfl rfl)) ?_
          refine rg_put (d := 37) (v := .d (.fl (.int .i64 (((l.length : Int) - 1 - (k : Int)))))) rfl (og rfl (op_move rfl rfl rfl)) ?_
          refine rg_put (d := 38) (v := .el ((eTa ((ix l (((l.length : Int) - 1 - (k : Int))).toNat))))) rfl (og rfl (s_index rfl Try.underlying42 ti27 rfl rfl (by omega) (row_atI (by omega) (by omega)) rfl)) ?_
          refine rg_put (d := 39) (v := .d (.ag (eTa (((ix l (((l.length : Int) - 1 - (k : Int))).toNat)))))) rfl (og rfl (of_eff (s_load_els rfl Try.underlying27 rfl ti27 rfl rfl rfl) rfl)) ?_
          refine rg_put (d := 40) (v := .d (.sl 4 (List.map eTa [((ix l (((l.length : Int) - 1 - (k : Int))).toNat))]))) rfl (og rfl (of_eff (op_slices rfl Try.underlying42 ti27 rfl rfl rfl (by kernel_rfl) (xs := [.ag (eTa (((ix l (((l.length : Int) - 1 - (k : Int))).toNat))))]) rfl rfl (.cons rfl rfl (.d _) rfl rfl rfl .nil) rfl) rfl)) ?_
          refine rg_nam (d := 41) (v := .ow 103) (m := 103) (nw := [(103, .tr 27 4 (tD eTa (((l.reverse.take k) ++ [((ix l (((l.length : Int) - 1 - (k : Int))).toNat))])))), (102, .no)]) rfl (og rfl (of_eff (s_append_td 103 rfl Try.underlying42 ti27 rfl rfl rfl rfl rfl (.d _) (by simp only [List.length_append, List.length_cons, List.length_nil, List.length_take, List.length_reverse]; omega) rfl) rfl)) rfl ?_
          refine rg_put (d := 7) (v := .ow 103) rfl (og rfl (op_assign rfl rfl rfl)) ?_
          refine rg_done rfl ?_
          refine a_rseq ?_
          refine rg_put (d := 42) (v := .d (.sl 4 (List.map eTa l))) rfl (og rfl (op_move rfl rfl rfl)) ?_
          refine rg_put (d := 43) (v := .d (.fl (.int .i64 (((l.length : Int) - 1 - (k : Int)))))) rfl (og rfl (op_move rfl rfl rfl)) ?_
          refine rg_put (d := 44) (v := .el ((eTa ((ix l (((l.length : Int) - 1 - (k : Int))).toNat))))) rfl (og rfl (s_index rfl Try.underlying42 ti27 rfl rfl (by omega) (row_atI (by omega) (by omega)) rfl)) ?_
          refine rg_put (d := 45) (v := .el ((List.drop 0 ((eTa ((ix l (((l.length : Int) - 1 - (k : Int))).toNat))))))) rfl (og rfl (of_eff (s_field_el rfl Try.underlying27 rfl ti23 rfl rfl rfl) rfl)) ?_
          refine rg_put (d := 46) (v := .el ((List.drop 0 ((List.drop 0 ((eTa ((ix l (((l.length : Int) - 1 - (k : Int))).toNat))))))))) rfl (og rfl (of_eff (s_field_el rfl Try.underlying23 rfl ti3 rfl rfl rfl) rfl)) ?_
          refine rg_put (d := 47) (v := .d (.fl (.int .i64 ((((ix l (((l.length : Int) - 1 - (k : Int))).toNat)).val).fr)))) rfl (og rfl (op_load_el rfl Try.underlying3 rfl rfl rfl rfl)) ?_
          refine rg_put (d := 48) (v := .d (.fl (.int .i64 time))) rfl (og rfl (op_move rfl rfl rfl)) ?_
          refine rg_put (d := 49) (v := .d (.fl (.bool ((decide ((((ix l (((l.length : Int) - 1 - (k : Int))).toNat)).val).fr ≤ time)))))) rfl (og rfl (op_bin rfl rfl rfl (b_leq _ _ _ _) rfl)) ?_
          refine rg_put (d := 50) (v := .d (.fl (.bool ((decide ((((ix l (((l.length : Int) - 1 - (k : Int))).toNat)).val).fr ≤ time)))))) rfl (og rfl (op_move rfl rfl rfl)) ?_
          rcases fot ((decide ((((ix l (((l.length : Int) - 1 - (k : Int))).toNat)).val).fr ≤ time))) with h10 | h10
          · skip
            have h11 := f_dec h10
            refine rg_put (d := 51) (v := .d (.fl undef)) rfl (on rfl rfl rfl h10) ?_
            refine rg_put (d := 52) (v := .d (.fl undef)) rfl (on rfl rfl rfl h10) ?_
            refine rg_put (d := 53) (v := .d (.fl undef)) rfl (on rfl rfl rfl h10) ?_
            refine rg_put (d := 54) (v := .d (.fl undef)) rfl (on rfl rfl rfl h10) ?_
            refine rg_put (d := 55) (v := .d (.fl undef)) rfl (on rfl rfl rfl h10) ?_
            refine rg_put (d := 56) (v := .d (.fl undef)) rfl (on rfl rfl rfl h10) ?_
            refine rg_put (d := 57) (v := .d (.fl undef)) rfl (on rfl rfl rfl h10) ?_
            refine rg_put (d := 58) (v := .d (.fl undef)) rfl (on rfl rfl rfl h10) ?_
            refine rg_put (d := 59) (v := .d (.fl (.bool false))) rfl (og rfl (op_pick rfl rfl (by rw [h10]; rfl) rfl)) ?_
            refine rg_done rfl ?_
            refine a_condF rfl rfl ?_
            refine a_skip ?_
            show A _ _ _ _ _ _ _
            refine a_region ?_
            refine rg_put (d := 33) (v := .d (.fl (.int .i64 (((l.length : Int) - 1 - (k : Int)))))) rfl (og rfl (op_move rfl rfl rfl)) ?_
            refine rg_put (d := 34) (v := .d (.fl (.int .i64 ((((l.length : Int) - 1 - (k : Int)) - 1))))) rfl (og rfl (op_bin rfl rfl rfl (fun x y w => b_sub64 _ _ _ x y w (by omega)) rfl)) ?_
            refine rg_put (d := 9) (v := .d (.fl (.int .i64 ((((l.length : Int) - 1 - (k : Int)) - 1))))) rfl (og rfl (op_assign rfl rfl rfl)) ?_
            refine rg_done rfl ?_
            have hin : inT (ix l ((l.length : Int) - 1 - (k : Int)).toNat).val time = false := by unfold inT; simp only [h1, h2, h3, h4, h5, h8, h10, Bool.true_or, Bool.false_or, Bool.or_true, Bool.or_false, Bool.not_true, Bool.not_false, cond_true, cond_false, Bool.true_and, Bool.false_and, Bool.and_true, Bool.and_false] <;> rfl
            have hcn := cn_no (k := k) (by omega) hin
            show ∃ i, _ ∧ _ ∧ Imp _ _ _ _ _
            refine ⟨k + 1, ⟨by omega, by omega, by omega⟩, by omega, imp_ren (fun m => bif Nat.beq m 102 then 103 else m) rfl ⟨rfl, rfl, rfl, rfl, rfl, rfl, (ci (by omega)), (ci (by omega)), rfl, trivial⟩ ⟨rfl, (congrArg (fun z => Ob.tr 27 4 (tD eTa z)) (rv_take (by omega))), trivial⟩⟩
          · skip
            have h12 := t_dec h10
            refine rg_put (d := 51) (v := .d (.fl (.int .i64 time))) rfl (oy rfl rfl rfl h10 (op_move rfl rfl rfl)) ?_
            refine rg_put (d := 52) (v := .d (.sl 4 (List.map eTa l))) rfl (oy rfl rfl rfl h10 (op_move rfl rfl rfl)) ?_
            refine rg_put (d := 53) (v := .d (.fl (.int .i64 (((l.length : Int) - 1 - (k : Int)))))) rfl (oy rfl rfl rfl h10 (op_move rfl rfl rfl)) ?_
            refine rg_put (d := 54) (v := .el ((eTa ((ix l (((l.length : Int) - 1 - (k : Int))).toNat))))) rfl (oy rfl rfl rfl h10 (s_index rfl Try.underlying42 ti27 rfl rfl (by omega) (row_atI (by omega) (by omega)) rfl)) ?_
            refine rg_put (d := 55) (v := .el ((List.drop 0 ((eTa ((ix l (((l.length : Int) - 1 - (k : Int))).toNat))))))) rfl (oy rfl rfl rfl h10 (of_eff (s_field_el rfl Try.underlying27 rfl ti23 rfl rfl rfl) rfl)) ?_
            refine rg_put (d := 56) (v := .el ((List.drop 1 ((List.drop 0 ((eTa ((ix l (((l.length : Int) - 1 - (k : Int))).toNat))))))))) rfl (oy rfl rfl rfl h10 (of_eff (s_field_el rfl Try.underlying23 rfl ti3 rfl rfl rfl) rfl)) ?_
            refine rg_put (d := 57) (v := .d (.fl (.int .i64 ((((ix l (((l.length : Int) - 1 - (k : Int))).toNat)).val).to)))) rfl (oy rfl rfl rfl h10 (op_load_el rfl Try.underlying3 rfl rfl rfl rfl)) ?_
            refine rg_put (d := 58) (v := .d (.fl (.bool ((decide (time < (((ix l (((l.length : Int) - 1 - (k : Int))).toNat)).val).to)))))) rfl (oy rfl rfl rfl h10 (op_bin rfl rfl rfl (b_lss _ _ _ _) rfl)) ?_
            refine rg_put (d := 59) (v := .d (.fl (.bool ((decide (time < (((ix l (((l.length : Int) - 1 - (k : Int))).toNat)).val).to)))))) rfl (og rfl (op_pick rfl rfl (by rw [h10]; rfl) rfl)) ?_
            refine rg_done rfl ?_
            refine a_cond rfl (fun h13 => ?_) (fun h13 => ?_)
            · skip
              have h14 := t_dec h13
              refine a_region ?_
              refine rg_put (d := 60) (v := .d (.fl (.int .i64 (cn l time k)))) rfl (og rfl (op_move rfl rfl rfl)) ?_
              refine rg_put (d := 61) (v := .d (.fl (.int .i64 (((cn l time k) + 1))))) rfl (og rfl (op_bin rfl rfl rfl (fun x y w => b_add64 _ _ _ x y w (by omega)) rfl)) ?_
              refine rg_put (d := 8) (v := .d (.fl (.int .i64 (((cn l time k) + 1))))) rfl (og rfl (op_assign rfl rfl rfl)) ?_
              refine rg_done rfl ?_
              show A _ _ _ _ _ _ _
              refine a_region ?_
              refine rg_put (d := 33) (v := .d (.fl (.int .i64 (((l.length : Int) - 1 - (k : Int)))))) rfl (og rfl (op_move rfl rfl rfl)) ?_
              refine rg_put (d := 34) (v := .d (.fl (.int .i64 ((((l.length : Int) - 1 - (k : Int)) - 1))))) rfl (og rfl (op_bin rfl rfl rfl (fun x y w => b_sub64 _ _ _ x y w (by omega)) rfl)) ?_
              refine rg_put (d := 9) (v := .d (.fl (.int .i64 ((((l.length : Int) - 1 - (k : Int)) - 1))))) rfl (og rfl (op_assign rfl rfl rfl)) ?_
              refine rg_done rfl ?_
              have hin : inT (ix l ((l.length : Int) - 1 - (k : Int)).toNat).val time = true := by unfold inT; simp only [h1, h2, h3, h4, h5, h8, h10, h13, Bool.true_or, Bool.false_or, Bool.or_true, Bool.or_false, Bool.not_true, Bool.not_false, cond_true, cond_false, Bool.true_and, Bool.false_and, Bool.and_true, Bool.and_false] <;> rfl
              have hcn := cn_yes (k := k) (by omega) hin
              show ∃ i, _ ∧ _ ∧ Imp _ _ _ _ _
              refine ⟨k + 1, ⟨by omega, by omega, by omega⟩, by omega, imp_ren (fun m => bif Nat.beq m 102 then 103 else m) rfl ⟨rfl, rfl, rfl, rfl, rfl, rfl, (ci (by omega)), (ci (by omega)), rfl, trivial⟩ ⟨rfl, (congrArg (fun z => Ob.tr 27 4 (tD eTa z)) (rv_take (by omega))), trivial⟩⟩
            · skip
              have h15 := f_dec h13
              refine a_skip ?_
              show A _ _ _ _ _ _ _
              refine a_region ?_
              refine rg_put (d := 33) (v := .d (.fl (.int .i64 (((l.length : Int) - 1 - (k : Int)))))) rfl (og rfl (op_move rfl rfl rfl)) ?_
              refine rg_put (d := 34) (v := .d (.fl (.int .i64 ((((l.length : Int) - 1 - (k : Int)) - 1))))) rfl (og rfl (op_bin rfl rfl rfl (fun x y w => b_sub64 _ _ _ x y w (by omega)) rfl)) ?_
              refine rg_put (d := 9) (v := .d (.fl (.int .i64 ((((l.length : Int) - 1 - (k : Int)) - 1))))) rfl (og rfl (op_assign rfl rfl rfl)) ?_
              refine rg_done rfl ?_
              have hin : inT (ix l ((l.length : Int) - 1 - (k : Int)).toNat).val time = false := by unfold inT; simp only [h1, h2, h3, h4, h5, h8, h10, h13, Bool.true_or, Bool.false_or, Bool.or_true, Bool.or_false, Bool.not_true, Bool.not_false, cond_true, cond_false, Bool.true_and, Bool.false_and, Bool.and_true, Bool.and_false] <;> rfl
              have hcn := cn_no (k := k) (by omega) hin
              show ∃ i, _ ∧ _ ∧ Imp _ _ _ _ _
              refine ⟨k + 1, ⟨by omega, by omega, by omega⟩, by omega, imp_ren (fun m => bif Nat.beq m 102 then 103 else m) rfl ⟨rfl, rfl, rfl, rfl, rfl, rfl, (ci (by omega)), (ci (by omega)), rfl, trivial⟩ ⟨rfl, (congrArg (fun z => Ob.tr 27 4 (tD eTa z)) (rv_take (by omega))), trivial⟩⟩
        · skip
          have h16 := f_dec h8
          refine a_exit ?_
          show A _ _ _ _ _ _ _
          refine a_rseq ?_
          have hkl : k = l.length := by omega
          rw [show (l.reverse.take k) = l.reverse from (by rw [List.take_of_length_le (by rw [List.length_reverse]; omega)])]
          rw [show (cn l time k) = (cn l time l.length) from (by rw [hkl])]
          refine rg_imp (imp_leakT 7 102 rfl rfl) ?_
          have hn1 : decide (cn l time l.length ≤ 1) = true := decide_eq_true (cn_one hal time)
          have hn2 := att_cn hal time
          refine rg_put (d := 63) (v := .d (.sl 4 (List.map eTa l))) rfl (og rfl (op_move rfl rfl rfl)) ?_
          refine rg_put (d := 64) (v := .d (.fl (.int .i64 time))) rfl (og rfl (op_move rfl rfl rfl)) ?_
          refine rg_put (d := 65) (v := .tu [.ag (eTa ((Wq.att l time).1)), .fl (.int .i64 ((Wq.att l time).2))]) rfl (og rfl (op_call rfl Try.func14 nm14 rfl (.cons rfl (.d _) (.cons rfl (.d _) .nil)) (Wq.at8 l time (by omega) hw.2) rfl)) ?_
          refine rg_put (d := 62) (v := .tu [.ag (eTa ((Wq.att l time).1)), .fl (.int .i64 ((Wq.att l time).2))]) rfl (og rfl (op_move rfl rfl rfl)) ?_
          refine rg_put (d := 66) (v := .d (.ag (eTa ((Wq.att l time).1)))) rfl (og rfl (op_extract rfl rfl rfl rfl)) ?_
          refine rg_put (d := 67) (v := .d (.fl (.int .i64 ((Wq.att l time).2)))) rfl (og rfl (op_extract rfl rfl rfl rfl)) ?_
          refine rg_nam (d := 10) (v := .pt 104 0) (m := 104) (nw := [(104, .bx 27 [.fl (.int .i64 0), .fl (.int .i64 0), .fl (.slice none 0 0), .fl (.slice none 0 0)])]) rfl (og rfl (of_eff (s_alloc 104 rfl ti27 (by kernel_rfl) rfl) rfl)) rfl ?_
          refine rg_sto (nw := [(104, .bx 27 ((eTa ((Wq.att l time).1))))]) rfl (og rfl (of_eff (s_store rfl rfl ti27 rfl rfl rfl rfl rfl rfl) rfl)) ?_
          refine rg_put (d := 11) (v := .d (.fl (.int .i64 ((Wq.att l time).2)))) rfl (og rfl (op_assign rfl rfl rfl)) ?_
          refine rg_done rfl ?_
          refine a_rseq ?_
          refine rg_put (d := 69) (v := .d (.sl 4 (List.map eTa l.reverse))) rfl (og rfl (op_move rfl rfl rfl)) ?_
          refine rg_put (d := 70) (v := .d (.fl (.int .i64 time))) rfl (og rfl (op_move rfl rfl rfl)) ?_
          refine rg_put (d := 71) (v := .tu [.ag (eTa ((Wq.att l time).1)), .fl (.int .i64 ((Wq.att l time).2))]) rfl (og rfl (op_call rfl Try.func14 nm14 rfl (.cons rfl (.d _) (.cons rfl (.d _) .nil)) ((att_rev hal time ▸ Wq.at8 l.reverse time (by rw [List.length_reverse]; omega) (rv_all hw.2))) rfl)) ?_
          refine rg_put (d := 68) (v := .tu [.ag (eTa ((Wq.att l time).1)), .fl (.int .i64 ((Wq.att l time).2))]) rfl (og rfl (op_move rfl rfl rfl)) ?_
          refine rg_put (d := 72) (v := .d (.ag (eTa ((Wq.att l time).1)))) rfl (og rfl (op_extract rfl rfl rfl rfl)) ?_
          refine rg_put (d := 73) (v := .d (.fl (.int .i64 ((Wq.att l time).2)))) rfl (og rfl (op_extract rfl rfl rfl rfl)) ?_
          refine rg_nam (d := 12) (v := .pt 105 0) (m := 105) (nw := [(105, .bx 27 [.fl (.int .i64 0), .fl (.int .i64 0), .fl (.slice none 0 0), .fl (.slice none 0 0)])]) rfl (og rfl (of_eff (s_alloc 105 rfl ti27 (by kernel_rfl) rfl) rfl)) rfl ?_
          refine rg_sto (nw := [(105, .bx 27 ((eTa ((Wq.att l time).1))))]) rfl (og rfl (of_eff (s_store rfl rfl ti27 rfl rfl rfl rfl rfl rfl) rfl)) ?_
          refine rg_put (d := 13) (v := .d (.fl (.int .i64 ((Wq.att l time).2)))) rfl (og rfl (op_assign rfl rfl rfl)) ?_
          refine rg_done rfl ?_
          refine a_rseq ?_
          refine rg_put (d := 74) (v := .d (.fl (.int .i64 (cn l time l.length)))) rfl (og rfl (op_move rfl rfl rfl)) ?_
          refine rg_put (d := 75) (v := .d (.fl (.bool ((decide ((cn l time l.length) ≤ 1)))))) rfl (og rfl (op_bin rfl rfl rfl (b_leq _ _ _ _) rfl)) ?_
          refine rg_put (d := 76) (v := .d (.fl (.bool ((decide ((cn l time l.length) ≤ 1)))))) rfl (og rfl (op_move rfl rfl rfl)) ?_
          refine rg_put (d := 77) (v := .d (.fl (.int .i64 ((Wq.att l time).2)))) rfl (oy rfl rfl rfl hn1 (op_move rfl rfl rfl)) ?_
          refine rg_put (d := 78) (v := .d (.fl (.bool (((Wq.att l time).2 == 0))))) rfl (oy rfl rfl rfl hn1 (op_bin rfl rfl rfl (b_eql _ _ _ _) rfl)) ?_
          refine rg_put (d := 79) (v := .d (.fl (.int .i64 (cn l time l.length)))) rfl (oy rfl rfl rfl hn1 (op_move rfl rfl rfl)) ?_
          refine rg_put (d := 80) (v := .d (.fl (.bool (((cn l time l.length) == 1))))) rfl (oy rfl rfl rfl hn1 (op_bin rfl rfl rfl (b_eql _ _ _ _) rfl)) ?_
          refine rg_put (d := 81) (v := .d (.fl (.bool ((((Wq.att l time).2 == 0) == ((cn l time l.length) == 1)))))) rfl (oy rfl rfl rfl hn1 (op_bin rfl rfl rfl (fun x y w => b_beq _ _ _ x y w Try.underlying4) rfl)) ?_
          refine rg_put (d := 82) (v := .d (.fl (.bool ((((Wq.att l time).2 == 0) == ((cn l time l.length) == 1)))))) rfl (og rfl (op_pick rfl rfl (by rw [hn1]; rfl) rfl)) ?_
          refine rg_put (d := 83) (v := .d (.fl (.bool ((((Wq.att l time).2 == 0) == ((cn l time l.length) == 1)))))) rfl (og rfl (op_move rfl rfl rfl)) ?_
          refine rg_put (d := 84) (v := .d (.fl (.int .i64 ((Wq.att l time).2)))) rfl (oy rfl rfl rfl hn2 (op_move rfl rfl rfl)) ?_
          refine rg_put (d := 85) (v := .d (.fl (.int .i64 ((Wq.att l time).2)))) rfl (oy rfl rfl rfl hn2 (op_move rfl rfl rfl)) ?_
          refine rg_put (d := 86) (v := .d (.fl (.bool (((Wq.att l time).2 == (Wq.att l time).2))))) rfl (oy rfl rfl rfl hn2 (op_bin rfl rfl rfl (b_eql _ _ _ _) rfl)) ?_
          refine rg_put (d := 87) (v := .d (.fl (.bool (((Wq.att l time).2 == (Wq.att l time).2))))) rfl (og rfl (op_pick rfl rfl (by rw [hn2]; rfl) rfl)) ?_
          refine rg_put (d := 88) (v := .d (.fl (.bool (((Wq.att l time).2 == (Wq.att l time).2))))) rfl (og rfl (op_move rfl rfl rfl)) ?_
          refine rg_put (d := 89) (v := .d (.ag (eTa (((Wq.att l time).1))))) rfl (oy rfl rfl rfl (eq_self_b _) (of_eff (s_load_pts rfl Try.underlying27 rfl ti27 rfl rfl rfl rfl) rfl)) ?_
          refine rg_put (d := 90) (v := .d (.ag (eTa (((Wq.att l time).1))))) rfl (oy rfl rfl rfl (eq_self_b _) (of_eff (s_load_pts rfl Try.underlying27 rfl ti27 rfl rfl rfl rfl) rfl)) ?_
          refine rg_put (d := 91) (v := .d (.fl (.bool true))) rfl (oy rfl rfl rfl (eq_self_b _) (op_call rfl Try.func15 nm15 rfl (.cons rfl (.d _) (.cons rfl (.d _) .nil)) (Wq.same10 _ (att_len' hw.2).1 (att_len' hw.2).2) rfl)) ?_
          refine rg_put (d := 92) (v := .d (.fl (.bool true))) rfl (og rfl (op_pick rfl rfl (by rw [(eq_self_b _)]; rfl) rfl)) ?_
          refine rg_put (d := 93) (v := .d (.fl (.bool true))) rfl (og rfl (op_move rfl rfl rfl)) ?_
          refine rg_put (d := 94) (v := .d (.sl 4 (List.map eTa l.reverse))) rfl (oy rfl rfl rfl rfl (op_move rfl rfl rfl)) ?_
          refine rg_put (d := 95) (v := .d (.ag (eTpg t))) rfl (oy rfl rfl rfl rfl (of_eff (s_load_pts rfl Try.underlying34 rfl ti34 rfl rfl rfl rfl) rfl)) ?_
          refine rg_put (d := 96) (v := .d (.fl (.int .i64 0))) rfl (oy rfl rfl rfl rfl (op_call rfl Try.func12 nm12 rfl (.cons rfl (.d _) (.cons rfl (.d _) .nil)) (al_rev hal ▸ al_c l.reverse t) rfl)) ?_
          refine rg_put (d := 97) (v := .d (.fl (.bool (0 == 0)))) rfl (oy rfl rfl rfl rfl (op_bin rfl rfl rfl (b_eql _ _ _ _) rfl)) ?_
          refine rg_put (d := 98) (v := .d (.fl (.bool (0 == 0)))) rfl (og rfl (op_pick rfl rfl rfl rfl)) ?_
          refine rg_put (d := 99) (v := .d (.fl (.bool (0 == 0)))) rfl (og rfl (op_move rfl rfl rfl)) ?_
          refine rg_put (d := 100) (v := .d (.fl (.bool true))) rfl (oy rfl rfl rfl rfl (op_call rfl Try.func10 nm10 rfl .nil aliveT rfl)) ?_
          refine rg_put (d := 101) (v := .d (.fl (.bool true))) rfl (og rfl (op_pick rfl rfl rfl rfl)) ?_
          refine rg_put (d := 6) (v := .d (.fl (.bool true))) rfl (og rfl (op_assign rfl rfl rfl)) ?_
          refine rg_done rfl ?_
          refine a_ret ?_
          show ∃ ds, ResL _ _ _ ds ∧ RV.of ds = _
          refine ⟨[.fl (.bool true)], (.cons (.tmp rfl (.d _)) .nil), ?_⟩
          rfl
    · skip
      have h17 := t_not h3
      refine rg_put (d := 23) (v := .d (.fl undef)) rfl (on rfl rfl rfl h3) ?_
      refine rg_put (d := 24) (v := .d (.fl undef)) rfl (on rfl rfl rfl h3) ?_
      refine rg_put (d := 25) (v := .d (.fl undef)) rfl (on rfl rfl rfl h3) ?_
      refine rg_put (d := 26) (v := .d (.fl undef)) rfl (on rfl rfl rfl h3) ?_
      refine rg_put (d := 27) (v := .d (.fl (.bool true))) rfl (og rfl (op_pick rfl rfl (by rw [h3]; rfl) rfl)) ?_
      refine rg_done rfl ?_
      refine a_condK rfl rfl ?_
      refine a_rseq ?_
      refine rg_put (d := 6) (v := .d (.fl (.bool true))) rfl (og rfl (op_assign rfl rfl rfl)) ?_
      refine rg_done rfl ?_
      refine a_ret ?_
      show ∃ ds, ResL _ _ _ ds ∧ RV.of ds = _
      refine ⟨[.fl (.bool true)], (.cons (.tmp rfl (.d _)) .nil), ?_⟩
      rfl
  · skip
    have h18 := t_not h1
    refine rg_put (d := 18) (v := .d (.fl undef)) rfl (on rfl rfl rfl h1) ?_
    refine rg_put (d := 19) (v := .d (.fl undef)) rfl (on rfl rfl rfl h1) ?_
    refine rg_put (d := 20) (v := .d (.fl undef)) rfl (on rfl rfl rfl h1) ?_
    refine rg_put (d := 21) (v := .d (.fl (.bool true))) rfl (og rfl (op_pick rfl rfl (by rw [h1]; rfl) rfl)) ?_
    refine rg_put (d := 22) (v := .d (.fl (.bool true))) rfl (og rfl (op_move rfl rfl rfl)) ?_
    refine rg_put (d := 23) (v := .d (.fl undef)) rfl (on rfl rfl rfl rfl) ?_
    refine rg_put (d := 24) (v := .d (.fl undef)) rfl (on rfl rfl rfl rfl) ?_
    refine rg_put (d := 25) (v := .d (.fl undef)) rfl (on rfl rfl rfl rfl) ?_
    refine rg_put (d := 26) (v := .d (.fl undef)) rfl (on rfl rfl rfl rfl) ?_
    refine rg_put (d := 27) (v := .d (.fl (.bool true))) rfl (og rfl (op_pick rfl rfl rfl rfl)) ?_
    refine rg_done rfl ?_
    refine a_condK rfl rfl ?_
    refine a_rseq ?_
    refine rg_put (d := 6) (v := .d (.fl (.bool true))) rfl (og rfl (op_assign rfl rfl rfl)) ?_
    refine rg_done rfl ?_
    refine a_ret ?_
    show ∃ ds, ResL _ _ _ ds ∧ RV.of ds = _
    refine ⟨[.fl (.bool true)], (.cons (.tmp rfl (.d _)) .nil), ?_⟩
    rfl
end Go.Proofs.Ytlmihhecpaomjaa.Wk
