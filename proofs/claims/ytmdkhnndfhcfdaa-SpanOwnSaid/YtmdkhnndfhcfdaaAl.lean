/- The worked examples of the chapter hold. No condition. -/
import Derived.Test.YtmdkhnndfhcfdaaCv
set_option linter.unusedSimpArgs false
set_option linter.unusedVariables false
namespace Go.Proofs.Ytmdkhnndfhcfdaa.Mt
theorem hs_nil (t : Int) : Hs [] t = False := eq_false (Hs.nil t)
def k19 : List Iv := [(1, 9)]
theorem nf1 {x y : Int} (h : Ok (x, y)) : Nf [(x, y)] := ⟨h, fun u hu => by simp at hu, trivial⟩
theorem nf2 {x y z u : Int} (h : Ok (x, y)) (h2 : y < z) (h3 : Ok (z, u)) : Nf [(x, y), (z, u)] := by
  refine ⟨h, fun v hv => ?_, nf1 h3⟩
  have e : v = (z, u) := by simpa using hv
  rw [e]; exact h2
theorem v1 (t : Int) : Hs [(1, 9)] t ↔ Hs [(5, 9), (1, 3), (3, 5), (7, 7)] t := by simp only [Hs.cons, hs_nil, Ok, or_false]; omega
theorem v2 (t : Int) : Hs [(1, 3), (4, 5)] t ↔ Hs [(1, 3)] t ∨ Hs [(4, 5)] t := by simp only [Hs.cons, hs_nil, Ok, or_false]
theorem v3 (t : Int) : Hs [(4, 5)] t ↔ Hs [(1, 5)] t ∧ Hs [(4, 9)] t := by simp only [Hs.cons, hs_nil, Ok, or_false]; omega
theorem v4 (t : Int) : Hs [(1, 3), (4, 9)] t ↔ Hs [(1, 9)] t ∧ ¬ Hs [(3, 4)] t := by simp only [Hs.cons, hs_nil, Ok, or_false]; omega
theorem v5 : lnS [(1, 3), (2, 5)] = 4 := by
  rw [lnS_eq (R := [(1, 5)]) (nf1 (by decide)) (fun t => by simp only [Hs.cons, hs_nil, Ok, or_false]; omega)]
  rfl
theorem v6 : hsB [(1, 3)] 2 = true := by decide
theorem v7 : hsB [(1, 3)] 3 = false := by decide
theorem v8 : cvB [(1, 3), (3, 6)] 2 5 = true := cvB_yes ⟨by decide, fun t a b => by simp only [Hs.cons, hs_nil, Ok, or_false]; omega⟩
theorem v9 : cvB [(1, 3)] 2 2 = false := cvB_bad (by decide)
end Go.Proofs.Ytmdkhnndfhcfdaa.Mt
namespace Go.Proofs.Ytmdkhnndfhcfdaa.Wk
open Go.RowKit
open Go.Proofs.Ytmdkhnndfhcfdaa.Mt
theorem Rp.news {w : World} {B b off m : Nat} {L : List Iv} (h : Rp w B (some ⟨b, off, none⟩) m L) : ∀ j v, (fl L)[j]? = some v → w.cell? ((⟨b, off, none⟩ : Addr).add j) = some v := by
  intro j v hv
  have hj : j < L.length * 2 := by
    rcases Nat.lt_or_ge j (fl L).length with h1 | h1
    · rw [fl_len] at h1; exact h1
    · rw [List.getElem?_eq_none h1] at hv; cases hv
  have hm := h.1
  obtain ⟨b', o', e, _, hc⟩ := h.2.2.1 (by omega)
  injection e with e
  injection e with e1 e2
  subst e1 e2
  obtain ⟨c0, c1⟩ := hc (j / 2) (by omega)
  obtain ⟨f0, f1⟩ := fl_at L (j / 2) (by omega)
  have e : (⟨b, off, none⟩ : Addr).add j = ⟨b, off + j, none⟩ := by unfold Addr.add; by_cases hj : j = 0 <;> simp [hj]
  rw [e]
  rcases Nat.mod_two_eq_zero_or_one j with h2 | h2
  · rw [show j = j / 2 * 2 by omega] at hv ⊢
    rw [f0] at hv
    rw [← hv]; exact c0
  · rw [show j = j / 2 * 2 + 1 by omega] at hv ⊢
    rw [f1] at hv
    rw [← hv]; exact c1
theorem Gr.rp {w w' : World} {v : Value} {L : List Iv} (h : Gr w w' v L) (n : Nat) (hn : L.length = n) (hl : n ≤ 2000) (hi : ∀ i, In64 (vat L i).1 ∧ In64 (vat L i).2) : ∃ P cp, v = .slice P n cp ∧ Rp w' w'.heap.size P n L ∧ Below w.heap.size w w' := by
  obtain ⟨P, cp, e, _, hr, _⟩ := h.outI (by omega) hi
  rw [hn] at e hr
  exact ⟨P, cp, e, hr, h.1⟩
theorem i1 {x y : Int} (hx : In64 x) (hy : In64 y) : ∀ i, In64 (vat [(x, y)] i).1 ∧ In64 (vat [(x, y)] i).2 := by
  intro i
  rcases i with _ | i
  · exact ⟨hx, hy⟩
  · simp [vat, In64]
theorem i2 {x y z u : Int} (hx : In64 x) (hy : In64 y) (hz : In64 z) (hu : In64 u) : ∀ i, In64 (vat [(x, y), (z, u)] i).1 ∧ In64 (vat [(x, y), (z, u)] i).2 := by
  intro i
  rcases i with _ | _ | i
  · exact ⟨hx, hy⟩
  · exact ⟨hz, hu⟩
  · simp [vat, In64]
theorem one28' (x y : Int) (w : World) (hx : In64 x) (hy : In64 y) : Calls Try.prog 28 #[.int .i64 x, .int .i64 y] w fun e w' => ∃ P cp, e = .returned (.slice P 1 cp) ∧ Rp w' w'.heap.size P 1 [(x, y)] ∧ Below w.heap.size w w' :=
  (one28 x y w).mono fun e w' ⟨v, h1, h2⟩ => by
    obtain ⟨P, cp, e2, hr, hb⟩ := h2.rp 1 rfl (by omega) (i1 hx hy)
    exact ⟨P, cp, by rw [h1, e2], hr, hb⟩
theorem two32' (x y z u : Int) (w : World) (hx : In64 x) (hy : In64 y) (hz : In64 z) (hu : In64 u) : Calls Try.prog 32 #[.int .i64 x, .int .i64 y, .int .i64 z, .int .i64 u] w fun e w' => ∃ P cp, e = .returned (.slice P 2 cp) ∧ Rp w' w'.heap.size P 2 [(x, y), (z, u)] ∧ Below w.heap.size w w' :=
  (two32 x y z u w).mono fun e w' ⟨v, h1, h2⟩ => by
    obtain ⟨P, cp, e2, hr, hb⟩ := h2.rp 2 rfl (by omega) (i2 hx hy hz hu)
    exact ⟨P, cp, by rw [h1, e2], hr, hb⟩
theorem NfR.val {w w' : World} {P : Int → Prop} {L : Nat} {e : Ending} (h : NfR w P L e w') (K : List Iv) (n : Nat) (hn : K.length = n) (hK : Nf K) (hs : ∀ t, Hs K t ↔ P t) : ∃ A' c', e = .returned (.slice A' n c') ∧ Rp w' w'.heap.size A' n K ∧ Below w.heap.size w w' := by
  obtain ⟨A', c', R, h1, h2, h3, _, h5, h6, h7, _⟩ := h
  have e : R = K := Nf.one h5 hK (fun t => (h6 t).trans (hs t).symm)
  subst e
  rw [hn] at h1 h3
  exact ⟨A', c', h1, h3, h7⟩
set_option maxHeartbeats 4000000 in
set_option maxRecDepth 100000 in
theorem alive15 (w : World) : Calls Try.prog 15 #[] w fun e w' => e = .returned (.bool true) ∧ Below w.heap.size w w' := by
  obtain ⟨i0, hi0, hz0, hs0, hb0'⟩ := info_parts iv_info
  have HBW := Lib.hid (Below.refl w.heap.size w)
  have V1 := Lib.hid v1
  have V2 := Lib.hid v2
  have V3 := Lib.hid v3
  have V4 := Lib.hid v4
  have V5 := Lib.hid v5
  have V6 := Lib.hid v6
  have V7 := Lib.hid v7
  have V8 := Lib.hid v8
  have V9 := Lib.hid v9
  go_enter Try.func15, Try.ntmps15
  go_wp2_with fail
  refine (two32 5 9 1 3 _).mono ?_
  rintro e w1 ⟨v1, rfl, hg1⟩
  obtain ⟨g1, cap1, rfl, _, _, _⟩ := Qb.own hg1.2 (by simp)
  have HG1 := Lib.hid hg1
  clear hg1
  go_wp2_with fail
  refine (two32' 3 5 7 7 _ (by unfold In64; omega) (by unfold In64; omega) (by unfold In64; omega) (by unfold In64; omega)).mono ?_
  rintro e w2 ⟨P, cp, rfl, hr, hb⟩
  replace HG1 := Lib.hid (HG1.out.below hb)
  obtain ⟨b2, o2, rfl, _⟩ := hr.get (i := 0) (by omega)
  have HCC := Lib.hid hr.news
  have hsz := HG1.out.1.size
  have HOW := Lib.hid HG1.out.2
  clear hr hb
  go_wp2_with (first | (go_loud (at_builtin; refine wpList_append_own _ rfl _ _ 22 rfl w.heap.size 25 i0 (.agg #[.int .i64 0, .int .i64 0]) 2 16 Try.underlying22 hi0 hz0 hs0 hb0' rfl (by omega) _ _ _ rfl HOW.out ⟨_, _, none⟩ 2 cp (fl [(3, 5), (7, 7)]) rfl rfl HCC.out (fl_one _) (by unfold maxLen; simp) (by simp) hsz ?_)) | fail)
  intro v' w9 hown hgrow _
  have HG9 : Hid (Gr w w9 v' [(5, 9), (1, 3), (3, 5), (7, 7)]) := Lib.hid ⟨HG1.out.1.grown hgrow HG1.out.1.size (fun k hk => (HOW.out.lt k hk).1), hown⟩
  obtain ⟨P0, cp0, rfl, hr0, hb0⟩ := HG9.out.rp 4 rfl (by omega) (fun i => by
    rcases i with _ | _ | _ | _ | i
    all_goals simp [vat, In64])
  have H0 := Lib.hid hr0
  replace HBW := Lib.hid hb0
  clear hown hgrow hr0 hb0 HG9 HG1 HOW HCC
  go_wp2_with fail
  refine (normal13 P0 4 cp0 [(5, 9), (1, 3), (3, 5), (7, 7)] _ H0.out (by omega)).mono ?_
  intro e w10 hh
  obtain ⟨A10, c10, rfl, hr, hb⟩ := hh.val [(1, 9)] 1 rfl (nf1 (by decide)) V1.out
  clear hh
  replace H0 := Lib.hid (H0.out.up hb)
  have H10 := Lib.hid hr
  replace HBW := Lib.hid (upB HBW.out hb)
  clear hb hr
  go_wp2_with fail
  clear H0
  refine (one28' 1 9 _ (by unfold In64; omega) (by unfold In64; omega)).mono ?_
  rintro e w11 ⟨A11, c11, rfl, hr, hb⟩
  replace H10 := Lib.hid (H10.out.up hb)
  have H11 := Lib.hid hr
  replace HBW := Lib.hid (upB HBW.out hb)
  clear hb hr
  go_wp2_with fail
  refine (same12 A10 A11 1 c10 c11 [(1, 9)] _ H10.out H11.out).mono ?_
  rintro e w12 ⟨rfl, hb⟩
  replace H10 := Lib.hid (H10.out.up hb)
  replace H11 := Lib.hid (H11.out.up hb)
  replace HBW := Lib.hid (upB HBW.out hb)
  clear hb
  clear H10 H11
  go_wp2_with fail
  refine (one28' 1 3 _ (by unfold In64; omega) (by unfold In64; omega)).mono ?_
  rintro e w13 ⟨A13, c13, rfl, hr, hb⟩
  have H13 := Lib.hid hr
  replace HBW := Lib.hid (upB HBW.out hb)
  clear hb hr
  go_wp2_with fail
  refine (one28' 4 5 _ (by unfold In64; omega) (by unfold In64; omega)).mono ?_
  rintro e w14 ⟨A14, c14, rfl, hr, hb⟩
  replace H13 := Lib.hid (H13.out.up hb)
  have H14 := Lib.hid hr
  replace HBW := Lib.hid (upB HBW.out hb)
  clear hb hr
  go_wp2_with fail
  refine (union16 A13 A14 1 1 c13 c14 [(1, 3)] [(4, 5)] _ H13.out H14.out (by omega) (by omega)).mono ?_
  intro e w15 hh
  obtain ⟨A15, c15, rfl, hr, hb⟩ := hh.val [(1, 3), (4, 5)] 2 rfl (nf2 (by decide) (by decide) (by decide)) V2.out
  clear hh
  replace H13 := Lib.hid (H13.out.up hb)
  replace H14 := Lib.hid (H14.out.up hb)
  have H15 := Lib.hid hr
  replace HBW := Lib.hid (upB HBW.out hb)
  clear hb hr
  go_wp2_with fail
  clear H13 H14
  refine (two32' 1 3 4 5 _ (by unfold In64; omega) (by unfold In64; omega) (by unfold In64; omega) (by unfold In64; omega)).mono ?_
  rintro e w16 ⟨A16, c16, rfl, hr, hb⟩
  replace H15 := Lib.hid (H15.out.up hb)
  have H16 := Lib.hid hr
  replace HBW := Lib.hid (upB HBW.out hb)
  clear hb hr
  go_wp2_with fail
  refine (same12 A15 A16 2 c15 c16 [(1, 3), (4, 5)] _ H15.out H16.out).mono ?_
  rintro e w17 ⟨rfl, hb⟩
  replace H15 := Lib.hid (H15.out.up hb)
  replace H16 := Lib.hid (H16.out.up hb)
  replace HBW := Lib.hid (upB HBW.out hb)
  clear hb
  clear H15 H16
  go_wp2_with fail
  refine (one28' 1 5 _ (by unfold In64; omega) (by unfold In64; omega)).mono ?_
  rintro e w18 ⟨A18, c18, rfl, hr, hb⟩
  have H18 := Lib.hid hr
  replace HBW := Lib.hid (upB HBW.out hb)
  clear hb hr
  go_wp2_with fail
  refine (one28' 4 9 _ (by unfold In64; omega) (by unfold In64; omega)).mono ?_
  rintro e w19 ⟨A19, c19, rfl, hr, hb⟩
  replace H18 := Lib.hid (H18.out.up hb)
  have H19 := Lib.hid hr
  replace HBW := Lib.hid (upB HBW.out hb)
  clear hb hr
  go_wp2_with fail
  refine (meet18 A18 A19 1 1 c18 c19 [(1, 5)] [(4, 9)] _ H18.out H19.out (by omega) (by omega)).mono ?_
  intro e w20 hh
  obtain ⟨A20, c20, rfl, hr, hb⟩ := hh.val [(4, 5)] 1 rfl (nf1 (by decide)) V3.out
  clear hh
  replace H18 := Lib.hid (H18.out.up hb)
  replace H19 := Lib.hid (H19.out.up hb)
  have H20 := Lib.hid hr
  replace HBW := Lib.hid (upB HBW.out hb)
  clear hb hr
  go_wp2_with fail
  clear H18 H19
  refine (one28' 4 5 _ (by unfold In64; omega) (by unfold In64; omega)).mono ?_
  rintro e w21 ⟨A21, c21, rfl, hr, hb⟩
  replace H20 := Lib.hid (H20.out.up hb)
  have H21 := Lib.hid hr
  replace HBW := Lib.hid (upB HBW.out hb)
  clear hb hr
  go_wp2_with fail
  refine (same12 A20 A21 1 c20 c21 [(4, 5)] _ H20.out H21.out).mono ?_
  rintro e w22 ⟨rfl, hb⟩
  replace H20 := Lib.hid (H20.out.up hb)
  replace H21 := Lib.hid (H21.out.up hb)
  replace HBW := Lib.hid (upB HBW.out hb)
  clear hb
  clear H20 H21
  go_wp2_with fail
  refine (one28' 1 9 _ (by unfold In64; omega) (by unfold In64; omega)).mono ?_
  rintro e w23 ⟨A23, c23, rfl, hr, hb⟩
  have H23 := Lib.hid hr
  replace HBW := Lib.hid (upB HBW.out hb)
  clear hb hr
  go_wp2_with fail
  refine (one28' 3 4 _ (by unfold In64; omega) (by unfold In64; omega)).mono ?_
  rintro e w24 ⟨A24, c24, rfl, hr, hb⟩
  replace H23 := Lib.hid (H23.out.up hb)
  have H24 := Lib.hid hr
  replace HBW := Lib.hid (upB HBW.out hb)
  clear hb hr
  go_wp2_with fail
  refine (minus20 A23 A24 1 1 c23 c24 [(1, 9)] [(3, 4)] _ H23.out H24.out (by omega) (by omega)).mono ?_
  intro e w25 hh
  obtain ⟨A25, c25, rfl, hr, hb⟩ := hh.val [(1, 3), (4, 9)] 2 rfl (nf2 (by decide) (by decide) (by decide)) V4.out
  clear hh
  replace H23 := Lib.hid (H23.out.up hb)
  replace H24 := Lib.hid (H24.out.up hb)
  have H25 := Lib.hid hr
  replace HBW := Lib.hid (upB HBW.out hb)
  clear hb hr
  go_wp2_with fail
  clear H23 H24
  refine (two32' 1 3 4 9 _ (by unfold In64; omega) (by unfold In64; omega) (by unfold In64; omega) (by unfold In64; omega)).mono ?_
  rintro e w26 ⟨A26, c26, rfl, hr, hb⟩
  replace H25 := Lib.hid (H25.out.up hb)
  have H26 := Lib.hid hr
  replace HBW := Lib.hid (upB HBW.out hb)
  clear hb hr
  go_wp2_with fail
  refine (same12 A25 A26 2 c25 c26 [(1, 3), (4, 9)] _ H25.out H26.out).mono ?_
  rintro e w27 ⟨rfl, hb⟩
  replace H25 := Lib.hid (H25.out.up hb)
  replace H26 := Lib.hid (H26.out.up hb)
  replace HBW := Lib.hid (upB HBW.out hb)
  clear hb
  clear H25 H26
  go_wp2_with fail
  refine (two32' 1 3 2 5 _ (by unfold In64; omega) (by unfold In64; omega) (by unfold In64; omega) (by unfold In64; omega)).mono ?_
  rintro e w28 ⟨A28, c28, rfl, hr, hb⟩
  have H28 := Lib.hid hr
  replace HBW := Lib.hid (upB HBW.out hb)
  clear hb hr
  go_wp2_with fail
  refine (len22 A28 2 c28 [(1, 3), (2, 5)] _ H28.out (by omega)).mono ?_
  rintro e w29 ⟨rfl, hb⟩
  replace H28 := Lib.hid (H28.out.up hb)
  replace HBW := Lib.hid (upB HBW.out hb)
  clear hb
  rw [V5.out]
  clear H28
  go_wp2_with fail
  refine (one28' 1 3 _ (by unfold In64; omega) (by unfold In64; omega)).mono ?_
  rintro e w30 ⟨A30, c30, rfl, hr, hb⟩
  have H30 := Lib.hid hr
  replace HBW := Lib.hid (upB HBW.out hb)
  clear hb hr
  go_wp2_with fail
  refine (has24 A30 1 c30 [(1, 3)] 2 _ H30.out).mono ?_
  rintro e w31 ⟨rfl, hb⟩
  replace H30 := Lib.hid (H30.out.up hb)
  replace HBW := Lib.hid (upB HBW.out hb)
  clear hb
  rw [V6.out]
  clear H30
  go_wp2_with fail
  refine (one28' 1 3 _ (by unfold In64; omega) (by unfold In64; omega)).mono ?_
  rintro e w32 ⟨A32, c32, rfl, hr, hb⟩
  have H32 := Lib.hid hr
  replace HBW := Lib.hid (upB HBW.out hb)
  clear hb hr
  go_wp2_with fail
  refine (has24 A32 1 c32 [(1, 3)] 3 _ H32.out).mono ?_
  rintro e w33 ⟨rfl, hb⟩
  replace H32 := Lib.hid (H32.out.up hb)
  replace HBW := Lib.hid (upB HBW.out hb)
  clear hb
  rw [V7.out]
  clear H32
  go_wp2_with fail
  refine (two32' 1 3 3 6 _ (by unfold In64; omega) (by unfold In64; omega) (by unfold In64; omega) (by unfold In64; omega)).mono ?_
  rintro e w34 ⟨A34, c34, rfl, hr, hb⟩
  have H34 := Lib.hid hr
  replace HBW := Lib.hid (upB HBW.out hb)
  clear hb hr
  go_wp2_with fail
  refine (covers26 A34 2 c34 [(1, 3), (3, 6)] 2 5 _ H34.out (by omega)).mono ?_
  rintro e w35 ⟨rfl, hb⟩
  replace H34 := Lib.hid (H34.out.up hb)
  replace HBW := Lib.hid (upB HBW.out hb)
  clear hb
  rw [V8.out]
  clear H34
  go_wp2_with fail
  refine (one28' 1 3 _ (by unfold In64; omega) (by unfold In64; omega)).mono ?_
  rintro e w36 ⟨A36, c36, rfl, hr, hb⟩
  have H36 := Lib.hid hr
  replace HBW := Lib.hid (upB HBW.out hb)
  clear hb hr
  go_wp2_with fail
  refine (covers26 A36 1 c36 [(1, 3)] 2 2 _ H36.out (by omega)).mono ?_
  rintro e w37 ⟨rfl, hb⟩
  replace H36 := Lib.hid (H36.out.up hb)
  replace HBW := Lib.hid (upB HBW.out hb)
  clear hb
  rw [V9.out]
  clear H36
  go_wp2_with fail
  go_ret
  exact ⟨rfl, HBW.out⟩
end Go.Proofs.Ytmdkhnndfhcfdaa.Wk
