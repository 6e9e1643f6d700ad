/- The reference's combination of two sets. Conditions: the slices read as intervals; at most 400 each. -/
import Derived.Test.YtmdkhnndfhcfdaaCm
import Derived.Deep.RegionHeldLaw
set_option linter.unusedSimpArgs false
set_option linter.unusedVariables false
namespace Go.Proofs.Ytmdkhnndfhcfdaa.Mt
theorem vat_last (R : List Iv) (u : Iv) : vat (R ++ [u]) R.length = u := by unfold vat; simp
theorem set_last (R : List Iv) (u v : Iv) : (R ++ [u]).set R.length v = R ++ [v] := by
  rw [List.set_append_right _ _ (Nat.le_refl _)]
  simp
end Go.Proofs.Ytmdkhnndfhcfdaa.Mt
namespace Go.Proofs.Ytmdkhnndfhcfdaa.Wk
open Go.RowKit
open Go.Proofs.Ytmdkhnndfhcfdaa.Mt
theorem step_append_own {P : Program} {ops : Array Oper} {o : Oper} {a : Act} {w : World} {K : Act → World → Prop} {Q : Exit → Act → World → Prop} {E : Prop} (hgd : o.guard = none) (s x : Operand) (t : TypeId)
    (ho : o.op = .call { callee := .builtin .append, args := #[s, x], argTypes := #[t, t] })
    (base : Nat) (e : TypeId) (i : TypeInfo) (z : Value) (size bytes : Nat) (ht : P.underlying t = some (.slice e)) (hi : P.info? e = some i) (hz : i.zero = some z)
    (hsize : i.size = size) (hby : i.bytes = bytes) (hzs : z.cells.size = size) (hsz : 0 < size)
    (v : Value) (n : Nat) (xs : List Value) (hs : a.eval s = v) (hown : w.ownsRow base e size v n xs)
    (ad : Addr) (m c : Nat) (news : List Value) (hx : a.eval x = .slice (some ad) m c) (hl : news.length = m * size) (hc : ∀ j u, news[j]? = some u → w.cell? (ad.add j) = some u) (h1 : ∀ u ∈ news, u.oneCell' = true)
    (h63 : n + m ≤ maxLen) (hbytes : (n + m) * bytes ≤ 140737488355328) (hbase : base ≤ w.heap.size)
    (h : ∀ v' w', w'.ownsRow base e size v' (n + m) (xs ++ news) → w.grownBy w' v.ownBlock → K (a.put o.dst v') w') :
    if Region.wanted o (yielded ops a.tmps) = true then Oper.wp P o a w K Q else E := by
  have hw : Region.wanted o (yielded ops a.tmps) = true := by simp [Region.wanted, hgd]
  rw [if_pos hw]
  obtain ⟨v', w', hr, h2, h3, _⟩ := run_append_own (P := P) w base t o.type e i z size bytes ht hi hz hsize hby hzs hsz v n xs hown ad m c news hl hc h1 h63 hbytes hbase
  unfold Oper.wp execOp
  simp only [ho, resolve, invoke, builtin, Sem.run_bind, Sem.run_pure, Result.andThen_ok, List.map_toArray, List.map_cons, List.map_nil, hs, hx, hr]
  exact h v' w' h2 h3
theorem Gr.put1 {w wr : World} {g n cap k : Nat} {R : List Iv} {y : Int} (h : Gr w wr (.slice (some ⟨g, 0, none⟩) n cap) R) (hk : k < R.length) : Gr w (wr.setCell ⟨g, k * 2 + 1, none⟩ (.int .i64 y)) (.slice (some ⟨g, 0, none⟩) n cap) (R.set k ((vat R k).1, y)) := by
  obtain ⟨hb, ho⟩ := h
  have hbase := (ho.lt g rfl).1
  refine ⟨hb.setCell (p := ⟨g, k * 2 + 1, none⟩) hbase _, ?_⟩
  obtain ⟨hl, hor⟩ := ho
  rcases hor with ⟨e, _⟩ | ⟨g', cap', cur, e, hg, hh, hc, hm, hs, ht⟩
  · cases e
  · injection e with e1 e2 e3
    injection e1 with e1
    injection e1 with e1
    subst e1 e2 e3
    refine ⟨by rw [fl_len, List.length_set], .inr ⟨g, cap, cur.setIfInBounds (k * 2 + 1) (.int .i64 y), by rw [List.length_set], hg, heap_setCell_same wr g _ _ 25 _ hh, by rw [List.length_set]; exact hc, hm, by simpa using hs, ?_⟩⟩
    rw [Qset hk, ← ht]
    simp only [Array.toList_setIfInBounds, List.length_set, List.take_set]
    congr 1
    rw [ht, set_self (fl_at R k hk).1]
theorem Gr.shape0 {w wr : World} {v : Value} (h : Gr w wr v []) : ∃ P cp, v = .slice P 0 cp := by
  rcases h.2.2 with ⟨e, _⟩ | ⟨g, cap, cur, e, _⟩
  · exact ⟨_, _, e⟩
  · exact ⟨_, _, e⟩
def QS (a b : List Iv) (way : Int) (t : Int) : Prop := inB way (hsB a t) (hsB b t) = true
set_option maxHeartbeats 4000000 in
set_option maxRecDepth 100000 in
theorem combine31 (A B : Option Addr) (n c m c' : Nat) (a b : List Iv) (way : Int) (w : World) (h : Rp w w.heap.size A n a) (h2 : Rp w w.heap.size B m b) (hn : n ≤ 400) (hm : m ≤ 400) : Calls Try.prog 31 #[.slice A n c, .slice B m c', .int .i64 way] w (NfR w (QS a b way) (2 * (n + m))) := by
  have HA := Lib.hid h
  have HB := Lib.hid h2
  clear h h2
  obtain ⟨i0, hi0, hz0, hs0, hb0'⟩ := info_parts iv_info
  go_enter Try.func31, Try.ntmps31
  go_wp2_with fail
  refine (ends37 A none n c 0 0 a [] _ HA.out (rk_none .i64 _ _ rfl) List.Pairwise.nil (by omega)).mono ?_
  rintro e w1 ⟨A1, c1, R1, rfl, hr1, ha1, hm1, hl1, hb1⟩
  have HR1 := Lib.hid hr1
  have HA1 := Lib.hid ha1
  have HM1 := Lib.hid hm1
  have HL1 := Lib.hid hl1
  have HB1 := Lib.hid hb1
  have HBB := Lib.hid (HB.out.up hb1)
  have HAA := Lib.hid (HA.out.up hb1)
  clear hr1 ha1 hm1 hl1 hb1 HA HB
  go_wp2_with fail
  refine (ends37 B A1 m c' R1.length c1 b R1 _ HBB.out HR1.out HA1.out (by have := HL1.out; omega)).mono ?_
  rintro e w2 ⟨A2, c2, p, rfl, hr2, ha2, hm2, hl2, hb2⟩
  have HP := Lib.hid hr2
  have HE := Lib.hid (Ed.of (a := a) (b := b) (p := p) way ha2 (fun x => by rw [hm2 x, HM1.out x]; simp))
  have HPL : Hid (p.length ≤ 2 * (n + m)) := Lib.hid (by have := HL1.out; omega)
  have HA2 := Lib.hid (HAA.out.up hb2)
  have HB2 := Lib.hid (HBB.out.up hb2)
  have HW2 := Lib.hid (upB HB1.out hb2)
  clear hr2 ha2 hm2 hl2 hb2 HAA HBB HR1 HA1 HM1 HL1 HB1
  have HG0 : Hid (Gr w2 w2 (.slice none 0 0) []) := Lib.hid ⟨Below.refl _ _, World.ownsRow_nil _ _ _ _⟩
  have HC0 := Lib.hid (Cb.start HE.out)
  obtain ⟨N, hN⟩ : ∃ N, p.length = N := ⟨_, rfl⟩
  have HN := Lib.hid hN
  rw [hN] at HPL HP ⊢
  have hNl : N ≤ 1600 := by have := HPL.out; omega
  clear hN
  go_wp2_with fail
  go_loopw [7, 9] (fun v iv wr => ∃ (i : Nat) (R : List Iv), (i = 0 ∨ i < N) ∧ iv = .int .i64 i ∧ R.length ≤ i ∧ Hid (Gr w2 wr v R) ∧ Hid (Cb (QS a b way) p i R)) (fun _ iv _ => N - (intOf iv).toNat)
  case atStart => exact ⟨0, [], .inl rfl, rfl, by simp, HG0, HC0⟩
  case round =>
    obtain ⟨i, R, hi, rfl, hRl, HG, HC⟩ := hrel
    have hbs := HG.out.1.size
    have E1 : IntKind.i64.wrap ((i : Int) + 1) = (i : Int) + 1 := IntWalk.i64_in _ (by omega)
    by_cases hlt : i + 1 < N
    · have hltI : (i : Int) + 1 < (N : Int) := by omega
      have hi0' : i < N := by omega
      obtain ⟨bp, o1, rfl, hbb, d1⟩ := HP.out.get (i := i) hi0'
      have d2 := HP.out.two (i := i + 1) hlt
      obtain ⟨x, hx⟩ : ∃ x, iat p i = x := ⟨_, rfl⟩
      obtain ⟨y, hy⟩ : ∃ y, iat p (i + 1) = y := ⟨_, rfl⟩
      have HX := Lib.hid hx
      have HY := Lib.hid hy
      rw [hx] at d1
      rw [hy] at d2
      clear hx hy
      have HD : Hid (∀ W, Below w2.heap.size w2 W → bp < W.heap.size ∧ W.cell? ⟨bp, o1 + i, none⟩ = some (.int .i64 x) ∧ W.cell? ⟨bp, o1 + (i + 1), none⟩ = some (.int .i64 y)) := Lib.hid (fun W hW => ⟨Nat.lt_of_lt_of_le hbb hW.size, (hW.cell (p := ⟨bp, _, none⟩) hbb).trans d1, (hW.cell (p := ⟨bp, _, none⟩) hbb).trans d2⟩)
      clear d1 d2 hbb
      obtain ⟨hb1w, d1, d2⟩ := HD.out wr HG.out.1
      go_wp2_with fail
      refine (in38 A B n c m c' a b x way _ (HA2.out.up HG.out.1) (HB2.out.up HG.out.1)).mono ?_
      rintro e w3 ⟨rfl, hb3⟩
      replace HG := Lib.hid (HG.out.below hb3)
      clear hb3 d1 d2 hb1w hbs
      have hbs := HG.out.1.size
      obtain ⟨q, hq⟩ : ∃ q, inB way (hsB a x) (hsB b x) = q := ⟨_, rfl⟩
      have HQ := Lib.hid hq
      rw [hq]
      clear hq
      rcases fot q with rfl | rfl
      · have HC2 : Hid (Cb (QS a b way) p (i + 1) R) := Lib.hid (HC.out.skip HE.out (by rw [HN.out]; exact hlt) (by rw [HX.out]; unfold QS; rw [HQ.out]; simp))
        go_wp2_with fail
        exact ⟨⟨i + 1, R, .inr hlt, by go_num, by omega, HG, HC2⟩, by simp [intOf]; omega⟩
      · have HQQ : Hid (QS a b way (iat p i)) := Lib.hid (by rw [HX.out]; unfold QS; exact HQ.out)
        obtain ⟨hb1w, d1, d2⟩ := HD.out w3 HG.out.1
        rcases List.eq_nil_or_concat R with e | ⟨R0, ⟨u0, u1⟩, e⟩
        · subst e
          have HC2 : Hid (Cb (QS a b way) p (i + 1) ([] ++ [(x, y)])) := Lib.hid (by have := HC.out.fresh HE.out (by rw [HN.out]; exact hlt) HQQ.out (fun x y R0 e => by have := congrArg List.length e; simp at this); rw [HX.out, HY.out] at this; exact this)
          as_aux_lemma =>
            have HRL2 : Hid (([] ++ [(x, y)] : List Iv).length ≤ i + 1) := Lib.hid (by simp)
            have C4 : Hid (([] : List Iv).length + 1 ≤ maxLen) := Lib.hid (by unfold maxLen; simp)
            have C5 : Hid ((([] : List Iv).length + 1) * 16 ≤ 140737488355328) := Lib.hid (by simp)
            obtain ⟨PO, cO, rfl⟩ := HG.out.shape0
            go_wp2_with fail
            go_quiet (fail)
            have hb45 : Below w3.heap.size w3 (w3.drewN nq) := below_drewN (Below.refl _ _) nq
            replace HG := Lib.hid (HG.out.below hb45)
            generalize w3.drewN nq = w4 at hb45 HG ⊢
            clear hb45 d1 d2 hb1w
            obtain ⟨hb1w, d1, d2⟩ := HD.out w4 HG.out.1
            go_wp2_with fail
            replace HG := Lib.hid (HG.out.below (Below.refl w4.heap.size w4).drew)
            have HPG := Lib.hid (HG.out.below (b1 w4.drew (.cells #[.int .i64 x, .int .i64 y] 25)))
            clear d1 d2 hb1w
            obtain ⟨hb1w, d1, d2⟩ := HD.out _ HG.out.1
            first | (go_region_held_law (fun w' => bp < w'.heap.size ∧ w'.cell? ⟨bp, o1 + i, none⟩ = some (.int .i64 x) ∧ w'.cell? ⟨bp, o1 + (i + 1), none⟩ = some (.int .i64 y)) (first | exact HD.out _ HG.out.1 | exact HD.out _ HPG.out.1 | assumption | exact HD.out _ HG9.out.1) (first
              | (refine step_append_own rfl (.tmp 57) (.tmp 68) 22 rfl w2.heap.size 25 i0 (.agg #[.int .i64 0, .int .i64 0]) 2 16 Try.underlying22 hi0 hz0 hs0 hb0' rfl (by omega) _ _ _ (by first | (simp [Act.eval, Act.put]; done) | (simp [Act.eval, Act.put]; rfl)) HPG.out.2 ⟨_, 0, none⟩ 1 1 [.int .i64 x, .int .i64 y] (by first | (simp [Act.eval, Act.put]; done) | (simp [Act.eval, Act.put]; rfl)) rfl (new_two _ _ _ _ _ (by simp)) (two_one x y) C4.out C5.out HPG.out.1.size ?_; intro v' w9 hown hgrow; have HG9 := Lib.hid (Gr.appW HPG.out hown hgrow); clear hown hgrow))) | fail
            go_wp2_with fail
            exact ⟨⟨i + 1, _, .inr hlt, by go_num, HRL2.out, HG9, HC2⟩, by simp [intOf]; omega⟩
        · have e' : R = R0 ++ [(u0, u1)] := by rw [e]; simp
          subst e'
          generalize hkl : R0.length = k
          have HKL := Lib.hid hkl
          have HLN : Hid ((R0 ++ [(u0, u1)]).length = k + 1) := Lib.hid (by rw [List.length_append, hkl]; rfl)
          clear hkl e
          obtain ⟨g, cap, rfl, hcap, hgb, hq⟩ := Qb.own HG.out.2 (by rw [HLN.out]; omega)
          rw [HLN.out] at hRl hcap HG ⊢
          obtain ⟨k0, k1⟩ := hq.cell (i := k) (by rw [HLN.out]; omega)
          have HVL : Hid (vat (R0 ++ [(u0, u1)]) k = (u0, u1)) := Lib.hid (by rw [← HKL.out]; exact vat_last _ _)
          rw [HVL.out] at k0 k1
          simp only at k0 k1
          have hgl := hq.lt
          have q0 : (0 : Int) ≤ (k : Int) := by omega
          have q1 : IntKind.i64.wrap ((k : Int) + 1 - 1) = (k : Int) := by rw [IntWalk.i64_in _ (by omega)]; omega
          have q2 : IntKind.i64.wrap (k : Int) = (k : Int) := IntWalk.i64_in _ (by omega)
          have q3 : (k : Int) < (k : Int) + 1 := by omega
          clear hq
          by_cases hux : u1 = x
          · subst hux
            have HC2 : Hid (Cb (QS a b way) p (i + 1) (R0 ++ [(u0, y)])) := Lib.hid (by have := HC.out; rw [← HX.out] at this; have := this.join HE.out (by rw [HN.out]; exact hlt) HQQ.out; rw [HY.out] at this; exact this)
            have HRL2 : Hid ((R0 ++ [(u0, y)]).length ≤ i + 1) := Lib.hid (by rw [List.length_append, HKL.out]; simp; omega)
            have e1 : (u1 == u1) = true := by simp
            as_aux_lemma =>
              go_wp2_with fail
              go_quiet (fail)
              have hb45 : Below w3.heap.size w3 (w3.drewN nq) := below_drewN (Below.refl _ _) nq
              replace HG := Lib.hid (HG.out.below hb45)
              generalize w3.drewN nq = w4 at hb45 HG ⊢
              clear hb45 d1 d2 hb1w
              obtain ⟨hb1w, d1, d2⟩ := HD.out w4 HG.out.1
              clear k0 k1 hgl
              obtain ⟨_, _, hqq, _, _, hq⟩ := Qb.own (l := R0 ++ [(u0, u1)]) (v := .slice (some ⟨g, 0, none⟩) (k + 1) cap) HG.out.2 (by rw [HLN.out]; omega)
              injection hqq with hq1 hq2 hq3
              injection hq1 with hq1
              injection hq1 with hq1
              subst hq1
              obtain ⟨k0, k1⟩ := hq.cell (i := k) (by rw [HLN.out]; omega)
              rw [HVL.out] at k0 k1
              simp only at k0 k1
              have hgl := hq.lt
              have f1 := hq.free (k * 2 + 1)
              have HG5 : Hid (Gr w2 (w4.setCell ⟨g, k * 2 + 1, none⟩ (.int .i64 y)) (.slice (some ⟨g, 0, none⟩) (k + 1) cap) (R0 ++ [(u0, y)])) := Lib.hid (by
                have := HG.out.put1 (k := k) (y := y) (by rw [HLN.out]; omega)
                rw [HVL.out, ← HKL.out, set_last] at this
                rw [← HKL.out]; exact this)
              clear hq hq2 hq3
              go_wp2_with fail
              exact ⟨⟨i + 1, _, .inr hlt, by go_num, HRL2.out, HG5, HC2⟩, by simp [intOf]; omega⟩
          · have HC2 : Hid (Cb (QS a b way) p (i + 1) ((R0 ++ [(u0, u1)]) ++ [(x, y)])) := Lib.hid (by
              have := HC.out.fresh HE.out (by rw [HN.out]; exact hlt) HQQ.out (fun x' y' R' e => by
                have e2 := (List.append_inj' e rfl).2
                have e3 : (u0, u1) = (x', y') := by simpa using e2
                injection e3 with _ e4
                rw [HX.out, ← e4]; exact hux)
              rw [HX.out, HY.out] at this; exact this)
            have HRL2 : Hid (((R0 ++ [(u0, u1)]) ++ [(x, y)]).length ≤ i + 1) := Lib.hid (by rw [List.length_append, HLN.out]; simp; omega)
            have C4 : Hid ((R0 ++ [(u0, u1)]).length + 1 ≤ maxLen) := Lib.hid (by rw [HLN.out]; unfold maxLen; omega)
            have C5 : Hid (((R0 ++ [(u0, u1)]).length + 1) * 16 ≤ 140737488355328) := Lib.hid (by rw [HLN.out]; omega)
            have e1 : (u1 == x) = false := by simp [hux]
            as_aux_lemma =>
              go_wp2_with fail
              go_quiet (fail)
              have hb45 : Below w3.heap.size w3 (w3.drewN nq) := below_drewN (Below.refl _ _) nq
              replace HG := Lib.hid (HG.out.below hb45)
              generalize w3.drewN nq = w4 at hb45 HG ⊢
              clear hb45 d1 d2 hb1w
              obtain ⟨hb1w, d1, d2⟩ := HD.out w4 HG.out.1
              go_wp2_with fail
              replace HG := Lib.hid (HG.out.below (Below.refl w4.heap.size w4).drew)
              have HPG := Lib.hid (HG.out.below (b1 w4.drew (.cells #[.int .i64 x, .int .i64 y] 25)))
              clear d1 d2 hb1w
              obtain ⟨hb1w, d1, d2⟩ := HD.out _ HG.out.1
              first | (go_region_held_law (fun w' => bp < w'.heap.size ∧ w'.cell? ⟨bp, o1 + i, none⟩ = some (.int .i64 x) ∧ w'.cell? ⟨bp, o1 + (i + 1), none⟩ = some (.int .i64 y)) (first | exact HD.out _ HG.out.1 | exact HD.out _ HPG.out.1 | assumption | exact HD.out _ HG9.out.1) (first
                | (refine step_append_own rfl (.tmp 57) (.tmp 68) 22 rfl w2.heap.size 25 i0 (.agg #[.int .i64 0, .int .i64 0]) 2 16 Try.underlying22 hi0 hz0 hs0 hb0' rfl (by omega) _ _ _ (by first | (simp [Act.eval, Act.put]; done) | (simp [Act.eval, Act.put]; rfl)) HPG.out.2 ⟨_, 0, none⟩ 1 1 [.int .i64 x, .int .i64 y] (by first | (simp [Act.eval, Act.put]; done) | (simp [Act.eval, Act.put]; rfl)) rfl (new_two _ _ _ _ _ (by simp)) (two_one x y) C4.out C5.out HPG.out.1.size ?_; intro v' w9 hown hgrow; have HG9 := Lib.hid (Gr.appW HPG.out hown hgrow); clear hown hgrow))) | fail
              go_wp2_with fail
              exact ⟨⟨i + 1, _, .inr hlt, by go_num, HRL2.out, HG9, HC2⟩, by simp [intOf]; omega⟩
    · have hltI : ¬ (i : Int) + 1 < (N : Int) := by omega
      have HX := Lib.hid (HC.out.done HE.out (by rw [HN.out]; exact hi) (by rw [HN.out]; exact hlt))
      obtain ⟨PR, cR, rfl, hcR, hpR, hoR⟩ := HG.out.out (by omega : R.length ≤ 2000) HC.out.nf
      have HCR := Lib.hid hcR
      have HPR := Lib.hid hpR
      have HOR := Lib.hid hoR
      have HI : Hid (R.length ≤ 2 * (n + m)) := Lib.hid (by have := HPL.out; omega)
      clear hcR hpR hoR
      go_wp2_with fail
      go_ret
      exact ⟨PR, cR, R, rfl, HCR.out, HPR.out, fun h b off sp e => ⟨Nat.le_trans HW2.out.size (HOR.out h b off sp e).1, (HOR.out h b off sp e).2⟩, HC.out.nf, HX.out, upB HW2.out HG.out.1, HI.out⟩
end Go.Proofs.Ytmdkhnndfhcfdaa.Wk
