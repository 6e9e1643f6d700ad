/- The intersection. Conditions: the slices read as intervals; at most 1000 each. -/
import Derived.Test.YtmdkhnndfhcfdaaMtm
import Derived.BigRegion
set_option linter.unusedSimpArgs false
set_option linter.unusedVariables false
namespace Go.Proofs.Ytmdkhnndfhcfdaa.Wk
open Go.RowKit
open Go.Proofs.Ytmdkhnndfhcfdaa.Mt
/-- what is left of a list behind i elements, wherever its address is said to be once nothing is left -/
def Dp (wr : World) (B : Nat) (A : Option Addr) (n : Nat) (l : List Iv) (i : Nat) : Prop := n = l.length - i ∧ (0 < n → ∃ b off, A = some ⟨b, off, none⟩ ∧ b < B ∧ ∀ k, i + k < l.length → wr.cell? ⟨b, off + k * 2, none⟩ = some (.int .i64 (vat l (i + k)).1) ∧ wr.cell? ⟨b, off + k * 2 + 1, none⟩ = some (.int .i64 (vat l (i + k)).2))
theorem Dp.start {wr : World} {B : Nat} {A : Option Addr} {n : Nat} {l : List Iv} (h : Rp wr B A n l) : Dp wr B A n l 0 := by
  refine ⟨by rw [h.1]; rfl, fun h0 => ?_⟩
  obtain ⟨b, off, e, hb, hc⟩ := h.2.2.1 h0
  exact ⟨b, off, e, hb, fun k hk => by rw [Nat.zero_add]; exact hc k (by rw [h.1] at hk; omega)⟩
theorem Dp.below {wr w' : World} {B : Nat} {A : Option Addr} {n i : Nat} {l : List Iv} (h : Dp wr B A n l i) (hb : Below B wr w') : Dp w' B A n l i := by
  refine ⟨h.1, fun h0 => ?_⟩
  obtain ⟨b, off, e, hlt, hc⟩ := h.2 h0
  exact ⟨b, off, e, hlt, fun k hk => ⟨(hb.cell (p := ⟨b, _, none⟩) hlt).trans (hc k hk).1, (hb.cell (p := ⟨b, _, none⟩) hlt).trans (hc k hk).2⟩⟩
theorem Dp.next {wr : World} {B b off n i : Nat} {l : List Iv} (h : Dp wr B (some ⟨b, off, none⟩) n l i) (h0 : 0 < n) : Dp wr B (some ⟨b, off + 2, none⟩) (n - 1) l (i + 1) := by
  refine ⟨by have := h.1; omega, fun h1 => ?_⟩
  obtain ⟨b', off', e, hlt, hc⟩ := h.2 h0
  injection e with e
  injection e with e1 e2
  subst e1 e2
  refine ⟨b, off + 2, rfl, hlt, fun k hk => ?_⟩
  have := hc (k + 1) (by omega)
  rw [show i + (k + 1) = i + 1 + k by omega, show off + (k + 1) * 2 = off + 2 + k * 2 by omega] at this
  exact this
theorem Dp.gone {wr : World} {B n i : Nat} {A A' : Option Addr} {l : List Iv} (h : Dp wr B A n l i) (h1 : n = 1) : Dp wr B A' 0 l (i + 1) := ⟨by have := h.1; omega, fun h => by omega⟩
theorem Dp.step {wr : World} {B b off n i ca : Nat} {l : List Iv} (h : Dp wr B (some ⟨b, off, none⟩) n l i) (h0 : 0 < n) (hc : n ≤ ca) : Dp wr B (if ca = 1 then some ⟨b, off, none⟩ else some ⟨b, off + 2, none⟩) (n - 1) l (i + 1) := by
  by_cases h1 : ca = 1
  · have e : n = 1 := by omega
    subst e
    exact h.gone rfl
  · rw [if_neg h1]
    exact h.next h0
theorem Dp.head {wr : World} {B n i : Nat} {A : Option Addr} {l : List Iv} (h : Dp wr B A n l i) (h0 : 0 < n) : i < l.length ∧ ∃ b off, A = some ⟨b, off, none⟩ ∧ b < B ∧ wr.cell? ⟨b, off, none⟩ = some (.int .i64 (vat l i).1) ∧ wr.cell? ⟨b, off + 1, none⟩ = some (.int .i64 (vat l i).2) := by
  have hi : i < l.length := by have := h.1; omega
  obtain ⟨b, off, e, hlt, hc⟩ := h.2 h0
  have := hc 0 (by omega)
  rw [Nat.add_zero] at this
  exact ⟨hi, b, off, e, hlt, this⟩
theorem Gr.appW {w W w1 : World} {v v' : Value} {s : List Iv} {x y : Int} (h : Gr w W v s) (ho : w1.ownsRow w.heap.size 25 2 v' (s.length + 1) (fl s ++ [Value.int .i64 x, Value.int .i64 y])) (hg : W.grownBy w1 v.ownBlock) : Gr w w1 v' (s ++ [(x, y)]) := by
  refine ⟨h.1.grown hg h.1.size (fun k hk => (h.2.lt k hk).1), ?_⟩
  rw [List.length_append, fl_app]
  exact ho
theorem Gr.out {w wr : World} {v : Value} {R : List Iv} (h : Gr w wr v R) (hl : R.length ≤ 2000) (hf : Nf R) : ∃ P cp, v = .slice P R.length cp ∧ R.length ≤ cp ∧ Rp wr wr.heap.size P R.length R ∧ (0 < R.length → ∀ b off sp, P = some ⟨b, off, sp⟩ → w.heap.size ≤ b ∧ ∃ cur, wr.heap[b]? = some (.cells cur 25 (0, 0))) := by
  have hin : ∀ i, In64 (vat R i).1 ∧ In64 (vat R i).2 := by
    intro i
    rcases Nat.lt_or_ge i R.length with hi | hi
    · have := hf.ok _ (vat_mem hi)
      unfold Ok at this
      unfold In64
      omega
    · have : vat R i = (0, 0) := by simp [vat, hi]
      rw [this]
      unfold In64
      omega
  rcases Nat.eq_zero_or_pos R.length with h0 | h0
  · rcases h.2.2 with ⟨e, _⟩ | ⟨g, cap, cur, e, _, _, hc, _⟩
    · exact ⟨none, 0, by rw [h0]; exact e, by omega, ⟨rfl, by omega, fun h => by omega, hin⟩, fun h => by omega⟩
    · exact ⟨_, cap, e, hc, ⟨rfl, by omega, fun h => by omega, hin⟩, fun h => by omega⟩
  · obtain ⟨g, cap, e, hc, hb, hq⟩ := Qb.own h.2 h0
    refine ⟨_, cap, e, hc, ⟨rfl, by omega, fun _ => ⟨g, 0, rfl, hq.lt, fun i hi => ?_⟩, hin⟩, fun _ b off sp e => ?_⟩
    · rw [Nat.zero_add]
      exact hq.cell hi
    · injection e with e
      injection e with e1
      subst e1
      exact ⟨hb, hq.blk⟩
set_option maxHeartbeats 4000000 in
set_option maxRecDepth 100000 in
theorem meet18 (A B : Option Addr) (n m c c' : Nat) (la lb : List Iv) (w : World) (h : Rp w w.heap.size A n la) (k : Rp w w.heap.size B m lb) (hn : n ≤ 1000) (hm : m ≤ 1000) : Calls Try.prog 18 #[.slice A n c, .slice B m c'] w (NfR w (fun t => Hs la t ∧ Hs lb t) (n + m)) := by
  have HA := Lib.hid h
  have HK := Lib.hid k
  clear h k
  obtain ⟨i0, hi0, hz0, hs0, hb0'⟩ := info_parts iv_info
  go_enter Try.func18, Try.ntmps18
  go_wp2_with fail
  refine (normal13 A n c la _ HA.out hn).mono ?_
  rintro e w1 ⟨A1, c1, RA, rfl, ha1, ha2, _, ha4, ha5, ha6, ha7⟩
  have HK1 := Lib.hid (HK.out.up ha6)
  have HCA := Lib.hid ha1
  have HRA := Lib.hid ha2
  have HNA := Lib.hid ha4
  have HSA := Lib.hid ha5
  have HB1 := Lib.hid ha6
  have HLA := Lib.hid ha7
  clear ha1 ha2 ha4 ha5 ha6 ha7 HK HA
  go_wp2_with fail
  refine (normal13 B m c' lb _ HK1.out hm).mono ?_
  rintro e w2 ⟨A2, c2, RB, rfl, ha1, ha2, _, ha4, ha5, ha6, ha7⟩
  have HCB := Lib.hid ha1
  have HRB := Lib.hid ha2
  have HNB := Lib.hid ha4
  have HSB := Lib.hid ha5
  have HB2 := Lib.hid (upB HB1.out ha6)
  have HRA2 := Lib.hid (HRA.out.up ha6)
  have HLB := Lib.hid ha7
  clear ha1 ha2 ha4 ha5 ha6 ha7 HB1 HK1 HRA
  have HDA := Lib.hid (Dp.start HRA2.out)
  have HDB := Lib.hid (Dp.start HRB.out)
  have HG0 : Hid (Gr w2 w2 (.slice none 0 0) []) := Lib.hid ⟨Below.refl _ _, World.ownsRow_nil _ _ _ _⟩
  have HM0 := Lib.hid (Mt.start RA RB)
  have hn1 := HRA2.out.2.1
  have hn2 := HRB.out.2.1
  go_wp2_with fail
  go_loopw [0, 1, 5] (fun av bv v wr => ∃ (i j p q ca cb : Nat) (P Q : Option Addr) (R : List Iv), av = .slice P p ca ∧ bv = .slice Q q cb ∧ p ≤ ca ∧ q ≤ cb ∧ i + p = RA.length ∧ j + q = RB.length ∧ R.length ≤ i + j ∧ Hid (Dp w2 w2.heap.size P p RA i) ∧ Hid (Dp w2 w2.heap.size Q q RB j) ∧ Hid (Gr w2 wr v R) ∧ Hid (Mt RA RB i j R)) (fun av bv _ _ => lenv av + lenv bv)
  case atStart => exact ⟨0, 0, RA.length, RB.length, c1, c2, A1, A2, [], rfl, rfl, HCA.out, HCB.out, by omega, by omega, by simp, HDA, HDB, HG0, HM0⟩
  case round =>
    obtain ⟨i, j, p, q, ca, cb, P, Q, R, rfl, rfl, hpa, hqb, hip, hjq, hRl, HDP, HDQ, HG, HM⟩ := hrel
    by_cases hp : 0 < p
    · have hpI : (0 : Int) < (p : Int) := by omega
      by_cases hq : 0 < q
      · have hqI : (0 : Int) < (q : Int) := by omega
        obtain ⟨hi, b1', o1, rfl, hb1, d1, d2⟩ := HDP.out.head hp
        obtain ⟨hj, b2', o2, rfl, hb2, d3, d4⟩ := HDQ.out.head hq
        have hbs := HG.out.1.size
        obtain ⟨⟨x1, y1⟩, hv1⟩ : ∃ v, vat RA i = v := ⟨_, rfl⟩
        obtain ⟨⟨x2, y2⟩, hv2⟩ : ∃ v, vat RB j = v := ⟨_, rfl⟩
        have HV1 := Lib.hid hv1
        have HV2 := Lib.hid hv2
        rw [hv1] at d1 d2
        rw [hv2] at d3 d4
        simp only at d1 d2 d3 d4
        clear hv1 hv2
        have D1 := Lib.hid d1
        have D2 := Lib.hid d2
        have D3 := Lib.hid d3
        have D4 := Lib.hid d4
        replace d1 := (HG.out.1.cell (p := ⟨b1', _, none⟩) hb1).trans d1
        replace d2 := (HG.out.1.cell (p := ⟨b1', _, none⟩) hb1).trans d2
        replace d3 := (HG.out.1.cell (p := ⟨b2', _, none⟩) hb2).trans d3
        replace d4 := (HG.out.1.cell (p := ⟨b2', _, none⟩) hb2).trans d4
        have hb1w : b1' < wr.heap.size := by omega
        have hb2w : b2' < wr.heap.size := by omega
        obtain ⟨xm, hxm⟩ : ∃ v, max x1 x2 = v := ⟨_, rfl⟩
        obtain ⟨ym, hym⟩ : ∃ v, min y1 y2 = v := ⟨_, rfl⟩
        have HXM := Lib.hid hxm
        have HYM := Lib.hid hym
        have hlr : R.length ≤ 3000 := by have := HLA.out; have := HLB.out; omega
        have C4 : Hid (R.length + 1 ≤ maxLen) := Lib.hid (by unfold maxLen; omega)
        have C5 : Hid ((R.length + 1) * 16 ≤ 140737488355328) := Lib.hid (by omega)
        have HOW := Lib.hid HG.out.2
        by_cases hxy : xm < ym
        · as_aux_lemma =>
            go_wp2_with (first | (go_region) | (go_loud (at_builtin; refine wpList_append_own _ rfl _ _ 22 rfl w2.heap.size 25 i0 (.agg #[.int .i64 0, .int .i64 0]) 2 16 Try.underlying22 hi0 hz0 hs0 hb0' rfl (by omega) _ _ _ rfl ((HOW.out.alloc _).alloc _).drew ⟨_, 0, none⟩ 1 1 [.int .i64 xm, .int .i64 ym] rfl rfl (fun j u hu => new_two (wr.alloc (.cells #[.int .i64 xm, .int .i64 ym] 25)) (.int .i64 xm) (.int .i64 ym) 25 _ (by simp) j u hu) (two_one xm ym) C4.out C5.out (by simp; omega) ?_)) | fail)
            intro v' w9 hown hgrow _
            have HG9 := Lib.hid (Gr.appW (W := ((wr.alloc (.cells #[.int .i64 xm, .int .i64 ym] 25)).alloc (.cells #[.int .i64 xm, .int .i64 ym] 25)).drew) ⟨((HG.out.1.alloc HG.out.1.size _).alloc (by have := HG.out.1.size; simp; omega) _).drew, ((HOW.out.alloc _).alloc _).drew⟩ hown hgrow)
            clear hown hgrow d1 d2 d3 d4 HOW hb1w hb2w
            have d2 := (HG9.out.1.cell (p := ⟨b1', _, none⟩) hb1).trans D2.out
            have d4 := (HG9.out.1.cell (p := ⟨b2', _, none⟩) hb2).trans D4.out
            have hs9 := HG9.out.1.size
            have hb1w : b1' < w9.heap.size := by omega
            have hb2w : b2' < w9.heap.size := by omega
            have hp1 : (1 : Int) ≤ (p : Int) := by omega
            have hq1 : (1 : Int) ≤ (q : Int) := by omega
            by_cases hy : y1 < y2
            · as_aux_lemma =>
                have hyt : decide (y1 < y2) = true := decide_eq_true hy
                have HRZ : Hid ((R ++ [(xm, ym)]).length ≤ i + 1 + j) := Lib.hid (by rw [List.length_append]; simp; omega)
                have HMX : Hid (Mt RA RB (i + 1) j (R ++ [(xm, ym)])) := Lib.hid (by
                  have := HM.out.left HNA.out HNB.out hi hj (x := xm) (y := ym) (by rw [HV1.out, HV2.out]; exact HXM.out.symm) (by rw [HV1.out, HV2.out]; exact HYM.out.symm) (by rw [HV1.out, HV2.out]; exact hy)
                  rwa [if_pos hxy] at this)
                go_wp2_with (first | (go_quiet (fail)) | fail)
                have HGX := Lib.hid (HG9.out.below (below_drewN (Below.refl _ _) nq))
                exact ⟨⟨i + 1, j, p - 1, q, ca - 1, cb, _, _, (R ++ [(xm, ym)]), rfl, rfl, by omega, hqb, by omega, hjq, HRZ.out, Lib.hid (HDP.out.step hp hpa), HDQ, HGX, HMX⟩, by simp [lenv]; omega⟩
            · as_aux_lemma =>
                have hyt : decide (y1 < y2) = false := decide_eq_false hy
                have HRZ : Hid ((R ++ [(xm, ym)]).length ≤ i + (j + 1)) := Lib.hid (by rw [List.length_append]; simp; omega)
                have HMX : Hid (Mt RA RB i (j + 1) (R ++ [(xm, ym)])) := Lib.hid (by
                  have := HM.out.right HNA.out HNB.out hi hj (x := xm) (y := ym) (by rw [HV1.out, HV2.out]; exact HXM.out.symm) (by rw [HV1.out, HV2.out]; exact HYM.out.symm) (by rw [HV1.out, HV2.out]; exact hy)
                  rwa [if_pos hxy] at this)
                go_wp2_with (first | (go_quiet (fail)) | fail)
                have HGX := Lib.hid (HG9.out.below (below_drewN (Below.refl _ _) nq))
                exact ⟨⟨i, j + 1, p, q - 1, ca, cb - 1, _, _, (R ++ [(xm, ym)]), rfl, rfl, hpa, by omega, hip, by omega, HRZ.out, HDP, Lib.hid (HDQ.out.step hq hqb), HGX, HMX⟩, by simp [lenv]; omega⟩
        · as_aux_lemma =>
            have hxyt : decide (xm < ym) = false := decide_eq_false hxy
            have HG9 : Hid (Gr w2 (wr.alloc (.cells #[.int .i64 xm, .int .i64 ym] 25)) _ R) := Lib.hid (HG.out.below ((Below.refl _ _).alloc (Nat.le_refl _) _))
            have hp1 : (1 : Int) ≤ (p : Int) := by omega
            have hq1 : (1 : Int) ≤ (q : Int) := by omega
            by_cases hy : y1 < y2
            · as_aux_lemma =>
                have hyt : decide (y1 < y2) = true := decide_eq_true hy
                have HMX : Hid (Mt RA RB (i + 1) j R) := Lib.hid (by
                  have := HM.out.left HNA.out HNB.out hi hj (x := xm) (y := ym) (by rw [HV1.out, HV2.out]; exact HXM.out.symm) (by rw [HV1.out, HV2.out]; exact HYM.out.symm) (by rw [HV1.out, HV2.out]; exact hy)
                  rwa [if_neg hxy] at this)
                go_wp2_with (first | (go_region) | (go_quiet (fail)) | fail)
                have HGX := Lib.hid (HG9.out.below (Below.refl _ _).drew.drew)
                exact ⟨⟨i + 1, j, p - 1, q, ca - 1, cb, _, _, R, rfl, rfl, by omega, hqb, by omega, hjq, by omega, Lib.hid (HDP.out.step hp hpa), HDQ, HGX, HMX⟩, by simp [lenv]; omega⟩
            · as_aux_lemma =>
                have hyt : decide (y1 < y2) = false := decide_eq_false hy
                have HMX : Hid (Mt RA RB i (j + 1) R) := Lib.hid (by
                  have := HM.out.right HNA.out HNB.out hi hj (x := xm) (y := ym) (by rw [HV1.out, HV2.out]; exact HXM.out.symm) (by rw [HV1.out, HV2.out]; exact HYM.out.symm) (by rw [HV1.out, HV2.out]; exact hy)
                  rwa [if_neg hxy] at this)
                go_wp2_with (first | (go_region) | (go_quiet (fail)) | fail)
                have HGX := Lib.hid (HG9.out.below (Below.refl _ _).drew.drew)
                exact ⟨⟨i, j + 1, p, q - 1, ca, cb - 1, _, _, R, rfl, rfl, hpa, by omega, hip, by omega, by omega, HDP, Lib.hid (HDQ.out.step hq hqb), HGX, HMX⟩, by simp [lenv]; omega⟩
      · have hq0 : q = 0 := by omega
        subst hq0
        have hpI' : decide ((0 : Int) < (p : Int)) = true := decide_eq_true hpI
        have hla := HLA.out
        have hlb := HLB.out
        obtain ⟨PR, cR, rfl, hcR, hpR, hoR⟩ := HG.out.out (by omega : R.length ≤ 2000) HM.out.nf
        have HCR := Lib.hid hcR
        have HPR := Lib.hid hpR
        have HOR := Lib.hid hoR
        clear hcR hpR hoR
        have HX := Lib.hid (HM.out.done (Or.inr (by omega)))
        go_wp2_with fail
        go_ret
        exact ⟨PR, cR, R, rfl, HCR.out, HPR.out, fun h b off sp e => ⟨Nat.le_trans HB2.out.size (HOR.out h b off sp e).1, (HOR.out h b off sp e).2⟩, HM.out.nf, fun t => (HX.out t).trans (by rw [HSA.out t, HSB.out t]), upB HB2.out HG.out.1, by omega⟩
    · have hp0 : p = 0 := by omega
      subst hp0
      have hla := HLA.out
      have hlb := HLB.out
      obtain ⟨PR, cR, rfl, hcR, hpR, hoR⟩ := HG.out.out (by omega : R.length ≤ 2000) HM.out.nf
      have HCR := Lib.hid hcR
      have HPR := Lib.hid hpR
      have HOR := Lib.hid hoR
      clear hcR hpR hoR
      have HX := Lib.hid (HM.out.done (Or.inl (by omega)))
      go_wp2_with fail
      go_ret
      exact ⟨PR, cR, R, rfl, HCR.out, HPR.out, fun h b off sp e => ⟨Nat.le_trans HB2.out.size (HOR.out h b off sp e).1, (HOR.out h b off sp e).2⟩, HM.out.nf, fun t => (HX.out t).trans (by rw [HSA.out t, HSB.out t]), upB HB2.out HG.out.1, by omega⟩
end Go.Proofs.Ytmdkhnndfhcfdaa.Wk
