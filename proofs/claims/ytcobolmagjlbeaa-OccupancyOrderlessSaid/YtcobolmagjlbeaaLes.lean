/- The walk of OccupancyOrderless. Conditions: the slices read as lists; no time is greater than an int. -/
import Derived.Test.YtcobolmagjlbeaaPmath
import Derived.Test.YtcobolmagjlbeaaRot
import Derived.Deep.RegionHeld3
import Derived.Deep.RegionLaw
set_option linter.unusedSimpArgs false
set_option linter.unusedVariables false
namespace Go.Proofs.Ytcobolmagjlbeaa.Wk
open Go.RowKit
open Go.Proofs.Ytcobolmagjlbeaa.Mt
open Go.Proofs.Ytcobolmagjlbeaa.Rot
/-- a part of a slice that came in, as the source of an append -/
theorem src_cells {w w2 : World} {B : Nat} {A ao : Option Addr} {n s m : Nat} {zs : List Int} (h : Ri w B A n zs) (hb : Below B w w2) (hs : s + m ≤ n) (ha : ∀ b off, A = some ⟨b, off, none⟩ → 0 < m → ao = some ⟨b, off + s, none⟩) :
    ∀ ad, ao = some ad → ∀ j u, (ints ((zs.drop s).take m))[j]? = some u → w2.cell? (ad.add j) = some u := by
  intro ad had j u hu
  unfold ints at hu
  have hj : j < m := by
    rcases Nat.lt_or_ge j m with h1 | h1
    · exact h1
    · rw [List.getElem?_eq_none (by simp; omega)] at hu; cases hu
  obtain ⟨b, off, e, hlt, hc⟩ := h.2.2 (by omega)
  have e2 := ha b off e (by omega)
  rw [e2] at had
  injection had with had
  subst had
  have h3 := (hb.cell (p := ⟨b, off + (s + j), none⟩) hlt).trans (hc (s + j) (by omega))
  have hz : s + j < zs.length := by rw [h.1]; omega
  rw [List.getElem?_map, List.getElem?_take, if_pos hj, List.getElem?_drop, List.getElem?_eq_getElem hz] at hu
  simp at hu
  subst hu
  have e4 : (⟨b, off + s, none⟩ : Addr).add j = ⟨b, off + (s + j), none⟩ := by
    unfold Addr.add
    by_cases hj0 : j = 0
    · subst hj0; simp
    · simp [hj0]; omega
  rw [e4, h3]
  simp [at_, List.getD, List.getElem?_eq_getElem hz]
theorem tk_all {zs : List Int} {n t : Nat} (hl : zs.length = n) : (zs.drop t).take (n - t) = zs.drop t := List.take_of_length_le (by simp; omega)
theorem turn_map2 {zs : List Int} {n : Nat} (t : Nat) (hl : zs.length = n) : ints ((zs.drop t).take (n - t)) ++ ints ((zs.drop 0).take t) = ints (zs.drop t ++ zs.take t) := by
  unfold ints
  rw [List.map_append, List.drop_zero, tk_all hl]
theorem ints_one (l : List Int) : ∀ u ∈ ints l, u.oneCell' = true := by
  intro u hu
  unfold ints at hu
  rw [List.mem_map] at hu
  obtain ⟨x, _, rfl⟩ := hu
  rfl
theorem ri_owned {w : World} {base g n cap : Nat} {zs : List Int} (h : w.ownsRow base 3 1 (.slice (some ⟨g, 0, none⟩) n cap) n (ints zs)) (hl : n ≤ 9223372036854775807) : Ri w w.heap.size (some ⟨g, 0, none⟩) n zs := by
  have hlen : zs.length = n := by have := h.1; simpa [ints] using this
  refine ⟨hlen, hl, fun hn => ⟨g, 0, rfl, (h.lt g rfl).2, fun i hi => ?_⟩⟩
  rw [Nat.zero_add, h.cellAt i (by omega)]
  exact ints_at zs i (by omega)
set_option maxHeartbeats 16000000 in
set_option maxRecDepth 100000 in
theorem less_law (p : Int) (A1 A2 A3 : Option Addr) (n1 n2 n3 c1 c2 c3 : Nat) (up dn pt : List Int) (A : Option Addr) (m c : Nat) (ts : List Int) (t r : Int) (w : World) (h1 : Ri w w.heap.size A1 n1 up) (h2 : Ri w w.heap.size A2 n2 dn) (h3 : Ri w w.heap.size A3 n3 pt) (ht : Ri w w.heap.size A m ts) (hnc : m ≤ c) (hnil : A = none → c = 0) (hsp : 0 < c → ∀ b o sp, A = some ⟨b, o, sp⟩ → sp = none) (hR0 : ∀ i, at_ ts i ≤ 9223372036854775807) :
    Calls Try.prog 9 #[.agg #[.int .i64 p, .slice A1 n1 c1, .slice A2 n2 c2, .slice A3 n3 c3], .slice A m c, .int .i64 t, .int .i64 r] w fun e w' => e = .returned (.bool true) ∧ Below w.heap.size w w' := by
  have HL := Lib.hid ht.1
  have HR := Lib.hid hR0
  have hR1 := hR0
  clear hR0
  have HK := Lib.hid (Kp.start (p := p) (c1 := c1) (c2 := c2) (c3 := c3) h1 h2 h3 ht)
  obtain ⟨ch, hch⟩ : ∃ ch, chS ⟨p, up, dn, pt⟩ = ch := ⟨_, rfl⟩
  have HC := Lib.hid hch
  have HP : Hid (ch = 0 → 1 ≤ p ∧ p ≤ 86400) := Lib.hid (fun h => (ch_eq (s := ⟨p, up, dn, pt⟩) (hch.trans h)).2.2.2)
  clear h1 h2 h3 ht hch
  skip
  obtain ⟨i0, hi0, hz0, hs0, hb0'⟩ := info_parts info3
  go_enter Try.func9, Try.ntmps9
  go_wp2_with fail
  refine (great_any p A1 A2 A3 n1 n2 n3 c1 c2 c3 _).mono ?_
  rintro e w1 ⟨rfl, hb⟩
  replace HK := Lib.hid (HK.out.next hb)
  clear hb
  rcases (show decide (20 < n1 ∨ 20 < n2 ∨ 20 < n3) = true ∨ decide (20 < n1 ∨ 20 < n2 ∨ 20 < n3) = false by cases decide (20 < n1 ∨ 20 < n2 ∨ 20 < n3) <;> simp) with hg | hg
  · rw [hg]
    go_wp2_with fail
    refine (awake_any _).mono ?_
    rintro e wz ⟨rfl, hb⟩
    replace HK := Lib.hid (HK.out.next hb)
    go_wp2_with fail
    go_ret
    exact ⟨rfl, HK.out.bel⟩
  · rw [hg]
    clear hg
    by_cases hl : 200 < m
    · have hlI : (200 : Int) < (m : Int) := by omega
      go_wp2_with fail
      refine (awake_any _).mono ?_
      rintro e wz ⟨rfl, hb⟩
      replace HK := Lib.hid (HK.out.next hb)
      go_wp2_with fail
      go_ret
      exact ⟨rfl, HK.out.bel⟩
    · have hlI : ¬ (200 : Int) < (m : Int) := by omega
      obtain ⟨c0, c1', c2', c3'⟩ := HK.out.bx.cells4
      go_wp2_with fail
      clear c0 c1' c2' c3'
      refine (check_any p A1 A2 A3 n1 n2 n3 c1 c2 c3 up dn pt _ HK.out.r1 HK.out.r2 HK.out.r3).mono ?_
      rintro e w2 ⟨rfl, hb⟩
      replace HK := Lib.hid (HK.out.next hb)
      clear hb
      rw [HC.out]
      by_cases hc : ch = 0
      · subst hc
        have hpp := HP.out rfl
        clear HP
        by_cases q0 : r < 0
        · go_wp2_with fail
          refine (awake_any _).mono ?_
          rintro e wz ⟨rfl, hb⟩
          replace HK := Lib.hid (HK.out.next hb)
          go_wp2_with fail
          go_ret
          exact ⟨rfl, HK.out.bel⟩
        · have q0' : decide (r < 0) = false := decide_eq_false q0
          by_cases q1 : (m : Int) < r
          · go_wp2_with fail
            refine (awake_any _).mono ?_
            rintro e wz ⟨rfl, hb⟩
            replace HK := Lib.hid (HK.out.next hb)
            go_wp2_with fail
            go_ret
            exact ⟨rfl, HK.out.bel⟩
          · have q1' : decide ((m : Int) < r) = false := decide_eq_false q1
            by_cases q2 : t < 0
            · go_wp2_with fail
              refine (awake_any _).mono ?_
              rintro e wz ⟨rfl, hb⟩
              replace HK := Lib.hid (HK.out.next hb)
              go_wp2_with fail
              go_ret
              exact ⟨rfl, HK.out.bel⟩
            · have q2' : decide (t < 0) = false := decide_eq_false q2
              by_cases q3 : 68719476736 ≤ t
              · go_wp2_with fail
                refine (awake_any _).mono ?_
                rintro e wz ⟨rfl, hb⟩
                replace HK := Lib.hid (HK.out.next hb)
                go_wp2_with fail
                go_ret
                exact ⟨rfl, HK.out.bel⟩
              · have q3' : decide (68719476736 ≤ t) = false := decide_eq_false q3
                obtain ⟨r, rfl⟩ : ∃ k : Nat, r = (k : Int) := ⟨r.toNat, by omega⟩
                have hrm : r ≤ m := by omega
                have hrI : (r : Int) ≤ (m : Int) := by omega
                have hrI0 : (0 : Int) ≤ (r : Int) := by omega
                have htt : 0 ≤ t ∧ t < 68719476736 := by omega
                have hbb := begin_in hpp htt
                have hdv := div_in hpp htt
                have hbt : 0 ≤ t := htt.1
                have HAT0 := Lib.hid (a_bf (s := ⟨p, up, dn, pt⟩) (ts := ts) HC.out hbt)
                obtain ⟨b, hbe⟩ : ∃ b, t / p * p = b := ⟨_, rfl⟩
                have E3 : IntKind.i64.wrap (t / p * p) = b := by rw [← hbe]; exact IntWalk.i64_in _ (by omega)
                have E1 := IntWalk.i64_quo t p (by omega)
                rw [hbe] at hbb
                have HCT : Hid (ctS ⟨p, up, dn, pt⟩ ts b 7 = cn p b 7 ts m) := Lib.hid (by have := ct7 (s := ⟨p, up, dn, pt⟩) (ts := ts) HC.out hbb; rw [HL.out] at this; exact this)
                obtain ⟨v, hv⟩ : ∃ v, aS ⟨p, up, dn, pt⟩ ts t = v := ⟨_, rfl⟩
                have HAT := Lib.hid hv
                have HBT : Hid (aS ⟨p, up, dn, pt⟩ (bf b ts m) t = v) := Lib.hid (by have := HAT0.out; simp only at this; rw [hbe, HL.out, hv] at this; exact this)
                clear hv hbe HAT0
                have htc : (r : Int) ≤ (c : Int) := by omega
                have hp0 : ¬ p = 0 := by omega
                have hp1 : (p == 0) = false := by simp [hp0]
                go_wp2_with fail
                rcases A with _ | ad0
                · have e1 : 0 = c := (hnil rfl).symm
                  subst e1
                  have e2 : 0 = m := by omega
                  subst e2
                  have e3 : 0 = r := by omega
                  subst e3
                  have OWN : Hid ((w2.drew.alloc (.cells #[] 3)).ownsRow w2.heap.size 3 1 (.slice (some ⟨w2.heap.size, 0, none⟩) 0 0) 0 []) := Lib.hid (World.ownsRow_lit (e := 3) w2.drew #[] 0 (Nat.le_refl _) (by unfold maxLen; omega) rfl)
                  have HWA := Lib.hid (((Below.refl w2.heap.size w2).drew).alloc (Nat.le_refl _) (.cells #[] 3))
                  have SRC := Lib.hid (src_cells (s := 0) (m := 0 - 0) (ao := (none : Option Addr)) HK.out.rt HWA.out (by omega) (fun b off e h => by omega))
                  have LEN : Hid ((ints ((ts.drop 0).take (0 - 0))).length = 0 * 1) := Lib.hid (by have := HL.out; unfold ints; first | (simp; done) | (simp; omega))
                  have LEN2 : Hid ((ints ((ts.drop 0).take 0)).length = 0 * 1) := Lib.hid (by have := HL.out; unfold ints; first | (simp; done) | (simp; omega))
                  have B1 : Hid (0 + 0 ≤ maxLen) := Lib.hid (by unfold maxLen; omega)
                  have B2 : Hid ((0 + 0) * 8 ≤ 140737488355328) := Lib.hid (by omega)
                  have B3 : Hid (0 + 0 ≤ maxLen) := Lib.hid (by unfold maxLen; omega)
                  have B4 : Hid ((0 + 0) * 8 ≤ 140737488355328) := Lib.hid (by omega)
                  have N1 : Hid ((none : Option Addr) = none → 0 = 0 ∧ 0 = 0) := Lib.hid (fun h => by first | exact ⟨rfl, rfl⟩ | simp at h)
                  have N2 : Hid ((none : Option Addr) = none → 0 = 0 ∧ 0 = 0) := Lib.hid (fun h => by first | exact ⟨rfl, rfl⟩ | simp at h)
                  first | (go_region_law (first
                      | (refine step_append_any rfl (.tmp 51) (.tmp 54) 22 rfl w2.heap.size 3 i0 (.int .i64 0) 1 8 Try.underlying22 hi0 hz0 hs0 hb0' rfl (by omega) w2.heap.size 0 0 [] (by simp [Act.eval, Act.put]) OWN.out ((none : Option Addr)) (0) (0) (ints ((ts.drop 0).take (0 - 0))) (by simp [Act.eval, Act.put]) LEN.out N1.out SRC.out (ints_one _) B1.out B2.out HWA.out.size ?_; intro g1 cap1 wa ho hg; simp only [Nat.zero_add, List.nil_append] at ho; have HO1 := Lib.hid ho; have HW2 := Lib.hid (HWA.out.grown hg HWA.out.size (fun q hq => by injection hq with hq; have := HWA.out.size; omega)); have SRC2 := Lib.hid (src_cells (s := 0) (m := 0) (ao := (none : Option Addr)) HK.out.rt HW2.out (by omega) (fun b off e h => by omega)); clear ho hg)
                      | (refine step_append_any rfl (.tmp 55) (.tmp 58) 22 rfl w2.heap.size 3 i0 (.int .i64 0) 1 8 Try.underlying22 hi0 hz0 hs0 hb0' rfl (by omega) g1 (0) cap1 _ (by simp [Act.eval, Act.put]) HO1.out ((none : Option Addr)) (0) (0) (ints ((ts.drop 0).take 0)) (by simp [Act.eval, Act.put]) LEN2.out N2.out SRC2.out (ints_one _) B3.out B4.out HW2.out.size ?_; intro g2 cap2 w3 ho hg; have HO2 := Lib.hid ho; have HW3 := Lib.hid (HW2.out.grown hg HW2.out.size (fun q hq => by injection hq with hq; have := (HO1.out.lt g1 rfl).1; omega)); clear ho hg))) | fail
                  have hz := turn_map2 0 HL.out
                  have ho2 := HO2.out; rw [hz, show 0 + 0 = 0 by omega] at ho2; have HM := Lib.hid (ri_owned ho2 (by omega)); clear ho2 hz
                  have hkk : 0 + 0 = 0 := by omega
                  try rw [hkk]
                  clear hkk OWN HWA SRC LEN LEN2 B1 B2 B3 B4 N1 N2 HO1 HW2 SRC2 HO2
                  have HSM := Lib.hid (turn_small HR.out 0)
                  have HCM : Hid (ctS ⟨p, up, dn, pt⟩ (ts.drop 0 ++ ts.take 0) b 7 = cn p b 7 ts 0) := Lib.hid (by rw [ct_turn]; exact HCT.out)
                  have HAM : Hid (aS ⟨p, up, dn, pt⟩ (ts.drop 0 ++ ts.take 0) t = v) := Lib.hid (by rw [a_turn]; exact HAT.out)
                  generalize hzz : ts.drop 0 ++ ts.take 0 = zm at HSM HCM HAM HM
                  clear hzz
                  replace HK := Lib.hid (HK.out.next HW3.out)
                  clear HW3
                  obtain ⟨c0, c1', c2', c3'⟩ := HK.out.bx.cells4
                  go_wp2_with fail
                  go_quiet (fail)
                  have HD4 := Lib.hid (below_drewN (Below.refl w3.heap.size w3) nq)
                  replace HK := Lib.hid (HK.out.next HD4.out)
                  replace HM := Lib.hid (HM.out.up HD4.out)
                  clear c0 c1' c2' c3' E1 E3 HD4
                  obtain ⟨w4, hw4⟩ : ∃ w4, w3.drewN nq = w4 := ⟨_, rfl⟩
                  rw [hw4] at HK HM ⊢
                  clear hw4
                  go_wp2_with fail
                  go_loopw [10, 12, 69] (fun l s i wr => ∃ k : Nat, k ≤ 0 ∧ i = .int .i64 k ∧ s = .int .i64 (inn b (b + 7 * p) ts k : Nat) ∧ Hid (Ow w4 wr l (bf b ts k))) (fun _ _ i _ => 0 - (intOf i).toNat)
                  case atStart => exact ⟨0, Nat.zero_le _, rfl, rfl, Lib.hid (Ow.nil _)⟩
                  case round =>
                    obtain ⟨k, hk, rfl, rfl, HO⟩ := hrel
                    by_cases hlt : k < 0
                    · omega
                    · have hltI : ¬ (k : Int) < (0 : Int) := by omega
                      have HS7 : Hid (su (cn p b 7 ts 0) 7 = (inn b (b + 7 * p) ts k : Nat)) := Lib.hid (by have e : k = 0 := by { omega }; rw [e]; exact su_cn hpp.1 0)
                      have HAB : Hid (aS ⟨p, up, dn, pt⟩ (bf b ts k) t = v) := Lib.hid (by have e : k = 0 := by { omega }; rw [e]; exact HBT.out)
                      have HSB := Lib.hid (bf_small HR.out b k)
                      obtain ⟨A4, n4, rfl, hR4⟩ := HO.out.out (by have := bf_len b ts k; omega)
                      have HB4 := Lib.hid hR4
                      clear hR4
                      obtain ⟨zb, hzz⟩ : ∃ zb, bf b ts k = zb := ⟨_, rfl⟩
                      rw [hzz] at HB4 HAB HSB ⊢
                      obtain ⟨q, hq⟩ : ∃ q, zb.length = q := ⟨_, rfl⟩
                      rw [hq] at HB4 ⊢
                      obtain ⟨e, he⟩ : ∃ e, inn b (b + 7 * p) ts k = e := ⟨_, rfl⟩
                      rw [he] at HS7 ⊢
                      clear he
                      replace HK := Lib.hid (HK.out.next HO.out.1)
                      replace HM := Lib.hid (HM.out.up HO.out.1)
                      clear HO
                      clear hzz hq
                      obtain ⟨c0, c1', c2', c3'⟩ := HK.out.bx.cells4
                      go_wp2_with fail
                      clear c0 c1' c2' c3'
                      refine (counts21 p A1 A2 A3 n1 n2 n3 c1 c2 c3 up dn pt _ 0 _ ts b 7 _ HK.out.r1 HK.out.r2 HK.out.r3 HK.out.rt HR.out).mono ?_
                      rintro e5 w5 ⟨⟨A5, k5, c5, rfl, hR5⟩, hb⟩
                      rw [HCT.out] at hR5
                      obtain rfl : 7 = k5 := by rw [← hR5.1, cn_len]
                      have HG := Lib.hid hR5
                      clear hR5
                      replace HM := Lib.hid (HM.out.up hb)
                      replace HB4 := Lib.hid (HB4.out.up hb)
                      replace HK := Lib.hid (HK.out.next hb)
                      clear hb
                      obtain ⟨L, hL⟩ : ∃ L, cn p b 7 ts 0 = L := ⟨_, rfl⟩
                      have HLB := Lib.hid (cn_bound p b 7 ts 0)
                      rw [hL] at HS7 HG HCT HCM HLB
                      clear hL
                      go_wp2_with fail
                      go_loopw [16, 101] (fun s i wr => ∃ j : Nat, j ≤ 7 ∧ i = .int .i64 j ∧ s = .int .i64 (su L j) ∧ Hid (Kp w p A1 A2 A3 n1 n2 n3 c1 c2 c3 up dn pt _ 0 ts wr) ∧ Hid (Ri wr wr.heap.size _ 0 zm) ∧ Hid (Ri wr wr.heap.size A4 q zb) ∧ Hid (Ri wr wr.heap.size A5 7 L)) (fun _ i _ => 7 - (intOf i).toNat)
                      case atStart => exact ⟨0, Nat.zero_le _, rfl, rfl, HK, HM, HB4, HG⟩
                      case round =>
                        clear HK HM HB4 HG
                        obtain ⟨j, hj, rfl, rfl, HK, HM, HB4, HG⟩ := hrel
                        by_cases hlt : j < 7
                        · have hltI : (j : Int) < 7 := by omega
                          have hb1 := su_bound (L := L) (fun i => by have := HLB.out i; omega) j
                          have hb2 := HLB.out j
                          have HN := Lib.hid (su_next L j)
                          obtain ⟨bb5, off5, rfl, _, d1⟩ := HG.out.get hlt
                          obtain ⟨x, hxx⟩ : ∃ x, at_ L j = x := ⟨_, rfl⟩
                          rw [hxx] at d1 hb2 HN
                          obtain ⟨y, hyy⟩ : ∃ y, su L j = y := ⟨_, rfl⟩
                          rw [hyy] at hb1 HN ⊢
                          clear hxx hyy
                          go_wp2_with fail
                          go_roundw
                          case rel => exact ⟨j + 1, by omega, by go_num, by rw [HN.out], HK, HM, HB4, HG⟩
                          case measure => simp [intOf]; omega
                        · have hltI : ¬ (j : Int) < 7 := by omega
                          have HS8 : Hid (su L j = (e : Nat)) := Lib.hid (by have e7 : j = 7 := by { omega }; rw [e7]; exact HS7.out)
                          rw [HS8.out]
                          obtain ⟨c0, c1', c2', c3'⟩ := HK.out.bx.cells4
                          have ee : ((e : Int) == (e : Int)) = true := by simp
                          have ev : (v == v) = true := by simp
                          go_wp2_with fail
                          clear c0 c1' c2' c3'
                          refine (at23 p A1 A2 A3 n1 n2 n3 c1 c2 c3 up dn pt _ 0 _ ts t _ HK.out.r1 HK.out.r2 HK.out.r3 HK.out.rt HR.out).mono ?_
                          rintro e6 w6 ⟨rfl, hb⟩
                          rw [HAT.out]
                          (try replace HM := Lib.hid (HM.out.up hb)); (try replace HB4 := Lib.hid (HB4.out.up hb)); (try replace HG := Lib.hid (HG.out.up hb)); (try replace HG2 := Lib.hid (HG2.out.up hb)); replace HK := Lib.hid (HK.out.next hb); clear hb
                          obtain ⟨c0, c1', c2', c3'⟩ := HK.out.bx.cells4
                          go_wp2_with fail
                          clear c0 c1' c2' c3'
                          refine (at23 p A1 A2 A3 n1 n2 n3 c1 c2 c3 up dn pt _ 0 _ zm t _ HK.out.r1 HK.out.r2 HK.out.r3 HM.out HSM.out).mono ?_
                          rintro e7 w7 ⟨rfl, hb⟩
                          rw [HAM.out]
                          (try replace HM := Lib.hid (HM.out.up hb)); (try replace HB4 := Lib.hid (HB4.out.up hb)); (try replace HG := Lib.hid (HG.out.up hb)); (try replace HG2 := Lib.hid (HG2.out.up hb)); replace HK := Lib.hid (HK.out.next hb); clear hb
                          obtain ⟨c0, c1', c2', c3'⟩ := HK.out.bx.cells4
                          go_wp2_with fail
                          clear c0 c1' c2' c3'
                          refine (counts21 p A1 A2 A3 n1 n2 n3 c1 c2 c3 up dn pt _ 0 _ zm b 7 _ HK.out.r1 HK.out.r2 HK.out.r3 HM.out HSM.out).mono ?_
                          rintro e7 w8 ⟨⟨A7, k7, c7, rfl, hR7⟩, hb⟩
                          rw [HCM.out] at hR7
                          obtain rfl : 7 = k7 := by rw [← hR7.1, HG.out.1]
                          have HG2 := Lib.hid hR7
                          clear hR7
                          replace HM := Lib.hid (HM.out.up hb)
                          replace HB4 := Lib.hid (HB4.out.up hb)
                          replace HG := Lib.hid (HG.out.up hb)
                          replace HK := Lib.hid (HK.out.next hb)
                          clear hb
                          go_wp2_with fail
                          refine (same_any _ _ _ _ _ _ _ HG2.out HG.out).mono ?_
                          rintro e7 w9 ⟨rfl, hb⟩
                          (try replace HM := Lib.hid (HM.out.up hb)); (try replace HB4 := Lib.hid (HB4.out.up hb)); (try replace HG := Lib.hid (HG.out.up hb)); (try replace HG2 := Lib.hid (HG2.out.up hb)); replace HK := Lib.hid (HK.out.next hb); clear hb
                          obtain ⟨c0, c1', c2', c3'⟩ := HK.out.bx.cells4
                          go_wp2_with fail
                          clear c0 c1' c2' c3'
                          refine (at23 p A1 A2 A3 n1 n2 n3 c1 c2 c3 up dn pt A4 q _ zb t _ HK.out.r1 HK.out.r2 HK.out.r3 HB4.out HSB.out).mono ?_
                          rintro e7 w10 ⟨rfl, hb⟩
                          rw [HAB.out]
                          (try replace HM := Lib.hid (HM.out.up hb)); (try replace HB4 := Lib.hid (HB4.out.up hb)); (try replace HG := Lib.hid (HG.out.up hb)); (try replace HG2 := Lib.hid (HG2.out.up hb)); replace HK := Lib.hid (HK.out.next hb); clear hb
                          go_wp2_with fail
                          refine (awake_any _).mono ?_
                          rintro e7 w11 ⟨rfl, hb⟩
                          replace HK := Lib.hid (HK.out.next hb)
                          go_wp2_with fail
                          go_ret
                          exact ⟨rfl, HK.out.bel⟩
                · by_cases hct : c = r
                  · have e1 : r = m := by omega
                    subst e1
                    have e2 : r = c := by omega
                    subst e2
                    have OWN : Hid ((w2.drew.alloc (.cells #[] 3)).ownsRow w2.heap.size 3 1 (.slice (some ⟨w2.heap.size, 0, none⟩) 0 0) 0 []) := Lib.hid (World.ownsRow_lit (e := 3) w2.drew #[] 0 (Nat.le_refl _) (by unfold maxLen; omega) rfl)
                    have HWA := Lib.hid (((Below.refl w2.heap.size w2).drew).alloc (Nat.le_refl _) (.cells #[] 3))
                    have SRC := Lib.hid (src_cells (s := r) (m := r - r) (ao := some ad0) HK.out.rt HWA.out (by omega) (fun b off e h => by omega))
                    have LEN : Hid ((ints ((ts.drop r).take (r - r))).length = 0 * 1) := Lib.hid (by have := HL.out; unfold ints; first | (simp; done) | (simp; omega))
                    have LEN2 : Hid ((ints ((ts.drop 0).take r)).length = r * 1) := Lib.hid (by have := HL.out; unfold ints; first | (simp; done) | (simp; omega))
                    have B1 : Hid (0 + 0 ≤ maxLen) := Lib.hid (by unfold maxLen; omega)
                    have B2 : Hid ((0 + 0) * 8 ≤ 140737488355328) := Lib.hid (by omega)
                    have B3 : Hid (0 + r ≤ maxLen) := Lib.hid (by unfold maxLen; omega)
                    have B4 : Hid ((0 + r) * 8 ≤ 140737488355328) := Lib.hid (by omega)
                    have N1 : Hid (some ad0 = none → 0 = 0 ∧ 0 = 0) := Lib.hid (fun h => by first | exact ⟨rfl, rfl⟩ | simp at h)
                    have N2 : Hid (some ad0 = none → r = 0 ∧ r = 0) := Lib.hid (fun h => by first | exact ⟨rfl, rfl⟩ | simp at h)
                    first | (go_region_law (first
                        | (refine step_append_any rfl (.tmp 51) (.tmp 54) 22 rfl w2.heap.size 3 i0 (.int .i64 0) 1 8 Try.underlying22 hi0 hz0 hs0 hb0' rfl (by omega) w2.heap.size 0 0 [] (by simp [Act.eval, Act.put]) OWN.out (some ad0) (0) (0) (ints ((ts.drop r).take (r - r))) (by simp [Act.eval, Act.put]) LEN.out N1.out SRC.out (ints_one _) B1.out B2.out HWA.out.size ?_; intro g1 cap1 wa ho hg; simp only [Nat.zero_add, List.nil_append] at ho; have HO1 := Lib.hid ho; have HW2 := Lib.hid (HWA.out.grown hg HWA.out.size (fun q hq => by injection hq with hq; have := HWA.out.size; omega)); have SRC2 := Lib.hid (src_cells (s := 0) (m := r) (ao := some ad0) HK.out.rt HW2.out (by omega) (fun b off e h => by rw [e]; simp)); clear ho hg)
                        | (refine step_append_any rfl (.tmp 55) (.tmp 58) 22 rfl w2.heap.size 3 i0 (.int .i64 0) 1 8 Try.underlying22 hi0 hz0 hs0 hb0' rfl (by omega) g1 (0) cap1 _ (by simp [Act.eval, Act.put]) HO1.out (some ad0) (r) (r) (ints ((ts.drop 0).take r)) (by simp [Act.eval, Act.put]) LEN2.out N2.out SRC2.out (ints_one _) B3.out B4.out HW2.out.size ?_; intro g2 cap2 w3 ho hg; have HO2 := Lib.hid ho; have HW3 := Lib.hid (HW2.out.grown hg HW2.out.size (fun q hq => by injection hq with hq; have := (HO1.out.lt g1 rfl).1; omega)); clear ho hg))) | fail
                    have hz := turn_map2 r HL.out
                    have ho2 := HO2.out; rw [hz, show 0 + r = r by omega] at ho2; have HM := Lib.hid (ri_owned ho2 (by omega)); clear ho2 hz
                    have hkk : 0 + r = r := by omega
                    try rw [hkk]
                    clear hkk OWN HWA SRC LEN LEN2 B1 B2 B3 B4 N1 N2 HO1 HW2 SRC2 HO2
                    have HSM := Lib.hid (turn_small HR.out r)
                    have HCM : Hid (ctS ⟨p, up, dn, pt⟩ (ts.drop r ++ ts.take r) b 7 = cn p b 7 ts r) := Lib.hid (by rw [ct_turn]; exact HCT.out)
                    have HAM : Hid (aS ⟨p, up, dn, pt⟩ (ts.drop r ++ ts.take r) t = v) := Lib.hid (by rw [a_turn]; exact HAT.out)
                    generalize hzz : ts.drop r ++ ts.take r = zm at HSM HCM HAM HM
                    clear hzz
                    replace HK := Lib.hid (HK.out.next HW3.out)
                    clear HW3
                    obtain ⟨c0, c1', c2', c3'⟩ := HK.out.bx.cells4
                    go_wp2_with fail
                    go_quiet (fail)
                    have HD4 := Lib.hid (below_drewN (Below.refl w3.heap.size w3) nq)
                    replace HK := Lib.hid (HK.out.next HD4.out)
                    replace HM := Lib.hid (HM.out.up HD4.out)
                    clear c0 c1' c2' c3' E1 E3 HD4
                    obtain ⟨w4, hw4⟩ : ∃ w4, w3.drewN nq = w4 := ⟨_, rfl⟩
                    rw [hw4] at HK HM ⊢
                    clear hw4
                    go_wp2_with fail
                    go_loopw [10, 12, 69] (fun l s i wr => ∃ k : Nat, k ≤ r ∧ i = .int .i64 k ∧ s = .int .i64 (inn b (b + 7 * p) ts k : Nat) ∧ Hid (Ow w4 wr l (bf b ts k))) (fun _ _ i _ => r - (intOf i).toNat)
                    case atStart => exact ⟨0, Nat.zero_le _, rfl, rfl, Lib.hid (Ow.nil _)⟩
                    case round =>
                      obtain ⟨k, hk, rfl, rfl, HO⟩ := hrel
                      by_cases hlt : k < r
                      · have hltI : (k : Int) < (r : Int) := by omega
                        obtain ⟨bb, off, ee, _, d1⟩ := (HK.out.next HO.out.1).rt.get hlt
                        injection ee with ee
                        subst ee
                        have hik := inn_le b (b + 7 * p) ts k
                        by_cases hx : at_ ts k < b
                        · have HD := Lib.hid (bf_yes hx)
                          have HI := Lib.hid (inn_no (e := b + 7 * p) (fun h : b ≤ at_ ts k ∧ at_ ts k < b + 7 * p => by omega))
                          have hlen := bf_len b ts k
                          have hx2 : decide (b ≤ at_ ts k) = false := decide_eq_false (by omega)
                          obtain ⟨x, hxx⟩ : ∃ x, at_ ts k = x := ⟨_, rfl⟩
                          rw [hxx] at d1 hx hx2 HD
                          clear hxx
                          have HOO := Lib.hid HO.out.2
                          have hsz := HO.out.1.size
                          obtain ⟨q, hq⟩ : ∃ q, (bf b ts k).length = q := ⟨_, rfl⟩
                          rw [hq] at hlen HOO
                          have HQ := Lib.hid hq
                          clear hq
                          have C4 : Hid (q + 1 ≤ maxLen) := Lib.hid (by unfold maxLen; omega)
                          have C5 : Hid ((q + 1) * 8 ≤ 140737488355328) := Lib.hid (by omega)
                          go_wp2_with (at_builtin; refine wpList_append_own _ rfl _ _ 22 rfl w4.heap.size 3 i0 (.int .i64 0) 1 8 Try.underlying22 hi0 hz0 hs0 hb0' rfl (by omega) _ _ _ rfl (HOO.out.alloc _) ⟨_, 0, none⟩ 1 1 [.int .i64 x] rfl rfl (new_cell _ _ _ _ (by simp)) (ints_one [x]) C4.out C5.out (by simp; omega) ?_)
                          intro v' w9 hown hgrow _
                          have HO9 := Lib.hid (HO.out.app HQ.out hown hgrow)
                          clear hown hgrow HOO HO
                          go_wp2_with fail
                          go_roundw
                          case rel => exact ⟨k + 1, by omega, by go_num, by rw [HI.out], by rw [HD.out]; exact HO9⟩
                          case measure => simp [intOf]; omega
                        · have hx2 : decide (at_ ts k < b) = false := decide_eq_false hx
                          have hx3 : decide (b ≤ at_ ts k) = true := decide_eq_true (by omega)
                          have HD := Lib.hid (bf_no hx)
                          have c0 := (HK.out.next HO.out.1).bx.cells4.1
                          by_cases hy : at_ ts k < b + 7 * p
                          · have HI := Lib.hid (inn_yes (e := b + 7 * p) (Int.not_lt.1 hx) hy)
                            have hs1 := hR1 k
                            obtain ⟨x, hxx⟩ : ∃ x, at_ ts k = x := ⟨_, rfl⟩
                            rw [hxx] at d1 hx hx2 hx3 hy hs1
                            clear hxx
                            obtain ⟨e, he⟩ : ∃ e, inn b (b + 7 * p) ts k = e := ⟨_, rfl⟩
                            rw [he] at HI hik ⊢
                            clear he
                            go_wp2_with fail
                            go_roundw
                            case rel => exact ⟨k + 1, by omega, by go_num, by rw [HI.out]; go_num, by rw [HD.out]; exact HO⟩
                            case measure => simp [intOf]; omega
                          · have HI := Lib.hid (inn_no (e := b + 7 * p) (fun h : b ≤ at_ ts k ∧ at_ ts k < b + 7 * p => by omega))
                            have hy2 : decide (at_ ts k < b + 7 * p) = false := decide_eq_false hy
                            obtain ⟨x, hxx⟩ : ∃ x, at_ ts k = x := ⟨_, rfl⟩
                            rw [hxx] at d1 hx hx2 hx3 hy hy2
                            clear hxx
                            go_wp2_with fail
                            go_roundw
                            case rel => exact ⟨k + 1, by omega, by go_num, by rw [HI.out], by rw [HD.out]; exact HO⟩
                            case measure => simp [intOf]; omega
                      · have hltI : ¬ (k : Int) < (r : Int) := by omega
                        have HS7 : Hid (su (cn p b 7 ts r) 7 = (inn b (b + 7 * p) ts k : Nat)) := Lib.hid (by have e : k = r := by { omega }; rw [e]; exact su_cn hpp.1 r)
                        have HAB : Hid (aS ⟨p, up, dn, pt⟩ (bf b ts k) t = v) := Lib.hid (by have e : k = r := by { omega }; rw [e]; exact HBT.out)
                        have HSB := Lib.hid (bf_small HR.out b k)
                        obtain ⟨A4, n4, rfl, hR4⟩ := HO.out.out (by have := bf_len b ts k; omega)
                        have HB4 := Lib.hid hR4
                        clear hR4
                        obtain ⟨zb, hzz⟩ : ∃ zb, bf b ts k = zb := ⟨_, rfl⟩
                        rw [hzz] at HB4 HAB HSB ⊢
                        obtain ⟨q, hq⟩ : ∃ q, zb.length = q := ⟨_, rfl⟩
                        rw [hq] at HB4 ⊢
                        obtain ⟨e, he⟩ : ∃ e, inn b (b + 7 * p) ts k = e := ⟨_, rfl⟩
                        rw [he] at HS7 ⊢
                        clear he
                        replace HK := Lib.hid (HK.out.next HO.out.1)
                        replace HM := Lib.hid (HM.out.up HO.out.1)
                        clear HO
                        clear hzz hq
                        obtain ⟨c0, c1', c2', c3'⟩ := HK.out.bx.cells4
                        go_wp2_with fail
                        clear c0 c1' c2' c3'
                        refine (counts21 p A1 A2 A3 n1 n2 n3 c1 c2 c3 up dn pt _ r _ ts b 7 _ HK.out.r1 HK.out.r2 HK.out.r3 HK.out.rt HR.out).mono ?_
                        rintro e5 w5 ⟨⟨A5, k5, c5, rfl, hR5⟩, hb⟩
                        rw [HCT.out] at hR5
                        obtain rfl : 7 = k5 := by rw [← hR5.1, cn_len]
                        have HG := Lib.hid hR5
                        clear hR5
                        replace HM := Lib.hid (HM.out.up hb)
                        replace HB4 := Lib.hid (HB4.out.up hb)
                        replace HK := Lib.hid (HK.out.next hb)
                        clear hb
                        obtain ⟨L, hL⟩ : ∃ L, cn p b 7 ts r = L := ⟨_, rfl⟩
                        have HLB := Lib.hid (cn_bound p b 7 ts r)
                        rw [hL] at HS7 HG HCT HCM HLB
                        clear hL
                        go_wp2_with fail
                        go_loopw [16, 101] (fun s i wr => ∃ j : Nat, j ≤ 7 ∧ i = .int .i64 j ∧ s = .int .i64 (su L j) ∧ Hid (Kp w p A1 A2 A3 n1 n2 n3 c1 c2 c3 up dn pt _ r ts wr) ∧ Hid (Ri wr wr.heap.size _ r zm) ∧ Hid (Ri wr wr.heap.size A4 q zb) ∧ Hid (Ri wr wr.heap.size A5 7 L)) (fun _ i _ => 7 - (intOf i).toNat)
                        case atStart => exact ⟨0, Nat.zero_le _, rfl, rfl, HK, HM, HB4, HG⟩
                        case round =>
                          clear HK HM HB4 HG
                          obtain ⟨j, hj, rfl, rfl, HK, HM, HB4, HG⟩ := hrel
                          by_cases hlt : j < 7
                          · have hltI : (j : Int) < 7 := by omega
                            have hb1 := su_bound (L := L) (fun i => by have := HLB.out i; omega) j
                            have hb2 := HLB.out j
                            have HN := Lib.hid (su_next L j)
                            obtain ⟨bb5, off5, rfl, _, d1⟩ := HG.out.get hlt
                            obtain ⟨x, hxx⟩ : ∃ x, at_ L j = x := ⟨_, rfl⟩
                            rw [hxx] at d1 hb2 HN
                            obtain ⟨y, hyy⟩ : ∃ y, su L j = y := ⟨_, rfl⟩
                            rw [hyy] at hb1 HN ⊢
                            clear hxx hyy
                            go_wp2_with fail
                            go_roundw
                            case rel => exact ⟨j + 1, by omega, by go_num, by rw [HN.out], HK, HM, HB4, HG⟩
                            case measure => simp [intOf]; omega
                          · have hltI : ¬ (j : Int) < 7 := by omega
                            have HS8 : Hid (su L j = (e : Nat)) := Lib.hid (by have e7 : j = 7 := by { omega }; rw [e7]; exact HS7.out)
                            rw [HS8.out]
                            obtain ⟨c0, c1', c2', c3'⟩ := HK.out.bx.cells4
                            have ee : ((e : Int) == (e : Int)) = true := by simp
                            have ev : (v == v) = true := by simp
                            go_wp2_with fail
                            clear c0 c1' c2' c3'
                            refine (at23 p A1 A2 A3 n1 n2 n3 c1 c2 c3 up dn pt _ r _ ts t _ HK.out.r1 HK.out.r2 HK.out.r3 HK.out.rt HR.out).mono ?_
                            rintro e6 w6 ⟨rfl, hb⟩
                            rw [HAT.out]
                            (try replace HM := Lib.hid (HM.out.up hb)); (try replace HB4 := Lib.hid (HB4.out.up hb)); (try replace HG := Lib.hid (HG.out.up hb)); (try replace HG2 := Lib.hid (HG2.out.up hb)); replace HK := Lib.hid (HK.out.next hb); clear hb
                            obtain ⟨c0, c1', c2', c3'⟩ := HK.out.bx.cells4
                            go_wp2_with fail
                            clear c0 c1' c2' c3'
                            refine (at23 p A1 A2 A3 n1 n2 n3 c1 c2 c3 up dn pt _ r _ zm t _ HK.out.r1 HK.out.r2 HK.out.r3 HM.out HSM.out).mono ?_
                            rintro e7 w7 ⟨rfl, hb⟩
                            rw [HAM.out]
                            (try replace HM := Lib.hid (HM.out.up hb)); (try replace HB4 := Lib.hid (HB4.out.up hb)); (try replace HG := Lib.hid (HG.out.up hb)); (try replace HG2 := Lib.hid (HG2.out.up hb)); replace HK := Lib.hid (HK.out.next hb); clear hb
                            obtain ⟨c0, c1', c2', c3'⟩ := HK.out.bx.cells4
                            go_wp2_with fail
                            clear c0 c1' c2' c3'
                            refine (counts21 p A1 A2 A3 n1 n2 n3 c1 c2 c3 up dn pt _ r _ zm b 7 _ HK.out.r1 HK.out.r2 HK.out.r3 HM.out HSM.out).mono ?_
                            rintro e7 w8 ⟨⟨A7, k7, c7, rfl, hR7⟩, hb⟩
                            rw [HCM.out] at hR7
                            obtain rfl : 7 = k7 := by rw [← hR7.1, HG.out.1]
                            have HG2 := Lib.hid hR7
                            clear hR7
                            replace HM := Lib.hid (HM.out.up hb)
                            replace HB4 := Lib.hid (HB4.out.up hb)
                            replace HG := Lib.hid (HG.out.up hb)
                            replace HK := Lib.hid (HK.out.next hb)
                            clear hb
                            go_wp2_with fail
                            refine (same_any _ _ _ _ _ _ _ HG2.out HG.out).mono ?_
                            rintro e7 w9 ⟨rfl, hb⟩
                            (try replace HM := Lib.hid (HM.out.up hb)); (try replace HB4 := Lib.hid (HB4.out.up hb)); (try replace HG := Lib.hid (HG.out.up hb)); (try replace HG2 := Lib.hid (HG2.out.up hb)); replace HK := Lib.hid (HK.out.next hb); clear hb
                            obtain ⟨c0, c1', c2', c3'⟩ := HK.out.bx.cells4
                            go_wp2_with fail
                            clear c0 c1' c2' c3'
                            refine (at23 p A1 A2 A3 n1 n2 n3 c1 c2 c3 up dn pt A4 q _ zb t _ HK.out.r1 HK.out.r2 HK.out.r3 HB4.out HSB.out).mono ?_
                            rintro e7 w10 ⟨rfl, hb⟩
                            rw [HAB.out]
                            (try replace HM := Lib.hid (HM.out.up hb)); (try replace HB4 := Lib.hid (HB4.out.up hb)); (try replace HG := Lib.hid (HG.out.up hb)); (try replace HG2 := Lib.hid (HG2.out.up hb)); replace HK := Lib.hid (HK.out.next hb); clear hb
                            go_wp2_with fail
                            refine (awake_any _).mono ?_
                            rintro e7 w11 ⟨rfl, hb⟩
                            replace HK := Lib.hid (HK.out.next hb)
                            go_wp2_with fail
                            go_ret
                            exact ⟨rfl, HK.out.bel⟩
                  · obtain ⟨bq, oq, sp⟩ := ad0
                    have e0 : none = sp := (hsp (by omega) _ _ _ rfl).symm
                    subst e0
                    have OWN : Hid ((w2.drew.alloc (.cells #[] 3)).ownsRow w2.heap.size 3 1 (.slice (some ⟨w2.heap.size, 0, none⟩) 0 0) 0 []) := Lib.hid (World.ownsRow_lit (e := 3) w2.drew #[] 0 (Nat.le_refl _) (by unfold maxLen; omega) rfl)
                    have HWA := Lib.hid (((Below.refl w2.heap.size w2).drew).alloc (Nat.le_refl _) (.cells #[] 3))
                    have SRC := Lib.hid (src_cells (s := r) (m := m - r) (ao := some (⟨bq, oq + r, none⟩ : Addr)) HK.out.rt HWA.out (by omega) (fun b off e h => by injection e with e; injection e with e1 e2; subst e1 e2; rfl))
                    have LEN : Hid ((ints ((ts.drop r).take (m - r))).length = (m - r) * 1) := Lib.hid (by have := HL.out; unfold ints; first | (simp; done) | (simp; omega))
                    have LEN2 : Hid ((ints ((ts.drop 0).take r)).length = r * 1) := Lib.hid (by have := HL.out; unfold ints; first | (simp; done) | (simp; omega))
                    have B1 : Hid (0 + (m - r) ≤ maxLen) := Lib.hid (by unfold maxLen; omega)
                    have B2 : Hid ((0 + (m - r)) * 8 ≤ 140737488355328) := Lib.hid (by omega)
                    have B3 : Hid ((m - r) + r ≤ maxLen) := Lib.hid (by unfold maxLen; omega)
                    have B4 : Hid (((m - r) + r) * 8 ≤ 140737488355328) := Lib.hid (by omega)
                    have N1 : Hid (some (⟨bq, oq + r, none⟩ : Addr) = none → (m - r) = 0 ∧ (c - r) = 0) := Lib.hid (fun h => by first | exact ⟨rfl, rfl⟩ | simp at h)
                    have N2 : Hid (some (⟨bq, oq, none⟩ : Addr) = none → r = 0 ∧ c = 0) := Lib.hid (fun h => by first | exact ⟨rfl, rfl⟩ | simp at h)
                    first | (go_region_law (first
                        | (refine step_append_any rfl (.tmp 51) (.tmp 54) 22 rfl w2.heap.size 3 i0 (.int .i64 0) 1 8 Try.underlying22 hi0 hz0 hs0 hb0' rfl (by omega) w2.heap.size 0 0 [] (by simp [Act.eval, Act.put]) OWN.out (some (⟨bq, oq + r, none⟩ : Addr)) ((m - r)) ((c - r)) (ints ((ts.drop r).take (m - r))) (by simp [Act.eval, Act.put]) LEN.out N1.out SRC.out (ints_one _) B1.out B2.out HWA.out.size ?_; intro g1 cap1 wa ho hg; simp only [Nat.zero_add, List.nil_append] at ho; have HO1 := Lib.hid ho; have HW2 := Lib.hid (HWA.out.grown hg HWA.out.size (fun q hq => by injection hq with hq; have := HWA.out.size; omega)); have SRC2 := Lib.hid (src_cells (s := 0) (m := r) (ao := some (⟨bq, oq, none⟩ : Addr)) HK.out.rt HW2.out (by omega) (fun b off e h => by injection e with e; injection e with e1 e2; subst e1 e2; simp)); clear ho hg)
                        | (refine step_append_any rfl (.tmp 55) (.tmp 58) 22 rfl w2.heap.size 3 i0 (.int .i64 0) 1 8 Try.underlying22 hi0 hz0 hs0 hb0' rfl (by omega) g1 ((m - r)) cap1 _ (by simp [Act.eval, Act.put]) HO1.out (some (⟨bq, oq, none⟩ : Addr)) (r) (c) (ints ((ts.drop 0).take r)) (by simp [Act.eval, Act.put]) LEN2.out N2.out SRC2.out (ints_one _) B3.out B4.out HW2.out.size ?_; intro g2 cap2 w3 ho hg; have HO2 := Lib.hid ho; have HW3 := Lib.hid (HW2.out.grown hg HW2.out.size (fun q hq => by injection hq with hq; have := (HO1.out.lt g1 rfl).1; omega)); clear ho hg))) | fail
                    have hz := turn_map2 r HL.out
                    have ho2 := HO2.out; rw [hz, show (m - r) + r = m by omega] at ho2; have HM := Lib.hid (ri_owned ho2 (by omega)); clear ho2 hz
                    have hkk : (m - r) + r = m := by omega
                    try rw [hkk]
                    clear hkk OWN HWA SRC LEN LEN2 B1 B2 B3 B4 N1 N2 HO1 HW2 SRC2 HO2
                    have HSM := Lib.hid (turn_small HR.out r)
                    have HCM : Hid (ctS ⟨p, up, dn, pt⟩ (ts.drop r ++ ts.take r) b 7 = cn p b 7 ts m) := Lib.hid (by rw [ct_turn]; exact HCT.out)
                    have HAM : Hid (aS ⟨p, up, dn, pt⟩ (ts.drop r ++ ts.take r) t = v) := Lib.hid (by rw [a_turn]; exact HAT.out)
                    generalize hzz : ts.drop r ++ ts.take r = zm at HSM HCM HAM HM
                    clear hzz
                    replace HK := Lib.hid (HK.out.next HW3.out)
                    clear HW3
                    obtain ⟨c0, c1', c2', c3'⟩ := HK.out.bx.cells4
                    go_wp2_with fail
                    go_quiet (fail)
                    have HD4 := Lib.hid (below_drewN (Below.refl w3.heap.size w3) nq)
                    replace HK := Lib.hid (HK.out.next HD4.out)
                    replace HM := Lib.hid (HM.out.up HD4.out)
                    clear c0 c1' c2' c3' E1 E3 HD4
                    obtain ⟨w4, hw4⟩ : ∃ w4, w3.drewN nq = w4 := ⟨_, rfl⟩
                    rw [hw4] at HK HM ⊢
                    clear hw4
                    go_wp2_with fail
                    go_loopw [10, 12, 69] (fun l s i wr => ∃ k : Nat, k ≤ m ∧ i = .int .i64 k ∧ s = .int .i64 (inn b (b + 7 * p) ts k : Nat) ∧ Hid (Ow w4 wr l (bf b ts k))) (fun _ _ i _ => m - (intOf i).toNat)
                    case atStart => exact ⟨0, Nat.zero_le _, rfl, rfl, Lib.hid (Ow.nil _)⟩
                    case round =>
                      obtain ⟨k, hk, rfl, rfl, HO⟩ := hrel
                      by_cases hlt : k < m
                      · have hltI : (k : Int) < (m : Int) := by omega
                        have d1 := (HK.out.next HO.out.1).rt.two hlt
                        have hik := inn_le b (b + 7 * p) ts k
                        by_cases hx : at_ ts k < b
                        · have HD := Lib.hid (bf_yes hx)
                          have HI := Lib.hid (inn_no (e := b + 7 * p) (fun h : b ≤ at_ ts k ∧ at_ ts k < b + 7 * p => by omega))
                          have hlen := bf_len b ts k
                          have hx2 : decide (b ≤ at_ ts k) = false := decide_eq_false (by omega)
                          obtain ⟨x, hxx⟩ : ∃ x, at_ ts k = x := ⟨_, rfl⟩
                          rw [hxx] at d1 hx hx2 HD
                          clear hxx
                          have HOO := Lib.hid HO.out.2
                          have hsz := HO.out.1.size
                          obtain ⟨q, hq⟩ : ∃ q, (bf b ts k).length = q := ⟨_, rfl⟩
                          rw [hq] at hlen HOO
                          have HQ := Lib.hid hq
                          clear hq
                          have C4 : Hid (q + 1 ≤ maxLen) := Lib.hid (by unfold maxLen; omega)
                          have C5 : Hid ((q + 1) * 8 ≤ 140737488355328) := Lib.hid (by omega)
                          go_wp2_with (at_builtin; refine wpList_append_own _ rfl _ _ 22 rfl w4.heap.size 3 i0 (.int .i64 0) 1 8 Try.underlying22 hi0 hz0 hs0 hb0' rfl (by omega) _ _ _ rfl (HOO.out.alloc _) ⟨_, 0, none⟩ 1 1 [.int .i64 x] rfl rfl (new_cell _ _ _ _ (by simp)) (ints_one [x]) C4.out C5.out (by simp; omega) ?_)
                          intro v' w9 hown hgrow _
                          have HO9 := Lib.hid (HO.out.app HQ.out hown hgrow)
                          clear hown hgrow HOO HO
                          go_wp2_with fail
                          go_roundw
                          case rel => exact ⟨k + 1, by omega, by go_num, by rw [HI.out], by rw [HD.out]; exact HO9⟩
                          case measure => simp [intOf]; omega
                        · have hx2 : decide (at_ ts k < b) = false := decide_eq_false hx
                          have hx3 : decide (b ≤ at_ ts k) = true := decide_eq_true (by omega)
                          have HD := Lib.hid (bf_no hx)
                          have c0 := (HK.out.next HO.out.1).bx.cells4.1
                          by_cases hy : at_ ts k < b + 7 * p
                          · have HI := Lib.hid (inn_yes (e := b + 7 * p) (Int.not_lt.1 hx) hy)
                            have hs1 := hR1 k
                            obtain ⟨x, hxx⟩ : ∃ x, at_ ts k = x := ⟨_, rfl⟩
                            rw [hxx] at d1 hx hx2 hx3 hy hs1
                            clear hxx
                            obtain ⟨e, he⟩ : ∃ e, inn b (b + 7 * p) ts k = e := ⟨_, rfl⟩
                            rw [he] at HI hik ⊢
                            clear he
                            go_wp2_with fail
                            go_roundw
                            case rel => exact ⟨k + 1, by omega, by go_num, by rw [HI.out]; go_num, by rw [HD.out]; exact HO⟩
                            case measure => simp [intOf]; omega
                          · have HI := Lib.hid (inn_no (e := b + 7 * p) (fun h : b ≤ at_ ts k ∧ at_ ts k < b + 7 * p => by omega))
                            have hy2 : decide (at_ ts k < b + 7 * p) = false := decide_eq_false hy
                            obtain ⟨x, hxx⟩ : ∃ x, at_ ts k = x := ⟨_, rfl⟩
                            rw [hxx] at d1 hx hx2 hx3 hy hy2
                            clear hxx
                            go_wp2_with fail
                            go_roundw
                            case rel => exact ⟨k + 1, by omega, by go_num, by rw [HI.out], by rw [HD.out]; exact HO⟩
                            case measure => simp [intOf]; omega
                      · have hltI : ¬ (k : Int) < (m : Int) := by omega
                        have HS7 : Hid (su (cn p b 7 ts m) 7 = (inn b (b + 7 * p) ts k : Nat)) := Lib.hid (by have e : k = m := by { omega }; rw [e]; exact su_cn hpp.1 m)
                        have HAB : Hid (aS ⟨p, up, dn, pt⟩ (bf b ts k) t = v) := Lib.hid (by have e : k = m := by { omega }; rw [e]; exact HBT.out)
                        have HSB := Lib.hid (bf_small HR.out b k)
                        obtain ⟨A4, n4, rfl, hR4⟩ := HO.out.out (by have := bf_len b ts k; omega)
                        have HB4 := Lib.hid hR4
                        clear hR4
                        obtain ⟨zb, hzz⟩ : ∃ zb, bf b ts k = zb := ⟨_, rfl⟩
                        rw [hzz] at HB4 HAB HSB ⊢
                        obtain ⟨q, hq⟩ : ∃ q, zb.length = q := ⟨_, rfl⟩
                        rw [hq] at HB4 ⊢
                        obtain ⟨e, he⟩ : ∃ e, inn b (b + 7 * p) ts k = e := ⟨_, rfl⟩
                        rw [he] at HS7 ⊢
                        clear he
                        replace HK := Lib.hid (HK.out.next HO.out.1)
                        replace HM := Lib.hid (HM.out.up HO.out.1)
                        clear HO
                        clear hzz hq
                        obtain ⟨c0, c1', c2', c3'⟩ := HK.out.bx.cells4
                        go_wp2_with fail
                        clear c0 c1' c2' c3'
                        refine (counts21 p A1 A2 A3 n1 n2 n3 c1 c2 c3 up dn pt _ m _ ts b 7 _ HK.out.r1 HK.out.r2 HK.out.r3 HK.out.rt HR.out).mono ?_
                        rintro e5 w5 ⟨⟨A5, k5, c5, rfl, hR5⟩, hb⟩
                        rw [HCT.out] at hR5
                        obtain rfl : 7 = k5 := by rw [← hR5.1, cn_len]
                        have HG := Lib.hid hR5
                        clear hR5
                        replace HM := Lib.hid (HM.out.up hb)
                        replace HB4 := Lib.hid (HB4.out.up hb)
                        replace HK := Lib.hid (HK.out.next hb)
                        clear hb
                        obtain ⟨L, hL⟩ : ∃ L, cn p b 7 ts m = L := ⟨_, rfl⟩
                        have HLB := Lib.hid (cn_bound p b 7 ts m)
                        rw [hL] at HS7 HG HCT HCM HLB
                        clear hL
                        go_wp2_with fail
                        go_loopw [16, 101] (fun s i wr => ∃ j : Nat, j ≤ 7 ∧ i = .int .i64 j ∧ s = .int .i64 (su L j) ∧ Hid (Kp w p A1 A2 A3 n1 n2 n3 c1 c2 c3 up dn pt _ m ts wr) ∧ Hid (Ri wr wr.heap.size _ m zm) ∧ Hid (Ri wr wr.heap.size A4 q zb) ∧ Hid (Ri wr wr.heap.size A5 7 L)) (fun _ i _ => 7 - (intOf i).toNat)
                        case atStart => exact ⟨0, Nat.zero_le _, rfl, rfl, HK, HM, HB4, HG⟩
                        case round =>
                          clear HK HM HB4 HG
                          obtain ⟨j, hj, rfl, rfl, HK, HM, HB4, HG⟩ := hrel
                          by_cases hlt : j < 7
                          · have hltI : (j : Int) < 7 := by omega
                            have hb1 := su_bound (L := L) (fun i => by have := HLB.out i; omega) j
                            have hb2 := HLB.out j
                            have HN := Lib.hid (su_next L j)
                            obtain ⟨bb5, off5, rfl, _, d1⟩ := HG.out.get hlt
                            obtain ⟨x, hxx⟩ : ∃ x, at_ L j = x := ⟨_, rfl⟩
                            rw [hxx] at d1 hb2 HN
                            obtain ⟨y, hyy⟩ : ∃ y, su L j = y := ⟨_, rfl⟩
                            rw [hyy] at hb1 HN ⊢
                            clear hxx hyy
                            go_wp2_with fail
                            go_roundw
                            case rel => exact ⟨j + 1, by omega, by go_num, by rw [HN.out], HK, HM, HB4, HG⟩
                            case measure => simp [intOf]; omega
                          · have hltI : ¬ (j : Int) < 7 := by omega
                            have HS8 : Hid (su L j = (e : Nat)) := Lib.hid (by have e7 : j = 7 := by { omega }; rw [e7]; exact HS7.out)
                            rw [HS8.out]
                            obtain ⟨c0, c1', c2', c3'⟩ := HK.out.bx.cells4
                            have ee : ((e : Int) == (e : Int)) = true := by simp
                            have ev : (v == v) = true := by simp
                            go_wp2_with fail
                            clear c0 c1' c2' c3'
                            refine (at23 p A1 A2 A3 n1 n2 n3 c1 c2 c3 up dn pt _ m _ ts t _ HK.out.r1 HK.out.r2 HK.out.r3 HK.out.rt HR.out).mono ?_
                            rintro e6 w6 ⟨rfl, hb⟩
                            rw [HAT.out]
                            (try replace HM := Lib.hid (HM.out.up hb)); (try replace HB4 := Lib.hid (HB4.out.up hb)); (try replace HG := Lib.hid (HG.out.up hb)); (try replace HG2 := Lib.hid (HG2.out.up hb)); replace HK := Lib.hid (HK.out.next hb); clear hb
                            obtain ⟨c0, c1', c2', c3'⟩ := HK.out.bx.cells4
                            go_wp2_with fail
                            clear c0 c1' c2' c3'
                            refine (at23 p A1 A2 A3 n1 n2 n3 c1 c2 c3 up dn pt _ m _ zm t _ HK.out.r1 HK.out.r2 HK.out.r3 HM.out HSM.out).mono ?_
                            rintro e7 w7 ⟨rfl, hb⟩
                            rw [HAM.out]
                            (try replace HM := Lib.hid (HM.out.up hb)); (try replace HB4 := Lib.hid (HB4.out.up hb)); (try replace HG := Lib.hid (HG.out.up hb)); (try replace HG2 := Lib.hid (HG2.out.up hb)); replace HK := Lib.hid (HK.out.next hb); clear hb
                            obtain ⟨c0, c1', c2', c3'⟩ := HK.out.bx.cells4
                            go_wp2_with fail
                            clear c0 c1' c2' c3'
                            refine (counts21 p A1 A2 A3 n1 n2 n3 c1 c2 c3 up dn pt _ m _ zm b 7 _ HK.out.r1 HK.out.r2 HK.out.r3 HM.out HSM.out).mono ?_
                            rintro e7 w8 ⟨⟨A7, k7, c7, rfl, hR7⟩, hb⟩
                            rw [HCM.out] at hR7
                            obtain rfl : 7 = k7 := by rw [← hR7.1, HG.out.1]
                            have HG2 := Lib.hid hR7
                            clear hR7
                            replace HM := Lib.hid (HM.out.up hb)
                            replace HB4 := Lib.hid (HB4.out.up hb)
                            replace HG := Lib.hid (HG.out.up hb)
                            replace HK := Lib.hid (HK.out.next hb)
                            clear hb
                            go_wp2_with fail
                            refine (same_any _ _ _ _ _ _ _ HG2.out HG.out).mono ?_
                            rintro e7 w9 ⟨rfl, hb⟩
                            (try replace HM := Lib.hid (HM.out.up hb)); (try replace HB4 := Lib.hid (HB4.out.up hb)); (try replace HG := Lib.hid (HG.out.up hb)); (try replace HG2 := Lib.hid (HG2.out.up hb)); replace HK := Lib.hid (HK.out.next hb); clear hb
                            obtain ⟨c0, c1', c2', c3'⟩ := HK.out.bx.cells4
                            go_wp2_with fail
                            clear c0 c1' c2' c3'
                            refine (at23 p A1 A2 A3 n1 n2 n3 c1 c2 c3 up dn pt A4 q _ zb t _ HK.out.r1 HK.out.r2 HK.out.r3 HB4.out HSB.out).mono ?_
                            rintro e7 w10 ⟨rfl, hb⟩
                            rw [HAB.out]
                            (try replace HM := Lib.hid (HM.out.up hb)); (try replace HB4 := Lib.hid (HB4.out.up hb)); (try replace HG := Lib.hid (HG.out.up hb)); (try replace HG2 := Lib.hid (HG2.out.up hb)); replace HK := Lib.hid (HK.out.next hb); clear hb
                            go_wp2_with fail
                            refine (awake_any _).mono ?_
                            rintro e7 w11 ⟨rfl, hb⟩
                            replace HK := Lib.hid (HK.out.next hb)
                            go_wp2_with fail
                            go_ret
                            exact ⟨rfl, HK.out.bel⟩
      · have e1 : (ch == 0) = false := by simp [hc]
        have e2 : (ch != 0) = true := by simp [hc]
        clear hc
        go_wp2_with fail
        refine (awake_any _).mono ?_
        rintro e wz ⟨rfl, hb⟩
        replace HK := Lib.hid (HK.out.next hb)
        go_wp2_with fail
        go_ret
        exact ⟨rfl, HK.out.bel⟩
end Go.Proofs.Ytcobolmagjlbeaa.Wk
