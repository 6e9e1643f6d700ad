/- The walk of ClockCovers. Condition: the table of months reads as the text lays it. -/
import Derived.Test.YtfpndiacbpinpaaDoorCov
set_option linter.unusedSimpArgs false
set_option linter.unusedVariables false
namespace Go.Proofs.YtfpndiacbpinpaaDoor.Wk
open Go.RowKit
open Go.Proofs.YtfpndiacbpinpaaDoor.Mt
structure Kc (w0 wr : World) (cw ci : Array Value) (A : Option Addr) (n : Nat) (l : List (Int × Int)) : Prop where
  km : Km w0 wr cw ci
  rv : Rv wr wr.heap.size A n l
theorem Kc.next {w0 wr w1 : World} {cw ci : Array Value} {A : Option Addr} {n : Nat} {l : List (Int × Int)} (h : Kc w0 wr cw ci A n l) (hb : Below wr.heap.size wr w1) : Kc w0 w1 cw ci A n l := ⟨h.km.next hb, h.rv.up hb⟩
theorem Rv.two {w : World} {B b off : Nat} {n : Nat} {l : List (Int × Int)} (h : Rv w B (some ⟨b, off, Option.none⟩) n l) {i : Nat} (hi : i < n) : w.cell? ⟨b, off + i * 2, Option.none⟩ = some (.int .i64 (pat l i).1) ∧ w.cell? ⟨b, off + i * 2 + 1, Option.none⟩ = some (.int .i64 (pat l i).2) := by
  obtain ⟨b', off', e, hb, hc⟩ := h.2.2 (by omega)
  injection e with e
  injection e with e1 e2
  subst e1 e2
  exact hc i hi
set_option maxHeartbeats 8000000 in
set_option maxRecDepth 100000 in
theorem covers_law (d f t a b x : Int) (w : World) (hM : Md w) : Calls Tryd.prog 11 #[.agg #[.int .i64 d, .int .i64 f, .int .i64 t], .agg #[.int .i64 a, .int .i64 b], .int .i64 x] w fun e w' => e = .returned (.bool true) ∧ Below w.heap.size w w' := by
  have HK0 := Lib.hid (Km.start hM #[.int .i64 d, .int .i64 f, .int .i64 t] #[.int .i64 a, .int .i64 b])
  have hc := spans_code d f t a b
  have HN : Hid ((spansS d f t a b).2 ≠ 0 → (spansS d f t a b).1 = []) := Lib.hid spans_bad
  have HO : Hid ((spansS d f t a b).2 = 0 → NF (spansS d f t a b).1 a b ∧ ∀ x, mem (spansS d f t a b).1 x ↔ inS d f t x = true ∧ a ≤ x ∧ x < b) := Lib.hid spans_nf
  obtain ⟨⟨l, cd⟩, hx⟩ : ∃ p, spansS d f t a b = p := ⟨_, rfl⟩
  rw [hx] at hc HN HO
  obtain ⟨hc0, hc1⟩ := hc
  simp only at hc0 hc1
  have HX := Lib.hid hx
  clear hM hx
  go_enter Tryd.func11, Tryd.ntmps11
  go_wp2_with fail
  refine (spans_any _ _ _ _ _ _).mono ?_
  rintro e w1 ⟨⟨A, n, c, rfl, hR⟩, hb⟩
  rw [HX.out] at hR ⊢
  have hn := hR.2.1
  have HLn : Hid (l.length = n) := Lib.hid hR.1
  have HK : Hid (Kc w w1 #[.int .i64 d, .int .i64 f, .int .i64 t] #[.int .i64 a, .int .i64 b] A n l) := Lib.hid ⟨HK0.out.next hb, hR⟩
  clear hb hR HK0
  by_cases hcd : cd = 0
  · subst hcd
    obtain ⟨hnf, hmem⟩ := HO.out rfl
    have HNF := Lib.hid hnf
    have HME := Lib.hid hmem
    clear hnf hmem HN
    go_wp2_with fail
    go_loopw [9, 10] (fun hh i wr => ∃ k : Nat, k ≤ n ∧ i = .int .i64 k ∧ hh = .bool (hs l x k) ∧ Hid (Kc w wr #[.int .i64 d, .int .i64 f, .int .i64 t] #[.int .i64 a, .int .i64 b] A n l)) (fun _ i _ => n - (intOf i).toNat)
    case atStart => exact ⟨0, Nat.zero_le _, rfl, by rw [hs_zero], HK⟩
    case round =>
      clear HK
      obtain ⟨k, hk, rfl, rfl, HK⟩ := hrel
      by_cases hlt : k < n
      · have hltI : (k : Int) < (n : Int) := by omega
        obtain ⟨bl, off, rfl, _, y1, y2⟩ := HK.out.rv.get hlt
        obtain ⟨⟨p1, p2⟩, hp⟩ : ∃ p, pat l k = p := ⟨_, rfl⟩
        obtain ⟨m1, m2, m3⟩ := nf_at HNF.out (show k < l.length by rw [HLn.out]; exact hlt)
        rw [show l.getD k (0, 0) = (p1, p2) from hp] at m1 m2 m3
        rw [hp] at y1 y2
        simp only at y1 y2 m1 m2 m3
        have HP := Lib.hid hp
        clear hp
        have g1 : decide (p2 ≤ p1) = false := decide_eq_false (by omega)
        have g2 : decide (p1 < a) = false := decide_eq_false (by omega)
        have g3 : decide (b < p2) = false := decide_eq_false (by omega)
        obtain ⟨i0, i1⟩ := HK.out.km.bi.cells2
        rcases (show k = 0 ∨ ∃ j, k = j + 1 from by cases k; exact .inl rfl; exact .inr ⟨_, rfl⟩) with hk0 | ⟨j, hkj⟩
        · subst hk0
          simp only [Nat.zero_mul, Nat.add_zero] at y1 y2
          have hz1 : (0 : Int) < (n : Int) := by omega
          have g4 : decide ((0 : Int) < ((0 : Nat) : Int)) = false := by decide
          have g5 : decide (0 < 0) = false := by decide
          clear m1 m2 m3
          by_cases x1 : p1 ≤ x
          · by_cases x2 : x < p2
            · have z1 : decide (p1 ≤ x) = true := decide_eq_true x1
              have z2 : decide (x < p2) = true := decide_eq_true x2
              have HH : Hid (hs l x (0 + 1) = true) := Lib.hid (hs_yes (by rw [show l.getD 0 (0, 0) = (p1, p2) from HP.out]; exact ⟨x1, x2⟩))
              clear x1 x2
              go_wp2_with fail
              go_quiet (fail)
              go_wp2_with fail
              go_roundw
              case rel => exact ⟨0 + 1, by omega, by go_num, by rw [HH.out], Lib.hid (HK.out.next (below_drewN (Below.refl _ _) _))⟩
              case measure => simp [intOf]; omega
            · have z1 : decide (p1 ≤ x) = true := decide_eq_true x1
              have z2 : decide (x < p2) = false := decide_eq_false x2
              have HH : Hid (hs l x (0 + 1) = hs l x 0) := Lib.hid (hs_no (by rw [show l.getD 0 (0, 0) = (p1, p2) from HP.out]; exact fun h => x2 h.2))
              clear x1 x2
              go_wp2_with fail
              go_quiet (fail)
              go_wp2_with fail
              go_roundw
              case rel => exact ⟨0 + 1, by omega, by go_num, by rw [HH.out], Lib.hid (HK.out.next (below_drewN (Below.refl _ _) _))⟩
              case measure => simp [intOf]; omega
          · have z1 : decide (p1 ≤ x) = false := decide_eq_false x1
            have HH : Hid (hs l x (0 + 1) = hs l x 0) := Lib.hid (hs_no (by rw [show l.getD 0 (0, 0) = (p1, p2) from HP.out]; exact fun h => x1 h.1))
            clear x1
            go_wp2_with fail
            go_quiet (fail)
            go_wp2_with fail
            go_roundw
            case rel => exact ⟨0 + 1, by omega, by go_num, by rw [HH.out], Lib.hid (HK.out.next (below_drewN (Below.refl _ _) _))⟩
            case measure => simp [intOf]; omega
        · subst hkj
          have m4 := nf_step HNF.out (show j + 1 < l.length by rw [HLn.out]; exact hlt)
          obtain ⟨⟨q1, q2⟩, hq⟩ : ∃ p, pat l j = p := ⟨_, rfl⟩
          rw [show l.getD (j + 1) (0, 0) = (p1, p2) from HP.out, show l.getD j (0, 0) = (q1, q2) from hq] at m4
          obtain ⟨z3, z4⟩ := HK.out.rv.two (show j < n by omega)
          rw [hq] at z3 z4
          simp only at z3 z4 m4
          clear hq
          have hj1 : (j : Int) < (n : Int) := by omega
          have g4 : decide ((0 : Int) < (j : Int) + 1) = true := decide_eq_true (by omega)
          have g5 : decide (p1 ≤ q2) = false := decide_eq_false (by omega)
          have E1 := IntWalk.i64_in ((j : Int) + 1 - 1) (by omega)
          rw [show (j : Int) + 1 - 1 = (j : Int) by omega] at E1
          clear m1 m2 m3 m4
          by_cases x1 : p1 ≤ x
          · by_cases x2 : x < p2
            · have z1 : decide (p1 ≤ x) = true := decide_eq_true x1
              have z2 : decide (x < p2) = true := decide_eq_true x2
              have HH : Hid (hs l x (j + 1 + 1) = true) := Lib.hid (hs_yes (by rw [show l.getD (j + 1) (0, 0) = (p1, p2) from HP.out]; exact ⟨x1, x2⟩))
              clear x1 x2
              go_wp2_with fail
              go_quiet (fail)
              go_wp2_with fail
              go_roundw
              case rel => exact ⟨j + 1 + 1, by omega, by go_num, by rw [HH.out], Lib.hid (HK.out.next (below_drewN (Below.refl _ _) _))⟩
              case measure => simp [intOf]; omega
            · have z1 : decide (p1 ≤ x) = true := decide_eq_true x1
              have z2 : decide (x < p2) = false := decide_eq_false x2
              have HH : Hid (hs l x (j + 1 + 1) = hs l x (j + 1)) := Lib.hid (hs_no (by rw [show l.getD (j + 1) (0, 0) = (p1, p2) from HP.out]; exact fun h => x2 h.2))
              clear x1 x2
              go_wp2_with fail
              go_quiet (fail)
              go_wp2_with fail
              go_roundw
              case rel => exact ⟨j + 1 + 1, by omega, by go_num, by rw [HH.out], Lib.hid (HK.out.next (below_drewN (Below.refl _ _) _))⟩
              case measure => simp [intOf]; omega
          · have z1 : decide (p1 ≤ x) = false := decide_eq_false x1
            have HH : Hid (hs l x (j + 1 + 1) = hs l x (j + 1)) := Lib.hid (hs_no (by rw [show l.getD (j + 1) (0, 0) = (p1, p2) from HP.out]; exact fun h => x1 h.1))
            clear x1
            go_wp2_with fail
            go_quiet (fail)
            go_wp2_with fail
            go_roundw
            case rel => exact ⟨j + 1 + 1, by omega, by go_num, by rw [HH.out], Lib.hid (HK.out.next (below_drewN (Below.refl _ _) _))⟩
            case measure => simp [intOf]; omega
      · have hltI : ¬ (k : Int) < (n : Int) := by omega
        have HV : Hid (hs l x k = (inS d f t x && decide (a ≤ x) && decide (x < b))) := Lib.hid (by
          have e : k = l.length := by { rw [HLn.out]; omega }
          rw [e, Bool.eq_iff_iff, hs_all, HME.out x]
          simp [and_assoc])
        obtain ⟨bi, hbi⟩ : ∃ bi, inS d f t x = bi := ⟨_, rfl⟩
        have HB := Lib.hid hbi
        rw [hbi] at HV
        clear hbi
        obtain ⟨c0, c1, c2⟩ := HK.out.km.bw.cells3
        rcases fot bi with rfl | rfl
        · have HV2 : Hid (hs l x k = false) := Lib.hid (by rw [HV.out]; simp)
          rw [HV2.out]
          go_wp2_with fail
          clear c0 c1 c2
          refine (in_any _ _ _ _ _).mono ?_
          rintro e w2 ⟨rfl, hb⟩
          rw [HB.out]
          replace HK := Lib.hid (HK.out.next hb)
          clear hb
          obtain ⟨i0, i1⟩ := HK.out.km.bi.cells2
          go_wp2_with fail
          clear i0 i1
          refine (awake_any _ HK.out.km.md).mono ?_
          rintro e w3 ⟨rfl, hb⟩
          replace HK := Lib.hid (HK.out.next hb)
          clear hb
          go_wp2_with fail
          go_ret
          exact ⟨rfl, HK.out.km.bel⟩
        · by_cases x1 : a ≤ x
          · by_cases x2 : x < b
            · have x1' : decide (a ≤ x) = true := decide_eq_true x1
              have x2' : decide (x < b) = true := decide_eq_true x2
              skip
              have HV2 : Hid (hs l x k = true) := Lib.hid (by rw [HV.out, x1', x2']; rfl)
              rw [HV2.out]
              go_wp2_with fail
              clear c0 c1 c2
              refine (in_any _ _ _ _ _).mono ?_
              rintro e w2 ⟨rfl, hb⟩
              rw [HB.out]
              replace HK := Lib.hid (HK.out.next hb)
              clear hb
              obtain ⟨i0, i1⟩ := HK.out.km.bi.cells2
              go_wp2_with fail
              clear i0 i1
              refine (awake_any _ HK.out.km.md).mono ?_
              rintro e w3 ⟨rfl, hb⟩
              replace HK := Lib.hid (HK.out.next hb)
              clear hb
              go_wp2_with fail
              go_ret
              exact ⟨rfl, HK.out.km.bel⟩
            · have x2' : decide (x < b) = false := decide_eq_false x2
              have x1' : decide (a ≤ x) = true := decide_eq_true x1
              have HV2 : Hid (hs l x k = false) := Lib.hid (by rw [HV.out, x1', x2']; rfl)
              rw [HV2.out]
              go_wp2_with fail
              clear c0 c1 c2
              refine (in_any _ _ _ _ _).mono ?_
              rintro e w2 ⟨rfl, hb⟩
              rw [HB.out]
              replace HK := Lib.hid (HK.out.next hb)
              clear hb
              obtain ⟨i0, i1⟩ := HK.out.km.bi.cells2
              go_wp2_with fail
              clear i0 i1
              refine (awake_any _ HK.out.km.md).mono ?_
              rintro e w3 ⟨rfl, hb⟩
              replace HK := Lib.hid (HK.out.next hb)
              clear hb
              go_wp2_with fail
              go_ret
              exact ⟨rfl, HK.out.km.bel⟩
          · have x1' : decide (a ≤ x) = false := decide_eq_false x1
            have HV2 : Hid (hs l x k = false) := Lib.hid (by rw [HV.out, x1']; simp)
            rw [HV2.out]
            go_wp2_with fail
            clear c0 c1 c2
            refine (in_any _ _ _ _ _).mono ?_
            rintro e w2 ⟨rfl, hb⟩
            rw [HB.out]
            replace HK := Lib.hid (HK.out.next hb)
            clear hb
            obtain ⟨i0, i1⟩ := HK.out.km.bi.cells2
            go_wp2_with fail
            clear i0 i1
            refine (awake_any _ HK.out.km.md).mono ?_
            rintro e w3 ⟨rfl, hb⟩
            replace HK := Lib.hid (HK.out.next hb)
            clear hb
            go_wp2_with fail
            go_ret
            exact ⟨rfl, HK.out.km.bel⟩
  · have hl0 := HN.out hcd
    subst hl0
    obtain rfl : 0 = n := HLn.out
    have g1 : (cd == 0) = false := by simp [hcd]
    have g2 : (cd != 0) = true := by simp [hcd]
    clear hcd
    go_wp2_with (first | (go_at_call 19; refine (awake_any _ HK.out.km.md).mono ?_; rintro e w3 ⟨rfl, hb⟩; replace HK := Lib.hid (HK.out.next hb); clear hb))
    go_ret
    exact ⟨rfl, HK.out.km.bel⟩
end Go.Proofs.YtfpndiacbpinpaaDoor.Wk
