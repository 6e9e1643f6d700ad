/- Whether a proof is accepted, in the layer. Condition: the slice reads as 64-bit numbers. -/
import Derived.Test.YtbhdghopdhehdaaVfr
set_option linter.unusedSimpArgs false
set_option linter.unusedVariables false
namespace Go.Proofs.Ytbhdghopdhehdaa.Wk
open Go.RowKit
open Go.Proofs.Ytbhdghopdhehdaa.Mt
theorem iat_drop (l : List Int) (u i : Nat) : iat (l.drop u) i = iat l (u + i) := by simp [iat, List.getElem?_drop]
theorem Rk.tail {k : IntKind} {w : World} {B b off q : Nat} {zs : List Int} (h : Rk k w B (some ⟨b, off, none⟩) q zs) (hq : 0 < q) : Rk k w B (some ⟨b, off + 1, none⟩) (q - 1) (zs.drop 1) := by
  refine ⟨by rw [List.length_drop, h.1], by have := h.2.1; omega, fun h0 => ?_, fun i => by rw [iat_drop]; exact h.2.2.2 _⟩
  obtain ⟨b', off', e, hlt, hc⟩ := h.2.2.1 hq
  injection e with e
  injection e with e1 e2
  subst e1 e2
  refine ⟨b, off + 1, rfl, hlt, fun i hi => ?_⟩
  rw [iat_drop, Nat.add_assoc]
  exact hc (1 + i) (by omega)
theorem Rk.gone {k : IntKind} {w : World} {B q : Nat} {A A' : Option Addr} {zs : List Int} (h : Rk k w B A q zs) (hq : q = 1) : Rk k w B A' (q - 1) (zs.drop 1) := by
  subst hq
  exact ⟨by rw [List.length_drop, h.1], by omega, fun h0 => by omega, fun i => by rw [iat_drop]; exact h.2.2.2 _⟩
set_option maxHeartbeats 2000000 in
set_option maxRecDepth 100000 in
theorem verify24 (root leaf : Int) (i n : Int) (A : Option Addr) (p c : Nat) (pf : List Int) (w : World) (h : Rk .u64 w w.heap.size A p pf) (hpc : p ≤ c) (hleaf : 0 ≤ leaf ∧ leaf ≤ 18446744073709551615) (hnm : n ≤ 9223372036854775807) :
    Calls Try.prog 24 #[.int .u64 root, .int .u64 leaf, .int .i64 i, .int .i64 n, .slice A p c] w fun e w' => e = .returned (.bool (vfS root leaf i n pf)) ∧ Below w.heap.size w w' := by
  have hp := h.2.1
  have HL := Lib.hid h.1
  have HR := Lib.hid h
  have HU : Hid (U64 pf) := Lib.hid (fun i => u64_r (h.2.2.2 i))
  clear h
  by_cases g1 : i < 0
  · have HE : Hid (vfS root leaf i n pf = false) := Lib.hid (by rw [vfS, if_pos (.inl g1)])
    go_enter Try.func24, Try.ntmps24
    go_wp2_with fail
    go_ret
    exact ⟨by rw [HE.out]; rfl, Below.refl _ _⟩
  · have g1' : decide (i < 0) = false := decide_eq_false g1
    by_cases g2 : n ≤ i
    · have HE : Hid (vfS root leaf i n pf = false) := Lib.hid (by rw [vfS, if_pos (.inr g2)])
      go_enter Try.func24, Try.ntmps24
      go_wp2_with fail
      go_ret
      exact ⟨by rw [HE.out]; rfl, Below.refl _ _⟩
    · have g2' : decide (n ≤ i) = false := decide_eq_false g2
      obtain ⟨i, rfl⟩ : ∃ j : Nat, i = (j : Int) := ⟨i.toNat, by omega⟩
      obtain ⟨n, rfl⟩ : ∃ j : Nat, n = (j : Int) := ⟨n.toNat, by omega⟩
      have hin : i < n := by omega
      have h1 : 1 ≤ n := by omega
      have hht := ht_le n
      have hnn : n ≤ 9223372036854775807 := by omega
      go_enter Try.func24, Try.ntmps24
      go_wp2_with (go_at_call 30; refine (height30 n hnn _).mono ?_; rintro e w' ⟨rfl, rfl⟩)
      clear g1 g1' g2 g2'
      go_loopw [2, 3, 4, 11, 23] (fun iv mv pv x cv wr => ∃ (k m j u q c' : Nat) (A' : Option Addr) (xx : Int), cv = .int .i64 k ∧ iv = .int .i64 j ∧ mv = .int .i64 m ∧ pv = .slice A' q c' ∧ k ≤ ht n ∧ x = .int .u64 xx ∧ Hid (abn n k = m) ∧ Hid (ix i k = j) ∧ j < m ∧ m ≤ n ∧ Hid (u + q = p) ∧ q ≤ c' ∧ Hid (Rk .u64 wr wr.heap.size A' q (pf.drop u)) ∧ Hid (vs pf leaf i n k = some (xx, u)) ∧ Hid (0 ≤ xx ∧ xx ≤ 18446744073709551615) ∧ Hid (Below w.heap.size w wr)) (fun _ _ _ _ cv _ => ht n - (intOf cv).toNat)
      case atStart => exact ⟨0, n, i, 0, p, c, A, leaf, rfl, rfl, rfl, rfl, Nat.zero_le _, rfl, Lib.hid rfl, Lib.hid rfl, hin, Nat.le_refl _, Lib.hid (Nat.zero_add _), hpc, HR, Lib.hid rfl, Lib.hid hleaf, Lib.hid (Below.refl _ _)⟩
      case round =>
        obtain ⟨k, m, j, u, q, c', A', xx, rfl, rfl, rfl, rfl, hk, rfl, HM, HX, hjm, hmn, HQ, hqc, HP, HV, HXX, HB⟩ := hrel
        by_cases hlt : k < ht n
        · have hltI : (k : Int) < ((ht n : Nat) : Int) := by omega
          have hm1 : 1 < m := by have := abn_more hlt; rw [HM.out] at this; exact this
          have hmm : m ≤ 9223372036854775807 := by omega
          have HM2 : Hid (abn n (k + 1) = ab m) := Lib.hid (by rw [abn_next, HM.out])
          have HX2 : Hid (ix i (k + 1) = j / 2) := Lib.hid (by rw [ix_next, HX.out])
          have hj2 : j / 2 < ab m := by unfold ab; omega
          have habm := ab_top m
          by_cases hj1 : j + 1 < m
          · have hjE : ((j : Int) == (m : Int) - 1) = false := by simp; omega
            by_cases ho : j % 2 = 1
            · have hoI : (j : Int) % 2 = 1 := by omega
              have hoB : ((j : Int) % 2 == 0) = false := by simp; omega
              by_cases hq : 0 < q
              · have hqI : ((q : Int) == 0) = false := by simp; omega
                have hqJ : ¬ (q : Int) = 0 := by omega
                have hq1 : (1 : Int) ≤ (q : Int) := by omega
                have hqcI : (q : Int) ≤ (c' : Int) := by omega
                have HV2 := Lib.hid (vs_odd HV.out (by rw [HX.out]; exact ho) (by rw [HL.out]; have := HQ.out; omega))
                obtain ⟨b, off, rfl, _, d1⟩ := HP.out.get hq
                have HY := Lib.hid (HU.out u)
                rw [iat_drop, Nat.add_zero, Nat.add_zero] at d1
                obtain ⟨y, hy⟩ : ∃ y, iat pf u = y := ⟨_, rfl⟩
                rw [hy] at d1 HY HV2
                clear hy
                have d2 : wr.cell? ⟨b, off, none⟩ = some (.int .u64 y) := d1
                go_wp2_with fail
                refine (join13 y xx _ HY.out HXX.out).mono ?_
                rintro e w2 ⟨rfl, hb⟩
                have HB2 := Lib.hid (HB.out.trans (hb.mono HB.out.size))
                have HP2 := Lib.hid (HP.out.up hb)
                clear hb d1 d2
                by_cases hc1 : c' = 1
                · have hqq : q = 1 := by omega
                  have HP3 : Hid (Rk .u64 w2 w2.heap.size (some ⟨b, off, none⟩) (q - 1) (pf.drop (u + 1))) := Lib.hid (by have := HP2.out.gone (A' := some ⟨b, off, none⟩) hqq; rw [List.drop_drop] at this; exact this)
                  subst hc1
                  subst hqq
                  go_wp2_with (go_at_call 33; refine (above33 m hmm _).mono ?_; rintro e w' ⟨rfl, rfl⟩)
                  go_roundw
                  case rel => exact ⟨k + 1, ab m, j / 2, u + 1, 0, 0, some ⟨b, off, none⟩, jn y xx, by go_num, by go_num, rfl, rfl, by omega, rfl, HM2, HX2, hj2, by omega, Lib.hid (by have := HQ.out; omega), by omega, HP3, HV2, Lib.hid (jn_in _ _), HB2⟩
                  case measure => simp [intOf]; omega
                · have HP3 : Hid (Rk .u64 w2 w2.heap.size (some ⟨b, off + 1, none⟩) (q - 1) (pf.drop (u + 1))) := Lib.hid (by have := HP2.out.tail hq; rw [List.drop_drop] at this; exact this)
                  go_wp2_with (go_at_call 33; refine (above33 m hmm _).mono ?_; rintro e w' ⟨rfl, rfl⟩)
                  go_roundw
                  case rel => exact ⟨k + 1, ab m, j / 2, u + 1, q - 1, c' - 1, some ⟨b, off + 1, none⟩, jn y xx, by go_num, by go_num, rfl, rfl, by omega, rfl, HM2, HX2, hj2, by omega, Lib.hid (by have := HQ.out; omega), by omega, HP3, HV2, Lib.hid (jn_in _ _), HB2⟩
                  case measure => simp [intOf]; omega
              · have hq0 : q = 0 := by omega
                have hqI : ((q : Int) == 0) = true := by simp; omega
                have HF := Lib.hid (vf_none (root := root) hin (by omega) (vs_empty HV.out (.inl (by rw [HX.out]; exact ho)) (by rw [HL.out]; have := HQ.out; omega)))
                go_wp2_with fail
                go_ret
                exact ⟨by rw [HF.out]; rfl, HB.out⟩
            · have hoI : (j : Int) % 2 = 0 := by omega
              have hoB : ((j : Int) % 2 == 0) = true := by simp; omega
              by_cases hq : 0 < q
              · have hqI : ((q : Int) == 0) = false := by simp; omega
                have hqJ : ¬ (q : Int) = 0 := by omega
                have hq1 : (1 : Int) ≤ (q : Int) := by omega
                have hqcI : (q : Int) ≤ (c' : Int) := by omega
                have HV2 := Lib.hid (vs_even HV.out (by rw [HX.out]; exact ho) (by rw [HX.out, HM.out]; exact hj1) (by rw [HL.out]; have := HQ.out; omega))
                obtain ⟨b, off, rfl, _, d1⟩ := HP.out.get hq
                have HY := Lib.hid (HU.out u)
                rw [iat_drop, Nat.add_zero, Nat.add_zero] at d1
                obtain ⟨y, hy⟩ : ∃ y, iat pf u = y := ⟨_, rfl⟩
                rw [hy] at d1 HY HV2
                clear hy
                have d2 : wr.cell? ⟨b, off, none⟩ = some (.int .u64 y) := d1
                go_wp2_with fail
                refine (join13 xx y _ HXX.out HY.out).mono ?_
                rintro e w2 ⟨rfl, hb⟩
                have HB2 := Lib.hid (HB.out.trans (hb.mono HB.out.size))
                have HP2 := Lib.hid (HP.out.up hb)
                clear hb d1 d2
                by_cases hc1 : c' = 1
                · have hqq : q = 1 := by omega
                  have HP3 : Hid (Rk .u64 w2 w2.heap.size (some ⟨b, off, none⟩) (q - 1) (pf.drop (u + 1))) := Lib.hid (by have := HP2.out.gone (A' := some ⟨b, off, none⟩) hqq; rw [List.drop_drop] at this; exact this)
                  subst hc1
                  subst hqq
                  go_wp2_with (go_at_call 33; refine (above33 m hmm _).mono ?_; rintro e w' ⟨rfl, rfl⟩)
                  go_roundw
                  case rel => exact ⟨k + 1, ab m, j / 2, u + 1, 0, 0, some ⟨b, off, none⟩, jn xx y, by go_num, by go_num, rfl, rfl, by omega, rfl, HM2, HX2, hj2, by omega, Lib.hid (by have := HQ.out; omega), by omega, HP3, HV2, Lib.hid (jn_in _ _), HB2⟩
                  case measure => simp [intOf]; omega
                · have HP3 : Hid (Rk .u64 w2 w2.heap.size (some ⟨b, off + 1, none⟩) (q - 1) (pf.drop (u + 1))) := Lib.hid (by have := HP2.out.tail hq; rw [List.drop_drop] at this; exact this)
                  go_wp2_with (go_at_call 33; refine (above33 m hmm _).mono ?_; rintro e w' ⟨rfl, rfl⟩)
                  go_roundw
                  case rel => exact ⟨k + 1, ab m, j / 2, u + 1, q - 1, c' - 1, some ⟨b, off + 1, none⟩, jn xx y, by go_num, by go_num, rfl, rfl, by omega, rfl, HM2, HX2, hj2, by omega, Lib.hid (by have := HQ.out; omega), by omega, HP3, HV2, Lib.hid (jn_in _ _), HB2⟩
                  case measure => simp [intOf]; omega
              · have hq0 : q = 0 := by omega
                have hqI : ((q : Int) == 0) = true := by simp; omega
                have HF := Lib.hid (vf_none (root := root) hin (by omega) (vs_empty HV.out (.inr (by rw [HX.out, HM.out]; exact hj1)) (by rw [HL.out]; have := HQ.out; omega)))
                go_wp2_with fail
                go_ret
                exact ⟨by rw [HF.out]; rfl, HB.out⟩
          · have hjE : ((j : Int) == (m : Int) - 1) = true := by simp; omega
            by_cases ho : j % 2 = 1
            · have hoI : (j : Int) % 2 = 1 := by omega
              have hoB : ((j : Int) % 2 == 0) = false := by simp; omega
              have hmB : ((m : Int) % 2 == 1) = false := by simp; omega
              by_cases hq : 0 < q
              · have hqI : ((q : Int) == 0) = false := by simp; omega
                have hqJ : ¬ (q : Int) = 0 := by omega
                have hq1 : (1 : Int) ≤ (q : Int) := by omega
                have hqcI : (q : Int) ≤ (c' : Int) := by omega
                have HV2 := Lib.hid (vs_odd HV.out (by rw [HX.out]; exact ho) (by rw [HL.out]; have := HQ.out; omega))
                obtain ⟨b, off, rfl, _, d1⟩ := HP.out.get hq
                have HY := Lib.hid (HU.out u)
                rw [iat_drop, Nat.add_zero, Nat.add_zero] at d1
                obtain ⟨y, hy⟩ : ∃ y, iat pf u = y := ⟨_, rfl⟩
                rw [hy] at d1 HY HV2
                clear hy
                have d2 : wr.cell? ⟨b, off, none⟩ = some (.int .u64 y) := d1
                go_wp2_with fail
                refine (join13 y xx _ HY.out HXX.out).mono ?_
                rintro e w2 ⟨rfl, hb⟩
                have HB2 := Lib.hid (HB.out.trans (hb.mono HB.out.size))
                have HP2 := Lib.hid (HP.out.up hb)
                clear hb d1 d2
                by_cases hc1 : c' = 1
                · have hqq : q = 1 := by omega
                  have HP3 : Hid (Rk .u64 w2 w2.heap.size (some ⟨b, off, none⟩) (q - 1) (pf.drop (u + 1))) := Lib.hid (by have := HP2.out.gone (A' := some ⟨b, off, none⟩) hqq; rw [List.drop_drop] at this; exact this)
                  subst hc1
                  subst hqq
                  go_wp2_with (go_at_call 33; refine (above33 m hmm _).mono ?_; rintro e w' ⟨rfl, rfl⟩)
                  go_roundw
                  case rel => exact ⟨k + 1, ab m, j / 2, u + 1, 0, 0, some ⟨b, off, none⟩, jn y xx, by go_num, by go_num, rfl, rfl, by omega, rfl, HM2, HX2, hj2, by omega, Lib.hid (by have := HQ.out; omega), by omega, HP3, HV2, Lib.hid (jn_in _ _), HB2⟩
                  case measure => simp [intOf]; omega
                · have HP3 : Hid (Rk .u64 w2 w2.heap.size (some ⟨b, off + 1, none⟩) (q - 1) (pf.drop (u + 1))) := Lib.hid (by have := HP2.out.tail hq; rw [List.drop_drop] at this; exact this)
                  go_wp2_with (go_at_call 33; refine (above33 m hmm _).mono ?_; rintro e w' ⟨rfl, rfl⟩)
                  go_roundw
                  case rel => exact ⟨k + 1, ab m, j / 2, u + 1, q - 1, c' - 1, some ⟨b, off + 1, none⟩, jn y xx, by go_num, by go_num, rfl, rfl, by omega, rfl, HM2, HX2, hj2, by omega, Lib.hid (by have := HQ.out; omega), by omega, HP3, HV2, Lib.hid (jn_in _ _), HB2⟩
                  case measure => simp [intOf]; omega
              · have hq0 : q = 0 := by omega
                have hqI : ((q : Int) == 0) = true := by simp; omega
                have HF := Lib.hid (vf_none (root := root) hin (by omega) (vs_empty HV.out (.inl (by rw [HX.out]; exact ho)) (by rw [HL.out]; have := HQ.out; omega)))
                go_wp2_with fail
                go_ret
                exact ⟨by rw [HF.out]; rfl, HB.out⟩
            · have hoI : (j : Int) % 2 = 0 := by omega
              have hoB : ((j : Int) % 2 == 0) = true := by simp; omega
              have hmB : ((m : Int) % 2 == 1) = true := by simp; omega
              have HV2 := Lib.hid (vs_alone HV.out (by rw [HX.out]; exact ho) (by rw [HX.out, HM.out]; exact hj1))
              go_wp2_with (go_at_call 33; refine (above33 m hmm _).mono ?_; rintro e w' ⟨rfl, rfl⟩)
              go_roundw
              case rel => exact ⟨k + 1, ab m, j / 2, u, q, c', A', xx, by go_num, by go_num, rfl, rfl, by omega, rfl, HM2, HX2, hj2, by omega, Lib.hid (by have := HQ.out; omega), by omega, HP, HV2, HXX, HB⟩
              case measure => simp [intOf]; omega
        · have hltI : ¬ (k : Int) < ((ht n : Nat) : Int) := by omega
          have hkk : k = ht n := by omega
          have HF := Lib.hid (vf_some (root := root) hin hkk HV.out)
          have HF2 : Hid (vfS root leaf (i : Int) (n : Int) pf = decide (xx = root ∧ q = 0)) := Lib.hid (by have := HF.out; rw [HL.out] at this; rw [this]; congr 2; have := HQ.out; apply propext; omega)
          by_cases e1 : xx = root
          · subst e1
            have e2 : (xx == xx) = true := by simp
            by_cases e3 : q = 0
            · have e4 : ((q : Int) == 0) = true := by simp; omega
              have e5 : Hid (decide (xx = xx ∧ q = 0) = true) := Lib.hid (by simp [e3])
              go_wp2_with fail
              go_ret
              exact ⟨by rw [HF2.out, e5.out]; rfl, HB.out⟩
            · have e4 : ((q : Int) == 0) = false := by simp; omega
              have e4' : ¬ (q : Int) = 0 := by omega
              have e5 : Hid (decide (xx = xx ∧ q = 0) = false) := Lib.hid (by simp [e3])
              go_wp2_with fail
              go_ret
              exact ⟨by rw [HF2.out, e5.out]; rfl, HB.out⟩
          · have e2 : (xx == root) = false := by simpa using e1
            have e5 : Hid (decide (xx = root ∧ q = 0) = false) := Lib.hid (by simp [e1])
            go_wp2_with fail
            go_ret
            exact ⟨by rw [HF2.out, e5.out]; rfl, HB.out⟩
end Go.Proofs.Ytbhdghopdhehdaa.Wk
