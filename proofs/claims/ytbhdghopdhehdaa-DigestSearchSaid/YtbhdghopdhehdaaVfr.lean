/- Whether a proof is accepted, in the layer and in its reference. Condition: the slice reads as 64-bit numbers. -/
import Derived.Test.YtbhdghopdhehdaaPf
set_option linter.unusedSimpArgs false
set_option linter.unusedVariables false
namespace Go.Proofs.Ytbhdghopdhehdaa.Mt
/-- the node and how much of the proof is used behind k levels -/
def vs (pf : List Int) (leaf : Int) (i n : Nat) : Nat → Option (Int × Nat)
  | 0 => some (leaf, 0)
  | k + 1 => match vs pf leaf i n k with
    | none => none
    | some (x, u) => if ¬ ix i k % 2 = 1 ∧ ¬ ix i k + 1 < abn n k then some (x, u) else if u < pf.length then some (if ix i k % 2 = 1 then jn (iat pf u) x else jn x (iat pf u), u + 1) else none
section
variable {pf : List Int} {leaf : Int} {i n k : Nat} {x : Int} {u : Nat}
theorem vs_alone (h : vs pf leaf i n k = some (x, u)) (h1 : ¬ ix i k % 2 = 1) (h2 : ¬ ix i k + 1 < abn n k) : vs pf leaf i n (k + 1) = some (x, u) := by rw [vs, h]; simp only; rw [if_pos ⟨h1, h2⟩]
theorem vs_empty (h : vs pf leaf i n k = some (x, u)) (h1 : ix i k % 2 = 1 ∨ ix i k + 1 < abn n k) (h2 : ¬ u < pf.length) : vs pf leaf i n (k + 1) = none := by
  rw [vs, h]; simp only; rw [if_neg (by omega), if_neg h2]
theorem vs_odd (h : vs pf leaf i n k = some (x, u)) (h1 : ix i k % 2 = 1) (h2 : u < pf.length) : vs pf leaf i n (k + 1) = some (jn (iat pf u) x, u + 1) := by
  rw [vs, h]; simp only; rw [if_neg (by omega), if_pos h2, if_pos h1]
theorem vs_even (h : vs pf leaf i n k = some (x, u)) (h1 : ¬ ix i k % 2 = 1) (h1' : ix i k + 1 < abn n k) (h2 : u < pf.length) : vs pf leaf i n (k + 1) = some (jn x (iat pf u), u + 1) := by
  rw [vs, h]; simp only; rw [if_neg (by omega), if_pos h2, if_neg h1]
theorem vs_none (h : vs pf leaf i n k = none) : ∀ d, vs pf leaf i n (k + d) = none := by
  intro d
  induction d with
  | zero => exact h
  | succ d ih => rw [Nat.add_succ, vs, ih]
end
def vfS (root leaf : Int) (i n : Int) (pf : List Int) : Bool :=
  if i < 0 ∨ n ≤ i then false else match vs pf leaf i.toNat n.toNat (ht n.toNat) with
    | none => false
    | some (x, u) => decide (x = root ∧ u = pf.length)
theorem vf_none {root leaf : Int} {i n k : Nat} {pf : List Int} (hin : i < n) (hk : k ≤ ht n) (h : vs pf leaf i n k = none) : vfS root leaf i n pf = false := by
  have h2 := vs_none h (ht n - k)
  rw [show k + (ht n - k) = ht n by omega] at h2
  rw [vfS, if_neg (by omega), Int.toNat_natCast, Int.toNat_natCast, h2]
theorem vf_some {root leaf : Int} {i n k : Nat} {pf : List Int} {x : Int} {u : Nat} (hin : i < n) (hk : k = ht n) (h : vs pf leaf i n k = some (x, u)) : vfS root leaf i n pf = decide (x = root ∧ u = pf.length) := by
  subst hk
  rw [vfS, if_neg (by omega), Int.toNat_natCast, Int.toNat_natCast, h]
end Go.Proofs.Ytbhdghopdhehdaa.Mt
namespace Go.Proofs.Ytbhdghopdhehdaa.Wk
open Go.RowKit
open Go.Proofs.Ytbhdghopdhehdaa.Mt
set_option maxHeartbeats 2000000 in
set_option maxRecDepth 100000 in
theorem verify25 (root leaf : Int) (i n : Int) (A : Option Addr) (p c : Nat) (pf : List Int) (w : World) (h : Rk .u64 w w.heap.size A p pf) (hleaf : 0 ≤ leaf ∧ leaf ≤ 18446744073709551615) (hnm : n ≤ 9223372036854775807) :
    Calls Try.prog 25 #[.int .u64 root, .int .u64 leaf, .int .i64 i, .int .i64 n, .slice A p c] w fun e w' => e = .returned (.bool (vfS root leaf i n pf)) ∧ Below w.heap.size w w' := by
  have hp := h.2.1
  have HL := Lib.hid h.1
  have HR := Lib.hid h
  have HU : Hid (U64 pf) := Lib.hid (fun i => u64_r (h.2.2.2 i))
  clear h
  by_cases g1 : i < 0
  · have HE : Hid (vfS root leaf i n pf = false) := Lib.hid (by rw [vfS, if_pos (.inl g1)])
    go_enter Try.func25, Try.ntmps25
    go_wp2_with fail
    go_ret
    exact ⟨by rw [HE.out]; rfl, Below.refl _ _⟩
  · have g1' : decide (i < 0) = false := decide_eq_false g1
    by_cases g2 : n ≤ i
    · have HE : Hid (vfS root leaf i n pf = false) := Lib.hid (by rw [vfS, if_pos (.inr g2)])
      go_enter Try.func25, Try.ntmps25
      go_wp2_with fail
      go_ret
      exact ⟨by rw [HE.out]; rfl, Below.refl _ _⟩
    · have g2' : decide (n ≤ i) = false := decide_eq_false g2
      obtain ⟨i, rfl⟩ : ∃ j : Nat, i = (j : Int) := ⟨i.toNat, by omega⟩
      obtain ⟨n, rfl⟩ : ∃ j : Nat, n = (j : Int) := ⟨n.toNat, by omega⟩
      have hin : i < n := by omega
      have h1 : 1 ≤ n := by omega
      have hht := ht_le n
      have hnn : n ≤ 9223372036854775807 := by omega
      go_enter Try.func25, Try.ntmps25
      go_wp2_with fail
      clear g1 g1' g2 g2'
      go_loopw [11, 12, 13, 14] (fun x iv mv uv wr => ∃ (k m j u : Nat) (xx : Int), iv = .int .i64 j ∧ mv = .int .i64 m ∧ uv = .int .i64 u ∧ k ≤ ht n ∧ x = .int .u64 xx ∧ Hid (abn n k = m) ∧ Hid (ix i k = j) ∧ j < m ∧ m ≤ n ∧ u ≤ p ∧ Hid (vs pf leaf i n k = some (xx, u)) ∧ Hid (0 ≤ xx ∧ xx ≤ 18446744073709551615) ∧ Hid (Below w.heap.size w wr)) (fun _ _ mv _ _ => (intOf mv).toNat)
      case atStart => exact ⟨0, n, i, 0, leaf, rfl, rfl, rfl, Nat.zero_le _, rfl, Lib.hid rfl, Lib.hid rfl, hin, Nat.le_refl _, Nat.zero_le _, Lib.hid rfl, Lib.hid hleaf, Lib.hid (Below.refl _ _)⟩
      case round =>
        obtain ⟨k, m, j, u, xx, rfl, rfl, rfl, hk, rfl, HM, HX, hjm, hmn, hup, HV, HXX, HB⟩ := hrel
        by_cases hlt : 1 < m
        · have hltI : (1 : Int) < (m : Int) := by omega
          have hkk : k < ht n := by
            rcases Nat.lt_or_ge k (ht n) with h3 | h3
            · exact h3
            · have := abn_one h1 hk h3; have := HM.out; omega
          have hab := ab_le hlt
          have HM2 : Hid (abn n (k + 1) = ab m) := Lib.hid (by rw [abn_next, HM.out])
          have HX2 : Hid (ix i (k + 1) = j / 2) := Lib.hid (by rw [ix_next, HX.out])
          have hj2 : j / 2 < ab m := by unfold ab; omega
          have HAB : Hid ((m : Int) / 2 + (m : Int) % 2 = ((ab m : Nat) : Int)) := Lib.hid (by unfold ab; omega)
          by_cases ho : j % 2 = 1
          · have hoI : (j : Int) % 2 = 1 := by omega
            have hoB : ((j : Int) % 2 == 1) = true := by simp; omega
            by_cases hus : u < p
            · have husI : (u : Int) < (p : Int) := by omega
              have huI : ((u : Int) == (p : Int)) = false := by simp; omega
              have huJ : ¬ (u : Int) = (p : Int) := by omega
              have HV2 := Lib.hid (vs_odd HV.out (by rw [HX.out]; exact ho) (by rw [HL.out]; exact hus))
              obtain ⟨b, off, rfl, _, d1⟩ := (HR.out.below HB.out (Nat.le_refl _)).get hus
              have HY := Lib.hid (HU.out u)
              obtain ⟨y, hy⟩ : ∃ y, iat pf u = y := ⟨_, rfl⟩
              rw [hy] at d1 HY HV2
              clear hy
              go_wp2_with fail
              refine (join14 y xx _ HY.out HXX.out).mono ?_
              rintro e w2 ⟨rfl, hb⟩
              have HB2 := Lib.hid (HB.out.trans (hb.mono HB.out.size))
              clear hb
              go_wp2_with fail
              go_roundw
              case rel => exact ⟨k + 1, ab m, j / 2, u + 1, jn y xx, by go_num, by first | (rw [← HAB.out]; done) | (rw [← HAB.out]; rfl) | (rw [← HAB.out]; go_num), by go_num, by omega, rfl, HM2, HX2, hj2, by omega, by omega, HV2, Lib.hid (jn_in _ _), HB2⟩
              case measure => simp [intOf]; omega
            · have hus : u = p := by omega
              have huI : ((u : Int) == (p : Int)) = true := by simp; omega
              have HF := Lib.hid (vf_none (root := root) hin (by omega) (vs_empty HV.out (.inl (by rw [HX.out]; exact ho)) (by rw [HL.out]; omega)))
              subst hus
              clear hup
              go_wp2_with fail
              go_ret
              exact ⟨by rw [HF.out]; rfl, HB.out⟩
          · have hoI : ¬ (j : Int) % 2 = 1 := by omega
            have hoB : ((j : Int) % 2 == 1) = false := by simp; omega
            by_cases hj1 : j + 1 < m
            · have hjI : decide ((j : Int) < (m : Int) - 1) = true := decide_eq_true (by omega)
              have hjJ : (j : Int) < (m : Int) - 1 := by omega
              by_cases hus : u < p
              · have husI : (u : Int) < (p : Int) := by omega
                have huI : ((u : Int) == (p : Int)) = false := by simp; omega
                have huJ : ¬ (u : Int) = (p : Int) := by omega
                have HV2 := Lib.hid (vs_even HV.out (by rw [HX.out]; exact ho) (by rw [HX.out, HM.out]; exact hj1) (by rw [HL.out]; exact hus))
                obtain ⟨b, off, rfl, _, d1⟩ := (HR.out.below HB.out (Nat.le_refl _)).get hus
                have HY := Lib.hid (HU.out u)
                obtain ⟨y, hy⟩ : ∃ y, iat pf u = y := ⟨_, rfl⟩
                rw [hy] at d1 HY HV2
                clear hy
                go_wp2_with fail
                refine (join14 xx y _ HXX.out HY.out).mono ?_
                rintro e w2 ⟨rfl, hb⟩
                have HB2 := Lib.hid (HB.out.trans (hb.mono HB.out.size))
                clear hb
                go_wp2_with fail
                go_roundw
                case rel => exact ⟨k + 1, ab m, j / 2, u + 1, jn xx y, by go_num, by first | (rw [← HAB.out]; done) | (rw [← HAB.out]; rfl) | (rw [← HAB.out]; go_num), by go_num, by omega, rfl, HM2, HX2, hj2, by omega, by omega, HV2, Lib.hid (jn_in _ _), HB2⟩
                case measure => simp [intOf]; omega
              · have hus : u = p := by omega
                have huI : ((u : Int) == (p : Int)) = true := by simp; omega
                have HF := Lib.hid (vf_none (root := root) hin (by omega) (vs_empty HV.out (.inr (by rw [HX.out, HM.out]; exact hj1)) (by rw [HL.out]; omega)))
                subst hus
                clear hup
                go_wp2_with fail
                go_ret
                exact ⟨by rw [HF.out]; rfl, HB.out⟩
            · have hjI : decide ((j : Int) < (m : Int) - 1) = false := decide_eq_false (by omega)
              have hjJ : ¬ (j : Int) < (m : Int) - 1 := by omega
              have HV2 := Lib.hid (vs_alone HV.out (by rw [HX.out]; exact ho) (by rw [HX.out, HM.out]; exact hj1))
              go_wp2_with fail
              go_roundw
              case rel => exact ⟨k + 1, ab m, j / 2, u, xx, by go_num, by first | (rw [← HAB.out]; done) | (rw [← HAB.out]; rfl) | (rw [← HAB.out]; go_num), by go_num, by omega, rfl, HM2, HX2, hj2, by omega, by omega, HV2, HXX, HB⟩
              case measure => simp [intOf]; omega
        · have hltI : ¬ (1 : Int) < (m : Int) := by omega
          have hkk : k = ht n := abn_end hk (by rw [HM.out]; exact hlt)
          have HF := Lib.hid (vf_some (root := root) hin hkk HV.out)
          have HF2 : Hid (vfS root leaf (i : Int) (n : Int) pf = decide (xx = root ∧ u = p)) := Lib.hid (by have := HF.out; rw [HL.out] at this; exact this)
          by_cases e1 : xx = root
          · subst e1
            have e2 : (xx == xx) = true := by simp
            by_cases e3 : u = p
            · subst e3
              have e4 : ((u : Int) == (u : Int)) = true := by simp
              have e5 : Hid (decide (xx = xx ∧ u = u) = true) := Lib.hid (by simp)
              go_wp2_with fail
              go_ret
              exact ⟨by rw [HF2.out, e5.out]; rfl, HB.out⟩
            · have e4 : ((u : Int) == (p : Int)) = false := by simp; omega
              have e4' : ¬ (u : Int) = (p : Int) := by omega
              have e5 : Hid (decide (xx = xx ∧ u = p) = false) := Lib.hid (by simp [e3])
              go_wp2_with fail
              go_ret
              exact ⟨by rw [HF2.out, e5.out]; rfl, HB.out⟩
          · have e2 : (xx == root) = false := by simpa using e1
            have e5 : Hid (decide (xx = root ∧ u = p) = false) := Lib.hid (by simp [e1])
            go_wp2_with fail
            go_ret
            exact ⟨by rw [HF2.out, e5.out]; rfl, HB.out⟩
end Go.Proofs.Ytbhdghopdhehdaa.Wk
