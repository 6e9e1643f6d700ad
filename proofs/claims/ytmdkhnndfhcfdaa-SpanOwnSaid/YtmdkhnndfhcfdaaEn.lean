/- The ends of the valid intervals of a list, ascending; whether a second is in the combination of two sets. Conditions: the slices read as lists; at most 5000 ends. -/
import Derived.Test.YtmdkhnndfhcfdaaPu
set_option linter.unusedSimpArgs false
set_option linter.unusedVariables false
namespace Go.Proofs.Ytmdkhnndfhcfdaa.Mt
/-- x is an end of one of the first k intervals, a valid one -/
def Epk (l : List Iv) (k : Nat) (x : Int) : Prop := ∃ i, i < k ∧ Ok (vat l i) ∧ (x = (vat l i).1 ∨ x = (vat l i).2)
def Ep (l : List Iv) (x : Int) : Prop := ∃ v ∈ l, Ok v ∧ (x = v.1 ∨ x = v.2)
theorem Epk.no {l : List Iv} {k : Nat} (h : ¬ Ok (vat l k)) (x : Int) : Epk l (k + 1) x ↔ Epk l k x := by
  constructor
  · rintro ⟨i, hi, h1, h2⟩
    rcases Nat.lt_or_ge i k with h3 | h3
    · exact ⟨i, h3, h1, h2⟩
    · obtain rfl : i = k := by omega
      exact absurd h1 h
  · rintro ⟨i, hi, h1, h2⟩; exact ⟨i, by omega, h1, h2⟩
theorem Epk.yes {l : List Iv} {k : Nat} (h : Ok (vat l k)) (x : Int) : Epk l (k + 1) x ↔ (Epk l k x ∨ x = (vat l k).1) ∨ x = (vat l k).2 := by
  constructor
  · rintro ⟨i, hi, h1, h2⟩
    rcases Nat.lt_or_ge i k with h3 | h3
    · exact .inl (.inl ⟨i, h3, h1, h2⟩)
    · obtain rfl : i = k := by omega
      exact h2.elim (fun h => .inl (.inr h)) .inr
  · rintro ((⟨i, hi, h1, h2⟩ | h1) | h1)
    · exact ⟨i, by omega, h1, h2⟩
    · exact ⟨k, by omega, h, .inl h1⟩
    · exact ⟨k, by omega, h, .inr h1⟩
theorem Epk.all (l : List Iv) (x : Int) : Epk l l.length x ↔ Ep l x := by
  constructor
  · rintro ⟨i, hi, h⟩; exact ⟨vat l i, vat_mem hi, h⟩
  · rintro ⟨v, hv, h⟩
    obtain ⟨i, hi, rfl⟩ := mem_vat hv
    exact ⟨i, hi, h⟩
theorem Epk.zero (l : List Iv) (x : Int) : ¬ Epk l 0 x := by rintro ⟨i, hi, _⟩; omega
def inB (way : Int) (x y : Bool) : Bool := if way = 1 then x || y else if way = 2 then x && y else x && !y
end Go.Proofs.Ytmdkhnndfhcfdaa.Mt
namespace Go.Proofs.Ytmdkhnndfhcfdaa.Wk
open Go.RowKit
open Go.Proofs.Ytmdkhnndfhcfdaa.Mt
theorem wf_of {x : Int} (h : In64 x) : (Lit.int .i64 x).wf = true := by
  unfold In64 at h
  simpa [Lit.wf, IntKind.min, IntKind.max, IntKind.signed, IntKind.bits] using h
theorem in_of {x : Int} (h : (Lit.int .i64 x).wf = true) : In64 x := by
  unfold In64
  simpa [Lit.wf, IntKind.min, IntKind.max, IntKind.signed, IntKind.bits] using h
set_option maxHeartbeats 2000000 in
set_option maxRecDepth 100000 in
theorem ends37 (A B : Option Addr) (n c m c' : Nat) (l : List Iv) (os : List Int) (w : World) (h : Rp w w.heap.size A n l) (h2 : Rk .i64 w w.heap.size B m os) (ha : Asc os) (hN : m + 2 * n ≤ 4900) : Calls Try.prog 37 #[.slice A n c, .slice B m c'] w fun e w' => ∃ A' c' R, e = .returned (.slice A' R.length c') ∧ Rk .i64 w' w'.heap.size A' R.length R ∧ Asc R ∧ (∀ x, x ∈ R ↔ x ∈ os ∨ Ep l x) ∧ R.length ≤ m + 2 * n ∧ Below w.heap.size w w' := by
  have HR := Lib.hid h
  have HL := Lib.hid h.1
  have HOS := Lib.hid h2
  have HOL := Lib.hid h2.1
  have HA := Lib.hid ha
  have hn := h.2.1
  clear h ha h2
  go_enter Try.func37, Try.ntmps37
  go_wp2_with fail
  go_loopw [5, 6] (fun v iv wr => ∃ (k : Nat) (P : Option Addr) (cp : Nat) (R : List Int), k ≤ n ∧ v = .slice P R.length cp ∧ iv = .int .i64 k ∧ R.length ≤ m + 2 * k ∧ Hid (Rk .i64 wr wr.heap.size P R.length R) ∧ Hid (Asc R) ∧ Hid (∀ x, x ∈ R ↔ x ∈ os ∨ Epk l k x) ∧ Hid (Below w.heap.size w wr)) (fun _ iv _ => n - (intOf iv).toNat)
  case atStart => exact ⟨0, B, c', os, Nat.zero_le _, by rw [HOL.out], rfl, by rw [HOL.out]; omega, Lib.hid (by rw [HOL.out]; exact HOS.out), HA, Lib.hid (fun x => ⟨.inl, fun h => h.elim id (fun h => absurd h (Epk.zero l x))⟩), Lib.hid (Below.refl _ _)⟩
  case round =>
    obtain ⟨k, P, cp, R, hk, rfl, rfl, hRl, HO, HAR, HM, HBW⟩ := hrel
    by_cases hlt : k < n
    · have hltI : (k : Int) < (n : Int) := by omega
      obtain ⟨b, off, rfl, hbb, d1, d2⟩ := (HR.out.below HBW.out (Nat.le_refl _)).get hlt
      obtain ⟨⟨x, y⟩, hxy⟩ : ∃ v, vat l k = v := ⟨_, rfl⟩
      have HV := Lib.hid hxy
      have HI : Hid (In64 x ∧ In64 y) := Lib.hid (by have := HR.out.2.2.2 k; rw [hxy] at this; exact this)
      rw [hxy] at d1 d2
      simp only at d1 d2
      clear hxy
      have HD : Hid (∀ W, Below w.heap.size w W → b < W.heap.size ∧ W.cell? ⟨b, off + k * 2, none⟩ = some (.int .i64 x) ∧ W.cell? ⟨b, off + k * 2 + 1, none⟩ = some (.int .i64 y)) := Lib.hid (fun W hW => by
        obtain ⟨b', o', e, hlt', hc⟩ := (HR.out.below hW (Nat.le_refl _)).2.2.1 (by omega)
        injection e with e
        injection e with e1 e2
        subst e1 e2
        have := hc k hlt
        rw [HV.out] at this
        exact ⟨Nat.lt_of_lt_of_le hlt' hW.size, this⟩)
      have hb2 : b < wr.heap.size := Nat.lt_of_lt_of_le hbb HBW.out.size
      go_wp2_with fail
      refine (valid11 x y _).mono ?_
      rintro e w2 ⟨rfl, hb⟩
      replace HO := Lib.hid (HO.out.up hb)
      replace HBW := Lib.hid (upB HBW.out hb)
      clear hb d1 d2 hb2
      by_cases ho : Ok (x, y)
      · rw [okB_yes ho]
        have HS : Hid (∀ z, Epk l (k + 1) z ↔ (Epk l k z ∨ z = x) ∨ z = y) := Lib.hid (fun z => by have := Epk.yes (l := l) (k := k) (by rw [HV.out]; exact ho) z; rw [HV.out] at this; exact this)
        clear ho
        obtain ⟨hb2, d1, d2⟩ := HD.out w2 HBW.out
        go_wp2_with fail
        replace HO := Lib.hid (HO.out.up (Below.refl w2.heap.size w2).drew)
        replace HBW := Lib.hid (upB HBW.out (Below.refl w2.heap.size w2).drew)
        first | (go_region_held3 (fun w' => Hid (Below w.heap.size w w') ∧ b < w'.heap.size ∧ w'.cell? ⟨b, off + k * 2, none⟩ = some (.int .i64 x) ∧ w'.cell? ⟨b, off + k * 2 + 1, none⟩ = some (.int .i64 y)) (first | exact ⟨HBW, HD.out _ HBW.out⟩ | assumption)
          (first
            | (have hq3 := HR3.out; clear hq3; go_at_call 42; refine (put42 A3 R3.length c3 R3 y _ HR3.out (by have := HL3.out; omega) HA3.out (wf_of HI.out.2)).mono ?_; rintro e w4 ⟨A4, c4, R4, rfl, hr4, ha4, hm4, hl4, hb4⟩; have HR4 := Lib.hid hr4; have HA4 := Lib.hid ha4; have HM4 := Lib.hid hm4; have HL4 := Lib.hid hl4; replace HBW := Lib.hid (upB HBW.out hb4); clear hr4 ha4 hm4 hl4 hb4)
            | (go_at_call 42; refine (put42 P R.length cp R x _ HO.out (by omega) HAR.out (wf_of HI.out.1)).mono ?_; rintro e w3 ⟨A3, c3, R3, rfl, hr3, ha3, hm3, hl3, hb3⟩; have HR3 := Lib.hid hr3; have HA3 := Lib.hid ha3; have HM3 := Lib.hid hm3; have HL3 := Lib.hid hl3; replace HBW := Lib.hid (upB HBW.out hb3); clear hr3 ha3 hm3 hl3 hb3))) | fail
        go_wp2_with fail
        go_roundw
        case rel => exact ⟨k + 1, A4, c4, R4, by omega, rfl, by go_num, by have := HL3.out; have := HL4.out; omega, HR4, HA4, Lib.hid (fun z => by rw [HM4.out z, HM3.out z, HM.out z, HS.out z]; simp only [or_assoc]), HBW⟩
        case measure => simp [intOf]; omega
      · rw [okB_no ho]
        have HS : Hid (∀ z, Epk l (k + 1) z ↔ Epk l k z) := Lib.hid (Epk.no (by rw [HV.out]; exact ho))
        clear ho
        go_wp2_with fail
        go_roundw
        case rel => exact ⟨k + 1, P, cp, R, by omega, rfl, by go_num, by omega, HO, HAR, Lib.hid (fun x => by rw [HM.out x, HS.out x]), HBW⟩
        case measure => simp [intOf]; omega
    · have hltI : ¬ (k : Int) < (n : Int) := by omega
      have HE : Hid (∀ x, Epk l k x ↔ Ep l x) := Lib.hid (fun x => by have := Epk.all l x; rw [HL.out] at this; rw [show k = n by omega]; exact this)
      have hkn : k = n := by omega
      go_wp2_with fail
      go_ret
      exact ⟨P, cp, R, rfl, HO.out, HAR.out, fun x => by rw [HM.out x, HE.out x], by omega, HBW.out⟩
theorem in38 (A B : Option Addr) (n c m c' : Nat) (a b : List Iv) (t way : Int) (w : World) (h : Rp w w.heap.size A n a) (h2 : Rp w w.heap.size B m b) : Calls Try.prog 38 #[.slice A n c, .slice B m c', .int .i64 t, .int .i64 way] w fun e w' => e = .returned (.bool (inB way (hsB a t) (hsB b t))) ∧ Below w.heap.size w w' := by
  have HA := Lib.hid h
  have HB := Lib.hid h2
  clear h h2
  obtain ⟨x, hx⟩ : ∃ x, hsB a t = x := ⟨_, rfl⟩
  obtain ⟨y, hy⟩ : ∃ y, hsB b t = y := ⟨_, rfl⟩
  have HX := Lib.hid hx
  have HY := Lib.hid hy
  rw [hx, hy]
  have HE1 : Hid (way = 1 → inB way x y = (x || y)) := Lib.hid (fun h => by unfold inB; rw [if_pos h])
  have HE2 : Hid (way ≠ 1 → way = 2 → inB way x y = (x && y)) := Lib.hid (fun h h2 => by unfold inB; rw [if_neg h, if_pos h2])
  have HE3 : Hid (way ≠ 1 → way ≠ 2 → inB way x y = (x && !y)) := Lib.hid (fun h h2 => by unfold inB; rw [if_neg h, if_neg h2])
  clear hx hy
  go_enter Try.func38, Try.ntmps38
  go_wp2_with fail
  refine (has25 A n c a t _ HA.out).mono ?_
  rintro e w1 ⟨rfl, hb1⟩
  rw [HX.out]
  have HB1 := Lib.hid hb1
  have HBB := Lib.hid (HB.out.up hb1)
  clear hb1
  go_wp2_with fail
  refine (has25 B m c' b t _ HBB.out).mono ?_
  rintro e w2 ⟨rfl, hb2⟩
  rw [HY.out]
  have HB2 := Lib.hid (upB HB1.out hb2)
  clear hb2
  by_cases q1 : way = 1
  · have e1 : (way == 1) = true := by simp [q1]
    have HE := HE1.out q1
    have HEH := Lib.hid HE
    clear HE HE1 HE2 HE3 q1
    rcases fot x with rfl | rfl
    · go_wp2_with fail
      go_ret
      exact ⟨by rw [HEH.out]; rfl, HB2.out⟩
    · go_wp2_with fail
      go_ret
      exact ⟨by rw [HEH.out]; rfl, HB2.out⟩
  · have e1 : (way == 1) = false := by simp [q1]
    by_cases q2 : way = 2
    · have e2 : (way == 2) = true := by simp [q2]
      have HE := HE2.out q1 q2
      have HEH := Lib.hid HE
      clear HE HE1 HE2 HE3 q1 q2
      rcases fot x with rfl | rfl
      · go_wp2_with fail
        go_ret
        exact ⟨by rw [HEH.out]; rfl, HB2.out⟩
      · go_wp2_with fail
        go_ret
        exact ⟨by rw [HEH.out]; rfl, HB2.out⟩
    · have e2 : (way == 2) = false := by simp [q2]
      have HE := HE3.out q1 q2
      have HEH := Lib.hid HE
      clear HE HE1 HE2 HE3 q1 q2
      rcases fot x with rfl | rfl
      · go_wp2_with fail
        go_ret
        exact ⟨by rw [HEH.out]; rfl, HB2.out⟩
      · rcases fot y with rfl | rfl
        · go_wp2_with fail
          go_ret
          exact ⟨by rw [HEH.out]; rfl, HB2.out⟩
        · go_wp2_with fail
          go_ret
          exact ⟨by rw [HEH.out]; rfl, HB2.out⟩
end Go.Proofs.Ytmdkhnndfhcfdaa.Wk
