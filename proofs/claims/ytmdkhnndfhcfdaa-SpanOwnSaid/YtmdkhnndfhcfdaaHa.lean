/- Whether a second is in the set, in the layer and in its reference; whether two lists are equal. Conditions: the slices read as lists. -/
import Derived.Test.YtmdkhnndfhcfdaaSp
set_option linter.unusedSimpArgs false
set_option linter.unusedVariables false
namespace Go.Proofs.Ytmdkhnndfhcfdaa.Wk
open Go.RowKit
open Go.Proofs.Ytmdkhnndfhcfdaa.Mt
set_option maxHeartbeats 1000000 in
set_option maxRecDepth 100000 in
theorem has24 (A : Option Addr) (n c : Nat) (l : List Iv) (t : Int) (w : World) (h : Rp w w.heap.size A n l) :
    Calls Try.prog 24 #[.slice A n c, .int .i64 t] w fun e w' => e = .returned (.bool (hsB l t)) ∧ Below w.heap.size w w' := by
  have hn := h.2.1
  have HL := Lib.hid h.1
  have HR := Lib.hid h
  clear h
  go_enter Try.func24, Try.ntmps24
  go_wp2_with fail
  go_loopw [9] (fun iv wr => ∃ k : Nat, k ≤ n ∧ iv = .int .i64 k ∧ Hid (Below w.heap.size w wr) ∧ Hid (hsk l t k = false)) (fun iv _ => n - (intOf iv).toNat)
  case atStart => exact ⟨0, Nat.zero_le _, rfl, Lib.hid (Below.refl _ _), Lib.hid rfl⟩
  case round =>
    obtain ⟨k, hk, rfl, HB, HF⟩ := hrel
    by_cases hlt : k < n
    · have hltI : (k : Int) < (n : Int) := by omega
      obtain ⟨b, off, rfl, hbb, d1, d2⟩ := (HR.out.below HB.out (Nat.le_refl _)).get hlt
      have HD : Hid (∀ W, Below wr.heap.size wr W → W.cell? ⟨b, off + k * 2, none⟩ = some (.int .i64 (vat l k).1) ∧ W.cell? ⟨b, off + k * 2 + 1, none⟩ = some (.int .i64 (vat l k).2)) := Lib.hid (fun W hW => ⟨(hW.cell (p := ⟨b, _, none⟩) (Nat.lt_of_lt_of_le hbb HB.out.size)).trans d1, (hW.cell (p := ⟨b, _, none⟩) (Nat.lt_of_lt_of_le hbb HB.out.size)).trans d2⟩)
      have HY : Hid (okB (vat l k).1 (vat l k).2 = true → (vat l k).1 ≤ t → t < (vat l k).2 → hsB l t = true) := Lib.hid (fun a1 a2 a3 => by
        have := hsk_yes a1 a2 a3 (n - (k + 1))
        rw [show k + 1 + (n - (k + 1)) = n by omega] at this
        rw [hsB, HL.out]; exact this)
      have HN : Hid (¬ (okB (vat l k).1 (vat l k).2 = true ∧ (vat l k).1 ≤ t ∧ t < (vat l k).2) → hsk l t (k + 1) = false) := Lib.hid (fun a => hsk_no HF.out a)
      obtain ⟨⟨x, y⟩, hxy⟩ : ∃ v, vat l k = v := ⟨_, rfl⟩
      rw [hxy] at d1 d2 HD HY HN
      simp only at d1 d2 HD HY HN
      clear hxy
      have hb2 : b < wr.heap.size := Nat.lt_of_lt_of_le hbb HB.out.size
      go_wp2_with fail
      refine (valid10 x y _).mono ?_
      rintro e w2 ⟨rfl, hb⟩
      obtain ⟨q, hq⟩ : ∃ q, okB x y = q := ⟨_, rfl⟩
      rw [hq] at HY HN ⊢
      clear hq d1 d2
      have hX : Bx w2 wr.heap.size 25 #[.int .i64 x, .int .i64 y] := (Bx.new wr 25 #[.int .i64 x, .int .i64 y]).next hb
      obtain ⟨c0, c1⟩ := hX.cells2
      have hlx := hX.lt
      have HB2 : Hid (Below w.heap.size w w2) := Lib.hid (HB.out.trans ((((Below.refl wr.heap.size wr).alloc (Nat.le_refl _) _).trans (hb.mono (by simp))).mono HB.out.size))
      clear hX hb HD
      rcases fot q with rfl | rfl
      · go_wp2_with fail
        go_roundw
        case rel => exact ⟨k + 1, by omega, by go_num, HB2, Lib.hid (HN.out (fun a => by simp at a))⟩
        case measure => simp [intOf]; omega
      · by_cases q1 : x ≤ t
        · by_cases q2 : t < y
          · have HE := Lib.hid (HY.out rfl q1 q2)
            go_wp2_with fail
            go_ret
            exact ⟨by rw [HE.out]; rfl, HB2.out⟩
          · have q2' : decide (t < y) = false := decide_eq_false q2
            have HZ := Lib.hid (HN.out (fun a => q2 a.2.2))
            go_wp2_with fail
            go_roundw
            case rel => exact ⟨k + 1, by omega, by go_num, HB2, HZ⟩
            case measure => simp [intOf]; omega
        · have q1' : decide (x ≤ t) = false := decide_eq_false q1
          have HZ := Lib.hid (HN.out (fun a => q1 a.2.1))
          go_wp2_with fail
          go_roundw
          case rel => exact ⟨k + 1, by omega, by go_num, HB2, HZ⟩
          case measure => simp [intOf]; omega
    · have hkk : k = n := by omega
      have HE : Hid (hsB l t = false) := Lib.hid (by rw [hsB, HL.out, ← hkk]; exact HF.out)
      go_wp2_with fail
      go_ret
      exact ⟨by rw [HE.out]; rfl, HB.out⟩
set_option maxHeartbeats 1000000 in
set_option maxRecDepth 100000 in
theorem has25 (A : Option Addr) (n c : Nat) (l : List Iv) (t : Int) (w : World) (h : Rp w w.heap.size A n l) :
    Calls Try.prog 25 #[.slice A n c, .int .i64 t] w fun e w' => e = .returned (.bool (hsB l t)) ∧ Below w.heap.size w w' := by
  have hn := h.2.1
  have HL := Lib.hid h.1
  have HR := Lib.hid h
  clear h
  go_enter Try.func25, Try.ntmps25
  go_wp2_with fail
  go_loopw [5] (fun iv wr => ∃ k : Nat, k ≤ n ∧ iv = .int .i64 k ∧ Hid (Below w.heap.size w wr) ∧ Hid (hsk l t k = false)) (fun iv _ => n - (intOf iv).toNat)
  case atStart => exact ⟨0, Nat.zero_le _, rfl, Lib.hid (Below.refl _ _), Lib.hid rfl⟩
  case round =>
    obtain ⟨k, hk, rfl, HB, HF⟩ := hrel
    by_cases hlt : k < n
    · have hltI : (k : Int) < (n : Int) := by omega
      obtain ⟨b, off, rfl, hbb, d1, d2⟩ := (HR.out.below HB.out (Nat.le_refl _)).get hlt
      have HD : Hid (∀ W, Below wr.heap.size wr W → W.cell? ⟨b, off + k * 2, none⟩ = some (.int .i64 (vat l k).1) ∧ W.cell? ⟨b, off + k * 2 + 1, none⟩ = some (.int .i64 (vat l k).2)) := Lib.hid (fun W hW => ⟨(hW.cell (p := ⟨b, _, none⟩) (Nat.lt_of_lt_of_le hbb HB.out.size)).trans d1, (hW.cell (p := ⟨b, _, none⟩) (Nat.lt_of_lt_of_le hbb HB.out.size)).trans d2⟩)
      have HY : Hid (okB (vat l k).1 (vat l k).2 = true → (vat l k).1 ≤ t → t < (vat l k).2 → hsB l t = true) := Lib.hid (fun a1 a2 a3 => by
        have := hsk_yes a1 a2 a3 (n - (k + 1))
        rw [show k + 1 + (n - (k + 1)) = n by omega] at this
        rw [hsB, HL.out]; exact this)
      have HN : Hid (¬ (okB (vat l k).1 (vat l k).2 = true ∧ (vat l k).1 ≤ t ∧ t < (vat l k).2) → hsk l t (k + 1) = false) := Lib.hid (fun a => hsk_no HF.out a)
      obtain ⟨⟨x, y⟩, hxy⟩ : ∃ v, vat l k = v := ⟨_, rfl⟩
      rw [hxy] at d1 d2 HD HY HN
      simp only at d1 d2 HD HY HN
      clear hxy
      have hb2 : b < wr.heap.size := Nat.lt_of_lt_of_le hbb HB.out.size
      go_wp2_with fail
      refine (valid11 x y _).mono ?_
      rintro e w2 ⟨rfl, hb⟩
      obtain ⟨q, hq⟩ : ∃ q, okB x y = q := ⟨_, rfl⟩
      rw [hq] at HY HN ⊢
      clear hq d1 d2
      obtain ⟨d1, d2⟩ := HD.out w2 hb
      have hb3 : b < w2.heap.size := Nat.lt_of_lt_of_le hb2 hb.size
      have HB2 : Hid (Below w.heap.size w w2) := Lib.hid (HB.out.trans (hb.mono HB.out.size))
      clear hb HD
      rcases fot q with rfl | rfl
      · go_wp2_with fail
        go_roundw
        case rel => exact ⟨k + 1, by omega, by go_num, HB2, Lib.hid (HN.out (fun a => by simp at a))⟩
        case measure => simp [intOf]; omega
      · by_cases q1 : x ≤ t
        · by_cases q2 : t < y
          · have HE := Lib.hid (HY.out rfl q1 q2)
            go_wp2_with fail
            go_ret
            exact ⟨by rw [HE.out]; rfl, HB2.out⟩
          · have q2' : decide (t < y) = false := decide_eq_false q2
            have HZ := Lib.hid (HN.out (fun a => q2 a.2.2))
            go_wp2_with fail
            go_roundw
            case rel => exact ⟨k + 1, by omega, by go_num, HB2, HZ⟩
            case measure => simp [intOf]; omega
        · have q1' : decide (x ≤ t) = false := decide_eq_false q1
          have HZ := Lib.hid (HN.out (fun a => q1 a.2.1))
          go_wp2_with fail
          go_roundw
          case rel => exact ⟨k + 1, by omega, by go_num, HB2, HZ⟩
          case measure => simp [intOf]; omega
    · have hkk : k = n := by omega
      have HE : Hid (hsB l t = false) := Lib.hid (by rw [hsB, HL.out, ← hkk]; exact HF.out)
      go_wp2_with fail
      go_ret
      exact ⟨by rw [HE.out]; rfl, HB.out⟩
end Go.Proofs.Ytmdkhnndfhcfdaa.Wk
