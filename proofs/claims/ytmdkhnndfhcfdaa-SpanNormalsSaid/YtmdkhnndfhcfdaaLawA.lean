/- The laws of the normal form, of the combinations, of the questions, walked. Conditions: the slices read as intervals. -/
import Derived.Test.YtmdkhnndfhcfdaaAl
set_option linter.unusedSimpArgs false
set_option linter.unusedVariables false
namespace Go.Proofs.Ytmdkhnndfhcfdaa.Wk
open Go.RowKit
open Go.Proofs.Ytmdkhnndfhcfdaa.Mt
set_option maxHeartbeats 4000000 in
set_option maxRecDepth 100000 in
theorem normals_law (A : Option Addr) (n c : Nat) (l : List Iv) (w : World) (h : Rp w w.heap.size A n l) : Calls Try.prog 3 #[.slice A n c] w fun e w' => e = .returned (.bool true) ∧ Below w.heap.size w w' := by
  have HR := Lib.hid h
  have HL := Lib.hid h.1
  have hn := h.2.1
  clear h
  by_cases hb60 : 60 < n
  · have hbI : (60 : Int) < (n : Int) := by omega
    go_enter Try.func3, Try.ntmps3
    go_wp2_with fail
    go_ret
    exact ⟨rfl, Below.refl _ _⟩
  · have hbI : decide ((60 : Int) < (n : Int)) = false := decide_eq_false (by omega)
    go_enter Try.func3, Try.ntmps3
    go_wp2_with fail
    clear hbI
    go_loopw [3] (fun iv wr => ∃ k : Nat, k ≤ n ∧ iv = .int .i64 k ∧ Hid (Below w.heap.size w wr)) (fun iv _ => n - (intOf iv).toNat)
    case atStart => exact ⟨0, Nat.zero_le _, rfl, Lib.hid (Below.refl _ _)⟩
    case round =>
      obtain ⟨k, hk, rfl, HB⟩ := hrel
      by_cases hlt : k < n
      · have hltI : (k : Int) < (n : Int) := by omega
        obtain ⟨b, off, rfl, hbb, d1, d2⟩ := (HR.out.below HB.out (Nat.le_refl _)).get hlt
        obtain ⟨⟨x, y⟩, hxy⟩ : ∃ v, vat l k = v := ⟨_, rfl⟩
        have HV := Lib.hid hxy
        rw [hxy] at d1 d2
        simp only at d1 d2
        clear hxy
        have HD : Hid (∀ W, Below w.heap.size w W → b < W.heap.size ∧ W.cell? ⟨b, off + k * 2, none⟩ = some (.int .i64 x) ∧ W.cell? ⟨b, off + k * 2 + 1, none⟩ = some (.int .i64 y)) := Lib.hid (fun W hW => by
          obtain ⟨b', o', e, hlt', hc⟩ := (HR.out.below hW (Nat.le_refl _)).2.2.1 (by omega)
          injection e with e
          injection e with e1 e2
          subst e1 e2
          have := hc k hlt
          rw [HV.out] at this
          exact ⟨Nat.lt_of_lt_of_le hlt' hW.size, this⟩)
        obtain ⟨q, hq⟩ : ∃ q, okB x y = q := ⟨_, rfl⟩
        have HQ := Lib.hid hq
        have e1 : (q != q) = false := by simp
        have hb2 : b < wr.heap.size := Nat.lt_of_lt_of_le hbb HB.out.size
        clear hq
        go_wp2_with fail
        replace HB := Lib.hid (upB HB.out (Below.refl wr.heap.size wr).drew)
        first | (go_region_held3 (fun w' => Hid (Below w.heap.size w w') ∧ b < w'.heap.size ∧ w'.cell? ⟨b, off + k * 2, none⟩ = some (.int .i64 x) ∧ w'.cell? ⟨b, off + k * 2 + 1, none⟩ = some (.int .i64 y)) (first | exact ⟨HB, HD.out _ HB.out⟩ | assumption)
          (first
            | (go_at_call 10; refine (valid10 x y _).mono ?_; rintro e w3 ⟨rfl, hb⟩; rw [HQ.out]; replace HB := Lib.hid (upB HB.out hb); clear hb)
            | (go_at_call 11; refine (valid11 x y _).mono ?_; rintro e w3 ⟨rfl, hb⟩; rw [HQ.out]; replace HB := Lib.hid (upB HB.out hb); clear hb))) | fail
        all_goals go_wp2_with fail
        all_goals go_roundw
        all_goals first | exact ⟨k + 1, by omega, by go_num, HB⟩ | (simp [intOf]; done) | (simp [intOf]; omega)
      · have hltI : ¬ (k : Int) < (n : Int) := by omega
        replace HR := Lib.hid (HR.out.up HB.out)
        go_wp2_with fail
        refine (normal13 A n c l _ HR.out (by omega)).mono ?_
        rintro e w1 ⟨A1, c1, R1, rfl, h1, h2, h3, h4, h5, h6, h7⟩
        have HR1 := Lib.hid h2
        have HN1 := Lib.hid h4
        have HS1 := Lib.hid h5
        replace HB := Lib.hid (upB HB.out h6)
        replace HR := Lib.hid (HR.out.up h6)
        clear h1 h2 h3 h4 h5 h6 h7
        go_wp2_with fail
        refine (ref14 A n c l _ HR.out (by omega)).mono ?_
        intro e w2 hh
        obtain ⟨A2, c2, rfl, hr, hb⟩ := hh.val R1 R1.length rfl HN1.out HS1.out
        have HR2 := Lib.hid hr
        replace HR1 := Lib.hid (HR1.out.up hb)
        replace HB := Lib.hid (upB HB.out hb)
        clear hh hr hb
        go_wp2_with fail
        refine (same12 A1 A2 R1.length c1 c2 R1 _ HR1.out HR2.out).mono ?_
        rintro e w3 ⟨rfl, hb⟩
        replace HB := Lib.hid (upB HB.out hb)
        clear hb
        go_wp2_with fail
        refine (alive15 _).mono ?_
        rintro e w4 ⟨rfl, hb⟩
        replace HB := Lib.hid (upB HB.out hb)
        clear hb
        go_wp2_with fail
        go_ret
        exact ⟨rfl, HB.out⟩
set_option maxHeartbeats 4000000 in
set_option maxRecDepth 100000 in
theorem joins_law (A B : Option Addr) (n m c c' : Nat) (a b : List Iv) (w : World) (h : Rp w w.heap.size A n a) (k : Rp w w.heap.size B m b) : Calls Try.prog 4 #[.slice A n c, .slice B m c'] w fun e w' => e = .returned (.bool true) ∧ Below w.heap.size w w' := by
  have HA := Lib.hid h
  have HK := Lib.hid k
  have HB := Lib.hid (Below.refl w.heap.size w)
  have hn := h.2.1
  have hm := k.2.1
  clear h k
  by_cases hb60 : 60 < n
  · have hbI : (60 : Int) < (n : Int) := by omega
    go_enter Try.func4, Try.ntmps4
    go_wp2_with fail
    go_ret
    exact ⟨rfl, Below.refl _ _⟩
  · have hbI : decide ((60 : Int) < (n : Int)) = false := decide_eq_false (by omega)
    by_cases hm60 : 60 < m
    · have hmI : (60 : Int) < (m : Int) := by omega
      go_enter Try.func4, Try.ntmps4
      go_wp2_with fail
      go_ret
      exact ⟨rfl, Below.refl _ _⟩
    · have hmI : decide ((60 : Int) < (m : Int)) = false := decide_eq_false (by omega)
      go_enter Try.func4, Try.ntmps4
      go_wp2_with fail
      clear hbI hmI
      refine (union16 A B n m c c' a b _ HA.out HK.out (by omega) (by omega)).mono ?_
      rintro e w11 ⟨A11, c11, R1, rfl, h1, h2, h3, h4, h5, h6, h7⟩
      have HR1 := Lib.hid h2
      have HN1 := Lib.hid h4
      have HS1 := Lib.hid h5
      replace HB := Lib.hid (upB HB.out h6)
      replace HA := Lib.hid (HA.out.up h6)
      replace HK := Lib.hid (HK.out.up h6)
      clear h1 h2 h3 h4 h5 h6 h7
      go_wp2_with fail
      refine (ref17 A B n m c c' a b _ HA.out HK.out (by omega) (by omega)).mono ?_
      intro e w12 hh
      obtain ⟨A12, c12, rfl, hr, hb⟩ := hh.val R1 R1.length rfl HN1.out HS1.out
      have HR2 := Lib.hid hr
      replace HR1 := Lib.hid (HR1.out.up hb)
      replace HB := Lib.hid (upB HB.out hb)
      replace HA := Lib.hid (HA.out.up hb)
      replace HK := Lib.hid (HK.out.up hb)
      clear hh hr hb
      go_wp2_with fail
      refine (same12 A11 A12 R1.length c11 c12 R1 _ HR1.out HR2.out).mono ?_
      rintro e w13 ⟨rfl, hb⟩
      replace HB := Lib.hid (upB HB.out hb)
      replace HA := Lib.hid (HA.out.up hb)
      replace HK := Lib.hid (HK.out.up hb)
      clear hb HR1 HR2 HN1 HS1
      go_wp2_with fail
      refine (meet18 A B n m c c' a b _ HA.out HK.out (by omega) (by omega)).mono ?_
      rintro e w21 ⟨A21, c21, R2, rfl, h1, h2, h3, h4, h5, h6, h7⟩
      have HR1 := Lib.hid h2
      have HN1 := Lib.hid h4
      have HS1 := Lib.hid h5
      replace HB := Lib.hid (upB HB.out h6)
      replace HA := Lib.hid (HA.out.up h6)
      replace HK := Lib.hid (HK.out.up h6)
      clear h1 h2 h3 h4 h5 h6 h7
      go_wp2_with fail
      refine (ref19 A B n m c c' a b _ HA.out HK.out (by omega) (by omega)).mono ?_
      intro e w22 hh
      obtain ⟨A22, c22, rfl, hr, hb⟩ := hh.val R2 R2.length rfl HN1.out HS1.out
      have HR2 := Lib.hid hr
      replace HR1 := Lib.hid (HR1.out.up hb)
      replace HB := Lib.hid (upB HB.out hb)
      replace HA := Lib.hid (HA.out.up hb)
      replace HK := Lib.hid (HK.out.up hb)
      clear hh hr hb
      go_wp2_with fail
      refine (same12 A21 A22 R2.length c21 c22 R2 _ HR1.out HR2.out).mono ?_
      rintro e w23 ⟨rfl, hb⟩
      replace HB := Lib.hid (upB HB.out hb)
      replace HA := Lib.hid (HA.out.up hb)
      replace HK := Lib.hid (HK.out.up hb)
      clear hb HR1 HR2 HN1 HS1
      go_wp2_with fail
      refine (minus20 A B n m c c' a b _ HA.out HK.out (by omega) (by omega)).mono ?_
      rintro e w31 ⟨A31, c31, R3, rfl, h1, h2, h3, h4, h5, h6, h7⟩
      have HR1 := Lib.hid h2
      have HN1 := Lib.hid h4
      have HS1 := Lib.hid h5
      replace HB := Lib.hid (upB HB.out h6)
      replace HA := Lib.hid (HA.out.up h6)
      replace HK := Lib.hid (HK.out.up h6)
      clear h1 h2 h3 h4 h5 h6 h7
      go_wp2_with fail
      refine (ref21 A B n m c c' a b _ HA.out HK.out (by omega) (by omega)).mono ?_
      intro e w32 hh
      obtain ⟨A32, c32, rfl, hr, hb⟩ := hh.val R3 R3.length rfl HN1.out HS1.out
      have HR2 := Lib.hid hr
      replace HR1 := Lib.hid (HR1.out.up hb)
      replace HB := Lib.hid (upB HB.out hb)
      replace HA := Lib.hid (HA.out.up hb)
      replace HK := Lib.hid (HK.out.up hb)
      clear hh hr hb
      go_wp2_with fail
      refine (same12 A31 A32 R3.length c31 c32 R3 _ HR1.out HR2.out).mono ?_
      rintro e w33 ⟨rfl, hb⟩
      replace HB := Lib.hid (upB HB.out hb)
      replace HA := Lib.hid (HA.out.up hb)
      replace HK := Lib.hid (HK.out.up hb)
      clear hb HR1 HR2 HN1 HS1
      go_wp2_with fail
      refine (alive15 _).mono ?_
      rintro e w99 ⟨rfl, hb⟩
      replace HB := Lib.hid (upB HB.out hb)
      clear hb
      go_wp2_with fail
      go_ret
      exact ⟨rfl, HB.out⟩
set_option maxHeartbeats 4000000 in
set_option maxRecDepth 100000 in
theorem asks_law (A : Option Addr) (n c : Nat) (l : List Iv) (t x y : Int) (w : World) (h : Rp w w.heap.size A n l) : Calls Try.prog 5 #[.slice A n c, .int .i64 t, .agg #[.int .i64 x, .int .i64 y]] w fun e w' => e = .returned (.bool true) ∧ Below w.heap.size w w' := by
  have HR := Lib.hid h
  have HL := Lib.hid h.1
  have hn := h.2.1
  clear h
  by_cases hb60 : 60 < n
  · have hbI : (60 : Int) < (n : Int) := by omega
    go_enter Try.func5, Try.ntmps5
    go_wp2_with fail
    go_ret
    exact ⟨rfl, b1 _ _⟩
  · have hbI : decide ((60 : Int) < (n : Int)) = false := decide_eq_false (by omega)
    obtain ⟨z, hz⟩ : ∃ z, lnS l = z := ⟨_, rfl⟩
    obtain ⟨p, hp⟩ : ∃ p, hsB l t = p := ⟨_, rfl⟩
    obtain ⟨q, hq⟩ : ∃ q, cvB l x y = q := ⟨_, rfl⟩
    have HZ := Lib.hid hz
    have HP := Lib.hid hp
    have HQ := Lib.hid hq
    clear hz hp hq
    have e1 : (z == z) = true := by simp
    have e2 : (p == p) = true := by simp
    have e3 : (q == q) = true := by simp
    have HX := Lib.hid (Bx.new w 25 #[.int .i64 x, .int .i64 y])
    have HB := Lib.hid ((Below.refl w.heap.size w).alloc (Nat.le_refl _) (.cells #[.int .i64 x, .int .i64 y] 25))
    replace HR := Lib.hid (HR.out.up HB.out)
    go_enter Try.func5, Try.ntmps5
    go_wp2_with fail
    clear hbI
    replace HX := Lib.hid (HX.out.next (Below.refl _ _).drew)
    replace HR := Lib.hid (HR.out.up (Below.refl _ _).drew)
    replace HB := Lib.hid (upB HB.out (Below.refl _ _).drew)
    obtain ⟨c0, c1⟩ := HX.out.cells2
    first | (go_region_held3 (fun w' => Hid (Below w.heap.size w w') ∧ w.heap.size < w'.heap.size ∧ w'.cell? ⟨w.heap.size, 0, none⟩ = some (.int .i64 x) ∧ w'.cell? ⟨w.heap.size, 1, none⟩ = some (.int .i64 y)) (first | exact ⟨HB, HX.out.lt, HX.out.cells2⟩ | assumption)
      (first
        | (go_at_call 22; refine (len22 A n c l _ HR.out (by omega)).mono ?_; rintro e w3 ⟨rfl, hb⟩; rw [HZ.out]; replace HB := Lib.hid (upB HB.out hb); replace HR := Lib.hid (HR.out.up hb); replace HX := Lib.hid (HX.out.next hb); clear hb)
        | (go_at_call 23; refine (len23 A n c l _ HR.out (by omega)).mono ?_; rintro e w3 ⟨rfl, hb⟩; rw [HZ.out]; replace HB := Lib.hid (upB HB.out hb); replace HR := Lib.hid (HR.out.up hb); replace HX := Lib.hid (HX.out.next hb); clear hb)
        | (go_at_call 24; refine (has24 A n c l t _ HR.out).mono ?_; rintro e w3 ⟨rfl, hb⟩; rw [HP.out]; replace HB := Lib.hid (upB HB.out hb); replace HR := Lib.hid (HR.out.up hb); replace HX := Lib.hid (HX.out.next hb); clear hb)
        | (go_at_call 25; refine (has25 A n c l t _ HR.out).mono ?_; rintro e w3 ⟨rfl, hb⟩; rw [HP.out]; replace HB := Lib.hid (upB HB.out hb); replace HR := Lib.hid (HR.out.up hb); replace HX := Lib.hid (HX.out.next hb); clear hb)
        | (go_at_call 26; refine (covers26 A n c l x y _ HR.out (by omega)).mono ?_; rintro e w3 ⟨rfl, hb⟩; rw [HQ.out]; replace HB := Lib.hid (upB HB.out hb); replace HR := Lib.hid (HR.out.up hb); replace HX := Lib.hid (HX.out.next hb); clear hb)
        | (go_at_call 27; refine (covers27 A n c l x y _ HR.out (by omega)).mono ?_; rintro e w3 ⟨rfl, hb⟩; rw [HQ.out]; replace HB := Lib.hid (upB HB.out hb); replace HR := Lib.hid (HR.out.up hb); replace HX := Lib.hid (HX.out.next hb); clear hb)
        | (go_at_call 15; refine (alive15 _).mono ?_; rintro e w3 ⟨rfl, hb⟩; replace HB := Lib.hid (upB HB.out hb); replace HR := Lib.hid (HR.out.up hb); replace HX := Lib.hid (HX.out.next hb); clear hb))) | fail
    all_goals go_wp2_with fail
    all_goals go_ret
    all_goals exact ⟨rfl, HB.out⟩
end Go.Proofs.Ytmdkhnndfhcfdaa.Wk
