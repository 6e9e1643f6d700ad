/- The law back: what is encoded is decoded, and not if its end is missing, walked. Conditions: the slices read as bytes. -/
import Derived.Test.YtppgaddjjlcfcaaBe
set_option linter.unusedSimpArgs false
set_option linter.unusedVariables false
namespace Go.Proofs.Ytppgaddjjlcfcaa.Wk
open Go.RowKit
open Go.Proofs.Ytppgaddjjlcfcaa.Mt
set_option maxHeartbeats 8000000 in
set_option maxRecDepth 100000 in
theorem back_law (A : Option Addr) (m c : Nat) (zs : List Int) (A' : Option Addr) (m' c' : Nat) (zt : List Int) (x : Int) (s : ByteArray) (cut : Int) (w : World) (h : Sl w A m c zs) (h' : Sl w A' m' c' zt) (hx : -9223372036854775808 ≤ x ∧ x ≤ 9223372036854775807) (hcut : -9223372036854775808 ≤ cut ∧ cut ≤ 9223372036854775807) : Calls Try.prog 8 #[.slice A m c, .slice A' m' c', .int .i64 x, .string s, .int .i64 cut] w fun e w' => e = .returned (.bool true) ∧ Below w.heap.size w w' := by
  obtain ⟨i0, hi0, hz0, hs0, hb0'⟩ := info_parts u8_info
  have HB0 := Lib.hid hb0'
  have HS := Lib.hid h
  have HT := Lib.hid h'
  have hm9 := h.rk.2.1
  have hm9' := h'.rk.2.1
  have HLZ : Hid (zs.length = m) := Lib.hid h.rk.1
  have HLT : Hid (zt.length = m') := Lib.hid h'.rk.1
  have HIZ := Lib.hid (rk_in h.rk)
  have HIT := Lib.hid (rk_in h'.rk)
  clear h h' hb0'
  by_cases hb1 : 2000 < m
  · have d1 : decide ((2000 : Int) < (m : Int)) = true := decide_eq_true (by omega)
    go_enter Try.func8, Try.ntmps8
    go_wp2_with fail
    go_ret
    exact ⟨rfl, Below.refl _ _⟩
  · have d1 : decide ((2000 : Int) < (m : Int)) = false := decide_eq_false (by omega)
    by_cases hb2 : 2000 < m'
    · have d2 : decide ((2000 : Int) < (m' : Int)) = true := decide_eq_true (by omega)
      go_enter Try.func8, Try.ntmps8
      go_wp2_with fail
      go_ret
      exact ⟨rfl, Below.refl _ _⟩
    · have d2 : decide ((2000 : Int) < (m' : Int)) = false := decide_eq_false (by omega)
      by_cases hb3 : 2000 < s.size
      · have d3 : decide ((2000 : Int) < (s.size : Int)) = true := decide_eq_true (by omega)
        go_enter Try.func8, Try.ntmps8
        go_wp2_with fail
        go_ret
        exact ⟨rfl, Below.refl _ _⟩
      · have d3 : decide ((2000 : Int) < (s.size : Int)) = false := decide_eq_false (by omega)
        obtain ⟨l1, h1⟩ : ∃ l, l = enc (zz x) := ⟨_, rfl⟩
        obtain ⟨l2, h2⟩ : ∃ l, l = enc (zz (s.size : Int)) ++ bl s := ⟨_, rfl⟩
        obtain ⟨l3, h3⟩ : ∃ l, l = fr x (bl s) := ⟨_, rfl⟩
        have HE1 := Lib.hid h1
        have HE2 := Lib.hid h2
        have HE3 := Lib.hid h3
        have HI1 : Hid (∀ y ∈ l1, 0 ≤ y ∧ y ≤ 255) := Lib.hid (by rw [h1]; exact enc_in _ _ (Nat.le_refl _))
        have HI2 : Hid (∀ y ∈ l2, 0 ≤ y ∧ y ≤ 255) := Lib.hid (by rw [h2]; exact app_in (enc_in _ _ (Nat.le_refl _)) (bl_in s))
        have HI3 : Hid (∀ y ∈ l3, 0 ≤ y ∧ y ≤ 255) := Lib.hid (by rw [h3]; exact app_in (fb_in (bl_in s)) (s4_in _))
        obtain ⟨n1, hn1⟩ : ∃ n, l1.length = n := ⟨_, rfl⟩
        obtain ⟨n2, hn2⟩ : ∃ n, l2.length = n := ⟨_, rfl⟩
        obtain ⟨n3, hn3⟩ : ∃ n, l3.length = n := ⟨_, rfl⟩
        have HL1 := Lib.hid hn1
        have HL2 := Lib.hid hn2
        have HL3 := Lib.hid hn3
        have k1 : 0 < n1 ∧ n1 ≤ 10 := by rw [← hn1, h1]; exact ⟨enc_pos _, enc_ten (zz_lt hx)⟩
        have k2 : 0 < n2 ∧ n2 ≤ 2010 := by
          rw [← hn2, h2, List.length_append, bl_len]
          have a1 := enc_pos (zz (s.size : Int))
          have a2 := enc_ten (zz_lt (n := (s.size : Int)) (by omega))
          omega
        have k3 : 0 < n3 ∧ n3 ≤ 2015 := by
          rw [← hn3, h3]
          unfold fr
          rw [List.length_append]
          have a1 := fb_len (k := x) (ps := bl s) (by rw [bl_len]; omega)
          rw [bl_len] at a1
          have a2 : (s4 (crc (fb x (bl s)))).length = 4 := rfl
          omega
        obtain ⟨k11, k12⟩ := k1
        obtain ⟨k21, k22⟩ := k2
        obtain ⟨k31, k32⟩ := k3
        clear h1 h2 h3 hn1 hn2 hn3
        go_enter Try.func8, Try.ntmps8
        go_wp2_with fail
        clear d1 d2 d3
        refine (putInt12 none 0 0 [] x w (Sl.nil0 _) (by omega) hx).mono ?_
        rintro e w1 ⟨v, rfl, ho, hb⟩
        rw [List.nil_append, ← HE1.out] at ho
        obtain ⟨A1, c1, rfl, hs⟩ := ho.sl (by rw [HL1.out]; omega) HI1.out
        rw [HL1.out] at hs ⊢
        have H1 := Lib.hid hs
        have HB := Lib.hid hb
        replace HS := Lib.hid (HS.out.up hb)
        replace HT := Lib.hid (HT.out.up hb)
        clear ho hb hs
        go_wp2_with fail
        refine (putText13 none 0 0 [] s w1 (Sl.nil0 _) (by omega) (by omega)).mono ?_
        rintro e w2 ⟨v, rfl, ho, hb⟩
        rw [List.nil_append, ← HE2.out] at ho
        obtain ⟨A2, c2, rfl, hs⟩ := ho.sl (by rw [HL2.out]; omega) HI2.out
        rw [HL2.out] at hs ⊢
        have H2 := Lib.hid hs
        replace HB := Lib.hid (upB HB.out hb)
        replace HS := Lib.hid (HS.out.up hb)
        replace HT := Lib.hid (HT.out.up hb)
        replace H1 := Lib.hid (H1.out.up hb)
        clear ho hb hs
        obtain ⟨cs, W3, hcv, hsl, hbw⟩ := conv_sl s w2 (by omega)
        have HP := Lib.hid hsl
        replace HB := Lib.hid (upB HB.out hbw)
        replace HS := Lib.hid (HS.out.up hbw)
        replace HT := Lib.hid (HT.out.up hbw)
        replace H1 := Lib.hid (H1.out.up hbw)
        replace H2 := Lib.hid (H2.out.up hbw)
        clear hsl hbw
        go_wp2_with fail
        clear hcv
        refine (putFrame22 none 0 0 [] x (some ⟨w2.heap.size, 0, none⟩) s.size cs (bl s) W3 (Sl.nil0 _) HP.out (by omega) (by omega)).mono ?_
        rintro e w3 ⟨v, rfl, ho, hb⟩
        rw [List.nil_append, ← HE3.out] at ho
        obtain ⟨A3, c3, rfl, hs⟩ := ho.sl (by rw [HL3.out]; omega) HI3.out
        rw [HL3.out] at hs ⊢
        have H3 := Lib.hid hs
        replace HB := Lib.hid (upB HB.out hb)
        replace HS := Lib.hid (HS.out.up hb)
        replace HT := Lib.hid (HT.out.up hb)
        replace H1 := Lib.hid (H1.out.up hb)
        replace H2 := Lib.hid (H2.out.up hb)
        clear ho hb hs HP
        have z1 : ((n1 : Int) == 0) = false := by simp; omega
        have z2 : ((n2 : Int) == 0) = false := by simp; omega
        have z3 : ((n3 : Int) == 0) = false := by simp; omega
        go_wp2_with fail
        clear z1 z2 z3
        refine (copy11 A m c zs w3 HS.out (by omega)).mono ?_
        rintro e w4 ⟨v, rfl, ho, hb⟩
        have HO := Lib.hid ho
        have HB4 := Lib.hid hb
        have HSZ : Hid (w3.heap.size ≤ w4.heap.size) := Lib.hid hb.size
        have H14 := Lib.hid (H1.out.up hb)
        clear ho hb
        have C4 : Hid (zs.length + n1 ≤ maxLen) := Lib.hid (by rw [HLZ.out]; unfold maxLen; omega)
        have C5 : Hid ((zs.length + n1) * 1 ≤ 140737488355328) := Lib.hid (by rw [HLZ.out]; omega)
        go_wp2_with (first | (go_loud (at_builtin; refine Rot.wpList_append_any _ _ 22 rfl (by rfl) w3.heap.size 5 i0 (.int .u8 0) 1 1 Try.underlying22 hi0 hz0 hs0 HB0.out rfl (by omega) _ _ _ rfl HO.out A1 n1 c1 (vk .u8 l1) rfl (by rw [Nat.mul_one]; simp only [vk, List.length_map]; exact HL1.out) H14.out.nil H14.out.src (vk_one _) C4.out C5.out HSZ.out ?_)) | fail)
        intro v5 w5 hown hgrow
        obtain ⟨a1, ha1⟩ : ∃ l, l = zs ++ l1 := ⟨_, rfl⟩
        have hla1 : a1.length = m + n1 := by rw [ha1, List.length_append, HLZ.out, HL1.out]
        have HO5 : Hid (Ob w3.heap.size w5 v5 a1) := Lib.hid (by rw [ha1]; exact Ob.more (m := l1) hown (by rw [List.length_append, HL1.out]))
        have HB5 : Hid (Below w3.heap.size w3 w5) := Lib.hid (HB4.out.grown hgrow HSZ.out (fun k hk => (World.ownsRow.lt HO.out k hk).1))
        have HSZ5 : Hid (w3.heap.size ≤ w5.heap.size) := Lib.hid HB5.out.size
        have H25 := Lib.hid (H2.out.up HB5.out)
        have HA1 := Lib.hid ha1
        have HLA1 := Lib.hid hla1
        clear hown hgrow HO HB4 HSZ H14 C4 C5 ha1
        have C4 : Hid (a1.length + n2 ≤ maxLen) := Lib.hid (by rw [hla1]; unfold maxLen; omega)
        have C5 : Hid ((a1.length + n2) * 1 ≤ 140737488355328) := Lib.hid (by rw [hla1]; omega)
        clear hla1
        go_wp2_with (first | (go_loud (at_builtin; refine Rot.wpList_append_any _ _ 22 rfl (by rfl) w3.heap.size 5 i0 (.int .u8 0) 1 1 Try.underlying22 hi0 hz0 hs0 HB0.out rfl (by omega) _ _ _ rfl HO5.out A2 n2 c2 (vk .u8 l2) rfl (by rw [Nat.mul_one]; simp only [vk, List.length_map]; exact HL2.out) H25.out.nil H25.out.src (vk_one _) C4.out C5.out HSZ5.out ?_)) | fail)
        intro v6 w6 hown hgrow
        obtain ⟨a2, ha2⟩ : ∃ l, l = a1 ++ l2 := ⟨_, rfl⟩
        have hla2 : a2.length = m + n1 + n2 := by rw [ha2, List.length_append, HLA1.out, HL2.out]
        have HO6 : Hid (Ob w3.heap.size w6 v6 a2) := Lib.hid (by rw [ha2]; exact Ob.more (m := l2) hown (by rw [List.length_append, HL2.out]))
        have HB6 : Hid (Below w3.heap.size w3 w6) := Lib.hid (HB5.out.grown hgrow HSZ5.out (fun k hk => (World.ownsRow.lt HO5.out k hk).1))
        have HSZ6 : Hid (w3.heap.size ≤ w6.heap.size) := Lib.hid HB6.out.size
        have H36 := Lib.hid (H3.out.up HB6.out)
        have HA2 := Lib.hid ha2
        have HLA2 := Lib.hid hla2
        clear hown hgrow HO5 HB5 HSZ5 H25 C4 C5 ha2
        have C4 : Hid (a2.length + n3 ≤ maxLen) := Lib.hid (by rw [hla2]; unfold maxLen; omega)
        have C5 : Hid ((a2.length + n3) * 1 ≤ 140737488355328) := Lib.hid (by rw [hla2]; omega)
        clear hla2
        go_wp2_with (first | (go_loud (at_builtin; refine Rot.wpList_append_any _ _ 22 rfl (by rfl) w3.heap.size 5 i0 (.int .u8 0) 1 1 Try.underlying22 hi0 hz0 hs0 HB0.out rfl (by omega) _ _ _ rfl HO6.out A3 n3 c3 (vk .u8 l3) rfl (by rw [Nat.mul_one]; simp only [vk, List.length_map]; exact HL3.out) H36.out.nil H36.out.src (vk_one _) C4.out C5.out HSZ6.out ?_)) | fail)
        intro v7 w7 hown hgrow
        obtain ⟨a3, ha3⟩ : ∃ l, l = a2 ++ l3 := ⟨_, rfl⟩
        have hla3 : a3.length = m + n1 + n2 + n3 := by rw [ha3, List.length_append, HLA2.out, HL3.out]
        have HO7 : Hid (Ob w3.heap.size w7 v7 a3) := Lib.hid (by rw [ha3]; exact Ob.more (m := l3) hown (by rw [List.length_append, HL3.out]))
        have HB7 : Hid (Below w3.heap.size w3 w7) := Lib.hid (HB6.out.grown hgrow HSZ6.out (fun k hk => (World.ownsRow.lt HO6.out k hk).1))
        have HSZ7 : Hid (w3.heap.size ≤ w7.heap.size) := Lib.hid HB7.out.size
        have HT7 := Lib.hid (HT.out.up HB7.out)
        have HA3 := Lib.hid ha3
        have HLA3 := Lib.hid hla3
        clear hown hgrow HO6 HB6 HSZ6 H36 C4 C5 ha3
        have C4 : Hid (a3.length + m' ≤ maxLen) := Lib.hid (by rw [hla3]; unfold maxLen; omega)
        have C5 : Hid ((a3.length + m') * 1 ≤ 140737488355328) := Lib.hid (by rw [hla3]; omega)
        clear hla3
        go_wp2_with (first | (go_loud (at_builtin; refine Rot.wpList_append_any _ _ 22 rfl (by rfl) w3.heap.size 5 i0 (.int .u8 0) 1 1 Try.underlying22 hi0 hz0 hs0 HB0.out rfl (by omega) _ _ _ rfl HO7.out A' m' c' (vk .u8 zt) rfl (by rw [Nat.mul_one]; simp only [vk, List.length_map]; exact HLT.out) HT7.out.nil HT7.out.src (vk_one _) C4.out C5.out HSZ7.out ?_)) | fail)
        intro v8 w8 hown hgrow
        obtain ⟨al, hal⟩ : ∃ l, l = zs ++ l1 ++ l2 ++ l3 ++ zt := ⟨_, rfl⟩
        have hal2 : al = a3 ++ zt := by rw [hal, HA3.out, HA2.out, HA1.out]
        obtain ⟨N, hN⟩ : ∃ N, al.length = N := ⟨_, rfl⟩
        have hN2 : N = m + n1 + n2 + n3 + m' := by rw [← hN, hal2, List.length_append, HLA3.out, HLT.out]
        have HO8 : Ob w3.heap.size w8 v8 al := by rw [hal2]; exact Ob.more (m := zt) hown (by rw [List.length_append, HLT.out])
        have HB8 : Below w3.heap.size w3 w8 := HB7.out.grown hgrow HSZ7.out (fun k hk => (World.ownsRow.lt HO7.out k hk).1)
        obtain ⟨A8, c8, rfl, hs⟩ := HO8.sl (by omega) (by rw [hal]; exact app_in (app_in (app_in (app_in HIZ.out HI1.out) HI2.out) HI3.out) HIT.out)
        rw [hN] at hs ⊢
        have H8 := Lib.hid hs
        replace HB := Lib.hid (upB HB.out HB8)
        replace H1 := Lib.hid (H1.out.up HB8)
        replace H2 := Lib.hid (H2.out.up HB8)
        replace H3 := Lib.hid (H3.out.up HB8)
        obtain ⟨x1, hx1⟩ : ∃ y, m + n1 = y := ⟨_, rfl⟩
        obtain ⟨x2, hx2⟩ : ∃ y, x1 + n2 = y := ⟨_, rfl⟩
        obtain ⟨x3, hx3⟩ : ∃ y, x2 + n3 = y := ⟨_, rfl⟩
        have HM := Lib.hid (back_math hx (by omega) (N := N) (x0 := m) (x1 := x1) (x2 := x2) (x3 := x3) HE1.out HE2.out HE3.out hal hN HLZ.out (by rw [HL1.out]; exact hx1) (by rw [HL2.out]; exact hx2) (by rw [HL3.out]; exact hx3))
        have W9 : IntKind.i64.wrap ((N : Int) - (m' : Int)) = (x3 : Int) := by rw [IntWalk.i64_in _ (by omega)]; omega
        have hNb : N ≤ 10000 := by omega
        have hx3b : x3 ≤ 10000 := by omega
        clear hown hgrow HO7 HO8 HB7 HB8 HSZ7 HT7 C4 C5 hs HS HT hal hal2 hN hN2 HB0 hx1 hx2 hx3
        go_wp2_with fail
        refine (int18 A8 N c8 (m : Int) al w8 H8.out.rk (by omega)).mono ?_
        rintro e w9 ⟨rfl, hb⟩
        rw [HM.out.1.1, HM.out.1.2.1, HM.out.1.2.2]
        replace HB := Lib.hid (upB HB.out hb)
        replace H1 := Lib.hid (H1.out.up hb)
        replace H2 := Lib.hid (H2.out.up hb)
        replace H3 := Lib.hid (H3.out.up hb)
        replace H8 := Lib.hid (H8.out.up hb)
        clear hb
        go_wp2_with fail
        refine (text20 A8 N c8 (x1 : Int) al w9 H8.out.rk (by omega) H8.out.le H8.out.cap).mono ?_
        rintro e w10 ⟨rfl, hb⟩
        rw [HM.out.2.1.1, HM.out.2.1.2.1, HM.out.2.1.2.2, bys_bl]
        replace HB := Lib.hid (upB HB.out hb)
        replace H1 := Lib.hid (H1.out.up hb)
        replace H2 := Lib.hid (H2.out.up hb)
        replace H3 := Lib.hid (H3.out.up hb)
        replace H8 := Lib.hid (H8.out.up hb)
        clear hb
        go_wp2_with fail
        refine (frame26 A8 N c8 (x2 : Int) al w10 H8.out.rk (by omega) H8.out.le H8.out.cap).mono ?_
        rintro e w11 ⟨v, rfl, ho, hb⟩
        rw [HM.out.2.2.2.2.1] at ho
        rw [HM.out.2.2.1, HM.out.2.2.2.1, HM.out.2.2.2.2.2]
        obtain ⟨A9, c9, rfl, hs⟩ := ho.sl (by rw [bl_len]; omega) (bl_in s)
        have hcv := conv_rk (c := c9) hs.rk
        rw [bys_bl, bl_len] at hcv
        rw [bl_len]
        replace HB := Lib.hid (upB HB.out hb)
        replace H1 := Lib.hid (H1.out.up hb)
        replace H2 := Lib.hid (H2.out.up hb)
        replace H3 := Lib.hid (H3.out.up hb)
        clear hb ho hs H8 HM
        obtain ⟨kk, hkk⟩ : ∃ kk, x % 256 = kk := ⟨_, rfl⟩
        have q1 : decide (kk < 0) = false := decide_eq_false (by omega)
        have q2 : decide ((255 : Int) < kk) = false := decide_eq_false (by omega)
        obtain ⟨dk, hdk⟩ : ∃ d, x - kk = d := ⟨_, rfl⟩
        have q3 : IntKind.i64.wrap (x - kk) = dk := by rw [IntWalk.i64_in _ (by omega)]; exact hdk
        have q4 : dk.tmod 256 = 0 := Int.tmod_eq_zero_of_dvd (by omega)
        clear hdk
        rw [hkk]
        clear hkk
        go_wp2_with fail
        clear hcv q1 q2 q3 q4
        refine (short30 cut n1 _ k11 (by omega) hcut).mono ?_
        rintro e w12 ⟨i, hi, rfl, rfl⟩
        go_wp2_with fail
        refine (short30 cut n2 _ k21 (by omega) hcut).mono ?_
        rintro e w13 ⟨j, hj, rfl, rfl⟩
        go_wp2_with fail
        refine (short30 cut n3 _ k31 (by omega) hcut).mono ?_
        rintro e w14 ⟨k, hk, rfl, rfl⟩
        have HPM := Lib.hid (part_math hx (by omega) (i := i) (j := j) (k := k) HE1.out HE2.out HE3.out (by rw [HL1.out]; exact hi) (by rw [HL2.out]; exact hj) (by rw [HL3.out]; exact hk))
        have r1 : (0 : Int) ≤ (i : Int) := by omega
        have r2 : (i : Int) ≤ (c1 : Int) := by have := H1.out.le; omega
        have r3 : (0 : Int) ≤ (j : Int) := by omega
        have r4 : (j : Int) ≤ (c2 : Int) := by have := H2.out.le; omega
        have r5 : (0 : Int) ≤ (k : Int) := by omega
        have r6 : (k : Int) ≤ (c3 : Int) := by have := H3.out.le; omega
        go_wp2_with fail
        refine (int18 A1 i c1 0 (Mt.sub l1 0 i) _ (H1.out.rk.take (by omega)) (by omega)).mono ?_
        rintro e w15 ⟨rfl, hb⟩
        rw [HPM.out.1]
        obtain ⟨u1, hu1⟩ : ∃ u, nuV (Mt.sub l1 0 i) i 0 = u := ⟨_, rfl⟩
        obtain ⟨u2, hu2⟩ : ∃ u, nuN (Mt.sub l1 0 i) i 0 = u := ⟨_, rfl⟩
        rw [hu1, hu2]
        replace HB := Lib.hid (upB HB.out hb)
        replace H2 := Lib.hid (H2.out.up hb)
        replace H3 := Lib.hid (H3.out.up hb)
        clear hb H1 hu1 hu2
        go_wp2_with fail
        refine (text20 A2 j c2 0 (Mt.sub l2 0 j) _ (H2.out.rk.take (by omega)) (by omega) (by have := H2.out.le; omega) H2.out.cap).mono ?_
        rintro e w16 ⟨rfl, hb⟩
        rw [HPM.out.2.1]
        obtain ⟨u3, hu3⟩ : ∃ u, bys (teL (Mt.sub l2 0 j) j 0) = u := ⟨_, rfl⟩
        obtain ⟨u4, hu4⟩ : ∃ u, teN (Mt.sub l2 0 j) j 0 = u := ⟨_, rfl⟩
        rw [hu3, hu4]
        replace HB := Lib.hid (upB HB.out hb)
        replace H3 := Lib.hid (H3.out.up hb)
        clear hb H2 hu3 hu4
        go_wp2_with fail
        refine (frame26 A3 k c3 0 (Mt.sub l3 0 k) _ (H3.out.rk.take (by omega)) (by omega) (by have := H3.out.le; omega) H3.out.cap).mono ?_
        rintro e w17 ⟨v, rfl, ho, hb⟩
        rw [HPM.out.2.2]
        obtain ⟨u5, hu5⟩ : ∃ u, frK (Mt.sub l3 0 k) k 0 = u := ⟨_, rfl⟩
        obtain ⟨u6, hu6⟩ : ∃ u, frN (Mt.sub l3 0 k) k 0 = u := ⟨_, rfl⟩
        rw [hu5, hu6]
        replace HB := Lib.hid (upB HB.out hb)
        clear hb H3 hu5 hu6 ho HPM
        go_wp2_with fail
        refine (alive17 _).mono ?_
        rintro e w18 ⟨rfl, hb⟩
        replace HB := Lib.hid (upB HB.out hb)
        clear hb
        go_wp2_with fail
        go_ret
        exact ⟨rfl, HB.out⟩
end Go.Proofs.Ytppgaddjjlcfcaa.Wk
