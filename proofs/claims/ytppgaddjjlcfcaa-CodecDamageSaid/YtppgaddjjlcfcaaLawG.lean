/- The law of damage, walked. Conditions: the payload reads as bytes. -/
import Derived.Test.YtppgaddjjlcfcaaPw
import Derived.Test.YtppgaddjjlcfcaaLawD
set_option linter.unusedSimpArgs false
set_option linter.unusedVariables false
namespace Go.Proofs.Ytppgaddjjlcfcaa.Wk
open Go.RowKit
open Go.Proofs.Ytppgaddjjlcfcaa.Mt
theorem sq_first {zs : List Int} {n k : Nat} (hf : Fg zs n k) (h : frE zs n 0 ≠ 0) : k = 0 := by
  rcases Nat.eq_zero_or_pos k with h0 | h0
  · exact h0
  · exact absurd (hf 0 h0) h
set_option maxHeartbeats 4000000 in
set_option maxRecDepth 100000 in
theorem damage_law (k : Int) (A : Option Addr) (m c : Nat) (ps : List Int) (b16 M' : Int) (w : World) (h : Sl w A m c ps) (hk : -9223372036854775808 ≤ k ∧ k ≤ 9223372036854775807) (hb : 0 ≤ b16 ∧ b16 ≤ 65535) (hM : 0 ≤ M' ∧ M' ≤ 4294967295) : Calls Try.prog 10 #[.int .i64 k, .slice A m c, .int .u16 b16, .int .u32 M'] w fun e w' => e = .returned (.bool true) ∧ Below w.heap.size w w' := by
  have HS := Lib.hid h
  have hm9 := h.rk.2.1
  have HPL : Hid (ps.length = m) := Lib.hid h.rk.1
  have HPI : Hid (∀ x ∈ ps, 0 ≤ x ∧ x ≤ 255) := Lib.hid (rk_in h.rk)
  clear h
  obtain ⟨bb, rfl⟩ : ∃ bb : Nat, b16 = (bb : Int) := ⟨b16.toNat, by omega⟩
  obtain ⟨M, rfl⟩ : ∃ M : Nat, M' = (M : Int) := ⟨M'.toNat, by omega⟩
  by_cases h4 : m < 4
  · have hb1 : decide ((m : Int) < 4) = true := decide_eq_true (by omega)
    go_enter Try.func10, Try.ntmps10
    go_wp2_with fail
    go_ret
    exact ⟨rfl, Below.refl _ _⟩
  · have hb1 : decide ((m : Int) < 4) = false := decide_eq_false (by omega)
    by_cases hbig : 2000 < m
    · have hb2 : decide ((2000 : Int) < (m : Int)) = true := decide_eq_true (by omega)
      go_enter Try.func10, Try.ntmps10
      go_wp2_with fail
      go_ret
      exact ⟨rfl, Below.refl _ _⟩
    · have hb2 : decide ((2000 : Int) < (m : Int)) = false := decide_eq_false (by omega)
      by_cases hM0 : M = 0
      · subst hM0
        go_enter Try.func10, Try.ntmps10
        go_wp2_with fail
        go_ret
        exact ⟨rfl, Below.refl _ _⟩
      · have hb3 : ((M : Int) == 0) = false := by simp [hM0]
        obtain ⟨fm, hfm⟩ : ∃ fm, 1 + (enc (zz (m : Int))).length = fm := ⟨_, rfl⟩
        have hfm11 : fm ≤ 11 := by have := enc_ten (zz_lt (n := (m : Int)) (by omega)); omega
        obtain ⟨n, hn⟩ : ∃ n, fm + m + 4 = n := ⟨_, rfl⟩
        have HLF : Hid ((fr k ps).length = n) := Lib.hid (by
          unfold fr fb
          rw [List.length_append, List.length_append, List.length_append, HPL.out, ← hn, ← hfm]
          rfl)
        have HFM := Lib.hid hfm
        have HN := Lib.hid hn
        clear hfm
        go_enter Try.func10, Try.ntmps10
        go_wp2_with fail
        clear hb1 hb2 hb3
        refine (putFrame22 none 0 0 [] k A m c ps w (Sl.nil0 _) HS.out (by omega) (by omega)).mono ?_
        rintro e w1 ⟨v, rfl, ho, hb⟩
        rw [List.nil_append] at ho
        obtain ⟨g, cap, rfl, hbg, hlc, hcm, hwr⟩ := ho.wr (by rw [HLF.out]; omega)
        rw [HLF.out] at hlc hwr ⊢
        have HWR := Lib.hid hwr
        have HB := Lib.hid hb
        clear ho hb hwr HS
        have W1 : IntKind.i64.wrap ((n : Int) - 4) = (n : Int) - 4 := IntWalk.i64_in _ (by omega)
        have W2 : IntKind.i64.wrap ((n : Int) - 4 - (m : Int)) = (fm : Int) := by rw [IntWalk.i64_in _ (by omega)]; omega
        have d1 : decide ((fm : Int) < 0) = false := decide_eq_false (by omega)
        obtain ⟨dd, hdd⟩ : ∃ dd : Nat, 8 * m - 31 = dd := ⟨_, rfl⟩
        have W3 : IntKind.i64.wrap (8 * (m : Int)) = 8 * (m : Int) := IntWalk.i64_in _ (by omega)
        have W4 : IntKind.i64.wrap (8 * (m : Int) - 31) = (dd : Int) := by rw [IntWalk.i64_in _ (by omega)]; omega
        have hdd0 : ¬ dd = 0 := by omega
        obtain ⟨f, hf⟩ : ∃ f, bb % dd = f := ⟨_, rfl⟩
        have hflt : f < dd := by rw [← hf]; exact Nat.mod_lt _ (by omega)
        have T1 : (bb : Int).tmod (dd : Int) = (f : Int) := by rw [← hf]; rfl
        have hff : f + 31 < 8 * m := by omega
        clear hf hdd hflt
        go_wp2_with fail
        clear W1 W2 W3 W4 T1 d1
        have HFL0 : Hid (Fl (fr k ps) (fr k ps) n fm m f M 0) := Lib.hid ⟨HLF.out, iat_byte (app_in (fb_in HPI.out) (s4_in _)), fun _ _ => rfl, by rw [Nat.pow_zero, Nat.mod_one, Nat.zero_mul, Nat.xor_zero]⟩
        go_loopw [12, 13, 14] (fun lv iv _ wr => ∃ (i l : Nat) (ys : List Int), i ≤ 32 ∧ iv = .int .i64 i ∧ lv = .int .u32 l ∧ l ≤ 4294967295 ∧ Hid (l = M / 2 ^ i) ∧ Hid (Fl (fr k ps) ys n fm m f M i) ∧ Hid (Wr wr g n ys) ∧ Hid (Below w.heap.size w wr)) (fun _ iv _ _ => 32 - (intOf iv).toNat)
        case atStart => exact ⟨0, M, _, by omega, rfl, rfl, by omega, Lib.hid (by rw [Nat.pow_zero, Nat.div_one]), HFL0, HWR, HB⟩
        case round =>
          obtain ⟨i, l, ys, hi, rfl, rfl, hl32, HL, HFL, HW, HB⟩ := hrel
          clear HFL0 HWR
          by_cases hlt : i < 32
          · have hltI : (i : Int) < 32 := by omega
            have V1 : IntKind.i64.wrap ((i : Int) + 1) = (i : Int) + 1 := IntWalk.i64_in _ (by omega)
            obtain ⟨l2, hl2⟩ : ∃ l2, l / 2 = l2 := ⟨_, rfl⟩
            have V2 : (l : Int).tdiv 2 = (l2 : Int) := by rw [← hl2]; rfl
            have V2' : (l : Int) / 2 = (l2 : Int) := by omega
            have HL2 : Hid (l2 = M / 2 ^ (i + 1)) := Lib.hid (by rw [← hl2, HL.out, Nat.pow_succ, Nat.div_div_eq_div_mul])
            have hl232 : l2 ≤ 4294967295 := by omega
            rcases (by omega : l % 2 = 0 ∨ l % 2 = 1) with hr | hr
            · have V3 : (l : Int).tmod 2 = 0 := by rw [Int.tmod_eq_emod_of_nonneg (by omega)]; omega
              have V3' : (l : Int) % 2 = 0 := by omega
              have HF2 := Lib.hid (HFL.out.skip (by rw [← HL.out]; exact hr))
              clear hr hl2
              go_wp2_with fail
              go_roundw
              case rel => exact ⟨i + 1, l2, ys, by omega, by go_num, rfl, hl232, HL2, HF2, HW, HB⟩
              case measure => simp [intOf]; omega
            · have V3 : (l : Int).tmod 2 = 1 := by rw [Int.tmod_eq_emod_of_nonneg (by omega)]; omega
              have V3' : (l : Int) % 2 = 1 := by omega
              obtain ⟨pl, hpl⟩ : ∃ pl, f + i = pl := ⟨_, rfl⟩
              have V4 : IntKind.i64.wrap ((f : Int) + (i : Int)) = (pl : Int) := by rw [IntWalk.i64_in _ (by omega)]; omega
              obtain ⟨q, hq⟩ : ∃ q, pl / 8 = q := ⟨_, rfl⟩
              have V5 : (pl : Int).tdiv 8 = (q : Int) := by rw [← hq]; rfl
              obtain ⟨p, hp⟩ : ∃ p, fm + q = p := ⟨_, rfl⟩
              have V6 : IntKind.i64.wrap ((fm : Int) + (q : Int)) = (p : Int) := by rw [IntWalk.i64_in _ (by omega)]; omega
              obtain ⟨b, hb⟩ : ∃ b, pl % 8 = b := ⟨_, rfl⟩
              have V7 : (pl : Int).tmod 8 = (b : Int) := by rw [← hb]; rfl
              have hpn : p < n := by omega
              have hpnI : (p : Int) < (n : Int) := by omega
              have hb8 : b < 8 := by omega
              have V9 : IntKind.i64.wrap (q : Int) = (q : Int) := IntWalk.i64_in _ (by omega)
              have V10 : IntKind.i64.wrap (b : Int) = (b : Int) := IntWalk.i64_in _ (by omega)
              have hp0 : (0 : Int) ≤ (p : Int) := by omega
              have hcell := HW.out.cell hpn
              have hfree := HW.out.free p
              have hgl := HW.out.lt
              have hyb := HFL.out.byte p
              obtain ⟨y, hy⟩ : ∃ y : Nat, iat ys p = (y : Int) := ⟨(iat ys p).toNat, by omega⟩
              rw [hy] at hcell hyb
              obtain ⟨pw, hpw⟩ : ∃ pw, pw = 2 ^ b := ⟨_, rfl⟩
              have hpw256 : pw < 256 := by rw [hpw]; exact Nat.lt_of_lt_of_le (Nat.pow_lt_pow_right (by decide) hb8) (by decide)
              obtain ⟨z, hz⟩ : ∃ z, y ^^^ pw = z := ⟨_, rfl⟩
              have V8 : bits BinOp.xor IntKind.u8 (y : Int) (pw : Int) = (z : Int) := by rw [xor_u8 y pw (by omega) hpw256, hz]
              have HF2 : Hid (Fl (fr k ps) (ys.set p (z : Int)) n fm m f M (i + 1)) := Lib.hid (HFL.out.flip (b := b) (by rw [← HL.out]; exact hr) (by rw [← hp, ← hq, ← hpl]) (by rw [← hb, ← hpl]) (by omega) (by omega) (by rw [hy, Int.toNat_natCast, ← hpw, hz]))
              have HPW := Lib.hid hpw
              clear hr hl2 hpl hq hp hb hy hz hpw hyb hpw256
              go_wp2_with fail
              go_still_tail 16, (by kernel_rfl)
              still_call (power32 b pw _ hb8 HPW.out)
              repeat still_step
              refine wpStill_nil ?_
              clear hcell hfree
              have HWD := Lib.hid (HW.out.next (Below.refl wr.heap.size wr).drew)
              have hfree := HWD.out.free p
              have hcell := HWD.out.cell hpn
              have hgl2 := HWD.out.lt
              have HW2 : Hid (Wr (wr.drew.setCell ⟨g, p, none⟩ (.int .u8 (z : Int))) g n (ys.set p (z : Int))) := Lib.hid (HWD.out.set HFL.out.len hpn)
              have HB2 : Hid (Below w.heap.size w (wr.drew.setCell ⟨g, p, none⟩ (.int .u8 (z : Int)))) := Lib.hid (HB.out.drew.setCell (p := ⟨g, p, none⟩) hbg _)
              go_wp2_with fail
              go_roundw
              case rel => exact ⟨i + 1, l2, _, by omega, by go_num, rfl, hl232, HL2, HF2, HW2, HB2⟩
              case measure => simp [intOf]; omega
          · have hltI : ¬ (i : Int) < 32 := by omega
            obtain rfl : i = 32 := by omega
            have hE := damage_fr HPL.out (by omega) HPI.out HFM.out.symm HN.out.symm hM0 (by omega) (show f ≤ 8 * m by omega) HFL.out
            have HE := Lib.hid hE
            have HBY := Lib.hid HFL.out.byte
            have HLY := Lib.hid HFL.out.len
            clear hE HL HFL hltI
            go_wp2_with fail
            refine (frame26 (some ⟨g, 0, none⟩) n cap 0 ys wr (HW.out.rk HLY.out (by omega) HBY.out) (by omega) hlc hcm).mono ?_
            rintro e w2 ⟨v, rfl, ho, hb⟩
            obtain ⟨z1, z2, z3⟩ := fr_no (zs := ys) (n := n) (t := 0) (by rw [HE.out]; decide)
            rw [z1, z3, HE.out]
            replace HB := Lib.hid (upB HB.out hb)
            replace HW := Lib.hid (HW.out.next hb)
            clear ho hb z1 z2 z3
            go_wp2_with fail
            refine (intact28 (some ⟨g, 0, none⟩) n cap ys w2 (HW.out.rk HLY.out (by omega) HBY.out) (by omega) hlc hcm).mono ?_
            rintro e w3 ⟨k2, rfl, hf, hne, hb⟩
            obtain rfl := sq_first hf (by rw [HE.out]; decide)
            rw [show sq ys n 0 = 0 from rfl]
            replace HB := Lib.hid (upB HB.out hb)
            clear hb hf hne HW
            go_wp2_with fail
            refine (alive17 _).mono ?_
            rintro e w4 ⟨rfl, hb⟩
            replace HB := Lib.hid (upB HB.out hb)
            clear hb
            go_wp2_with fail
            go_ret
            exact ⟨rfl, HB.out⟩
end Go.Proofs.Ytppgaddjjlcfcaa.Wk
