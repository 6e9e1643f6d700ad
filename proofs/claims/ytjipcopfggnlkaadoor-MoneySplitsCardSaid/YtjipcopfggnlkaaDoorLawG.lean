/- The law of divisions: the reference's Split, walked. Conditions: the arguments read as numbers; the table reads as it is laid. -/
import Derived.Test.YtjipcopfggnlkaaDoorTw
set_option linter.unusedSimpArgs false
set_option linter.unusedVariables false
namespace Go.Proofs.YtjipcopfggnlkaaDoor.Wk
open Go.RowKit
open Go.Proofs.YtjipcopfggnlkaaDoor.Mt
set_option maxHeartbeats 8000000 in
set_option maxRecDepth 100000 in
theorem split21_bad (T E : Int) (A : Option Addr) (n c : Nat) (ws : List Int) (w : World) (h : Rk .i64 w w.heap.size A n ws) (hT : In64 T) (hE : spE T ws = E) (hne : E ≠ 0) : Calls Tryd.prog 21 #[.int .i64 T, .slice A n c] w fun e w' => e = .returned (.tuple #[.slice none 0 0, .int .i64 E]) ∧ w' = w := by
  have HZ := Lib.hid h
  have HEE := Lib.hid hE
  have HNE := Lib.hid hne
  have HLN : Hid (ws.length = n) := Lib.hid h.1
  have hn9 := h.2.1
  clear h hE hne
  by_cases h0 : T < 0
  · have d1 : decide (T < 0) = true := decide_eq_true h0
    obtain rfl : (13 : Int) = E := (sp_sign (ws := ws) (.inl h0)).symm.trans HEE.out
    go_enter Tryd.func21, Tryd.ntmps21
    go_wp2_with fail
    go_ret2
    exact ⟨rfl, rfl⟩
  have d1 : decide (T < 0) = false := decide_eq_false h0
  rcases fot (fitB T) with hf | hf
  · obtain rfl : (13 : Int) = E := (sp_sign (ws := ws) (.inr hf)).symm.trans HEE.out
    have HF := Lib.hid hf
    clear hf
    go_enter Tryd.func21, Tryd.ntmps21
    go_wp2_with fail
    refine (fits17 T w).mono ?_
    rintro e w1 ⟨rfl, hw⟩
    rw [hw, HF.out]
    clear hw
    go_wp2_with fail
    go_ret2
    exact ⟨rfl, rfl⟩
  have HS0 : Hid (¬ (T < 0 ∨ fitB T = false)) := Lib.hid (fun h => by
    rcases h with h | h
    · omega
    · rw [hf] at h; cases h)
  have HF := Lib.hid hf
  clear hf
  by_cases hbig : 1024 < n
  · have d2 : decide ((1024 : Int) < (n : Int)) = true := decide_eq_true (by omega)
    obtain rfl : (3 : Int) = E := (sp_len (ws := ws) HS0.out (by rw [HLN.out]; exact hbig)).symm.trans HEE.out
    go_enter Tryd.func21, Tryd.ntmps21
    go_wp2_with fail
    refine (fits17 T w).mono ?_
    rintro e w1 ⟨rfl, hw⟩
    rw [hw, HF.out]
    clear hw
    go_wp2_with fail
    go_ret2
    exact ⟨rfl, rfl⟩
  have d2 : decide ((1024 : Int) < (n : Int)) = false := decide_eq_false (by omega)
  have HS1 : Hid (¬ 1024 < ws.length) := Lib.hid (by rw [HLN.out]; exact hbig)
  go_enter Tryd.func21, Tryd.ntmps21
  go_wp2_with fail
  refine (fits17 T w).mono ?_
  rintro e w1 ⟨rfl, hw⟩
  rw [hw, HF.out]
  clear hw
  go_wp2_with fail
  clear d2 d1
  go_loopw [6, 7] (fun sv iv wr => ∃ (i s : Nat), i ≤ n ∧ iv = .int .i64 i ∧ sv = .int .i64 (s : Int) ∧ s ≤ 1125899906842624 ∧ Hid ((s : Int) = su ws i) ∧ Hid (∀ j, j < i → 0 ≤ iat ws j ∧ iat ws j ≤ 1125899906842624 - su ws j) ∧ wr = w) (fun _ iv _ => n - (intOf iv).toNat)
  case atStart => exact ⟨0, 0, by omega, rfl, rfl, by omega, Lib.hid rfl, Lib.hid (fun j hj => by omega), rfl⟩
  case round =>
    obtain ⟨i, s, hi, rfl, rfl, hsM, HS, HOK, hwr⟩ := hrel
    have hwr2 := hwr.symm
    clear hwr
    subst hwr2
    by_cases hlt : i < n
    · have hltI : (i : Int) < (n : Int) := by omega
      have W1 : IntKind.i64.wrap ((i : Int) + 1) = (i : Int) + 1 := IntWalk.i64_in _ (by omega)
      obtain ⟨b, off, rfl, hbB, hcell⟩ := HZ.out.get hlt
      have hxr := i64_r (HZ.out.2.2.2 i)
      obtain ⟨x, hx⟩ : ∃ x, iat ws i = x := ⟨_, rfl⟩
      rw [hx] at hcell hxr
      have HX := Lib.hid hx
      clear hx
      by_cases hx0 : x < 0
      · have e1 : decide (x < 0) = true := decide_eq_true hx0
        obtain rfl : (1 : Int) = E := (sp_bad (ws := ws) HS0.out HS1.out (fun hw => by have := (hw i (by rw [HLN.out]; exact hlt)).1; rw [HX.out] at this; omega)).symm.trans HEE.out
        go_wp2_with fail
        go_ret2
        exact ⟨rfl, by trivial⟩
      · have e1 : decide (x < 0) = false := decide_eq_false hx0
        obtain ⟨a, rfl⟩ : ∃ a : Nat, x = (a : Int) := ⟨x.toNat, by omega⟩
        obtain ⟨rm, hrm⟩ : ∃ r, 1125899906842624 - s = r := ⟨_, rfl⟩
        have W2 : IntKind.i64.wrap (1125899906842624 - (s : Int)) = (rm : Int) := by rw [show (1125899906842624 : Int) - (s : Int) = (rm : Int) by omega]; exact IntWalk.i64_in _ (by omega)
        by_cases hxb : rm < a
        · have e2 : (rm : Int) < (a : Int) := by omega
          obtain rfl : (1 : Int) = E := (sp_bad (ws := ws) HS0.out HS1.out (fun hw => by have := (hw i (by rw [HLN.out]; exact hlt)).2; rw [HX.out, ← HS.out] at this; omega)).symm.trans HEE.out
          clear hrm
          go_wp2_with fail
          go_ret2
          exact ⟨rfl, by trivial⟩
        · have e2 : ¬ (rm : Int) < (a : Int) := by omega
          obtain ⟨s2, hs2⟩ : ∃ r, s + a = r := ⟨_, rfl⟩
          have W3 : IntKind.i64.wrap ((s : Int) + (a : Int)) = (s2 : Int) := by rw [show (s : Int) + (a : Int) = (s2 : Int) by omega]; exact IntWalk.i64_in _ (by omega)
          have HS2 : Hid ((s2 : Int) = su ws (i + 1)) := Lib.hid (by rw [su, ← HS.out, HX.out]; omega)
          have HOK2 : Hid (∀ j, j < i + 1 → 0 ≤ iat ws j ∧ iat ws j ≤ 1125899906842624 - su ws j) := Lib.hid (fun j hj => by
            rcases Nat.lt_or_ge j i with h9 | h9
            · exact HOK.out j h9
            · rw [show j = i by omega, HX.out, ← HS.out]; omega)
          have hs2M : s2 ≤ 1125899906842624 := by omega
          clear hrm hs2
          go_wp2_with fail
          go_roundw
          case rel => exact ⟨i + 1, s2, by omega, by go_num, rfl, hs2M, HS2, HOK2, by trivial⟩
          case measure => simp [intOf]; omega
    · have hltI : ¬ (i : Int) < (n : Int) := by omega
      obtain rfl : i = n := by omega
      have HW : Hid (wOk ws) := Lib.hid (fun j hj => HOK.out j (by rw [HLN.out] at hj; exact hj))
      have HSU : Hid (su ws ws.length = (s : Int)) := Lib.hid (by rw [HLN.out]; exact HS.out.symm)
      clear HS HOK hltI
      by_cases hs0 : s = 0
      · have e1 : ((s : Int) == 0) = true := by simp [hs0]
        obtain rfl : (1 : Int) = E := (sp_zero (ws := ws) HS0.out HS1.out HW.out (by rw [HSU.out]; omega)).symm.trans HEE.out
        go_wp2_with fail
        go_ret2
        exact ⟨rfl, by trivial⟩
      · exfalso
        have hE := sp_good (ws := ws) HS0.out HS1.out HW.out (by rw [HSU.out]; omega)
        exact HNE.out (HEE.out.symm.trans hE)
set_option maxHeartbeats 8000000 in
set_option maxRecDepth 100000 in
theorem split21_ok (T : Int) (A : Option Addr) (n c : Nat) (ws : List Int) (t S : Nat) (o : List Nat) (w : World) (h : Rk .i64 w w.heap.size A n ws) (hsp : SpOk T ws t S) (ho : OrdOk (rf t S ws) n o) : Calls Tryd.prog 21 #[.int .i64 T, .slice A n c] w fun e w' => Below w.heap.size w w' ∧ ∃ g c', e = .returned (.tuple #[.slice (some ⟨g, 0, none⟩) n c', .int .i64 0]) ∧ Rk .i64 w' w'.heap.size (some ⟨g, 0, none⟩) n (bump (qf t S ws) n o (t - sm (qf t S ws) n)) := by
  have HZ := Lib.hid h
  have HSP := Lib.hid hsp
  have HO := Lib.hid ho
  have hln := h.1
  have HLN : Hid (ws.length = n) := Lib.hid h.1
  have hn := hsp.len
  rw [hln] at hn
  have HFT := Lib.hid hsp.fit
  have HS0 := Lib.hid hsp.pos
  have HSL := Lib.hid hsp.sle
  obtain rfl : T = (t : Int) := hsp.tt
  have HF : Hid (fitB (t : Int) = true) := Lib.hid ((fit_iff _).2 (by have := hsp.fit; omega))
  have hn0 : 0 < n := by
    rcases Nat.eq_zero_or_pos n with h9 | h9
    · exfalso
      have h1 := hsp.ss
      have h2 := hsp.pos
      rw [hln, h9] at h1
      have : sm (wn ws) 0 = 0 := rfl
      omega
    · exact h9
  have HMONO : Hid (∀ i, i ≤ n → su ws i = ((sm (wn ws) i : Nat) : Int) ∧ sm (wn ws) i ≤ S) := Lib.hid (fun i hi => ⟨su_wn i (fun j hj => hsp.ok.pos j (by omega)), by rw [hsp.ss, hln]; exact sm_le _ hi⟩)
  have HSE : Hid (sm (wn ws) n = S) := Lib.hid (by rw [hsp.ss, hln])
  have hleft := hsp.left
  rw [hln] at hleft
  have HLEFT := Lib.hid hleft
  have hll := hsp.left_le
  rw [hln] at hll
  have HLL := Lib.hid hll
  have HQL : Hid (∀ k, k ≤ n → sm (qf t S ws) k ≤ t) := Lib.hid (fun k hk => hsp.q_le (by omega))
  have d1 : decide ((t : Int) < 0) = false := decide_eq_false (by omega)
  have d2 : decide ((1024 : Int) < (n : Int)) = false := decide_eq_false (by omega)
  obtain ⟨i0, hi0, hz0, hs0, hb0'⟩ := info_parts int_info
  obtain ⟨i1, hi1, hz1, hs1, hb1'⟩ := info_parts u64_info
  clear h hsp ho hleft hll hln
  go_enter Tryd.func21, Tryd.ntmps21
  go_wp2_with fail
  refine (fits17 (t : Int) w).mono ?_
  rintro e w1 ⟨rfl, hw⟩
  rw [hw, HF.out]
  clear hw
  go_wp2_with fail
  clear d2 d1
  go_loopw [6, 7] (fun sv iv wr => ∃ (i s : Nat), i ≤ n ∧ iv = .int .i64 i ∧ sv = .int .i64 (s : Int) ∧ s ≤ 1125899906842624 ∧ Hid (s = sm (wn ws) i) ∧ wr = w) (fun _ iv _ => n - (intOf iv).toNat)
  case atStart => exact ⟨0, 0, by omega, rfl, rfl, by omega, Lib.hid rfl, rfl⟩
  case round =>
    obtain ⟨i, s, hi, rfl, rfl, hsM, HS, hwr⟩ := hrel
    have hwr2 := hwr.symm
    clear hwr
    subst hwr2
    by_cases hlt : i < n
    · have hltI : (i : Int) < (n : Int) := by omega
      have W1 : IntKind.i64.wrap ((i : Int) + 1) = (i : Int) + 1 := IntWalk.i64_in _ (by omega)
      obtain ⟨b, off, rfl, hbB, hcell⟩ := HZ.out.get hlt
      have hok := HSP.out.ok i (by rw [HLN.out]; exact hlt)
      have hsu := (HMONO.out i (by omega)).1
      have hnx := (HMONO.out (i + 1) (by omega)).2
      obtain ⟨a, ha⟩ : ∃ a : Nat, iat ws i = (a : Int) := ⟨(iat ws i).toNat, by omega⟩
      have haw : wn ws i = a := by unfold wn; omega
      rw [sm, haw, ← HS.out] at hnx
      rw [hsu, ← HS.out, ha] at hok
      rw [ha] at hcell
      have e1 : decide ((a : Int) < 0) = false := decide_eq_false (by omega)
      obtain ⟨rm, hrm⟩ : ∃ r, 1125899906842624 - s = r := ⟨_, rfl⟩
      have W2 : IntKind.i64.wrap (1125899906842624 - (s : Int)) = (rm : Int) := by rw [show (1125899906842624 : Int) - (s : Int) = (rm : Int) by omega]; exact IntWalk.i64_in _ (by omega)
      have e2 : ¬ (rm : Int) < (a : Int) := by omega
      obtain ⟨s2, hs2⟩ : ∃ r, s + a = r := ⟨_, rfl⟩
      have hsl := HSL.out
      have W3 : IntKind.i64.wrap ((s : Int) + (a : Int)) = (s2 : Int) := by rw [show (s : Int) + (a : Int) = (s2 : Int) by omega]; exact IntWalk.i64_in _ (by omega)
      have HS2 : Hid (s2 = sm (wn ws) (i + 1)) := Lib.hid (by rw [sm, ← HS.out, haw]; omega)
      have hs2M : s2 ≤ 1125899906842624 := by omega
      clear hrm hs2 hok hsu hnx ha haw hsl
      go_wp2_with fail
      go_roundw
      case rel => exact ⟨i + 1, s2, by omega, by go_num, rfl, hs2M, HS2, by trivial⟩
      case measure => simp [intOf]; omega
    · have hltI : ¬ (i : Int) < (n : Int) := by omega
      obtain rfl : i = n := by omega
      obtain rfl : s = S := by rw [HS.out]; exact HSE.out
      have e1 : ((s : Int) == 0) = false := by simp; have := HS0.out; omega
      have HTW := Lib.hid (Two.start w)
      clear HS hltI
      go_wp2_with fail
      clear e1
      go_loopw [8, 9, 10, 11, 12, 13, 14] (fun pv rv lv iv _ _ _ wr => ∃ (j lf : Nat) (v1 v2 : Value), j ≤ i ∧ iv = .int .i64 j ∧ pv = v1 ∧ rv = v2 ∧ lv = .int .i64 (lf : Int) ∧ lf ≤ t ∧ Hid (lf = t - sm (qf t s ws) j) ∧ Hid (Two w wr v1 v2 (ml (qf t s ws) j) (ml (rf t s ws) j))) (fun _ _ _ iv _ _ _ _ => i - (intOf iv).toNat)
      case atStart => exact ⟨0, t, _, _, by omega, rfl, rfl, rfl, rfl, Nat.le_refl _, Lib.hid (by rw [sm, Nat.sub_zero]), HTW⟩
      case round =>
        obtain ⟨j, lf, p1, p2, hj, rfl, e8, e9, rfl, hlf, HLF, HTW⟩ := hrel
        replace e8 := e8.symm
        subst e8
        replace e9 := e9.symm
        subst e9
        by_cases hlt : j < i
        · have hltI : (j : Int) < (i : Int) := by omega
          have W1 : IntKind.i64.wrap ((j : Int) + 1) = (j : Int) + 1 := IntWalk.i64_in _ (by omega)
          have HZ1 := Lib.hid (HZ.out.up HTW.out.bl)
          obtain ⟨b, off, rfl, hbB, hcell⟩ := HZ1.out.get hlt
          have hwx := HSP.out.ok j (by rw [HLN.out]; exact hlt)
          obtain ⟨a, ha⟩ : ∃ a : Nat, iat ws j = (a : Int) := ⟨(iat ws j).toNat, by omega⟩
          have haw : wn ws j = a := by unfold wn; omega
          have hle := HSP.out.w_le (i := j) (by rw [HLN.out]; exact hlt)
          rw [haw] at hle
          rw [ha] at hcell
          have hsle := HSL.out
          have hspos := HS0.out
          have hft := HFT.out
          have U1 := u64_in t (by omega)
          have U2 := u64_in a (by omega)
          have U3 := u64_in s (by omega)
          obtain ⟨q, hq⟩ : ∃ q, qf t s ws j = q := ⟨_, rfl⟩
          obtain ⟨r, hr⟩ : ∃ r, rf t s ws j = r := ⟨_, rfl⟩
          have hqd : t * a / s = q := by rw [← hq]; unfold qf; rw [haw]
          have hrd : t * a % s = r := by rw [← hr]; unfold rf; rw [haw]
          have hqs := HQL.out (j + 1) (by omega)
          rw [sm, hq] at hqs
          obtain ⟨lf2, hlf2⟩ : ∃ x, lf - q = x := ⟨_, rfl⟩
          have hlfq : lf = t - sm (qf t s ws) j := HLF.out
          have W2 : IntKind.i64.wrap (q : Int) = (q : Int) := IntWalk.i64_in _ (by omega)
          have W3 : IntKind.i64.wrap ((lf : Int) - (q : Int)) = (lf2 : Int) := by rw [show (lf : Int) - (q : Int) = (lf2 : Int) by omega]; exact IntWalk.i64_in _ (by omega)
          have HLF2 : Hid (lf2 = t - sm (qf t s ws) (j + 1)) := Lib.hid (by rw [sm, hq]; omega)
          have hlf2t : lf2 ≤ t := by omega
          have HDV := Lib.hid (divide34 t a s wr hft (by omega) hspos (by omega))
          rw [hqd, hrd] at HDV
          have HQ := Lib.hid hq
          have HR := Lib.hid hr
          have HQT : Hid (q ≤ 1125899906842624) := Lib.hid (by omega)
          have B1 : Hid (j + 1 ≤ maxLen) := Lib.hid (by unfold maxLen; omega)
          have B2 : Hid ((j + 1) * 8 ≤ 140737488355328) := Lib.hid (by omega)
          have B3 : Hid ((ml (qf t s ws) j).length = j) := Lib.hid (ml_len _ _)
          have B4 : Hid ((ml (rf t s ws) j).length = j) := Lib.hid (ml_len _ _)
          clear hwx ha haw hle hsle hspos hft hq hr hqd hrd hqs hlf2 hlfq
          go_wp2_with fail
          refine HDV.out.mono ?_
          rintro e w2 ⟨⟨rfl, hbig⟩ | ⟨rfl, hsm⟩, hb⟩
          · exfalso
            have := HQT.out
            omega
          replace HTW := Lib.hid (HTW.out.next hb)
          clear hb hsm hcell hbB
          have O1 : Hid ((w2.alloc (.cells #[.int .i64 (q : Int)] 3)).ownsRow w.heap.size 3 1 p1 j (vk .i64 (ml (qf t s ws) j))) := Lib.hid (by have := (HTW.out.next (b1 w2 (.cells #[.int .i64 (q : Int)] 3))).o1; rwa [B3.out] at this)
          have K1 : Hid (w.heap.size ≤ (w2.alloc (.cells #[.int .i64 (q : Int)] 3)).heap.size) := Lib.hid (HTW.out.next (b1 w2 _)).bl.size
          go_wp2_with (at_builtin; refine wpList_append_lies _ rfl _ _ 22 rfl w.heap.size 3 i0 (.int .i64 0) 1 8 Tryd.underlying22 hi0 hz0 hs0 hb0' rfl (by omega) _ j _ rfl O1.out ⟨_, 0, none⟩ 1 1 [.int .i64 (q : Int)] rfl rfl (new_cell _ _ _ _ (by simp)) (one_int .i64 (q : Int)) (by omega) B1.out B2.out K1.out _ rfl ?_)
          intro g9 cap9 w9 hown hgrow hat hlt9
          have hat0 : p1.ownBlock = some g9 ∨ g9 = w2.heap.size + 1 := by simpa using hat
          have HT9 := Lib.hid (HTW.out.app1 B3.out hown hgrow hat0)
          clear hown hgrow hat hat0 hlt9 O1 K1
          have O2 : Hid ((w9.alloc (.cells #[.int .u64 (r : Int)] 52)).ownsRow w.heap.size 52 1 p2 j (vk .u64 (ml (rf t s ws) j))) := Lib.hid (by have := (HT9.out.next (b1 w9 (.cells #[.int .u64 (r : Int)] 52))).o2; rwa [B4.out] at this)
          have K2 : Hid (w.heap.size ≤ (w9.alloc (.cells #[.int .u64 (r : Int)] 52)).heap.size) := Lib.hid (HT9.out.next (b1 w9 _)).bl.size
          go_wp2_with (at_builtin; refine wpList_append_lies _ rfl _ _ 60 rfl w.heap.size 52 i1 (.int .u64 0) 1 8 Tryd.underlying60 hi1 hz1 hs1 hb1' rfl (by omega) _ j _ rfl O2.out ⟨_, 0, none⟩ 1 1 [.int .u64 (r : Int)] rfl rfl (new_cell _ _ _ _ (by simp)) (one_int .u64 (r : Int)) (by omega) B1.out B2.out K2.out _ rfl ?_)
          intro g8 cap8 w8 hown hgrow hat hlt8
          have hat0 : p2.ownBlock = some g8 ∨ g8 = w9.heap.size + 1 := by simpa using hat
          have HT8 := Lib.hid (HT9.out.app2 B4.out hown hgrow hat0)
          have HT7 : Hid (Two w w8 (.slice (some ⟨g9, 0, none⟩) (j + 1) cap9) (.slice (some ⟨g8, 0, none⟩) (j + 1) cap8) (ml (qf t s ws) (j + 1)) (ml (rf t s ws) (j + 1))) := Lib.hid (by rw [ml_succ, ml_succ, HQ.out, HR.out]; exact HT8.out)
          clear hown hgrow hat hat0 hlt8 O2 K2 HT8 HT9
          go_wp2_with fail
          go_roundw
          case rel => exact ⟨j + 1, lf2, _, _, by omega, by go_num, rfl, rfl, rfl, hlf2t, HLF2, HT7⟩
          case measure => simp [intOf]; omega
        · have hltI : ¬ (j : Int) < (i : Int) := by omega
          obtain rfl : j = i := by omega
          obtain ⟨g1, c1, e1, hbg1, hlc1, hcm1, hw1⟩ := own_wq HTW.out.o1 (by rw [ml_len]; exact hn0)
          obtain ⟨g2, c2, e2, hbg2, hlc2, hcm2, hw2⟩ := own_wq HTW.out.o2 (by rw [ml_len]; exact hn0)
          rw [ml_len] at e1 e2 hlc1 hlc2 hw1 hw2
          have hne := HTW.out.ne
          rw [e1, e2] at hne
          have hgg : g1 ≠ g2 := fun e => hne g1 rfl (by rw [e]; rfl)
          have HWA : Hid (Wq .i64 3 wr g1 j (bump (qf t s ws) j o 0)) := Lib.hid (by rw [bump_ml]; exact hw1)
          have HWB : Hid (Wq .u64 52 wr g2 j (ml (rz (rf t s ws) o 0) j)) := Lib.hid (by rw [rz_zero]; exact hw2)
          have HBW := Lib.hid HTW.out.bl
          have HGG := Lib.hid hgg
          have HBG1 := Lib.hid hbg1
          have HBG2 := Lib.hid hbg2
          have hlfj : lf ≤ j := by rw [HLF.out]; exact HLL.out
          have HLFJ := Lib.hid hlfj
          have HOL := Lib.hid HO.out.len
          rw [e1, e2]
          clear e1 e2 hw1 hw2 hne hgg hbg1 hbg2 hlc1 hlc2 hcm1 hcm2 HTW hltI
          go_wp2_with fail
          go_loopw [10, 15, 16] (fun lv _ _ wq => ∃ k y : Nat, k ≤ lf ∧ lf - k = y ∧ lv = .int .i64 (y : Int) ∧ Hid (Wq .i64 3 wq g1 j (bump (qf t s ws) j o k)) ∧ Hid (Wq .u64 52 wq g2 j (ml (rz (rf t s ws) o k) j)) ∧ Hid (Below w.heap.size w wq)) (fun lv _ _ _ => (intOf lv).toNat)
          case atStart => exact ⟨0, lf, by omega, rfl, rfl, HWA, HWB, HBW⟩
          case round =>
            obtain ⟨k, y, hk, hy, rfl, HWA, HWB, HBW⟩ := hrel
            by_cases hkl : k < lf
            · have hyI : (0 : Int) < (y : Int) := by omega
              have hyD : decide ((0 : Int) < (y : Int)) = true := decide_eq_true hyI
              have hyD' : decide (0 < y) = true := decide_eq_true (by omega)
              have hyN : 0 < y := by omega
              obtain ⟨y2, hy2⟩ : ∃ x, lf - (k + 1) = x := ⟨_, rfl⟩
              have hft := HFT.out
              have Y1 : IntKind.i64.wrap ((y : Int) - 1) = (y2 : Int) := by rw [show (y : Int) - 1 = (y2 : Int) by omega]; exact IntWalk.i64_in _ (by omega)
              have HYY : Hid (y2 < y) := Lib.hid (by omega)
              have HY2 := Lib.hid hy2
              have HKL := Lib.hid hkl
              have hko : k < o.length := by rw [HOL.out]; omega
              have HTOP : Hid (Top (rz (rf t s ws) o k) j (o[k]'hko)) := Lib.hid (HO.out.top HS0.out (fun i _ => HSP.out.lt i) HLEFT.out HLL.out (by rw [← HLF.out]; exact hkl) hko)
              clear hy hy2 hft hkl hk
              have hj1024 : j ≤ 1024 := hn
              go_wp2_with fail
              go_loopw [15, 16] (fun av iv wi => ∃ a i : Nat, 1 ≤ i ∧ i ≤ j ∧ iv = .int .i64 i ∧ av = .int .i64 a ∧ Hid (Top (rz (rf t s ws) o k) i a) ∧ Hid (Below wr.heap.size wr wi)) (fun _ iv _ => j - (intOf iv).toNat)
              case atStart => exact ⟨0, 1, by omega, by omega, rfl, rfl, Lib.hid ⟨by omega, fun j hj => by rw [show j = 0 by omega]; exact Nat.le_refl _, fun j hj => by omega⟩, Lib.hid (Below.refl _ _)⟩
              case round =>
                obtain ⟨a, i, hi1, hij, rfl, rfl, HTP, HBI⟩ := hrel
                have K1 := HWA.out.next HBI.out
                have K2 := HWB.out.next HBI.out
                have haj : a < j := by have := HTP.out.1; omega
                have l1 := K1.lt
                have l2 := K2.lt
                by_cases hlt : i < j
                · have hltI : (i : Int) < (j : Int) := by omega
                  have hajI : (a : Int) < (j : Int) := by omega
                  have W1 : IntKind.i64.wrap ((i : Int) + 1) = (i : Int) + 1 := IntWalk.i64_in _ (by omega)
                  have ci := K2.cell hlt
                  have ca := K2.cell haj
                  rw [ml_at _ hlt] at ci
                  rw [ml_at _ haj] at ca
                  obtain ⟨x, hx⟩ : ∃ x, rz (rf t s ws) o k i = x := ⟨_, rfl⟩
                  obtain ⟨z, hz⟩ : ∃ x, rz (rf t s ws) o k a = x := ⟨_, rfl⟩
                  rw [hx] at ci
                  rw [hz] at ca
                  have HI : Hid (1 ≤ i + 1 ∧ i + 1 ≤ j) := Lib.hid (by omega)
                  by_cases hxz : z < x
                  · have g : decide ((z : Int) < (x : Int)) = true := decide_eq_true (by omega)
                    have HT2 : Hid (Top (rz (rf t s ws) o k) (i + 1) i) := Lib.hid (HTP.out.move (by rw [hx, hz]; exact hxz))
                    have gI : (z : Int) < (x : Int) := by omega
                    clear hx hz K1 K2 hxz
                    go_wp2_with fail
                    go_quiet (fail)
                    go_wp2_with fail
                    go_roundw
                    case rel => exact ⟨i, i + 1, HI.out.1, HI.out.2, by go_num, rfl, HT2, Lib.hid (below_drewN HBI.out nq)⟩
                    case measure => simp [intOf]; omega
                  · have g : decide ((z : Int) < (x : Int)) = false := decide_eq_false (by omega)
                    have gI : ¬ (z : Int) < (x : Int) := by omega
                    have HT2 : Hid (Top (rz (rf t s ws) o k) (i + 1) a) := Lib.hid (HTP.out.keep (by rw [hx, hz]; omega))
                    clear hx hz K1 K2 hxz
                    go_wp2_with fail
                    go_quiet (fail)
                    go_wp2_with fail
                    go_roundw
                    case rel => exact ⟨a, i + 1, HI.out.1, HI.out.2, by go_num, rfl, HT2, Lib.hid (below_drewN HBI.out nq)⟩
                    case measure => simp [intOf]; omega
                · have hltI : ¬ (i : Int) < (j : Int) := by omega
                  have hajI : (a : Int) < (j : Int) := by omega
                  obtain rfl : i = j := by omega
                  have hae := HTP.out.uniq HTOP.out
                  obtain ⟨b, hb⟩ : ∃ b, iat (bump (qf t s ws) i o k) a = b := ⟨_, rfl⟩
                  have c1' := K1.cell haj
                  have f1 := K1.free a
                  have hb2 : 0 ≤ b ∧ b ≤ 1125899906842625 := by
                    rw [← hb, bump_at _ _ _ _ haj]
                    have h1 := HQL.out (a + 1) (by omega)
                    have h2 := HFT.out
                    rw [sm] at h1
                    split <;> omega
                  obtain ⟨b2, hbb⟩ : ∃ x, b + 1 = x := ⟨_, rfl⟩
                  have Y2 : IntKind.i64.wrap (b + 1) = b2 := by rw [hbb]; exact IntWalk.i64_in _ (by omega)
                  rw [hb] at c1'
                  have S1 := K1.set (v := b2) (bump_len _ _ _ _) haj
                  have S2 := K2.far (g' := g1) (fun e => HGG.out e.symm) a (.int .i64 b2)
                  have c2' := S2.cell haj
                  have f2 := S2.free a
                  have l3 := S2.lt
                  have S3 := S2.set (v := 0) (ml_len _ _) haj
                  have S4 := S1.far (g' := g2) HGG.out a (.int .u64 0)
                  rw [← hbb, ← hb, hae, ← bump_step HO.out] at S4
                  rw [hae, ← rz_step HO.out] at S3
                  rw [← hae] at S3 S4
                  rw [hb, hbb] at S4
                  have HA2 := Lib.hid S4
                  have HB2 := Lib.hid S3
                  have HBB : Hid (Below w.heap.size w ((wr.setCell ⟨g1, a, none⟩ (.int .i64 b2)).setCell ⟨g2, a, none⟩ (.int .u64 0))) := Lib.hid ((((HBW.out.trans (HBI.out.mono HBW.out.size)).setCell (p := ⟨g1, a, none⟩) HBG1.out _)).setCell (p := ⟨g2, a, none⟩) HBG2.out _)
                  clear hae hb hb2 hbb S1 S2 S3 S4 K1 K2
                  go_wp2_with fail
                  go_roundw
                  case rel => exact ⟨k + 1, y2, by have := HKL.out; omega, HY2.out, rfl, HA2, HB2, HBB⟩
                  case measure => simp [intOf]; have := HYY.out; omega
            · obtain rfl : k = lf := by omega
              obtain rfl : y = 0 := by omega
              have HRK : Hid (Rk .i64 wr wr.heap.size (some ⟨g1, 0, none⟩) j (bump (qf t s ws) j o (t - sm (qf t s ws) j))) := Lib.hid (by
                have h1 := HWA.out
                rw [HLF.out] at h1
                refine h1.rk (bump_len _ _ _ _) (by omega) fun i => ?_
                rcases Nat.lt_or_ge i j with h2 | h2
                · apply i64_w
                  rw [bump_at _ _ _ _ h2]
                  have h3 := HQL.out (i + 1) (by omega)
                  have h4 := HFT.out
                  rw [sm] at h3
                  unfold In64
                  split <;> omega
                · have e : iat (bump (qf t s ws) j o (t - sm (qf t s ws) j)) i = 0 := by
                    unfold iat
                    rw [List.getD_eq_getElem?_getD, List.getElem?_eq_none (by rw [bump_len]; exact h2)]
                    rfl
                  rw [e]
                  decide)
              clear hy hkl hk
              go_wp2_with fail
              go_ret2
              exact ⟨HBW.out, g1, c1, rfl, HRK.out⟩
set_option maxHeartbeats 4000000 in
set_option maxRecDepth 100000 in
theorem splits_law (T : Int) (A : Option Addr) (n c : Nat) (zs : List Int) (w : World) (hT : In64 T) (h : Sl w A n c zs) (ht : Tb w) : Calls Tryd.prog 5 #[.int .i64 T, .slice A n c] w fun e w' => e = .returned (.bool true) ∧ Below w.heap.size w w' := by
  have HT := Lib.hid ht
  have HZ := Lib.hid h.rk
  have HTT := Lib.hid hT
  clear h ht hT
  by_cases hbig : 1100 < n
  · have d1 : decide ((1100 : Int) < (n : Int)) = true := decide_eq_true (by omega)
    go_enter Tryd.func5, Tryd.ntmps5
    go_wp2_with fail
    refine (awake11 w HT.out).mono ?_
    rintro e w1 ⟨rfl, hb⟩
    have HB := Lib.hid hb
    clear hb
    go_wp2_with fail
    go_ret
    exact ⟨rfl, HB.out⟩
  have d1 : decide ((1100 : Int) < (n : Int)) = false := decide_eq_false (by omega)
  go_enter Tryd.func5, Tryd.ntmps5
  go_wp2_with fail
  refine (split20 T A n c zs w HZ.out HTT.out).mono ?_
  rintro e w1 ⟨hb, ⟨hne, rfl⟩ | ⟨_, t, S, o, g, hsp, hord, rfl, hrk⟩⟩
  · have HB := Lib.hid hb
    have HZ1 := Lib.hid (HZ.out.up hb)
    obtain ⟨E, hE⟩ : ∃ E, spE T zs = E := ⟨_, rfl⟩
    rw [hE] at hne ⊢
    have e1 : (E == E) = true := by simp
    have HE := Lib.hid hE
    have HNE := Lib.hid hne
    clear hb hE hne
    go_wp2_with fail
    refine (split21_bad T E A n c zs w1 HZ1.out HTT.out HE.out HNE.out).mono ?_
    rintro e w2 ⟨rfl, hw⟩
    rw [hw]
    clear hw
    go_wp2_with fail
    refine (same22 none none 0 0 0 [] w1 (rk_none _ _ _ (by decide)) (rk_none _ _ _ (by decide))).mono ?_
    rintro e w3 ⟨rfl, hb⟩
    replace HB := Lib.hid (upB HB.out hb)
    clear hb
    go_wp2_with fail
    refine (awake11 w3 (HT.out.next HB.out)).mono ?_
    rintro e w4 ⟨rfl, hb⟩
    replace HB := Lib.hid (upB HB.out hb)
    clear hb
    go_wp2_with fail
    go_ret
    exact ⟨rfl, HB.out⟩
  · have HB := Lib.hid hb
    have HZ1 := Lib.hid (HZ.out.up hb)
    have HG := Lib.hid hrk
    have HSP := Lib.hid hsp
    have HOR := Lib.hid hord
    clear hb hrk hsp hord
    go_wp2_with fail
    refine (split21_ok T A n c zs t S o w1 HZ1.out HSP.out HOR.out).mono ?_
    rintro e w2 ⟨hb, g', c', rfl, hrk2⟩
    replace HB := Lib.hid (upB HB.out hb)
    replace HG := Lib.hid (HG.out.up hb)
    have HG2 := Lib.hid hrk2
    clear hb hrk2
    go_wp2_with fail
    refine (same22 (some ⟨g, 0, none⟩) (some ⟨g', 0, none⟩) n n c' _ w2 HG.out HG2.out).mono ?_
    rintro e w3 ⟨rfl, hb⟩
    replace HB := Lib.hid (upB HB.out hb)
    clear hb
    go_wp2_with fail
    refine (awake11 w3 (HT.out.next HB.out)).mono ?_
    rintro e w4 ⟨rfl, hb⟩
    replace HB := Lib.hid (upB HB.out hb)
    clear hb
    go_wp2_with fail
    go_ret
    exact ⟨rfl, HB.out⟩
end Go.Proofs.YtjipcopfggnlkaaDoor.Wk
