/- Unescape in the layer and in its reference. Condition: at most 100000 bytes. -/
import Derived.Test.YtcgcccieccicnaaDoorUm
set_option linter.unusedSimpArgs false
set_option linter.unusedVariables false
namespace Go.Proofs.YtcgcccieccicnaaDoor.Wk
open Go.RowKit
open Go.Proofs.YtcgcccieccicnaaDoor.Mt
set_option maxHeartbeats 4000000 in
set_option maxRecDepth 100000 in
theorem unescape26 (s : ByteArray) (w : World) (hle : s.size ≤ 100000) : Calls Tryd.prog 26 #[.string s] w fun e w' => e = .returned (.tuple #[.string (usS s), .int .i64 (usE s)]) ∧ Below w.heap.size w w' := by
  obtain ⟨i0, hi0, hz0, hs0, hb0'⟩ := info_parts u8_info
  have HB0 := Lib.hid hb0'
  clear hb0'
  go_enter Tryd.func26, Tryd.ntmps26
  by_cases hp : s = ⟨#[37]⟩
  · have e0 := is_pc hp
    have e2 := not_emp (t := s) (by rw [hp]; decide)
    have HE := Lib.hid (us_pc hp)
    clear hp
    go_wp2_with fail
    go_ret2
    exact ⟨by rw [HE.out.1, HE.out.2]; rfl, Below.refl _ _⟩
  · have e0 := no_pc hp
    by_cases h0 : s.size = 0
    · have e2 := emp h0
      have HE := Lib.hid (us_nil h0)
      clear hp h0
      go_wp2_with fail
      go_ret2
      exact ⟨by rw [HE.out.1, HE.out.2]; rfl, Below.refl _ _⟩
    · have e2 := not_emp h0
      have HP := Lib.hid hp
      have H0 := Lib.hid h0
      obtain ⟨n, hn⟩ : ∃ n, s.size = n := ⟨_, rfl⟩
      have hsz : ((s.size : Nat) : Int) = (n : Int) := by omega
      have hnn : n ≤ 100000 := by omega
      have hn0 : 0 < n := by omega
      have HN := Lib.hid hn
      clear hn hle h0 hp
      go_wp2_with fail
      clear e0 e2
      have HO0 : Hid (Ob w.heap.size w (.slice none 0 0) []) := Lib.hid (Ob.nil _ _)
      have HB1 : Hid (Below w.heap.size w w) := Lib.hid (Below.refl _ _)
      go_loopw [4, 5, 6, 7] (fun v iv _ _ wr => ∃ (k : Nat) (B : List UInt8), k ≤ n ∧ iv = .int .i64 k ∧ Hid (B.length ≤ k) ∧ Hid (0 < k → 0 < B.length) ∧ Hid (Dec s k B) ∧ Hid (Ob w.heap.size wr v B) ∧ Hid (Below w.heap.size w wr)) (fun _ iv _ _ _ => n - (intOf iv).toNat)
      case atStart => exact ⟨0, [], Nat.zero_le _, rfl, Lib.hid (Nat.le_refl _), Lib.hid (fun h => h), Lib.hid (Dec.zero s), HO0, HB1⟩
      case round =>
        obtain ⟨k, B, hk, rfl, HLN, HPO, HD, HO, HB⟩ := hrel
        clear HO0 HB1
        have hln : B.length ≤ 100000 := Nat.le_trans HLN.out (by omega)
        have C4 : Hid (B.length + 1 ≤ maxLen) := Lib.hid (by unfold maxLen; omega)
        have C5 : Hid ((B.length + 1) * 1 ≤ 140737488355328) := Lib.hid (by omega)
        clear hln
        by_cases hlt : k < n
        · have hltI : (k : Int) < (n : Int) := by omega
          have hks : k < s.size := by rw [HN.out]; exact hlt
          have hbb := by_bt hks
          obtain ⟨b, hb⟩ : ∃ b, by_ s k = b := ⟨_, rfl⟩
          obtain ⟨c, hc⟩ : ∃ c, b.toNat = c := ⟨_, rfl⟩
          rw [hb, hc] at hbb
          have gx := (bt_at hks).trans hbb.symm
          have hc2 : c < 256 := by rw [← hc]; exact b.toNat_lt
          have W0 : IntKind.i64.wrap ((k : Int) + 1) = (k : Int) + 1 := IntWalk.i64_in _ (by omega)
          have W1 : IntKind.i64.wrap ((k : Int) + 2) = (k : Int) + 2 := IntWalk.i64_in _ (by omega)
          have W2 : IntKind.i64.wrap ((k : Int) + 2 + 1) = (k : Int) + 2 + 1 := IntWalk.i64_in _ (by omega)
          have HPL : Hid (pl b = plB (c : Int)) := Lib.hid (by unfold pl; rw [hc])
          have HBC := Lib.hid hc
          have HBY := Lib.hid hb
          clear hb hc hbb
          go_wp2_with fail
          go_at_call 35
          refine (plain35 (c : Int) wr).mono ?_
          rintro e w1 ⟨rfl, q1⟩
          have hgw : w.heap.size ≤ w1.heap.size := Nat.le_trans HB.out.size q1.size
          have HO1 := Lib.hid (HO.out.below q1)
          have Q1 := Lib.hid (HB.out.trans (q1.mono HB.out.size))
          clear q1
          rcases fot (plB (c : Int)) with hp | hp
          · rw [hp]
            have HPB : Hid (pl (by_ s k) = false) := Lib.hid (by rw [HBY.out, HPL.out, hp])
            clear hp
            by_cases h37 : c = 37
            · have q37 : ((c : Int) != 37) = false := by simp [h37]
              have HB37 : Hid (by_ s k = 37) := Lib.hid (by
                have h := HBC.out
                rw [HBY.out]
                exact u8_eq (n := 37) (by omega) (by rw [h, h37]; first | done | rfl))
              have W3 : IntKind.i64.wrap ((n : Int) - (k : Int)) = (n : Int) - (k : Int) := IntWalk.i64_in _ (by omega)
              clear h37
              by_cases h3 : n - k < 3
              · have l3 : (n : Int) - (k : Int) < 3 := by omega
                have HE := Lib.hid (us_no H0.out HP.out (HD.out.bad (by rw [HN.out]; exact hlt) HPB.out (fun h => by rw [HN.out] at h; omega)))
                go_wp2_with fail
                go_ret2
                exact ⟨by rw [HE.out.1, HE.out.2]; rfl, Q1.out⟩
              · have l3 : ¬ (n : Int) - (k : Int) < 3 := by omega
                have hk3 : k + 3 ≤ n := by omega
                have k1 : k + 1 < s.size := by rw [HN.out]; omega
                have k2 : k + 2 < s.size := by rw [HN.out]; omega
                have k1I : (k : Int) + 1 < (n : Int) := by omega
                have k2I : (k : Int) + 2 < (n : Int) := by omega
                have T1 : ((k : Int) + 1).toNat = k + 1 := by omega
                have T2 : ((k : Int) + 2).toNat = k + 2 := by omega
                have p1 : (0 : Int) ≤ (k : Int) + 1 := by omega
                have p2 : (0 : Int) ≤ (k : Int) + 2 := by omega
                obtain ⟨x, hx⟩ : ∃ x, by_ s (k + 1) = x := ⟨_, rfl⟩
                obtain ⟨y, hy⟩ : ∃ y, by_ s (k + 2) = y := ⟨_, rfl⟩
                have hxb := by_bt k1
                have hyb := by_bt k2
                obtain ⟨x1, hx1⟩ : ∃ x1 : Int, ((x.toNat : Nat) : Int) = x1 := ⟨_, rfl⟩
                obtain ⟨y1, hy1⟩ : ∃ y1 : Int, ((y.toNat : Nat) : Int) = y1 := ⟨_, rfl⟩
                rw [hx, hx1] at hxb
                rw [hy, hy1] at hyb
                have g1 := (bt_at k1).trans hxb.symm
                have g2 := (bt_at k2).trans hyb.symm
                have r1 : 0 ≤ x1 ∧ x1 ≤ 255 := by have := x.toNat_lt; omega
                have r2 : 0 ≤ y1 ∧ y1 ≤ 255 := by have := y.toNat_lt; omega
                have DG1 : dg x = dgB x1 := by unfold dg; rw [hx1]
                have DG2 : dg y = dgB y1 := by unfold dg; rw [hy1]
                have i1 := dgB_in x1
                have i2 := dgB_in y1
                obtain ⟨h, hh⟩ : ∃ h, dgB x1 = h := ⟨_, rfl⟩
                obtain ⟨l, hl⟩ : ∃ l, dgB y1 = l := ⟨_, rfl⟩
                rw [hh] at i1 DG1
                rw [hl] at i2 DG2
                have D1 : Hid (∀ args W, args = #[.int .u8 x1] → Calls Tryd.prog 36 args W fun e w' => e = .returned (.int .i64 h) ∧ w' = W) := Lib.hid (fun args W ha => by have := digit36q x1 W r1.1 r1.2; rw [hh] at this; rw [ha]; exact this)
                have D2 : Hid (∀ args W, args = #[.int .u8 y1] → Calls Tryd.prog 36 args W fun e w' => e = .returned (.int .i64 l) ∧ w' = W) := Lib.hid (fun args W ha => by have := digit36q y1 W r2.1 r2.2; rw [hl] at this; rw [ha]; exact this)
                have HX := Lib.hid hx
                have HY := Lib.hid hy
                have HG1 := Lib.hid DG1
                have HG2 := Lib.hid DG2
                have HK2 := Lib.hid k2
                clear hx hy hxb hyb hx1 hy1 hh hl DG1 DG2
                go_wp2_with fail
                go_quiet (first | (go_at_call 36; exact Calls.quiet_of_same (D1.out _ _ (by rfl))) | (go_at_call 36; exact Calls.quiet_of_same (D2.out _ _ (by rfl))))
                have hb := below_drewN (Below.refl w1.heap.size w1) nq
                generalize w1.drewN nq = w2 at hb ⊢
                have hgw2 : w.heap.size ≤ w2.heap.size := Nat.le_trans hgw hb.size
                replace HO1 := Lib.hid (HO1.out.below hb)
                have Q2 := Lib.hid (upB Q1.out hb)
                clear hb
                by_cases n1 : h < 0
                · have HE := Lib.hid (us_no H0.out HP.out (HD.out.bad (by rw [HN.out]; exact hlt) HPB.out (fun _ => by unfold evk; rw [HX.out, HG1.out]; simp; omega)))
                  go_wp2_with fail
                  go_ret2
                  exact ⟨by rw [HE.out.1, HE.out.2]; rfl, Q2.out⟩
                · by_cases n2 : l < 0
                  · have HE := Lib.hid (us_no H0.out HP.out (HD.out.bad (by rw [HN.out]; exact hlt) HPB.out (fun _ => by unfold evk; rw [HX.out, HY.out, HG1.out, HG2.out]; simp; omega)))
                    go_wp2_with fail
                    go_ret2
                    exact ⟨by rw [HE.out.1, HE.out.2]; rfl, Q2.out⟩
                  · obtain ⟨v, hv⟩ : ∃ v : Nat, 16 * h + l = (v : Int) := ⟨(16 * h + l).toNat, by omega⟩
                    have V1 : IntKind.i64.wrap (h * 16) = h * 16 := IntWalk.i64_in _ (by omega)
                    have V2 : IntKind.i64.wrap (h * 16 + l) = (v : Int) := by rw [IntWalk.i64_in _ (by omega)]; omega
                    have V3 : IntKind.u8.wrap (v : Int) = (v : Int) := IntWalk.u8_in _ (by omega)
                    have HEV : Hid (evk (by_ s k) (by_ s (k + 1)) (by_ s (k + 2)) = !plB (v : Int)) := Lib.hid (by
                      unfold evk evl
                      rw [HB37.out, HX.out, HY.out, HG1.out, HG2.out, hv]
                      have a1 : (0 : Int) ≤ h := by omega
                      have a2 : (0 : Int) ≤ l := by omega
                      simp [a1, a2])
                    obtain ⟨d, hd⟩ : ∃ d, evb (by_ s (k + 1)) (by_ s (k + 2)) = d := ⟨_, rfl⟩
                    have HDC : Hid (d.toNat = v) := Lib.hid (by
                      have h1 := evb_val (x := x) (y := y) (by rw [HG1.out]; omega) (by rw [HG2.out]; omega)
                      rw [HX.out, HY.out] at hd
                      rw [hd, HG1.out, HG2.out, hv] at h1
                      omega)
                    have HDD := Lib.hid hd
                    clear hv hd
                    go_wp2_with fail
                    go_at_call 35
                    refine (plain35 (v : Int) w2).mono ?_
                    rintro e w3 ⟨rfl, q3⟩
                    have hgw3 : w.heap.size ≤ w3.heap.size := Nat.le_trans hgw2 q3.size
                    replace HO1 := Lib.hid (HO1.out.below q3)
                    have Q3 := Lib.hid (Q2.out.trans (q3.mono Q2.out.size))
                    clear q3
                    rcases fot (plB (v : Int)) with he | he
                    · rw [he]
                      have HD2 : Hid (Dec s (k + 3) (B ++ [d])) := Lib.hid (by have := HD.out.ev HK2.out HPB.out (by rw [HEV.out, he]; rfl); rw [HDD.out] at this; exact this)
                      clear he
                      go_wp2_with (first | (go_loud (at_builtin; refine wpList_append_own _ rfl _ _ 45 rfl w.heap.size 5 i0 (.int .u8 0) 1 1 Tryd.underlying45 hi0 hz0 hs0 HB0.out rfl (by omega) _ _ _ rfl (World.ownsRow.alloc HO1.out _) ⟨_, 0, none⟩ 1 1 [.int .u8 (v : Int)] rfl rfl (new_cell _ _ _ _ (by simp)) (one_byte _) C4.out C5.out (by simp; omega) ?_)) | fail)
                      intro v' w9 hown hgrow _
                      have HO9 : Hid (Ob w.heap.size w9 v' (B ++ [d])) := Lib.hid (by refine Ob.more (m := [d]) (n := B.length + 1) ?_ (by simp); rw [← HDC.out] at hown; exact hown)
                      have HB9 : Hid (Below w.heap.size w w9) := Lib.hid ((Q3.out.alloc Q3.out.size (.cells #[.int .u8 (v : Int)] 5)).grown hgrow (by simp; omega) (fun k hk => by have := (World.ownsRow.lt HO1.out k hk).1; omega))
                      have HL2 : Hid ((B ++ [d]).length ≤ k + 3) := Lib.hid (by have := HLN.out; simp; omega)
                      have HP2 : Hid (0 < k + 3 → 0 < (B ++ [d]).length) := Lib.hid (fun _ => by simp)
                      clear hown hgrow
                      go_wp2_with fail
                      go_roundw
                      case rel => exact ⟨k + 3, B ++ [d], by omega, by go_num, HL2, HP2, HD2, HO9, HB9⟩
                      case measure => simp [intOf]; omega
                    · rw [he]
                      have HE := Lib.hid (us_no H0.out HP.out (HD.out.bad (by rw [HN.out]; exact hlt) HPB.out (fun _ => by rw [HEV.out, he]; rfl)))
                      clear he
                      go_wp2_with fail
                      go_ret2
                      exact ⟨by rw [HE.out.1, HE.out.2]; rfl, Q3.out⟩
            · have q37 : ((c : Int) != 37) = true := by simp; omega
              have HE := Lib.hid (us_no H0.out HP.out (HD.out.bad (by rw [HN.out]; exact hlt) HPB.out (fun _ => by
                have hne : by_ s k ≠ 37 := fun e => h37 (by rw [← HBC.out, ← HBY.out, e]; rfl)
                unfold evk
                simp [hne])))
              clear h37
              go_wp2_with fail
              go_ret2
              exact ⟨by rw [HE.out.1, HE.out.2]; rfl, Q1.out⟩
          · rw [hp]
            have HD2 : Hid (Dec s (k + 1) (B ++ [b])) := Lib.hid (by have := HD.out.plain (by rw [HN.out]; exact hlt) (by rw [HBY.out, HPL.out, hp]); rw [HBY.out] at this; exact this)
            clear hp
            go_wp2_with (first | (go_loud (at_builtin; refine wpList_append_own _ rfl _ _ 45 rfl w.heap.size 5 i0 (.int .u8 0) 1 1 Tryd.underlying45 hi0 hz0 hs0 HB0.out rfl (by omega) _ _ _ rfl (World.ownsRow.alloc HO1.out _) ⟨_, 0, none⟩ 1 1 [.int .u8 (c : Int)] rfl rfl (new_cell _ _ _ _ (by simp)) (one_byte _) C4.out C5.out (by simp; omega) ?_)) | fail)
            intro v' w9 hown hgrow _
            have HO9 : Hid (Ob w.heap.size w9 v' (B ++ [b])) := Lib.hid (by refine Ob.more (m := [b]) (n := B.length + 1) ?_ (by simp); rw [← HBC.out] at hown; exact hown)
            have HB9 : Hid (Below w.heap.size w w9) := Lib.hid ((Q1.out.alloc Q1.out.size (.cells #[.int .u8 (c : Int)] 5)).grown hgrow (by simp; omega) (fun k hk => by have := (World.ownsRow.lt HO1.out k hk).1; omega))
            have HL2 : Hid ((B ++ [b]).length ≤ k + 1) := Lib.hid (by have := HLN.out; simp; omega)
            have HP2 : Hid (0 < k + 1 → 0 < (B ++ [b]).length) := Lib.hid (fun _ => by simp)
            clear hown hgrow
            go_wp2_with fail
            go_roundw
            case rel => exact ⟨k + 1, B ++ [b], by omega, by go_num, HL2, HP2, HD2, HO9, HB9⟩
            case measure => simp [intOf]; omega
        · have hltI : ¬ (k : Int) < (n : Int) := by omega
          obtain rfl : k = n := by omega
          obtain ⟨g, cap, rfl, hcv⟩ := HO.out.conv (HPO.out hn0)
          have HE := Lib.hid (us_yes H0.out HP.out (HD.out.done (by rw [HN.out]; exact Nat.le_refl _)))
          go_wp2_with fail
          go_ret2
          exact ⟨by rw [HE.out.1, HE.out.2]; rfl, HB.out⟩
end Go.Proofs.YtcgcccieccicnaaDoor.Wk
