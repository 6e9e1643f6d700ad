/- Unescape in the layer and in its reference. Condition: at most 100000 bytes. -/
import Derived.Test.YtcgcccieccicnaaDoorUm
set_option linter.unusedSimpArgs false
set_option linter.unusedVariables false
namespace Go.Proofs.YtcgcccieccicnaaDoor.Wk
open Go.RowKit
open Go.Proofs.YtcgcccieccicnaaDoor.Mt
set_option maxHeartbeats 4000000 in
set_option maxRecDepth 100000 in
theorem unescape25 (s : ByteArray) (w : World) (hle : s.size ≤ 100000) : Calls Tryd.prog 25 #[.string s] w fun e w' => e = .returned (.tuple #[.string (usS s), .int .i64 (usE s)]) ∧ Below w.heap.size w w' := by
  obtain ⟨i0, hi0, hz0, hs0, hb0'⟩ := info_parts u8_info
  have HB0 := Lib.hid hb0'
  clear hb0'
  go_enter Tryd.func25, Tryd.ntmps25
  by_cases hp : s = ⟨#[37]⟩
  · have e0 := is_pc hp
    have e2 := not_emp (t := s) (by rw [hp]; decide)
    have HE := Lib.hid (us_pc hp)
    clear hp
    go_wp2_with fail
    go_ret2
    exact ⟨by rw [HE.out.1, HE.out.2]; rfl, Below.refl _ _⟩
  · have e0 := no_pc hp
    by_cases h0 : s.size = 0
    · have e2 := emp h0
      have HE := Lib.hid (us_nil h0)
      clear hp h0
      go_wp2_with fail
      go_ret2
      exact ⟨by rw [HE.out.1, HE.out.2]; rfl, Below.refl _ _⟩
    · have e2 := not_emp h0
      have HP := Lib.hid hp
      have H0 := Lib.hid h0
      obtain ⟨n, hn⟩ : ∃ n, s.size = n := ⟨_, rfl⟩
      have hsz : ((s.size : Nat) : Int) = (n : Int) := by omega
      have hnn : n ≤ 100000 := by omega
      have hn0 : 0 < n := by omega
      have HN := Lib.hid hn
      clear hn hle h0 hp
      go_wp2_with (first | (at_make; refine wpList_make_own _ rfl _ _ 45 rfl w.heap.size 5 i0 (.int .u8 0) 1 Tryd.underlying45 hi0 hz0 hs0 .i64 .i64 _ n rfl rfl (by first | rfl | exact hsz) (by rw [HB0.out]; omega) (by unfold maxLen; omega) (Nat.le_refl _) ?_; intro w1 hown hgrow) | fail)
      clear e0 e2
      have HO0 : Hid (Ob w.heap.size w1 (.slice (some ⟨w.heap.size, 0, none⟩) 0 n) []) := Lib.hid hown
      have HB1 : Hid (Below w.heap.size w w1) := Lib.hid ((Below.refl _ _).grown hgrow (Nat.le_refl _) (fun k hk => by cases hk))
      clear hown hgrow
      go_loopw [4, 5, 6, 7] (fun v iv _ _ wr => ∃ (k : Nat) (B : List UInt8), k ≤ n ∧ iv = .int .i64 k ∧ Hid (B.length ≤ k) ∧ Hid (0 < k → 0 < B.length) ∧ Hid (Dec s k B) ∧ Hid (Ob w.heap.size wr v B) ∧ Hid (Below w.heap.size w wr)) (fun _ iv _ _ _ => n - (intOf iv).toNat)
      case atStart => exact ⟨0, [], Nat.zero_le _, rfl, Lib.hid (Nat.le_refl _), Lib.hid (fun h => h), Lib.hid (Dec.zero s), HO0, HB1⟩
      case round =>
        obtain ⟨k, B, hk, rfl, HLN, HPO, HD, HO, HB⟩ := hrel
        clear HO0 HB1
        have hln : B.length ≤ 100000 := Nat.le_trans HLN.out (by omega)
        have C4 : Hid (B.length + 1 ≤ maxLen) := Lib.hid (by unfold maxLen; omega)
        have C5 : Hid ((B.length + 1) * 1 ≤ 140737488355328) := Lib.hid (by omega)
        clear hln
        by_cases hlt : k < n
        · have hltI : (k : Int) < (n : Int) := by omega
          have hks : k < s.size := by rw [HN.out]; exact hlt
          have hbb := by_bt hks
          obtain ⟨b, hb⟩ : ∃ b, by_ s k = b := ⟨_, rfl⟩
          obtain ⟨c, hc⟩ : ∃ c, b.toNat = c := ⟨_, rfl⟩
          rw [hb, hc] at hbb
          have gx := (bt_at hks).trans hbb.symm
          have hc2 : c < 256 := by rw [← hc]; exact b.toNat_lt
          have W0 : IntKind.i64.wrap ((k : Int) + 1) = (k : Int) + 1 := IntWalk.i64_in _ (by omega)
          have W1 : IntKind.i64.wrap ((k : Int) + 2) = (k : Int) + 2 := IntWalk.i64_in _ (by omega)
          have W2 : IntKind.i64.wrap ((k : Int) + 2 + 1) = (k : Int) + 2 + 1 := IntWalk.i64_in _ (by omega)
          have HPL : Hid (pl b = plB (c : Int)) := Lib.hid (by unfold pl; rw [hc])
          have HBC := Lib.hid hc
          have HBY := Lib.hid hb
          clear hb hc hbb
          go_wp2_with fail
          go_at_call 33
          refine (plain33 (c : Int) wr).mono ?_
          rintro e w1 ⟨rfl, q1⟩
          have hgw : w.heap.size ≤ w1.heap.size := Nat.le_trans HB.out.size q1.size
          have HO1 := Lib.hid (HO.out.below q1)
          have Q1 := Lib.hid (HB.out.trans (q1.mono HB.out.size))
          clear q1
          rcases fot (plB (c : Int)) with hp | hp
          · rw [hp]
            have HPB : Hid (pl (by_ s k) = false) := Lib.hid (by rw [HBY.out, HPL.out, hp])
            clear hp
            have hk0 : (0 : Int) ≤ (k : Int) := by omega
            have hkn : (k : Int) ≤ (n : Int) := by omega
            obtain ⟨t, ht⟩ : ∃ t, s.extract k s.size = t := ⟨_, rfl⟩
            obtain ⟨ES1, ES2⟩ := es_of (s := s) (k := k)
            rw [ht] at ES1 ES2
            have HES1 := Lib.hid ES1
            have HES2 := Lib.hid ES2
            clear ES1 ES2
            go_wp2_with fail
            go_at_call 34
            refine (escaped34 t w1).mono ?_
            rintro e w2 ⟨rfl, q2⟩
            have hgw2 : w.heap.size ≤ w2.heap.size := Nat.le_trans hgw q2.size
            replace HO1 := Lib.hid (HO1.out.below q2)
            have Q2 := Lib.hid (Q1.out.trans (q2.mono Q1.out.size))
            clear q2 ht
            rcases fot (esB t) with he | he
            · rw [he]
              have HE := Lib.hid (us_no H0.out HP.out (HD.out.bad (by rw [HN.out]; exact hlt) HPB.out (HES2.out he)))
              clear he
              go_wp2_with fail
              go_ret2
              exact ⟨by rw [HE.out.1, HE.out.2]; rfl, Q2.out⟩
            · rw [he]
              obtain ⟨h1, h2, h3⟩ := HES1.out he
              have hk3 : k + 3 ≤ n := by rw [HN.out] at h1; omega
              have HD2 := HD.out.ev h1 HPB.out h2
              obtain ⟨d, hd⟩ : ∃ d, evb (by_ s (k + 1)) (by_ s (k + 2)) = d := ⟨_, rfl⟩
              rw [hd] at HD2 h3
              replace HD2 := Lib.hid HD2
              obtain ⟨v, hv⟩ : ∃ v : Nat, d.toNat = v := ⟨_, rfl⟩
              rw [hv] at h3
              rw [h3]
              have HDC := Lib.hid hv
              clear h1 h2 h3 hd hv he
              go_wp2_with (first | (go_loud (at_builtin; refine wpList_append_own _ rfl _ _ 45 rfl w.heap.size 5 i0 (.int .u8 0) 1 1 Tryd.underlying45 hi0 hz0 hs0 HB0.out rfl (by omega) _ _ _ rfl (World.ownsRow.alloc HO1.out _) ⟨_, 0, none⟩ 1 1 [.int .u8 (v : Int)] rfl rfl (new_cell _ _ _ _ (by simp)) (one_byte _) C4.out C5.out (by simp; omega) ?_)) | fail)
              intro v' w9 hown hgrow _
              have HO9 : Hid (Ob w.heap.size w9 v' (B ++ [d])) := Lib.hid (by refine Ob.more (m := [d]) (n := B.length + 1) ?_ (by simp); rw [← HDC.out] at hown; exact hown)
              have HB9 : Hid (Below w.heap.size w w9) := Lib.hid ((Q2.out.alloc Q2.out.size (.cells #[.int .u8 (v : Int)] 5)).grown hgrow (by simp; omega) (fun k hk => by have := (World.ownsRow.lt HO1.out k hk).1; omega))
              have HL2 : Hid ((B ++ [d]).length ≤ k + 3) := Lib.hid (by have := HLN.out; simp; omega)
              have HP2 : Hid (0 < k + 3 → 0 < (B ++ [d]).length) := Lib.hid (fun _ => by simp)
              clear hown hgrow
              go_wp2_with fail
              go_roundw
              case rel => exact ⟨k + 3, B ++ [d], by omega, by go_num, HL2, HP2, HD2, HO9, HB9⟩
              case measure => simp [intOf]; omega
          · rw [hp]
            have HD2 : Hid (Dec s (k + 1) (B ++ [b])) := Lib.hid (by have := HD.out.plain (by rw [HN.out]; exact hlt) (by rw [HBY.out, HPL.out, hp]); rw [HBY.out] at this; exact this)
            clear hp
            go_wp2_with (first | (go_loud (at_builtin; refine wpList_append_own _ rfl _ _ 45 rfl w.heap.size 5 i0 (.int .u8 0) 1 1 Tryd.underlying45 hi0 hz0 hs0 HB0.out rfl (by omega) _ _ _ rfl (World.ownsRow.alloc HO1.out _) ⟨_, 0, none⟩ 1 1 [.int .u8 (c : Int)] rfl rfl (new_cell _ _ _ _ (by simp)) (one_byte _) C4.out C5.out (by simp; omega) ?_)) | fail)
            intro v' w9 hown hgrow _
            have HO9 : Hid (Ob w.heap.size w9 v' (B ++ [b])) := Lib.hid (by refine Ob.more (m := [b]) (n := B.length + 1) ?_ (by simp); rw [← HBC.out] at hown; exact hown)
            have HB9 : Hid (Below w.heap.size w w9) := Lib.hid ((Q1.out.alloc Q1.out.size (.cells #[.int .u8 (c : Int)] 5)).grown hgrow (by simp; omega) (fun k hk => by have := (World.ownsRow.lt HO1.out k hk).1; omega))
            have HL2 : Hid ((B ++ [b]).length ≤ k + 1) := Lib.hid (by have := HLN.out; simp; omega)
            have HP2 : Hid (0 < k + 1 → 0 < (B ++ [b]).length) := Lib.hid (fun _ => by simp)
            clear hown hgrow
            go_wp2_with fail
            go_roundw
            case rel => exact ⟨k + 1, B ++ [b], by omega, by go_num, HL2, HP2, HD2, HO9, HB9⟩
            case measure => simp [intOf]; omega
        · have hltI : ¬ (k : Int) < (n : Int) := by omega
          obtain rfl : k = n := by omega
          obtain ⟨g, cap, rfl, hcv⟩ := HO.out.conv (HPO.out hn0)
          have HE := Lib.hid (us_yes H0.out HP.out (HD.out.done (by rw [HN.out]; exact Nat.le_refl _)))
          go_wp2_with fail
          go_ret2
          exact ⟨by rw [HE.out.1, HE.out.2]; rfl, HB.out⟩
end Go.Proofs.YtcgcccieccicnaaDoor.Wk
