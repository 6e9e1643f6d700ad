/- Escape in the layer. Condition: at most 100000 bytes. -/
import Derived.Test.YtgfbgkoifcacdaaDoorOBy
import Derived.Deep.RegionHeldLaw
set_option linter.unusedSimpArgs false
set_option linter.unusedVariables false
namespace Go.Proofs.YtgfbgkoifcacdaaDoor.Ow
open Go.RowKit
open Go.Proofs.YtgfbgkoifcacdaaDoor.Om
theorem hex_bt : ∀ n : Fin 16, bt ⟨#[48, 49, 50, 51, 52, 53, 54, 55, 56, 57, 65, 66, 67, 68, 69, 70]⟩ n.val = ((hx n.val).toNat : Int) := by decide +kernel
theorem and15 : ∀ n : Fin 256, bits BinOp.and IntKind.u8 (n.val : Int) 15 = ((n.val % 16 : Nat) : Int) := by decide +kernel
set_option maxHeartbeats 4000000 in
set_option maxRecDepth 100000 in
theorem escape27 (s : ByteArray) (w : World) (hle : s.size ≤ 100000) : Calls Tryd.prog 44 #[.string s] w fun e w' => e = .returned (.string (esS s)) ∧ Below w.heap.size w w' := by
  obtain ⟨i0, hi0, hz0, hs0, hb0'⟩ := info_parts u8_info
  go_enter Tryd.func44, Tryd.ntmps44
  by_cases h0 : s.size = 0
  · have e0 := emp h0
    have HE : Hid (esS s = ⟨#[37]⟩) := Lib.hid (if_pos h0)
    clear h0
    go_wp2_with fail
    go_ret
    exact ⟨by rw [HE.out]; rfl, Below.refl _ _⟩
  · have e0 := not_emp h0
    have HE : Hid (esS s = strd (ek s s.size)) := Lib.hid (if_neg h0)
    obtain ⟨n, hn⟩ : ∃ n, s.size = n := ⟨_, rfl⟩
    have hsz : ((s.size : Nat) : Int) = (n : Int) := by omega
    have hnn : n ≤ 100000 := by omega
    have hn0 : 0 < n := by omega
    have HN := Lib.hid hn
    have HB0 := Lib.hid hb0'
    clear hn hle h0
    go_wp2_with (first | (at_make; go_loud (refine wpList_make_own _ rfl _ _ 133 rfl w.heap.size 5 i0 (.int .u8 0) 1 Tryd.underlying133 hi0 hz0 hs0 .i64 .i64 _ n rfl rfl (by first | rfl | exact hsz) (by rw [HB0.out]; omega) (by unfold maxLen; omega) (Nat.le_refl _) ?_; intro w1 hown hgrow)) | fail)
    clear e0
    have HO0 : Hid (Ob w.heap.size w1 (.slice (some ⟨w.heap.size, 0, none⟩) 0 n) (ek s 0)) := Lib.hid hown
    have HB1 : Hid (Below w.heap.size w w1) := Lib.hid ((Below.refl _ _).grown hgrow (Nat.le_refl _) (fun k hk => by cases hk))
    clear hown hgrow
    go_loopw [3, 4, 5, 13] (fun v _ _ iv wr => ∃ (k : Nat), k ≤ n ∧ iv = .int .i64 k ∧ Hid (Ob w.heap.size wr v (ek s k)) ∧ Hid (Below w.heap.size w wr)) (fun _ _ _ iv _ => n - (intOf iv).toNat)
    case atStart => exact ⟨0, Nat.zero_le _, rfl, HO0, HB1⟩
    case round =>
      obtain ⟨k, hk, rfl, HO, HB⟩ := hrel
      clear HO0 HB1
      by_cases hlt : k < n
      · have hltI : (k : Int) < (n : Int) := by omega
        have hks : k < s.size := by rw [HN.out]; exact hlt
        have hbb := by_bt hks
        obtain ⟨b, hb⟩ : ∃ b, by_ s k = b := ⟨_, rfl⟩
        obtain ⟨c, hc⟩ : ∃ c, b.toNat = c := ⟨_, rfl⟩
        rw [hb, hc] at hbb
        have gx := (bt_at hks).trans hbb.symm
        have hc2 : c < 256 := by rw [← hc]; exact b.toNat_lt
        have W0 : IntKind.i64.wrap ((k : Int) + 1) = (k : Int) + 1 := IntWalk.i64_in _ (by omega)
        have HEN : Hid (ek s (k + 1) = ek s k ++ e1 b) := Lib.hid (by rw [ek_next hks, hb])
        have HPL : Hid (pl b = plB (c : Int)) := Lib.hid (by unfold pl; rw [hc])
        have HBC := Lib.hid hc
        clear hb hc hbb
        go_wp2_with fail
        go_at_call 68
        refine (plain33 (c : Int) wr).mono ?_
        rintro e w1 ⟨rfl, q1⟩
        have hgw : w.heap.size ≤ w1.heap.size := Nat.le_trans HB.out.size q1.size
        have HO1 := Lib.hid (HO.out.below q1)
        have Q1 := Lib.hid (HB.out.trans (q1.mono HB.out.size))
        have C4 : Hid ((ek s k).length + 1 ≤ maxLen) := Lib.hid (by have := ek_len s k; unfold maxLen; omega)
        have C5 : Hid (((ek s k).length + 1) * 1 ≤ 140737488355328) := Lib.hid (by have := ek_len s k; omega)
        have D4 : Hid ((ek s k).length + 3 ≤ maxLen) := Lib.hid (by have := ek_len s k; unfold maxLen; omega)
        have D5 : Hid (((ek s k).length + 3) * 1 ≤ 140737488355328) := Lib.hid (by have := ek_len s k; omega)
        clear q1
        rcases fot (plB (c : Int)) with hp | hp
        · rw [hp]
          have HEV : Hid (e1 b = [37, hx (c / 16), hx (c % 16)]) := Lib.hid (by unfold e1; rw [HPL.out, hp, if_neg (by decide), HBC.out])
          obtain ⟨h, hh⟩ : ∃ h, c / 16 = h := ⟨_, rfl⟩
          obtain ⟨l, hl⟩ : ∃ l, c % 16 = l := ⟨_, rfl⟩
          have hh16 : h < 16 := by omega
          have hl16 : l < 16 := by omega
          have T1 : (c : Int) / 16 = (h : Int) := by omega
          have T2 : bits BinOp.and IntKind.u8 (c : Int) 15 = (l : Int) := by have := and15 ⟨c, hc2⟩; rw [hl] at this; exact this
          rw [hh, hl] at HEV
          obtain ⟨x1, hx1⟩ : ∃ x, hx h = x := ⟨_, rfl⟩
          obtain ⟨x2, hx2⟩ : ∃ x, hx l = x := ⟨_, rfl⟩
          rw [hx1, hx2] at HEV
          have k1 : h < (ByteArray.mk #[48, 49, 50, 51, 52, 53, 54, 55, 56, 57, 65, 66, 67, 68, 69, 70]).size := hh16
          have k2 : l < (ByteArray.mk #[48, 49, 50, 51, 52, 53, 54, 55, 56, 57, 65, 66, 67, 68, 69, 70]).size := hl16
          have g1 := (bt_at k1).trans (hex_bt ⟨h, hh16⟩)
          have g2 := (bt_at k2).trans (hex_bt ⟨l, hl16⟩)
          simp only [hx1] at g1
          simp only [hx2] at g2
          have j1 : (h : Int) < 16 := by omega
          have j2 : (l : Int) < 16 := by omega
          clear hh hl hp hx1 hx2
          go_wp2_with fail
          have HOd : Hid ((w1.drew.alloc (.cells #[.int .u8 37, .int .u8 ((x1.toNat : Nat) : Int), .int .u8 ((x2.toNat : Nat) : Int)] 5)).ownsRow w.heap.size 5 1 _ (ek s k).length (vbt (ek s k))) := Lib.hid (World.ownsRow.alloc (World.ownsRow.drew HO1.out) _)
          have HGW : Hid (w.heap.size ≤ (w1.drew.alloc (.cells #[.int .u8 37, .int .u8 ((x1.toNat : Nat) : Int), .int .u8 ((x2.toNat : Nat) : Int)] 5)).heap.size) := Lib.hid (by simp; omega)
          first | (go_region_held_law (fun w' => True) (trivial) (first
            | (refine step_append_own rfl (.tmp 25) (.tmp 32) 133 rfl w.heap.size 5 i0 (.int .u8 0) 1 1 Tryd.underlying133 hi0 hz0 hs0 HB0.out rfl (by omega) _ _ _ (by first | (simp [Act.eval, Act.put]; done) | (simp [Act.eval, Act.put]; rfl)) HOd.out ⟨_, 0, none⟩ 3 3 [.int .u8 37, .int .u8 ((x1.toNat : Nat) : Int), .int .u8 ((x2.toNat : Nat) : Int)] (by first | (simp [Act.eval, Act.put]; done) | (simp [Act.eval, Act.put]; rfl)) rfl (new_cells3 _ _ _ _ _ _ (by simp)) (three_bytes _ _ _) D4.out D5.out HGW.out ?_; intro v' w9 hown hgrow))) | fail
          all_goals
            have HO9 : Hid (Ob w.heap.size w9 v' (ek s (k + 1))) := Lib.hid (by
              rw [HEN.out, HEV.out]
              exact Ob.more (m := [37, x1, x2]) (n := (ek s k).length + 3) hown (by simp))
            have HB9 : Hid (Below w.heap.size w w9) := Lib.hid ((Q1.out.alloc Q1.out.size (.cells #[.int .u8 37, .int .u8 ((x1.toNat : Nat) : Int), .int .u8 ((x2.toNat : Nat) : Int)] 5)).drew.grown hgrow (by simp; omega) (fun k hk => by have := (World.ownsRow.lt HO1.out k hk).1; omega))
            clear hown hgrow HOd HGW
            go_wp2_with fail
            exact ⟨⟨k + 1, by omega, by go_num, HO9, HB9⟩, by simp [intOf]; omega⟩
        · rw [hp]
          have HEV : Hid (e1 b = [b]) := Lib.hid (by unfold e1; rw [HPL.out, hp]; rfl)
          clear hp
          go_wp2_with (first | (go_loud (at_builtin; refine wpList_append_own _ rfl _ _ 133 rfl w.heap.size 5 i0 (.int .u8 0) 1 1 Tryd.underlying133 hi0 hz0 hs0 HB0.out rfl (by omega) _ _ _ rfl (World.ownsRow.alloc HO1.out _) ⟨_, 0, none⟩ 1 1 [.int .u8 (c : Int)] rfl rfl (new_cell _ _ _ _ (by simp)) (one_byte _) C4.out C5.out (by simp; omega) ?_)) | fail)
          intro v' w9 hown hgrow _
          have HO9 : Hid (Ob w.heap.size w9 v' (ek s (k + 1))) := Lib.hid (by rw [HEN.out, HEV.out]; refine Ob.more (m := [b]) (n := (ek s k).length + 1) ?_ (by simp); rw [← HBC.out] at hown; exact hown)
          have HB9 : Hid (Below w.heap.size w w9) := Lib.hid ((Q1.out.alloc Q1.out.size (.cells #[.int .u8 (c : Int)] 5)).grown hgrow (by simp; omega) (fun k hk => by have := (World.ownsRow.lt HO1.out k hk).1; omega))
          clear hown hgrow
          go_wp2_with fail
          go_roundw
          case rel => exact ⟨k + 1, by omega, by go_num, HO9, HB9⟩
          case measure => simp [intOf]; omega
      · have hltI : ¬ (k : Int) < (n : Int) := by omega
        obtain rfl : k = n := by omega
        have hl0 : 0 < (ek s k).length := by
          have hb := by_bt (s := s) (k := k - 1) (by rw [HN.out]; omega)
          have := ek_next (s := s) (k := k - 1) (by rw [HN.out]; omega)
          rw [show k - 1 + 1 = k by omega] at this
          rw [this, List.length_append]
          have : 0 < (e1 (by_ s (k - 1))).length := by unfold e1; split <;> simp
          omega
        obtain ⟨g, cap, rfl, hcv⟩ := HO.out.conv hl0
        have HE2 : Hid (esS s = strd (ek s k)) := Lib.hid (by rw [HE.out, HN.out])
        clear hl0
        go_wp2_with fail
        go_ret
        exact ⟨by rw [HE2.out]; rfl, HB.out⟩
end Go.Proofs.YtgfbgkoifcacdaaDoor.Ow
