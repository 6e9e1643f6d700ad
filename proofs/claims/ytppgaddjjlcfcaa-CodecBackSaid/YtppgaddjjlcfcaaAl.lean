/- The worked examples of the chapter hold. No condition. -/
import Derived.Test.YtppgaddjjlcfcaaWp
import Derived.Test.YtppgaddjjlcfcaaTr
import Derived.Lib.SlBytesConst
set_option linter.unusedSimpArgs false
set_option linter.unusedVariables false
namespace Go.Proofs.Ytppgaddjjlcfcaa.Mt
open Go
theorem v1 : nuV [128, 1] 2 0 = 64 ∧ nuN [128, 1] 2 0 = 2 ∧ nuE [128, 1] 2 0 = 0 := by decide +kernel
theorem v2 : nuV [128, 1] 2 2 = 0 ∧ nuN [128, 1] 2 2 = 0 ∧ nuE [128, 1] 2 2 = 7 := by decide +kernel
theorem v3 : nuV [128, 1] 2 3 = 0 ∧ nuN [128, 1] 2 3 = 0 ∧ nuE [128, 1] 2 3 = 2 := by decide +kernel
theorem v4 : nuV [128, 0] 2 0 = 0 ∧ nuN [128, 0] 2 0 = 0 ∧ nuE [128, 0] 2 0 = 5 := by decide +kernel
theorem v5 : nuV [128] 1 0 = 0 ∧ nuN [128] 1 0 = 0 ∧ nuE [128] 1 0 = 7 := by decide +kernel
theorem v6 : teL [1] 1 0 = [] ∧ teN [1] 1 0 = 0 ∧ teE [1] 1 0 = 5 := by decide +kernel
theorem v7 : teL [6, 97, 98] 3 0 = [] ∧ teN [6, 97, 98] 3 0 = 0 ∧ teE [6, 97, 98] 3 0 = 7 := by decide +kernel
theorem enc_128 (c : Nat) (h1 : 128 ≤ c) (h2 : c < 16384) : enc c = [((c % 128 + 128 : Nat) : Int), ((c / 128 : Nat) : Int)] := by rw [enc_hi (by omega), enc_lo (by omega)]
theorem p1 : [7] ++ enc (zz 64) = [7, 128, 1] := by rw [show zz 64 = 128 by decide, enc_128 128 (by decide) (by decide)]; decide
theorem p2 : [] ++ enc (zz (-65)) = [129, 1] := by rw [show zz (-65) = 129 by decide, enc_128 129 (by decide) (by decide)]; decide
theorem p3 : [] ++ enc (zz (-1)) = [1] := by rw [show zz (-1) = 1 by decide, enc_lo (by decide)]; decide
theorem p4 : [] ++ enc (zz (((⟨#[97, 98]⟩ : ByteArray).size : Nat) : Int)) ++ bl ⟨#[97, 98]⟩ = [4, 97, 98] := by rw [show zz (((⟨#[97, 98]⟩ : ByteArray).size : Nat) : Int) = 4 by decide, enc_lo (by decide)]; decide
theorem v9 : crc [49, 50, 51, 52, 53, 54, 55, 56, 57] = 3808858755 := by decide +kernel
end Go.Proofs.Ytppgaddjjlcfcaa.Mt
namespace Go.Proofs.Ytppgaddjjlcfcaa.Wk
open Go.RowKit
open Go.Proofs.Ytppgaddjjlcfcaa.Mt
theorem Sl.lit2 (w : World) (l : List Int) (h : l.length ≤ 1000) (hw : ∀ x ∈ l, 0 ≤ x ∧ x ≤ 255) (g : Nat) (hg : w.heap.size = g) (m : Nat × Nat) : Sl (w.alloc (.cells (vk .u8 l).toArray 5 m)) (some ⟨g, 0, none⟩) l.length l.length l := by
  subst hg
  have hb : (w.alloc (.cells (vk .u8 l).toArray 5 m)).heap[w.heap.size]? = some (.cells (vk .u8 l).toArray 5 m) := heap_alloc_new w _
  refine ⟨⟨rfl, by omega, fun _ => ⟨w.heap.size, 0, rfl, (Array.getElem?_eq_some_iff.1 hb).1, fun i hi => ?_⟩, iat_wf hw⟩, Nat.le_refl _, by omega, fun h => by cases h⟩
  simp only [World.cell?, hb, Nat.zero_add]
  simpa using vk_at .u8 l i hi
theorem Sl.nil0 (w : World) : Sl w none 0 0 [] := ⟨rk_none _ _ _ (by decide), Nat.le_refl _, by omega, fun _ => ⟨rfl, rfl⟩⟩
theorem Sl.lit (w : World) (l : List Int) (h : l.length ≤ 1000) (hw : ∀ x ∈ l, 0 ≤ x ∧ x ≤ 255) (g : Nat) (hg : w.heap.size = g) : Sl (w.alloc (.cells (vk .u8 l).toArray 5)) (some ⟨g, 0, none⟩) l.length l.length l := by
  subst hg
  exact ⟨Rk.block (Bx.new w 5 _) (by omega) (iat_wf hw), Nat.le_refl _, by omega, fun h => by cases h⟩
set_option maxHeartbeats 1000000 in
theorem same14 (A A' : Option Addr) (n c c' : Nat) (zs : List Int) (w : World) (h1 : Rk .u8 w w.heap.size A n zs) (h2 : Rk .u8 w w.heap.size A' n zs) :
    Calls Try.prog 14 #[.slice A n c, .slice A' n c'] w fun e w' => e = .returned (.bool true) ∧ Below w.heap.size w w' := by
  have hn := h1.2.1
  have H1 := Lib.hid h1
  have H2 := Lib.hid h2
  have e1 : ((n : Int) == (n : Int)) = true := by simp
  have e2 : ((n : Int) != (n : Int)) = false := by simp
  clear h1 h2
  go_enter Try.func14, Try.ntmps14
  go_wp2_with fail
  clear e1 e2
  go_loopw [5] (fun i wr => ∃ k : Nat, k ≤ n ∧ i = .int .i64 k ∧ Hid (Below w.heap.size w wr)) (fun i _ => n - (intOf i).toNat)
  case atStart => exact ⟨0, Nat.zero_le _, rfl, Lib.hid (Below.refl _ _)⟩
  case round =>
    obtain ⟨k, hk, rfl, hb⟩ := hrel
    by_cases hlt : k < n
    · obtain ⟨b1, o1, rfl, hl1, d1⟩ := (H1.out.up hb.out).get hlt
      obtain ⟨b2, o2, rfl, hl2, d2⟩ := (H2.out.up hb.out).get hlt
      have hltI : (k : Int) < (n : Int) := by omega
      obtain ⟨x, hx⟩ : ∃ x, iat zs k = x := ⟨_, rfl⟩
      rw [hx] at d1 d2
      have e3 : (x != x) = false := by simp
      have W1 : IntKind.i64.wrap ((k : Int) + 1) = (k : Int) + 1 := IntWalk.i64_in _ (by omega)
      clear hx
      go_wp2_with fail
      go_quiet (fail)
      go_wp2_with fail
      go_roundw
      case rel => exact ⟨k + 1, by omega, by go_num, Lib.hid (below_drewN hb.out nq)⟩
      case measure => simp [intOf]; omega
    · have hltI : ¬ (k : Int) < (n : Int) := by omega
      go_wp2_with fail
      go_ret
      exact ⟨rfl, hb.out⟩
set_option maxHeartbeats 8000000 in
set_option maxRecDepth 100000 in
theorem alive17 (w : World) : Calls Try.prog 17 #[] w fun e w' => e = .returned (.bool true) ∧ Below w.heap.size w w' := by
  have HB := Lib.hid (Below.refl w.heap.size w)
  have kc := fun (w : World) (C : Array Value) (n c : Nat) => Lib.run_convert_bytes_const (P := Try.prog) w 22 5 C n c Try.underlying22 Try.underlying5
  go_enter Try.func17, Try.ntmps17
  go_wp2_with fail
  have hb : Below w.heap.size w (w.alloc (.cells #[.int .u8 128, .int .u8 1] 5)) := b1 _ _
  have HS : Hid (Sl (w.alloc (.cells #[.int .u8 128, .int .u8 1] 5)) (some ⟨w.heap.size, 0, none⟩) 2 2 [128, 1]) := Lib.hid (Sl.lit w [128, 1] (by decide) (by decide) _ rfl)
  replace HB := Lib.hid (upB HB.out hb)
  clear hb
  go_at_call 18
  refine (int18 _ 2 2 0 [128, 1] _ HS.out.rk (by decide)).mono ?_
  rintro e w1 ⟨rfl, hb⟩
  rw [v1.1, v1.2.1, v1.2.2]
  replace HB := Lib.hid (upB HB.out hb)
  clear hb HS
  go_wp2_with fail
  have hb : Below w1.heap.size w1 (w1.alloc (.cells #[.int .u8 128, .int .u8 1] 5)) := b1 _ _
  have HS : Hid (Sl (w1.alloc (.cells #[.int .u8 128, .int .u8 1] 5)) (some ⟨w1.heap.size, 0, none⟩) 2 2 [128, 1]) := Lib.hid (Sl.lit w1 [128, 1] (by decide) (by decide) _ rfl)
  replace HB := Lib.hid (upB HB.out hb)
  clear hb
  go_at_call 18
  refine (int18 _ 2 2 2 [128, 1] _ HS.out.rk (by decide)).mono ?_
  rintro e w2 ⟨rfl, hb⟩
  rw [v2.1, v2.2.1, v2.2.2]
  replace HB := Lib.hid (upB HB.out hb)
  clear hb HS
  go_wp2_with fail
  have hb : Below w2.heap.size w2 (w2.alloc (.cells #[.int .u8 128, .int .u8 1] 5)) := b1 _ _
  have HS : Hid (Sl (w2.alloc (.cells #[.int .u8 128, .int .u8 1] 5)) (some ⟨w2.heap.size, 0, none⟩) 2 2 [128, 1]) := Lib.hid (Sl.lit w2 [128, 1] (by decide) (by decide) _ rfl)
  replace HB := Lib.hid (upB HB.out hb)
  clear hb
  go_at_call 18
  refine (int18 _ 2 2 3 [128, 1] _ HS.out.rk (by decide)).mono ?_
  rintro e w3 ⟨rfl, hb⟩
  rw [v3.1, v3.2.1, v3.2.2]
  replace HB := Lib.hid (upB HB.out hb)
  clear hb HS
  go_wp2_with fail
  have hb : Below w3.heap.size w3 (w3.alloc (.cells #[.int .u8 128, .int .u8 0] 5)) := b1 _ _
  have HS : Hid (Sl (w3.alloc (.cells #[.int .u8 128, .int .u8 0] 5)) (some ⟨w3.heap.size, 0, none⟩) 2 2 [128, 0]) := Lib.hid (Sl.lit w3 [128, 0] (by decide) (by decide) _ rfl)
  replace HB := Lib.hid (upB HB.out hb)
  clear hb
  go_at_call 18
  refine (int18 _ 2 2 0 [128, 0] _ HS.out.rk (by decide)).mono ?_
  rintro e w4 ⟨rfl, hb⟩
  rw [v4.1, v4.2.1, v4.2.2]
  replace HB := Lib.hid (upB HB.out hb)
  clear hb HS
  go_wp2_with fail
  have hb : Below w4.heap.size w4 (w4.alloc (.cells #[.int .u8 128] 5)) := b1 _ _
  have HS : Hid (Sl (w4.alloc (.cells #[.int .u8 128] 5)) (some ⟨w4.heap.size, 0, none⟩) 1 1 [128]) := Lib.hid (Sl.lit w4 [128] (by decide) (by decide) _ rfl)
  replace HB := Lib.hid (upB HB.out hb)
  clear hb
  go_at_call 18
  refine (int18 _ 1 1 0 [128] _ HS.out.rk (by decide)).mono ?_
  rintro e w5 ⟨rfl, hb⟩
  rw [v5.1, v5.2.1, v5.2.2]
  replace HB := Lib.hid (upB HB.out hb)
  clear hb HS
  go_wp2_with fail
  have hb : Below w5.heap.size w5 (w5.alloc (.cells #[.int .u8 1] 5)) := b1 _ _
  have HS : Hid (Sl (w5.alloc (.cells #[.int .u8 1] 5)) (some ⟨w5.heap.size, 0, none⟩) 1 1 [1]) := Lib.hid (Sl.lit w5 [1] (by decide) (by decide) _ rfl)
  replace HB := Lib.hid (upB HB.out hb)
  clear hb
  go_at_call 20
  refine (text20 _ 1 1 0 [1] _ HS.out.rk (by decide) (by decide) (by decide)).mono ?_
  rintro e w6 ⟨rfl, hb⟩
  rw [v6.1, v6.2.1, v6.2.2]
  replace HB := Lib.hid (upB HB.out hb)
  clear hb HS
  go_wp2_with fail
  have hb : Below w6.heap.size w6 (w6.alloc (.cells #[.int .u8 6, .int .u8 97, .int .u8 98] 5)) := b1 _ _
  have HS : Hid (Sl (w6.alloc (.cells #[.int .u8 6, .int .u8 97, .int .u8 98] 5)) (some ⟨w6.heap.size, 0, none⟩) 3 3 [6, 97, 98]) := Lib.hid (Sl.lit w6 [6, 97, 98] (by decide) (by decide) _ rfl)
  replace HB := Lib.hid (upB HB.out hb)
  clear hb
  go_at_call 20
  refine (text20 _ 3 3 0 [6, 97, 98] _ HS.out.rk (by decide) (by decide) (by decide)).mono ?_
  rintro e w7 ⟨rfl, hb⟩
  rw [v7.1, v7.2.1, v7.2.2]
  replace HB := Lib.hid (upB HB.out hb)
  clear hb HS
  go_wp2_with fail
  have hb : Below w7.heap.size w7 (w7.alloc (.cells #[.int .u8 7] 5)) := b1 _ _
  have HS : Hid (Sl (w7.alloc (.cells #[.int .u8 7] 5)) (some ⟨w7.heap.size, 0, none⟩) 1 1 [7]) := Lib.hid (Sl.lit w7 [7] (by decide) (by decide) _ rfl)
  replace HB := Lib.hid (upB HB.out hb)
  clear hb
  go_at_call 12
  refine (putInt12 _ 1 1 [7] 64 _ HS.out (by decide) (by decide)).mono ?_
  rintro e w8 ⟨v, rfl, ho, hb⟩
  rw [p1] at ho
  obtain ⟨A8, c8, rfl, hs⟩ := ho.sl (by decide) (by decide)
  have HP := Lib.hid hs
  replace HB := Lib.hid (upB HB.out hb)
  clear hb ho hs HS
  go_wp2_with fail
  have hb : Below w8.heap.size w8 (w8.alloc (.cells #[.int .u8 7, .int .u8 128, .int .u8 1] 5)) := b1 _ _
  have HQ : Hid (Sl (w8.alloc (.cells #[.int .u8 7, .int .u8 128, .int .u8 1] 5)) (some ⟨w8.heap.size, 0, none⟩) 3 3 [7, 128, 1]) := Lib.hid (Sl.lit w8 [7, 128, 1] (by decide) (by decide) _ rfl)
  replace HB := Lib.hid (upB HB.out hb)
  replace HP := Lib.hid (HP.out.up hb)
  clear hb
  go_at_call 14
  refine (same14 A8 _ 3 c8 3 [7, 128, 1] _ HP.out.rk HQ.out.rk).mono ?_
  rintro e w9 ⟨rfl, hb⟩
  replace HB := Lib.hid (upB HB.out hb)
  clear hb HP HQ
  go_wp2_with fail
  go_at_call 12
  refine (putInt12 none 0 0 [] (-65) _ (Sl.nil0 _) (by decide) (by decide)).mono ?_
  rintro e w10 ⟨v, rfl, ho, hb⟩
  rw [p2] at ho
  obtain ⟨A10, c10, rfl, hs⟩ := ho.sl (by decide) (by decide)
  have HP := Lib.hid hs
  replace HB := Lib.hid (upB HB.out hb)
  clear hb ho hs
  go_wp2_with fail
  have hb : Below w10.heap.size w10 (w10.alloc (.cells #[.int .u8 129, .int .u8 1] 5)) := b1 _ _
  have HQ : Hid (Sl (w10.alloc (.cells #[.int .u8 129, .int .u8 1] 5)) (some ⟨w10.heap.size, 0, none⟩) 2 2 [129, 1]) := Lib.hid (Sl.lit w10 [129, 1] (by decide) (by decide) _ rfl)
  replace HB := Lib.hid (upB HB.out hb)
  replace HP := Lib.hid (HP.out.up hb)
  clear hb
  go_at_call 14
  refine (same14 A10 _ 2 c10 2 [129, 1] _ HP.out.rk HQ.out.rk).mono ?_
  rintro e w11 ⟨rfl, hb⟩
  replace HB := Lib.hid (upB HB.out hb)
  clear hb HP HQ
  go_wp2_with fail
  go_at_call 12
  refine (putInt12 none 0 0 [] (-1) _ (Sl.nil0 _) (by decide) (by decide)).mono ?_
  rintro e w12 ⟨v, rfl, ho, hb⟩
  rw [p3] at ho
  obtain ⟨A12, c12, rfl, hs⟩ := ho.sl (by decide) (by decide)
  have HP := Lib.hid hs
  replace HB := Lib.hid (upB HB.out hb)
  clear hb ho hs
  go_wp2_with fail
  have hb : Below w12.heap.size w12 (w12.alloc (.cells #[.int .u8 1] 5)) := b1 _ _
  have HQ : Hid (Sl (w12.alloc (.cells #[.int .u8 1] 5)) (some ⟨w12.heap.size, 0, none⟩) 1 1 [1]) := Lib.hid (Sl.lit w12 [1] (by decide) (by decide) _ rfl)
  replace HB := Lib.hid (upB HB.out hb)
  replace HP := Lib.hid (HP.out.up hb)
  clear hb
  go_at_call 14
  refine (same14 A12 _ 1 c12 1 [1] _ HP.out.rk HQ.out.rk).mono ?_
  rintro e w13 ⟨rfl, hb⟩
  replace HB := Lib.hid (upB HB.out hb)
  clear hb HP HQ
  go_wp2_with fail
  go_at_call 13
  refine (putText13 none 0 0 [] ⟨#[97, 98]⟩ _ (Sl.nil0 _) (by decide) (by decide)).mono ?_
  rintro e w14 ⟨v, rfl, ho, hb⟩
  rw [p4] at ho
  obtain ⟨A14, c14, rfl, hs⟩ := ho.sl (by decide) (by decide)
  have HP := Lib.hid hs
  replace HB := Lib.hid (upB HB.out hb)
  clear hb ho hs
  go_wp2_with fail
  have hb : Below w14.heap.size w14 (w14.alloc (.cells #[.int .u8 4, .int .u8 97, .int .u8 98] 5)) := b1 _ _
  have HQ : Hid (Sl (w14.alloc (.cells #[.int .u8 4, .int .u8 97, .int .u8 98] 5)) (some ⟨w14.heap.size, 0, none⟩) 3 3 [4, 97, 98]) := Lib.hid (Sl.lit w14 [4, 97, 98] (by decide) (by decide) _ rfl)
  replace HB := Lib.hid (upB HB.out hb)
  replace HP := Lib.hid (HP.out.up hb)
  clear hb
  go_at_call 14
  refine (same14 A14 _ 3 c14 3 [4, 97, 98] _ HP.out.rk HQ.out.rk).mono ?_
  rintro e w15 ⟨rfl, hb⟩
  replace HB := Lib.hid (upB HB.out hb)
  clear hb HP HQ
  go_wp2_with fail
  have hb : Below w15.heap.size w15 (w15.alloc (.cells #[.int .u8 49, .int .u8 50, .int .u8 51, .int .u8 52, .int .u8 53, .int .u8 54, .int .u8 55, .int .u8 56, .int .u8 57] 5 (9, 10))) := b1 _ _
  have HS : Hid (Sl (w15.alloc (.cells #[.int .u8 49, .int .u8 50, .int .u8 51, .int .u8 52, .int .u8 53, .int .u8 54, .int .u8 55, .int .u8 56, .int .u8 57] 5 (9, 10))) (some ⟨w15.heap.size, 0, none⟩) 9 9 [49, 50, 51, 52, 53, 54, 55, 56, 57]) := Lib.hid (Sl.lit2 w15 [49, 50, 51, 52, 53, 54, 55, 56, 57] (by decide) (by decide) _ rfl _)
  replace HB := Lib.hid (upB HB.out hb)
  clear hb
  go_at_call 24
  refine (sum24 _ 9 9 [49, 50, 51, 52, 53, 54, 55, 56, 57] _ HS.out.rk (by decide)).mono ?_
  rintro e w16 ⟨rfl, hb⟩
  rw [v9]
  replace HB := Lib.hid (upB HB.out hb)
  clear hb
  go_wp2_with fail
  go_ret
  exact ⟨rfl, HB.out⟩
end Go.Proofs.Ytppgaddjjlcfcaa.Wk
