/- The law of encodings, walked. Conditions: the slice reads as bytes. -/
import Derived.Test.YtppgaddjjlcfcaaAl
set_option linter.unusedSimpArgs false
set_option linter.unusedVariables false
namespace Go.Proofs.Ytppgaddjjlcfcaa.Wk
open Go.RowKit
open Go.Proofs.Ytppgaddjjlcfcaa.Mt
theorem new_cells4 (W : World) (x y z u : Value) (t : TypeId) (n : Nat) (h : n = W.heap.size) : ∀ j v, [x, y, z, u][j]? = some v → (W.alloc (.cells #[x, y, z, u] t)).cell? ((⟨n, 0, none⟩ : Addr).add j) = some v := by
  subst h
  intro j v hj
  have hb := Bx.new W t #[x, y, z, u]
  have e : (⟨W.heap.size, 0, none⟩ : Addr).add j = ⟨W.heap.size, j, none⟩ := by unfold Addr.add; by_cases h : j = 0 <;> simp [h]
  rw [e, hb.cell]
  simpa using hj
theorem four_bytes (x y z u : Int) : ∀ v ∈ [Value.int .u8 x, .int .u8 y, .int .u8 z, .int .u8 u], v.oneCell' = true := by
  intro v hv; simp at hv; rcases hv with rfl | rfl | rfl | rfl <;> rfl
theorem Sl.head {w : World} {g n m c : Nat} {zs ys : List Int} (h : Sl w (some ⟨g, 0, none⟩) m c (zs ++ ys)) (hz : zs.length = n) (hw : ∀ x ∈ zs, 0 ≤ x ∧ x ≤ 255) : Sl w (some ⟨g, 0, none⟩) n c zs := by
  have hm := h.rk.1
  rw [List.length_append] at hm
  refine ⟨⟨hz, by have := h.rk.2.1; omega, fun hn => ?_, iat_wf hw⟩, by have := h.le; omega, h.cap, fun h => by cases h⟩
  obtain ⟨b, off, e, hb, hc⟩ := h.rk.2.2.1 (by omega)
  refine ⟨b, off, e, hb, fun i hi => ?_⟩
  rw [hc i (by omega)]
  congr 2
  unfold iat
  rw [List.getD_eq_getElem?_getD, List.getD_eq_getElem?_getD, List.getElem?_append_left (by omega)]
theorem rk_in {w : World} {B n : Nat} {A : Option Addr} {zs : List Int} (h : Rk .u8 w B A n zs) : ∀ x ∈ zs, 0 ≤ x ∧ x ≤ 255 := by
  intro x hx
  obtain ⟨i, hi, rfl⟩ := List.getElem_of_mem hx
  have := u8_r (h.2.2.2 i)
  unfold iat at this
  rw [List.getD_eq_getElem?_getD, List.getElem?_eq_getElem hi] at this
  exact this
theorem app_in {a b : List Int} (ha : ∀ x ∈ a, 0 ≤ x ∧ x ≤ 255) (hb : ∀ x ∈ b, 0 ≤ x ∧ x ≤ 255) : ∀ x ∈ a ++ b, 0 ≤ x ∧ x ≤ 255 := by
  intro x hx
  rw [List.mem_append] at hx
  rcases hx with hx | hx
  · exact ha x hx
  · exact hb x hx
set_option maxHeartbeats 8000000 in
set_option maxRecDepth 100000 in
theorem puts_law (A : Option Addr) (n c : Nat) (zs : List Int) (x : Int) (s : ByteArray) (w : World) (h : Sl w A n c zs) (hx : -9223372036854775808 ≤ x ∧ x ≤ 9223372036854775807) : Calls Try.prog 3 #[.slice A n c, .int .i64 x, .string s] w fun e w' => e = .returned (.bool true) ∧ Below w.heap.size w w' := by
  have HS := Lib.hid h
  have HS0 := Lib.hid h
  have HB := Lib.hid (Below.refl w.heap.size w)
  have HL : Hid (zs.length = n) := Lib.hid h.rk.1
  have HIN := Lib.hid (rk_in h.rk)
  obtain ⟨i0, hi0, hz0, hs0, hb0'⟩ := info_parts u8_info
  have HB0 := Lib.hid hb0'
  have hn9 := h.rk.2.1
  clear h hb0'
  by_cases hbig : 2000 < n
  · have hb1 : decide ((2000 : Int) < (n : Int)) = true := decide_eq_true (by omega)
    go_enter Try.func3, Try.ntmps3
    go_wp2_with fail
    go_ret
    exact ⟨rfl, Below.refl _ _⟩
  · have hb1 : decide ((2000 : Int) < (n : Int)) = false := decide_eq_false (by omega)
    by_cases hbg : 2000 < s.size
    · have hb2 : decide ((2000 : Int) < ((s.size : Nat) : Int)) = true := decide_eq_true (by omega)
      go_enter Try.func3, Try.ntmps3
      go_wp2_with fail
      go_ret
      exact ⟨rfl, Below.refl _ _⟩
    · have hb2 : decide ((2000 : Int) < ((s.size : Nat) : Int)) = false := decide_eq_false (by omega)
      have HEN := Lib.hid (enc_ten (zz_lt hx))
      obtain ⟨lx, hlx⟩ : ∃ l, (zs ++ enc (zz x)).length = l := ⟨_, rfl⟩
      obtain ⟨ly, hly⟩ : ∃ l, (zs ++ enc (zz ((s.size : Nat) : Int)) ++ bl s).length = l := ⟨_, rfl⟩
      have HLX := Lib.hid hlx
      have HLY := Lib.hid hly
      clear hlx hly
      have HEM : Hid ((enc (zz ((s.size : Nat) : Int))).length ≤ 10) := Lib.hid (enc_ten (zz_lt (by omega)))
      go_enter Try.func3, Try.ntmps3
      go_wp2_with fail
      clear hb1 hb2
      refine (copy11 A n c zs w HS.out (by omega)).mono ?_
      rintro e w1 ⟨v, rfl, ho, hb⟩
      have HO1 := Lib.hid ho
      replace HB := Lib.hid (upB HB.out hb)
      replace HS := Lib.hid (HS.out.up hb)
      clear ho hb
      have C4 : Hid (zs.length + 4 ≤ maxLen) := Lib.hid (by rw [HL.out]; unfold maxLen; omega)
      have C5 : Hid ((zs.length + 4) * 1 ≤ 140737488355328) := Lib.hid (by rw [HL.out]; omega)
      have HSZ : Hid (w.heap.size ≤ (w1.alloc (.cells #[.int .u8 1, .int .u8 2, .int .u8 3, .int .u8 4] 5)).heap.size) := Lib.hid (by have := HB.out.size; simp; omega)
      go_wp2_with (first | (go_loud (at_builtin; refine wpList_append_own _ rfl _ _ 22 rfl w.heap.size 5 i0 (.int .u8 0) 1 1 Try.underlying22 hi0 hz0 hs0 HB0.out rfl (by omega) _ _ _ rfl (World.ownsRow.alloc HO1.out _) ⟨_, 0, none⟩ 4 4 [.int .u8 1, .int .u8 2, .int .u8 3, .int .u8 4] rfl rfl (new_cells4 _ _ _ _ _ _ _ (by simp)) (four_bytes _ _ _ _) C4.out C5.out HSZ.out ?_)) | fail)
      intro v' w2 hown hgrow _
      have ho2 : Ob w.heap.size w2 v' (zs ++ [1, 2, 3, 4]) := Ob.more (m := [1, 2, 3, 4]) (n := zs.length + 4) hown (by simp)
      have hb12 : Below w.heap.size w1 w2 := ((Below.refl _ _).alloc HB.out.size (.cells #[.int .u8 1, .int .u8 2, .int .u8 3, .int .u8 4] 5)).grown hgrow HSZ.out (fun k hk => (World.ownsRow.lt HO1.out k hk).1)
      have hl4 : (zs ++ [1, 2, 3, 4] : List Int).length = n + 4 := by rw [List.length_append, HL.out]; rfl
      obtain ⟨gs, cs, hvs, _, _⟩ := World.ownsRow.form ho2 (by rw [hl4]; omega)
      subst hvs
      obtain ⟨As, cs', hvs, hss⟩ := ho2.sl (by rw [hl4]; omega) (app_in HIN.out (by decide))
      injection hvs with ea _ ec
      subst ea ec
      rw [hl4] at hss ⊢
      have hcs := hss.le
      have hcs2 := hss.cap
      have HSP := Lib.hid hss
      have HOWN := Lib.hid (hss.head HL.out HIN.out)
      replace HB := Lib.hid (HB.out.trans hb12)
      replace HS : Hid (Sl w2 A n c zs) := Lib.hid ⟨HS0.out.rk.below HB.out (Nat.le_refl _) |> fun r => ⟨r.1, r.2.1, fun h => by obtain ⟨b, off, e, h1, h2⟩ := r.2.2.1 h; exact ⟨b, off, e, Nat.lt_of_lt_of_le h1 HB.out.size, h2⟩, r.2.2.2⟩, HS0.out.le, HS0.out.cap, HS0.out.nil⟩
      have q1 : (0 : Int) ≤ (n : Int) := by omega
      have q2 : (n : Int) ≤ (cs : Int) := by omega
      have q3 : ¬ cs = 0 := by omega
      have W1 : IntKind.i64.wrap ((n : Int) + 4) = (n : Int) + 4 := IntWalk.i64_in _ (by omega)
      have q4 : (0 : Int) ≤ (n : Int) + 4 := by omega
      have q5 : (n : Int) + 4 ≤ (cs : Int) := by omega
      have q6 : ((n : Int) + 4).toNat = n + 4 := by omega
      clear hown hgrow ho2 hb12 hss hl4 HO1 HSZ C4 C5
      go_wp2_with fail
      refine (putInt12 _ n cs zs x w2 HOWN.out (by omega) hx).mono ?_
      rintro e w3 ⟨vx, rfl, ho, hb⟩
      obtain ⟨Ax, cx, rfl, hs⟩ := ho.sl (by rw [List.length_append, HL.out]; have := HEN.out; omega) (app_in HIN.out (enc_in _ _ (Nat.le_refl _)))
      rw [HLX.out] at hs ⊢
      have HX := Lib.hid hs
      replace HB := Lib.hid (upB HB.out hb)
      replace HS := Lib.hid (HS.out.up hb)
      replace HSP := Lib.hid (HSP.out.up hb)
      replace HOWN := Lib.hid (HOWN.out.up hb)
      clear ho hb hs
      go_wp2_with fail
      refine (putText13 _ n cs zs s w3 HOWN.out (by omega) (by omega)).mono ?_
      rintro e w4 ⟨vy, rfl, ho, hb⟩
      obtain ⟨Ay, cy, rfl, hs⟩ := ho.sl (by rw [List.length_append, List.length_append, HL.out, bl_len]; have := HEM.out; omega) (app_in (app_in HIN.out (enc_in _ _ (Nat.le_refl _))) (bl_in s))
      rw [HLY.out] at hs ⊢
      have HY := Lib.hid hs
      replace HB := Lib.hid (upB HB.out hb)
      replace HS := Lib.hid (HS.out.up hb)
      replace HSP := Lib.hid (HSP.out.up hb)
      replace HOWN := Lib.hid (HOWN.out.up hb)
      replace HX := Lib.hid (HX.out.up hb)
      clear ho hb hs
      go_wp2_with fail
      have HL4 : Hid ((zs ++ [1, 2, 3, 4] : List Int).length = n + 4) := Lib.hid (by rw [List.length_append, HL.out]; rfl)
      have HSD : Hid (Sl w4.drew A n c zs) := Lib.hid (HS.out.up (Below.refl _ _).drew)
      have HBD : Hid (Below w4.heap.size w4 ((w4.alloc (.cells #[.int .u8 1, .int .u8 2, .int .u8 3, .int .u8 4] 5)).drew)) := Lib.hid ((b1 w4 _).drew)
      have HSA : Hid (Sl ((w4.alloc (.cells #[.int .u8 1, .int .u8 2, .int .u8 3, .int .u8 4] 5)).drew) A n c zs) := Lib.hid (HS.out.up HBD.out)
      have HSA2 : Hid (((w4.alloc (.cells #[.int .u8 1, .int .u8 2, .int .u8 3, .int .u8 4] 5)).drew).heap.size = w4.heap.size + 1) := Lib.hid (by simp)
      have HCA : Hid (∀ j v, [Value.int .u8 1, .int .u8 2, .int .u8 3, .int .u8 4][j]? = some v → ((w4.alloc (.cells #[.int .u8 1, .int .u8 2, .int .u8 3, .int .u8 4] 5)).drew).cell? ((⟨w4.heap.size, 0, none⟩ : Addr).add j) = some v) := Lib.hid (new_cells4 _ _ _ _ _ _ _ (by simp))
      have C4 : Hid (zs.length + 4 ≤ maxLen) := Lib.hid (by rw [HL.out]; unfold maxLen; omega)
      have C5 : Hid ((zs.length + 4) * 1 ≤ 140737488355328) := Lib.hid (by rw [HL.out]; omega)
      have hn2 : n ≤ 200000 := by omega
      first | (go_region_held_law (fun w' => True) (trivial) (first
        | (go_at_call 11; refine (copy11 A n c zs _ HSD.out hn2).mono ?_; rintro e w5 ⟨v5, rfl, ho5, hb5⟩; have HO5 : Hid (Ob w4.heap.size w5 v5 zs) := Lib.hid ho5; have HB5 : Hid (Below w4.heap.size w4 w5) := Lib.hid ((Below.refl _ _).drew.trans hb5); have HSZ5 : Hid (w4.heap.size ≤ (w5.alloc (.cells #[.int .u8 1, .int .u8 2, .int .u8 3, .int .u8 4] 5)).heap.size) := Lib.hid (Nat.le_trans HB5.out.size (by simp)); clear ho5 hb5)
        | (go_at_call 11; refine (copy11 A n c zs _ HSA.out hn2).mono ?_; rintro e w5 ⟨v5, rfl, ho5, hb5⟩; rw [HSA2.out] at ho5 hb5; have HO6 : Hid (Ob (w4.heap.size + 1) w5 v5 zs) := Lib.hid ho5; have HB6 : Hid (Below w4.heap.size w4 w5) := Lib.hid (HBD.out.trans (hb5.mono (by omega))); have HC6 : Hid (∀ j v, [Value.int .u8 1, .int .u8 2, .int .u8 3, .int .u8 4][j]? = some v → w5.cell? ((⟨w4.heap.size, 0, none⟩ : Addr).add j) = some v) := Lib.hid (fun j v hj => (hb5.cell (by have e1 : ((⟨w4.heap.size, 0, none⟩ : Addr).add j).block = w4.heap.size := (by unfold Addr.add; split <;> rfl); rw [e1]; exact Nat.lt_succ_self _)).trans (HCA.out j v hj)); have HSZ6 : Hid (w4.heap.size + 1 ≤ w5.heap.size) := Lib.hid (by have := hb5.size; rw [HSA2.out] at this; exact this); clear ho5 hb5)
        | (refine step_append_own rfl (.tmp 39) (.tmp 40) 22 rfl w4.heap.size 5 i0 (.int .u8 0) 1 1 Try.underlying22 hi0 hz0 hs0 HB0.out rfl (by omega) _ _ _ (by first | (simp [Act.eval, Act.put]; done) | (simp [Act.eval, Act.put]; rfl)) (World.ownsRow.alloc HO5.out _) ⟨_, 0, none⟩ 4 4 [.int .u8 1, .int .u8 2, .int .u8 3, .int .u8 4] (by first | (simp [Act.eval, Act.put]; done) | (simp [Act.eval, Act.put]; rfl)) rfl (new_cells4 _ _ _ _ _ _ _ (by simp)) (four_bytes _ _ _ _) C4.out C5.out HSZ5.out ?_; intro v9 w9 hown hgrow; have ho9 : Ob w4.heap.size w9 v9 (zs ++ [1, 2, 3, 4]) := Ob.more (m := [1, 2, 3, 4]) (n := zs.length + 4) hown (by simp); have HB9 : Hid (Below w4.heap.size w4 w9) := Lib.hid ((HB5.out.alloc HB5.out.size (.cells #[.int .u8 1, .int .u8 2, .int .u8 3, .int .u8 4] 5)).grown hgrow HSZ5.out (fun k hk => (World.ownsRow.lt HO5.out k hk).1)); obtain ⟨A9, c9, rfl, hs9⟩ := ho9.sl (by rw [HL4.out]; omega) (app_in HIN.out (by decide)); rw [HL4.out] at hs9 ⊢; have HS9 := Lib.hid hs9; have HSP9 : Hid (Sl w9 (some ⟨gs, 0, none⟩) (n + 4) cs (zs ++ [1, 2, 3, 4])) := Lib.hid (HSP.out.up HB9.out); clear hown hgrow ho9 hs9)
        | (refine step_append_own rfl (.tmp 39) (.tmp 40) 22 rfl (w4.heap.size + 1) 5 i0 (.int .u8 0) 1 1 Try.underlying22 hi0 hz0 hs0 HB0.out rfl (by omega) _ _ _ (by first | (simp [Act.eval, Act.put]; done) | (simp [Act.eval, Act.put]; rfl)) HO6.out ⟨_, 0, none⟩ 4 4 [.int .u8 1, .int .u8 2, .int .u8 3, .int .u8 4] (by first | (simp [Act.eval, Act.put]; done) | (simp [Act.eval, Act.put]; rfl)) rfl HC6.out (four_bytes _ _ _ _) C4.out C5.out HSZ6.out ?_; intro v9 w9 hown hgrow; have ho9 : Ob (w4.heap.size + 1) w9 v9 (zs ++ [1, 2, 3, 4]) := Ob.more (m := [1, 2, 3, 4]) (n := zs.length + 4) hown (by simp); have HB9 : Hid (Below w4.heap.size w4 w9) := Lib.hid (HB6.out.grown hgrow (Nat.le_trans (Nat.le_succ _) HSZ6.out) (fun k hk => by have := (World.ownsRow.lt HO6.out k hk).1; omega)); obtain ⟨A9, c9, rfl, hs9⟩ := ho9.sl (by rw [HL4.out]; omega) (app_in HIN.out (by decide)); rw [HL4.out] at hs9 ⊢; have HS9 := Lib.hid hs9; have HSP9 : Hid (Sl w9 (some ⟨gs, 0, none⟩) (n + 4) cs (zs ++ [1, 2, 3, 4])) := Lib.hid (HSP.out.up HB9.out); clear hown hgrow ho9 hs9)
        | (go_at_call 14; refine (same14 _ _ (n + 4) cs c9 _ _ HSP9.out.rk HS9.out.rk).mono ?_; rintro e w10 ⟨rfl, hb10⟩; have HB10 : Hid (Below w4.heap.size w4 w10) := Lib.hid (HB9.out.trans (hb10.mono HB9.out.size)); clear hb10))) | fail
      all_goals
        have hb := HB10.out
        replace HB := Lib.hid (upB HB.out hb)
        replace HS := Lib.hid (HS.out.up hb)
        replace HX := Lib.hid (HX.out.up hb)
        replace HY := Lib.hid (HY.out.up hb)
        clear hb HSA HSA2 HCA HSD HBD HSP HOWN
        as_aux_lemma =>
          go_wp2_with fail
          refine (putInt15 A n c zs x _ HS.out hn2 hx).mono ?_
          rintro e w11 ⟨v, rfl, ho, hb⟩
          obtain ⟨A11, c11, rfl, hs⟩ := ho.sl (by rw [List.length_append, HL.out]; have := HEN.out; omega) (app_in HIN.out (enc_in _ _ (Nat.le_refl _)))
          rw [HLX.out] at hs ⊢
          have HP := Lib.hid hs
          replace HB := Lib.hid (upB HB.out hb)
          replace HS := Lib.hid (HS.out.up hb)
          replace HX := Lib.hid (HX.out.up hb)
          replace HY := Lib.hid (HY.out.up hb)
          clear hb ho hs
          go_wp2_with fail
          refine (same14 Ax A11 lx cx c11 _ _ HX.out.rk HP.out.rk).mono ?_
          rintro e w12 ⟨rfl, hb⟩
          replace HB := Lib.hid (upB HB.out hb)
          replace HS := Lib.hid (HS.out.up hb)
          replace HY := Lib.hid (HY.out.up hb)
          clear hb HX HP
          go_wp2_with fail
          refine (putText16 A n c zs s _ HS.out hn2 (by omega)).mono ?_
          rintro e w13 ⟨v, rfl, ho, hb⟩
          obtain ⟨A13, c13, rfl, hs⟩ := ho.sl (by rw [List.length_append, List.length_append, HL.out, bl_len]; have := HEM.out; omega) (app_in (app_in HIN.out (enc_in _ _ (Nat.le_refl _))) (bl_in s))
          rw [HLY.out] at hs ⊢
          have HP := Lib.hid hs
          replace HB := Lib.hid (upB HB.out hb)
          replace HY := Lib.hid (HY.out.up hb)
          clear hb ho hs
          go_wp2_with fail
          refine (same14 Ay A13 ly cy c13 _ _ HY.out.rk HP.out.rk).mono ?_
          rintro e w14 ⟨rfl, hb⟩
          replace HB := Lib.hid (upB HB.out hb)
          clear hb HY HP
          go_wp2_with fail
          refine (alive17 _).mono ?_
          rintro e w15 ⟨rfl, hb⟩
          replace HB := Lib.hid (upB HB.out hb)
          clear hb
          go_wp2_with fail
          go_ret
          exact ⟨rfl, HB.out⟩
end Go.Proofs.Ytppgaddjjlcfcaa.Wk
