/- PutFrame in the reference. Conditions: the slices read as bytes; at most 10000 bytes each. -/
import Derived.Test.YtppgaddjjlcfcaaPf
set_option linter.unusedSimpArgs false
set_option linter.unusedVariables false
namespace Go.Proofs.Ytppgaddjjlcfcaa.Mt
open Go
theorem bys_size (ps : List Int) : (bys ps).size = ps.length := by simp [bys, byl, ByteArray.size]
theorem bl_bys {ps : List Int} (h : ∀ x ∈ ps, 0 ≤ x ∧ x ≤ 255) : bl (bys ps) = ps := by
  unfold bl bys byl
  simp only [List.map_map]
  have : ∀ x ∈ ps, ((fun b : UInt8 => (b.toNat : Int)) ∘ fun x : Int => UInt8.ofNat x.toNat) x = x := by
    intro x hx
    have := h x hx
    simp only [Function.comp, UInt8.toNat_ofNat']
    omega
  rw [List.map_congr_left this]
  simp
end Go.Proofs.Ytppgaddjjlcfcaa.Mt
namespace Go.Proofs.Ytppgaddjjlcfcaa.Wk
open Go.RowKit
open Go.Proofs.Ytppgaddjjlcfcaa.Mt
theorem Ob.base {b b' : Nat} {w : World} {v : Value} {l : List Int} (h : Ob b w v l) (hb : b' ≤ b) : Ob b' w v l := by
  refine ⟨h.1, ?_⟩
  rcases h.2 with h0 | ⟨g, cap, cur, h1, h2, h3⟩
  · exact .inl h0
  · exact .inr ⟨g, cap, cur, h1, Nat.le_trans hb h2, h3⟩
set_option maxHeartbeats 8000000 in
set_option maxRecDepth 100000 in
theorem putFrame23 (A : Option Addr) (n c : Nat) (zs : List Int) (k : Int) (A' : Option Addr) (m c' : Nat) (ps : List Int) (w : World) (h : Sl w A n c zs) (hp : Sl w A' m c' ps) (hn : n ≤ 10000) (hm : m ≤ 10000) : Calls Try.prog 23 #[.slice A n c, .int .i64 k, .slice A' m c'] w (Wt (zs ++ fr k ps) w) := by
  obtain ⟨i0, hi0, hz0, hs0, hb0'⟩ := info_parts u8_info
  have HB0 := Lib.hid hb0'
  have HL : Hid (zs.length = n) := Lib.hid h.rk.1
  have HM : Hid (ps.length = m) := Lib.hid hp.rk.1
  have HIN := Lib.hid (rk_in h.rk)
  have HPI := Lib.hid (rk_in hp.rk)
  have HS := Lib.hid h
  have HP := Lib.hid hp
  have HBS : Hid ((bys ps).size ≤ 100000) := Lib.hid (by rw [bys_size, HM.out]; omega)
  have HFB := Lib.hid (fb_len (k := k) (ps := ps) (by have := HM.out; omega))
  obtain ⟨kb, hkb⟩ : ∃ kb, k % 256 = kb := ⟨_, rfl⟩
  have HKB := Lib.hid hkb
  have hkr : 0 ≤ kb ∧ kb ≤ 255 := by omega
  have HTX : Hid ([kb] ++ enc (zz (((bys ps).size : Nat) : Int)) ++ bl (bys ps) = fb k ps) := Lib.hid (by rw [bys_size, bl_bys HPI.out]; unfold fb; rw [hkb])
  obtain ⟨r, hr⟩ : ∃ r, Int.tmod k 256 = r := ⟨_, rfl⟩
  have hrk : (r < 0 → r + 256 = kb) ∧ (0 ≤ r → r = kb) ∧ -256 < r ∧ r < 256 := by
    rw [← hr, ← hkb]
    have h1 := Int.tmod_def k 256
    rcases Int.lt_or_le k 0 with h0 | h0
    · have h2 := Int.neg_tmod (a := -k) (b := 256)
      have h3 : Int.tmod (-k) 256 = (-k) % 256 := Int.tmod_eq_emod_of_nonneg (by omega)
      rw [Int.neg_neg, h3] at h2
      omega
    · rw [Int.tmod_eq_emod_of_nonneg h0]
      omega
  clear h hp hb0' hkb
  go_enter Try.func23, Try.ntmps23
  by_cases h0 : r < 0
  · have e0 : decide (r < 0) = true := decide_eq_true h0
    have W1 : IntKind.i64.wrap (r + 256) = kb := by rw [IntWalk.i64_in _ (by omega)]; exact hrk.1 h0
    have HKI : Hid (∀ x ∈ [kb], 0 ≤ x ∧ x ≤ 255) := Lib.hid (by intro x hx; simp only [List.mem_singleton] at hx; omega)
    have M0 : kb % 256 = kb := by omega
    have M0b : IntKind.u8.wrap kb = kb := IntWalk.u8_in _ (by omega)
    have HW1 : Hid ((w.alloc (.cells #[.int .u8 kb] 5)).drew.ownsRow w.heap.size 5 1 (.slice none 0 0) 0 []) := Lib.hid (World.ownsRow_nil _ _ _ _)
    have HCL : Hid (∀ j u, [Value.int .u8 kb][j]? = some u → (w.alloc (.cells #[.int .u8 kb] 5)).drew.cell? ((⟨w.heap.size, 0, none⟩ : Addr).add j) = some u) := Lib.hid (fun j u hu => new_cell w _ 5 _ rfl j u hu)
    have HBW : Hid (Below w.heap.size w (w.alloc (.cells #[.int .u8 kb] 5)).drew) := Lib.hid (b1 w _).drew
    have HSZ1 : Hid (w.heap.size ≤ (w.alloc (.cells #[.int .u8 kb] 5)).drew.heap.size) := Lib.hid (by simp)
    have HM1 : Hid (0 + 1 ≤ maxLen) := Lib.hid (by decide)
    have HM2 : Hid ((0 + 1) * 1 ≤ 140737488355328) := Lib.hid (by decide)
    have hc0 := conv_rk (c := c') (HP.out.up (Below.refl w.heap.size w).drew).rk
    have hc1 := conv_rk (c := c') (HP.out.up (b1 w (.cells #[.int .u8 kb] 5)).drew).rk
    have hc2 := conv_rk (c := c') (HP.out.up ((Below.refl w.heap.size w).drew.alloc (by simp) (.cells #[.int .u8 kb] 5))).rk
    clear hrk
    go_wp2_with fail
    first | (go_region_held_law (fun w' => True) (trivial) (first
      | (go_at_call 16; refine (putText16 A9 1 c9 [kb] (bys ps) w9 HS9.out (by omega) HBS.out).mono ?_; rintro e w10 ⟨v10, rfl, ho10, hb10⟩; have HO10 := Lib.hid ho10; have HB10 : Hid (Below w.heap.size w w10) := Lib.hid (HB9.out.trans (hb10.mono HB9.out.size)); have H910 : Hid (w9.heap.size ≤ w10.heap.size ∧ w.heap.size ≤ w9.heap.size) := Lib.hid ⟨hb10.size, HB9.out.size⟩; clear ho10 hb10)
      | (refine step_append_own rfl (.tmp 16) (.tmp 19) 22 rfl w.heap.size 5 i0 (.int .u8 0) 1 1 Try.underlying22 hi0 hz0 hs0 HB0.out rfl (by omega) (.slice none 0 0) 0 [] (by first | (simp [Act.eval, Act.put]; done) | (simp [Act.eval, Act.put]; rfl)) HW1.out ⟨w.heap.size, 0, none⟩ 1 1 [.int .u8 kb] (by first | (simp [Act.eval, Act.put]; done) | (simp [Act.eval, Act.put]; rfl)) rfl HCL.out (one_byte _) HM1.out HM2.out HSZ1.out ?_; intro v9 w9 hown hgrow; have ho9 : Ob w.heap.size w9 v9 [kb] := hown; have HB9 : Hid (Below w.heap.size w w9) := Lib.hid (HBW.out.grown hgrow HSZ1.out (fun k hk => by cases hk)); obtain ⟨A9, c9, rfl, hs9⟩ := ho9.sl (by simp) HKI.out; have HS9 : Hid (Sl w9 A9 1 c9 [kb]) := Lib.hid hs9; have hc9 := conv_rk (c := c') (HP.out.up HB9.out).rk; clear hown hgrow ho9 hs9))) | fail
    all_goals
      as_aux_lemma =>
        have ho := HO10.out
        rw [HTX.out] at ho
        clear hc0 hc1 hc2 hc9 HW1 HCL HBW HSZ1 HM1 HM2 M0 M0b
        obtain ⟨f, hf⟩ : ∃ f, fb k ps = f := ⟨_, rfl⟩
        obtain ⟨q, hq⟩ : ∃ q, f.length = q := ⟨_, rfl⟩
        have HFL : Hid (0 < q ∧ q ≤ 20000) := Lib.hid (by have h1 := HFB.out; rw [hf, hq, HM.out] at h1; omega)
        have HFI : Hid (∀ x ∈ f, 0 ≤ x ∧ x ≤ 255) := Lib.hid (by rw [← hf]; exact fb_in HPI.out)
        rw [hf] at ho
        have HFF := Lib.hid hf
        have hfl := HFL.out
        clear hf
        obtain ⟨g, cg, hv4, _, _⟩ := World.ownsRow.form ho (by rw [hq]; omega)
        subst hv4
        obtain ⟨A4, c4, hv4, hs4⟩ := ho.sl (by rw [hq]; omega) HFI.out
        injection hv4 with ea _ ec
        subst ea ec
        rw [hq] at hs4 ⊢
        have HO := Lib.hid ho
        have HQ := Lib.hid hq
        clear ho hq HO10
        go_wp2_with fail
        refine (sum25 _ q cg f w10 hs4.rk (by omega)).mono ?_
        rintro e w11 ⟨rfl, hb⟩
        obtain ⟨x, hx⟩ : ∃ x, crc f = x := ⟨_, rfl⟩
        have hx32 := crc_lt HFI.out
        rw [hx] at hx32 ⊢
        have ho11 := HO.out.below hb
        unfold Ob at ho11
        rw [HQ.out] at ho11
        have HO11 := Lib.hid ho11
        have HB11 := Lib.hid (HB10.out.trans (hb.mono HB10.out.size))
        have hs911 : w9.heap.size ≤ w11.heap.size := Nat.le_trans H910.out.1 hb.size
        obtain ⟨y1, hy1⟩ : ∃ y, x / 16777216 % 256 = y := ⟨_, rfl⟩
        obtain ⟨u2, hu2⟩ : ∃ y, x / 65536 = y := ⟨_, rfl⟩
        obtain ⟨u3, hu3⟩ : ∃ y, x / 256 = y := ⟨_, rfl⟩
        obtain ⟨y2, hy2⟩ : ∃ y, u2 % 256 = y := ⟨_, rfl⟩
        obtain ⟨y3, hy3⟩ : ∃ y, u3 % 256 = y := ⟨_, rfl⟩
        obtain ⟨y4, hy4⟩ : ∃ y, x % 256 = y := ⟨_, rfl⟩
        have HS4 : Hid (s4 (crc f) = [(y1 : Int), (y2 : Int), (y3 : Int), (y4 : Int)]) := Lib.hid (by unfold s4; rw [hx, hy1, hu2, hu3, hy2, hy3, hy4])
        have D1 : Int.tdiv (x : Int) 16777216 = (y1 : Int) := by rw [Int.tdiv_eq_ediv_of_nonneg (by omega)]; omega
        have D2 : Int.tdiv (x : Int) 65536 = (u2 : Int) := by rw [Int.tdiv_eq_ediv_of_nonneg (by omega)]; omega
        have D3 : Int.tdiv (x : Int) 256 = (u3 : Int) := by rw [Int.tdiv_eq_ediv_of_nonneg (by omega)]; omega
        have E2 : Int.tmod (u2 : Int) 256 = (y2 : Int) := by rw [Int.tmod_eq_emod_of_nonneg (by omega)]; omega
        have E3 : Int.tmod (u3 : Int) 256 = (y3 : Int) := by rw [Int.tmod_eq_emod_of_nonneg (by omega)]; omega
        have E4 : Int.tmod (x : Int) 256 = (y4 : Int) := by rw [Int.tmod_eq_emod_of_nonneg (by omega)]; omega
        have I1 : IntKind.i64.wrap (y1 : Int) = (y1 : Int) := IntWalk.i64_in _ (by omega)
        have I2 : IntKind.i64.wrap (u2 : Int) = (u2 : Int) := IntWalk.i64_in _ (by omega)
        have I3 : IntKind.i64.wrap (u3 : Int) = (u3 : Int) := IntWalk.i64_in _ (by omega)
        have I4 : IntKind.i64.wrap (y2 : Int) = (y2 : Int) := IntWalk.i64_in _ (by omega)
        have I5 : IntKind.i64.wrap (y3 : Int) = (y3 : Int) := IntWalk.i64_in _ (by omega)
        have I6 : IntKind.i64.wrap (y4 : Int) = (y4 : Int) := IntWalk.i64_in _ (by omega)
        have N1 : (y1 : Int) % 256 = (y1 : Int) := by omega
        have N2 : (y2 : Int) % 256 = (y2 : Int) := by omega
        have N3 : (y3 : Int) % 256 = (y3 : Int) := by omega
        have N4 : (y4 : Int) % 256 = (y4 : Int) := by omega
        have C4 : Hid (q + 4 ≤ maxLen) := Lib.hid (by unfold maxLen; omega)
        have C5 : Hid ((q + 4) * 1 ≤ 140737488355328) := Lib.hid (by omega)
        have HSZ : Hid (w9.heap.size ≤ (w11.alloc (.cells #[.int .u8 ((y1 : Nat) : Int), .int .u8 ((y2 : Nat) : Int), .int .u8 ((y3 : Nat) : Int), .int .u8 ((y4 : Nat) : Int)] 5)).heap.size) := Lib.hid (Nat.le_trans hs911 (by simp))
        clear hb hx hy1 hy2 hy3 hy4 hu2 hu3 ho11 hs4
        go_wp2_with (first | (go_loud (at_builtin; refine wpList_append_own _ rfl _ _ 22 rfl w9.heap.size 5 i0 (.int .u8 0) 1 1 Try.underlying22 hi0 hz0 hs0 HB0.out rfl (by omega) _ _ _ rfl (World.ownsRow.alloc HO11.out _) ⟨_, 0, none⟩ 4 4 [.int .u8 ((y1 : Nat) : Int), .int .u8 ((y2 : Nat) : Int), .int .u8 ((y3 : Nat) : Int), .int .u8 ((y4 : Nat) : Int)] rfl rfl (new_cells4 _ _ _ _ _ _ _ (by simp)) (four_bytes _ _ _ _) C4.out C5.out HSZ.out ?_)) | fail)
        intro v12 w12 hown hgrow _
        have ho12 : Ob w9.heap.size w12 v12 (fr k ps) := by
          have h1 := Ob.more (l := f) (m := [(y1 : Int), (y2 : Int), (y3 : Int), (y4 : Int)]) hown (by rw [List.length_append, HQ.out]; rfl)
          unfold fr
          rw [HFF.out, HS4.out]
          exact h1
        have HB12 : Hid (Below w.heap.size w w12) := Lib.hid ((HB11.out.alloc HB11.out.size (.cells #[.int .u8 ((y1 : Nat) : Int), .int .u8 ((y2 : Nat) : Int), .int .u8 ((y3 : Nat) : Int), .int .u8 ((y4 : Nat) : Int)] 5)).grown hgrow (Nat.le_trans H910.out.2 HSZ.out) (fun k hk => Nat.le_trans H910.out.2 (World.ownsRow.lt HO11.out k hk).1))
        have hfrl : (fr k ps).length = q + 4 := by unfold fr; rw [HFF.out, List.length_append, HQ.out]; rfl
        obtain ⟨A12, c12, rfl, hs12⟩ := ho12.sl (by rw [hfrl]; omega) (by unfold fr; rw [HFF.out]; exact app_in HFI.out (s4_in _))
        rw [hfrl] at hs12 ⊢
        have HFR := Lib.hid hfrl
        have HS12 := Lib.hid hs12
        clear hown hgrow ho12 hs12 hfrl HO11 HSZ C4 C5 D1 D2 D3 E2 E3 E4 I1 I2 I3 I4 I5 I6 N1 N2 N3 N4
        go_wp2_with fail
        refine (copy11 A n c zs w12 (HS.out.up HB12.out) (by omega)).mono ?_
        rintro e w13 ⟨v13, rfl, ho13, hb13⟩
        have HO13 := Lib.hid ho13
        have HS13 := Lib.hid (HS12.out.up hb13)
        have HB13 := Lib.hid (HB12.out.trans (hb13.mono HB12.out.size))
        have HSZ : Hid (w12.heap.size ≤ w13.heap.size) := Lib.hid hb13.size
        have HWW : Hid (w.heap.size ≤ w12.heap.size) := Lib.hid HB12.out.size
        have C4 : Hid (zs.length + (q + 4) ≤ maxLen) := Lib.hid (by rw [HL.out]; unfold maxLen; omega)
        have C5 : Hid ((zs.length + (q + 4)) * 1 ≤ 140737488355328) := Lib.hid (by rw [HL.out]; omega)
        clear ho13 hb13
        go_wp2_with (first | (go_loud (at_builtin; refine Rot.wpList_append_any _ _ 22 rfl (by rfl) w12.heap.size 5 i0 (.int .u8 0) 1 1 Try.underlying22 hi0 hz0 hs0 HB0.out rfl (by omega) _ _ _ rfl HO13.out A12 (q + 4) c12 (vk .u8 (fr k ps)) rfl (by rw [Nat.mul_one]; simp only [vk, List.length_map]; exact HFR.out) HS13.out.nil HS13.out.src (vk_one _) C4.out C5.out HSZ.out ?_)) | fail)
        intro v14 w14 hown hgrow
        have HO14 : Hid (Ob w.heap.size w14 v14 (zs ++ fr k ps)) := Lib.hid (Ob.base (Ob.more (m := fr k ps) hown (by rw [List.length_append, HFR.out])) HWW.out)
        have HB14 : Hid (Below w.heap.size w w14) := Lib.hid (HB13.out.grown hgrow HB13.out.size (fun k hk => Nat.le_trans HWW.out (World.ownsRow.lt HO13.out k hk).1))
        clear hown hgrow
        go_wp2_with fail
        go_ret
        exact ⟨_, rfl, HO14.out, HB14.out⟩
  · have e0 : decide (r < 0) = false := decide_eq_false h0
    obtain rfl : r = kb := hrk.2.1 (by omega)
    have HKI : Hid (∀ x ∈ [r], 0 ≤ x ∧ x ≤ 255) := Lib.hid (by intro x hx; simp only [List.mem_singleton] at hx; omega)
    have M0 : r % 256 = r := by omega
    have M0b : IntKind.u8.wrap r = r := IntWalk.u8_in _ (by omega)
    have HW1 : Hid ((w.alloc (.cells #[.int .u8 r] 5)).drew.ownsRow w.heap.size 5 1 (.slice none 0 0) 0 []) := Lib.hid (World.ownsRow_nil _ _ _ _)
    have HCL : Hid (∀ j u, [Value.int .u8 r][j]? = some u → (w.alloc (.cells #[.int .u8 r] 5)).drew.cell? ((⟨w.heap.size, 0, none⟩ : Addr).add j) = some u) := Lib.hid (fun j u hu => new_cell w _ 5 _ rfl j u hu)
    have HBW : Hid (Below w.heap.size w (w.alloc (.cells #[.int .u8 r] 5)).drew) := Lib.hid (b1 w _).drew
    have HSZ1 : Hid (w.heap.size ≤ (w.alloc (.cells #[.int .u8 r] 5)).drew.heap.size) := Lib.hid (by simp)
    have HM1 : Hid (0 + 1 ≤ maxLen) := Lib.hid (by decide)
    have HM2 : Hid ((0 + 1) * 1 ≤ 140737488355328) := Lib.hid (by decide)
    have hc0 := conv_rk (c := c') (HP.out.up (Below.refl w.heap.size w).drew).rk
    have hc1 := conv_rk (c := c') (HP.out.up (b1 w (.cells #[.int .u8 r] 5)).drew).rk
    have hc2 := conv_rk (c := c') (HP.out.up ((Below.refl w.heap.size w).drew.alloc (by simp) (.cells #[.int .u8 r] 5))).rk
    clear hrk
    go_wp2_with fail
    first | (go_region_held_law (fun w' => True) (trivial) (first
      | (go_at_call 16; refine (putText16 A9 1 c9 [r] (bys ps) w9 HS9.out (by omega) HBS.out).mono ?_; rintro e w10 ⟨v10, rfl, ho10, hb10⟩; have HO10 := Lib.hid ho10; have HB10 : Hid (Below w.heap.size w w10) := Lib.hid (HB9.out.trans (hb10.mono HB9.out.size)); have H910 : Hid (w9.heap.size ≤ w10.heap.size ∧ w.heap.size ≤ w9.heap.size) := Lib.hid ⟨hb10.size, HB9.out.size⟩; clear ho10 hb10)
      | (refine step_append_own rfl (.tmp 16) (.tmp 19) 22 rfl w.heap.size 5 i0 (.int .u8 0) 1 1 Try.underlying22 hi0 hz0 hs0 HB0.out rfl (by omega) (.slice none 0 0) 0 [] (by first | (simp [Act.eval, Act.put]; done) | (simp [Act.eval, Act.put]; rfl)) HW1.out ⟨w.heap.size, 0, none⟩ 1 1 [.int .u8 r] (by first | (simp [Act.eval, Act.put]; done) | (simp [Act.eval, Act.put]; rfl)) rfl HCL.out (one_byte _) HM1.out HM2.out HSZ1.out ?_; intro v9 w9 hown hgrow; have ho9 : Ob w.heap.size w9 v9 [r] := hown; have HB9 : Hid (Below w.heap.size w w9) := Lib.hid (HBW.out.grown hgrow HSZ1.out (fun k hk => by cases hk)); obtain ⟨A9, c9, rfl, hs9⟩ := ho9.sl (by simp) HKI.out; have HS9 : Hid (Sl w9 A9 1 c9 [r]) := Lib.hid hs9; have hc9 := conv_rk (c := c') (HP.out.up HB9.out).rk; clear hown hgrow ho9 hs9))) | fail
    all_goals
      as_aux_lemma =>
        have ho := HO10.out
        rw [HTX.out] at ho
        clear hc0 hc1 hc2 hc9 HW1 HCL HBW HSZ1 HM1 HM2 M0 M0b
        obtain ⟨f, hf⟩ : ∃ f, fb k ps = f := ⟨_, rfl⟩
        obtain ⟨q, hq⟩ : ∃ q, f.length = q := ⟨_, rfl⟩
        have HFL : Hid (0 < q ∧ q ≤ 20000) := Lib.hid (by have h1 := HFB.out; rw [hf, hq, HM.out] at h1; omega)
        have HFI : Hid (∀ x ∈ f, 0 ≤ x ∧ x ≤ 255) := Lib.hid (by rw [← hf]; exact fb_in HPI.out)
        rw [hf] at ho
        have HFF := Lib.hid hf
        have hfl := HFL.out
        clear hf
        obtain ⟨g, cg, hv4, _, _⟩ := World.ownsRow.form ho (by rw [hq]; omega)
        subst hv4
        obtain ⟨A4, c4, hv4, hs4⟩ := ho.sl (by rw [hq]; omega) HFI.out
        injection hv4 with ea _ ec
        subst ea ec
        rw [hq] at hs4 ⊢
        have HO := Lib.hid ho
        have HQ := Lib.hid hq
        clear ho hq HO10
        go_wp2_with fail
        refine (sum25 _ q cg f w10 hs4.rk (by omega)).mono ?_
        rintro e w11 ⟨rfl, hb⟩
        obtain ⟨x, hx⟩ : ∃ x, crc f = x := ⟨_, rfl⟩
        have hx32 := crc_lt HFI.out
        rw [hx] at hx32 ⊢
        have ho11 := HO.out.below hb
        unfold Ob at ho11
        rw [HQ.out] at ho11
        have HO11 := Lib.hid ho11
        have HB11 := Lib.hid (HB10.out.trans (hb.mono HB10.out.size))
        have hs911 : w9.heap.size ≤ w11.heap.size := Nat.le_trans H910.out.1 hb.size
        obtain ⟨y1, hy1⟩ : ∃ y, x / 16777216 % 256 = y := ⟨_, rfl⟩
        obtain ⟨u2, hu2⟩ : ∃ y, x / 65536 = y := ⟨_, rfl⟩
        obtain ⟨u3, hu3⟩ : ∃ y, x / 256 = y := ⟨_, rfl⟩
        obtain ⟨y2, hy2⟩ : ∃ y, u2 % 256 = y := ⟨_, rfl⟩
        obtain ⟨y3, hy3⟩ : ∃ y, u3 % 256 = y := ⟨_, rfl⟩
        obtain ⟨y4, hy4⟩ : ∃ y, x % 256 = y := ⟨_, rfl⟩
        have HS4 : Hid (s4 (crc f) = [(y1 : Int), (y2 : Int), (y3 : Int), (y4 : Int)]) := Lib.hid (by unfold s4; rw [hx, hy1, hu2, hu3, hy2, hy3, hy4])
        have D1 : Int.tdiv (x : Int) 16777216 = (y1 : Int) := by rw [Int.tdiv_eq_ediv_of_nonneg (by omega)]; omega
        have D2 : Int.tdiv (x : Int) 65536 = (u2 : Int) := by rw [Int.tdiv_eq_ediv_of_nonneg (by omega)]; omega
        have D3 : Int.tdiv (x : Int) 256 = (u3 : Int) := by rw [Int.tdiv_eq_ediv_of_nonneg (by omega)]; omega
        have E2 : Int.tmod (u2 : Int) 256 = (y2 : Int) := by rw [Int.tmod_eq_emod_of_nonneg (by omega)]; omega
        have E3 : Int.tmod (u3 : Int) 256 = (y3 : Int) := by rw [Int.tmod_eq_emod_of_nonneg (by omega)]; omega
        have E4 : Int.tmod (x : Int) 256 = (y4 : Int) := by rw [Int.tmod_eq_emod_of_nonneg (by omega)]; omega
        have I1 : IntKind.i64.wrap (y1 : Int) = (y1 : Int) := IntWalk.i64_in _ (by omega)
        have I2 : IntKind.i64.wrap (u2 : Int) = (u2 : Int) := IntWalk.i64_in _ (by omega)
        have I3 : IntKind.i64.wrap (u3 : Int) = (u3 : Int) := IntWalk.i64_in _ (by omega)
        have I4 : IntKind.i64.wrap (y2 : Int) = (y2 : Int) := IntWalk.i64_in _ (by omega)
        have I5 : IntKind.i64.wrap (y3 : Int) = (y3 : Int) := IntWalk.i64_in _ (by omega)
        have I6 : IntKind.i64.wrap (y4 : Int) = (y4 : Int) := IntWalk.i64_in _ (by omega)
        have N1 : (y1 : Int) % 256 = (y1 : Int) := by omega
        have N2 : (y2 : Int) % 256 = (y2 : Int) := by omega
        have N3 : (y3 : Int) % 256 = (y3 : Int) := by omega
        have N4 : (y4 : Int) % 256 = (y4 : Int) := by omega
        have C4 : Hid (q + 4 ≤ maxLen) := Lib.hid (by unfold maxLen; omega)
        have C5 : Hid ((q + 4) * 1 ≤ 140737488355328) := Lib.hid (by omega)
        have HSZ : Hid (w9.heap.size ≤ (w11.alloc (.cells #[.int .u8 ((y1 : Nat) : Int), .int .u8 ((y2 : Nat) : Int), .int .u8 ((y3 : Nat) : Int), .int .u8 ((y4 : Nat) : Int)] 5)).heap.size) := Lib.hid (Nat.le_trans hs911 (by simp))
        clear hb hx hy1 hy2 hy3 hy4 hu2 hu3 ho11 hs4
        go_wp2_with (first | (go_loud (at_builtin; refine wpList_append_own _ rfl _ _ 22 rfl w9.heap.size 5 i0 (.int .u8 0) 1 1 Try.underlying22 hi0 hz0 hs0 HB0.out rfl (by omega) _ _ _ rfl (World.ownsRow.alloc HO11.out _) ⟨_, 0, none⟩ 4 4 [.int .u8 ((y1 : Nat) : Int), .int .u8 ((y2 : Nat) : Int), .int .u8 ((y3 : Nat) : Int), .int .u8 ((y4 : Nat) : Int)] rfl rfl (new_cells4 _ _ _ _ _ _ _ (by simp)) (four_bytes _ _ _ _) C4.out C5.out HSZ.out ?_)) | fail)
        intro v12 w12 hown hgrow _
        have ho12 : Ob w9.heap.size w12 v12 (fr k ps) := by
          have h1 := Ob.more (l := f) (m := [(y1 : Int), (y2 : Int), (y3 : Int), (y4 : Int)]) hown (by rw [List.length_append, HQ.out]; rfl)
          unfold fr
          rw [HFF.out, HS4.out]
          exact h1
        have HB12 : Hid (Below w.heap.size w w12) := Lib.hid ((HB11.out.alloc HB11.out.size (.cells #[.int .u8 ((y1 : Nat) : Int), .int .u8 ((y2 : Nat) : Int), .int .u8 ((y3 : Nat) : Int), .int .u8 ((y4 : Nat) : Int)] 5)).grown hgrow (Nat.le_trans H910.out.2 HSZ.out) (fun k hk => Nat.le_trans H910.out.2 (World.ownsRow.lt HO11.out k hk).1))
        have hfrl : (fr k ps).length = q + 4 := by unfold fr; rw [HFF.out, List.length_append, HQ.out]; rfl
        obtain ⟨A12, c12, rfl, hs12⟩ := ho12.sl (by rw [hfrl]; omega) (by unfold fr; rw [HFF.out]; exact app_in HFI.out (s4_in _))
        rw [hfrl] at hs12 ⊢
        have HFR := Lib.hid hfrl
        have HS12 := Lib.hid hs12
        clear hown hgrow ho12 hs12 hfrl HO11 HSZ C4 C5 D1 D2 D3 E2 E3 E4 I1 I2 I3 I4 I5 I6 N1 N2 N3 N4
        go_wp2_with fail
        refine (copy11 A n c zs w12 (HS.out.up HB12.out) (by omega)).mono ?_
        rintro e w13 ⟨v13, rfl, ho13, hb13⟩
        have HO13 := Lib.hid ho13
        have HS13 := Lib.hid (HS12.out.up hb13)
        have HB13 := Lib.hid (HB12.out.trans (hb13.mono HB12.out.size))
        have HSZ : Hid (w12.heap.size ≤ w13.heap.size) := Lib.hid hb13.size
        have HWW : Hid (w.heap.size ≤ w12.heap.size) := Lib.hid HB12.out.size
        have C4 : Hid (zs.length + (q + 4) ≤ maxLen) := Lib.hid (by rw [HL.out]; unfold maxLen; omega)
        have C5 : Hid ((zs.length + (q + 4)) * 1 ≤ 140737488355328) := Lib.hid (by rw [HL.out]; omega)
        clear ho13 hb13
        go_wp2_with (first | (go_loud (at_builtin; refine Rot.wpList_append_any _ _ 22 rfl (by rfl) w12.heap.size 5 i0 (.int .u8 0) 1 1 Try.underlying22 hi0 hz0 hs0 HB0.out rfl (by omega) _ _ _ rfl HO13.out A12 (q + 4) c12 (vk .u8 (fr k ps)) rfl (by rw [Nat.mul_one]; simp only [vk, List.length_map]; exact HFR.out) HS13.out.nil HS13.out.src (vk_one _) C4.out C5.out HSZ.out ?_)) | fail)
        intro v14 w14 hown hgrow
        have HO14 : Hid (Ob w.heap.size w14 v14 (zs ++ fr k ps)) := Lib.hid (Ob.base (Ob.more (m := fr k ps) hown (by rw [List.length_append, HFR.out])) HWW.out)
        have HB14 : Hid (Below w.heap.size w w14) := Lib.hid (HB13.out.grown hgrow HB13.out.size (fun k hk => Nat.le_trans HWW.out (World.ownsRow.lt HO13.out k hk).1))
        clear hown hgrow
        go_wp2_with fail
        go_ret
        exact ⟨_, rfl, HO14.out, HB14.out⟩
end Go.Proofs.Ytppgaddjjlcfcaa.Wk
