/- PutFrame in the layer. Conditions: the slices read as bytes; at most 10000 bytes each. -/
import Derived.Test.YtppgaddjjlcfcaaLawB
set_option linter.unusedSimpArgs false
set_option linter.unusedVariables false
namespace Go.Proofs.Ytppgaddjjlcfcaa.Mt
open Go
/-- a frame's beginning; the four bytes of a checksum; a frame -/
def fb (k : Int) (ps : List Int) : List Int := [k % 256] ++ enc (zz (ps.length : Int)) ++ ps
def s4 (x : Nat) : List Int := [((x / 16777216 % 256 : Nat) : Int), ((x / 65536 % 256 : Nat) : Int), ((x / 256 % 256 : Nat) : Int), ((x % 256 : Nat) : Int)]
def fr (k : Int) (ps : List Int) : List Int := fb k ps ++ s4 (crc (fb k ps))
theorem it_lt : ∀ j x, x < 4294967296 → it j x < 4294967296 := by
  intro j
  induction j with
  | zero => intro x h; exact h
  | succ j ih =>
    intro x h
    have h1 := ih x h
    rw [it]
    unfold st
    split
    · exact Nat.xor_lt_two_pow (n := 32) (by omega) (by decide)
    · omega
theorem sk_lt {zs : List Int} (h : ∀ x ∈ zs, 0 ≤ x ∧ x ≤ 255) : ∀ k, k ≤ zs.length → sk zs k < 4294967296 := by
  intro k
  induction k with
  | zero => intro _; show 4294967295 < 4294967296; decide
  | succ k ih =>
    intro hk
    rw [sk]
    refine it_lt 8 _ (Nat.xor_lt_two_pow (n := 32) (ih (by omega)) ?_)
    have h1 : iat zs k = zs[k] := by unfold iat; rw [List.getD_eq_getElem?_getD, List.getElem?_eq_getElem (by omega)]; rfl
    have := h _ (List.getElem_mem (show k < zs.length by omega))
    rw [h1]
    omega
theorem crc_lt {zs : List Int} (h : ∀ x ∈ zs, 0 ≤ x ∧ x ≤ 255) : crc zs < 4294967296 := Nat.xor_lt_two_pow (n := 32) (sk_lt h _ (Nat.le_refl _)) (by decide)
theorem s4_in (x : Nat) : ∀ y ∈ s4 x, 0 ≤ y ∧ y ≤ 255 := by
  intro y hy
  unfold s4 at hy
  simp only [List.mem_cons, List.not_mem_nil, or_false] at hy
  omega
theorem sub_app (a b : List Int) : sub (a ++ b) a.length b.length = b := by
  unfold sub
  rw [List.drop_left, List.take_length]
end Go.Proofs.Ytppgaddjjlcfcaa.Mt
namespace Go.Proofs.Ytppgaddjjlcfcaa.Wk
open Go.RowKit
open Go.Proofs.Ytppgaddjjlcfcaa.Mt
theorem one_in {k : Int} : ∀ x ∈ [k % 256], 0 ≤ x ∧ x ≤ 255 := by intro x hx; simp only [List.mem_singleton] at hx; omega
theorem fb_in {k : Int} {ps : List Int} (h : ∀ x ∈ ps, 0 ≤ x ∧ x ≤ 255) : ∀ x ∈ fb k ps, 0 ≤ x ∧ x ≤ 255 := app_in (app_in one_in (enc_in _ _ (Nat.le_refl _))) h
theorem fb_len {k : Int} {ps : List Int} (h : ps.length ≤ 100000) : (fb k ps).length ≤ 11 + ps.length ∧ 0 < (fb k ps).length := by
  unfold fb
  rw [List.length_append, List.length_append]
  have := enc_ten (zz_lt (n := (ps.length : Int)) (by omega))
  simp only [List.length_singleton]
  omega
set_option maxHeartbeats 8000000 in
set_option maxRecDepth 100000 in
theorem putFrame22 (A : Option Addr) (n c : Nat) (zs : List Int) (k : Int) (A' : Option Addr) (m c' : Nat) (ps : List Int) (w : World) (h : Sl w A n c zs) (hp : Sl w A' m c' ps) (hn : n ≤ 10000) (hm : m ≤ 10000) : Calls Try.prog 22 #[.slice A n c, .int .i64 k, .slice A' m c'] w (Wt (zs ++ fr k ps) w) := by
  obtain ⟨i0, hi0, hz0, hs0, hb0'⟩ := info_parts u8_info
  have HB0 := Lib.hid hb0'
  have HL : Hid (zs.length = n) := Lib.hid h.rk.1
  have HM : Hid (ps.length = m) := Lib.hid hp.rk.1
  have HIN := Lib.hid (rk_in h.rk)
  have HPI := Lib.hid (rk_in hp.rk)
  have HS := Lib.hid h
  have HP := Lib.hid hp
  have W1 : IntKind.i64.wrap (11 + (m : Int)) = 11 + (m : Int) := IntWalk.i64_in _ (by omega)
  have W2 : IntKind.i64.wrap (11 + (m : Int) + 4) = ((15 + m : Nat) : Int) := by rw [IntWalk.i64_in _ (by omega)]; omega
  have HEN := Lib.hid (enc_ten (zz_lt (n := (m : Int)) (by omega)))
  have HFB := Lib.hid (fb_len (k := k) (ps := ps) (by have := HM.out; omega))
  clear h hp hb0'
  go_enter Try.func22, Try.ntmps22
  go_wp2_with fail
  refine (fresh34 A n c (15 + m) zs w HS.out (by omega) (by omega)).mono ?_
  rintro e w1 ⟨v, rfl, ho, hb⟩
  have HO := Lib.hid ho
  have HB := Lib.hid hb
  clear ho hb W1 W2
  obtain ⟨kb, hkb⟩ : ∃ kb, k % 256 = kb := ⟨_, rfl⟩
  have HKB := Lib.hid hkb
  have C4 : Hid (zs.length + 1 ≤ maxLen) := Lib.hid (by rw [HL.out]; unfold maxLen; omega)
  have C5 : Hid ((zs.length + 1) * 1 ≤ 140737488355328) := Lib.hid (by rw [HL.out]; omega)
  have HSZ : Hid (w.heap.size ≤ (w1.alloc (.cells #[.int .u8 kb] 5)).heap.size) := Lib.hid (by have := HB.out.size; simp; omega)
  go_wp2_with (first | (go_loud (at_builtin; refine wpList_append_own _ rfl _ _ 22 rfl w.heap.size 5 i0 (.int .u8 0) 1 1 Try.underlying22 hi0 hz0 hs0 HB0.out rfl (by omega) _ _ _ rfl (World.ownsRow.alloc HO.out _) ⟨_, 0, none⟩ 1 1 [.int .u8 kb] rfl rfl (new_cell _ _ _ _ (by simp)) (one_byte _) C4.out C5.out HSZ.out ?_)) | fail)
  intro v2 w2 hown hgrow _
  have HO2 : Hid (Ob w.heap.size w2 v2 (zs ++ [kb])) := Lib.hid (Ob.more (m := [kb]) (n := zs.length + 1) hown (by simp))
  have HB2 : Hid (Below w.heap.size w w2) := Lib.hid ((HB.out.alloc HB.out.size (.cells #[.int .u8 kb] 5)).grown hgrow HSZ.out (fun k hk => (World.ownsRow.lt HO.out k hk).1))
  clear hown hgrow HO HB HSZ C4 C5 hkb
  go_wp2_with fail
  refine (putCode33 w.heap.size v2 _ (m : Int) w2 HO2.out HB2.out.size (by rw [List.length_append, HL.out]; simp; omega) (by omega)).mono ?_
  rintro e w3 ⟨v3, rfl, ho, hb⟩
  have HO3 := Lib.hid ho
  have HB3 := Lib.hid (HB2.out.trans hb)
  have HP3 := Lib.hid (HP.out.up HB3.out)
  have C4 : Hid ((zs ++ [kb] ++ enc (zz (m : Int))).length + m ≤ maxLen) := Lib.hid (by rw [List.length_append, List.length_append, HL.out]; have := HEN.out; unfold maxLen; simp; omega)
  have C5 : Hid (((zs ++ [kb] ++ enc (zz (m : Int))).length + m) * 1 ≤ 140737488355328) := Lib.hid (by rw [List.length_append, List.length_append, HL.out]; have := HEN.out; simp; omega)
  have HSZ : Hid (w.heap.size ≤ w3.heap.size) := Lib.hid HB3.out.size
  clear ho hb HO2 HB2
  go_wp2_with (first | (go_loud (at_builtin; refine Rot.wpList_append_any _ _ 22 rfl (by rfl) w.heap.size 5 i0 (.int .u8 0) 1 1 Try.underlying22 hi0 hz0 hs0 HB0.out rfl (by omega) _ _ _ rfl HO3.out A' m c' (vk .u8 ps) rfl (by rw [Nat.mul_one]; simp only [vk, List.length_map]; exact HM.out) HP3.out.nil HP3.out.src (vk_one _) C4.out C5.out HSZ.out ?_)) | fail)
  intro v4 w4 hown hgrow
  have ho4 : Ob w.heap.size w4 v4 (zs ++ fb k ps) := by
    have h1 := Ob.more (l := zs ++ kb :: enc (zz (m : Int))) (m := ps) hown (by simp only [List.length_append, List.length_cons, HM.out])
    unfold fb
    rw [HKB.out, HM.out]
    simpa using h1
  have HB4 : Hid (Below w.heap.size w w4) := Lib.hid (HB3.out.grown hgrow HSZ.out (fun k hk => (World.ownsRow.lt HO3.out k hk).1))
  clear hown hgrow HO3 HB3 HP3 C4 C5 HSZ
  obtain ⟨f, hf⟩ : ∃ f, fb k ps = f := ⟨_, rfl⟩
  obtain ⟨q, hq⟩ : ∃ q, f.length = q := ⟨_, rfl⟩
  have HFL : Hid (0 < q ∧ q ≤ 20000) := Lib.hid (by have h1 := HFB.out; rw [hf, hq, HM.out] at h1; omega)
  have HFI : Hid (∀ x ∈ f, 0 ≤ x ∧ x ≤ 255) := Lib.hid (by rw [← hf]; exact fb_in HPI.out)
  rw [hf] at ho4
  have HFF := Lib.hid hf
  have HQ := Lib.hid hq
  have htot : (zs ++ f).length = n + q := by rw [List.length_append, HL.out, hq]
  clear hf hq HFB
  obtain ⟨g, cg, hv4, _, _⟩ := World.ownsRow.form ho4 (by rw [htot]; have := HFL.out; omega)
  subst hv4
  obtain ⟨A4, c4, hv4, hs4⟩ := ho4.sl (by rw [htot]; have := HFL.out; omega) (app_in HIN.out HFI.out)
  injection hv4 with ea _ ec
  subst ea ec
  rw [htot] at hs4 ⊢
  have HO4 := Lib.hid ho4
  have hcg := hs4.le
  have hcg2 := hs4.cap
  have hfl := HFL.out
  have hsub : Rk .u8 w4 w4.heap.size (some ⟨g, 0 + n, none⟩) q f := by
    obtain ⟨b, off, e, hlt, _⟩ := hs4.rk.get (i := 0) (by omega)
    injection e with e
    injection e with e1 e2
    subst e1 e2
    have h1 := hs4.rk.sub (lo := n) (v := q) (Nat.le_refl _) hlt
    rw [show Mt.sub (zs ++ f) n q = f by rw [← HL.out, ← HQ.out]; exact sub_app zs f] at h1
    exact h1
  have HSUB := Lib.hid hsub
  have p0 : (0 : Int) ≤ (n : Int) := by omega
  have p1 : (n : Int) ≤ (n : Int) + (q : Int) := by omega
  have p2 : (n : Int) ≤ ((n + q : Nat) : Int) := by omega
  have p3 : ¬ cg = n := by omega
  have p4 : n + q - n = q := by omega
  clear ho4 hs4 hsub
  go_wp2_with fail
  refine (sum24 _ q (cg - n) f w4 (by have := HSUB.out; rw [Nat.zero_add] at this; exact this) (by omega)).mono ?_
  rintro e w5 ⟨rfl, hb⟩
  obtain ⟨x, hx⟩ : ∃ x, crc f = x := ⟨_, rfl⟩
  have hx32 := crc_lt HFI.out
  rw [hx] at hx32 ⊢
  have HX := Lib.hid hx
  have HO5 := Lib.hid (HO4.out.below hb)
  have HB5 := Lib.hid (HB4.out.trans (hb.mono HB4.out.size))
  obtain ⟨y1, hy1⟩ : ∃ y, x / 16777216 % 256 = y := ⟨_, rfl⟩
  obtain ⟨y2, hy2⟩ : ∃ y, x / 65536 % 256 = y := ⟨_, rfl⟩
  obtain ⟨y3, hy3⟩ : ∃ y, x / 256 % 256 = y := ⟨_, rfl⟩
  obtain ⟨y4, hy4⟩ : ∃ y, x % 256 = y := ⟨_, rfl⟩
  have D1 : (x : Int) / 16777216 = (y1 : Int) := by omega
  have M1 : (y1 : Int) % 256 = (y1 : Int) := by omega
  have M2 : (x : Int) / 65536 % 256 = (y2 : Int) := by omega
  have M3 : (x : Int) / 256 % 256 = (y3 : Int) := by omega
  have M4 : (x : Int) % 256 = (y4 : Int) := by omega
  have HS4 : Hid (s4 (crc f) = [(y1 : Int), (y2 : Int), (y3 : Int), (y4 : Int)]) := Lib.hid (by unfold s4; rw [hx, hy1, hy2, hy3, hy4])
  have C4 : Hid ((zs ++ f).length + 4 ≤ maxLen) := Lib.hid (by rw [htot]; unfold maxLen; omega)
  have C5 : Hid (((zs ++ f).length + 4) * 1 ≤ 140737488355328) := Lib.hid (by rw [htot]; omega)
  have HSZ : Hid (w.heap.size ≤ (w5.alloc (.cells #[.int .u8 ((y1 : Nat) : Int), .int .u8 ((y2 : Nat) : Int), .int .u8 ((y3 : Nat) : Int), .int .u8 ((y4 : Nat) : Int)] 5)).heap.size) := Lib.hid (by have := HB5.out.size; simp; omega)
  have hown5 := HO5.out
  unfold Ob at hown5
  have HOW := Lib.hid hown5
  clear hb hx hy1 hy2 hy3 hy4 hown5 p0 p1 p2 p3 p4 HB4 HO4
  rw [htot] at HOW C4 C5
  go_wp2_with (first | (go_loud (at_builtin; refine wpList_append_own _ rfl _ _ 22 rfl w.heap.size 5 i0 (.int .u8 0) 1 1 Try.underlying22 hi0 hz0 hs0 HB0.out rfl (by omega) _ _ _ rfl (World.ownsRow.alloc HOW.out _) ⟨_, 0, none⟩ 4 4 [.int .u8 ((y1 : Nat) : Int), .int .u8 ((y2 : Nat) : Int), .int .u8 ((y3 : Nat) : Int), .int .u8 ((y4 : Nat) : Int)] rfl rfl (new_cells4 _ _ _ _ _ _ _ (by simp)) (four_bytes _ _ _ _) C4.out C5.out HSZ.out ?_)) | fail)
  intro v6 w6 hown hgrow _
  have HO6 : Hid (Ob w.heap.size w6 v6 (zs ++ fr k ps)) := Lib.hid (by
    have h1 := Ob.more (l := zs ++ f) (m := [(y1 : Int), (y2 : Int), (y3 : Int), (y4 : Int)]) hown (by rw [List.length_append, htot]; rfl)
    unfold fr
    rw [HFF.out, HS4.out, ← List.append_assoc]
    exact h1)
  have HB6 : Hid (Below w.heap.size w w6) := Lib.hid ((HB5.out.alloc HB5.out.size (.cells #[.int .u8 ((y1 : Nat) : Int), .int .u8 ((y2 : Nat) : Int), .int .u8 ((y3 : Nat) : Int), .int .u8 ((y4 : Nat) : Int)] 5)).grown hgrow HSZ.out (fun k hk => (World.ownsRow.lt HOW.out k hk).1))
  clear hown hgrow
  go_wp2_with fail
  go_ret
  exact ⟨_, rfl, HO6.out, HB6.out⟩
end Go.Proofs.Ytppgaddjjlcfcaa.Wk
