/- The law of the memory, walked. Conditions: the slices read as intervals. -/
import Derived.Test.YtmdkhnndfhcfdaaWi
import Derived.Test.YtmdkhnndfhcfdaaLawB
set_option linter.unusedSimpArgs false
set_option linter.unusedVariables false
namespace Go.Proofs.Ytmdkhnndfhcfdaa.Wk
open Go.RowKit
open Go.Proofs.Ytmdkhnndfhcfdaa.Mt
theorem gr_made {w wr : World} (hb : Below w.heap.size w wr) : Gr w (wr.alloc (.cells #[] 25)) (.slice (some ⟨wr.heap.size, 0, none⟩) 0 0) [] :=
  ⟨hb.alloc hb.size _, World.ownsRow_made _ #[] 0 hb.size (by unfold maxLen; omega) rfl⟩
set_option maxHeartbeats 4000000 in
set_option maxRecDepth 100000 in
theorem own_law (A B : Option Addr) (n m c c' : Nat) (a b : List Iv) (w : World) (h : Rp w w.heap.size A n a) (k : Rp w w.heap.size B m b) (hnc : A = none → n = 0 ∧ c = 0) (hmc : B = none → m = 0 ∧ c' = 0) : Calls Try.prog 9 #[.slice A n c, .slice B m c'] w fun e w' => e = .returned (.bool true) ∧ Below w.heap.size w w' := by
  have HR := Lib.hid h
  have HK := Lib.hid k
  have HNCX := Lib.hid hnc
  have HNCY := Lib.hid hmc
  have HLX := Lib.hid h.1
  have HLY := Lib.hid k.1
  have hn := h.2.1
  have hm := k.2.1
  have HRW := Lib.hid h
  have HKW := Lib.hid k
  clear h k hnc hmc
  obtain ⟨i0, hi0, hz0, hs0, hb0'⟩ := info_parts iv_info
  by_cases hb60 : 60 < n
  · have hbI : (60 : Int) < (n : Int) := by omega
    go_enter Try.func9, Try.ntmps9
    go_wp2_with fail
    go_ret
    exact ⟨rfl, Below.refl _ _⟩
  · have hbI : decide ((60 : Int) < (n : Int)) = false := decide_eq_false (by omega)
    by_cases hm60 : 60 < m
    · have hmI : (60 : Int) < (m : Int) := by omega
      go_enter Try.func9, Try.ntmps9
      go_wp2_with fail
      go_ret
      exact ⟨rfl, Below.refl _ _⟩
    · have hmI : decide ((60 : Int) < (m : Int)) = false := decide_eq_false (by omega)
      have HFX : Hid ((fl a).length = n * 2) := Lib.hid (by rw [fl_len, HLX.out])
      have HFY : Hid ((fl b).length = m * 2) := Lib.hid (by rw [fl_len, HLY.out])
      have CAX : Hid (([] : List Iv).length + n ≤ maxLen) := Lib.hid (by unfold maxLen; simp; omega)
      have CBX : Hid ((([] : List Iv).length + n) * 16 ≤ 140737488355328) := Lib.hid (by simp; omega)
      have CAY : Hid (([] : List Iv).length + m ≤ maxLen) := Lib.hid (by unfold maxLen; simp; omega)
      have CBY : Hid ((([] : List Iv).length + m) * 16 ≤ 140737488355328) := Lib.hid (by simp; omega)
      have CCX : Hid (a.length + 1 ≤ maxLen) := Lib.hid (by rw [HLX.out]; unfold maxLen; omega)
      have CDX : Hid ((a.length + 1) * 16 ≤ 140737488355328) := Lib.hid (by rw [HLX.out]; omega)
      have CCY : Hid (b.length + 1 ≤ maxLen) := Lib.hid (by rw [HLY.out]; unfold maxLen; omega)
      have CDY : Hid ((b.length + 1) * 16 ≤ 140737488355328) := Lib.hid (by rw [HLY.out]; omega)
      have HG0 := Lib.hid (gr_made (Below.refl w.heap.size w))
      replace HR := Lib.hid (HR.out.up (b1 w (.cells #[] 25)))
      go_enter Try.func9, Try.ntmps9
      have HOW := Lib.hid HG0.out.2
      have hsz := HG0.out.1.size
      go_wp2_with (first | (go_loud (at_builtin; refine Rot.wpList_append_any _ _ 22 rfl (by rfl) w.heap.size 25 i0 (.agg #[.int .i64 0, .int .i64 0]) 2 16 Try.underlying22 hi0 hz0 hs0 hb0' rfl (by omega) _ _ (fl []) rfl HOW.out A n c (fl a) rfl HFX.out HNCX.out HR.out.src (fl_one a) CAX.out CBX.out hsz ?_)) | fail)
      intro v1X waX hown hgrow
      have HG1 : Hid (Gr w waX v1X a) := Lib.hid ⟨HG0.out.1.grown hgrow HG0.out.1.size (fun k hk => (HOW.out.lt k hk).1), by rw [HLX.out]; exact hown⟩
      clear hown hgrow HOW HG0 hsz
      go_wp2_with fail
      refine (one28 (-7) (-7) _).mono ?_
      rintro e wbX ⟨v2X, rfl, hg⟩
      replace HG1 := Lib.hid (HG1.out.below hg.1)
      obtain ⟨PX, cpX, rfl, hr, _⟩ := hg.rp 1 rfl (by omega) (i1 (by unfold In64; omega) (by unfold In64; omega))
      obtain ⟨bz, oz, rfl, _⟩ := hr.get (i := 0) (by omega)
      have HCC := Lib.hid hr.news
      have HOW := Lib.hid HG1.out.2
      have hsz := HG1.out.1.size
      clear hg hr
      go_wp2_with (first | (go_loud (at_builtin; refine wpList_append_own _ rfl _ _ 22 rfl w.heap.size 25 i0 (.agg #[.int .i64 0, .int .i64 0]) 2 16 Try.underlying22 hi0 hz0 hs0 hb0' rfl (by omega) _ _ _ rfl HOW.out ⟨_, _, none⟩ 1 _ (fl [((-7), (-7))]) rfl rfl HCC.out (fl_one _) CCX.out CDX.out hsz ?_)) | fail)
      intro v3X wcX hown hgrow _
      have HG2 : Hid (Gr w wcX v3X (a ++ [((-7), (-7))])) := Lib.hid ⟨HG1.out.1.grown hgrow HG1.out.1.size (fun k hk => (HOW.out.lt k hk).1), by rw [List.length_append, fl_app]; exact hown⟩
      clear hown hgrow HOW HG1 HCC hsz
      have HGX := HG2
      clear HG2
      obtain ⟨gx, cx, rfl, hcx, hgx, hqx⟩ := Qb.own HGX.out.2 (by simp)
      have HQX := Lib.hid hqx
      have HLXX : Hid ((a ++ [((-7 : Int), (-7 : Int))]).length = n + 1) := Lib.hid (by rw [List.length_append, HLX.out]; rfl)
      rw [HLXX.out] at hcx ⊢
      clear hqx
      replace HK := Lib.hid (HK.out.up HGX.out.1)
      have HG0 := Lib.hid (gr_made (Below.refl wcX.heap.size wcX))
      replace HK := Lib.hid (HK.out.up (b1 wcX (.cells #[] 25)))
      have HOW := Lib.hid HG0.out.2
      have hsz := HG0.out.1.size
      go_wp2_with (first | (go_loud (at_builtin; refine Rot.wpList_append_any _ _ 22 rfl (by rfl) wcX.heap.size 25 i0 (.agg #[.int .i64 0, .int .i64 0]) 2 16 Try.underlying22 hi0 hz0 hs0 hb0' rfl (by omega) _ _ (fl []) rfl HOW.out B m c' (fl b) rfl HFY.out HNCY.out HK.out.src (fl_one b) CAY.out CBY.out hsz ?_)) | fail)
      intro v1Y waY hown hgrow
      have HG1 : Hid (Gr wcX waY v1Y b) := Lib.hid ⟨HG0.out.1.grown hgrow HG0.out.1.size (fun k hk => (HOW.out.lt k hk).1), by rw [HLY.out]; exact hown⟩
      clear hown hgrow HOW HG0 hsz
      go_wp2_with fail
      refine (one28 (-8) (-8) _).mono ?_
      rintro e wbY ⟨v2Y, rfl, hg⟩
      replace HG1 := Lib.hid (HG1.out.below hg.1)
      obtain ⟨PY, cpY, rfl, hr, _⟩ := hg.rp 1 rfl (by omega) (i1 (by unfold In64; omega) (by unfold In64; omega))
      obtain ⟨bz, oz, rfl, _⟩ := hr.get (i := 0) (by omega)
      have HCC := Lib.hid hr.news
      have HOW := Lib.hid HG1.out.2
      have hsz := HG1.out.1.size
      clear hg hr
      go_wp2_with (first | (go_loud (at_builtin; refine wpList_append_own _ rfl _ _ 22 rfl wcX.heap.size 25 i0 (.agg #[.int .i64 0, .int .i64 0]) 2 16 Try.underlying22 hi0 hz0 hs0 hb0' rfl (by omega) _ _ _ rfl HOW.out ⟨_, _, none⟩ 1 _ (fl [((-8), (-8))]) rfl rfl HCC.out (fl_one _) CCY.out CDY.out hsz ?_)) | fail)
      intro v3Y wcY hown hgrow _
      have HG2 : Hid (Gr wcX wcY v3Y (b ++ [((-8), (-8))])) := Lib.hid ⟨HG1.out.1.grown hgrow HG1.out.1.size (fun k hk => (HOW.out.lt k hk).1), by rw [List.length_append, fl_app]; exact hown⟩
      clear hown hgrow HOW HG1 HCC hsz
      have HGY := HG2
      clear HG2
      obtain ⟨gy, cy, rfl, hcy, hgy, hqy⟩ := Qb.own HGY.out.2 (by simp)
      have HQY := Lib.hid hqy
      have HLYY : Hid ((b ++ [((-8 : Int), (-8 : Int))]).length = m + 1) := Lib.hid (by rw [List.length_append, HLY.out]; rfl)
      rw [HLYY.out] at hcy ⊢
      clear hqy
      replace HQX := Lib.hid (HQX.out.next HGY.out.1)
      have HB6 := Lib.hid (upB HGX.out.1 HGY.out.1)
      replace HR := Lib.hid (HRW.out.up HB6.out)
      replace HK := Lib.hid (HKW.out.up HB6.out)
      clear HGX HGY
      have hnc1 : (n : Int) ≤ (cx : Int) := by omega
      have hmc1 : (m : Int) ≤ (cy : Int) := by omega
      have hn0 : (0 : Int) ≤ (n : Int) := by omega
      have hm0 : (0 : Int) ≤ (m : Int) := by omega
      go_wp2_with fail
      go_quiet (fail)
      have hb := below_drewN (Below.refl wcY.heap.size wcY) nq
      replace HB6 := Lib.hid (upB HB6.out hb)
      replace HR := Lib.hid (HR.out.up hb)
      replace HK := Lib.hid (HK.out.up hb)
      replace HQX := Lib.hid (HQX.out.next hb)
      replace HQY := Lib.hid (HQY.out.next hb)
      clear hb
      have HPA := Lib.hid (HQX.out.rpI HLX.out (by omega) HRW.out.2.2.2)
      have HPB := Lib.hid (HQY.out.rpI HLY.out (by omega) HKW.out.2.2.2)
      go_wp2_with fail
      refine (normal13 (some ⟨gx, 0, none⟩) n cx a _ HPA.out (by omega)).mono ?_
      rintro e w21 ⟨A21, c21, R21, rfl, h1, h2, h3, h4, h5, hb, h7⟩
      have HWP := Lib.hid (NfR.wipe h2 h3)
      have hlq21 := h7
      have HS := Lib.hid hb.size
      have HBZ := Lib.hid hb
      clear h1 h2 h3 h4 h5 hb h7
      go_wp2_with fail
      refine (wipe29 A21 R21.length c21 _ _ (by omega) HS.out HWP.out).mono ?_
      rintro e w21z ⟨rfl, hb2⟩
      have hb := HBZ.out.trans (hb2.mono (Nat.le_refl _))
      replace HB6 := Lib.hid (upB HB6.out hb)
      replace HPA := Lib.hid (HPA.out.up hb)
      replace HPB := Lib.hid (HPB.out.up hb)
      replace HQX := Lib.hid (HQX.out.next hb)
      replace HQY := Lib.hid (HQY.out.next hb)
      replace HR := Lib.hid (HR.out.up hb)
      replace HK := Lib.hid (HK.out.up hb)
      clear hb hb2 HWP HS HBZ hlq21
      go_wp2_with fail
      refine (union16 (some ⟨gx, 0, none⟩) (some ⟨gy, 0, none⟩) n m cx cy a b _ HPA.out HPB.out (by omega) (by omega)).mono ?_
      rintro e w22 ⟨A22, c22, R22, rfl, h1, h2, h3, h4, h5, hb, h7⟩
      have HWP := Lib.hid (NfR.wipe h2 h3)
      have hlq22 := h7
      have HS := Lib.hid hb.size
      have HBZ := Lib.hid hb
      clear h1 h2 h3 h4 h5 hb h7
      go_wp2_with fail
      refine (wipe29 A22 R22.length c22 _ _ (by omega) HS.out HWP.out).mono ?_
      rintro e w22z ⟨rfl, hb2⟩
      have hb := HBZ.out.trans (hb2.mono (Nat.le_refl _))
      replace HB6 := Lib.hid (upB HB6.out hb)
      replace HPA := Lib.hid (HPA.out.up hb)
      replace HPB := Lib.hid (HPB.out.up hb)
      replace HQX := Lib.hid (HQX.out.next hb)
      replace HQY := Lib.hid (HQY.out.next hb)
      replace HR := Lib.hid (HR.out.up hb)
      replace HK := Lib.hid (HK.out.up hb)
      clear hb hb2 HWP HS HBZ hlq22
      go_wp2_with fail
      refine (meet18 (some ⟨gx, 0, none⟩) (some ⟨gy, 0, none⟩) n m cx cy a b _ HPA.out HPB.out (by omega) (by omega)).mono ?_
      rintro e w23 ⟨A23, c23, R23, rfl, h1, h2, h3, h4, h5, hb, h7⟩
      have HWP := Lib.hid (NfR.wipe h2 h3)
      have hlq23 := h7
      have HS := Lib.hid hb.size
      have HBZ := Lib.hid hb
      clear h1 h2 h3 h4 h5 hb h7
      go_wp2_with fail
      refine (wipe29 A23 R23.length c23 _ _ (by omega) HS.out HWP.out).mono ?_
      rintro e w23z ⟨rfl, hb2⟩
      have hb := HBZ.out.trans (hb2.mono (Nat.le_refl _))
      replace HB6 := Lib.hid (upB HB6.out hb)
      replace HPA := Lib.hid (HPA.out.up hb)
      replace HPB := Lib.hid (HPB.out.up hb)
      replace HQX := Lib.hid (HQX.out.next hb)
      replace HQY := Lib.hid (HQY.out.next hb)
      replace HR := Lib.hid (HR.out.up hb)
      replace HK := Lib.hid (HK.out.up hb)
      clear hb hb2 HWP HS HBZ hlq23
      go_wp2_with fail
      refine (minus20 (some ⟨gx, 0, none⟩) (some ⟨gy, 0, none⟩) n m cx cy a b _ HPA.out HPB.out (by omega) (by omega)).mono ?_
      rintro e w24 ⟨A24, c24, R24, rfl, h1, h2, h3, h4, h5, hb, h7⟩
      have HWP := Lib.hid (NfR.wipe h2 h3)
      have hlq24 := h7
      have HS := Lib.hid hb.size
      have HBZ := Lib.hid hb
      clear h1 h2 h3 h4 h5 hb h7
      go_wp2_with fail
      refine (wipe29 A24 R24.length c24 _ _ (by omega) HS.out HWP.out).mono ?_
      rintro e w24z ⟨rfl, hb2⟩
      have hb := HBZ.out.trans (hb2.mono (Nat.le_refl _))
      replace HB6 := Lib.hid (upB HB6.out hb)
      replace HPA := Lib.hid (HPA.out.up hb)
      replace HPB := Lib.hid (HPB.out.up hb)
      replace HQX := Lib.hid (HQX.out.next hb)
      replace HQY := Lib.hid (HQY.out.next hb)
      replace HR := Lib.hid (HR.out.up hb)
      replace HK := Lib.hid (HK.out.up hb)
      clear hb hb2 HWP HS HBZ hlq24
      go_wp2_with fail
      refine (same12 (some ⟨gx, 0, none⟩) A n cx c a _ HPA.out HR.out).mono ?_
      rintro e w25 ⟨rfl, hb⟩
      replace HB6 := Lib.hid (upB HB6.out hb)
      replace HPA := Lib.hid (HPA.out.up hb)
      replace HPB := Lib.hid (HPB.out.up hb)
      replace HQX := Lib.hid (HQX.out.next hb)
      replace HQY := Lib.hid (HQY.out.next hb)
      replace HR := Lib.hid (HR.out.up hb)
      replace HK := Lib.hid (HK.out.up hb)
      clear hb
      go_wp2_with fail
      refine (same12 (some ⟨gy, 0, none⟩) B m cy c' b _ HPB.out HK.out).mono ?_
      rintro e w26 ⟨rfl, hb⟩
      replace HB6 := Lib.hid (upB HB6.out hb)
      replace HPA := Lib.hid (HPA.out.up hb)
      replace HPB := Lib.hid (HPB.out.up hb)
      replace HQX := Lib.hid (HQX.out.next hb)
      replace HQY := Lib.hid (HQY.out.next hb)
      replace HR := Lib.hid (HR.out.up hb)
      replace HK := Lib.hid (HK.out.up hb)
      clear hb
      obtain ⟨x0, _⟩ := HQX.out.cell (i := n) (by rw [HLXX.out]; omega)
      obtain ⟨y0, _⟩ := HQY.out.cell (i := m) (by rw [HLYY.out]; omega)
      have HVX : Hid (vat (a ++ [((-7 : Int), (-7 : Int))]) n = (-7, -7)) := Lib.hid (by rw [← HLX.out]; exact vat_last _ _)
      have HVY : Hid (vat (b ++ [((-8 : Int), (-8 : Int))]) m = (-8, -8)) := Lib.hid (by rw [← HLY.out]; exact vat_last _ _)
      rw [HVX.out] at x0
      rw [HVY.out] at y0
      simp only at x0 y0
      have lx := HQX.out.lt
      have ly := HQY.out.lt
      have hnx : (n : Int) < (n : Int) + 1 := by omega
      have hmx : (m : Int) < (m : Int) + 1 := by omega
      go_wp2_with fail
      refine (alive15 _).mono ?_
      rintro e w99 ⟨rfl, hb⟩
      replace HB6 := Lib.hid (upB HB6.out hb)
      clear hb
      go_wp2_with fail
      go_ret
      exact ⟨rfl, HB6.out⟩
end Go.Proofs.Ytmdkhnndfhcfdaa.Wk
