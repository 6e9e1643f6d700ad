/- The worked examples of the chapter hold. Condition: the table of powers reads as the program lays it. -/
import Derived.Test.YtcgcccieccicnaaDoorEc
import Derived.Test.YtcgcccieccicnaaDoorUb
import Derived.Test.YtcgcccieccicnaaDoorUr
import Derived.Test.YtcgcccieccicnaaDoorFd
import Derived.Test.YtcgcccieccicnaaDoorNm
import Derived.Test.YtcgcccieccicnaaDoorNu
import Derived.Test.YtcgcccieccicnaaDoorJn
set_option linter.unusedSimpArgs false
set_option linter.unusedVariables false
namespace Go.Proofs.YtcgcccieccicnaaDoor.Mt
open Go
theorem v1 : flL (⟨#[97, 32, 98]⟩ : ByteArray) = [(⟨#[97]⟩ : ByteArray), (⟨#[98]⟩ : ByteArray)] ∧ flE (⟨#[97, 32, 98]⟩ : ByteArray) = 0 := by
  obtain ⟨h1, h2⟩ := fl_ok (s := (⟨#[97, 32, 98]⟩ : ByteArray)) (by decide) (by decide) ⟨by unfold Okf; decide +kernel, by decide +kernel⟩
  exact ⟨h1.trans (by decide +kernel), h2⟩
theorem v2 : nbV (⟨#[45, 49, 50]⟩ : ByteArray) = -12 ∧ nbE (⟨#[45, 49, 50]⟩ : ByteArray) = 0 := by
  obtain ⟨h1, h2⟩ := nb_neg (s := (⟨#[45, 49, 50]⟩ : ByteArray)) ⟨by decide +kernel, by decide +kernel, fun j h1 h2 => (show ∀ j, j < 3 → 1 ≤ j → 48 ≤ bt (⟨#[45, 49, 50]⟩ : ByteArray) j ∧ bt (⟨#[45, 49, 50]⟩ : ByteArray) j ≤ 57 by decide +kernel) j h2 h1⟩ (by decide +kernel) (by decide +kernel)
  exact ⟨h1.trans (by decide +kernel), h2⟩
theorem v3 : lnL (⟨#[97, 10, 10, 98]⟩ : ByteArray) = [(⟨#[97]⟩ : ByteArray), (⟨#[]⟩ : ByteArray), (⟨#[98]⟩ : ByteArray)] ∧ lnE (⟨#[97, 10, 10, 98]⟩ : ByteArray) = 0 := by decide +kernel
theorem v4 : usS (⟨#[97, 37, 50, 48]⟩ : ByteArray) = (⟨#[97, 32]⟩ : ByteArray) ∧ usE (⟨#[97, 37, 50, 48]⟩ : ByteArray) = 0 := by
  have h : une ((⟨#[97, 37, 50, 48]⟩ : ByteArray)).data.toList = some [97, 32] := by
    have := une_esc [97, 32]
    have e : esc [97, 32] = ((⟨#[97, 37, 50, 48]⟩ : ByteArray)).data.toList := by decide +kernel
    rw [e] at this
    exact this
  exact us_yes (by decide) (by decide) h
theorem v5 : nbV (⟨#[45, 48]⟩ : ByteArray) = 0 ∧ nbE (⟨#[45, 48]⟩ : ByteArray) = 5 := nb_bad (fun h => h.2.1 (by decide +kernel))
theorem v6 : usS (⟨#[37, 52, 49]⟩ : ByteArray) = ⟨#[]⟩ ∧ usE (⟨#[37, 52, 49]⟩ : ByteArray) = 5 := by
  refine us_no (by decide) (by decide) ?_
  show une [37, 52, 49] = none
  rw [une_ev (by decide +kernel), if_neg (by decide +kernel)]
theorem v7 : nmB (⟨#[97, 45, 49]⟩ : ByteArray) = true := nmB_yes (by unfold Nmp Okn; decide +kernel)
theorem v8 : nmB (⟨#[49, 97]⟩ : ByteArray) = false := nmB_no (by unfold Nmp Okn; decide +kernel)
theorem v9 : esS (⟨#[97, 32, 98, 37]⟩ : ByteArray) = (⟨#[97, 37, 50, 48, 98, 37, 50, 53]⟩ : ByteArray) := by decide +kernel
theorem v10 : fmt (-120) = (⟨#[45, 49, 50, 48]⟩ : ByteArray) := by
  rw [fmt_neg (by decide), dec_dgl 2 _ (by decide) (by decide)]
  decide +kernel
theorem v11 : js [(⟨#[97]⟩ : ByteArray), (⟨#[98]⟩ : ByteArray)] 2 = (⟨#[97, 32, 98]⟩ : ByteArray) := by decide +kernel
end Go.Proofs.YtcgcccieccicnaaDoor.Mt
namespace Go.Proofs.YtcgcccieccicnaaDoor.Wk
open Go.RowKit
open Go.Proofs.YtcgcccieccicnaaDoor.Mt
/-- a new row of strings -/
theorem Rs.lit (w : World) (l : List ByteArray) (h : l.length ≤ 1000) (g : Nat) (hg : w.heap.size = g) : Rs (w.alloc (.cells (vst l).toArray 9)) (w.alloc (.cells (vst l).toArray 9)).heap.size (some ⟨g, 0, none⟩) l.length l := by
  subst hg
  refine ⟨rfl, by omega, fun _ => ⟨w.heap.size, 0, rfl, by simp, fun i hi => ?_⟩⟩
  rw [Nat.zero_add, (Bx.new w 9 (vst l).toArray).cell]
  simpa using vst_at l i hi
set_option maxHeartbeats 4000000 in
set_option maxRecDepth 100000 in
theorem awake13 (w : World) (ht : Tb w) : Calls Tryd.prog 13 #[] w fun e w' => e = .returned (.bool true) ∧ Below w.heap.size w w' := by
  have HT := Lib.hid ht
  have HB := Lib.hid (Below.refl w.heap.size w)
  clear ht
  go_enter Tryd.func13, Tryd.ntmps13
  go_wp2_with fail
  go_at_call 16
  refine (fields16 (⟨#[97, 32, 98]⟩ : ByteArray) w).mono ?_
  rintro e w1 ⟨A1, c1, rfl, hr, hb, hc⟩
  rw [v1.1] at hr
  rw [v1.1, v1.2]
  have HR1 := Lib.hid hr
  replace HT := Lib.hid (HT.out.next hb)
  replace HB := Lib.hid (upB HB.out hb)
  clear hb hr hc
  go_wp2_with fail
  go_at_call 19
  refine (number19 (⟨#[45, 49, 50]⟩ : ByteArray) _ (by decide)).mono ?_
  rintro e w2 ⟨rfl, hb⟩
  rw [v2.1, v2.2]
  replace HT := Lib.hid (HT.out.next hb)
  replace HB := Lib.hid (upB HB.out hb)
  replace HR1 := Lib.hid (HR1.out.up hb)
  clear hb
  go_wp2_with fail
  go_at_call 23
  refine (lines23 (⟨#[97, 10, 10, 98]⟩ : ByteArray) _).mono ?_
  rintro e w3 ⟨A3, c3, rfl, hr, hb, hc⟩
  rw [v3.1] at hr
  rw [v3.1, v3.2]
  replace HR1 := Lib.hid (HR1.out.up hb)
  have HR3 := Lib.hid hr
  replace HT := Lib.hid (HT.out.next hb)
  replace HB := Lib.hid (upB HB.out hb)
  clear hb hr hc
  go_wp2_with fail
  go_at_call 25
  refine (unescape25 (⟨#[97, 37, 50, 48]⟩ : ByteArray) _ (by decide)).mono ?_
  rintro e w4 ⟨rfl, hb⟩
  rw [v4.1, v4.2]
  replace HT := Lib.hid (HT.out.next hb)
  replace HB := Lib.hid (upB HB.out hb)
  replace HR1 := Lib.hid (HR1.out.up hb)
  replace HR3 := Lib.hid (HR3.out.up hb)
  clear hb
  go_wp2_with fail
  go_at_call 19
  refine (number19 (⟨#[45, 48]⟩ : ByteArray) _ (by decide)).mono ?_
  rintro e w5 ⟨rfl, hb⟩
  rw [v5.1, v5.2]
  replace HT := Lib.hid (HT.out.next hb)
  replace HB := Lib.hid (upB HB.out hb)
  replace HR1 := Lib.hid (HR1.out.up hb)
  replace HR3 := Lib.hid (HR3.out.up hb)
  clear hb
  go_wp2_with fail
  go_at_call 25
  refine (unescape25 (⟨#[37, 52, 49]⟩ : ByteArray) _ (by decide)).mono ?_
  rintro e w6 ⟨rfl, hb⟩
  rw [v6.1, v6.2]
  replace HT := Lib.hid (HT.out.next hb)
  replace HB := Lib.hid (upB HB.out hb)
  replace HR1 := Lib.hid (HR1.out.up hb)
  replace HR3 := Lib.hid (HR3.out.up hb)
  clear hb
  go_wp2_with fail
  have hb : Below w6.heap.size w6 (w6.alloc (.cells #[.string (⟨#[97]⟩ : ByteArray), .string (⟨#[98]⟩ : ByteArray)] 9)) := b1 _ _
  have HL1 : Hid (Rs (w6.alloc (.cells #[.string (⟨#[97]⟩ : ByteArray), .string (⟨#[98]⟩ : ByteArray)] 9)) (w6.alloc (.cells #[.string (⟨#[97]⟩ : ByteArray), .string (⟨#[98]⟩ : ByteArray)] 9)).heap.size (some ⟨w6.heap.size, 0, none⟩) 2 [(⟨#[97]⟩ : ByteArray), (⟨#[98]⟩ : ByteArray)]) := Lib.hid (Rs.lit w6 [(⟨#[97]⟩ : ByteArray), (⟨#[98]⟩ : ByteArray)] (by decide) _ rfl)
  replace HT := Lib.hid (HT.out.next hb)
  replace HB := Lib.hid (upB HB.out hb)
  replace HR1 := Lib.hid (HR1.out.up hb)
  replace HR3 := Lib.hid (HR3.out.up hb)
  clear hb
  go_at_call 18
  refine (same18 _ _ 2 c1 2 [(⟨#[97]⟩ : ByteArray), (⟨#[98]⟩ : ByteArray)] _ HR1.out HL1.out).mono ?_
  rintro e w7 ⟨rfl, hb⟩
  replace HT := Lib.hid (HT.out.next hb)
  replace HB := Lib.hid (upB HB.out hb)
  replace HR3 := Lib.hid (HR3.out.up hb)
  clear hb
  clear HL1 HR1
  go_wp2_with fail
  have hb : Below w7.heap.size w7 (w7.alloc (.cells #[.string (⟨#[97]⟩ : ByteArray), .string (⟨#[]⟩ : ByteArray), .string (⟨#[98]⟩ : ByteArray)] 9)) := b1 _ _
  have HL2 : Hid (Rs (w7.alloc (.cells #[.string (⟨#[97]⟩ : ByteArray), .string (⟨#[]⟩ : ByteArray), .string (⟨#[98]⟩ : ByteArray)] 9)) (w7.alloc (.cells #[.string (⟨#[97]⟩ : ByteArray), .string (⟨#[]⟩ : ByteArray), .string (⟨#[98]⟩ : ByteArray)] 9)).heap.size (some ⟨w7.heap.size, 0, none⟩) 3 [(⟨#[97]⟩ : ByteArray), (⟨#[]⟩ : ByteArray), (⟨#[98]⟩ : ByteArray)]) := Lib.hid (Rs.lit w7 [(⟨#[97]⟩ : ByteArray), (⟨#[]⟩ : ByteArray), (⟨#[98]⟩ : ByteArray)] (by decide) _ rfl)
  replace HT := Lib.hid (HT.out.next hb)
  replace HB := Lib.hid (upB HB.out hb)
  replace HR3 := Lib.hid (HR3.out.up hb)
  clear hb
  go_at_call 18
  refine (same18 _ _ 3 c3 3 [(⟨#[97]⟩ : ByteArray), (⟨#[]⟩ : ByteArray), (⟨#[98]⟩ : ByteArray)] _ HR3.out HL2.out).mono ?_
  rintro e w8 ⟨rfl, hb⟩
  replace HT := Lib.hid (HT.out.next hb)
  replace HB := Lib.hid (upB HB.out hb)
  clear hb
  clear HL2 HR3
  go_wp2_with fail
  go_at_call 14
  refine (name14 (⟨#[97, 45, 49]⟩ : ByteArray) _).mono ?_
  rintro e w9 ⟨rfl, hb⟩
  rw [v7]
  replace HT := Lib.hid (HT.out.next hb)
  replace HB := Lib.hid (upB HB.out hb)
  clear hb
  go_wp2_with fail
  go_at_call 14
  refine (name14 (⟨#[49, 97]⟩ : ByteArray) _).mono ?_
  rintro e w10 ⟨rfl, hb⟩
  rw [v8]
  replace HT := Lib.hid (HT.out.next hb)
  replace HB := Lib.hid (upB HB.out hb)
  clear hb
  go_wp2_with fail
  go_at_call 27
  refine (escape27 (⟨#[97, 32, 98, 37]⟩ : ByteArray) _ (by decide)).mono ?_
  rintro e w11 ⟨rfl, hb⟩
  rw [v9]
  replace HT := Lib.hid (HT.out.next hb)
  replace HB := Lib.hid (upB HB.out hb)
  clear hb
  go_wp2_with fail
  go_at_call 21
  refine (format21 (-120) _ (by unfold In64; omega) HT.out).mono ?_
  rintro e w12 ⟨rfl, hb⟩
  rw [v10]
  replace HT := Lib.hid (HT.out.next hb)
  replace HB := Lib.hid (upB HB.out hb)
  clear hb
  go_wp2_with fail
  have hb : Below w12.heap.size w12 (w12.alloc (.cells #[.string (⟨#[97]⟩ : ByteArray), .string (⟨#[98]⟩ : ByteArray)] 9)) := b1 _ _
  have HL3 : Hid (Rs (w12.alloc (.cells #[.string (⟨#[97]⟩ : ByteArray), .string (⟨#[98]⟩ : ByteArray)] 9)) (w12.alloc (.cells #[.string (⟨#[97]⟩ : ByteArray), .string (⟨#[98]⟩ : ByteArray)] 9)).heap.size (some ⟨w12.heap.size, 0, none⟩) 2 [(⟨#[97]⟩ : ByteArray), (⟨#[98]⟩ : ByteArray)]) := Lib.hid (Rs.lit w12 [(⟨#[97]⟩ : ByteArray), (⟨#[98]⟩ : ByteArray)] (by decide) _ rfl)
  replace HT := Lib.hid (HT.out.next hb)
  replace HB := Lib.hid (upB HB.out hb)
  clear hb
  go_at_call 29
  refine (join29 _ 2 2 [(⟨#[97]⟩ : ByteArray), (⟨#[98]⟩ : ByteArray)] _ HL3.out (by decide) (by rw [v11]; decide)).mono ?_
  rintro e w13 ⟨rfl, hb⟩
  rw [v11]
  replace HT := Lib.hid (HT.out.next hb)
  replace HB := Lib.hid (upB HB.out hb)
  clear hb
  go_wp2_with fail
  go_ret
  exact ⟨rfl, HB.out⟩
end Go.Proofs.YtcgcccieccicnaaDoor.Wk
