/- The law of escapes and back, walked. Conditions: the strings are any; the table of powers reads as the program lays it. -/
import Derived.Test.YtcgcccieccicnaaDoorBm
set_option linter.unusedSimpArgs false
set_option linter.unusedVariables false
namespace Go.Proofs.YtcgcccieccicnaaDoor.Wk
open Go.RowKit
open Go.Proofs.YtcgcccieccicnaaDoor.Mt
set_option maxHeartbeats 4000000 in
set_option maxRecDepth 100000 in
theorem escapeBack_law (s : ByteArray) (w : World) (ht : Tb w) : Calls Tryd.prog 10 #[.string s] w fun e w' => e = .returned (.bool true) ∧ Below w.heap.size w w' := by
  have HT := Lib.hid ht
  have HB := Lib.hid (Below.refl w.heap.size w)
  clear ht
  by_cases hbig : 2000 < s.size
  · have hbI : (2000 : Int) < ((s.size : Nat) : Int) := by omega
    go_enter Tryd.func10, Tryd.ntmps10
    go_wp2_with fail
    go_at_call 13
    refine (awake13 _ HT.out).mono ?_
    rintro e w99 ⟨rfl, hb⟩
    replace HT := Lib.hid (HT.out.next hb)
    replace HB := Lib.hid (upB HB.out hb)
    clear hb
    go_wp2_with fail
    go_ret
    exact ⟨rfl, HB.out⟩
  · have hbI : decide ((2000 : Int) < ((s.size : Nat) : Int)) = false := decide_eq_false (by omega)
    obtain ⟨t, ht⟩ : ∃ t, esS s = t := ⟨_, rfl⟩
    have HE := Lib.hid ht
    have HU : Hid (usS t = s ∧ usE t = 0) := Lib.hid (by rw [← ht]; exact un_es s)
    have HTS : Hid (t.size ≤ 100000) := Lib.hid (by have := es_size s; rw [ht] at this; omega)
    have HTF : Hid (¬ 512 < t.size → flL t = [t] ∧ flE t = 0) := Lib.hid (fun h => by rw [← ht] at h ⊢; exact fl_one h (es_pos s) (es_byte s))
    have HLE : Hid (s.size ≤ 100000) := Lib.hid (by omega)
    obtain ⟨v, er, HV⟩ : ∃ v er, Hid (usS s = v ∧ usE s = er) := ⟨_, _, Lib.hid ⟨rfl, rfl⟩⟩
    have HEV : Hid (er = 0 → esS v = s ∧ v.size ≤ 100000) := Lib.hid (fun h => by
      have := es_un (s := s) (by rw [HV.out.2]; exact h)
      rw [HV.out.1] at this
      exact ⟨this.1, by have := this.2; omega⟩)
    have es := eq_self_ s
    clear ht
    go_enter Tryd.func10, Tryd.ntmps10
    go_wp2_with fail
    clear hbI
    go_at_call 27
    refine (escape27 s _ HLE.out).mono ?_
    rintro e w1 ⟨rfl, hb⟩
    rw [HE.out]
    replace HT := Lib.hid (HT.out.next hb)
    replace HB := Lib.hid (upB HB.out hb)
    clear hb
    go_wp2_with fail
    go_at_call 25
    refine (unescape25 t _ HTS.out).mono ?_
    rintro e w2 ⟨rfl, hb⟩
    rw [HU.out.1, HU.out.2]
    replace HT := Lib.hid (HT.out.next hb)
    replace HB := Lib.hid (upB HB.out hb)
    clear hb
    by_cases h5 : 512 < t.size
    · have h5I : ¬ ((t.size : Nat) : Int) ≤ 512 := by omega
      have h5J : decide (((t.size : Nat) : Int) ≤ 512) = false := decide_eq_false (by omega)
      go_wp2_with fail
      clear h5I h5J
      go_at_call 25
      refine (unescape25 s _ HLE.out).mono ?_
      rintro e w7 ⟨rfl, hb⟩
      rw [HV.out.1, HV.out.2]
      replace HT := Lib.hid (HT.out.next hb)
      replace HB := Lib.hid (upB HB.out hb)
      clear hb
      by_cases he : er = 0
      · have e7 : (er != 0) = false := by simp [he]
        have HF2 := Lib.hid (HEV.out he)
        clear he
        go_wp2_with fail
        go_at_call 27
        refine (escape27 v _ HF2.out.2).mono ?_
        rintro e w8 ⟨rfl, hb⟩
        rw [HF2.out.1]
        replace HT := Lib.hid (HT.out.next hb)
        replace HB := Lib.hid (upB HB.out hb)
        clear hb
        go_wp2_with fail
        go_at_call 13
        refine (awake13 _ HT.out).mono ?_
        rintro e w99 ⟨rfl, hb⟩
        replace HT := Lib.hid (HT.out.next hb)
        replace HB := Lib.hid (upB HB.out hb)
        clear hb
        go_wp2_with fail
        go_ret
        exact ⟨rfl, HB.out⟩
      · have e7 : (er != 0) = true := by simp [he]
        clear he
        go_wp2_with fail
        go_at_call 13
        refine (awake13 _ HT.out).mono ?_
        rintro e w99 ⟨rfl, hb⟩
        replace HT := Lib.hid (HT.out.next hb)
        replace HB := Lib.hid (upB HB.out hb)
        clear hb
        go_wp2_with fail
        go_ret
        exact ⟨rfl, HB.out⟩
    · have h5I : ((t.size : Nat) : Int) ≤ 512 := by omega
      have HF := Lib.hid (HTF.out h5)
      go_wp2_with fail
      clear h5I
      go_at_call 16
      refine (fields16 t _).mono ?_
      rintro e w3 ⟨A1, c1, rfl, hr, hb, hc⟩
      rw [HF.out.1] at hr
      rw [HF.out.1, HF.out.2]
      have HR := Lib.hid hr
      replace HT := Lib.hid (HT.out.next hb)
      replace HB := Lib.hid (upB HB.out hb)
      clear hb hr hc
      go_wp2_with fail
      have hb : Below w3.heap.size w3 (w3.alloc (.cells #[.string t] 9)) := b1 _ _
      have HL : Hid (Rs (w3.alloc (.cells #[.string t] 9)) (w3.alloc (.cells #[.string t] 9)).heap.size (some ⟨w3.heap.size, 0, none⟩) 1 [t]) := Lib.hid (Rs.lit w3 [t] (by simp) _ rfl)
      replace HT := Lib.hid (HT.out.next hb)
      replace HB := Lib.hid (upB HB.out hb)
      replace HR := Lib.hid (HR.out.up hb)
      clear hb
      go_at_call 18
      refine (same18 _ _ 1 c1 1 [t] _ HR.out HL.out).mono ?_
      rintro e w4 ⟨rfl, hb⟩
      replace HT := Lib.hid (HT.out.next hb)
      replace HB := Lib.hid (upB HB.out hb)
      clear hb
      go_wp2_with fail
      go_at_call 25
      refine (unescape25 s _ HLE.out).mono ?_
      rintro e w7 ⟨rfl, hb⟩
      rw [HV.out.1, HV.out.2]
      replace HT := Lib.hid (HT.out.next hb)
      replace HB := Lib.hid (upB HB.out hb)
      clear hb
      by_cases he : er = 0
      · have e7 : (er != 0) = false := by simp [he]
        have HF2 := Lib.hid (HEV.out he)
        clear he
        go_wp2_with fail
        go_at_call 27
        refine (escape27 v _ HF2.out.2).mono ?_
        rintro e w8 ⟨rfl, hb⟩
        rw [HF2.out.1]
        replace HT := Lib.hid (HT.out.next hb)
        replace HB := Lib.hid (upB HB.out hb)
        clear hb
        go_wp2_with fail
        go_at_call 13
        refine (awake13 _ HT.out).mono ?_
        rintro e w99 ⟨rfl, hb⟩
        replace HT := Lib.hid (HT.out.next hb)
        replace HB := Lib.hid (upB HB.out hb)
        clear hb
        go_wp2_with fail
        go_ret
        exact ⟨rfl, HB.out⟩
      · have e7 : (er != 0) = true := by simp [he]
        clear he
        go_wp2_with fail
        go_at_call 13
        refine (awake13 _ HT.out).mono ?_
        rintro e w99 ⟨rfl, hb⟩
        replace HT := Lib.hid (HT.out.next hb)
        replace HB := Lib.hid (upB HB.out hb)
        clear hb
        go_wp2_with fail
        go_ret
        exact ⟨rfl, HB.out⟩
end Go.Proofs.YtcgcccieccicnaaDoor.Wk
