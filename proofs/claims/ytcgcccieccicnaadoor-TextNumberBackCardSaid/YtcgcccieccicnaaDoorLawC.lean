/- The law of numbers and back, walked. Conditions: the strings are any; the table of powers reads as the program lays it. -/
import Derived.Test.YtcgcccieccicnaaDoorBm
set_option linter.unusedSimpArgs false
set_option linter.unusedVariables false
namespace Go.Proofs.YtcgcccieccicnaaDoor.Wk
open Go.RowKit
open Go.Proofs.YtcgcccieccicnaaDoor.Mt
set_option maxHeartbeats 4000000 in
set_option maxRecDepth 100000 in
theorem numberBack_law (n : Int) (s : ByteArray) (w : World) (ht : Tb w) (hn : In64 n) : Calls Tryd.prog 9 #[.int .i64 n, .string s] w fun e w' => e = .returned (.bool true) ∧ Below w.heap.size w w' := by
  have HT := Lib.hid ht
  have HB := Lib.hid (Below.refl w.heap.size w)
  clear ht
  by_cases hbig : 2000 < s.size
  · have hbI : (2000 : Int) < ((s.size : Nat) : Int) := by omega
    go_enter Tryd.func9, Tryd.ntmps9
    go_wp2_with fail
    go_at_call 13
    refine (awake13 _ HT.out).mono ?_
    rintro e w99 ⟨rfl, hb⟩
    replace HT := Lib.hid (HT.out.next hb)
    replace HB := Lib.hid (upB HB.out hb)
    clear hb
    go_wp2_with fail
    go_ret
    exact ⟨rfl, HB.out⟩
  · have hbI : decide ((2000 : Int) < ((s.size : Nat) : Int)) = false := decide_eq_false (by omega)
    have HN := Lib.hid hn
    obtain ⟨y, er2, HY⟩ : ∃ y er2, Hid (nbV s = y ∧ nbE s = er2) := ⟨_, _, Lib.hid ⟨rfl, rfl⟩⟩
    have HLE : Hid (s.size ≤ 100000) := Lib.hid (by omega)
    have HLF : Hid ((fmt n).size ≤ 100000) := Lib.hid (by have := fmt_size hn; omega)
    have HFN : Hid (er2 = 0 → fmt y = s ∧ In64 y) := Lib.hid (fun h => by have := fmt_nb (s := s) (by rw [HY.out.2]; exact h); rw [HY.out.1] at this; exact this)
    have HNF := Lib.hid (nb_fmt n)
    have es := eq_self_ s
    clear hn
    go_enter Tryd.func9, Tryd.ntmps9
    go_wp2_with fail
    clear hbI
    go_at_call 21
    refine (format21 n _ HN.out HT.out).mono ?_
    rintro e w1 ⟨rfl, hb⟩
    replace HT := Lib.hid (HT.out.next hb)
    replace HB := Lib.hid (upB HB.out hb)
    clear hb
    go_wp2_with fail
    by_cases hr1 : -2147483648 ≤ n
    · by_cases hr2 : n ≤ 2147483648
      · have HV := Lib.hid (HNF.out.1 ⟨hr1, hr2⟩)
        have e5 : (n != n) = false := by simp
        go_at_call 19
        refine (number19 (fmt n) _ HLF.out).mono ?_
        rintro e w2 ⟨rfl, hb⟩
        rw [HV.out.1, HV.out.2]
        replace HT := Lib.hid (HT.out.next hb)
        replace HB := Lib.hid (upB HB.out hb)
        clear hb
        go_wp2_with fail
        go_at_call 19
        refine (number19 s _ HLE.out).mono ?_
        rintro e w3 ⟨rfl, hb⟩
        rw [HY.out.1, HY.out.2]
        replace HT := Lib.hid (HT.out.next hb)
        replace HB := Lib.hid (upB HB.out hb)
        clear hb
        by_cases he : er2 = 0
        · have e7 : (er2 != 0) = false := by simp [he]
          have HF2 := Lib.hid (HFN.out he)
          clear he
          go_wp2_with fail
          go_at_call 21
          refine (format21 y _ HF2.out.2 HT.out).mono ?_
          rintro e w4 ⟨rfl, hb⟩
          rw [HF2.out.1]
          replace HT := Lib.hid (HT.out.next hb)
          replace HB := Lib.hid (upB HB.out hb)
          clear hb
          go_wp2_with fail
          go_at_call 13
          refine (awake13 _ HT.out).mono ?_
          rintro e w99 ⟨rfl, hb⟩
          replace HT := Lib.hid (HT.out.next hb)
          replace HB := Lib.hid (upB HB.out hb)
          clear hb
          go_wp2_with fail
          go_ret
          exact ⟨rfl, HB.out⟩
        · have e7 : (er2 != 0) = true := by simp [he]
          clear he
          go_wp2_with fail
          go_at_call 13
          refine (awake13 _ HT.out).mono ?_
          rintro e w99 ⟨rfl, hb⟩
          replace HT := Lib.hid (HT.out.next hb)
          replace HB := Lib.hid (upB HB.out hb)
          clear hb
          go_wp2_with fail
          go_ret
          exact ⟨rfl, HB.out⟩
      · have HV := Lib.hid (HNF.out.2 (fun h => hr2 h.2))
        go_at_call 19
        refine (number19 (fmt n) _ HLF.out).mono ?_
        rintro e w2 ⟨rfl, hb⟩
        rw [HV.out.1, HV.out.2]
        replace HT := Lib.hid (HT.out.next hb)
        replace HB := Lib.hid (upB HB.out hb)
        clear hb
        go_wp2_with fail
        go_at_call 19
        refine (number19 s _ HLE.out).mono ?_
        rintro e w3 ⟨rfl, hb⟩
        rw [HY.out.1, HY.out.2]
        replace HT := Lib.hid (HT.out.next hb)
        replace HB := Lib.hid (upB HB.out hb)
        clear hb
        by_cases he : er2 = 0
        · have e7 : (er2 != 0) = false := by simp [he]
          have HF2 := Lib.hid (HFN.out he)
          clear he
          go_wp2_with fail
          go_at_call 21
          refine (format21 y _ HF2.out.2 HT.out).mono ?_
          rintro e w4 ⟨rfl, hb⟩
          rw [HF2.out.1]
          replace HT := Lib.hid (HT.out.next hb)
          replace HB := Lib.hid (upB HB.out hb)
          clear hb
          go_wp2_with fail
          go_at_call 13
          refine (awake13 _ HT.out).mono ?_
          rintro e w99 ⟨rfl, hb⟩
          replace HT := Lib.hid (HT.out.next hb)
          replace HB := Lib.hid (upB HB.out hb)
          clear hb
          go_wp2_with fail
          go_ret
          exact ⟨rfl, HB.out⟩
        · have e7 : (er2 != 0) = true := by simp [he]
          clear he
          go_wp2_with fail
          go_at_call 13
          refine (awake13 _ HT.out).mono ?_
          rintro e w99 ⟨rfl, hb⟩
          replace HT := Lib.hid (HT.out.next hb)
          replace HB := Lib.hid (upB HB.out hb)
          clear hb
          go_wp2_with fail
          go_ret
          exact ⟨rfl, HB.out⟩
    · have HV := Lib.hid (HNF.out.2 (fun h => hr1 h.1))
      go_at_call 19
      refine (number19 (fmt n) _ HLF.out).mono ?_
      rintro e w2 ⟨rfl, hb⟩
      rw [HV.out.1, HV.out.2]
      replace HT := Lib.hid (HT.out.next hb)
      replace HB := Lib.hid (upB HB.out hb)
      clear hb
      go_wp2_with fail
      go_at_call 19
      refine (number19 s _ HLE.out).mono ?_
      rintro e w3 ⟨rfl, hb⟩
      rw [HY.out.1, HY.out.2]
      replace HT := Lib.hid (HT.out.next hb)
      replace HB := Lib.hid (upB HB.out hb)
      clear hb
      by_cases he : er2 = 0
      · have e7 : (er2 != 0) = false := by simp [he]
        have HF2 := Lib.hid (HFN.out he)
        clear he
        go_wp2_with fail
        go_at_call 21
        refine (format21 y _ HF2.out.2 HT.out).mono ?_
        rintro e w4 ⟨rfl, hb⟩
        rw [HF2.out.1]
        replace HT := Lib.hid (HT.out.next hb)
        replace HB := Lib.hid (upB HB.out hb)
        clear hb
        go_wp2_with fail
        go_at_call 13
        refine (awake13 _ HT.out).mono ?_
        rintro e w99 ⟨rfl, hb⟩
        replace HT := Lib.hid (HT.out.next hb)
        replace HB := Lib.hid (upB HB.out hb)
        clear hb
        go_wp2_with fail
        go_ret
        exact ⟨rfl, HB.out⟩
      · have e7 : (er2 != 0) = true := by simp [he]
        clear he
        go_wp2_with fail
        go_at_call 13
        refine (awake13 _ HT.out).mono ?_
        rintro e w99 ⟨rfl, hb⟩
        replace HT := Lib.hid (HT.out.next hb)
        replace HB := Lib.hid (upB HB.out hb)
        clear hb
        go_wp2_with fail
        go_ret
        exact ⟨rfl, HB.out⟩
end Go.Proofs.YtcgcccieccicnaaDoor.Wk
