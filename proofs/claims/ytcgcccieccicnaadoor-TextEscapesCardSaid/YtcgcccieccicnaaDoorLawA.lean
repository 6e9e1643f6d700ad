/- The laws of names, fields, lines, numbers and escapes, walked. Conditions: the strings are any; the table of powers reads as the program lays it. -/
import Derived.Test.YtcgcccieccicnaaDoorAw
set_option linter.unusedSimpArgs false
set_option linter.unusedVariables false
namespace Go.Proofs.YtcgcccieccicnaaDoor.Wk
open Go.RowKit
open Go.Proofs.YtcgcccieccicnaaDoor.Mt
set_option maxHeartbeats 4000000 in
set_option maxRecDepth 100000 in
theorem names_law (s : ByteArray) (w : World) (ht : Tb w) : Calls Tryd.prog 3 #[.string s] w fun e w' => e = .returned (.bool true) ∧ Below w.heap.size w w' := by
  have HT := Lib.hid ht
  have HB := Lib.hid (Below.refl w.heap.size w)
  clear ht
  by_cases hbig : 2000 < s.size
  · have hbI : (2000 : Int) < ((s.size : Nat) : Int) := by omega
    go_enter Tryd.func3, Tryd.ntmps3
    go_wp2_with fail
    go_at_call 13
    refine (awake13 _ HT.out).mono ?_
    rintro e w99 ⟨rfl, hb⟩
    replace HT := Lib.hid (HT.out.next hb)
    replace HB := Lib.hid (upB HB.out hb)
    clear hb
    go_wp2_with fail
    go_ret
    exact ⟨rfl, HB.out⟩
  · have hbI : decide ((2000 : Int) < ((s.size : Nat) : Int)) = false := decide_eq_false (by omega)
    obtain ⟨b, hb⟩ : ∃ v, nmB s = v := ⟨_, rfl⟩
    have HV := Lib.hid hb
    clear hb
    have e1 : (b == b) = true := by simp
    go_enter Tryd.func3, Tryd.ntmps3
    go_wp2_with fail
    clear hbI
    go_at_call 14
    refine (name14 s _).mono ?_
    rintro e w1 ⟨rfl, hb⟩
    rw [HV.out]
    replace HT := Lib.hid (HT.out.next hb)
    replace HB := Lib.hid (upB HB.out hb)
    clear hb
    go_wp2_with fail
    go_at_call 15
    refine (name15 s _).mono ?_
    rintro e w2 ⟨rfl, hb⟩
    rw [HV.out]
    replace HT := Lib.hid (HT.out.next hb)
    replace HB := Lib.hid (upB HB.out hb)
    clear hb
    go_wp2_with fail
    go_at_call 13
    refine (awake13 _ HT.out).mono ?_
    rintro e w99 ⟨rfl, hb⟩
    replace HT := Lib.hid (HT.out.next hb)
    replace HB := Lib.hid (upB HB.out hb)
    clear hb
    go_wp2_with fail
    go_ret
    exact ⟨rfl, HB.out⟩
set_option maxHeartbeats 4000000 in
set_option maxRecDepth 100000 in
theorem fields_law (s : ByteArray) (w : World) (ht : Tb w) : Calls Tryd.prog 4 #[.string s] w fun e w' => e = .returned (.bool true) ∧ Below w.heap.size w w' := by
  have HT := Lib.hid ht
  have HB := Lib.hid (Below.refl w.heap.size w)
  clear ht
  by_cases hbig : 2000 < s.size
  · have hbI : (2000 : Int) < ((s.size : Nat) : Int) := by omega
    go_enter Tryd.func4, Tryd.ntmps4
    go_wp2_with fail
    go_at_call 13
    refine (awake13 _ HT.out).mono ?_
    rintro e w99 ⟨rfl, hb⟩
    replace HT := Lib.hid (HT.out.next hb)
    replace HB := Lib.hid (upB HB.out hb)
    clear hb
    go_wp2_with fail
    go_ret
    exact ⟨rfl, HB.out⟩
  · have hbI : decide ((2000 : Int) < ((s.size : Nat) : Int)) = false := decide_eq_false (by omega)
    obtain ⟨l, er, HV⟩ : ∃ l er, Hid (flL s = l ∧ flE s = er) := ⟨_, _, Lib.hid ⟨rfl, rfl⟩⟩
    have e1 : (er == er) = true := by simp
    go_enter Tryd.func4, Tryd.ntmps4
    go_wp2_with fail
    clear hbI
    go_at_call 16
    refine (fields16 s _).mono ?_
    rintro e w1 ⟨A1, c1, rfl, hr, hb, hc⟩
    rw [HV.out.1] at hr
    rw [HV.out.1, HV.out.2]
    replace HT := Lib.hid (HT.out.next hb)
    replace HB := Lib.hid (upB HB.out hb)
    have HR1 := Lib.hid hr
    clear hr hc
    clear hb
    go_wp2_with fail
    go_at_call 17
    refine (fields17 s _).mono ?_
    rintro e w2 ⟨A2, c2, rfl, hr, hb, hc⟩
    rw [HV.out.1] at hr
    rw [HV.out.1, HV.out.2]
    replace HT := Lib.hid (HT.out.next hb)
    replace HB := Lib.hid (upB HB.out hb)
    replace HR1 := Lib.hid (HR1.out.up hb)
    have HR2 := Lib.hid hr
    clear hr hc
    clear hb
    go_wp2_with fail
    go_at_call 18
    refine (same18 _ _ _ _ _ l _ HR1.out HR2.out).mono ?_
    rintro e w3 ⟨rfl, hb⟩
    replace HT := Lib.hid (HT.out.next hb)
    replace HB := Lib.hid (upB HB.out hb)
    clear hb
    go_wp2_with fail
    go_at_call 13
    refine (awake13 _ HT.out).mono ?_
    rintro e w99 ⟨rfl, hb⟩
    replace HT := Lib.hid (HT.out.next hb)
    replace HB := Lib.hid (upB HB.out hb)
    clear hb
    go_wp2_with fail
    go_ret
    exact ⟨rfl, HB.out⟩
set_option maxHeartbeats 4000000 in
set_option maxRecDepth 100000 in
theorem lines_law (s : ByteArray) (w : World) (ht : Tb w) : Calls Tryd.prog 6 #[.string s] w fun e w' => e = .returned (.bool true) ∧ Below w.heap.size w w' := by
  have HT := Lib.hid ht
  have HB := Lib.hid (Below.refl w.heap.size w)
  clear ht
  by_cases hbig : 70000 < s.size
  · have hbI : (70000 : Int) < ((s.size : Nat) : Int) := by omega
    go_enter Tryd.func6, Tryd.ntmps6
    go_wp2_with fail
    go_at_call 13
    refine (awake13 _ HT.out).mono ?_
    rintro e w99 ⟨rfl, hb⟩
    replace HT := Lib.hid (HT.out.next hb)
    replace HB := Lib.hid (upB HB.out hb)
    clear hb
    go_wp2_with fail
    go_ret
    exact ⟨rfl, HB.out⟩
  · have hbI : decide ((70000 : Int) < ((s.size : Nat) : Int)) = false := decide_eq_false (by omega)
    obtain ⟨l, er, HV⟩ : ∃ l er, Hid (lnL s = l ∧ lnE s = er) := ⟨_, _, Lib.hid ⟨rfl, rfl⟩⟩
    have e1 : (er == er) = true := by simp
    go_enter Tryd.func6, Tryd.ntmps6
    go_wp2_with fail
    clear hbI
    go_at_call 23
    refine (lines23 s _).mono ?_
    rintro e w1 ⟨A1, c1, rfl, hr, hb, hc⟩
    rw [HV.out.1] at hr
    rw [HV.out.1, HV.out.2]
    replace HT := Lib.hid (HT.out.next hb)
    replace HB := Lib.hid (upB HB.out hb)
    have HR1 := Lib.hid hr
    clear hr hc
    clear hb
    go_wp2_with fail
    go_at_call 24
    refine (lines24 s _).mono ?_
    rintro e w2 ⟨A2, c2, rfl, hr, hb, hc⟩
    rw [HV.out.1] at hr
    rw [HV.out.1, HV.out.2]
    replace HT := Lib.hid (HT.out.next hb)
    replace HB := Lib.hid (upB HB.out hb)
    replace HR1 := Lib.hid (HR1.out.up hb)
    have HR2 := Lib.hid hr
    clear hr hc
    clear hb
    go_wp2_with fail
    go_at_call 18
    refine (same18 _ _ _ _ _ l _ HR1.out HR2.out).mono ?_
    rintro e w3 ⟨rfl, hb⟩
    replace HT := Lib.hid (HT.out.next hb)
    replace HB := Lib.hid (upB HB.out hb)
    clear hb
    go_wp2_with fail
    go_at_call 13
    refine (awake13 _ HT.out).mono ?_
    rintro e w99 ⟨rfl, hb⟩
    replace HT := Lib.hid (HT.out.next hb)
    replace HB := Lib.hid (upB HB.out hb)
    clear hb
    go_wp2_with fail
    go_ret
    exact ⟨rfl, HB.out⟩
set_option maxHeartbeats 4000000 in
set_option maxRecDepth 100000 in
theorem numbers_law (s : ByteArray) (n : Int) (w : World) (ht : Tb w) (hn : In64 n) : Calls Tryd.prog 5 #[.string s, .int .i64 n] w fun e w' => e = .returned (.bool true) ∧ Below w.heap.size w w' := by
  have HT := Lib.hid ht
  have HB := Lib.hid (Below.refl w.heap.size w)
  clear ht
  by_cases hbig : 2000 < s.size
  · have hbI : (2000 : Int) < ((s.size : Nat) : Int) := by omega
    go_enter Tryd.func5, Tryd.ntmps5
    go_wp2_with fail
    go_at_call 13
    refine (awake13 _ HT.out).mono ?_
    rintro e w99 ⟨rfl, hb⟩
    replace HT := Lib.hid (HT.out.next hb)
    replace HB := Lib.hid (upB HB.out hb)
    clear hb
    go_wp2_with fail
    go_ret
    exact ⟨rfl, HB.out⟩
  · have hbI : decide ((2000 : Int) < ((s.size : Nat) : Int)) = false := decide_eq_false (by omega)
    obtain ⟨x, er, HV⟩ : ∃ x er, Hid (nbV s = x ∧ nbE s = er) := ⟨_, _, Lib.hid ⟨rfl, rfl⟩⟩
    have e1 : (er == er) = true := by simp
    have e2 : (x == x) = true := by simp
    have HN := Lib.hid hn
    clear hn
    obtain ⟨u, hu⟩ : ∃ v, fmt n = v := ⟨_, rfl⟩
    have HU := Lib.hid hu
    clear hu
    have e3 := eq_self_ u
    have hle : s.size ≤ 100000 := by omega
    have HLE := Lib.hid hle
    clear hle
    go_enter Tryd.func5, Tryd.ntmps5
    go_wp2_with fail
    clear hbI
    go_at_call 19
    refine (number19 s _ HLE.out).mono ?_
    rintro e w1 ⟨rfl, hb⟩
    rw [HV.out.1, HV.out.2]
    replace HT := Lib.hid (HT.out.next hb)
    replace HB := Lib.hid (upB HB.out hb)
    clear hb
    go_wp2_with fail
    go_at_call 20
    refine (number20 s _ HLE.out).mono ?_
    rintro e w2 ⟨rfl, hb⟩
    rw [HV.out.1, HV.out.2]
    replace HT := Lib.hid (HT.out.next hb)
    replace HB := Lib.hid (upB HB.out hb)
    clear hb
    go_wp2_with fail
    go_at_call 21
    refine (format21 n _ HN.out HT.out).mono ?_
    rintro e w3 ⟨rfl, hb⟩
    rw [HU.out]
    replace HT := Lib.hid (HT.out.next hb)
    replace HB := Lib.hid (upB HB.out hb)
    clear hb
    go_wp2_with fail
    go_at_call 22
    refine (format22 n _ HN.out).mono ?_
    rintro e w4 ⟨rfl, hb⟩
    rw [HU.out]
    replace HT := Lib.hid (HT.out.next hb)
    replace HB := Lib.hid (upB HB.out hb)
    clear hb
    go_wp2_with fail
    go_at_call 13
    refine (awake13 _ HT.out).mono ?_
    rintro e w99 ⟨rfl, hb⟩
    replace HT := Lib.hid (HT.out.next hb)
    replace HB := Lib.hid (upB HB.out hb)
    clear hb
    go_wp2_with fail
    go_ret
    exact ⟨rfl, HB.out⟩
set_option maxHeartbeats 4000000 in
set_option maxRecDepth 100000 in
theorem escapes_law (s : ByteArray) (w : World) (ht : Tb w) : Calls Tryd.prog 7 #[.string s] w fun e w' => e = .returned (.bool true) ∧ Below w.heap.size w w' := by
  have HT := Lib.hid ht
  have HB := Lib.hid (Below.refl w.heap.size w)
  clear ht
  by_cases hbig : 2000 < s.size
  · have hbI : (2000 : Int) < ((s.size : Nat) : Int) := by omega
    go_enter Tryd.func7, Tryd.ntmps7
    go_wp2_with fail
    go_at_call 13
    refine (awake13 _ HT.out).mono ?_
    rintro e w99 ⟨rfl, hb⟩
    replace HT := Lib.hid (HT.out.next hb)
    replace HB := Lib.hid (upB HB.out hb)
    clear hb
    go_wp2_with fail
    go_ret
    exact ⟨rfl, HB.out⟩
  · have hbI : decide ((2000 : Int) < ((s.size : Nat) : Int)) = false := decide_eq_false (by omega)
    obtain ⟨x, er, HV⟩ : ∃ x er, Hid (usS s = x ∧ usE s = er) := ⟨_, _, Lib.hid ⟨rfl, rfl⟩⟩
    have e1 : (er == er) = true := by simp
    have e2 := eq_self_ x
    have hle : s.size ≤ 100000 := by omega
    have HLE := Lib.hid hle
    clear hle
    obtain ⟨u, hu⟩ : ∃ v, esS s = v := ⟨_, rfl⟩
    have HU := Lib.hid hu
    clear hu
    have e3 := eq_self_ u
    go_enter Tryd.func7, Tryd.ntmps7
    go_wp2_with fail
    clear hbI
    go_at_call 25
    refine (unescape25 s _ HLE.out).mono ?_
    rintro e w1 ⟨rfl, hb⟩
    rw [HV.out.1, HV.out.2]
    replace HT := Lib.hid (HT.out.next hb)
    replace HB := Lib.hid (upB HB.out hb)
    clear hb
    go_wp2_with fail
    go_at_call 26
    refine (unescape26 s _ HLE.out).mono ?_
    rintro e w2 ⟨rfl, hb⟩
    rw [HV.out.1, HV.out.2]
    replace HT := Lib.hid (HT.out.next hb)
    replace HB := Lib.hid (upB HB.out hb)
    clear hb
    go_wp2_with fail
    go_at_call 27
    refine (escape27 s _ HLE.out).mono ?_
    rintro e w3 ⟨rfl, hb⟩
    rw [HU.out]
    replace HT := Lib.hid (HT.out.next hb)
    replace HB := Lib.hid (upB HB.out hb)
    clear hb
    go_wp2_with fail
    go_at_call 28
    refine (escape28 s _ HLE.out).mono ?_
    rintro e w4 ⟨rfl, hb⟩
    rw [HU.out]
    replace HT := Lib.hid (HT.out.next hb)
    replace HB := Lib.hid (upB HB.out hb)
    clear hb
    go_wp2_with fail
    go_at_call 13
    refine (awake13 _ HT.out).mono ?_
    rintro e w99 ⟨rfl, hb⟩
    replace HT := Lib.hid (HT.out.next hb)
    replace HB := Lib.hid (upB HB.out hb)
    clear hb
    go_wp2_with fail
    go_ret
    exact ⟨rfl, HB.out⟩
end Go.Proofs.YtcgcccieccicnaaDoor.Wk
