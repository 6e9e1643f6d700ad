/- The laws of the checks, the makes, the lists, the states, walked. Conditions: the slices read as states; the table of powers reads as the program lays it. -/
import Derived.Test.YtgghnamjjgmimaaDoorAl
set_option linter.unusedSimpArgs false
set_option linter.unusedVariables false
namespace Go.Proofs.YtgghnamjjgmimaaDoor.Wk
open Go.RowKit
open Go.Proofs.YtgghnamjjgmimaaDoor.Mt
set_option maxHeartbeats 1000000 in
theorem checks_law (s : ByteArray) (w : World) (ht : Tb w) : Calls Tryd.prog 3 #[.string s] w fun e w' => e = .returned (.bool true) ∧ Below w.heap.size w w' := by
  have HT := Lib.hid ht
  have HB := Lib.hid (Below.refl w.heap.size w)
  clear ht
  by_cases hbig : 100 < s.size
  · have hbI : (100 : Int) < ((s.size : Nat) : Int) := by omega
    go_enter Tryd.func3, Tryd.ntmps3
    go_wp2_with fail
    go_ret
    exact ⟨rfl, Below.refl _ _⟩
  · have hbI : decide ((100 : Int) < ((s.size : Nat) : Int)) = false := decide_eq_false (by omega)
    obtain ⟨a, ha⟩ : ∃ a, agS s = a := ⟨_, rfl⟩
    obtain ⟨n, hn⟩ : ∃ n, srS s = n := ⟨_, rfl⟩
    obtain ⟨c, hc⟩ : ∃ c, ck s = c := ⟨_, rfl⟩
    have HA := Lib.hid ha
    have HN := Lib.hid hn
    have HC := Lib.hid hc
    have e1 : (c == c) = true := by simp
    have e2 : (n == n) = true := by simp
    clear ha hn hc
    go_enter Tryd.func3, Tryd.ntmps3
    go_wp2_with fail
    clear hbI
    refine (agency11 s _).mono ?_
    rintro e w1 ⟨rfl, hb⟩
    rw [HA.out, HC.out]
    replace HT := Lib.hid (HT.out.next hb)
    replace HB := Lib.hid (upB HB.out hb)
    clear hb
    go_wp2_with fail
    refine (serial12 s _).mono ?_
    rintro e w2 ⟨rfl, hb⟩
    rw [HN.out, HC.out]
    replace HT := Lib.hid (HT.out.next hb)
    replace HB := Lib.hid (upB HB.out hb)
    clear hb
    go_wp2_with fail
    refine (agency13 s _).mono ?_
    rintro e w3 ⟨rfl, hb⟩
    rw [HA.out, HC.out]
    replace HT := Lib.hid (HT.out.next hb)
    replace HB := Lib.hid (upB HB.out hb)
    clear hb
    go_wp2_with fail
    refine (serial14 s _).mono ?_
    rintro e w4 ⟨rfl, hb⟩
    rw [HN.out, HC.out]
    replace HT := Lib.hid (HT.out.next hb)
    replace HB := Lib.hid (upB HB.out hb)
    clear hb
    go_wp2_with fail
    refine (check15 s _).mono ?_
    rintro e w5 ⟨rfl, hb⟩
    rw [HC.out]
    replace HT := Lib.hid (HT.out.next hb)
    replace HB := Lib.hid (upB HB.out hb)
    clear hb
    go_wp2_with fail
    refine (check16 s _).mono ?_
    rintro e w6 ⟨rfl, hb⟩
    rw [HC.out]
    replace HT := Lib.hid (HT.out.next hb)
    replace HB := Lib.hid (upB HB.out hb)
    clear hb
    go_wp2_with fail
    refine (alive17 _ HT.out).mono ?_
    rintro e w7 ⟨rfl, hb⟩
    replace HT := Lib.hid (HT.out.next hb)
    replace HB := Lib.hid (upB HB.out hb)
    clear hb
    go_wp2_with fail
    go_ret
    exact ⟨rfl, HB.out⟩
set_option maxHeartbeats 1000000 in
theorem makes_law (s : ByteArray) (n : Int) (w : World) (ht : Tb w) : Calls Tryd.prog 4 #[.string s, .int .i64 n] w fun e w' => e = .returned (.bool true) ∧ Below w.heap.size w w' := by
  have HT := Lib.hid ht
  have HB := Lib.hid (Below.refl w.heap.size w)
  clear ht
  by_cases hbig : 100 < s.size
  · have hbI : (100 : Int) < ((s.size : Nat) : Int) := by omega
    go_enter Tryd.func4, Tryd.ntmps4
    go_wp2_with fail
    go_ret
    exact ⟨rfl, Below.refl _ _⟩
  · have hbI : decide ((100 : Int) < ((s.size : Nat) : Int)) = false := decide_eq_false (by omega)
    obtain ⟨a, ha⟩ : ∃ a, mkS s n = a := ⟨_, rfl⟩
    obtain ⟨c, hc⟩ : ∃ c, mkE s n = c := ⟨_, rfl⟩
    have HA := Lib.hid ha
    have HC := Lib.hid hc
    have e1 : (c == c) = true := by simp
    clear ha hc
    go_enter Tryd.func4, Tryd.ntmps4
    go_wp2_with fail
    clear hbI
    refine (make18 s n _ HT.out).mono ?_
    rintro e w1 ⟨rfl, hb⟩
    rw [HA.out, HC.out]
    replace HT := Lib.hid (HT.out.next hb)
    replace HB := Lib.hid (upB HB.out hb)
    clear hb
    go_wp2_with fail
    refine (make19 s n _ (by omega)).mono ?_
    rintro e w2 ⟨rfl, hb⟩
    rw [HA.out, HC.out]
    replace HT := Lib.hid (HT.out.next hb)
    replace HB := Lib.hid (upB HB.out hb)
    clear hb
    go_wp2_with fail
    refine (alive17 _ HT.out).mono ?_
    rintro e w7 ⟨rfl, hb⟩
    replace HT := Lib.hid (HT.out.next hb)
    replace HB := Lib.hid (upB HB.out hb)
    clear hb
    go_wp2_with fail
    go_ret
    exact ⟨rfl, HB.out⟩
set_option maxHeartbeats 1000000 in
theorem lists_law (A : Option Addr) (n c : Nat) (l : List Ts) (w : World) (h : Rt w w.heap.size A n l) (ht : Tb w) : Calls Tryd.prog 5 #[.slice A n c] w fun e w' => e = .returned (.bool true) ∧ Below w.heap.size w w' := by
  have HT := Lib.hid ht
  have HR := Lib.hid h
  have HB := Lib.hid (Below.refl w.heap.size w)
  have hn := h.2.1
  clear ht h
  by_cases hbig : 100 < n
  · have hbI : (100 : Int) < (n : Int) := by omega
    go_enter Tryd.func5, Tryd.ntmps5
    go_wp2_with fail
    go_ret
    exact ⟨rfl, Below.refl _ _⟩
  · have hbI : decide ((100 : Int) < (n : Int)) = false := decide_eq_false (by omega)
    obtain ⟨z, hz⟩ : ∃ z, caS l = z := ⟨_, rfl⟩
    have HZ := Lib.hid hz
    have e1 : (z == z) = true := by simp
    clear hz
    go_enter Tryd.func5, Tryd.ntmps5
    go_wp2_with fail
    clear hbI
    refine (checkAll20 A n c l _ HR.out).mono ?_
    rintro e w1 ⟨rfl, hb⟩
    rw [HZ.out]
    replace HT := Lib.hid (HT.out.next hb)
    replace HR := Lib.hid (HR.out.up hb)
    replace HB := Lib.hid (upB HB.out hb)
    clear hb
    go_wp2_with fail
    refine (checkAll21 A n c l _ HR.out).mono ?_
    rintro e w2 ⟨rfl, hb⟩
    rw [HZ.out]
    replace HT := Lib.hid (HT.out.next hb)
    replace HR := Lib.hid (HR.out.up hb)
    replace HB := Lib.hid (upB HB.out hb)
    clear hb
    go_wp2_with fail
    refine (alive17 _ HT.out).mono ?_
    rintro e w7 ⟨rfl, hb⟩
    replace HT := Lib.hid (HT.out.next hb)
    replace HB := Lib.hid (upB HB.out hb)
    clear hb
    go_wp2_with fail
    go_ret
    exact ⟨rfl, HB.out⟩
set_option maxHeartbeats 1000000 in
theorem states_law (A : Option Addr) (n c : Nat) (l : List Ts) (s : ByteArray) (t : Int) (w : World) (h : Rt w w.heap.size A n l) (ht : Tb w) : Calls Tryd.prog 7 #[.slice A n c, .string s, .int .i64 t] w fun e w' => e = .returned (.bool true) ∧ Below w.heap.size w w' := by
  have HT := Lib.hid ht
  have HR := Lib.hid h
  have HB := Lib.hid (Below.refl w.heap.size w)
  have hn := h.2.1
  clear ht h
  by_cases hbig : 100 < n
  · have hbI : (100 : Int) < (n : Int) := by omega
    go_enter Tryd.func7, Tryd.ntmps7
    go_wp2_with fail
    go_ret
    exact ⟨rfl, Below.refl _ _⟩
  · have hbI : decide ((100 : Int) < (n : Int)) = false := decide_eq_false (by omega)
    by_cases hbs : 100 < s.size
    · have hbJ : (100 : Int) < ((s.size : Nat) : Int) := by omega
      go_enter Tryd.func7, Tryd.ntmps7
      go_wp2_with fail
      go_ret
      exact ⟨rfl, Below.refl _ _⟩
    · have hbJ : decide ((100 : Int) < ((s.size : Nat) : Int)) = false := decide_eq_false (by omega)
      obtain ⟨z, hz⟩ : ∃ z, stS l s t = z := ⟨_, rfl⟩
      have HZ := Lib.hid hz
      have e1 : (z == z) = true := by simp
      clear hz
      go_enter Tryd.func7, Tryd.ntmps7
      go_wp2_with fail
      clear hbI hbJ
      refine (state22 A n c l s t _ HR.out).mono ?_
      rintro e w1 ⟨rfl, hb⟩
      rw [HZ.out]
      replace HT := Lib.hid (HT.out.next hb)
      replace HR := Lib.hid (HR.out.up hb)
      replace HB := Lib.hid (upB HB.out hb)
      clear hb
      go_wp2_with fail
      refine (state23 A n c l s t _ HR.out).mono ?_
      rintro e w2 ⟨rfl, hb⟩
      rw [HZ.out]
      replace HT := Lib.hid (HT.out.next hb)
      replace HR := Lib.hid (HR.out.up hb)
      replace HB := Lib.hid (upB HB.out hb)
      clear hb
      go_wp2_with fail
      refine (alive17 _ HT.out).mono ?_
      rintro e w7 ⟨rfl, hb⟩
      replace HT := Lib.hid (HT.out.next hb)
      replace HB := Lib.hid (upB HB.out hb)
      clear hb
      go_wp2_with fail
      go_ret
      exact ⟨rfl, HB.out⟩
end Go.Proofs.YtgghnamjjgmimaaDoor.Wk
