/- The law of fields and back, walked. Conditions: the strings are any; the table of powers reads as the program lays it. -/
import Derived.Test.YtcgcccieccicnaaDoorBm
set_option linter.unusedSimpArgs false
set_option linter.unusedVariables false
namespace Go.Proofs.YtcgcccieccicnaaDoor.Wk
open Go.RowKit
open Go.Proofs.YtcgcccieccicnaaDoor.Mt
set_option maxHeartbeats 4000000 in
set_option maxRecDepth 100000 in
theorem fieldsBack_law (s : ByteArray) (w : World) (ht : Tb w) : Calls Tryd.prog 11 #[.string s] w fun e w' => e = .returned (.bool true) ∧ Below w.heap.size w w' := by
  have HT := Lib.hid ht
  have HB := Lib.hid (Below.refl w.heap.size w)
  clear ht
  by_cases hbig : 2000 < s.size
  · have hbI : (2000 : Int) < ((s.size : Nat) : Int) := by omega
    go_enter Tryd.func11, Tryd.ntmps11
    go_wp2_with fail
    go_at_call 13
    refine (awake13 _ HT.out).mono ?_
    rintro e w99 ⟨rfl, hb⟩
    replace HT := Lib.hid (HT.out.next hb)
    replace HB := Lib.hid (upB HB.out hb)
    clear hb
    go_wp2_with fail
    go_ret
    exact ⟨rfl, HB.out⟩
  · have hbI : decide ((2000 : Int) < ((s.size : Nat) : Int)) = false := decide_eq_false (by omega)
    obtain ⟨l, er, HV⟩ : ∃ l er, Hid (flL s = l ∧ flE s = er) := ⟨_, _, Lib.hid ⟨rfl, rfl⟩⟩
    have HNO : Hid (er ≠ 0 → l = [] ∧ s.size ≠ 0) := Lib.hid (fun h => by have := fl_not (s := s) (by rw [HV.out.2]; exact h); rw [HV.out.1] at this; exact this)
    have HYE : Hid (er = 0 → js l l.length = s ∧ ∀ i, i < l.length → (sat l i).size ≠ 0) := Lib.hid (fun h => by have := fl_back (s := s) (by rw [HV.out.2]; exact h); rw [HV.out.1] at this; exact this)
    have HLE : Hid (s.size ≤ 2000) := Lib.hid (by omega)
    have es := eq_self_ s
    clear hbig
    go_enter Tryd.func11, Tryd.ntmps11
    go_wp2_with fail
    clear hbI
    go_at_call 16
    refine (fields16 s _).mono ?_
    rintro e w1 ⟨A1, c1, rfl, hr, hb, hc⟩
    rw [HV.out.1] at hr hc
    rw [HV.out.1, HV.out.2]
    have HR := Lib.hid hr
    have HC := Lib.hid hc
    replace HT := Lib.hid (HT.out.next hb)
    replace HB := Lib.hid (upB HB.out hb)
    clear hb hr hc
    by_cases he : er = 0
    · have e7 : (er != 0) = false := by simp [he]
      obtain ⟨h1, h2⟩ := HYE.out he
      have H1 := Lib.hid h1
      have H2 := Lib.hid h2
      clear he h1 h2
      generalize hn : l.length = n at *
      have HN := Lib.hid hn
      have hnI : n ≤ 9223372036854775807 := HR.out.2.1
      clear hn
      go_wp2_with fail
      have HTW := HT
      have HBW := HB
      have HRW := HR
      clear e7 HT HB HR
      go_loopw [5] (fun i wr => ∃ k : Nat, k ≤ n ∧ i = .int .i64 k ∧ Hid (Below w1.heap.size w1 wr)) (fun i _ => n - (intOf i).toNat)
      case atStart => exact ⟨0, Nat.zero_le _, rfl, Lib.hid (Below.refl _ _)⟩
      case round =>
        obtain ⟨k, hk, rfl, HW⟩ := hrel
        have HT := Lib.hid (HTW.out.next HW.out)
        have HB := Lib.hid (upB HBW.out HW.out)
        have HR := Lib.hid (HRW.out.up HW.out)
        by_cases hlt : k < n
        · obtain ⟨b1, o1, rfl, hl1, hc1⟩ := HR.out.2.2 (by omega)
          have d1 := hc1 k hlt
          have hltI : (k : Int) < (n : Int) := by omega
          have hne := H2.out k hlt
          obtain ⟨x, hx⟩ : ∃ x, sat l k = x := ⟨_, rfl⟩
          rw [hx] at d1 hne
          have e0 := not_emp hne
          have W1 : IntKind.i64.wrap ((k : Int) + 1) = (k : Int) + 1 := IntWalk.i64_in _ (by omega)
          clear hc1 hx hne
          go_wp2_with fail
          go_roundw
          case rel => exact ⟨k + 1, by omega, by go_num, HW⟩
          case measure => simp [intOf]; omega
        · have hltI : ¬ (k : Int) < (n : Int) := by omega
          obtain rfl : k = n := by omega
          go_wp2_with fail
          go_at_call 29
          refine (join29 A1 k c1 l _ HR.out HC.out (by rw [H1.out]; have := HLE.out; omega)).mono ?_
          rintro e w2 ⟨rfl, hb⟩
          rw [H1.out]
          replace HT := Lib.hid (HT.out.next hb)
          replace HB := Lib.hid (upB HB.out hb)
          clear hb
          go_wp2_with fail
          go_at_call 13
          refine (awake13 _ HT.out).mono ?_
          rintro e w99 ⟨rfl, hb⟩
          replace HT := Lib.hid (HT.out.next hb)
          replace HB := Lib.hid (upB HB.out hb)
          clear hb
          go_wp2_with fail
          go_ret
          exact ⟨rfl, HB.out⟩
    · have e7 : (er != 0) = true := by simp [he]
      obtain ⟨h1, h2⟩ := HNO.out he
      have e0 := not_emp h2
      subst h1
      clear he h2
      go_wp2_with fail
      go_at_call 13
      refine (awake13 _ HT.out).mono ?_
      rintro e w99 ⟨rfl, hb⟩
      replace HT := Lib.hid (HT.out.next hb)
      replace HB := Lib.hid (upB HB.out hb)
      clear hb
      go_wp2_with fail
      go_ret
      exact ⟨rfl, HB.out⟩
end Go.Proofs.YtcgcccieccicnaaDoor.Wk
