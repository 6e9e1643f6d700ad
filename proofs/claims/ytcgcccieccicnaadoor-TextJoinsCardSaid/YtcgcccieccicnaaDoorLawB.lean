/- The law of joins, walked. Conditions: the strings are any; the table of powers reads as the program lays it. -/
import Derived.Test.YtcgcccieccicnaaDoorBm
set_option linter.unusedSimpArgs false
set_option linter.unusedVariables false
namespace Go.Proofs.YtcgcccieccicnaaDoor.Wk
open Go.RowKit
open Go.Proofs.YtcgcccieccicnaaDoor.Mt
set_option maxHeartbeats 4000000 in
set_option maxRecDepth 100000 in
theorem joins_law (A : Option Addr) (n c : Nat) (l : List ByteArray) (w : World) (h : Rs w w.heap.size A n l) (hc : n ≤ c) (ht : Tb w) : Calls Tryd.prog 8 #[.slice A n c] w fun e w' => e = .returned (.bool true) ∧ Below w.heap.size w w' := by
  have HT := Lib.hid ht
  have HB := Lib.hid (Below.refl w.heap.size w)
  have HR := Lib.hid h
  have HC := Lib.hid hc
  have HTW := HT
  have HRW := HR
  have hn := h.2.1
  clear ht h hc
  by_cases hbig : 100 < n
  · have hbI : (100 : Int) < (n : Int) := by omega
    go_enter Tryd.func8, Tryd.ntmps8
    go_wp2_with fail
    go_at_call 13
    refine (awake13 _ HT.out).mono ?_
    rintro e w99 ⟨rfl, hb⟩
    replace HT := Lib.hid (HT.out.next hb)
    replace HB := Lib.hid (upB HB.out hb)
    clear hb
    go_wp2_with fail
    go_ret
    exact ⟨rfl, HB.out⟩
  · have hbI : decide ((100 : Int) < (n : Int)) = false := decide_eq_false (by omega)
    go_enter Tryd.func8, Tryd.ntmps8
    go_wp2_with fail
    clear hbI
    go_loopw [3] (fun i wr => ∃ k : Nat, k ≤ n ∧ i = .int .i64 k ∧ Hid (∀ j, j < k → (sat l j).size ≤ 100) ∧ Hid (Below w.heap.size w wr)) (fun i _ => n - (intOf i).toNat)
    case atStart => exact ⟨0, Nat.zero_le _, rfl, Lib.hid (fun j hj => by omega), Lib.hid (Below.refl _ _)⟩
    case round =>
      obtain ⟨k, hk, rfl, HS, HW⟩ := hrel
      by_cases hlt : k < n
      · obtain ⟨b1, o1, rfl, hl1, hc1⟩ := (HRW.out.up HW.out).2.2 (by omega)
        have d1 := hc1 k hlt
        have hltI : (k : Int) < (n : Int) := by omega
        obtain ⟨x, hx⟩ : ∃ x, sat l k = x := ⟨_, rfl⟩
        rw [hx] at d1
        have HX := Lib.hid hx
        have W1 : IntKind.i64.wrap ((k : Int) + 1) = (k : Int) + 1 := IntWalk.i64_in _ (by omega)
        clear hc1 hx
        by_cases hx1 : 100 < x.size
        · have hx1I : (100 : Int) < ((x.size : Nat) : Int) := by omega
          replace HT := Lib.hid (HTW.out.next HW.out)
          replace HB := Lib.hid HW.out
          go_wp2_with fail
          go_at_call 13
          refine (awake13 _ HT.out).mono ?_
          rintro e w99 ⟨rfl, hb⟩
          replace HT := Lib.hid (HT.out.next hb)
          replace HB := Lib.hid (upB HB.out hb)
          clear hb
          go_wp2_with fail
          go_ret
          exact ⟨rfl, HB.out⟩
        · have hx1I : decide ((100 : Int) < ((x.size : Nat) : Int)) = false := decide_eq_false (by omega)
          have hx2I : ¬ (100 : Int) < ((x.size : Nat) : Int) := by omega
          have HS2 : Hid (∀ j, j < k + 1 → (sat l j).size ≤ 100) := Lib.hid (fun j hj => by
            rcases Nat.lt_or_ge j k with h1 | h1
            · exact HS.out j h1
            · obtain rfl : j = k := by omega
              rw [HX.out]; omega)
          go_wp2_with fail
          go_roundw
          case rel => exact ⟨k + 1, by omega, by go_num, HS2, HW⟩
          case measure => simp [intOf]; omega
      · have hltI : ¬ (k : Int) < (n : Int) := by omega
        obtain rfl : k = n := by omega
        have HSZ : Hid ((js l k).size ≤ 1000000) := Lib.hid (by
          have := js_bound (l := l) (m := 100) k HS.out
          have : k * 101 ≤ 10100 := by omega
          omega)
        obtain ⟨u, hu⟩ : ∃ u, js l k = u := ⟨_, rfl⟩
        have HU := Lib.hid hu
        have e1 := eq_self_ u
        replace HT := Lib.hid (HTW.out.next HW.out)
        replace HR := Lib.hid (HRW.out.up HW.out)
        replace HB := Lib.hid HW.out
        clear hu
        go_wp2_with fail
        go_at_call 29
        refine (join29 A k c l _ HR.out HC.out HSZ.out).mono ?_
        rintro e w1 ⟨rfl, hb⟩
        rw [HU.out]
        replace HT := Lib.hid (HT.out.next hb)
        replace HB := Lib.hid (upB HB.out hb)
        replace HR := Lib.hid (HR.out.up hb)
        clear hb
        go_wp2_with fail
        go_at_call 30
        refine (join30 A k c l _ HR.out HSZ.out).mono ?_
        rintro e w2 ⟨rfl, hb⟩
        rw [HU.out]
        replace HT := Lib.hid (HT.out.next hb)
        replace HB := Lib.hid (upB HB.out hb)
        clear hb
        go_wp2_with fail
        go_at_call 13
        refine (awake13 _ HT.out).mono ?_
        rintro e w99 ⟨rfl, hb⟩
        replace HT := Lib.hid (HT.out.next hb)
        replace HB := Lib.hid (upB HB.out hb)
        clear hb
        go_wp2_with fail
        go_ret
        exact ⟨rfl, HB.out⟩

end Go.Proofs.YtcgcccieccicnaaDoor.Wk
