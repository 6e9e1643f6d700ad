/- The law of lines and back, walked. Conditions: the strings are any; the table of powers reads as the program lays it. -/
import Derived.Test.YtcgcccieccicnaaDoorBm
set_option linter.unusedSimpArgs false
set_option linter.unusedVariables false
namespace Go.Proofs.YtcgcccieccicnaaDoor.Wk
open Go.RowKit
open Go.Proofs.YtcgcccieccicnaaDoor.Mt
set_option maxHeartbeats 4000000 in
set_option maxRecDepth 100000 in
theorem linesBack_law (s : ByteArray) (w : World) (ht : Tb w) : Calls Tryd.prog 12 #[.string s] w fun e w' => e = .returned (.bool true) ∧ Below w.heap.size w w' := by
  have HT := Lib.hid ht
  have HB := Lib.hid (Below.refl w.heap.size w)
  clear ht
  by_cases hbig : 2000 < s.size
  · have hbI : (2000 : Int) < ((s.size : Nat) : Int) := by omega
    go_enter Tryd.func12, Tryd.ntmps12
    go_wp2_with fail
    go_at_call 13
    refine (awake13 _ HT.out).mono ?_
    rintro e w99 ⟨rfl, hb⟩
    replace HT := Lib.hid (HT.out.next hb)
    replace HB := Lib.hid (upB HB.out hb)
    clear hb
    go_wp2_with fail
    go_ret
    exact ⟨rfl, HB.out⟩
  · have hbI : decide ((2000 : Int) < ((s.size : Nat) : Int)) = false := decide_eq_false (by omega)
    obtain ⟨l, er, HV⟩ : ∃ l er, Hid (lnL s = l ∧ lnE s = er) := ⟨_, _, Lib.hid ⟨rfl, rfl⟩⟩
    have HE0 : Hid (er = 0) := Lib.hid (by rw [← HV.out.2]; exact if_neg (by omega))
    have HNF : Hid (∀ i, i < l.length → Nof 10 (sat l i)) := Lib.hid (by have := ln_mem (s := s); rw [HV.out.1] at this; exact this)
    have HLB : Hid (cat l l.length = if s.size ≠ 0 ∧ bt s (s.size - 1) ≠ 10 then s ++ ⟨#[10]⟩ else s) := Lib.hid (by have := ln_back (s := s) (by omega); rw [HV.out.1] at this; exact this)
    have HLS : Hid ((cat l l.length).size ≤ 2001) := Lib.hid (by
      rw [HLB.out]
      have z1 : (ByteArray.mk #[10]).size = 1 := rfl
      split
      · rw [ByteArray.size_append]; omega
      · omega)
    obtain ⟨m, hm⟩ : ∃ m, s.size = m := ⟨_, rfl⟩
    have HM := Lib.hid hm
    have hm2 : m ≤ 2000 := by omega
    have hsz : ((s.size : Nat) : Int) = (m : Int) := by omega
    clear hbig hm
    go_enter Tryd.func12, Tryd.ntmps12
    go_wp2_with fail
    clear hbI
    go_at_call 23
    refine (lines23 s _).mono ?_
    rintro e w1 ⟨A1, c1, rfl, hr, hb, hc⟩
    rw [HV.out.1] at hr
    rw [HV.out.1, HV.out.2, HE0.out]
    have HRW := Lib.hid hr
    have HTW := Lib.hid (HT.out.next hb)
    have HBW := Lib.hid (upB HB.out hb)
    clear hb hr hc HT HB
    generalize hn : l.length = n at *
    have HN := Lib.hid hn
    have hnI : n ≤ 9223372036854775807 := HRW.out.2.1
    clear hn
    go_wp2_with fail
    go_loopw [5, 6, 7] (fun t i _ wr => ∃ (k : Nat) (u : ByteArray), k ≤ n ∧ i = .int .i64 k ∧ t = .string u ∧ Hid (u = cat l k) ∧ Hid (Below w1.heap.size w1 wr)) (fun _ i _ _ => n - (intOf i).toNat)
    case atStart => exact ⟨0, ⟨#[]⟩, Nat.zero_le _, rfl, rfl, Lib.hid rfl, Lib.hid (Below.refl _ _)⟩
    case round =>
      obtain ⟨k, u, hk, rfl, rfl, HU, HW⟩ := hrel
      have HT := Lib.hid (HTW.out.next HW.out)
      have HB := Lib.hid (upB HBW.out HW.out)
      have HR := Lib.hid (HRW.out.up HW.out)
      by_cases hlt : k < n
      · obtain ⟨b1, o1, rfl, hl1, hc1⟩ := HR.out.2.2 (by omega)
        have d1 := hc1 k hlt
        have hltI : (k : Int) < (n : Int) := by omega
        have HNX := Lib.hid (HNF.out k hlt)
        have hs1 := cat_size (l := l) (k + 1) n (by omega)
        rw [cat, ByteArray.size_append, ByteArray.size_append, ← HU.out] at hs1
        have hs2 := HLS.out
        have z1 : (ByteArray.mk #[10]).size = 1 := rfl
        obtain ⟨x, hx⟩ : ∃ x, sat l k = x := ⟨_, rfl⟩
        have HX := Lib.hid hx
        rw [hx] at d1 HNX hs1
        have W1 : IntKind.i64.wrap ((k : Int) + 1) = (k : Int) + 1 := IntWalk.i64_in _ (by omega)
        obtain ⟨v, hv⟩ : ∃ v, u ++ x = v := ⟨_, rfl⟩
        obtain ⟨v2, hv2⟩ : ∃ v2, v ++ (⟨#[10]⟩ : ByteArray) = v2 := ⟨_, rfl⟩
        have su : u.size ≤ 2001 := by omega
        have sx : x.size ≤ 2001 := by omega
        have sv : v.size ≤ 4002 := by rw [← hv, ByteArray.size_append]; omega
        have HF : Hid (v2 = cat l (k + 1)) := Lib.hid (by rw [← hv2, ← hv, HU.out, cat, hx])
        obtain ⟨p, hp⟩ : ∃ p, x.size = p := ⟨_, rfl⟩
        have hpI : ((x.size : Nat) : Int) = (p : Int) := by omega
        have HP := Lib.hid hp
        have hp2 : p ≤ 2001 := by omega
        clear hc1 hx hs1 hs2 hp
        go_wp2_with fail
        go_loopw [7] (fun j w2 => ∃ q : Nat, q ≤ p ∧ j = .int .i64 q ∧ w2 = wr) (fun j _ => p - (intOf j).toNat)
        case atStart => exact ⟨0, Nat.zero_le _, rfl, rfl⟩
        case round =>
          obtain ⟨q, hq, rfl, rfl⟩ := hrel
          by_cases hql : q < p
          · have hqI : (q : Int) < (p : Int) := by omega
            have hqs : q < x.size := by rw [HP.out]; exact hql
            have hne := HNX.out q hqs
            obtain ⟨c, hcc⟩ : ∃ c, bt x q = c := ⟨_, rfl⟩
            have gx := (bt_at hqs).trans hcc
            rw [hcc] at hne
            have e1 : (c == 10) = false := by simp [hne]
            have W2 : IntKind.i64.wrap ((q : Int) + 1) = (q : Int) + 1 := IntWalk.i64_in _ (by omega)
            clear hne hcc
            go_wp2_with fail
            go_roundw
            case rel => exact ⟨q + 1, by omega, by go_num, by trivial⟩
            case measure => simp [intOf]; omega
          · have hqI : ¬ (q : Int) < (p : Int) := by omega
            go_wp2_with fail
            go_roundw
            case rel => exact ⟨k + 1, v2, by omega, by go_num, rfl, HF, HW⟩
            case measure => simp [intOf]; omega
      · have hltI : ¬ (k : Int) < (n : Int) := by omega
        obtain rfl : k = n := by omega
        by_cases h0 : m = 0
        · have e0 := emp (t := s) (by have := HM.out; omega)
          have hus : u = s := by rw [HU.out, HLB.out, if_neg (fun h => h.1 (by rw [HM.out]; exact h0))]
          subst hus
          have es := eq_self_ u
          clear h0
          go_wp2_with fail
          go_at_call 13
          refine (awake13 _ HT.out).mono ?_
          rintro e w99 ⟨rfl, hb⟩
          replace HT := Lib.hid (HT.out.next hb)
          replace HB := Lib.hid (upB HB.out hb)
          clear hb
          go_wp2_with fail
          go_ret
          exact ⟨rfl, HB.out⟩
        · have e0 := not_emp (t := s) (by rw [HM.out]; exact h0)
          have hms : m - 1 < s.size := by rw [HM.out]; omega
          obtain ⟨c, hcc⟩ : ∃ c, bt s (m - 1) = c := ⟨_, rfl⟩
          have gx := (bt_at hms).trans hcc
          have W2 : IntKind.i64.wrap ((m : Int) - 1) = (m : Int) - 1 := IntWalk.i64_in _ (by omega)
          have T2 : ((m : Int) - 1).toNat = m - 1 := by omega
          have q1 : (0 : Int) ≤ (m : Int) - 1 := by omega
          have q2 : (m : Int) - 1 < (m : Int) := by omega
          by_cases h10 : c = 10
          · have e1 : (c != 10) = false := by simp [h10]
            have hus : u = s := by rw [HU.out, HLB.out, if_neg (fun h => h.2 (by rw [HM.out, hcc]; exact h10))]
            subst hus
            have es := eq_self_ u
            clear h10 hcc
            go_wp2_with fail
            go_at_call 13
            refine (awake13 _ HT.out).mono ?_
            rintro e w99 ⟨rfl, hb⟩
            replace HT := Lib.hid (HT.out.next hb)
            replace HB := Lib.hid (upB HB.out hb)
            clear hb
            go_wp2_with fail
            go_ret
            exact ⟨rfl, HB.out⟩
          · have e1 : (c != 10) = true := by simp [h10]
            have hus : s ++ (⟨#[10]⟩ : ByteArray) = u := by rw [HU.out, HLB.out, if_pos ⟨by rw [HM.out]; exact h0, by rw [HM.out, hcc]; exact h10⟩]
            have es := eq_self_ u
            clear h10 hcc
            go_wp2_with fail
            go_at_call 13
            refine (awake13 _ HT.out).mono ?_
            rintro e w99 ⟨rfl, hb⟩
            replace HT := Lib.hid (HT.out.next hb)
            replace HB := Lib.hid (upB HB.out hb)
            clear hb
            go_wp2_with fail
            go_ret
            exact ⟨rfl, HB.out⟩
end Go.Proofs.YtcgcccieccicnaaDoor.Wk
