/- The walk of RefillMoney. Conditions: the slices read as lists. -/
import Derived.Test.YtodkcnhdiddbkaaLawC
import Derived.Test.YtodkcnhdiddbkaaMmath
namespace Go.Proofs.Ytodkcnhdiddbkaa.Wk
open Go.RowKit
open Go.Proofs.Ytodkcnhdiddbkaa.Mt
set_option maxHeartbeats 4000000 in
set_option maxRecDepth 100000 in
theorem money_law (b c t v bal : Int) (A : Option Addr) (n k0 : Nat) (zs : List Int) (A2 : Option Addr) (m k2 : Nat) (os : List Bool) (w : World) (h1 : Ri w w.heap.size A n zs) (h2 : Rb w w.heap.size A2 m os) :
    Calls Try.prog 8 #[.agg #[.int .i64 b, .int .i64 c, .int .i64 t, .int .i64 v], .int .i64 bal, .slice A n k0, .slice A2 m k2] w fun e w' => e = .returned (.bool true) ∧ Below w.heap.size w w' := by
  have hn := h1.2.1
  have hm := h2.2.1
  have HA := Lib.hid h1
  have HO := Lib.hid h2
  clear h1 h2
  by_cases g1 : 200 < n
  · go_enter Try.func8, Try.ntmps8
    go_wp2_with fail
    go_ret
    exact ⟨rfl, b1 _ _⟩
  · by_cases g2 : 200 < m
    · go_enter Try.func8, Try.ntmps8
      go_wp2_with fail
      go_ret
      exact ⟨rfl, b1 _ _⟩
    · have hrl := run_len ⟨b, c, t, v⟩ bal zs os
      obtain ⟨⟨out, ⟨s, g, q⟩, er⟩, hr⟩ : ∃ p, runS ⟨b, c, t, v⟩ bal zs os = p := ⟨_, rfl⟩
      have HX := Lib.hid hr
      rw [hr] at hrl
      have HL := Lib.hid hrl.1
      have hA0 := b1 w (.cells #[.int .i64 b, .int .i64 c, .int .i64 t, .int .i64 v] 23)
      have HR0 := Lib.hid (Bx.new w 23 #[.int .i64 b, .int .i64 c, .int .i64 t, .int .i64 v])
      by_cases he0 : er = 0
      · subst he0
        have hol : out.length = n := (hrl.2.1 rfl).trans HA.out.1
        obtain ⟨aa, htr, hle⟩ := run_trail hr
        have HT := Lib.hid htr
        have HLE := Lib.hid hle
        have HOL := Lib.hid hol
        clear hr hrl htr hle hol
        go_enter Try.func8, Try.ntmps8
        go_wp2_with fail
        refine (run_any b c t v bal A n k0 zs A2 m k2 os _ (HA.out.up hA0) (HO.out.up hA0)).mono ?_
        rintro e w1 ⟨vs, he, ho, hb1⟩
        rw [HX.out] at he ho
        have he : e = .returned (.tuple #[vs, .agg #[.int .i64 s, .int .i64 g, .int .i64 q], .int .i64 0]) := he
        subst he
        obtain ⟨A5, c5, rfl, hri⟩ := Ri.owned ho (Nat.le_trans (m := 1024) HL.out (by omega))
        have hri : Ri w1 w1.heap.size A5 out.length out := hri
        rw [HOL.out] at hri
        have HO1 := Lib.hid hri
        have hA1 := upB hA0 hb1
        have HR1 := Lib.hid (HR0.out.next hb1)
        clear ho hb1 hA0 HR0 hri
        have e5 : Value.slice A5 (List.length (out, (⟨s, g, q⟩ : Fi), (0 : Int)).1) c5 = Value.slice A5 n c5 := by show Value.slice A5 out.length c5 = _; rw [HOL.out]
        rw [e5]
        clear e5
        have g3 : ((n : Int) == (n : Int)) = true := by simp
        have g4 : ((n : Int) != (n : Int)) = false := by simp
        have hA2 := hA1.alloc hA1.size (.cells #[.int .i64 s, .int .i64 g, .int .i64 q] 30)
        have HR2 := Lib.hid (HR1.out.alloc (.cells #[.int .i64 s, .int .i64 g, .int .i64 q] 30))
        have HO2 := Lib.hid (HO1.out.up (b1 w1 (.cells #[.int .i64 s, .int .i64 g, .int .i64 q] 30)))
        go_wp2_with fail
        clear g3 g4
        go_loop [12, 13] (fun gd i => ∃ j : Nat, j ≤ m ∧ i = .int .i64 j ∧ gd = .int .i64 (cT os j : Nat)) (fun _ i => m - (intOf i).toNat)
        case atStart => exact ⟨0, Nat.zero_le _, rfl, rfl⟩
        case round =>
          obtain ⟨j, hj, rfl, rfl⟩ := hrel
          have hcj := cT_le os j
          by_cases hlt : j < m
          · have hjo : j < os.length := by rw [HO.out.1]; exact hlt
            obtain ⟨b9, off9, rfl, hb9, d1⟩ := HO.out.at_ hlt
            have d2 := (hA2.cell (p := ⟨b9, off9 + j, none⟩) hb9).trans d1
            clear d1
            rcases fot (os.getD j false) with hq | hq
            · have HH := Lib.hid (cT_no hjo hq)
              rw [hq] at d2
              clear hq
              go_wp2_with fail
              go_round
              case rel => exact ⟨j + 1, by omega, by go_num, by rw [HH.out]⟩
              case measure => simp [intOf]; omega
            · have HH := Lib.hid (cT_yes hjo hq)
              rw [hq] at d2
              clear hq
              go_wp2_with fail
              go_round
              case rel => exact ⟨j + 1, by omega, by go_num, by rw [HH.out]; go_num⟩
              case measure => simp [intOf]; omega
          · have hjm : j = m := by omega
            subst hjm
            clear hlt hj
            go_wp2_with fail
            go_loopw [14, 15, 16] (fun sm ad i wr => ∃ (k : Nat) (p : Int) (a0 a1 : Nat), k ≤ n ∧ i = .int .i64 k ∧ sm = .int .i64 p ∧ ad = .int .i64 a0 ∧ Hid (Trail b c p (zs.drop k) (out.drop k) a1) ∧ Hid (a0 + a1 = aa) ∧ Below (w1.alloc (.cells #[.int .i64 s, .int .i64 g, .int .i64 q] 30)).heap.size (w1.alloc (.cells #[.int .i64 s, .int .i64 g, .int .i64 q] 30)) wr) (fun _ _ i _ => n - (intOf i).toNat)
            case atStart => exact ⟨0, bal, 0, aa, Nat.zero_le _, rfl, rfl, rfl, HT, Lib.hid (Nat.zero_add _), Below.refl _ _⟩
            case round =>
              obtain ⟨k, p, a0, a1, hk, rfl, rfl, rfl, HTr, HAd, hW⟩ := hrel
              have hA3 := upB hA2 hW
              clear HT
              by_cases hltk : k < n
              · have hkz : k < zs.length := by rw [HA.out.1]; exact hltk
                obtain ⟨bz, oz, rfl, hbz, z1⟩ := HA.out.at_ hltk
                have z2 := (hA3.cell (p := ⟨bz, oz + k, none⟩) hbz).trans z1
                obtain ⟨bo, oo, rfl, hbo, o1⟩ := (HO2.out.up hW).at_ hltk
                have hltI : (k : Int) < (n : Int) := by omega
                obtain ⟨f1, f2, f3, hst⟩ := trail_step hkz HTr.out
                obtain ⟨x0, x1⟩ := (fit_iff _).1 f1
                obtain ⟨x2, x3⟩ := (fit_iff _).1 f2
                obtain ⟨x4, x5⟩ := (fit_iff _).1 f3
                obtain ⟨z, hz⟩ : ∃ z, zs.getD k 0 = z := ⟨_, rfl⟩
                rw [hz] at z2 x2 x3 x4 x5 hst
                clear z1 f1 f2 f3 hz
                rcases hst with ⟨e1, htl⟩ | ⟨e1, e2, e3, e4, a2, e5, htl⟩
                · rw [e1] at o1 htl
                  have HTl := Lib.hid htl
                  have g5 : (p + z == p + z) = true := by simp
                  clear e1 htl
                  go_wp2_with fail
                  go_roundw
                  case rel => exact ⟨k + 1, p + z, a0, a1, by omega, by go_num, rfl, rfl, HTl, HAd, hW⟩
                  case measure => simp [intOf]; omega
                · obtain ⟨x6, x7⟩ := (fit_iff _).1 e4
                  rw [e1] at o1 htl x6 x7
                  have HTl := Lib.hid htl
                  have hA5 := HAd.out
                  have HAd2 : Hid (a0 + 1 + a2 = aa) := Lib.hid (by omega)
                  have ha0 : a0 ≤ 1000000 := by
                    have := HLE.out
                    have := cT_le os os.length
                    have := HO.out.1
                    omega
                  obtain ⟨r0, r1, r2, r3⟩ := (HR2.out.next hW).cells4
                  have g5 : (p + z + c == p + z) = false := by simp; omega
                  have g6 : (p + z + c == p + z + c) = true := by simp
                  have g7 : (p + z + c != p + z + c) = false := by simp
                  have g8 : ¬ b ≤ p + z := by omega
                  have w1e : IntKind.i64.wrap (p + z + c) = p + z + c := IntWalk.i64_in _ (by omega)
                  have W1 := Lib.hid w1e
                  clear e1 htl hA5 e5 w1e
                  have g9 : decide (b ≤ p + z) = false := decide_eq_false g8
                  go_wp2_with fail
                  have w1e := W1.out
                  go_quiet (fail)
                  clear w1e
                  go_wp2_with fail
                  go_roundw
                  case rel => exact ⟨k + 1, p + z + c, a0 + 1, a2, by omega, by go_num, rfl, by go_num, HTl, HAd2, below_drewN hW _⟩
                  case measure => simp [intOf]; omega
              · have ha1 := trail_end (by rw [HA.out.1]; omega) HTr.out
                have hcc : Hid ((a0 : Int) ≤ (cT os j : Nat)) := Lib.hid (by
                  have h1 := HAd.out
                  have h2 := HLE.out
                  rw [HO.out.1] at h2
                  omega)
                have hc2 := hcc.out
                clear ha1
                go_wp2_with (refine (alive_any _).mono ?_; rintro e w4 ⟨rfl, hb4⟩)
                go_ret
                exact ⟨rfl, upB hA3 hb4⟩
      · have hol : out = [] := hrl.2.2 he0
        subst hol
        have g3 : (er == 0) = false := by simpa using he0
        have g4 : (er != 0) = true := by simpa using he0
        clear hr hrl he0
        go_enter Try.func8, Try.ntmps8
        go_wp2_with fail
        refine (run_any b c t v bal A n k0 zs A2 m k2 os _ (HA.out.up hA0) (HO.out.up hA0)).mono ?_
        rintro e w1 ⟨vs, he, ho, hb1⟩
        rw [HX.out] at he ho
        have he : e = .returned (.tuple #[vs, .agg #[.int .i64 s, .int .i64 g, .int .i64 q], .int .i64 er]) := he
        subst he
        obtain ⟨A5, c5, rfl, hri⟩ := Ri.owned ho (by simp)
        have hA1 := upB hA0 hb1
        clear ho hb1 hA0 HR0 hri
        go_wp2_with (refine (alive_any _).mono ?_; rintro e w4 ⟨rfl, hb4⟩)
        go_ret
        exact ⟨rfl, upB (hA1.alloc hA1.size _) hb4⟩
end Go.Proofs.Ytodkcnhdiddbkaa.Wk
