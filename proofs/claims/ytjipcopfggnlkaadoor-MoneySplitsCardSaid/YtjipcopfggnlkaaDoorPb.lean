/- Parse in the layer, walked: the format and the number. Conditions: the string has at most 1000000 bytes. -/
import Derived.Test.YtjipcopfggnlkaaDoorPa
set_option linter.unusedSimpArgs false
set_option linter.unusedVariables false
namespace Go.Proofs.YtjipcopfggnlkaaDoor.Wk
open Go.RowKit
open Go.Proofs.YtjipcopfggnlkaaDoor.Mt
theorem tx_len (l : List UInt8) : (tx l).length ≤ l.length := by
  rcases tx_cases l with ⟨t, e1, e2⟩ | ⟨_, e2⟩ | ⟨e1, e2⟩
  · rw [e2, e1]; simp
  · rw [e2]; exact Nat.le_refl _
  · rw [e2, e1]; exact Nat.le_refl _
theorem cU_len (l : List UInt8) : (cU l).length ≤ l.length := by
  rcases idx_cut l with ⟨_, h⟩ | ⟨_, h⟩
  · rw [h]; exact Nat.le_refl _
  · omega
theorem strd_inj {a b : List UInt8} (h : strd a = strd b) : a = b := by
  have := congrArg (fun s : ByteArray => s.data.toList) h
  exact this
set_option maxHeartbeats 2000000 in
theorem isAmount40 (s : ByteArray) (w : World) (hs : s.size ≤ 1000000) : Calls Tryd.prog 40 #[.string s] w fun e w' => e = .returned (.bool (amB s.data.toList)) ∧ Below w.heap.size w w' := by
  obtain ⟨l, hl⟩ : ∃ l, s.data.toList = l := ⟨_, rfl⟩
  have HL := Lib.hid hl
  have hll : l.length ≤ 1000000 := by rw [← hl, ← str_size]; exact hs
  have htl : (tx l).length ≤ 1000000 := Nat.le_trans (tx_len l) hll
  have hul : (cU (tx l)).length ≤ 1000000 := Nat.le_trans (cU_len _) htl
  have hcl : (cC (tx l)).length ≤ 1000000 := by unfold cC; rw [List.length_drop]; omega
  obtain ⟨U, hU⟩ : ∃ U, cU (tx l) = U := ⟨_, rfl⟩
  obtain ⟨C, hC⟩ : ∃ C, cC (tx l) = C := ⟨_, rfl⟩
  rw [hU] at hul
  rw [hC] at hcl
  have HU := Lib.hid hU
  have HC := Lib.hid hC
  have HTL := Lib.hid htl
  obtain ⟨u, hu⟩ : ∃ u, strd U = u := ⟨_, rfl⟩
  obtain ⟨c, hc⟩ : ∃ u, strd C = u := ⟨_, rfl⟩
  have hus : u.size = U.length := by rw [← hu, strd_size]
  have hcs : c.size = C.length := by rw [← hc, strd_size]
  have HUU := Lib.hid hu
  have HCC := Lib.hid hc
  have HUL : Hid (u.data.toList = U) := Lib.hid (by rw [← hu]; rfl)
  have HCL : Hid (c.data.toList = C) := Lib.hid (by rw [← hc]; rfl)
  have HUS := Lib.hid hus
  have HCS := Lib.hid hcs
  obtain ⟨R, hR⟩ : ∃ R, amB l = R := ⟨_, rfl⟩
  have HR := Lib.hid hR
  rw [hl, hR]
  have hu1 : u.size ≤ 1000000 := by omega
  have hc1 : c.size ≤ 1000000 := by omega
  clear hl hll htl hU hC hu hc hus hcs hR hul hcl
  go_enter Tryd.func40, Tryd.ntmps40
  go_wp2_with fail
  refine (trim49 s w).mono ?_
  rintro e w1 ⟨rfl, hw⟩
  rw [hw, HL.out]
  clear hw
  go_wp2_with fail
  refine (cut48 (tx l) w HTL.out).mono ?_
  rintro e w1 ⟨⟨b, rfl⟩, hb⟩
  rw [HU.out, HC.out, HUU.out, HCC.out]
  have HB := Lib.hid hb
  clear hb
  by_cases h1 : U = []
  · have e1 : u = ⟨#[]⟩ := by rw [← HUU.out, h1]; rfl
    obtain rfl : false = R := by rw [← HR.out]; unfold amB; rw [HU.out, if_pos h1]
    clear h1 HUU HUL HUS
    subst e1
    go_wp2_with fail
    go_ret
    exact ⟨rfl, HB.out⟩
  · have n1 : u ≠ ⟨#[]⟩ := fun h => h1 (strd_inj (by rw [HUU.out, h]; rfl))
    have g1 : (u.toList == []) = false := beq_false_of_ne (by rw [ByteArray.toList_eq, HUL.out]; exact h1)
    go_wp2_with fail
    refine (digits50 u w1 hu1).mono ?_
    rintro e w2 ⟨rfl, hw⟩
    rw [hw, HUL.out]
    clear hw
    rcases fot (dgB U) with h2 | h2
    · obtain rfl : false = R := by rw [← HR.out]; unfold amB; rw [HU.out, if_neg h1, if_pos h2]
      rw [h2]
      go_wp2_with fail
      go_ret
      exact ⟨rfl, HB.out⟩
    · rw [h2]
      by_cases h3 : C.length ≠ 2
      · obtain rfl : false = R := by rw [← HR.out]; unfold amB; rw [HU.out, HC.out, if_neg h1, if_neg (by rw [h2]; decide), if_pos h3]
        have g3 : ((c.size : Int) != 2) = true := by rw [HCS.out]; simp; omega
        go_wp2_with fail
        go_ret
        exact ⟨rfl, HB.out⟩
      · have g3 : ((c.size : Int) != 2) = false := by rw [HCS.out]; simp; omega
        go_wp2_with fail
        refine (digits50 c w1 hc1).mono ?_
        rintro e w2 ⟨rfl, hw⟩
        rw [hw, HCL.out]
        clear hw
        rcases fot (dgB C) with h4 | h4
        · obtain rfl : false = R := by rw [← HR.out]; unfold amB; rw [HU.out, HC.out, if_neg h1, if_neg (by rw [h2]; decide), if_neg h3, if_pos h4]
          rw [h4]
          go_wp2_with fail
          go_ret
          exact ⟨rfl, HB.out⟩
        · rw [h4]
          have HRR : Hid (R = if U = [48] ∨ lat U 0 ≠ 48 then decide (l ≠ [45, 48, 46, 48, 48]) else false) := Lib.hid (by rw [← HR.out]; unfold amB; rw [HU.out, HC.out, if_neg h1, if_neg (by rw [h2]; decide), if_neg h3, if_neg (by rw [h4]; decide)])
          have k0 : 0 < u.size := by rw [HUS.out]; exact List.length_pos_iff.2 h1
          have hbt := bt_lat k0
          rw [HUL.out] at hbt
          obtain ⟨x, hx⟩ : ∃ x, lat U 0 = x := ⟨_, rfl⟩
          rw [hx] at hbt
          have HX := Lib.hid hx
          clear hx h2 h3 h4
          by_cases h7 : l = [45, 48, 46, 48, 48]
          · have e7 : s = ⟨#[45, 48, 46, 48, 48]⟩ := by rw [← strd_of s, HL.out, h7]; rfl
            obtain rfl : false = R := by rw [HRR.out, decide_eq_false (fun h => h h7)] <;> simp
            have g7 : (s.toList == [45, 48, 46, 48, 48]) = true := by rw [ByteArray.toList_eq, HL.out, h7]; rfl
            by_cases h5 : U = [48]
            · have e5 : u = ⟨#[48]⟩ := by rw [← HUU.out, h5]; rfl
              clear g1 n1 hbt HUL HUU HUS
              subst e5
              go_wp2_with fail
              go_ret
              exact ⟨rfl, HB.out⟩
            · have n5 : u ≠ ⟨#[48]⟩ := fun h => h5 (strd_inj (by rw [HUU.out, h]; rfl))
              have g5 : (u.toList == [48]) = false := beq_false_of_ne (by rw [ByteArray.toList_eq, HUL.out]; exact h5)
              by_cases h6 : x = 48
              · have g6 : (x != 48) = false := by simp [h6]
                go_wp2_with fail
                go_ret
                exact ⟨rfl, HB.out⟩
              · have g6 : (x != 48) = true := by simp [h6]
                go_wp2_with fail
                go_ret
                exact ⟨rfl, HB.out⟩
          · have n7 : s ≠ ⟨#[45, 48, 46, 48, 48]⟩ := fun h => h7 (by rw [← HL.out, h])
            have g7 : (s.toList == [45, 48, 46, 48, 48]) = false := beq_false_of_ne (by rw [ByteArray.toList_eq, HL.out]; exact h7)
            have HR7 : Hid (R = if U = [48] ∨ lat U 0 ≠ 48 then true else false) := Lib.hid (by rw [HRR.out, decide_eq_true h7])
            by_cases h5 : U = [48]
            · have e5 : u = ⟨#[48]⟩ := by rw [← HUU.out, h5]; rfl
              obtain rfl : true = R := by rw [HR7.out, if_pos (.inl h5)]
              clear g1 n1 hbt HUL HUU HUS
              subst e5
              go_wp2_with fail
              go_ret
              exact ⟨rfl, HB.out⟩
            · have n5 : u ≠ ⟨#[48]⟩ := fun h => h5 (strd_inj (by rw [HUU.out, h]; rfl))
              have g5 : (u.toList == [48]) = false := beq_false_of_ne (by rw [ByteArray.toList_eq, HUL.out]; exact h5)
              by_cases h6 : x = 48
              · have g6 : (x != 48) = false := by simp [h6]
                obtain rfl : false = R := by rw [HR7.out, if_neg (by rintro (h9 | h9); exact h5 h9; exact h9 (by rw [HX.out]; exact h6))]
                go_wp2_with fail
                go_ret
                exact ⟨rfl, HB.out⟩
              · have g6 : (x != 48) = true := by simp [h6]
                obtain rfl : true = R := by rw [HR7.out, if_pos (.inr (by rw [HX.out]; exact h6))]
                go_wp2_with fail
                go_ret
                exact ⟨rfl, HB.out⟩
end Go.Proofs.YtjipcopfggnlkaaDoor.Wk
