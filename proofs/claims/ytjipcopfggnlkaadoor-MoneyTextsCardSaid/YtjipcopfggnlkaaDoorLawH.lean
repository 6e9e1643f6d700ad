/- The law of texts: the reference's Parse, walked. Conditions: the arguments read as they are; the table reads as it is laid. -/
import Derived.Test.YtjipcopfggnlkaaDoorHd
import Derived.Test.YtjipcopfggnlkaaDoorPn
import Derived.Test.YtjipcopfggnlkaaDoorLawD
import Derived.Deep.CutRange
set_option linter.unusedSimpArgs false
set_option linter.unusedVariables false
namespace Go.Proofs.YtjipcopfggnlkaaDoor.Wk
open Go.RowKit
open Go.Proofs.YtjipcopfggnlkaaDoor.Mt
set_option maxHeartbeats 8000000 in
set_option maxRecDepth 100000 in
theorem parse24 (s : ByteArray) (l : List UInt8) (w : World) (hs : s.size ≤ 1000000) (hl : s.data.toList = l) : Calls Tryd.prog 24 #[.string s] w fun e w' => e = .returned (.tuple #[.int .i64 (paV l), .int .i64 (paE l)]) ∧ Below w.heap.size w w' := by
  have HL := Lib.hid hl
  have HLS : Hid (l.length = s.size) := Lib.hid (by rw [← hl, ← str_size])
  obtain ⟨V, hV⟩ : ∃ V, paV l = V := ⟨_, rfl⟩
  obtain ⟨E, hE⟩ : ∃ E, paE l = E := ⟨_, rfl⟩
  have HV := Lib.hid hV
  have HE := Lib.hid hE
  rw [hV, hE]
  have HBAD := Lib.hid (gd_bad (l := l))
  have HALL := Lib.hid (fun h1 h2 h3 h4 => gd_all (l := l) h1 h2 h3 h4)
  rw [hV, hE] at HBAD HALL
  obtain ⟨neg, hneg⟩ : ∃ b, decide (lat l 0 = 45) = b := ⟨_, rfl⟩
  have HNEG := Lib.hid hneg
  obtain ⟨X, hX⟩ : ∃ X : ByteArray, (if neg then s.extract 1 s.size else s) = X := ⟨_, rfl⟩
  have hXl : X.data.toList = tx l := by
    rw [← hX]
    rcases tx_cases l with ⟨t, e1, e2⟩ | ⟨e1, e2⟩ | ⟨e1, e2⟩
    · have : neg = true := by rw [← hneg, e1]; rfl
      rw [this, if_pos rfl, e2]
      rw [ByteArray.data_extract, Array.toList_extract, hl, e1]
      have hsz : s.size = t.length + 1 := by rw [← HLS.out, e1]; rfl
      rw [hsz]
      simp [List.extract]
    · have : neg = false := by rw [← hneg]; exact decide_eq_false e1
      rw [this, e2]
      exact hl
    · have : neg = false := by rw [← hneg, e1]; rfl
      rw [this, e2, ← e1]
      exact hl
  have HXX := Lib.hid hX
  have hXs : X.size ≤ 1000000 := by
    rw [← hX]
    split
    · rw [ByteArray.size_extract]; omega
    · exact hs
  have HXL := Lib.hid hXl
  have HXT : Hid ((tx l).length = X.size) := Lib.hid (by rw [← hXl, ← str_size])
  have HS := Lib.hid hs
  have HXS := Lib.hid hXs
  clear hV hE hl hneg hX hXl hXs
  go_enter Tryd.func24, Tryd.ntmps24
  go_upto_region 2 with fail
  go_cut [5] from 9 to 17 (fun s5 wx => s5 = .bool neg ∧ wx = w)
  case first =>
    by_cases h0 : s.size = 0
    · have hI : decide ((0 : Int) < (s.size : Int)) = false := decide_eq_false (by omega)
      have hI' : decide (0 < s.size) = false := decide_eq_false (by omega)
      obtain rfl : neg = false := by
        rw [← HNEG.out, show l = [] from List.eq_nil_of_length_eq_zero (by rw [HLS.out]; exact h0)]
        rfl
      go_wp2_with fail
      go_meet
      exact ⟨rfl, rfl⟩
    · have hI : decide ((0 : Int) < (s.size : Int)) = true := decide_eq_true (by omega)
      have hI' : decide (0 < s.size) = true := decide_eq_true (by omega)
      have hp : 0 < s.size := by omega
      have hbt := bt_lat hp
      rw [HL.out] at hbt
      obtain ⟨x, hx⟩ : ∃ x, lat l 0 = x := ⟨_, rfl⟩
      rw [hx] at hbt
      by_cases hx45 : x = 45
      · obtain rfl : neg = true := by rw [← HNEG.out, hx, hx45]; rfl
        have g : (x == 45) = true := by simp [hx45]
        clear hx45 hx h0
        go_wp2_with fail
        go_meet
        exact ⟨rfl, rfl⟩
      · obtain rfl : neg = false := by rw [← HNEG.out, hx]; exact decide_eq_false hx45
        have g : (x == 45) = false := by simp [hx45]
        clear hx45 hx h0
        go_wp2_with fail
        go_meet
        exact ⟨rfl, rfl⟩
  case rest =>
  obtain ⟨rfl, rfl⟩ := hcut
  go_upto_if 18 with fail
  go_cut [4] from 19 to 20 (fun s4 wx => s4 = .string X ∧ wx = wc)
  case first =>
    rcases fot neg with rfl | rfl
    · have e : s = X := HXX.out
      subst e
      go_wp2_with fail
      go_meet
      exact ⟨rfl, rfl⟩
    · have e : s.extract 1 s.size = X := HXX.out
      have hpos : 1 ≤ s.size := by
        rcases Nat.eq_zero_or_pos s.size with h0 | h0
        · exfalso
          have h1 := HNEG.out
          rw [show l = [] from List.eq_nil_of_length_eq_zero (by rw [HLS.out]; exact h0)] at h1
          cases h1
        · exact h0
      go_wp2_with fail
      go_meet
      exact ⟨rfl, rfl⟩
  case rest =>
  obtain ⟨rfl, rfl⟩ := hcut
  obtain ⟨k, hk⟩ : ∃ k, X.size = k := ⟨_, rfl⟩
  have HB0 := Lib.hid (Below.refl wc.heap.size wc)
  by_cases h4 : k < 4
  · obtain ⟨rfl, rfl⟩ : (5 : Int) = E ∧ (0 : Int) = V := by
      have := HBAD.out (by rw [HXT.out, hk]; rintro ⟨h, _⟩; omega)
      exact ⟨this.1.symm, this.2.symm⟩
    obtain ⟨P, hP⟩ : ∃ P, (k : Int) - 3 = P := ⟨_, rfl⟩
    have W1 : IntKind.i64.wrap ((k : Int) - 3) = P := by rw [hP]; exact IntWalk.i64_in _ (by omega)
    have d1 : decide (P < 1) = true := decide_eq_true (by omega)
    have hkI : (X.size : Int) = (k : Int) := by omega
    clear hP hk h4
    go_wp2_with fail
    go_ret2
    exact ⟨rfl, HB0.out⟩
  obtain ⟨p, rfl⟩ : ∃ p, k = p + 3 := ⟨k - 3, by omega⟩
  have W1 : IntKind.i64.wrap ((X.size : Int) - 3) = (p : Int) := by rw [show (X.size : Int) - 3 = (p : Int) by omega]; exact IntWalk.i64_in _ (by have := HXS.out; omega)
  have d1 : decide ((p : Int) < 1) = false := decide_eq_false (by omega)
  have hpX : p < X.size := by omega
  have h0X : 0 < X.size := by omega
  have hbt := bt_lat hpX
  have hb0 := bt_lat h0X
  rw [HXL.out] at hbt hb0
  obtain ⟨x, hx⟩ : ∃ x, lat (tx l) p = x := ⟨_, rfl⟩
  obtain ⟨y, hy⟩ : ∃ x, lat (tx l) 0 = x := ⟨_, rfl⟩
  rw [hx] at hbt
  rw [hy] at hb0
  have hXp := hk
  rw [HXT.out, hk, show p + 3 - 3 = p by omega, hx, hy] at HBAD HALL
  by_cases hx46 : x = 46
  case neg =>
    obtain ⟨rfl, rfl⟩ : (5 : Int) = E ∧ (0 : Int) = V := by
      have := HBAD.out (by rintro ⟨_, h, _⟩; exact hx46 h)
      exact ⟨this.1.symm, this.2.symm⟩
    have g : (x != 46) = true := by simp [hx46]
    clear hx46 hx hy hk hXp
    go_wp2_with fail
    go_ret2
    exact ⟨rfl, HB0.out⟩
  case pos =>
  have g : (x != 46) = false := by simp [hx46]
  by_cases hz : 1 < p ∧ y = 48
  · obtain ⟨rfl, rfl⟩ : (5 : Int) = E ∧ (0 : Int) = V := by
      have := HBAD.out (by rintro ⟨_, _, _, h⟩; exact h ⟨by omega, hz.2⟩)
      exact ⟨this.1.symm, this.2.symm⟩
    have g1 : decide ((1 : Int) < (p : Int)) = true := decide_eq_true (by omega)
    have g1' : decide (1 < p) = true := decide_eq_true hz.1
    have g2 : (y == 48) = true := by simp [hz.2]
    clear hx46 hx hy hz hk hXp
    go_wp2_with fail
    go_ret2
    exact ⟨rfl, HB0.out⟩
  have HZ := Lib.hid hz
  have HK := Lib.hid hk
  have HXE := Lib.hid hx46
  clear hk hXp hx46
  go_upto_region 6 with fail
  go_cut [40] from 24 to 40 (fun s wx => s = .bool false ∧ wx = wc)
  case first =>
    by_cases hp1 : 1 < p
    · have hy48 : y ≠ 48 := fun h => HZ.out ⟨hp1, h⟩
      have g1 : decide ((1 : Int) < (p : Int)) = true := decide_eq_true (by omega)
      have g1' : decide (1 < p) = true := decide_eq_true hp1
      have g2 : (y == 48) = false := by simp [hy48]
      clear hx hy hz hp1 hy48
      go_wp2_with fail
      go_meet
      exact ⟨rfl, rfl⟩
    · have g1 : decide ((1 : Int) < (p : Int)) = false := decide_eq_false (by omega)
      have g1' : decide (1 < p) = false := decide_eq_false hp1
      clear hx hy hz hp1
      go_wp2_with fail
      go_meet
      exact ⟨rfl, rfl⟩
  case rest =>
  obtain ⟨rfl, rfl⟩ := hcut
  have h4 : ¬ (4 < p + 3 ∧ y = 48) := by rintro ⟨h8, h9⟩; exact hz ⟨by omega, h9⟩
  have HALL2 := Lib.hid (fun h3 => HALL.out (by omega) HXE.out h3 h4)
  have HBAD2 : Hid (¬ (∀ i, i < p + 3 → i ≠ p → 48 ≤ lat (tx l) i ∧ lat (tx l) i ≤ 57) → E = 5 ∧ V = 0) := Lib.hid (fun h => HBAD.out (by rintro ⟨_, _, h3, _⟩; exact h h3))
  have HX46 : Hid (lat (tx l) p = 46) := Lib.hid (by rw [hx]; exact HXE.out)
  have hp6 : p ≤ 1000000 := by have := HXS.out; omega
  clear HALL HBAD hbt hb0 hx hy g hz h4 d1 W1
  go_wp2_with fail
  go_loopw [7, 8] (fun nv_ iv wr => ∃ (i n : Nat), i ≤ p + 3 ∧ iv = .int .i64 i ∧ nv_ = .int .i64 (n : Int) ∧ n ≤ 11258999068426249 ∧ Hid (n = nv ((tx l).take i) ∨ (1125899906842624 < n ∧ 1125899906842624 < nv ((tx l).take i))) ∧ Hid (∀ j, j < i → j ≠ p → 48 ≤ lat (tx l) j ∧ lat (tx l) j ≤ 57) ∧ Hid (Below wc.heap.size wc wr)) (fun _ iv _ => p + 3 - (intOf iv).toNat)
  case atStart => exact ⟨0, 0, by omega, rfl, rfl, by omega, Lib.hid (.inl rfl), Lib.hid (fun j h => by omega), HB0⟩
  case round =>
    obtain ⟨i, n, hi, rfl, rfl, hnM, HN, HD, HB⟩ := hrel
    by_cases hlt : i < p + 3
    · have hltX : i < X.size := by have := HK.out; omega
      have hltI : (i : Int) < (X.size : Int) := by omega
      have V1 : IntKind.i64.wrap ((i : Int) + 1) = (i : Int) + 1 := IntWalk.i64_in _ (by omega)
      have hnx := nv_succ (l := tx l) (i := i) (by rw [HXT.out]; exact hltX)
      have hbt := bt_lat hltX
      rw [HXL.out] at hbt
      by_cases hip : i = p
      · have gp : ((i : Int) == (p : Int)) = true := by simp [hip]
        have HN2 : Hid (n = nv ((tx l).take (i + 1)) ∨ (1125899906842624 < n ∧ 1125899906842624 < nv ((tx l).take (i + 1)))) := Lib.hid (by
          have h46 := HX46.out
          rw [← hip] at h46
          have hb46 : (tx l).getD i 0 = 46 := by
            apply UInt8.toNat_inj.1
            unfold lat at h46
            show ((tx l).getD i 0).toNat = 46
            omega
          rw [hnx, hb46, st_skip (.inr rfl)]
          exact HN.out)
        have HD2 : Hid (∀ j, j < i + 1 → j ≠ p → 48 ≤ lat (tx l) j ∧ lat (tx l) j ≤ 57) := Lib.hid (fun j h1 h2 => HD.out j (by omega) h2)
        have HI : Hid (i + 1 ≤ p + 3) := Lib.hid (by omega)
        clear hnx hbt hip
        go_wp2_with fail
        go_roundw
        case rel => exact ⟨i + 1, n, HI.out, by go_num, rfl, hnM, HN2, HD2, HB⟩
        case measure => simp [intOf]; omega
      · have gp : ((i : Int) == (p : Int)) = false := by simp; omega
        obtain ⟨x, hx⟩ : ∃ x, lat (tx l) i = x := ⟨_, rfl⟩
        have hxr := lat_in (tx l) i
        rw [hx] at hbt hxr
        by_cases hx1 : x < 48
        · obtain ⟨rfl, rfl⟩ : (5 : Int) = E ∧ (0 : Int) = V := by
            have := HBAD2.out (fun h => by have := h i hlt hip; rw [hx] at this; omega)
            exact ⟨this.1.symm, this.2.symm⟩
          have q1 : decide (x < 48) = true := decide_eq_true hx1
          clear hnx hx hip hxr
          go_wp2_with fail
          go_ret2
          exact ⟨rfl, HB.out⟩
        have q1 : decide (x < 48) = false := decide_eq_false hx1
        by_cases hx2 : 57 < x
        · obtain ⟨rfl, rfl⟩ : (5 : Int) = E ∧ (0 : Int) = V := by
            have := HBAD2.out (fun h => by have := h i hlt hip; rw [hx] at this; omega)
            exact ⟨this.1.symm, this.2.symm⟩
          have q2 : decide (57 < x) = true := decide_eq_true hx2
          clear hnx hx hip hxr
          go_wp2_with fail
          go_ret2
          exact ⟨rfl, HB.out⟩
        have q2 : decide (57 < x) = false := decide_eq_false hx2
        have HD2 : Hid (∀ j, j < i + 1 → j ≠ p → 48 ≤ lat (tx l) j ∧ lat (tx l) j ≤ 57) := Lib.hid (fun j h1 h2 => by
          by_cases hj : j = i
          · rw [hj, hx]; omega
          · exact HD.out j (by omega) h2)
        have HI : Hid (i + 1 ≤ p + 3) := Lib.hid (by omega)
        have hsd : ∀ m : Nat, ((st m ((tx l).getD i 0) : Nat) : Int) = 10 * (m : Int) + (x - 48) := fun m => by
          have := st_dig (n := m) (l := tx l) (i := i) (by rw [hx]; omega) (by rw [hx]; omega)
          rw [hx] at this
          exact this
        have hmono : nv ((tx l).take i) ≤ nv ((tx l).take (i + 1)) := by rw [hnx]; exact st_ge _ _
        by_cases hbig : 1125899906842624 < n
        · have hbI : decide ((n : Int) ≤ 1125899906842624) = false := decide_eq_false (by omega)
          have hbI' : ¬ (n : Int) ≤ 1125899906842624 := by omega
          have HN2 : Hid (n = nv ((tx l).take (i + 1)) ∨ (1125899906842624 < n ∧ 1125899906842624 < nv ((tx l).take (i + 1)))) := Lib.hid (by
            have := HN.out
            omega)
          clear hnx hx hip hxr hsd hmono hx1 hx2
          go_wp2_with fail
          go_roundw
          case rel => exact ⟨i + 1, n, HI.out, by go_num, rfl, hnM, HN2, HD2, HB⟩
          case measure => simp [intOf]; omega
        · have hbI : decide ((n : Int) ≤ 1125899906842624) = true := decide_eq_true (by omega)
          have hbI' : (n : Int) ≤ 1125899906842624 := by omega
          obtain ⟨m, hm⟩ : ∃ m : Nat, 10 * (n : Int) + (x - 48) = (m : Int) := ⟨(10 * (n : Int) + (x - 48)).toNat, by omega⟩
          obtain ⟨t1, ht1⟩ : ∃ m : Int, 10 * (n : Int) = m := ⟨_, rfl⟩
          obtain ⟨t2, ht2⟩ : ∃ m : Int, t1 + x = m := ⟨_, rfl⟩
          have U1 : IntKind.i64.wrap (10 * (n : Int)) = t1 := by rw [ht1]; exact IntWalk.i64_in _ (by omega)
          have U2 : IntKind.i64.wrap (t1 + x) = t2 := by rw [ht2]; exact IntWalk.i64_in _ (by omega)
          have U3 : IntKind.i64.wrap (t2 - 48) = (m : Int) := by rw [show t2 - 48 = (m : Int) by omega]; exact IntWalk.i64_in _ (by omega)
          have U4 : IntKind.i64.wrap x = x := IntWalk.i64_in _ (by omega)
          have HN2 : Hid (m = nv ((tx l).take (i + 1)) ∨ (1125899906842624 < m ∧ 1125899906842624 < nv ((tx l).take (i + 1)))) := Lib.hid (by
            left
            have h1 : n = nv ((tx l).take i) := by have := HN.out; omega
            have h2 := hsd n
            rw [hnx, ← h1]
            omega)
          have HM : Hid (m ≤ 11258999068426249) := Lib.hid (by omega)
          clear hnx hx hip hxr hsd hmono hx1 hx2 hm ht1 ht2 hbig
          go_wp2_with fail
          go_roundw
          case rel => exact ⟨i + 1, m, HI.out, by go_num, rfl, HM.out, HN2, HD2, HB⟩
          case measure => simp [intOf]; omega
    · obtain rfl : i = p + 3 := by omega
      have hltI : ¬ ((p + 3 : Nat) : Int) < (X.size : Int) := by have := HK.out; omega
      have hfull : (tx l).take (p + 3) = tx l := List.take_of_length_le (by rw [HXT.out, HK.out]; exact Nat.le_refl _)
      have hN := HN.out
      rw [hfull] at hN
      obtain ⟨hA1, hA2⟩ := HALL2.out HD.out
      have hneg := HNEG.out
      have HF := Lib.hid (rfl : fitB (n : Int) = fitB (n : Int))
      by_cases hn0 : n = 0
      · subst hn0
        have hnv : nv (tx l) = 0 := by omega
        rcases fot neg with rfl | rfl
        · have hng : ¬ lat l 0 = 45 := of_decide_eq_false hneg
          obtain ⟨e1, e2⟩ := (hA2 (fun h => hng h.1)).2 (by omega)
          rw [if_neg hng, hnv] at e2
          obtain rfl : (0 : Int) = E := e1.symm
          obtain rfl : (0 : Int) = V := e2.symm
          have hf0 : fitB 0 = true := by decide
          clear hA1 hA2 hN hfull hneg e1 e2 hng
          go_wp2_with fail
          refine (fits17 0 wr).mono ?_
          rintro e w1 ⟨rfl, hw⟩
          rw [hw, hf0]
          clear hw
          go_wp2_with fail
          go_ret2
          exact ⟨rfl, HB.out⟩
        · obtain ⟨e1, e2⟩ := hA1 (of_decide_eq_true hneg) hnv
          obtain rfl : (5 : Int) = E := e1.symm
          obtain rfl : (0 : Int) = V := e2.symm
          clear hA1 hA2 hN hfull hneg e1 e2
          go_wp2_with fail
          go_ret2
          exact ⟨rfl, HB.out⟩
      · have gn0 : ((n : Int) == 0) = false := by simp [hn0]
        have hnz : ¬ (lat l 0 = 45 ∧ nv (tx l) = 0) := by rintro ⟨_, h⟩; omega
        obtain ⟨b1, b2⟩ := hA2 hnz
        by_cases hbig : 1125899906842624 < n
        · obtain ⟨e1, e2⟩ := b1 (by omega)
          obtain rfl : (13 : Int) = E := e1.symm
          obtain rfl : (0 : Int) = V := e2.symm
          have hfb : fitB (n : Int) = false := (fit_no _).2 (by omega)
          clear hA1 hA2 hN hfull hneg e1 e2 b1 b2 hnz hn0 hbig
          go_wp2_with fail
          refine (fits17 (n : Int) wr).mono ?_
          rintro e w1 ⟨rfl, hw⟩
          rw [hw, hfb]
          clear hw
          go_wp2_with fail
          go_ret2
          exact ⟨rfl, HB.out⟩
        · have hnn : n = nv (tx l) := by omega
          obtain ⟨e1, e2⟩ := b2 (by omega)
          rw [← hnn] at e2
          have hfb : fitB (n : Int) = true := (fit_iff _).2 (by omega)
          obtain rfl : (0 : Int) = E := e1.symm
          have Y1 : IntKind.i64.wrap (-(n : Int)) = -(n : Int) := IntWalk.i64_in _ (by omega)
          rcases fot neg with rfl | rfl
          · rw [if_neg (of_decide_eq_false hneg)] at e2
            have HE2 := Lib.hid e2
            clear hA1 hA2 hN hfull hneg e1 e2 b1 b2 hnz hn0 hbig hnn
            go_wp2_with fail
            refine (fits17 (n : Int) wr).mono ?_
            rintro e w1 ⟨rfl, hw⟩
            rw [hw, hfb]
            clear hw
            go_wp2_with fail
            go_ret2
            rw [HE2.out]
            exact ⟨rfl, HB.out⟩
          · rw [if_pos (of_decide_eq_true hneg)] at e2
            have HE2 := Lib.hid e2
            clear hA1 hA2 hN hfull hneg e1 e2 b1 b2 hnz hn0 hbig hnn
            go_wp2_with fail
            refine (fits17 (n : Int) wr).mono ?_
            rintro e w1 ⟨rfl, hw⟩
            rw [hw, hfb]
            clear hw
            go_wp2_with fail
            go_ret2
            rw [HE2.out]
            exact ⟨rfl, HB.out⟩
set_option maxHeartbeats 4000000 in
set_option maxRecDepth 100000 in
theorem texts_law (n : Int) (s : ByteArray) (w : World) (hn : In64 n) (ht : Tb w) : Calls Tryd.prog 6 #[.int .i64 n, .string s] w fun e w' => e = .returned (.bool true) ∧ Below w.heap.size w w' := by
  have HT := Lib.hid ht
  have HN := Lib.hid hn
  clear hn ht
  by_cases hbig : 2000 < s.size
  · have d1 : decide ((2000 : Int) < (s.size : Int)) = true := decide_eq_true (by omega)
    go_enter Tryd.func6, Tryd.ntmps6
    go_wp2_with fail
    refine (awake11 w HT.out).mono ?_
    rintro e w1 ⟨rfl, hb⟩
    have HB := Lib.hid hb
    clear hb
    go_wp2_with fail
    go_ret
    exact ⟨rfl, HB.out⟩
  · have d1 : decide ((2000 : Int) < (s.size : Int)) = false := decide_eq_false (by omega)
    have HSZ : Hid (s.size ≤ 1000000) := Lib.hid (by omega)
    obtain ⟨V, hV⟩ : ∃ V, paV s.data.toList = V := ⟨_, rfl⟩
    obtain ⟨E, hE⟩ : ∃ E, paE s.data.toList = E := ⟨_, rfl⟩
    obtain ⟨Z, hZ⟩ : ∃ Z, strd (shL n) = Z := ⟨_, rfl⟩
    have HV := Lib.hid hV
    have HE := Lib.hid hE
    have HZ := Lib.hid hZ
    have e1 : (V == V) = true := by simp
    have e2 : (E == E) = true := by simp
    have e3 : (Z.toList == Z.toList) = true := by simp
    clear hV hE hZ
    go_enter Tryd.func6, Tryd.ntmps6
    go_wp2_with fail
    refine (parse23 s s.data.toList w HSZ.out rfl).mono ?_
    rintro e w1 ⟨rfl, hb⟩
    have HB := Lib.hid hb
    rw [HV.out, HE.out]
    clear hb
    go_wp2_with fail
    refine (parse24 s s.data.toList w1 HSZ.out rfl).mono ?_
    rintro e w2 ⟨rfl, hb⟩
    replace HB := Lib.hid (upB HB.out hb)
    rw [HV.out, HE.out]
    clear hb
    go_wp2_with fail
    refine (show25 n w2 HN.out (HT.out.next HB.out)).mono ?_
    rintro e w3 ⟨rfl, hb⟩
    replace HB := Lib.hid (upB HB.out hb)
    rw [HZ.out]
    clear hb
    go_wp2_with fail
    refine (show26 n w3 HN.out).mono ?_
    rintro e w4 ⟨rfl, hb⟩
    replace HB := Lib.hid (upB HB.out hb)
    rw [HZ.out]
    clear hb
    go_wp2_with fail
    refine (awake11 w4 (HT.out.next HB.out)).mono ?_
    rintro e w5 ⟨rfl, hb⟩
    replace HB := Lib.hid (upB HB.out hb)
    clear hb
    go_wp2_with fail
    go_ret
    exact ⟨rfl, HB.out⟩
end Go.Proofs.YtjipcopfggnlkaaDoor.Wk
