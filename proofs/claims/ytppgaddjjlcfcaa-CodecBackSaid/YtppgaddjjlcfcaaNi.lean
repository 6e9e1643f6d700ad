/- The number at an offset, in the reference. Conditions: the bytes read as the list; at most 100000 bytes. -/
import Derived.Test.YtppgaddjjlcfcaaNr
set_option linter.unusedSimpArgs false
set_option linter.unusedVariables false
namespace Go.Proofs.Ytppgaddjjlcfcaa.Wk
open Go.RowKit
open Go.Proofs.Ytppgaddjjlcfcaa.Mt
set_option maxHeartbeats 8000000 in
set_option maxRecDepth 100000 in
theorem int19 (A : Option Addr) (n c : Nat) (t : Int) (zs : List Int) (w : World) (h : Rk .u8 w w.heap.size A n zs) (ht : -9223372036854775808 ≤ t ∧ t ≤ 9223372036854775807) (hn : n ≤ 100000) : Calls Try.prog 19 #[.slice A n c, .int .i64 t] w fun e w' => e = .returned (.tuple #[.int .i64 (nuV zs n t), .int .i64 (nuN zs n t), .int .i64 (nuE zs n t)]) ∧ Below w.heap.size w w' := by
  go_enter Try.func19, Try.ntmps19
  by_cases hr : t < 0 ∨ (n : Int) < t
  · have he := nu_range (zs := zs) hr
    have HE := Lib.hid he
    have HV := Lib.hid (nu_ev (zs := zs) (n := n) (t := t) (by rw [he]; decide))
    clear h he
    by_cases h0 : t < 0
    · have e1 : decide (t < 0) = true := decide_eq_true h0
      clear hr
      go_wp2_with fail
      go_ret3
      exact ⟨by rw [HE.out, HV.out.1, HV.out.2]; rfl, Below.refl _ _⟩
    · have e1 : decide (t < 0) = false := decide_eq_false h0
      have e2 : decide ((n : Int) < t) = true := decide_eq_true (by omega)
      clear hr
      go_wp2_with fail
      go_ret3
      exact ⟨by rw [HE.out, HV.out.1, HV.out.2]; rfl, Below.refl _ _⟩
  · obtain ⟨a, rfl⟩ : ∃ a : Nat, t = (a : Int) := ⟨t.toNat, by omega⟩
    have han : a ≤ n := by omega
    have e1 : decide ((a : Int) < 0) = false := decide_eq_false (by omega)
    have e2 : decide ((n : Int) < (a : Int)) = false := decide_eq_false (by omega)
    have HZ := Lib.hid h
    clear h hr ht
    go_wp2_with fail
    clear e1 e2
    refine (groups38 A n c a zs w HZ.out han hn).mono ?_
    rintro e w1 ⟨rfl, hb⟩
    have HB := Lib.hid hb
    have HZ1 := Lib.hid (HZ.out.up hb)
    clear hb HZ
    have W9 : IntKind.i64.wrap ((n : Int) - (a : Int)) = (n : Int) - (a : Int) := IntWalk.i64_in _ (by omega)
    cases hf : ft zs a (min 10 (n - a)) with
    | none =>
      have hh := ft_hi _ hf
      rw [nuK_none hh]
      have he := nu_none han hh
      clear hf hh
      by_cases h10 : n - a < 10
      · rw [if_pos h10] at he
        have HE := Lib.hid he
        have HV := Lib.hid (nu_ev (zs := zs) (n := n) (t := (a : Int)) (by rw [he]; decide))
        have e3 : decide ((n : Int) - (a : Int) < 10) = true := decide_eq_true (by omega)
        clear he
        go_wp2_with fail
        go_ret3
        exact ⟨by rw [HE.out, HV.out.1, HV.out.2]; rfl, HB.out⟩
      · rw [if_neg h10] at he
        have HE := Lib.hid he
        have HV := Lib.hid (nu_ev (zs := zs) (n := n) (t := (a : Int)) (by rw [he]; decide))
        have e3 : decide ((n : Int) - (a : Int) < 10) = false := decide_eq_false (by omega)
        clear he
        go_wp2_with fail
        go_ret3
        exact ⟨by rw [HE.out, HV.out.1, HV.out.2]; rfl, HB.out⟩
    | some k =>
      obtain ⟨h1, h2, h3⟩ := ft_is _ _ hf
      rw [Nat.lt_min] at h1
      have hkn : a + k < n := by omega
      have hk9 : k < 10 := h1.1
      rw [nuK_some hkn hk9 h2 h3]
      have HH := Lib.hid h2
      have HZ2 := Lib.hid h3
      have KI : (((k + 1 : Nat) : Nat) : Int) = (k : Int) + 1 := by omega
      rw [KI]
      clear hf h1 h2 h3 KI
      have e3 : ((k : Int) + 1 == 0) = false := by simp; omega
      obtain ⟨b, off, rfl, hbB, hcell⟩ := HZ1.out.get (i := a + k) (by omega)
      have hx8 := u8_r (HZ1.out.2.2.2 (a + k))
      obtain ⟨x, hx⟩ : ∃ x, iat zs (a + k) = x := ⟨_, rfl⟩
      rw [hx] at hcell hx8
      have HXX := Lib.hid hx
      clear hx
      have W1 : IntKind.i64.wrap ((a : Int) + 9) = (a : Int) + 9 := IntWalk.i64_in _ (by omega)
      have W2 : IntKind.i64.wrap ((a : Int) + ((k : Int) + 1)) = (a : Int) + ((k : Int) + 1) := IntWalk.i64_in _ (by omega)
      obtain ⟨s, hs⟩ : ∃ s : Int, (a : Int) + (k : Int) = s := ⟨_, rfl⟩
      have W3 : IntKind.i64.wrap ((a : Int) + ((k : Int) + 1) - 1) = s := by rw [IntWalk.i64_in _ (by omega)]; omega
      have p1 : (0 : Int) ≤ s := by omega
      have p2 : s < (n : Int) := by omega
      have T1 : s.toNat = a + k := by omega
      have HS := Lib.hid hs
      clear hs
      by_cases h9 : k = 9
      · have e4 : ((k : Int) + 1 == 10) = true := by simp; omega
        have p3 : (0 : Int) ≤ (a : Int) + 9 := by omega
        have p4 : (a : Int) + 9 < (n : Int) := by omega
        have T2 : ((a : Int) + 9).toNat = a + k := by omega
        by_cases hx1 : 1 < x
        · have e5 : decide ((1 : Int) < x) = true := decide_eq_true hx1
          have he := nu_bad hkn hk9 HH.out HZ2.out (.inl ⟨h9, by rw [HXX.out]; exact hx1⟩)
          have HE := Lib.hid he
          have HV := Lib.hid (nu_ev (zs := zs) (n := n) (t := (a : Int)) (by rw [he]; decide))
          clear he h9
          go_wp2_with fail
          go_ret3
          exact ⟨by rw [HE.out, HV.out.1, HV.out.2]; rfl, HB.out⟩
        · have e5 : decide ((1 : Int) < x) = false := decide_eq_false hx1
          have e6 : decide ((1 : Int) < (k : Int) + 1) = true := decide_eq_true (by omega)
          by_cases hx0 : x = 0
          · have e7 : (x == 0) = true := by simp [hx0]
            have he := nu_bad hkn hk9 HH.out HZ2.out (.inr ⟨by omega, by rw [HXX.out]; exact hx0⟩)
            have HE := Lib.hid he
            have HV := Lib.hid (nu_ev (zs := zs) (n := n) (t := (a : Int)) (by rw [he]; decide))
            clear he h9
            go_wp2_with fail
            go_ret3
            exact ⟨by rw [HE.out, HV.out.1, HV.out.2]; rfl, HB.out⟩
          · have e7 : (x == 0) = false := by simp [hx0]
            have hgood : ¬ ((k = 9 ∧ 1 < iat zs (a + k)) ∨ (0 < k ∧ iat zs (a + k) = 0)) := by rw [HXX.out]; omega
            clear h9
            obtain ⟨tp, htp⟩ : ∃ tp, dv zs a (k + 1) = tp := ⟨_, rfl⟩
            have hok := nu_ok hkn hk9 HH.out HZ2.out hgood
            rw [htp] at hok
            have HOK := Lib.hid hok
            have HTP := Lib.hid htp
            have HNX : Hid (((a + k + 1 : Nat) : Int) = (a : Int) + ((k : Int) + 1)) := Lib.hid (by omega)
            have HTOP : Hid (tp < 18446744073709551616) := Lib.hid (by rw [← htp]; exact dv_top hk9 HZ2.out (by rw [HXX.out]; exact hx8.1) (fun h => hgood (.inl h)))
            have W4 : IntKind.i64.wrap ((k : Int) + 1 - 1) = (k : Int) := by rw [IntWalk.i64_in _ (by omega)]; omega
            clear hgood hok htp
            as_aux_lemma =>
              go_wp2_with fail
              clear hcell
              go_loopw [8, 9] (fun cv iv wr => ∃ m cd : Nat, m ≤ k + 1 ∧ iv = .int .i64 ((m : Int) - 1) ∧ cv = .int .u64 (cd : Int) ∧ cd < 18446744073709551616 ∧ Hid (tp = dv zs a m + cd * 2 ^ (7 * m)) ∧ wr = w1) (fun _ iv _ => ((intOf iv) + 1).toNat)
              case atStart => exact ⟨k + 1, 0, Nat.le_refl _, by go_num, rfl, by omega, Lib.hid (by rw [HTP.out]; omega), rfl⟩
              case round =>
                obtain ⟨m, cd, hm, rfl, rfl, hcd, HD, rfl⟩ := hrel
                rcases m with _ | m
                · have HCD : Hid (cd = tp) := Lib.hid (by have := HD.out; simp [dv] at this; omega)
                  have z1 : ¬ (0 : Int) ≤ ((0 : Nat) : Int) - 1 := by omega
                  have z2 : decide ((0 : Int) ≤ ((0 : Nat) : Int) - 1) = false := decide_eq_false z1
                  have HU : Hid (nuV zs n (a : Int) = uz cd) := Lib.hid (by rw [HOK.out.2.1, HCD.out])
                  obtain ⟨q, hq⟩ : ∃ q, cd / 2 = q := ⟨_, rfl⟩
                  have hqb : q < 9223372036854775808 := by omega
                  have D1 : Int.tdiv (cd : Int) 2 = (q : Int) := by rw [Int.tdiv_eq_ediv_of_nonneg (by omega)]; omega
                  have Q1 : IntKind.u64.wrap (q : Int) = (q : Int) := by rw [IntKind.wrap_u64]; omega
                  have Q2 : IntKind.i64.wrap (q : Int) = (q : Int) := IntWalk.i64_in _ (by omega)
                  have Q3 : IntKind.i64.wrap (-(q : Int)) = -(q : Int) := IntWalk.i64_in _ (by omega)
                  have Q4 : IntKind.i64.wrap (-(q : Int) - 1) = -(q : Int) - 1 := IntWalk.i64_in _ (by omega)
                  rcases (by omega : cd % 2 = 0 ∨ cd % 2 = 1) with hr | hr
                  · have M1 : Int.tmod (cd : Int) 2 = 0 := by rw [Int.tmod_eq_emod_of_nonneg (by omega)]; omega
                    have HV : Hid (nuV zs n (a : Int) = (q : Int)) := Lib.hid (by rw [HU.out]; unfold uz; rw [hr, hq]; rfl)
                    clear hq hr
                    go_wp2_with fail
                    go_ret3
                    exact ⟨by rw [HV.out, HOK.out.1, HOK.out.2.2, HNX.out]; rfl, HB.out⟩
                  · have M1 : Int.tmod (cd : Int) 2 = 1 := by rw [Int.tmod_eq_emod_of_nonneg (by omega)]; omega
                    have HV : Hid (nuV zs n (a : Int) = -(q : Int) - 1) := Lib.hid (by rw [HU.out]; unfold uz; rw [hr, hq, if_pos rfl])
                    clear hq hr
                    go_wp2_with fail
                    go_ret3
                    exact ⟨by rw [HV.out, HOK.out.1, HOK.out.2.2, HNX.out]; rfl, HB.out⟩
                · have hmI : (((m + 1 : Nat) : Nat) : Int) - 1 = (m : Int) := by omega
                  have z1 : (0 : Int) ≤ (m : Int) := by omega
                  have W1 : IntKind.i64.wrap ((a : Int) + (m : Int)) = (a : Int) + (m : Int) := IntWalk.i64_in _ (by omega)
                  have W2 : IntKind.i64.wrap ((m : Int) - 1) = (m : Int) - 1 := IntWalk.i64_in _ (by omega)
                  have p1 : (0 : Int) ≤ (a : Int) + (m : Int) := by omega
                  have p2 : (a : Int) + (m : Int) < (n : Int) := by omega
                  have T1 : ((a : Int) + (m : Int)).toNat = a + m := by omega
                  have hcell := HZ1.out.two (i := a + m) (by omega)
                  have hy8 := u8_r (HZ1.out.2.2.2 (a + m))
                  obtain ⟨y, hy⟩ : ∃ y, iat zs (a + m) = y := ⟨_, rfl⟩
                  rw [hy] at hcell hy8
                  obtain ⟨v, hv⟩ : ∃ v, y.toNat % 128 = v := ⟨_, rfl⟩
                  have M1 : Int.tmod y 128 = (v : Int) := by rw [Int.tmod_eq_emod_of_nonneg hy8.1]; omega
                  have hv8 : v < 128 := by omega
                  have V1 : IntKind.u8.wrap (v : Int) = (v : Int) := IntWalk.u8_in _ (by omega)
                  have V2 : IntKind.u64.wrap (v : Int) = (v : Int) := by rw [IntKind.wrap_u64]; omega
                  have hsum := HD.out
                  rw [dv, hy, hv] at hsum
                  have hpow : (2 : Nat) ^ (7 * (m + 1)) = 128 * 2 ^ (7 * m) := by rw [Nat.mul_add, Nat.pow_add, Nat.mul_comm]
                  have hpp : 0 < (2 : Nat) ^ (7 * m) := Nat.pow_pos (by decide)
                  have hnew : tp = dv zs a m + (128 * cd + v) * 2 ^ (7 * m) := by
                    rw [hsum, hpow, Nat.add_mul, Nat.add_assoc]
                    congr 1
                    rw [Nat.add_comm]
                    congr 1
                    rw [Nat.mul_left_comm, Nat.mul_assoc]
                  have hle : 128 * cd + v ≤ tp := by
                    rw [hnew]
                    have := Nat.le_mul_of_pos_right (128 * cd + v) hpp
                    omega
                  have hlt64 : 128 * cd + v < 18446744073709551616 := Nat.lt_of_le_of_lt hle HTOP.out
                  have U1 : IntKind.u64.wrap (128 * (cd : Int)) = 128 * (cd : Int) := by rw [IntKind.wrap_u64]; omega
                  obtain ⟨cd2, hcd2⟩ : ∃ c2, 128 * cd + v = c2 := ⟨_, rfl⟩
                  have U2 : IntKind.u64.wrap (128 * (cd : Int) + (v : Int)) = (cd2 : Int) := by rw [IntKind.wrap_u64]; omega
                  rw [hcd2] at hnew hlt64
                  have HN := Lib.hid hnew
                  rw [hmI]
                  clear hy hv hsum hpow hpp hnew hle hcd2 HD hmI
                  go_wp2_with fail
                  go_roundw
                  case rel => exact ⟨m, cd2, by omega, rfl, rfl, hlt64, HN, by trivial⟩
                  case measure => simp [intOf]
      · have e4 : ((k : Int) + 1 == 10) = false := by simp; omega
        by_cases hk0 : 0 < k
        · have e6 : decide ((1 : Int) < (k : Int) + 1) = true := decide_eq_true (by omega)
          by_cases hx0 : x = 0
          · have e7 : (x == 0) = true := by simp [hx0]
            have he := nu_bad hkn hk9 HH.out HZ2.out (.inr ⟨by omega, by rw [HXX.out]; exact hx0⟩)
            have HE := Lib.hid he
            have HV := Lib.hid (nu_ev (zs := zs) (n := n) (t := (a : Int)) (by rw [he]; decide))
            clear he
            go_wp2_with fail
            go_ret3
            exact ⟨by rw [HE.out, HV.out.1, HV.out.2]; rfl, HB.out⟩
          · have e7 : (x == 0) = false := by simp [hx0]
            have hgood : ¬ ((k = 9 ∧ 1 < iat zs (a + k)) ∨ (0 < k ∧ iat zs (a + k) = 0)) := by rw [HXX.out]; omega
            obtain ⟨tp, htp⟩ : ∃ tp, dv zs a (k + 1) = tp := ⟨_, rfl⟩
            have hok := nu_ok hkn hk9 HH.out HZ2.out hgood
            rw [htp] at hok
            have HOK := Lib.hid hok
            have HTP := Lib.hid htp
            have HNX : Hid (((a + k + 1 : Nat) : Int) = (a : Int) + ((k : Int) + 1)) := Lib.hid (by omega)
            have HTOP : Hid (tp < 18446744073709551616) := Lib.hid (by rw [← htp]; exact dv_top hk9 HZ2.out (by rw [HXX.out]; exact hx8.1) (fun h => hgood (.inl h)))
            have W4 : IntKind.i64.wrap ((k : Int) + 1 - 1) = (k : Int) := by rw [IntWalk.i64_in _ (by omega)]; omega
            clear hgood hok htp
            as_aux_lemma =>
              go_wp2_with fail
              clear hcell
              go_loopw [8, 9] (fun cv iv wr => ∃ m cd : Nat, m ≤ k + 1 ∧ iv = .int .i64 ((m : Int) - 1) ∧ cv = .int .u64 (cd : Int) ∧ cd < 18446744073709551616 ∧ Hid (tp = dv zs a m + cd * 2 ^ (7 * m)) ∧ wr = w1) (fun _ iv _ => ((intOf iv) + 1).toNat)
              case atStart => exact ⟨k + 1, 0, Nat.le_refl _, by go_num, rfl, by omega, Lib.hid (by rw [HTP.out]; omega), rfl⟩
              case round =>
                obtain ⟨m, cd, hm, rfl, rfl, hcd, HD, rfl⟩ := hrel
                rcases m with _ | m
                · have HCD : Hid (cd = tp) := Lib.hid (by have := HD.out; simp [dv] at this; omega)
                  have z1 : ¬ (0 : Int) ≤ ((0 : Nat) : Int) - 1 := by omega
                  have z2 : decide ((0 : Int) ≤ ((0 : Nat) : Int) - 1) = false := decide_eq_false z1
                  have HU : Hid (nuV zs n (a : Int) = uz cd) := Lib.hid (by rw [HOK.out.2.1, HCD.out])
                  obtain ⟨q, hq⟩ : ∃ q, cd / 2 = q := ⟨_, rfl⟩
                  have hqb : q < 9223372036854775808 := by omega
                  have D1 : Int.tdiv (cd : Int) 2 = (q : Int) := by rw [Int.tdiv_eq_ediv_of_nonneg (by omega)]; omega
                  have Q1 : IntKind.u64.wrap (q : Int) = (q : Int) := by rw [IntKind.wrap_u64]; omega
                  have Q2 : IntKind.i64.wrap (q : Int) = (q : Int) := IntWalk.i64_in _ (by omega)
                  have Q3 : IntKind.i64.wrap (-(q : Int)) = -(q : Int) := IntWalk.i64_in _ (by omega)
                  have Q4 : IntKind.i64.wrap (-(q : Int) - 1) = -(q : Int) - 1 := IntWalk.i64_in _ (by omega)
                  rcases (by omega : cd % 2 = 0 ∨ cd % 2 = 1) with hr | hr
                  · have M1 : Int.tmod (cd : Int) 2 = 0 := by rw [Int.tmod_eq_emod_of_nonneg (by omega)]; omega
                    have HV : Hid (nuV zs n (a : Int) = (q : Int)) := Lib.hid (by rw [HU.out]; unfold uz; rw [hr, hq]; rfl)
                    clear hq hr
                    go_wp2_with fail
                    go_ret3
                    exact ⟨by rw [HV.out, HOK.out.1, HOK.out.2.2, HNX.out]; rfl, HB.out⟩
                  · have M1 : Int.tmod (cd : Int) 2 = 1 := by rw [Int.tmod_eq_emod_of_nonneg (by omega)]; omega
                    have HV : Hid (nuV zs n (a : Int) = -(q : Int) - 1) := Lib.hid (by rw [HU.out]; unfold uz; rw [hr, hq, if_pos rfl])
                    clear hq hr
                    go_wp2_with fail
                    go_ret3
                    exact ⟨by rw [HV.out, HOK.out.1, HOK.out.2.2, HNX.out]; rfl, HB.out⟩
                · have hmI : (((m + 1 : Nat) : Nat) : Int) - 1 = (m : Int) := by omega
                  have z1 : (0 : Int) ≤ (m : Int) := by omega
                  have W1 : IntKind.i64.wrap ((a : Int) + (m : Int)) = (a : Int) + (m : Int) := IntWalk.i64_in _ (by omega)
                  have W2 : IntKind.i64.wrap ((m : Int) - 1) = (m : Int) - 1 := IntWalk.i64_in _ (by omega)
                  have p1 : (0 : Int) ≤ (a : Int) + (m : Int) := by omega
                  have p2 : (a : Int) + (m : Int) < (n : Int) := by omega
                  have T1 : ((a : Int) + (m : Int)).toNat = a + m := by omega
                  have hcell := HZ1.out.two (i := a + m) (by omega)
                  have hy8 := u8_r (HZ1.out.2.2.2 (a + m))
                  obtain ⟨y, hy⟩ : ∃ y, iat zs (a + m) = y := ⟨_, rfl⟩
                  rw [hy] at hcell hy8
                  obtain ⟨v, hv⟩ : ∃ v, y.toNat % 128 = v := ⟨_, rfl⟩
                  have M1 : Int.tmod y 128 = (v : Int) := by rw [Int.tmod_eq_emod_of_nonneg hy8.1]; omega
                  have hv8 : v < 128 := by omega
                  have V1 : IntKind.u8.wrap (v : Int) = (v : Int) := IntWalk.u8_in _ (by omega)
                  have V2 : IntKind.u64.wrap (v : Int) = (v : Int) := by rw [IntKind.wrap_u64]; omega
                  have hsum := HD.out
                  rw [dv, hy, hv] at hsum
                  have hpow : (2 : Nat) ^ (7 * (m + 1)) = 128 * 2 ^ (7 * m) := by rw [Nat.mul_add, Nat.pow_add, Nat.mul_comm]
                  have hpp : 0 < (2 : Nat) ^ (7 * m) := Nat.pow_pos (by decide)
                  have hnew : tp = dv zs a m + (128 * cd + v) * 2 ^ (7 * m) := by
                    rw [hsum, hpow, Nat.add_mul, Nat.add_assoc]
                    congr 1
                    rw [Nat.add_comm]
                    congr 1
                    rw [Nat.mul_left_comm, Nat.mul_assoc]
                  have hle : 128 * cd + v ≤ tp := by
                    rw [hnew]
                    have := Nat.le_mul_of_pos_right (128 * cd + v) hpp
                    omega
                  have hlt64 : 128 * cd + v < 18446744073709551616 := Nat.lt_of_le_of_lt hle HTOP.out
                  have U1 : IntKind.u64.wrap (128 * (cd : Int)) = 128 * (cd : Int) := by rw [IntKind.wrap_u64]; omega
                  obtain ⟨cd2, hcd2⟩ : ∃ c2, 128 * cd + v = c2 := ⟨_, rfl⟩
                  have U2 : IntKind.u64.wrap (128 * (cd : Int) + (v : Int)) = (cd2 : Int) := by rw [IntKind.wrap_u64]; omega
                  rw [hcd2] at hnew hlt64
                  have HN := Lib.hid hnew
                  rw [hmI]
                  clear hy hv hsum hpow hpp hnew hle hcd2 HD hmI
                  go_wp2_with fail
                  go_roundw
                  case rel => exact ⟨m, cd2, by omega, rfl, rfl, hlt64, HN, by trivial⟩
                  case measure => simp [intOf]
        · have e6 : decide ((1 : Int) < (k : Int) + 1) = false := decide_eq_false (by omega)
          have hgood : ¬ ((k = 9 ∧ 1 < iat zs (a + k)) ∨ (0 < k ∧ iat zs (a + k) = 0)) := by rw [HXX.out]; omega
          obtain ⟨tp, htp⟩ : ∃ tp, dv zs a (k + 1) = tp := ⟨_, rfl⟩
          have hok := nu_ok hkn hk9 HH.out HZ2.out hgood
          rw [htp] at hok
          have HOK := Lib.hid hok
          have HTP := Lib.hid htp
          have HNX : Hid (((a + k + 1 : Nat) : Int) = (a : Int) + ((k : Int) + 1)) := Lib.hid (by omega)
          have HTOP : Hid (tp < 18446744073709551616) := Lib.hid (by rw [← htp]; exact dv_top hk9 HZ2.out (by rw [HXX.out]; exact hx8.1) (fun h => hgood (.inl h)))
          have W4 : IntKind.i64.wrap ((k : Int) + 1 - 1) = (k : Int) := by rw [IntWalk.i64_in _ (by omega)]; omega
          clear hgood hok htp
          as_aux_lemma =>
            go_wp2_with fail
            clear hcell
            go_loopw [8, 9] (fun cv iv wr => ∃ m cd : Nat, m ≤ k + 1 ∧ iv = .int .i64 ((m : Int) - 1) ∧ cv = .int .u64 (cd : Int) ∧ cd < 18446744073709551616 ∧ Hid (tp = dv zs a m + cd * 2 ^ (7 * m)) ∧ wr = w1) (fun _ iv _ => ((intOf iv) + 1).toNat)
            case atStart => exact ⟨k + 1, 0, Nat.le_refl _, by go_num, rfl, by omega, Lib.hid (by rw [HTP.out]; omega), rfl⟩
            case round =>
              obtain ⟨m, cd, hm, rfl, rfl, hcd, HD, rfl⟩ := hrel
              rcases m with _ | m
              · have HCD : Hid (cd = tp) := Lib.hid (by have := HD.out; simp [dv] at this; omega)
                have z1 : ¬ (0 : Int) ≤ ((0 : Nat) : Int) - 1 := by omega
                have z2 : decide ((0 : Int) ≤ ((0 : Nat) : Int) - 1) = false := decide_eq_false z1
                have HU : Hid (nuV zs n (a : Int) = uz cd) := Lib.hid (by rw [HOK.out.2.1, HCD.out])
                obtain ⟨q, hq⟩ : ∃ q, cd / 2 = q := ⟨_, rfl⟩
                have hqb : q < 9223372036854775808 := by omega
                have D1 : Int.tdiv (cd : Int) 2 = (q : Int) := by rw [Int.tdiv_eq_ediv_of_nonneg (by omega)]; omega
                have Q1 : IntKind.u64.wrap (q : Int) = (q : Int) := by rw [IntKind.wrap_u64]; omega
                have Q2 : IntKind.i64.wrap (q : Int) = (q : Int) := IntWalk.i64_in _ (by omega)
                have Q3 : IntKind.i64.wrap (-(q : Int)) = -(q : Int) := IntWalk.i64_in _ (by omega)
                have Q4 : IntKind.i64.wrap (-(q : Int) - 1) = -(q : Int) - 1 := IntWalk.i64_in _ (by omega)
                rcases (by omega : cd % 2 = 0 ∨ cd % 2 = 1) with hr | hr
                · have M1 : Int.tmod (cd : Int) 2 = 0 := by rw [Int.tmod_eq_emod_of_nonneg (by omega)]; omega
                  have HV : Hid (nuV zs n (a : Int) = (q : Int)) := Lib.hid (by rw [HU.out]; unfold uz; rw [hr, hq]; rfl)
                  clear hq hr
                  go_wp2_with fail
                  go_ret3
                  exact ⟨by rw [HV.out, HOK.out.1, HOK.out.2.2, HNX.out]; rfl, HB.out⟩
                · have M1 : Int.tmod (cd : Int) 2 = 1 := by rw [Int.tmod_eq_emod_of_nonneg (by omega)]; omega
                  have HV : Hid (nuV zs n (a : Int) = -(q : Int) - 1) := Lib.hid (by rw [HU.out]; unfold uz; rw [hr, hq, if_pos rfl])
                  clear hq hr
                  go_wp2_with fail
                  go_ret3
                  exact ⟨by rw [HV.out, HOK.out.1, HOK.out.2.2, HNX.out]; rfl, HB.out⟩
              · have hmI : (((m + 1 : Nat) : Nat) : Int) - 1 = (m : Int) := by omega
                have z1 : (0 : Int) ≤ (m : Int) := by omega
                have W1 : IntKind.i64.wrap ((a : Int) + (m : Int)) = (a : Int) + (m : Int) := IntWalk.i64_in _ (by omega)
                have W2 : IntKind.i64.wrap ((m : Int) - 1) = (m : Int) - 1 := IntWalk.i64_in _ (by omega)
                have p1 : (0 : Int) ≤ (a : Int) + (m : Int) := by omega
                have p2 : (a : Int) + (m : Int) < (n : Int) := by omega
                have T1 : ((a : Int) + (m : Int)).toNat = a + m := by omega
                have hcell := HZ1.out.two (i := a + m) (by omega)
                have hy8 := u8_r (HZ1.out.2.2.2 (a + m))
                obtain ⟨y, hy⟩ : ∃ y, iat zs (a + m) = y := ⟨_, rfl⟩
                rw [hy] at hcell hy8
                obtain ⟨v, hv⟩ : ∃ v, y.toNat % 128 = v := ⟨_, rfl⟩
                have M1 : Int.tmod y 128 = (v : Int) := by rw [Int.tmod_eq_emod_of_nonneg hy8.1]; omega
                have hv8 : v < 128 := by omega
                have V1 : IntKind.u8.wrap (v : Int) = (v : Int) := IntWalk.u8_in _ (by omega)
                have V2 : IntKind.u64.wrap (v : Int) = (v : Int) := by rw [IntKind.wrap_u64]; omega
                have hsum := HD.out
                rw [dv, hy, hv] at hsum
                have hpow : (2 : Nat) ^ (7 * (m + 1)) = 128 * 2 ^ (7 * m) := by rw [Nat.mul_add, Nat.pow_add, Nat.mul_comm]
                have hpp : 0 < (2 : Nat) ^ (7 * m) := Nat.pow_pos (by decide)
                have hnew : tp = dv zs a m + (128 * cd + v) * 2 ^ (7 * m) := by
                  rw [hsum, hpow, Nat.add_mul, Nat.add_assoc]
                  congr 1
                  rw [Nat.add_comm]
                  congr 1
                  rw [Nat.mul_left_comm, Nat.mul_assoc]
                have hle : 128 * cd + v ≤ tp := by
                  rw [hnew]
                  have := Nat.le_mul_of_pos_right (128 * cd + v) hpp
                  omega
                have hlt64 : 128 * cd + v < 18446744073709551616 := Nat.lt_of_le_of_lt hle HTOP.out
                have U1 : IntKind.u64.wrap (128 * (cd : Int)) = 128 * (cd : Int) := by rw [IntKind.wrap_u64]; omega
                obtain ⟨cd2, hcd2⟩ : ∃ c2, 128 * cd + v = c2 := ⟨_, rfl⟩
                have U2 : IntKind.u64.wrap (128 * (cd : Int) + (v : Int)) = (cd2 : Int) := by rw [IntKind.wrap_u64]; omega
                rw [hcd2] at hnew hlt64
                have HN := Lib.hid hnew
                rw [hmI]
                clear hy hv hsum hpow hpp hnew hle hcd2 HD hmI
                go_wp2_with fail
                go_roundw
                case rel => exact ⟨m, cd2, by omega, rfl, rfl, hlt64, HN, by trivial⟩
                case measure => simp [intOf]

end Go.Proofs.Ytppgaddjjlcfcaa.Wk
