/- The number at an offset, in the layer. Conditions: the reader lies in a block of its own; its bytes read as the list; at most 100000 bytes. -/
import Derived.Test.YtppgaddjjlcfcaaCm
set_option linter.unusedSimpArgs false
set_option linter.unusedVariables false
namespace Go.Proofs.Ytppgaddjjlcfcaa.Wk
open Go.RowKit
open Go.Proofs.Ytppgaddjjlcfcaa.Mt
theorem below_set {B g i : Nat} {u : Value} {w w' : World} (h : Below B w w') (hg : g < B) : Below B (w.setCell ⟨g, i, none⟩ u) (w'.setCell ⟨g, i, none⟩ u) := by
  refine ⟨h.os, h.tape, h.output, by simpa [World.setCell] using h.size, fun k hk => ?_⟩
  have h1 := h.block k hk
  simp only [World.setCell, Array.getElem?_modify, h1]
def NuR (zs : List Int) (n : Nat) (t : Int) (g : Nat) (w : World) (e : Ending) (w' : World) : Prop :=
  (nuE zs n t ≠ 0 ∧ e = .panicked [fl (nuE zs n t)] ∧ Below w.heap.size w w') ∨ (nuE zs n t = 0 ∧ e = .returned (.int .i64 (nuV zs n t)) ∧ Below w.heap.size (w.setCell ⟨g, 1, none⟩ (.int .i64 (nuN zs n t))) w')
set_option maxHeartbeats 4000000 in
set_option maxRecDepth 100000 in
theorem number37 (g n c : Nat) (A : Option Addr) (t : Int) (zs : List Int) (B : Nat) (w : World) (h : Bx w g 57 #[.slice A n c, .int .i64 t]) (hz : Rk .u8 w B A n zs) (hB : B ≤ g) (hn : n ≤ 100000) : Calls Try.prog 37 #[.pointer (some ⟨g, 0, none⟩)] w (NuR zs n t g w) := by
  go_enter Try.func37, Try.ntmps37
  go_wp2_with fail
  by_cases hr : t < 0 ∨ (n : Int) < t
  · refine (check_bad g n c A t w h hr).mono ?_
    rintro e w' ⟨rfl, hb⟩
    have he := nu_range (zs := zs) hr
    exact ⟨rfl, .inl ⟨by rw [he]; decide, by rw [he], hb⟩⟩
  · refine (check_ok g n c A t w h hr).mono ?_
    rintro e w1 ⟨rfl, hb⟩
    obtain ⟨a, rfl⟩ : ∃ a : Nat, t = (a : Int) := ⟨t.toNat, by omega⟩
    have han : a ≤ n := by omega
    have HB1 := Lib.hid hb
    have HX := Lib.hid h
    have HZ := Lib.hid hz
    clear hb h hz hr
    go_wp2_with fail
    go_loopw [3, 4, 5, 8] (fun cv _ _ iv wr => ∃ k cd : Nat, k ≤ 10 ∧ iv = .int .i64 k ∧ cv = .int .u64 (cd : Int) ∧ cd < 18446744073709551616 ∧ Hid (k < 10 → cd = dv zs a k) ∧ Hid (Hi zs a k) ∧ Hid (a + k ≤ n) ∧ Hid (Below w.heap.size w wr)) (fun _ _ _ iv _ => 10 - (intOf iv).toNat)
    case atStart => exact ⟨0, 0, Nat.zero_le _, rfl, rfl, by omega, Lib.hid (fun _ => rfl), Lib.hid (fun j hj => by omega), Lib.hid han, HB1⟩
    case round =>
      obtain ⟨k, cd, hk, rfl, rfl, hcd, HCD, HH, HA, HB⟩ := hrel
      obtain ⟨hlt, hc⟩ : g < wr.heap.size ∧ Bx wr g 57 #[.slice A n c, .int .i64 (a : Int)] := ⟨(HX.out.next HB.out).lt, HX.out.next HB.out⟩
      obtain ⟨c0, c1⟩ := hc.cells2
      have hcx := hc
      have fz1 := hc.free 1
      clear hc
      by_cases h10 : k < 10
      · have h10I : (k : Int) < 10 := by omega
        have hak := HA.out
        have W1 : IntKind.i64.wrap ((a : Int) + (k : Int)) = (a : Int) + (k : Int) := IntWalk.i64_in _ (by omega)
        have W2 : IntKind.i64.wrap ((k : Int) + 1) = (k : Int) + 1 := IntWalk.i64_in _ (by omega)
        by_cases hend : a + k = n
        · have e1 : ((a : Int) + (k : Int) == (n : Int)) = true := by simp; omega
          have he := nu_short (zs := zs) han (by omega) (by rw [show n - a = k by omega]; exact HH.out)
          have HE := Lib.hid he
          clear hak he
          go_wp2_with fail
          go_quiet (fail)
          go_wp2_with fail
          refine (fail46 7 _).mono ?_
          rintro e w' ⟨rfl, rfl⟩
          exact ⟨rfl, .inl ⟨by rw [HE.out]; decide, by rw [HE.out], below_drewN HB.out nq⟩⟩
        · have e1 : ((a : Int) + (k : Int) == (n : Int)) = false := by simp; omega
          obtain ⟨b, off, rfl, hbB, hcell⟩ := HZ.out.get (i := a + k) (by omega)
          have hcell2 := (HB.out.cell (p := ⟨b, off + (a + k), none⟩) (by show b < w.heap.size; have := HX.out.lt; omega)).trans hcell
          have hx8 := u8_r (HZ.out.2.2.2 (a + k))
          obtain ⟨x, hx⟩ : ∃ x, iat zs (a + k) = x := ⟨_, rfl⟩
          rw [hx] at hcell2 hx8
          have p1 : (0 : Int) ≤ (a : Int) + (k : Int) := by omega
          have p2 : (a : Int) + (k : Int) < (n : Int) := by omega
          have T1 : ((a : Int) + (k : Int)).toNat = a + k := by omega
          have A1 := and127' hx8.1 hx8.2
          obtain ⟨m, hm⟩ : ∃ m, x.toNat % 128 = m := ⟨_, rfl⟩
          rw [hm] at A1
          have W3 : IntKind.u64.wrap (m : Int) = (m : Int) := by rw [IntKind.wrap_u64]; omega
          have W4 : IntKind.i64.wrap (7 * (k : Int)) = 7 * (k : Int) := IntWalk.i64_in _ (by omega)
          have q7 : ¬ 7 * (k : Int) < 0 := by omega
          have HXX := Lib.hid hx
          obtain ⟨y, hy⟩ : ∃ y, m * 2 ^ (7 * k) % 18446744073709551616 = y := ⟨_, rfl⟩
          have W5 : IntKind.u64.wrap ((m : Int) * 2 ^ (7 * k)) = (y : Int) := by
            rw [IntKind.wrap_u64, ← hy, Int.natCast_emod, Int.natCast_mul, Int.natCast_pow]
            rfl
          obtain ⟨cd2, hcd2⟩ : ∃ c2, cd ||| y = c2 := ⟨_, rfl⟩
          have O1 : bits BinOp.or IntKind.u64 (cd : Int) (y : Int) = (cd2 : Int) := by
            rw [bits_or_u64_nat cd y hcd (by omega), hcd2]
          have hcd2b : cd2 < 18446744073709551616 := by
            rw [← hcd2]
            exact Nat.or_lt_two_pow (n := 64) hcd (by omega)
          have HDV : Hid (k < 9 ∨ x ≤ 1 → cd2 = dv zs a (k + 1)) := Lib.hid (fun hor => by
            have hd := HCD.out h10
            have hl := dv_lt zs a k
            have hmm : m * 2 ^ (7 * k) < 18446744073709551616 := by
              rcases hor with h9 | h9
              · have h1 : (2 : Nat) ^ (7 * k) ≤ 2 ^ 56 := Nat.pow_le_pow_right (by decide) (by omega)
                have h2 := Nat.mul_le_mul (show m ≤ 127 by omega) h1
                have h3 : 127 * 2 ^ 56 < 18446744073709551616 := by decide
                omega
              · have h1 : (2 : Nat) ^ (7 * k) ≤ 2 ^ 63 := Nat.pow_le_pow_right (by decide) (by omega)
                have h2 := Nat.mul_le_mul (show m ≤ 1 by omega) h1
                have h3 : 1 * 2 ^ 63 < 18446744073709551616 := by decide
                omega
            rw [← hcd2, ← hy, Nat.mod_eq_of_lt hmm, dv, hd, hx, hm]
            exact or_add hl)
          have HXX := Lib.hid hx
          clear hx hak hcell hcd2 hy hm
          by_cases h128 : 128 ≤ x
          · have HH2 : Hid (Hi zs a (k + 1)) := Lib.hid (fun j hj => by
              rcases Nat.lt_or_ge j k with h1 | h1
              · exact HH.out j h1
              · obtain rfl : j = k := by omega
                rw [HXX.out]; exact h128)
            have HA2 : Hid (a + (k + 1) ≤ n) := Lib.hid (by have := HA.out; omega)
            have HC2 : Hid (k + 1 < 10 → cd2 = dv zs a (k + 1)) := Lib.hid (fun h => HDV.out (.inl (by omega)))
            as_aux_lemma =>
              go_wp2_with fail
              go_quiet (fail)
              go_wp2_with fail
              go_quiet (fail)
              go_wp2_with fail
              go_roundw
              case rel => exact ⟨k + 1, cd2, by omega, by go_num, rfl, hcd2b, HC2, HH2, HA2, Lib.hid (by first | exact below_drewN HB.out _ | exact below_drewN (below_drewN HB.out _) _)⟩
              case measure => simp [intOf]; omega
          · have HZ2 : Hid (iat zs (a + k) < 128) := Lib.hid (by rw [HXX.out]; omega)
            have HLT : Hid (a + k < n) := Lib.hid (by have := HA.out; omega)
            by_cases hb1 : k = 9 ∧ 1 < x
            · have he := nu_bad HLT.out h10 HH.out HZ2.out (.inl ⟨hb1.1, by rw [HXX.out]; exact hb1.2⟩)
              have HE := Lib.hid he
              have e2 : ((k : Int) == 9) = true := by simp; omega
              have e3 : decide ((1 : Int) < x) = true := decide_eq_true hb1.2
              clear he hb1
              go_wp2_with fail
              go_quiet (fail)
              go_wp2_with fail
              go_quiet (fail)
              go_wp2_with fail
              refine (fail46 5 _).mono ?_
              rintro e w' ⟨rfl, rfl⟩
              exact ⟨rfl, .inl ⟨by rw [HE.out]; decide, by rw [HE.out], by first | exact below_drewN HB.out _ | exact below_drewN (below_drewN HB.out _) _⟩⟩
            · by_cases hb2 : 0 < k ∧ x = 0
              · have he := nu_bad HLT.out h10 HH.out HZ2.out (.inr ⟨hb2.1, by rw [HXX.out]; exact hb2.2⟩)
                have HE := Lib.hid he
                have e3 : decide ((1 : Int) < x) = false := decide_eq_false (by omega)
                have e4 : decide ((0 : Int) < (k : Int)) = true := decide_eq_true (by omega)
                have e5 : decide (0 < k) = true := decide_eq_true (by omega)
                have e6 : (x == 0) = true := by simp [hb2.2]
                clear he hb1 hb2
                rcases fot ((k : Int) == 9) with e2 | e2
                · go_wp2_with fail
                  go_quiet (fail)
                  go_wp2_with fail
                  go_quiet (fail)
                  go_wp2_with fail
                  refine (fail46 5 _).mono ?_
                  rintro e w' ⟨rfl, rfl⟩
                  exact ⟨rfl, .inl ⟨by rw [HE.out]; decide, by rw [HE.out], by first | exact below_drewN HB.out _ | exact below_drewN (below_drewN HB.out _) _⟩⟩
                · go_wp2_with fail
                  go_quiet (fail)
                  go_wp2_with fail
                  go_quiet (fail)
                  go_wp2_with fail
                  refine (fail46 5 _).mono ?_
                  rintro e w' ⟨rfl, rfl⟩
                  exact ⟨rfl, .inl ⟨by rw [HE.out]; decide, by rw [HE.out], by first | exact below_drewN HB.out _ | exact below_drewN (below_drewN HB.out _) _⟩⟩
              · have hgood : ¬ ((k = 9 ∧ 1 < iat zs (a + k)) ∨ (0 < k ∧ iat zs (a + k) = 0)) := by rw [HXX.out]; exact fun h => h.elim hb1 hb2
                have he := nu_ok HLT.out h10 HH.out HZ2.out hgood
                have hdv := HDV.out (by omega)
                rw [← hdv] at he
                have HE := Lib.hid he
                have HNN : Hid (((a + k + 1 : Nat) : Int) = (a : Int) + ((k : Int) + 1)) := Lib.hid (by omega)
                have W6 : IntKind.i64.wrap ((a : Int) + ((k : Int) + 1)) = (a : Int) + ((k : Int) + 1) := IntWalk.i64_in _ (by have := HLT.out; omega)
                obtain ⟨q, hq⟩ : ∃ q, cd2 / 2 = q := ⟨_, rfl⟩
                have D1 : (cd2 : Int) / 2 = (q : Int) := by omega
                have hqb : q < 9223372036854775808 := by omega
                have Q1 : IntKind.i64.wrap (q : Int) = (q : Int) := IntWalk.i64_in _ (by omega)
                have X1 := xor_i64 (q : Int) (by omega)
                have fz := hcx.free 1
                rcases (by omega : cd2 % 2 = 0 ∨ cd2 % 2 = 1) with hr | hr
                · have AN : bits BinOp.and IntKind.u64 (cd2 : Int) 1 = 0 := by
                    have := bits_and_u64_nat cd2 1 hcd2b (by decide)
                    rw [Nat.and_one_is_mod, hr] at this
                    exact this
                  have X2 := X1.1
                  have HU : Hid (uz cd2 = (q : Int)) := Lib.hid (by unfold uz; rw [hr, hq]; rfl)
                  clear X1 hdv hgood he hq hr
                  by_cases h9 : k = 9
                  · have e2 : ((k : Int) == 9) = true := by simp; omega
                    have e3 : decide ((1 : Int) < x) = false := decide_eq_false (fun h => hb1 ⟨h9, h⟩)
                    have e4 : decide ((0 : Int) < (k : Int)) = true := decide_eq_true (by omega)
                    have e5 : decide (0 < k) = true := decide_eq_true (by omega)
                    have e6 : (x == 0) = false := beq_false_of_ne (fun h => hb2 ⟨by omega, h⟩)
                    clear hb1 hb2 h9
                    as_aux_lemma =>
                      go_wp2_with fail
                      go_quiet (fail)
                      go_wp2_with fail
                      go_quiet (fail)
                      go_wp2_with fail
                      go_ret
                      exact .inr ⟨HE.out.1, by rw [HE.out.2.1, HU.out]; rfl, by rw [HE.out.2.2, HNN.out]; first | exact below_set (below_drewN HB.out _) HX.out.lt | exact below_set (below_drewN (below_drewN HB.out _) _) HX.out.lt⟩
                  · have e2 : ((k : Int) == 9) = false := by simp; omega
                    by_cases h0 : 0 < k
                    · have e4 : decide ((0 : Int) < (k : Int)) = true := decide_eq_true (by omega)
                      have e5 : decide (0 < k) = true := decide_eq_true (by omega)
                      have e6 : (x == 0) = false := beq_false_of_ne (fun h => hb2 ⟨by omega, h⟩)
                      clear hb1 hb2 h9 h0
                      as_aux_lemma =>
                        go_wp2_with fail
                        go_quiet (fail)
                        go_wp2_with fail
                        go_quiet (fail)
                        go_wp2_with fail
                        go_ret
                        exact .inr ⟨HE.out.1, by rw [HE.out.2.1, HU.out]; rfl, by rw [HE.out.2.2, HNN.out]; first | exact below_set (below_drewN HB.out _) HX.out.lt | exact below_set (below_drewN (below_drewN HB.out _) _) HX.out.lt⟩
                    · have e4 : decide ((0 : Int) < (k : Int)) = false := decide_eq_false (by omega)
                      have e5 : decide (0 < k) = false := decide_eq_false (by omega)
                      clear hb1 hb2 h9 h0
                      as_aux_lemma =>
                        go_wp2_with fail
                        go_quiet (fail)
                        go_wp2_with fail
                        go_quiet (fail)
                        go_wp2_with fail
                        go_ret
                        exact .inr ⟨HE.out.1, by rw [HE.out.2.1, HU.out]; rfl, by rw [HE.out.2.2, HNN.out]; first | exact below_set (below_drewN HB.out _) HX.out.lt | exact below_set (below_drewN (below_drewN HB.out _) _) HX.out.lt⟩
                · have AN : bits BinOp.and IntKind.u64 (cd2 : Int) 1 = 1 := by
                    have := bits_and_u64_nat cd2 1 hcd2b (by decide)
                    rw [Nat.and_one_is_mod, hr] at this
                    exact this
                  have X2 := X1.2
                  obtain ⟨z, hzz⟩ : ∃ z, -(q : Int) - 1 = z := ⟨_, rfl⟩
                  rw [hzz] at X2
                  have HU : Hid (uz cd2 = z) := Lib.hid (by unfold uz; rw [hr, hq, if_pos rfl, hzz])
                  clear X1 hdv hgood he hq hr hzz
                  by_cases h9 : k = 9
                  · have e2 : ((k : Int) == 9) = true := by simp; omega
                    have e3 : decide ((1 : Int) < x) = false := decide_eq_false (fun h => hb1 ⟨h9, h⟩)
                    have e4 : decide ((0 : Int) < (k : Int)) = true := decide_eq_true (by omega)
                    have e5 : decide (0 < k) = true := decide_eq_true (by omega)
                    have e6 : (x == 0) = false := beq_false_of_ne (fun h => hb2 ⟨by omega, h⟩)
                    clear hb1 hb2 h9
                    as_aux_lemma =>
                      go_wp2_with fail
                      go_quiet (fail)
                      go_wp2_with fail
                      go_quiet (fail)
                      go_wp2_with fail
                      go_ret
                      exact .inr ⟨HE.out.1, by rw [HE.out.2.1, HU.out]; rfl, by rw [HE.out.2.2, HNN.out]; first | exact below_set (below_drewN HB.out _) HX.out.lt | exact below_set (below_drewN (below_drewN HB.out _) _) HX.out.lt⟩
                  · have e2 : ((k : Int) == 9) = false := by simp; omega
                    by_cases h0 : 0 < k
                    · have e4 : decide ((0 : Int) < (k : Int)) = true := decide_eq_true (by omega)
                      have e5 : decide (0 < k) = true := decide_eq_true (by omega)
                      have e6 : (x == 0) = false := beq_false_of_ne (fun h => hb2 ⟨by omega, h⟩)
                      clear hb1 hb2 h9 h0
                      as_aux_lemma =>
                        go_wp2_with fail
                        go_quiet (fail)
                        go_wp2_with fail
                        go_quiet (fail)
                        go_wp2_with fail
                        go_ret
                        exact .inr ⟨HE.out.1, by rw [HE.out.2.1, HU.out]; rfl, by rw [HE.out.2.2, HNN.out]; first | exact below_set (below_drewN HB.out _) HX.out.lt | exact below_set (below_drewN (below_drewN HB.out _) _) HX.out.lt⟩
                    · have e4 : decide ((0 : Int) < (k : Int)) = false := decide_eq_false (by omega)
                      have e5 : decide (0 < k) = false := decide_eq_false (by omega)
                      clear hb1 hb2 h9 h0
                      as_aux_lemma =>
                        go_wp2_with fail
                        go_quiet (fail)
                        go_wp2_with fail
                        go_quiet (fail)
                        go_wp2_with fail
                        go_ret
                        exact .inr ⟨HE.out.1, by rw [HE.out.2.1, HU.out]; rfl, by rw [HE.out.2.2, HNN.out]; first | exact below_set (below_drewN HB.out _) HX.out.lt | exact below_set (below_drewN (below_drewN HB.out _) _) HX.out.lt⟩
      · obtain rfl : k = 10 := by omega
        have he := nu_long (zs := zs) HA.out HH.out
        have HE := Lib.hid he
        clear he
        go_wp2_with fail
        refine (fail46 5 _).mono ?_
        rintro e w' ⟨rfl, rfl⟩
        exact ⟨rfl, .inl ⟨by rw [HE.out]; decide, by rw [HE.out], HB.out⟩⟩
end Go.Proofs.Ytppgaddjjlcfcaa.Wk
