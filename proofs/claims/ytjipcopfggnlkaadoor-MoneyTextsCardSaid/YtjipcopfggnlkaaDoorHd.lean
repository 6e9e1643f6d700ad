/- The reference's digits and its Show, walked. Conditions: the numbers are machine integers. -/
import Derived.Test.YtjipcopfggnlkaaDoorDd
import Derived.Test.YtjipcopfggnlkaaDoorBk
import Derived.Deep.CutRange
set_option linter.unusedSimpArgs false
set_option linter.unusedVariables false
namespace Go.Proofs.YtjipcopfggnlkaaDoor.Wk
open Go.RowKit
open Go.Proofs.YtjipcopfggnlkaaDoor.Mt
theorem conv1 {w : World} {g d : Nat} {x : Int} (hd : d < 10) (hx : x = 48 + (d : Int)) (h : Bx w g 5 #[.int .u8 x]) : (convert 78 9 (.slice (some ⟨g, 0, none⟩) 1 1)).run Tryd.prog w = .ok (.string (strd [UInt8.ofNat (48 + d)])) w :=
  run_convert_bytes_back (P := Tryd.prog) w 78 9 5 ⟨g, 0, none⟩ 1 [UInt8.ofNat (48 + d)] Tryd.underlying78 Tryd.underlying5 Tryd.underlying9 (fun j hj => by
    have hj0 : j = 0 := by simpa using hj
    subst hj0
    have e : (⟨g, 0, none⟩ : Addr).add 0 = ⟨g, 0, none⟩ := by simp [Addr.add]
    rw [e, h.cell]
    show some (Value.int .u8 x) = some (.int .u8 ((UInt8.ofNat (48 + d)).toNat : Int))
    rw [byte_num hd, hx]
    rfl)
theorem dec_ten {u : Nat} (h : ¬ u < 10) : dec (u / 10) ++ strd [UInt8.ofNat (48 + u % 10)] = dec u := by
  show strd (Lib.decDigits (u / 10)) ++ _ = strd (Lib.decDigits u)
  rw [strd_app]
  conv => rhs; rw [Lib.decDigits, dif_neg h]
theorem dec_size {u : Nat} (h : u < 18446744073709551616) : (dec u).size ≤ 20 := by
  show (strd _).size ≤ 20
  rw [strd_size, Lib.decDigits_length]
  exact nDigits_le h
set_option maxHeartbeats 8000000 in
set_option maxRecDepth 100000 in
theorem digits42 : ∀ (m u : Nat), u ≤ m → u < 18446744073709551616 → ∀ w : World, Calls Tryd.prog 42 #[.int .u64 (u : Int)] w fun e w' => e = .returned (.string (dec u)) ∧ Below w.heap.size w w' := by
  intro m
  induction m with
  | zero =>
    intro u hu h64 w
    obtain rfl : u = 0 := by omega
    have hc := conv1 (d := 0) (by decide) (by simp) (Bx.new w 5 #[.int .u8 48])
    have hde : strd [UInt8.ofNat (48 + 0)] = dec 0 := by show _ = strd (Lib.decDigits 0); rw [Lib.decDigits_one (by decide)]
    rw [hde] at hc
    have HB := Lib.hid (b1 w (.cells #[.int .u8 48] 5))
    clear hde
    go_enter Tryd.func42, Tryd.ntmps42
    go_wp2_with fail
    go_ret
    exact ⟨rfl, HB.out⟩
  | succ m ih =>
    intro u hu h64 w
    by_cases h10 : u < 10
    · have hI : (u : Int) < 10 := by omega
      obtain ⟨x, hx⟩ : ∃ x, 48 + (u : Int) = x := ⟨_, rfl⟩
      have W1 : IntKind.u64.wrap (48 + (u : Int)) = x := by rw [hx, IntKind.wrap_u64]; omega
      have W2 : IntKind.u8.wrap x = x := by simp [IntKind.wrap, IntKind.bits, IntKind.signed]; omega
      have hc := conv1 (d := u) h10 hx.symm (Bx.new w 5 #[.int .u8 x])
      have hde : strd [UInt8.ofNat (48 + u)] = dec u := by show _ = strd (Lib.decDigits u); rw [Lib.decDigits_one h10]
      rw [hde] at hc
      have HB := Lib.hid (b1 w (.cells #[.int .u8 x] 5))
      clear hde hx ih
      go_enter Tryd.func42, Tryd.ntmps42
      go_wp2_with fail
      go_ret
      exact ⟨rfl, HB.out⟩
    · have hI : ¬ (u : Int) < 10 := by omega
      obtain ⟨q, hq⟩ : ∃ q, u / 10 = q := ⟨_, rfl⟩
      obtain ⟨d, hd⟩ : ∃ q, u % 10 = q := ⟨_, rfl⟩
      have hd10 : d < 10 := by omega
      obtain ⟨x, hx⟩ : ∃ x, 48 + (d : Int) = x := ⟨_, rfl⟩
      have W0 : (u : Int).tdiv 10 = (q : Int) := by rw [Int.tdiv_eq_ediv_of_nonneg (by omega)]; omega
      have W0' : IntKind.u64.wrap (q : Int) = (q : Int) := u64_in _ (by omega)
      have W00 : (u : Int) / 10 = (q : Int) := by omega
      have W3 : (u : Int).tmod 10 = (d : Int) := by rw [Int.tmod_eq_emod_of_nonneg (by omega)]; omega
      have W33 : (u : Int) % 10 = (d : Int) := by omega
      have W1 : IntKind.u64.wrap (48 + (d : Int)) = x := by rw [hx, IntKind.wrap_u64]; omega
      have W2 : IntKind.u8.wrap x = x := by simp [IntKind.wrap, IntKind.bits, IntKind.signed]; omega
      obtain ⟨z, hz⟩ : ∃ z, strd [UInt8.ofNat (48 + d)] = z := ⟨_, rfl⟩
      have hC : ∀ (W : World) (g : Nat), Bx W g 5 #[.int .u8 x] → (convert 78 9 (.slice (some ⟨g, 0, none⟩) 1 1)).run Tryd.prog W = .ok (.string z) W := by
        intro W g h
        rw [← hz]
        exact conv1 hd10 hx.symm h
      have HC := Lib.hid hC
      have hC1 := fun W : World => HC.out _ _ (Bx.new W 5 #[.int .u8 x])
      have hC2 := fun W : World => HC.out _ _ ((Bx.new W 5 #[.int .u8 x]).next (Below.refl _ _).drew)
      have HI := Lib.hid (fun W : World => ih q (by omega) (by omega) W)
      obtain ⟨y, hy⟩ : ∃ y, dec q = y := ⟨_, rfl⟩
      rw [hy] at HI
      have hyz : y ++ z = dec u := by rw [← hy, ← hz, ← hq, ← hd]; exact dec_ten h10
      obtain ⟨o, ho⟩ : ∃ o, dec u = o := ⟨_, rfl⟩
      rw [ho] at hyz ⊢
      have hys : y.size ≤ 20 := by rw [← hy]; exact dec_size (by omega)
      have hzs : z.size = 1 := by rw [← hz]; rfl
      have HQ := Lib.hid hq
      clear hx hz hy ho hq hd ih hC hd10 h10 hu h64
      go_enter Tryd.func42, Tryd.ntmps42
      go_wp2_with fail
      go_region_with (go_at_call 42; refine (HI.out _).mono ?_; rintro e w' ⟨rfl, hb⟩; first | (have hC3 := HC.out w' w.heap.size ((Bx.new w 5 #[.int .u8 x]).next hb); have HBQ := Lib.hid (upB (b1 w (.cells #[.int .u8 x] 5)) hb); clear hb) | (have hC3 := HC.out w' w.heap.size (((Bx.new w 5 #[.int .u8 x]).next (Below.refl _ _).drew).next hb); have HBQ := Lib.hid (upB (upB (b1 w (.cells #[.int .u8 x] 5)) (Below.refl _ _).drew) hb); clear hb) | (have HBQ : Hid (Below w.heap.size w w') := Lib.hid hb; clear hb) | (have HBQ : Hid (Below w.heap.size w w') := Lib.hid (upB (Below.refl _ _).drew hb); clear hb))
      all_goals go_wp2_with fail
      all_goals go_ret
      all_goals (exact ⟨rfl, by first | exact HBQ.out | exact HBQ.out.drew | exact upB HBQ.out (b1 _ _) | exact upB HBQ.out (b1 _ _).drew | exact (upB HBQ.out (b1 _ _)).drew | exact upB HBQ.out ((Below.refl _ _).drew.alloc (Nat.le_refl _) _)⟩)
theorem dec_dig {d : Nat} (h : d < 10) : dec d = strd [UInt8.ofNat (48 + d)] := by show strd (Lib.decDigits d) = _; rw [Lib.decDigits_one h]
set_option maxHeartbeats 4000000 in
set_option maxRecDepth 100000 in
theorem show26 (n : Int) (w : World) (hn : In64 n) : Calls Tryd.prog 26 #[.int .i64 n] w fun e w' => e = .returned (.string (strd (shL n))) ∧ Below w.heap.size w w' := by
  have HN := Lib.hid hn
  obtain ⟨u, hu⟩ : ∃ u, n.natAbs = u := ⟨_, rfl⟩
  have HU := Lib.hid hu
  have hu64 : u < 18446744073709551616 := by unfold In64 at hn; omega
  obtain ⟨q, hq⟩ : ∃ r, u / 100 = r := ⟨_, rfl⟩
  obtain ⟨t, ht⟩ : ∃ r, u / 10 = r := ⟨_, rfl⟩
  obtain ⟨a, ha⟩ : ∃ r, t % 10 = r := ⟨_, rfl⟩
  obtain ⟨b, hb⟩ : ∃ r, u % 10 = r := ⟨_, rfl⟩
  have V1 : (u : Int).tdiv 100 = (q : Int) := by rw [Int.tdiv_eq_ediv_of_nonneg (by omega)]; omega
  have V2 : (u : Int).tdiv 10 = (t : Int) := by rw [Int.tdiv_eq_ediv_of_nonneg (by omega)]; omega
  have V3 : (t : Int).tmod 10 = (a : Int) := by rw [Int.tmod_eq_emod_of_nonneg (by omega)]; omega
  have V4 : (u : Int).tmod 10 = (b : Int) := by rw [Int.tmod_eq_emod_of_nonneg (by omega)]; omega
  have V1' : (u : Int) / 100 = (q : Int) := by omega
  have V2' : (u : Int) / 10 = (t : Int) := by omega
  have V3' : (t : Int) % 10 = (a : Int) := by omega
  have V4' : (u : Int) % 10 = (b : Int) := by omega
  have X1 : IntKind.u64.wrap (q : Int) = (q : Int) := u64_in _ (by omega)
  have X2 : IntKind.u64.wrap (t : Int) = (t : Int) := u64_in _ (by omega)
  obtain ⟨y1, hy1⟩ : ∃ y, dec q = y := ⟨_, rfl⟩
  obtain ⟨y2, hy2⟩ : ∃ y, dec a = y := ⟨_, rfl⟩
  obtain ⟨y3, hy3⟩ : ∃ y, dec b = y := ⟨_, rfl⟩
  obtain ⟨s1, hs1⟩ : ∃ s, y1 ++ (⟨#[46]⟩ : ByteArray) = s := ⟨_, rfl⟩
  obtain ⟨s2, hs2⟩ : ∃ s, s1 ++ y2 = s := ⟨_, rfl⟩
  obtain ⟨s3, hs3⟩ : ∃ s, s2 ++ y3 = s := ⟨_, rfl⟩
  obtain ⟨s4, hs4⟩ : ∃ s, (⟨#[45]⟩ : ByteArray) ++ s3 = s := ⟨_, rfl⟩
  have e3 : s3 = strd (Lib.decDigits q ++ [46] ++ ce u) := by
    rw [← hs3, ← hs2, ← hs1, ← hy1, ← hy2, ← hy3, dec_dig (show a < 10 by omega), dec_dig (show b < 10 by omega)]
    show strd (Lib.decDigits q) ++ strd [46] ++ strd _ ++ strd _ = _
    rw [strd_app, strd_app, strd_app]
    unfold ce
    rw [← ha, ← ht, ← hb]
    simp
  have HA : Hid ((if n < 0 then s4 else s3) = strd (shL n)) := Lib.hid (by
    unfold shL sg
    rw [hu, hq]
    by_cases h0 : n < 0
    · rw [if_pos h0, if_pos h0, ← hs4, e3]
      show strd [45] ++ strd _ = _
      rw [strd_app]
      simp
    · rw [if_neg h0, if_neg h0, e3]
      simp)
  have l1 : y1.size ≤ 20 := by rw [← hy1]; exact dec_size (by omega)
  have l2 : y2.size ≤ 20 := by rw [← hy2]; exact dec_size (by omega)
  have l3 : y3.size ≤ 20 := by rw [← hy3]; exact dec_size (by omega)
  have l46 : (⟨#[46]⟩ : ByteArray).size = 1 := rfl
  have l45 : (⟨#[45]⟩ : ByteArray).size = 1 := rfl
  have l4 : s1.size ≤ 30 := by rw [← hs1, ByteArray.size_append]; omega
  have l5 : s2.size ≤ 50 := by rw [← hs2, ByteArray.size_append]; omega
  have l6 : s3.size ≤ 70 := by rw [← hs3, ByteArray.size_append]; omega
  have H1 := Lib.hid (fun W : World => digits42 q q (Nat.le_refl _) (by omega) W)
  have H2 := Lib.hid (fun W : World => digits42 a a (Nat.le_refl _) (by omega) W)
  have H3 := Lib.hid (fun W : World => digits42 b b (Nat.le_refl _) (by omega) W)
  rw [hy1] at H1
  rw [hy2] at H2
  rw [hy3] at H3
  clear hn hu hq ht ha hb hy1 hy2 hy3 e3 hu64
  go_enter Tryd.func26, Tryd.ntmps26
  go_wp2_with fail
  refine (size33 n u w HN.out HU.out).mono ?_
  rintro e w1 ⟨rfl, hw⟩
  rw [hw]
  clear hw
  go_wp2_with fail
  refine (H1.out w).mono ?_
  rintro e w1 ⟨rfl, hb⟩
  have HB := Lib.hid hb
  clear hb
  go_wp2_with fail
  refine (H2.out w1).mono ?_
  rintro e w2 ⟨rfl, hb⟩
  replace HB := Lib.hid (upB HB.out hb)
  clear hb
  go_wp2_with fail
  refine (H3.out w2).mono ?_
  rintro e w3 ⟨rfl, hb⟩
  replace HB := Lib.hid (upB HB.out hb)
  clear hb
  by_cases h0 : n < 0
  · have d1 : decide (n < 0) = true := decide_eq_true h0
    rw [if_pos h0] at HA
    clear h0
    go_wp2_with fail
    go_ret
    rw [← HA.out]
    exact ⟨rfl, HB.out⟩
  · have d1 : decide (n < 0) = false := decide_eq_false h0
    rw [if_neg h0] at HA
    clear h0
    go_wp2_with fail
    go_ret
    rw [← HA.out]
    exact ⟨rfl, HB.out⟩
end Go.Proofs.YtjipcopfggnlkaaDoor.Wk
