/- What is made gives back its agency and its serial number; the law of it, walked. Condition: the table of powers reads as the program lays it. -/
import Derived.Test.YtgghnamjjgmimaaDoorAl
import Derived.Laws.IdiomStrings
set_option linter.unusedSimpArgs false
set_option linter.unusedVariables false
namespace Go.Proofs.YtgghnamjjgmimaaDoor.Mt
open Go
theorem nm_congr {a b : ByteArray} : ∀ {k : Nat}, (∀ i, i < k → bt a i = bt b i) → nm a k = nm b k := by
  intro k
  induction k with
  | zero => intro _; rfl
  | succ k ih =>
    intro h
    rw [nm, nm, ih (fun i hi => h i (by omega)), h k (by omega)]
theorem nm_dgl : ∀ k n, nm (strd (dgl n k)) k = ((n % 10 ^ k : Nat) : Int) := by
  intro k
  induction k with
  | zero => intro n; simp [nm, Nat.mod_one]
  | succ k ih =>
    intro n
    have h1 : nm (strd (dgl n (k + 1))) k = nm (strd (dgl (n / 10) k)) k := nm_congr fun i hi => by
      rw [dgl_at (by omega), dgl_at hi]
      congr 3
      rw [Nat.div_div_eq_div_mul]
      congr 1
      have : k + 1 - 1 - i = (k - 1 - i) + 1 := by omega
      rw [this, Nat.pow_succ, Nat.mul_comm]
    rw [nm, h1, ih, dgl_at (by omega)]
    have e : k + 1 - 1 - k = 0 := by omega
    rw [e, Nat.pow_zero, Nat.div_one]
    have : n % 10 ^ (k + 1) = n % 10 + 10 * (n / 10 % 10 ^ k) := by rw [Nat.pow_succ, Nat.mul_comm, Nat.mod_mul]
    rw [this]
    omega
theorem left_of (a b : ByteArray) : (a ++ b).extract 0 a.size = a := by
  apply ByteArray.ext
  apply Array.ext'
  rw [ByteArray.data_extract, ByteArray.data_append]
  simp only [Array.toList_extract, Array.toList_append, List.extract_eq_take_drop, List.drop_zero, Nat.sub_zero]
  exact List.take_left' (by rfl)
theorem app_assoc (a b c : ByteArray) : (a ++ b) ++ c = a ++ (b ++ c) := by
  apply ByteArray.ext
  simp [ByteArray.data_append]
section
variable {ag : ByteArray} {n : Nat}
theorem ag_back (h : Ag ag) : agS (tagOf ag n) = ag := by
  unfold agS
  rw [if_pos (tag_is h)]
  unfold tagOf bd
  rw [app_assoc]
  have := left_of ag (strd (dgl n 8) ++ strd (dgl (cd (ag ++ strd (dgl n 8))) 1))
  rw [h.1] at this
  exact this
theorem sr_back (h : Ag ag) (hn : n < 100000000) : srS (tagOf ag n) = (n : Int) := by
  unfold srS
  rw [if_pos (tag_is h)]
  have e : nm ((tagOf ag n).extract 3 11) 8 = nm (strd (dgl n 8)) 8 := nm_congr fun i hi => by
    rw [bt_extract (by rw [tag_size h]; omega) (by omega), tag_at h (by omega)]
    unfold bd
    have := bt_right (a := ag) (b := strd (dgl n 8)) (i := i)
    rw [h.1] at this
    exact this
  rw [e, nm_dgl, Nat.mod_eq_of_lt]
  have : (10 ^ 8 : Nat) = 100000000 := by decide
  omega
end
/-- the agency of a number below 1000 -/
def agn (a : Nat) : ByteArray := strd (dgl a 3)
theorem agn_is (a : Nat) : Ag (agn a) := by
  refine ⟨by unfold agn; rw [strd_size, dgl_len], fun i hi => ?_⟩
  unfold agn
  rw [dgl_at hi]
  unfold Dg
  omega
theorem dgl3 (a : Nat) : dgl a 3 = [UInt8.ofNat (48 + a / 100 % 10), UInt8.ofNat (48 + a / 10 % 10), UInt8.ofNat (48 + a % 10)] := by
  rw [dgl, dgl, dgl, dgl]
  rw [Nat.div_div_eq_div_mul]
  rfl
end Go.Proofs.YtgghnamjjgmimaaDoor.Mt
namespace Go.Proofs.YtgghnamjjgmimaaDoor.Wk
open Go.RowKit
open Go.Proofs.YtgghnamjjgmimaaDoor.Mt
theorem u16_r {a : Int} (h : (Lit.int .u16 a).wf = true) : 0 ≤ a ∧ a ≤ 65535 := by simpa [Lit.wf, IntKind.min, IntKind.max, IntKind.signed, IntKind.bits] using h
theorem u32_r {a : Int} (h : (Lit.int .u32 a).wf = true) : 0 ≤ a ∧ a ≤ 4294967295 := by simpa [Lit.wf, IntKind.min, IntKind.max, IntKind.signed, IntKind.bits] using h
/-- three digits turned into a string -/
theorem conv3 (a : Nat) (ha : a < 1000) (w : World) (x y z : Int) (hx : x = 48 + ((a / 100 : Nat) : Int)) (hy : y = 48 + ((a / 10 % 10 : Nat) : Int)) (hz : z = 48 + ((a % 10 : Nat) : Int)) (g : Nat) (h : Bx w g 5 #[.int .u8 x, .int .u8 y, .int .u8 z]) :
    (convert 43 9 (.slice (some ⟨g, 0, none⟩) 3 3)).run Tryd.prog w = .ok (.string (agn a)) w := by
  have hb := run_convert_bytes_back (P := Tryd.prog) w 43 9 5 ⟨g, 0, none⟩ 3 (dgl a 3) Tryd.underlying43 Tryd.underlying5 Tryd.underlying9 (fun j hj => by
    rw [dgl_len] at hj
    have e : (⟨g, 0, none⟩ : Addr).add j = ⟨g, j, none⟩ := by unfold Addr.add; by_cases hj : j = 0 <;> simp [hj]
    rw [e, h.cell]
    have h3 := dgl3 a
    rcases j with _ | _ | _ | j
    · have : (dgl a 3)[0]'(by rw [dgl_len]; omega) = UInt8.ofNat (48 + a / 100 % 10) := by simp [h3]
      rw [this, u8_dig]
      have : a / 100 % 10 = a / 100 := by omega
      rw [this, hx]; simp
    · have : (dgl a 3)[1]'(by rw [dgl_len]; omega) = UInt8.ofNat (48 + a / 10 % 10) := by simp [h3]
      rw [this, u8_dig, hy]; simp
    · have : (dgl a 3)[2]'(by rw [dgl_len]; omega) = UInt8.ofNat (48 + a % 10) := by simp [h3]
      rw [this, u8_dig, hz]; simp
    · omega)
  rw [dgl_len] at hb
  exact hb
set_option maxHeartbeats 2000000 in
set_option maxRecDepth 100000 in
theorem back_law (a0 a1 : Int) (w : World) (ht : Tb w) (h0 : 0 ≤ a0 ∧ a0 ≤ 65535) (h1 : 0 ≤ a1 ∧ a1 ≤ 4294967295) : Calls Tryd.prog 8 #[.int .u16 a0, .int .u32 a1] w fun e w' => e = .returned (.bool true) ∧ Below w.heap.size w w' := by
  obtain ⟨a, ha⟩ : ∃ a : Nat, Int.tmod a0 1000 = (a : Int) ∧ a < 1000 := ⟨(a0 % 1000).toNat, by rw [Int.tmod_eq_emod_of_nonneg h0.1]; omega, by omega⟩
  obtain ⟨m, hm⟩ : ∃ m : Nat, Int.tmod a1 100000000 = (m : Int) ∧ m < 100000000 := ⟨(a1 % 100000000).toNat, by rw [Int.tmod_eq_emod_of_nonneg h1.1]; omega, by omega⟩
  obtain ⟨ha, ha3⟩ := ha
  obtain ⟨hm, hm8⟩ := hm
  have F0 : IntKind.i64.wrap a0 = a0 := IntWalk.i64_in _ (by omega)
  have F1 : IntKind.i64.wrap a1 = a1 := IntWalk.i64_in _ (by omega)
  have F2 : IntKind.i64.wrap (a : Int) = (a : Int) := IntWalk.i64_in _ (by omega)
  have F3 : IntKind.i64.wrap (m : Int) = (m : Int) := IntWalk.i64_in _ (by omega)
  obtain ⟨q2, hq2⟩ : ∃ q : Int, ((a / 100 : Nat) : Int) = q := ⟨_, rfl⟩
  obtain ⟨q1, hq1⟩ : ∃ q : Int, ((a / 10 : Nat) : Int) = q := ⟨_, rfl⟩
  obtain ⟨r1, hr1⟩ : ∃ q : Int, ((a / 10 % 10 : Nat) : Int) = q := ⟨_, rfl⟩
  obtain ⟨r0, hr0⟩ : ∃ q : Int, ((a % 10 : Nat) : Int) = q := ⟨_, rfl⟩
  have G2 : Int.tdiv (a : Int) 100 = q2 := by rw [Int.tdiv_eq_ediv_of_nonneg (by omega)]; omega
  have G1 : Int.tdiv (a : Int) 10 = q1 := by rw [Int.tdiv_eq_ediv_of_nonneg (by omega)]; omega
  have G3 : Int.tmod q1 10 = r1 := by rw [Int.tmod_eq_emod_of_nonneg (by omega)]; omega
  have G0 : Int.tmod (a : Int) 10 = r0 := by rw [Int.tmod_eq_emod_of_nonneg (by omega)]; omega
  have I2 : IntKind.i64.wrap q2 = q2 := IntWalk.i64_in _ (by omega)
  have I1 : IntKind.i64.wrap q1 = q1 := IntWalk.i64_in _ (by omega)
  have I3 : IntKind.i64.wrap r1 = r1 := IntWalk.i64_in _ (by omega)
  have I0 : IntKind.i64.wrap r0 = r0 := IntWalk.i64_in _ (by omega)
  have U2 : IntKind.u8.wrap q2 = q2 := IntWalk.u8_in _ (by omega)
  have U3 : IntKind.u8.wrap r1 = r1 := IntWalk.u8_in _ (by omega)
  have U0 : IntKind.u8.wrap r0 = r0 := IntWalk.u8_in _ (by omega)
  obtain ⟨x, hx⟩ : ∃ x, 48 + q2 = x := ⟨_, rfl⟩
  obtain ⟨y, hy⟩ : ∃ y, 48 + r1 = y := ⟨_, rfl⟩
  obtain ⟨z, hz⟩ : ∃ z, 48 + r0 = z := ⟨_, rfl⟩
  have V2 : IntKind.u8.wrap (48 + q2) = x := by rw [hx]; exact IntWalk.u8_in _ (by omega)
  have V3 : IntKind.u8.wrap (48 + r1) = y := by rw [hy]; exact IntWalk.u8_in _ (by omega)
  have V0 : IntKind.u8.wrap (48 + r0) = z := by rw [hz]; exact IntWalk.u8_in _ (by omega)
  have HCV := conv3 a ha3 (w.alloc (.cells #[.int .u8 x, .int .u8 y, .int .u8 z] 5)) x y z (by rw [hq2, hx]) (by rw [hr1, hy]) (by rw [hr0, hz]) w.heap.size (Bx.new _ _ _)
  have HAG := Lib.hid (agn_is a)
  obtain ⟨ag, hag⟩ : ∃ ag, agn a = ag := ⟨_, rfl⟩
  rw [hag] at HCV HAG
  have HMK := Lib.hid (mk_ok (ag := ag) (n := (m : Int)) HAG.out (by omega))
  rw [Int.toNat_natCast] at HMK
  have HTI := Lib.hid (tag_is (n := m) HAG.out)
  have HSZ := Lib.hid (tag_size (n := m) HAG.out)
  have HB := Lib.hid (b1 w (.cells #[.int .u8 x, .int .u8 y, .int .u8 z] 5))
  have HT := Lib.hid (ht.next HB.out)
  clear hq2 hq1 hr1 hr0 hx hy hz hag ht
  have HAB := Lib.hid (ag_back (n := m) HAG.out)
  have HSB := Lib.hid (sr_back HAG.out hm8)
  have HCK := Lib.hid (ck_yes HTI.out)
  obtain ⟨tg, htg⟩ : ∃ tg, tagOf ag m = tg := ⟨_, rfl⟩
  rw [htg] at HMK HTI HSZ HAB HSB HCK
  have hsz : tg.size = 12 := HSZ.out
  clear htg
  go_enter Tryd.func8, Tryd.ntmps8
  go_wp2_with fail
  refine (make18 ag m _ HT.out).mono ?_
  rintro e w1 ⟨rfl, hb⟩
  rw [HMK.out.1, HMK.out.2]
  replace HT := Lib.hid (HT.out.next hb)
  replace HB := Lib.hid (upB HB.out hb)
  clear hb
  go_wp2_with fail
  refine (check15 tg _).mono ?_
  rintro e w2 ⟨rfl, hb⟩
  rw [HCK.out]
  replace HT := Lib.hid (HT.out.next hb)
  replace HB := Lib.hid (upB HB.out hb)
  clear hb
  go_wp2_with fail
  refine (agency11 tg _).mono ?_
  rintro e w3 ⟨rfl, hb⟩
  rw [HAB.out, HCK.out]
  replace HT := Lib.hid (HT.out.next hb)
  replace HB := Lib.hid (upB HB.out hb)
  clear hb
  go_wp2_with fail
  refine (serial12 tg _).mono ?_
  rintro e w4 ⟨rfl, hb⟩
  rw [HSB.out, HCK.out]
  replace HT := Lib.hid (HT.out.next hb)
  replace HB := Lib.hid (upB HB.out hb)
  clear hb
  go_wp2_with fail
  refine (make18 ag m _ HT.out).mono ?_
  rintro e w5 ⟨rfl, hb⟩
  rw [HMK.out.1, HMK.out.2]
  replace HT := Lib.hid (HT.out.next hb)
  replace HB := Lib.hid (upB HB.out hb)
  clear hb
  go_wp2_with fail
  refine (alive17 _ HT.out).mono ?_
  rintro e w6 ⟨rfl, hb⟩
  replace HT := Lib.hid (HT.out.next hb)
  replace HB := Lib.hid (upB HB.out hb)
  clear hb
  go_wp2_with fail
  go_ret
  exact ⟨rfl, HB.out⟩
end Go.Proofs.YtgghnamjjgmimaaDoor.Wk
