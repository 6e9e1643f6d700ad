/- One wrong digit, or two neighbors exchanged, is refused; the law of it, walked. Condition: the table of powers reads as the program lays it. -/
import Derived.Test.YtgghnamjjgmimaaDoorLawB
import Derived.Lib.ConvBytes
import Derived.Lib.AtoiErrMem
set_option linter.unusedSimpArgs false
set_option linter.unusedVariables false
namespace Go.Proofs.YtgghnamjjgmimaaDoor.Mt
open Go
theorem lu_one {k : Nat} {d e : Int} (hd : 0 ≤ d ∧ d ≤ 9) (he : 0 ≤ e ∧ e ≤ 9) (h : lu k d = lu k e) : d = e := by
  unfold lu at h
  split at h
  · exact h
  · split at h <;> split at h <;> omega
theorem sm_upd {a b : ByteArray} {k : Nat} (h : ∀ i, i ≠ k → bt b i = bt a i) : ∀ n, k < n → sm b n - sm a n = lu k (bt b k - 48) - lu k (bt a k - 48) := by
  intro n
  induction n with
  | zero => intro hk; omega
  | succ n ih =>
    intro hk
    rw [sm, sm]
    rcases Nat.lt_or_ge k n with h1 | h1
    · have := ih h1
      rw [h n (by omega)]
      omega
    · obtain rfl : k = n := by omega
      have : sm b k = sm a k := sm_congr fun i hi => h i (by omega)
      rw [this]
      omega
theorem bt_set {l : List UInt8} {k : Nat} {v : UInt8} (hk : k < l.length) : bt (strd (l.set k v)) k = (v.toNat : Int) := by
  rw [bt_strd (by rw [List.length_set]; exact hk)]
  simp
theorem bt_set_ne {l : List UInt8} {k i : Nat} {v : UInt8} (hi : i ≠ k) : bt (strd (l.set k v)) i = bt (strd l) i := by
  rcases Nat.lt_or_ge i l.length with h | h
  · rw [bt_strd (by rw [List.length_set]; exact h), bt_strd h, List.getElem_set_ne (fun e => hi e.symm)]
  · unfold bt
    rw [dif_neg (by rw [strd_size, List.length_set]; omega), dif_neg (by rw [strd_size]; omega)]
theorem strd_self (s : ByteArray) : strd s.data.toList = s := by
  apply ByteArray.ext
  simp [strd]
/-- one digit wrong: no transponder number -/
theorem one_wrong {s : ByteArray} {k : Nat} {v : UInt8} (h : Tg s) (hk : k < 12) (hv : 48 ≤ v.toNat ∧ v.toNat ≤ 57) (hne : (v.toNat : Int) ≠ bt s k) : ¬ Tg (strd (s.data.toList.set k v)) := by
  intro h2
  have hl : s.data.toList.length = 12 := by rw [Array.length_toList]; exact h.1
  have e1 := bt_set (v := v) (show k < s.data.toList.length by omega)
  have e2 := sm_upd (a := s) (b := strd (s.data.toList.set k v)) (k := k) (fun i hi => by rw [bt_set_ne hi, strd_self]) 12 hk
  rw [e1] at e2
  have hd := h.2.1 k hk
  unfold Dg at hd
  have l1 := lu_in (i := k) (d := (v.toNat : Int) - 48) (by omega)
  have l2 := lu_in (i := k) (d := bt s k - 48) (by omega)
  have n1 : lu k ((v.toNat : Int) - 48) ≠ lu k (bt s k - 48) := fun e => by
    have := lu_one (by omega) (by omega) e
    omega
  have z1 := h.2.2
  have z2 := h2.2.2
  omega
/-- two neighbors exchanged: no transponder number, unless they are equal, or 0 and 9 -/
theorem exchanged {s : ByteArray} {k : Nat} {u v : UInt8} (h : Tg s) (hk : k + 1 < 12) (hu : (u.toNat : Int) = bt s (k + 1)) (hv : (v.toNat : Int) = bt s k) (hne : bt s k ≠ bt s (k + 1)) (h09 : ¬ (bt s k = 48 ∧ bt s (k + 1) = 57)) (h90 : ¬ (bt s k = 57 ∧ bt s (k + 1) = 48)) : ¬ Tg (strd ((s.data.toList.set k u).set (k + 1) v)) := by
  intro h2
  have hl : s.data.toList.length = 12 := by rw [Array.length_toList]; exact h.1
  have e1 := bt_set (v := u) (show k < s.data.toList.length by omega)
  have d1 := sm_upd (a := s) (b := strd (s.data.toList.set k u)) (k := k) (fun i hi => by rw [bt_set_ne hi, strd_self]) 12 (by omega)
  have e2 := bt_set (l := s.data.toList.set k u) (k := k + 1) (v := v) (by rw [List.length_set]; omega)
  have d2 := sm_upd (a := strd (s.data.toList.set k u)) (b := strd ((s.data.toList.set k u).set (k + 1) v)) (k := k + 1) (fun i hi => by rw [bt_set_ne hi]) 12 hk
  have e3 : bt (strd (s.data.toList.set k u)) (k + 1) = bt s (k + 1) := by rw [bt_set_ne (by omega), strd_self]
  rw [e1, hu] at d1
  rw [e2, e3, hv] at d2
  have h3 := h.2.1 k (by omega)
  have h4 := h.2.1 (k + 1) hk
  unfold Dg at h3 h4
  have z1 := h.2.2
  have z2 := h2.2.2
  generalize bt s k = x at *
  generalize bt s (k + 1) = y at *
  generalize sm (strd ((s.data.toList.set k u).set (k + 1) v)) 12 = c at *
  generalize sm (strd (s.data.toList.set k u)) 12 = b at *
  generalize sm s 12 = a at *
  unfold lu at d1 d2
  rcases Nat.mod_two_eq_zero_or_one k with p | p
  · have p2 : (k + 1) % 2 = 1 := by omega
    have p1 : ¬ k % 2 = 1 := by omega
    simp only [p1, if_false] at d1
    simp only [p2, if_true] at d2
    by_cases q1 : 4 < x - 48 <;> by_cases q2 : 4 < y - 48 <;> simp only [q1, q2, if_true, if_false] at d1 <;> omega
  · have p2 : ¬ (k + 1) % 2 = 1 := by omega
    simp only [p, if_true] at d1
    simp only [p2, if_false] at d2
    by_cases q1 : 4 < x - 48 <;> by_cases q2 : 4 < y - 48 <;> simp only [q1, q2, if_true, if_false] at d2 <;> omega
end Go.Proofs.YtgghnamjjgmimaaDoor.Mt
namespace Go.Proofs.YtgghnamjjgmimaaDoor.Wk
open Go.RowKit
open Go.Proofs.YtgghnamjjgmimaaDoor.Mt
/-- a row of bytes with the mark of a conversion -/
def Bm (w : World) (g : Nat) (l : List UInt8) : Prop := ∃ cur : Array Value, w.heap[g]? = some (.cells cur 5 (cur.size, cur.size + 1)) ∧ l.length ≤ cur.size ∧ ∀ i, i < l.length → cur[i]? = some (.int .u8 ((l.getD i 0).toNat : Int))
theorem Bm.lt {w : World} {g : Nat} {l : List UInt8} (h : Bm w g l) : g < w.heap.size := by
  obtain ⟨cur, h1, _⟩ := h
  exact (Array.getElem?_eq_some_iff.1 h1).1
theorem Bm.cell {w : World} {g : Nat} {l : List UInt8} (h : Bm w g l) {i : Nat} (hi : i < l.length) : w.cell? ⟨g, i, none⟩ = some (.int .u8 ((l.getD i 0).toNat : Int)) := by
  obtain ⟨cur, h1, _, h3⟩ := h
  simp only [World.cell?, h1]
  simpa using h3 i hi
theorem Bm.free {w : World} {g : Nat} {l : List UInt8} (h : Bm w g l) {i : Nat} (hi : i < l.length) : w.frozen? ⟨g, i, none⟩ = false := by
  obtain ⟨cur, h1, h2, _⟩ := h
  simp only [World.frozen?, h1]
  have : ¬ cur.size ≤ i := by omega
  simp [this]
theorem Bm.next {w w' : World} {g : Nat} {l : List UInt8} (h : Bm w g l) (hb : Below w.heap.size w w') : Bm w' g l := by
  have hl := h.lt
  obtain ⟨cur, h1, h2⟩ := h
  exact ⟨cur, (hb.block g hl).trans h1, h2⟩
theorem Bm.set {w : World} {g : Nat} {l : List UInt8} (h : Bm w g l) {i : Nat} (hi : i < l.length) {v : Int} {u : UInt8} (hv : (u.toNat : Int) = v) : Bm (w.setCell ⟨g, i, none⟩ (.int .u8 v)) g (l.set i u) := by
  obtain ⟨cur, h1, h2, h3⟩ := h
  refine ⟨cur.setIfInBounds i (.int .u8 v), ?_, by simpa using h2, fun j hj => ?_⟩
  · simp [World.setCell, Array.getElem?_modify, h1]
  · rw [List.length_set] at hj
    rcases Nat.eq_or_lt_of_le (Nat.le_refl j) with _ | _
    all_goals
      by_cases e : i = j
      · subst e
        rw [Array.getElem?_setIfInBounds_self_of_lt (by omega)]
        simp [hj, hv]
      · rw [Array.getElem?_setIfInBounds_ne e, h3 j hj]
        simp [List.getD, List.getElem?_set_ne e]
theorem Bm.conv {w : World} {g cap : Nat} {l : List UInt8} (h : Bm w g l) (hl : l.length = 12) : (convert 43 9 (.slice (some ⟨g, 0, none⟩) 12 cap)).run Tryd.prog w = .ok (.string (strd l)) w := by
  have hb := run_convert_bytes_back (P := Tryd.prog) w 43 9 5 ⟨g, 0, none⟩ cap l Tryd.underlying43 Tryd.underlying5 Tryd.underlying9 (fun j hj => by
    have e : (⟨g, 0, none⟩ : Addr).add j = ⟨g, j, none⟩ := by unfold Addr.add; by_cases hj : j = 0 <;> simp [hj]
    rw [e, h.cell hj]
    simp [List.getD, hj])
  rw [hl] at hb
  exact hb
theorem to_bytes (s : ByteArray) (w : World) (h : s.size = 12) : ∃ cap W, (convert 9 43 (.string s)).run Tryd.prog w = .ok (.slice (some ⟨w.heap.size, 0, none⟩) 12 cap) W ∧ Bm W w.heap.size s.data.toList ∧ Below w.heap.size w W := by
  refine ⟨_, _, by have := Lib.run_convert_string_bytes (P := Tryd.prog) w 9 43 5 s Tryd.underlying9 Tryd.underlying43 Tryd.underlying5; rw [h] at this; exact this, ⟨Lib.bytesCells w 5 s, Lib.bytesWorld_at_new w 5 s, ?_, fun i hi => ?_⟩, Lib.bytesWorld_below w 5 s⟩
  · simp [Lib.bytesCells]
  · have hd : i < s.data.size := by simpa using hi
    have hs : i < s.size := hd
    simp [Lib.bytesCells, Array.getElem?_append, List.getD, hd, hs]
theorem byte_of {s : ByteArray} {i : Nat} (h : i < s.size) : ((s.data.toList.getD i 0).toNat : Int) = bt s i := by
  rw [← bt_at h]
  have hd : i < s.data.size := h
  have : s.data.toList.getD i 0 = s[i]'h := by
    rw [List.getD_eq_getElem?_getD, Array.getElem?_toList, Array.getElem?_eq_getElem hd]
    rfl
  rw [this]
set_option maxHeartbeats 4000000 in
set_option maxRecDepth 100000 in
theorem misread_law (a0 a1 a2 a3 : Int) (w : World) (ht : Tb w) (h0 : 0 ≤ a0 ∧ a0 ≤ 65535) (h1 : 0 ≤ a1 ∧ a1 ≤ 4294967295) (h2 : 0 ≤ a2 ∧ a2 ≤ 255) (h3 : 0 ≤ a3 ∧ a3 ≤ 255) : Calls Tryd.prog 9 #[.int .u16 a0, .int .u32 a1, .int .u8 a2, .int .u8 a3] w fun e w' => e = .returned (.bool true) ∧ Below w.heap.size w w' := by
  have ht0 := ht
  obtain ⟨a, ha⟩ : ∃ a : Nat, Int.tmod a0 1000 = (a : Int) ∧ a < 1000 := ⟨(a0 % 1000).toNat, by rw [Int.tmod_eq_emod_of_nonneg h0.1]; omega, by omega⟩
  obtain ⟨m, hm⟩ : ∃ m : Nat, Int.tmod a1 100000000 = (m : Int) ∧ m < 100000000 := ⟨(a1 % 100000000).toNat, by rw [Int.tmod_eq_emod_of_nonneg h1.1]; omega, by omega⟩
  obtain ⟨ha, ha3⟩ := ha
  obtain ⟨hm, hm8⟩ := hm
  have F0 : IntKind.i64.wrap a0 = a0 := IntWalk.i64_in _ (by omega)
  have F1 : IntKind.i64.wrap a1 = a1 := IntWalk.i64_in _ (by omega)
  have F2 : IntKind.i64.wrap (a : Int) = (a : Int) := IntWalk.i64_in _ (by omega)
  have F3 : IntKind.i64.wrap (m : Int) = (m : Int) := IntWalk.i64_in _ (by omega)
  obtain ⟨q2, hq2⟩ : ∃ q : Int, ((a / 100 : Nat) : Int) = q := ⟨_, rfl⟩
  obtain ⟨q1, hq1⟩ : ∃ q : Int, ((a / 10 : Nat) : Int) = q := ⟨_, rfl⟩
  obtain ⟨r1, hr1⟩ : ∃ q : Int, ((a / 10 % 10 : Nat) : Int) = q := ⟨_, rfl⟩
  obtain ⟨r0, hr0⟩ : ∃ q : Int, ((a % 10 : Nat) : Int) = q := ⟨_, rfl⟩
  have G2 : Int.tdiv (a : Int) 100 = q2 := by rw [Int.tdiv_eq_ediv_of_nonneg (by omega)]; omega
  have G1 : Int.tdiv (a : Int) 10 = q1 := by rw [Int.tdiv_eq_ediv_of_nonneg (by omega)]; omega
  have G3 : Int.tmod q1 10 = r1 := by rw [Int.tmod_eq_emod_of_nonneg (by omega)]; omega
  have G0 : Int.tmod (a : Int) 10 = r0 := by rw [Int.tmod_eq_emod_of_nonneg (by omega)]; omega
  have I2 : IntKind.i64.wrap q2 = q2 := IntWalk.i64_in _ (by omega)
  have I1 : IntKind.i64.wrap q1 = q1 := IntWalk.i64_in _ (by omega)
  have I3 : IntKind.i64.wrap r1 = r1 := IntWalk.i64_in _ (by omega)
  have I0 : IntKind.i64.wrap r0 = r0 := IntWalk.i64_in _ (by omega)
  have U2 : IntKind.u8.wrap q2 = q2 := IntWalk.u8_in _ (by omega)
  have U3 : IntKind.u8.wrap r1 = r1 := IntWalk.u8_in _ (by omega)
  have U0 : IntKind.u8.wrap r0 = r0 := IntWalk.u8_in _ (by omega)
  obtain ⟨x, hx⟩ : ∃ x, 48 + q2 = x := ⟨_, rfl⟩
  obtain ⟨y, hy⟩ : ∃ y, 48 + r1 = y := ⟨_, rfl⟩
  obtain ⟨z, hz⟩ : ∃ z, 48 + r0 = z := ⟨_, rfl⟩
  have V2 : IntKind.u8.wrap (48 + q2) = x := by rw [hx]; exact IntWalk.u8_in _ (by omega)
  have V3 : IntKind.u8.wrap (48 + r1) = y := by rw [hy]; exact IntWalk.u8_in _ (by omega)
  have V0 : IntKind.u8.wrap (48 + r0) = z := by rw [hz]; exact IntWalk.u8_in _ (by omega)
  have HCV := conv3 a ha3 (w.alloc (.cells #[.int .u8 x, .int .u8 y, .int .u8 z] 5)) x y z (by rw [hq2, hx]) (by rw [hr1, hy]) (by rw [hr0, hz]) w.heap.size (Bx.new _ _ _)
  have HAG := Lib.hid (agn_is a)
  obtain ⟨ag, hag⟩ : ∃ ag, agn a = ag := ⟨_, rfl⟩
  rw [hag] at HCV HAG
  have HMK := Lib.hid (mk_ok (ag := ag) (n := (m : Int)) HAG.out (by omega))
  rw [Int.toNat_natCast] at HMK
  have HTI := Lib.hid (tag_is (n := m) HAG.out)
  have HSZ := Lib.hid (tag_size (n := m) HAG.out)
  have HB := Lib.hid (b1 w (.cells #[.int .u8 x, .int .u8 y, .int .u8 z] 5))
  have HT := Lib.hid (ht.next HB.out)
  clear hq2 hq1 hr1 hr0 hx hy hz hag ht
  have HTW := Lib.hid ht0
  clear ht0
  obtain ⟨tg, htg⟩ : ∃ tg, tagOf ag m = tg := ⟨_, rfl⟩
  rw [htg] at HMK HTI HSZ
  have hsz12 : tg.size = 12 := HSZ.out
  have hszI : ((tg.size : Nat) : Int) = 12 := by omega
  have HLEN : Hid (tg.data.toList.length = 12) := Lib.hid (by rw [Array.length_toList]; exact hsz12)
  obtain ⟨k, hk⟩ : ∃ k : Nat, Int.tmod a2 12 = (k : Int) ∧ k < 12 := ⟨(a2 % 12).toNat, by rw [Int.tmod_eq_emod_of_nonneg h2.1]; omega, by omega⟩
  obtain ⟨hk, hk12⟩ := hk
  have K0 : IntKind.i64.wrap a2 = a2 := IntWalk.i64_in _ (by omega)
  have K1 : IntKind.i64.wrap (k : Int) = (k : Int) := IntWalk.i64_in _ (by omega)
  have hkI : (k : Int) < 12 := by omega
  have hk0 : (0 : Int) ≤ (k : Int) := by omega
  have hks : k < tg.size := by omega
  have hbt := bt_at hks
  have hdk := HTI.out.2.1 k hk12
  have hby := byte_of hks
  obtain ⟨xk, hxk⟩ : ∃ xk, bt tg k = xk := ⟨_, rfl⟩
  have HXK := Lib.hid hxk
  rw [hxk] at hbt hdk hby
  unfold Dg at hdk
  obtain ⟨r9, hr9⟩ : ∃ r9, Int.tmod a3 9 = r9 := ⟨_, rfl⟩
  have hr9b : 0 ≤ r9 ∧ r9 ≤ 8 := by rw [← hr9, Int.tmod_eq_emod_of_nonneg h3.1]; omega
  obtain ⟨t1, ht1⟩ : ∃ t, xk - 48 = t := ⟨_, rfl⟩
  obtain ⟨t2, ht2⟩ : ∃ t, t1 + 1 = t := ⟨_, rfl⟩
  obtain ⟨t3, ht3⟩ : ∃ t, t2 + r9 = t := ⟨_, rfl⟩
  obtain ⟨t4, ht4⟩ : ∃ t, Int.tmod t3 10 = t := ⟨_, rfl⟩
  obtain ⟨v, hv⟩ : ∃ v, 48 + t4 = v := ⟨_, rfl⟩
  have ht4b : t4 = t3 % 10 := by rw [← ht4, Int.tmod_eq_emod_of_nonneg (by omega)]
  have X0 : IntKind.u8.wrap (xk - 48) = t1 := by rw [ht1]; exact IntWalk.u8_in _ (by omega)
  have X1 : IntKind.u8.wrap (t1 + 1) = t2 := by rw [ht2]; exact IntWalk.u8_in _ (by omega)
  have X2 : IntKind.u8.wrap r9 = r9 := IntWalk.u8_in _ (by omega)
  have X3 : IntKind.u8.wrap (t2 + r9) = t3 := by rw [ht3]; exact IntWalk.u8_in _ (by omega)
  have X4 : IntKind.u8.wrap t4 = t4 := IntWalk.u8_in _ (by omega)
  have X5 : IntKind.u8.wrap (48 + t4) = v := by rw [hv]; exact IntWalk.u8_in _ (by omega)
  have hvb : 48 ≤ v ∧ v ≤ 57 ∧ v ≠ xk := by omega
  have hv8 : ((UInt8.ofNat v.toNat).toNat : Int) = v := by rw [UInt8.toNat_ofNat']; omega
  have HU8X : Hid (((UInt8.ofNat xk.toNat).toNat : Int) = xk) := Lib.hid (by rw [UInt8.toNat_ofNat']; omega)
  have HW1 := Lib.hid (ck_no (one_wrong (v := UInt8.ofNat v.toNat) HTI.out hk12 (by omega) (by rw [hv8, HXK.out]; exact hvb.2.2)))
  have HV8 := Lib.hid hv8
  clear htg hxk hr9b ht1 ht2 ht3 hv ht4b hvb hv8
  go_enter Tryd.func9, Tryd.ntmps9
  go_wp2_with fail
  refine (make18 ag m _ HT.out).mono ?_
  rintro e w1 ⟨rfl, hb⟩
  rw [HMK.out.1, HMK.out.2]
  replace HB := Lib.hid (upB HB.out hb)
  replace HT := Lib.hid (HT.out.next hb)
  clear hb
  obtain ⟨cap, W1, hcs, hbm, hbw⟩ := to_bytes tg w1 hsz12
  have hgw1 : w.heap.size ≤ w1.heap.size := HB.out.size
  have hb := hbw
  replace HB := Lib.hid (upB HB.out hb)
  replace HT := Lib.hid (HT.out.next hb)
  clear hb
  have hl12 : tg.data.toList.length = 12 := HLEN.out
  obtain ⟨g, hg⟩ : ∃ g, w1.heap.size = g := ⟨_, rfl⟩
  rw [hg] at hcs hbm hgw1
  have c0 := hbm.cell (i := k) (by omega)
  rw [hby] at c0
  have fr0 := hbm.free (i := k) (by omega)
  have hbs := hbm.set (i := k) (by omega) (v := v) HV8.out
  have hcb := hbs.conv (cap := cap) (by rw [List.length_set]; omega)
  have hlg := hbm.lt
  have HB2 : Hid (Below w.heap.size w (W1.setCell ⟨g, k, none⟩ (.int .u8 v))) := Lib.hid (HB.out.setCell (p := ⟨g, k, none⟩) hgw1 _)
  have HT2 : Hid (Tb (W1.setCell ⟨g, k, none⟩ (.int .u8 v))) := Lib.hid (HTW.out.next HB2.out)
  clear hbm hbs hg hbw hby hl12
  go_wp2_with fail
  refine (check15 _ _).mono ?_
  rintro e w3 ⟨rfl, hb⟩
  rw [HW1.out]
  replace HB := Lib.hid (upB HB2.out hb)
  replace HT := Lib.hid (HT2.out.next hb)
  clear hb hcs c0 fr0 hcb hlg
  by_cases hk11 : k = 11
  · have e1 : ((k : Int) == 11) = true := by simp [hk11]
    clear hk11
    go_wp2_with fail
    go_quiet (fail)
    have hb := below_drewN (Below.refl w3.heap.size w3) nq
    generalize w3.drewN nq = w4 at hb ⊢
    replace HB := Lib.hid (upB HB.out hb)
    replace HT := Lib.hid (HT.out.next hb)
    clear hb
    go_wp2_with fail
    refine (alive17 _ HT.out).mono ?_
    rintro e w99 ⟨rfl, hb⟩
    replace HB := Lib.hid (upB HB.out hb)
    clear hb
    go_wp2_with fail
    go_ret
    exact ⟨rfl, HB.out⟩
  · have e1 : ((k : Int) == 11) = false := by simp; omega
    have hk1 : k + 1 < 12 := by omega
    have K2 : IntKind.i64.wrap ((k : Int) + 1) = (k : Int) + 1 := IntWalk.i64_in _ (by omega)
    have hk1I : (k : Int) + 1 < 12 := by omega
    have hk10 : (0 : Int) ≤ (k : Int) + 1 := by omega
    have T1 : ((k : Int) + 1).toNat = k + 1 := by omega
    have hks1 : k + 1 < tg.size := by omega
    have hbt1 := bt_at hks1
    have hdk1 := HTI.out.2.1 (k + 1) hk1
    obtain ⟨yk, hyk⟩ : ∃ yk, bt tg (k + 1) = yk := ⟨_, rfl⟩
    have HYK := Lib.hid hyk
    rw [hyk] at hbt1 hdk1
    unfold Dg at hdk1
    have HU8Y : Hid (((UInt8.ofNat yk.toNat).toNat : Int) = yk) := Lib.hid (by rw [UInt8.toNat_ofNat']; omega)
    clear hyk
    by_cases hxy : xk = yk
    · have e2 : (xk == yk) = true := by simp [hxy]
      clear hxy
      go_wp2_with fail
      go_quiet (fail)
      have hb := below_drewN (Below.refl w3.heap.size w3) nq
      generalize w3.drewN nq = w4 at hb ⊢
      replace HB := Lib.hid (upB HB.out hb)
      replace HT := Lib.hid (HT.out.next hb)
      clear hb
      go_wp2_with fail
      refine (alive17 _ HT.out).mono ?_
      rintro e w99 ⟨rfl, hb⟩
      replace HB := Lib.hid (upB HB.out hb)
      clear hb
      go_wp2_with fail
      go_ret
      exact ⟨rfl, HB.out⟩
    · have e2 : (xk == yk) = false := by simp [hxy]
      by_cases hx0 : xk = 48
      · have e3 : (xk == 48) = true := by simp [hx0]
        have e5 : (xk == 57) = false := by simp; omega
        by_cases hy9 : yk = 57
        · have e4 : (yk == 57) = true := by simp [hy9]
          clear hxy hx0 hy9
          go_wp2_with fail
          go_quiet (fail)
          have hb := below_drewN (Below.refl w3.heap.size w3) nq
          generalize w3.drewN nq = w4 at hb ⊢
          replace HB := Lib.hid (upB HB.out hb)
          replace HT := Lib.hid (HT.out.next hb)
          clear hb
          go_wp2_with fail
          refine (alive17 _ HT.out).mono ?_
          rintro e w99 ⟨rfl, hb⟩
          replace HB := Lib.hid (upB HB.out hb)
          clear hb
          go_wp2_with fail
          go_ret
          exact ⟨rfl, HB.out⟩
        · have e4 : (yk == 57) = false := by simp [hy9]
          have h09 : ¬ (xk = 48 ∧ yk = 57) := fun h => hy9 h.2
          have h90 : ¬ (xk = 57 ∧ yk = 48) := by omega
          have HB4 := HB
          as_aux_lemma =>
            have HXW := Lib.hid (ck_no (exchanged HTI.out hk1 (u := UInt8.ofNat yk.toNat) (v := UInt8.ofNat xk.toNat) (by rw [HYK.out]; exact HU8Y.out) (by rw [HXK.out]; exact HU8X.out) (by rw [HXK.out, HYK.out]; exact hxy) (by rw [HXK.out, HYK.out]; exact h09) (by rw [HXK.out, HYK.out]; exact h90)))
            clear hxy h09 h90
            try clear hx0
            try clear hx9
            try clear hy9
            try clear hy0
            go_wp2_with fail
            go_quiet (fail)
            have hb := below_drewN (Below.refl w3.heap.size w3) nq
            generalize w3.drewN nq = w4 at hb ⊢
            replace HB := Lib.hid (upB HB.out hb)
            replace HT := Lib.hid (HT.out.next hb)
            clear hb
            obtain ⟨cap2, W4, hcs2, hbm2, hbw2⟩ := to_bytes tg w4 hsz12
            have hsw4 := HB.out.size
            have hb := hbw2
            replace HB := Lib.hid (upB HB.out hb)
            replace HT := Lib.hid (HT.out.next hb)
            clear hb
            have hl12 : tg.data.toList.length = 12 := HLEN.out
            obtain ⟨gc, hgc⟩ : ∃ gc, w4.heap.size = gc := ⟨_, rfl⟩
            rw [hgc] at hcs2 hbm2
            have hgw : w.heap.size ≤ gc := by rw [← hgc]; exact hsw4
            have m0 := hbm2.cell (i := k) (by omega)
            have f0 := hbm2.free (i := k) (by omega)
            have hbs1 := hbm2.set (i := k) (by omega) (v := yk) HU8Y.out
            have m1 := hbs1.cell (i := k + 1) (by rw [List.length_set]; omega)
            have f1 := hbs1.free (i := k + 1) (by rw [List.length_set]; omega)
            have hbs2 := hbs1.set (i := k + 1) (by rw [List.length_set]; omega) (v := xk) HU8X.out
            have hcb2 := hbs2.conv (cap := cap2) (by rw [List.length_set, List.length_set]; omega)
            have hlg := hbm2.lt
            have hlg1 := hbs1.lt
            have HB5 : Hid (Below w.heap.size w ((W4.setCell ⟨gc, k, none⟩ (.int .u8 yk)).setCell ⟨gc, k + 1, none⟩ (.int .u8 xk))) := Lib.hid ((HB.out.setCell (p := ⟨gc, k, none⟩) hgw _).setCell (p := ⟨gc, k + 1, none⟩) hgw _)
            have HT5 : Hid (Tb ((W4.setCell ⟨gc, k, none⟩ (.int .u8 yk)).setCell ⟨gc, k + 1, none⟩ (.int .u8 xk))) := Lib.hid (HTW.out.next HB5.out)
            clear hbm2 hbs1 hbs2 hgc hbw2
            go_wp2_with fail
            refine (check15 _ _).mono ?_
            rintro e w6 ⟨rfl, hb⟩
            rw [HXW.out]
            replace HB := Lib.hid (upB HB5.out hb)
            replace HT := Lib.hid (HT5.out.next hb)
            clear hb
            go_wp2_with fail
            refine (alive17 _ HT.out).mono ?_
            rintro e w99 ⟨rfl, hb⟩
            replace HB := Lib.hid (upB HB.out hb)
            clear hb
            go_wp2_with fail
            go_ret
            exact ⟨rfl, HB.out⟩
      · have e3 : (xk == 48) = false := by simp [hx0]
        have h09 : ¬ (xk = 48 ∧ yk = 57) := fun h => hx0 h.1
        by_cases hx9 : xk = 57
        · have e5 : (xk == 57) = true := by simp [hx9]
          by_cases hy0 : yk = 48
          · have e6 : (yk == 48) = true := by simp [hy0]
            clear hxy hx0 hx9 hy0
            go_wp2_with fail
            go_quiet (fail)
            have hb := below_drewN (Below.refl w3.heap.size w3) nq
            generalize w3.drewN nq = w4 at hb ⊢
            replace HB := Lib.hid (upB HB.out hb)
            replace HT := Lib.hid (HT.out.next hb)
            clear hb
            go_wp2_with fail
            refine (alive17 _ HT.out).mono ?_
            rintro e w99 ⟨rfl, hb⟩
            replace HB := Lib.hid (upB HB.out hb)
            clear hb
            go_wp2_with fail
            go_ret
            exact ⟨rfl, HB.out⟩
          · have e6 : (yk == 48) = false := by simp [hy0]
            have h90 : ¬ (xk = 57 ∧ yk = 48) := fun h => hy0 h.2
            have HB4 := HB
            as_aux_lemma =>
              have HXW := Lib.hid (ck_no (exchanged HTI.out hk1 (u := UInt8.ofNat yk.toNat) (v := UInt8.ofNat xk.toNat) (by rw [HYK.out]; exact HU8Y.out) (by rw [HXK.out]; exact HU8X.out) (by rw [HXK.out, HYK.out]; exact hxy) (by rw [HXK.out, HYK.out]; exact h09) (by rw [HXK.out, HYK.out]; exact h90)))
              clear hxy h09 h90
              try clear hx0
              try clear hx9
              try clear hy9
              try clear hy0
              go_wp2_with fail
              go_quiet (fail)
              have hb := below_drewN (Below.refl w3.heap.size w3) nq
              generalize w3.drewN nq = w4 at hb ⊢
              replace HB := Lib.hid (upB HB.out hb)
              replace HT := Lib.hid (HT.out.next hb)
              clear hb
              obtain ⟨cap2, W4, hcs2, hbm2, hbw2⟩ := to_bytes tg w4 hsz12
              have hsw4 := HB.out.size
              have hb := hbw2
              replace HB := Lib.hid (upB HB.out hb)
              replace HT := Lib.hid (HT.out.next hb)
              clear hb
              have hl12 : tg.data.toList.length = 12 := HLEN.out
              obtain ⟨gc, hgc⟩ : ∃ gc, w4.heap.size = gc := ⟨_, rfl⟩
              rw [hgc] at hcs2 hbm2
              have hgw : w.heap.size ≤ gc := by rw [← hgc]; exact hsw4
              have m0 := hbm2.cell (i := k) (by omega)
              have f0 := hbm2.free (i := k) (by omega)
              have hbs1 := hbm2.set (i := k) (by omega) (v := yk) HU8Y.out
              have m1 := hbs1.cell (i := k + 1) (by rw [List.length_set]; omega)
              have f1 := hbs1.free (i := k + 1) (by rw [List.length_set]; omega)
              have hbs2 := hbs1.set (i := k + 1) (by rw [List.length_set]; omega) (v := xk) HU8X.out
              have hcb2 := hbs2.conv (cap := cap2) (by rw [List.length_set, List.length_set]; omega)
              have hlg := hbm2.lt
              have hlg1 := hbs1.lt
              have HB5 : Hid (Below w.heap.size w ((W4.setCell ⟨gc, k, none⟩ (.int .u8 yk)).setCell ⟨gc, k + 1, none⟩ (.int .u8 xk))) := Lib.hid ((HB.out.setCell (p := ⟨gc, k, none⟩) hgw _).setCell (p := ⟨gc, k + 1, none⟩) hgw _)
              have HT5 : Hid (Tb ((W4.setCell ⟨gc, k, none⟩ (.int .u8 yk)).setCell ⟨gc, k + 1, none⟩ (.int .u8 xk))) := Lib.hid (HTW.out.next HB5.out)
              clear hbm2 hbs1 hbs2 hgc hbw2
              go_wp2_with fail
              refine (check15 _ _).mono ?_
              rintro e w6 ⟨rfl, hb⟩
              rw [HXW.out]
              replace HB := Lib.hid (upB HB5.out hb)
              replace HT := Lib.hid (HT5.out.next hb)
              clear hb
              go_wp2_with fail
              refine (alive17 _ HT.out).mono ?_
              rintro e w99 ⟨rfl, hb⟩
              replace HB := Lib.hid (upB HB.out hb)
              clear hb
              go_wp2_with fail
              go_ret
              exact ⟨rfl, HB.out⟩
        · have e5 : (xk == 57) = false := by simp [hx9]
          have h90 : ¬ (xk = 57 ∧ yk = 48) := fun h => hx9 h.1
          have HB4 := HB
          as_aux_lemma =>
            have HXW := Lib.hid (ck_no (exchanged HTI.out hk1 (u := UInt8.ofNat yk.toNat) (v := UInt8.ofNat xk.toNat) (by rw [HYK.out]; exact HU8Y.out) (by rw [HXK.out]; exact HU8X.out) (by rw [HXK.out, HYK.out]; exact hxy) (by rw [HXK.out, HYK.out]; exact h09) (by rw [HXK.out, HYK.out]; exact h90)))
            clear hxy h09 h90
            try clear hx0
            try clear hx9
            try clear hy9
            try clear hy0
            go_wp2_with fail
            go_quiet (fail)
            have hb := below_drewN (Below.refl w3.heap.size w3) nq
            generalize w3.drewN nq = w4 at hb ⊢
            replace HB := Lib.hid (upB HB.out hb)
            replace HT := Lib.hid (HT.out.next hb)
            clear hb
            obtain ⟨cap2, W4, hcs2, hbm2, hbw2⟩ := to_bytes tg w4 hsz12
            have hsw4 := HB.out.size
            have hb := hbw2
            replace HB := Lib.hid (upB HB.out hb)
            replace HT := Lib.hid (HT.out.next hb)
            clear hb
            have hl12 : tg.data.toList.length = 12 := HLEN.out
            obtain ⟨gc, hgc⟩ : ∃ gc, w4.heap.size = gc := ⟨_, rfl⟩
            rw [hgc] at hcs2 hbm2
            have hgw : w.heap.size ≤ gc := by rw [← hgc]; exact hsw4
            have m0 := hbm2.cell (i := k) (by omega)
            have f0 := hbm2.free (i := k) (by omega)
            have hbs1 := hbm2.set (i := k) (by omega) (v := yk) HU8Y.out
            have m1 := hbs1.cell (i := k + 1) (by rw [List.length_set]; omega)
            have f1 := hbs1.free (i := k + 1) (by rw [List.length_set]; omega)
            have hbs2 := hbs1.set (i := k + 1) (by rw [List.length_set]; omega) (v := xk) HU8X.out
            have hcb2 := hbs2.conv (cap := cap2) (by rw [List.length_set, List.length_set]; omega)
            have hlg := hbm2.lt
            have hlg1 := hbs1.lt
            have HB5 : Hid (Below w.heap.size w ((W4.setCell ⟨gc, k, none⟩ (.int .u8 yk)).setCell ⟨gc, k + 1, none⟩ (.int .u8 xk))) := Lib.hid ((HB.out.setCell (p := ⟨gc, k, none⟩) hgw _).setCell (p := ⟨gc, k + 1, none⟩) hgw _)
            have HT5 : Hid (Tb ((W4.setCell ⟨gc, k, none⟩ (.int .u8 yk)).setCell ⟨gc, k + 1, none⟩ (.int .u8 xk))) := Lib.hid (HTW.out.next HB5.out)
            clear hbm2 hbs1 hbs2 hgc hbw2
            go_wp2_with fail
            refine (check15 _ _).mono ?_
            rintro e w6 ⟨rfl, hb⟩
            rw [HXW.out]
            replace HB := Lib.hid (upB HB5.out hb)
            replace HT := Lib.hid (HT5.out.next hb)
            clear hb
            go_wp2_with fail
            refine (alive17 _ HT.out).mono ?_
            rintro e w99 ⟨rfl, hb⟩
            replace HB := Lib.hid (upB HB.out hb)
            clear hb
            go_wp2_with fail
            go_ret
            exact ⟨rfl, HB.out⟩
end Go.Proofs.YtgghnamjjgmimaaDoor.Wk
